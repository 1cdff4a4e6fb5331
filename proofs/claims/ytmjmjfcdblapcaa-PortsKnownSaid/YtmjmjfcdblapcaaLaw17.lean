/- The calls as the statements make them; at, awake. -/
import Derived.Test.YtmjmjfcdblapcaaPt9
import Derived.Deep.Cut
namespace Go.Proofs.Ytmjmjfcdblapcaa
open Go.RowKit

def atA (k : Int) : Ad4 := ⟨10, 0, 0, byteOf k⟩
theorem Ts.adv_no {s : Ts} {t : Int} (h : ¬ s.now < t) : s.adv t = s := by
  unfold Ts.adv
  rw [if_neg (by omega)]
theorem Ts.adv_yes {s : Ts} {t : Int} (h : s.now < t) (h2 : t ≤ 1099511627776) : s.adv t = advS s t := by
  unfold Ts.adv
  rw [if_pos ⟨h, h2⟩]
theorem mk_own {lo gt : Nat} {s s1 s2 : Ts} {pr p sc un t : Int} {ad : Ad4} (w : World) (hT : Tp lo gt w s) (ha : s.adv t = s1) (hpb : portB pr p = true) (hsc : secsB sc = true) (hu : s1.now + sc = un) (hbf : bestF pr ad p s1.l s1.l.length = none) (hr : (s1.l.length : Int) < s1.rm) (h1 : s1.lw ≤ p) (hf : mfhas s1.l (kn pr p) = false) (h2 : (⟨s1.lw, s1.rm, s1.now, mins s1.l ⟨pr, p, ad, p, 1, un⟩, odel s1.os (kn pr p)⟩ : Ts) = s2) : Calls Try.prog 13 #[.pointer (some ⟨gt, 0, none⟩), .agg #[.int .i64 pr, .int .u8 (ad.a.toNat : Int), .int .u8 (ad.b.toNat : Int), .int .u8 (ad.c.toNat : Int), .int .u8 (ad.d.toNat : Int), .int .i64 p], .int .i64 t, .int .i64 sc] w fun e w' => e = .returned (.tuple #[.agg #[.int .i64 pr, .int .i64 p, .int .u8 (ad.a.toNat : Int), .int .u8 (ad.b.toNat : Int), .int .u8 (ad.c.toNat : Int), .int .u8 (ad.d.toNat : Int), .int .i64 p, .int .i64 1, .int .i64 un], .int .i64 0]) ∧ Tp lo gt w' s2 ∧ Fap gt w w' ∧ Below lo w w' := by
  have hok : s1.ok := ha ▸ hT.ok.adv t
  obtain ⟨lw, rm, now, l, os⟩ := s1
  subst h2
  exact tmake_new t w hT ha hpb hsc hu hbf (fop_own hok.srt hok.okp (portB_ok hpb) h1 hf) hr (portB_ok hpb) hf
theorem mk_least {lo gt : Nat} {s s1 s2 : Ts} {q pr p sc un t : Int} {ad : Ad4} (w : World) (hT : Tp lo gt w s) (ha : s.adv t = s1) (hpb : portB pr p = true) (hsc : secsB sc = true) (hu : s1.now + sc = un) (hbf : bestF pr ad p s1.l s1.l.length = none) (hr : (s1.l.length : Int) < s1.rm) (hp : s1.lw ≤ p → mfhas s1.l (kn pr p) = true) (hq1 : s1.lw ≤ q) (hq2 : q ≤ 65535) (hall : ∀ o, s1.lw ≤ o → o < q → mfhas s1.l (kn pr o) = true) (hno : mfhas s1.l (kn pr q) = false) (h2 : (⟨s1.lw, s1.rm, s1.now, mins s1.l ⟨pr, q, ad, p, 1, un⟩, odel s1.os (kn pr q)⟩ : Ts) = s2) : Calls Try.prog 13 #[.pointer (some ⟨gt, 0, none⟩), .agg #[.int .i64 pr, .int .u8 (ad.a.toNat : Int), .int .u8 (ad.b.toNat : Int), .int .u8 (ad.c.toNat : Int), .int .u8 (ad.d.toNat : Int), .int .i64 p], .int .i64 t, .int .i64 sc] w fun e w' => e = .returned (.tuple #[.agg #[.int .i64 pr, .int .i64 q, .int .u8 (ad.a.toNat : Int), .int .u8 (ad.b.toNat : Int), .int .u8 (ad.c.toNat : Int), .int .u8 (ad.d.toNat : Int), .int .i64 p, .int .i64 1, .int .i64 un], .int .i64 0]) ∧ Tp lo gt w' s2 ∧ Fap gt w w' ∧ Below lo w w' := by
  have hok : s1.ok := ha ▸ hT.ok.adv t
  obtain ⟨lw, rm, now, l, os⟩ := s1
  subst h2
  have hpo := portB_ok hpb
  have hl0 := hok.l0
  simp only at hl0 hq1
  exact tmake_new t w hT ha hpb hsc hu hbf (fop_least hok.srt hok.okp (by show 0 ≤ lw; omega) hq1 hq2 ⟨hpo.1, hpo.2.1⟩ (fun h => ⟨hpo, hp h⟩) hall hno) hr ⟨hpo.1, hpo.2.1, by omega, hq2⟩ hno
theorem mk_old {lo gt : Nat} {s s1 s2 : Ts} {xp xo xi xk xu pr p sc un t : Int} {xa ad : Ad4} {i : Nat} (w : World) (hT : Tp lo gt w s) (ha : s.adv t = s1) (hpb : portB pr p = true) (hsc : secsB sc = true) (hu : s1.now + sc = un) (hbf : bestF pr ad p s1.l s1.l.length = some i) (hx : s1.l[i]? = some ⟨xp, xo, xa, xi, xk, xu⟩) (hk : (xk == 1) = true) (h2 : (⟨s1.lw, s1.rm, s1.now, s1.l.set i ⟨xp, xo, xa, xi, xk, un⟩, s1.os⟩ : Ts) = s2) : Calls Try.prog 13 #[.pointer (some ⟨gt, 0, none⟩), .agg #[.int .i64 pr, .int .u8 (ad.a.toNat : Int), .int .u8 (ad.b.toNat : Int), .int .u8 (ad.c.toNat : Int), .int .u8 (ad.d.toNat : Int), .int .i64 p], .int .i64 t, .int .i64 sc] w fun e w' => e = .returned (.tuple #[.agg #[.int .i64 xp, .int .i64 xo, .int .u8 (xa.a.toNat : Int), .int .u8 (xa.b.toNat : Int), .int .u8 (xa.c.toNat : Int), .int .u8 (xa.d.toNat : Int), .int .i64 xi, .int .i64 xk, .int .i64 un], .int .i64 0]) ∧ Tp lo gt w' s2 ∧ Fap gt w w' ∧ Below lo w w' := by
  have hok : s1.ok := ha ▸ hT.ok.adv t
  obtain ⟨lw, rm, now, l, os⟩ := s1
  subst h2
  exact tmake_old t w hT ha hpb hsc hu hbf hx hk
theorem mk_full {lo gt : Nat} {s s1 : Ts} {pr p sc un t : Int} {ad : Ad4} (w : World) (hT : Tp lo gt w s) (ha : s.adv t = s1) (hpb : portB pr p = true) (hsc : secsB sc = true) (hu : s1.now + sc = un) (hbf : bestF pr ad p s1.l s1.l.length = none) (hr : s1.rm ≤ (s1.l.length : Int))  : Calls Try.prog 13 #[.pointer (some ⟨gt, 0, none⟩), .agg #[.int .i64 pr, .int .u8 (ad.a.toNat : Int), .int .u8 (ad.b.toNat : Int), .int .u8 (ad.c.toNat : Int), .int .u8 (ad.d.toNat : Int), .int .i64 p], .int .i64 t, .int .i64 sc] w fun e w' => e = .returned (.tuple #[.agg #[.int .i64 0, .int .i64 0, .int .u8 0, .int .u8 0, .int .u8 0, .int .u8 0, .int .i64 0, .int .i64 0, .int .i64 0], .int .i64 7]) ∧ Tp lo gt w' s1 ∧ Fap gt w w' ∧ Below lo w w' := by
  have hok : s1.ok := ha ▸ hT.ok.adv t
  obtain ⟨lw, rm, now, l, os⟩ := s1
  have hl0 := hok.l0
  have hl1 := hok.l1
  simp only at hl0 hl1
  rcases fop_any (lw := lw) (p := p) ad hok.srt hok.okp (by show 0 ≤ lw; omega) (by show lw ≤ 65535; omega) (portB_ok hpb) with ⟨q, h1, _⟩ | h1
  · exact tmake_full t w hT ha hpb hsc hu hbf h1 hr
  · exact tmake_full t w hT ha hpb hsc hu hbf h1 hr
theorem pt_arg {lo gt : Nat} {s s1 : Ts} {mp mo mi mk mu t : Int} {ma : Ad4} (w : World) (hT : Tp lo gt w s) (ha : s.adv t = s1) (hpm : permB ⟨mp, mo, ma, mi, mk, mu⟩ = false) : Calls Try.prog 12 #[.pointer (some ⟨gt, 0, none⟩), .agg #[.int .i64 mp, .int .i64 mo, .int .u8 (ma.a.toNat : Int), .int .u8 (ma.b.toNat : Int), .int .u8 (ma.c.toNat : Int), .int .u8 (ma.d.toNat : Int), .int .i64 mi, .int .i64 mk, .int .i64 mu], .int .i64 t] w fun e w' => e = .returned (.int .i64 1) ∧ Tp lo gt w' s1 ∧ Fap gt w w' ∧ Below lo w w' := by
  have hok : s1.ok := ha ▸ hT.ok.adv t
  obtain ⟨lw, rm, now, l, os⟩ := s1
  exact tput_1 (m := ⟨mp, mo, ma, mi, mk, mu⟩) t w hT ha hpm
theorem pt_arg2 {lo gt : Nat} {s s1 : Ts} {mp mo mi mk mu t : Int} {ma : Ad4} (w : World) (hT : Tp lo gt w s) (ha : s.adv t = s1) (hpm : permB ⟨mp, mo, ma, mi, mk, mu⟩ = true) (hlv : liveB s1.now ⟨mp, mo, ma, mi, mk, mu⟩ = false) : Calls Try.prog 12 #[.pointer (some ⟨gt, 0, none⟩), .agg #[.int .i64 mp, .int .i64 mo, .int .u8 (ma.a.toNat : Int), .int .u8 (ma.b.toNat : Int), .int .u8 (ma.c.toNat : Int), .int .u8 (ma.d.toNat : Int), .int .i64 mi, .int .i64 mk, .int .i64 mu], .int .i64 t] w fun e w' => e = .returned (.int .i64 1) ∧ Tp lo gt w' s1 ∧ Fap gt w w' ∧ Below lo w w' := by
  have hok : s1.ok := ha ▸ hT.ok.adv t
  obtain ⟨lw, rm, now, l, os⟩ := s1
  exact tput_2 (m := ⟨mp, mo, ma, mi, mk, mu⟩) t w hT ha hpm hlv
theorem pt_full {lo gt : Nat} {s s1 : Ts} {mp mo mi mk mu t : Int} {ma : Ad4} (w : World) (hT : Tp lo gt w s) (ha : s.adv t = s1) (hpm : permB ⟨mp, mo, ma, mi, mk, mu⟩ = true) (hlv : liveB s1.now ⟨mp, mo, ma, mi, mk, mu⟩ = true) (hf : mfhas s1.l (kn mp mo) = false) (hr : s1.rm ≤ (s1.l.length : Int)) : Calls Try.prog 12 #[.pointer (some ⟨gt, 0, none⟩), .agg #[.int .i64 mp, .int .i64 mo, .int .u8 (ma.a.toNat : Int), .int .u8 (ma.b.toNat : Int), .int .u8 (ma.c.toNat : Int), .int .u8 (ma.d.toNat : Int), .int .i64 mi, .int .i64 mk, .int .i64 mu], .int .i64 t] w fun e w' => e = .returned (.int .i64 7) ∧ Tp lo gt w' s1 ∧ Fap gt w w' ∧ Below lo w w' := by
  have hok : s1.ok := ha ▸ hT.ok.adv t
  obtain ⟨lw, rm, now, l, os⟩ := s1
  exact tput_full (m := ⟨mp, mo, ma, mi, mk, mu⟩) t w hT ha hpm hlv hf hr
theorem pt_new {lo gt : Nat} {s s1 s2 : Ts} {mp mo mi mk mu t : Int} {ma : Ad4} (w : World) (hT : Tp lo gt w s) (ha : s.adv t = s1) (hpm : permB ⟨mp, mo, ma, mi, mk, mu⟩ = true) (hlv : liveB s1.now ⟨mp, mo, ma, mi, mk, mu⟩ = true) (hf : mfhas s1.l (kn mp mo) = false) (hr : (s1.l.length : Int) < s1.rm) (h2 : (⟨s1.lw, s1.rm, s1.now, mins s1.l ⟨mp, mo, ma, mi, mk, mu⟩, odel s1.os (kn mp mo)⟩ : Ts) = s2) : Calls Try.prog 12 #[.pointer (some ⟨gt, 0, none⟩), .agg #[.int .i64 mp, .int .i64 mo, .int .u8 (ma.a.toNat : Int), .int .u8 (ma.b.toNat : Int), .int .u8 (ma.c.toNat : Int), .int .u8 (ma.d.toNat : Int), .int .i64 mi, .int .i64 mk, .int .i64 mu], .int .i64 t] w fun e w' => e = .returned (.int .i64 0) ∧ Tp lo gt w' s2 ∧ Fap gt w w' ∧ Below lo w w' := by
  have hok : s1.ok := ha ▸ hT.ok.adv t
  obtain ⟨lw, rm, now, l, os⟩ := s1
  subst h2
  exact tput_new (m := ⟨mp, mo, ma, mi, mk, mu⟩) t w hT ha hpm hlv hf hr
theorem pt_tak {lo gt : Nat} {s s1 : Ts} {mp mo mi mk mu t : Int} {ma : Ad4} {xp xo xi xk xu : Int} {xa : Ad4} {i : Nat} (w : World) (hT : Tp lo gt w s) (ha : s.adv t = s1) (hpm : permB ⟨mp, mo, ma, mi, mk, mu⟩ = true) (hlv : liveB s1.now ⟨mp, mo, ma, mi, mk, mu⟩ = true) (hf : mfhas s1.l (kn mp mo) = true) (hq : mfpos s1.l (kn mp mo) = i) (hx : s1.l[i]? = some ⟨xp, xo, xa, xi, xk, xu⟩) (hex : extB ⟨mp, mo, ma, mi, mk, mu⟩ ⟨xp, xo, xa, xi, xk, xu⟩ = false)  : Calls Try.prog 12 #[.pointer (some ⟨gt, 0, none⟩), .agg #[.int .i64 mp, .int .i64 mo, .int .u8 (ma.a.toNat : Int), .int .u8 (ma.b.toNat : Int), .int .u8 (ma.c.toNat : Int), .int .u8 (ma.d.toNat : Int), .int .i64 mi, .int .i64 mk, .int .i64 mu], .int .i64 t] w fun e w' => e = .returned (.int .i64 8) ∧ Tp lo gt w' s1 ∧ Fap gt w w' ∧ Below lo w w' := by
  have hok : s1.ok := ha ▸ hT.ok.adv t
  obtain ⟨lw, rm, now, l, os⟩ := s1
  exact tput_tak (m := ⟨mp, mo, ma, mi, mk, mu⟩) t w hT ha hpm hlv hf hq hx hex
theorem pt_ext {lo gt : Nat} {s s1 s2 : Ts} {mp mo mi mk mu t : Int} {ma : Ad4} {xp xo xi xk xu : Int} {xa : Ad4} {i : Nat} (w : World) (hT : Tp lo gt w s) (ha : s.adv t = s1) (hpm : permB ⟨mp, mo, ma, mi, mk, mu⟩ = true) (hlv : liveB s1.now ⟨mp, mo, ma, mi, mk, mu⟩ = true) (hf : mfhas s1.l (kn mp mo) = true) (hq : mfpos s1.l (kn mp mo) = i) (hx : s1.l[i]? = some ⟨xp, xo, xa, xi, xk, xu⟩) (hex : extB ⟨mp, mo, ma, mi, mk, mu⟩ ⟨xp, xo, xa, xi, xk, xu⟩ = true) (h2 : (⟨s1.lw, s1.rm, s1.now, s1.l.set i ⟨xp, xo, xa, xi, xk, mu⟩, s1.os⟩ : Ts) = s2) : Calls Try.prog 12 #[.pointer (some ⟨gt, 0, none⟩), .agg #[.int .i64 mp, .int .i64 mo, .int .u8 (ma.a.toNat : Int), .int .u8 (ma.b.toNat : Int), .int .u8 (ma.c.toNat : Int), .int .u8 (ma.d.toNat : Int), .int .i64 mi, .int .i64 mk, .int .i64 mu], .int .i64 t] w fun e w' => e = .returned (.int .i64 0) ∧ Tp lo gt w' s2 ∧ Fap gt w w' ∧ Below lo w w' := by
  have hok : s1.ok := ha ▸ hT.ok.adv t
  obtain ⟨lw, rm, now, l, os⟩ := s1
  subst h2
  exact tput_ext (m := ⟨mp, mo, ma, mi, mk, mu⟩) t w hT ha hpm hlv hf hq hx hex
theorem in_none {lo gt : Nat} {s s1 : Ts} {p o t : Int} (w : World) (hT : Tp lo gt w s) (ha : s.adv t = s1) (hpo : okP p o) (hf : mfhas s1.l (kn p o) = false) : Calls Try.prog 19 #[.pointer (some ⟨gt, 0, none⟩), .int .i64 p, .int .i64 o, .int .i64 t] w fun e w' => e = .returned (.tuple #[.agg #[.int .i64 0, .int .i64 0, .int .u8 0, .int .u8 0, .int .u8 0, .int .u8 0, .int .i64 0, .int .i64 0, .int .i64 0], .bool false]) ∧ Tp lo gt w' s1 ∧ Fap gt w w' ∧ Below lo w w' := by
  obtain ⟨lw, rm, now, l, os⟩ := s1
  exact tin_none t w hT ha hpo hf
theorem in_some {lo gt : Nat} {s s1 : Ts} {p o t : Int} {xp xo xi xk xu : Int} {xa : Ad4} {i : Nat} (w : World) (hT : Tp lo gt w s) (ha : s.adv t = s1) (hpo : okP p o) (hf : mfhas s1.l (kn p o) = true) (hq : mfpos s1.l (kn p o) = i) (hx : s1.l[i]? = some ⟨xp, xo, xa, xi, xk, xu⟩) : Calls Try.prog 19 #[.pointer (some ⟨gt, 0, none⟩), .int .i64 p, .int .i64 o, .int .i64 t] w fun e w' => e = .returned (.tuple #[.agg #[.int .i64 xp, .int .i64 xo, .int .u8 (xa.a.toNat : Int), .int .u8 (xa.b.toNat : Int), .int .u8 (xa.c.toNat : Int), .int .u8 (xa.d.toNat : Int), .int .i64 xi, .int .i64 xk, .int .i64 xu], .bool true]) ∧ Tp lo gt w' s1 ∧ Fap gt w w' ∧ Below lo w w' := by
  obtain ⟨lw, rm, now, l, os⟩ := s1
  exact tin_some t w hT ha hpo hf hq hx
theorem len_is {lo gt : Nat} {s s1 : Ts} {t n : Int} (w : World) (hT : Tp lo gt w s) (ha : s.adv t = s1) (hn : (s1.l.length : Int) = n) : Calls Try.prog 17 #[.pointer (some ⟨gt, 0, none⟩), .int .i64 t] w fun e w' => e = .returned (.int .i64 n) ∧ Tp lo gt w' s1 ∧ Fap gt w w' ∧ Below lo w w' := by
  obtain ⟨lw, rm, now, l, os⟩ := s1
  subst hn
  exact tlen_any t w hT ha
set_option linter.unusedVariables false in
set_option linter.unusedSimpArgs false in
set_option maxRecDepth 100000 in
set_option maxHeartbeats 16000000 in
theorem at_k (k : Int) (w : World) : Calls Try.prog 11 #[.int .i64 k] w fun e w' => e = .returned (.agg #[.int .u8 ((atA k).a.toNat : Int), .int .u8 ((atA k).b.toNat : Int), .int .u8 ((atA k).c.toNat : Int), .int .u8 ((atA k).d.toNat : Int)]) ∧ Below w.heap.size w w' := by
  have bel := Below.refl w.heap.size w
  go_enter Try.func11, Try.ntmps11
  go_wp2_with (first | ((with_reducible show wpList _ _ _ (⟨some 2, _, _, _, _, _⟩ :: _) _ _); refine wpList_new_a rfl 28 rfl #[.int .u8 0, .int .u8 0, .int .u8 0, .int .u8 0] (by kernel_rfl) ?_; intro g2 w1 ge hh bb; have orb := Nat.le_trans bel.size ge; replace bel := bel.trans (bb.mono bel.size); have hrb := hh; clear hh ge bb) | ((with_reducible show wpList _ _ _ (⟨none, Op.store _ (.tmp 2) _, _, _, _, _⟩ :: _) _ _); refine wpList_store_blk rfl 28 (.tmp 2) (.tmp 5) rfl g2 rfl _ rfl _ 28 hrb (by rfl) (by kernel_rfl) (by kernel_rfl) ?_; intro w2 hq gr; replace bel := below_grown bel gr orb bel.size; clear hrb; have hrb := hq; clear hq gr))
  exact bodyPost_ret (results_cell_row' rfl _ _ _ _ _ _ _ rfl hrb Try.underlying28 rfl (by kernel_rfl)) rfl ⟨by show Ending.returned (.agg #[.int .u8 10, .int .u8 0, .int .u8 0, .int .u8 (k % 256)]) = .returned (.agg #[.int .u8 10, .int .u8 0, .int .u8 0, .int .u8 ((byteOf k).toNat : Int)]); rw [byteOf_val], bel⟩
def kM1 : Mp := ⟨17, 50000, atA 5, 50000, 1, 60⟩
def kM2 : Mp := ⟨17, 40000, atA 6, 50000, 1, 60⟩
def kS0 : Ts := ⟨40000, 10, 0, [], []⟩
def kS1 : Ts := ⟨40000, 10, 0, [kM1], []⟩
def kS2 : Ts := ⟨40000, 10, 0, [kM2, kM1], []⟩
def kS3 : Ts := ⟨40000, 10, 59, [kM2, kM1], []⟩
theorem k_1 {lo gt : Nat} (w : World) (hT : Tp lo gt w kS0) : Calls Try.prog 13 #[.pointer (some ⟨gt, 0, none⟩), .agg #[.int .i64 17, .int .u8 ((atA 5).a.toNat : Int), .int .u8 ((atA 5).b.toNat : Int), .int .u8 ((atA 5).c.toNat : Int), .int .u8 ((atA 5).d.toNat : Int), .int .i64 50000], .int .i64 0, .int .i64 60] w fun e w' => e = .returned (.tuple #[.agg #[.int .i64 17, .int .i64 50000, .int .u8 ((atA 5).a.toNat : Int), .int .u8 ((atA 5).b.toNat : Int), .int .u8 ((atA 5).c.toNat : Int), .int .u8 ((atA 5).d.toNat : Int), .int .i64 50000, .int .i64 1, .int .i64 60], .int .i64 0]) ∧ Tp lo gt w' kS1 ∧ Fap gt w w' ∧ Below lo w w' := mk_own (s1 := kS0) (s2 := kS1) w hT (by kernel_rfl) (by kernel_rfl) (by kernel_rfl) rfl (by kernel_rfl) (by decide) (by decide) (by kernel_rfl) (by kernel_rfl)
theorem k_2 {lo gt : Nat} (w : World) (hT : Tp lo gt w kS1) : Calls Try.prog 13 #[.pointer (some ⟨gt, 0, none⟩), .agg #[.int .i64 17, .int .u8 ((atA 6).a.toNat : Int), .int .u8 ((atA 6).b.toNat : Int), .int .u8 ((atA 6).c.toNat : Int), .int .u8 ((atA 6).d.toNat : Int), .int .i64 50000], .int .i64 0, .int .i64 60] w fun e w' => e = .returned (.tuple #[.agg #[.int .i64 17, .int .i64 40000, .int .u8 ((atA 6).a.toNat : Int), .int .u8 ((atA 6).b.toNat : Int), .int .u8 ((atA 6).c.toNat : Int), .int .u8 ((atA 6).d.toNat : Int), .int .i64 50000, .int .i64 1, .int .i64 60], .int .i64 0]) ∧ Tp lo gt w' kS2 ∧ Fap gt w w' ∧ Below lo w w' := mk_least (s1 := kS1) (s2 := kS2) (q := 40000) w hT (by kernel_rfl) (by kernel_rfl) (by kernel_rfl) rfl (by kernel_rfl) (by decide) (fun _ => (by kernel_rfl)) (by decide) (by decide) (fun o h1 h2 => by have h3 : (40000 : Int) ≤ o := h1; omega) (by kernel_rfl) (by kernel_rfl)
theorem k_3 {lo gt : Nat} (w : World) (hT : Tp lo gt w kS2) : Calls Try.prog 19 #[.pointer (some ⟨gt, 0, none⟩), .int .i64 17, .int .i64 40000, .int .i64 59] w fun e w' => e = .returned (.tuple #[.agg #[.int .i64 17, .int .i64 40000, .int .u8 ((atA 6).a.toNat : Int), .int .u8 ((atA 6).b.toNat : Int), .int .u8 ((atA 6).c.toNat : Int), .int .u8 ((atA 6).d.toNat : Int), .int .i64 50000, .int .i64 1, .int .i64 60], .bool true]) ∧ Tp lo gt w' kS3 ∧ Fap gt w w' ∧ Below lo w w' := in_some (s1 := kS3) (i := 0) w hT (by kernel_rfl) (by unfold okP; omega) (by kernel_rfl) (by kernel_rfl) rfl
theorem k_4 {lo gt : Nat} (w : World) (hT : Tp lo gt w kS3) : Calls Try.prog 17 #[.pointer (some ⟨gt, 0, none⟩), .int .i64 0] w fun e w' => e = .returned (.int .i64 2) ∧ Tp lo gt w' kS3 ∧ Fap gt w w' ∧ Below lo w w' := len_is (s1 := kS3) w hT (by kernel_rfl) rfl
set_option linter.unusedVariables false in
set_option linter.unusedSimpArgs false in
set_option maxRecDepth 100000 in
set_option maxHeartbeats 16000000 in
theorem awake_any (w : World) : Calls Try.prog 9 #[] w fun e w' => e = .returned (.bool true) ∧ Below w.heap.size w w' := by
  have r61 : ∀ W, (binOp .eql 28 (.agg #[.int .u8 ((atA 6).a.toNat : Int), .int .u8 ((atA 6).b.toNat : Int), .int .u8 ((atA 6).c.toNat : Int), .int .u8 ((atA 6).d.toNat : Int)]) (.agg #[.int .u8 ((atA 6).a.toNat : Int), .int .u8 ((atA 6).b.toNat : Int), .int .u8 ((atA 6).c.toNat : Int), .int .u8 ((atA 6).d.toNat : Int)])).run Try.prog W = .ok (.bool true) W := fun W => by kernel_rfl
  have bel := Below.refl w.heap.size w
  go_enter Try.func9, Try.ntmps9
  go_wp2_with fail
  have HLO_ := bel.size
  with_reducible refine (tnew_any (lw := 40000) (rm := 10) _ (by decide) (by decide) (by decide) (by decide)).mono ?_
  rintro e w1 ⟨gt, rfl, hT, b1⟩
  replace bel := bel.trans (b1.mono bel.size)
  clear b1
  replace hT : Tp w.heap.size gt w1 kS0 := hT.lo_mono HLO_
  clear HLO_
  go_wp2_with fail
  with_reducible refine (at_k 5 _).mono ?_
  rintro e w2 ⟨rfl, b2⟩
  replace hT := hT.below b2
  replace bel := bel.trans (b2.mono bel.size)
  clear b2
  go_wp2_with fail
  with_reducible refine (k_1 _ hT).mono ?_
  rintro e w3 ⟨rfl, hT_, f_, bb⟩
  clear hT
  have hT := hT_
  replace bel := bel.trans bb
  clear bb f_ hT_
  go_wp2_with (first | ((with_reducible show wpList _ _ _ (⟨some 3, _, _, _, _, _⟩ :: _) _ _); refine wpList_new_a rfl 31 rfl #[.int .i64 0, .int .i64 0, .int .u8 0, .int .u8 0, .int .u8 0, .int .u8 0, .int .i64 0, .int .i64 0, .int .i64 0] (by kernel_rfl) ?_; intro g3 w4 ge hh bb; have ap_aB := hT.ap ge; have oaB := Nat.le_trans bel.size ge; replace hT := hT.below bb; replace ap_aB := ap_aB.below bb; replace bel := bel.trans (bb.mono bel.size); have haB := hh; clear hh ge bb) | ((with_reducible show wpList _ _ _ (⟨none, Op.store _ (.tmp 3) _, _, _, _, _⟩ :: _) _ _); refine wpList_store_blk rfl 31 (.tmp 3) (.tmp 24) rfl g3 rfl _ rfl _ 31 haB (by rfl) (by kernel_rfl) (by kernel_rfl) ?_; intro w5 hq gr; replace hT := hT.away ap_aB gr haB; replace ap_aB := ap_aB.grown ap_aB.1 gr; replace bel := below_grown bel gr oaB bel.size; clear haB; have haB := hq; clear hq gr))
  with_reducible refine (at_k 6 _).mono ?_
  rintro e w6 ⟨rfl, b6⟩
  replace haB := blk_u haB b6
  replace hT := hT.below b6
  replace ap_aB := ap_aB.below b6
  replace bel := bel.trans (b6.mono bel.size)
  clear b6
  go_wp2_with fail
  with_reducible refine (k_2 _ hT).mono ?_
  rintro e w7 ⟨rfl, hT_, f_, bb⟩
  have x_ := f_ _ _ _ _ haB ap_aB
  replace haB := x_.1
  replace ap_aB := x_.2
  clear x_
  clear hT
  have hT := hT_
  replace bel := bel.trans bb
  clear bb f_ hT_
  go_wp2_with (first | ((with_reducible show wpList _ _ _ (⟨some 5, _, _, _, _, _⟩ :: _) _ _); refine wpList_new_a rfl 31 rfl #[.int .i64 0, .int .i64 0, .int .u8 0, .int .u8 0, .int .u8 0, .int .u8 0, .int .i64 0, .int .i64 0, .int .i64 0] (by kernel_rfl) ?_; intro g5 w8 ge hh bb; have ap_bB := hT.ap ge; have d_aB_bB := ne_new (hlt haB) ge; have obB := Nat.le_trans bel.size ge; replace haB := blk_u haB bb; replace hT := hT.below bb; replace ap_aB := ap_aB.below bb; replace ap_bB := ap_bB.below bb; replace bel := bel.trans (bb.mono bel.size); have hbB := hh; clear hh ge bb) | ((with_reducible show wpList _ _ _ (⟨none, Op.store _ (.tmp 5) _, _, _, _, _⟩ :: _) _ _); refine wpList_store_blk rfl 31 (.tmp 5) (.tmp 31) rfl g5 rfl _ rfl _ 31 hbB (by rfl) (by kernel_rfl) (by kernel_rfl) ?_; intro w9 hq gr; replace haB := blk_a haB gr d_aB_bB; replace hT := hT.away ap_bB gr hbB; replace ap_aB := ap_aB.grown ap_bB.1 gr; replace ap_bB := ap_bB.grown ap_bB.1 gr; replace bel := below_grown bel gr obB bel.size; clear hbB; have hbB := hq; clear hq gr))
  with_reducible refine (k_3 _ hT).mono ?_
  rintro e w10 ⟨rfl, hT_, f_, bb⟩
  have x_ := f_ _ _ _ _ haB ap_aB
  replace haB := x_.1
  replace ap_aB := x_.2
  clear x_
  have x_ := f_ _ _ _ _ hbB ap_bB
  replace hbB := x_.1
  replace ap_bB := x_.2
  clear x_
  clear hT
  have hT := hT_
  replace bel := bel.trans bb
  clear bb f_ hT_
  go_wp2_with (first | ((with_reducible show wpList _ _ _ (⟨some 7, _, _, _, _, _⟩ :: _) _ _); refine wpList_new_a rfl 31 rfl #[.int .i64 0, .int .i64 0, .int .u8 0, .int .u8 0, .int .u8 0, .int .u8 0, .int .i64 0, .int .i64 0, .int .i64 0] (by kernel_rfl) ?_; intro g7 w11 ge hh bb; have ap_cB := hT.ap ge; have d_aB_cB := ne_new (hlt haB) ge; have d_bB_cB := ne_new (hlt hbB) ge; have ocB := Nat.le_trans bel.size ge; replace haB := blk_u haB bb; replace hbB := blk_u hbB bb; replace hT := hT.below bb; replace ap_aB := ap_aB.below bb; replace ap_bB := ap_bB.below bb; replace ap_cB := ap_cB.below bb; replace bel := bel.trans (bb.mono bel.size); have hcB := hh; clear hh ge bb) | ((with_reducible show wpList _ _ _ (⟨none, Op.store _ (.tmp 7) _, _, _, _, _⟩ :: _) _ _); refine wpList_store_blk rfl 31 (.tmp 7) (.tmp 36) rfl g7 rfl _ rfl _ 31 hcB (by rfl) (by kernel_rfl) (by kernel_rfl) ?_; intro w12 hq gr; replace haB := blk_a haB gr d_aB_cB; replace hbB := blk_a hbB gr d_bB_cB; replace hT := hT.away ap_cB gr hcB; replace ap_aB := ap_aB.grown ap_cB.1 gr; replace ap_bB := ap_bB.grown ap_cB.1 gr; replace ap_cB := ap_cB.grown ap_cB.1 gr; replace bel := below_grown bel gr ocB bel.size; clear hcB; have hcB := hq; clear hq gr))
  replace bel := bel.drew
  replace haB : w12.drew.heap[g3]? = _ := haB
  replace hbB : w12.drew.heap[g5]? = _ := hbB
  replace hcB : w12.drew.heap[g7]? = _ := hcB
  replace hT := tp_drew hT
  replace ap_aB := ap_drew ap_aB
  replace ap_bB := ap_drew ap_bB
  replace ap_cB := ap_drew ap_cB
  refine wp_region_held_drew (S := fun W => W.heap[g3]? = some (.cells #[.int .i64 17, .int .i64 50000, .int .u8 ((atA 5).a.toNat : Int), .int .u8 ((atA 5).b.toNat : Int), .int .u8 ((atA 5).c.toNat : Int), .int .u8 ((atA 5).d.toNat : Int), .int .i64 50000, .int .i64 1, .int .i64 60] 31 (0, 0)) ∧ W.heap[g5]? = some (.cells #[.int .i64 17, .int .i64 40000, .int .u8 ((atA 6).a.toNat : Int), .int .u8 ((atA 6).b.toNat : Int), .int .u8 ((atA 6).c.toNat : Int), .int .u8 ((atA 6).d.toNat : Int), .int .i64 50000, .int .i64 1, .int .i64 60] 31 (0, 0)) ∧ W.heap[g7]? = some (.cells #[.int .i64 17, .int .i64 40000, .int .u8 ((atA 6).a.toNat : Int), .int .u8 ((atA 6).b.toNat : Int), .int .u8 ((atA 6).c.toNat : Int), .int .u8 ((atA 6).d.toNat : Int), .int .i64 50000, .int .i64 1, .int .i64 60] 31 (0, 0))) (by kernel_rfl) ⟨haB, hbB, hcB⟩ (fun hH => ?_)
  generalize w12.drew = w13 at bel haB hbB hcB hT ap_aB ap_bB ap_cB hH ⊢
  refine wpAnyH_take (i := 0) (v := ?_) rfl (by kernel_rfl) (by kernel_rfl) (by kernel_rfl) (fun _ _ _ h => h) (Or.inl ⟨by rfl, ?_⟩) hH ?_
  rotate_left
  · ((intro W hW; clear hW; go_simp) <;> with_reducible rfl)
  simp only [Act.put, List.getElem_toArray, List.getElem_cons_zero, List.setIfInBounds_toArray, List.set_cons_zero, List.set_cons_succ]
  refine wpAnyH_take (i := 1) (v := ?_) rfl (by kernel_rfl) (by kernel_rfl) (by kernel_rfl) (fun _ _ _ h => h) (Or.inl ⟨by rfl, ?_⟩) hH ?_
  rotate_left
  · ((intro W hW; clear hW; go_simp) <;> with_reducible rfl)
  simp only [Act.put, List.getElem_toArray, List.getElem_cons_zero, List.getElem_cons_succ, List.setIfInBounds_toArray, List.set_cons_zero, List.set_cons_succ]
  refine wpAnyH_take (i := 2) (v := ?_) rfl (by kernel_rfl) (by kernel_rfl) (by kernel_rfl) (fun _ _ _ h => h) (Or.inl ⟨by rfl, ?_⟩) hH ?_
  rotate_left
  · ((intro W hW; clear hW; go_simp) <;> with_reducible rfl)
  simp only [Act.put, List.getElem_toArray, List.getElem_cons_zero, List.getElem_cons_succ, List.setIfInBounds_toArray, List.set_cons_zero, List.set_cons_succ]
  refine wpAnyH_take (i := 3) (v := ?_) rfl (by kernel_rfl) (by kernel_rfl) (by kernel_rfl) (fun _ _ _ h => h) (Or.inl ⟨by rfl, ?_⟩) hH ?_
  rotate_left
  · ((intro W hW; clear hW; go_simp) <;> with_reducible rfl)
  simp only [Act.put, List.getElem_toArray, List.getElem_cons_zero, List.getElem_cons_succ, List.setIfInBounds_toArray, List.set_cons_zero, List.set_cons_succ]
  refine wpAnyH_take (i := 4) (v := ?_) rfl (by kernel_rfl) (by kernel_rfl) (by kernel_rfl) (fun _ _ _ h => h) (Or.inl ⟨by rfl, ?_⟩) hH ?_
  rotate_left
  · ((intro W hW; have hk := cell_lit (hW.1) 1 _ rfl; clear hW; go_simp) <;> with_reducible rfl)
  simp only [Act.put, List.getElem_toArray, List.getElem_cons_zero, List.getElem_cons_succ, List.setIfInBounds_toArray, List.set_cons_zero, List.set_cons_succ]
  refine wpAnyH_take (i := 5) (v := ?_) rfl (by kernel_rfl) (by kernel_rfl) (by kernel_rfl) (fun _ _ _ h => h) (Or.inl ⟨by rfl, ?_⟩) hH ?_
  rotate_left
  · ((intro W hW; clear hW; go_simp) <;> with_reducible rfl)
  simp only [Act.put, List.getElem_toArray, List.getElem_cons_zero, List.getElem_cons_succ, List.setIfInBounds_toArray, List.set_cons_zero, List.set_cons_succ]
  refine wpAnyH_take (i := 6) (v := ?_) rfl (by kernel_rfl) (by kernel_rfl) (by kernel_rfl) (fun _ _ _ h => h) (Or.inl ⟨by rfl, ?_⟩) hH ?_
  rotate_left
  · ((intro W hW; clear hW; go_simp) <;> with_reducible rfl)
  simp only [Act.put, List.getElem_toArray, List.getElem_cons_zero, List.getElem_cons_succ, List.setIfInBounds_toArray, List.set_cons_zero, List.set_cons_succ]
  refine wpAnyH_take (i := 7) (v := ?_) rfl (by kernel_rfl) (by kernel_rfl) (by kernel_rfl) (fun _ _ _ h => h) (Or.inl ⟨by rfl, ?_⟩) hH ?_
  rotate_left
  · ((intro W hW; clear hW; go_simp) <;> with_reducible rfl)
  simp only [Act.put, List.getElem_toArray, List.getElem_cons_zero, List.getElem_cons_succ, List.setIfInBounds_toArray, List.set_cons_zero, List.set_cons_succ]
  refine wpAnyH_take (i := 8) (v := ?_) rfl (by kernel_rfl) (by kernel_rfl) (by kernel_rfl) (fun _ _ _ h => h) (Or.inl ⟨by rfl, ?_⟩) hH ?_
  rotate_left
  · ((intro W hW; clear hW; go_simp) <;> with_reducible rfl)
  simp only [Act.put, List.getElem_toArray, List.getElem_cons_zero, List.getElem_cons_succ, List.setIfInBounds_toArray, List.set_cons_zero, List.set_cons_succ]
  refine wpAnyH_take (i := 9) (v := ?_) rfl (by kernel_rfl) (by kernel_rfl) (by kernel_rfl) (fun _ _ _ h => h) (Or.inl ⟨by rfl, ?_⟩) hH ?_
  rotate_left
  · ((intro W hW; clear hW; go_simp) <;> with_reducible rfl)
  simp only [Act.put, List.getElem_toArray, List.getElem_cons_zero, List.getElem_cons_succ, List.setIfInBounds_toArray, List.set_cons_zero, List.set_cons_succ]
  refine wpAnyH_take (i := 10) (v := ?_) rfl (by kernel_rfl) (by kernel_rfl) (by kernel_rfl) (fun _ _ _ h => h) (Or.inl ⟨by rfl, ?_⟩) hH ?_
  rotate_left
  · ((intro W hW; clear hW; go_simp) <;> with_reducible rfl)
  simp only [Act.put, List.getElem_toArray, List.getElem_cons_zero, List.getElem_cons_succ, List.setIfInBounds_toArray, List.set_cons_zero, List.set_cons_succ]
  refine wpAnyH_take (i := 11) (v := ?_) rfl (by kernel_rfl) (by kernel_rfl) (by kernel_rfl) (fun _ _ _ h => h) (Or.inl ⟨by rfl, ?_⟩) hH ?_
  rotate_left
  · ((intro W hW; clear hW; go_simp) <;> with_reducible rfl)
  simp only [Act.put, List.getElem_toArray, List.getElem_cons_zero, List.getElem_cons_succ, List.setIfInBounds_toArray, List.set_cons_zero, List.set_cons_succ]
  refine wpAnyH_take (i := 12) (v := ?_) rfl (by kernel_rfl) (by kernel_rfl) (by kernel_rfl) (fun _ _ _ h => h) (Or.inl ⟨by rfl, ?_⟩) hH ?_
  rotate_left
  · ((intro W hW; clear hW; go_simp) <;> with_reducible rfl)
  simp only [Act.put, List.getElem_toArray, List.getElem_cons_zero, List.getElem_cons_succ, List.setIfInBounds_toArray, List.set_cons_zero, List.set_cons_succ]
  refine wpAnyH_take (i := 13) (v := ?_) rfl (by kernel_rfl) (by kernel_rfl) (by kernel_rfl) (fun _ _ _ h => h) (Or.inl ⟨by rfl, ?_⟩) hH ?_
  rotate_left
  · ((intro W hW; have hk := cell_lit (hW.2.1) 1 _ rfl; clear hW; go_simp) <;> with_reducible rfl)
  simp only [Act.put, List.getElem_toArray, List.getElem_cons_zero, List.getElem_cons_succ, List.setIfInBounds_toArray, List.set_cons_zero, List.set_cons_succ]
  refine wpAnyH_take (i := 14) (v := ?_) rfl (by kernel_rfl) (by kernel_rfl) (by kernel_rfl) (fun _ _ _ h => h) (Or.inl ⟨by rfl, ?_⟩) hH ?_
  rotate_left
  · ((intro W hW; clear hW; go_simp) <;> with_reducible rfl)
  simp only [Act.put, List.getElem_toArray, List.getElem_cons_zero, List.getElem_cons_succ, List.setIfInBounds_toArray, List.set_cons_zero, List.set_cons_succ]
  refine wpAnyH_take (i := 15) (v := ?_) rfl (by kernel_rfl) (by kernel_rfl) (by kernel_rfl) (fun _ _ _ h => h) (Or.inl ⟨by rfl, ?_⟩) hH ?_
  rotate_left
  · ((intro W hW; clear hW; go_simp) <;> with_reducible rfl)
  simp only [Act.put, List.getElem_toArray, List.getElem_cons_zero, List.getElem_cons_succ, List.setIfInBounds_toArray, List.set_cons_zero, List.set_cons_succ]
  refine wpAnyH_take (i := 16) (v := ?_) rfl (by kernel_rfl) (by kernel_rfl) (by kernel_rfl) (fun _ _ _ h => h) (Or.inl ⟨by rfl, ?_⟩) hH ?_
  rotate_left
  · ((intro W hW; clear hW; go_simp) <;> with_reducible rfl)
  simp only [Act.put, List.getElem_toArray, List.getElem_cons_zero, List.getElem_cons_succ, List.setIfInBounds_toArray, List.set_cons_zero, List.set_cons_succ]
  refine wpAnyH_take (i := 17) (v := ?_) rfl (by kernel_rfl) (by kernel_rfl) (by kernel_rfl) (fun _ _ _ h => h) (Or.inl ⟨by rfl, ?_⟩) hH ?_
  rotate_left
  · ((intro W hW; clear hW; go_simp) <;> with_reducible rfl)
  simp only [Act.put, List.getElem_toArray, List.getElem_cons_zero, List.getElem_cons_succ, List.setIfInBounds_toArray, List.set_cons_zero, List.set_cons_succ]
  refine wpAnyH_take (i := 18) (v := ?_) rfl (by kernel_rfl) (by kernel_rfl) (by kernel_rfl) (fun _ _ _ h => h) (Or.inl ⟨by rfl, ?_⟩) hH ?_
  rotate_left
  · ((intro W hW; clear hW; go_simp) <;> with_reducible rfl)
  simp only [Act.put, List.getElem_toArray, List.getElem_cons_zero, List.getElem_cons_succ, List.setIfInBounds_toArray, List.set_cons_zero, List.set_cons_succ]
  refine wpAnyH_take (i := 19) (v := ?_) rfl (by kernel_rfl) (by kernel_rfl) (by kernel_rfl) (fun _ _ _ h => h) (Or.inl ⟨by rfl, ?_⟩) hH ?_
  rotate_left
  · ((intro W hW; clear hW; go_simp) <;> with_reducible rfl)
  simp only [Act.put, List.getElem_toArray, List.getElem_cons_zero, List.getElem_cons_succ, List.setIfInBounds_toArray, List.set_cons_zero, List.set_cons_succ]
  refine wpAnyH_take (i := 20) (v := ?_) rfl (by kernel_rfl) (by kernel_rfl) (by kernel_rfl) (fun _ _ _ h => h) (Or.inl ⟨by rfl, ?_⟩) hH ?_
  rotate_left
  · ((intro W hW; clear hW; go_simp) <;> with_reducible rfl)
  simp only [Act.put, List.getElem_toArray, List.getElem_cons_zero, List.getElem_cons_succ, List.setIfInBounds_toArray, List.set_cons_zero, List.set_cons_succ]
  refine wpAnyH_take (i := 21) (v := .agg #[.int .u8 ((atA 6).a.toNat : Int), .int .u8 ((atA 6).b.toNat : Int), .int .u8 ((atA 6).c.toNat : Int), .int .u8 ((atA 6).d.toNat : Int)]) rfl (by kernel_rfl) (by kernel_rfl) (by kernel_rfl) (fun _ _ _ h => h) (yieldsIf_load_part (by kernel_rfl) 28 _ rfl g7 2 4 rfl _ 31 (0, 0) (fun W hW => hW.2.2) _ rfl _ Try.underlying28 rfl (by kernel_rfl)) hH ?_
  simp only [Act.put, List.getElem_toArray, List.getElem_cons_zero, List.getElem_cons_succ, List.setIfInBounds_toArray, List.set_cons_zero, List.set_cons_succ]
  refine wpAnyH_ready (rs := [22]) (by kernel_rfl) (by simp) ?_
  refine AllReadyH.cons (o := _) rfl (fun K hK => ?_) AllReadyH.nil
  simp only [List.getElem_toArray, List.getElem_cons_zero, List.getElem_cons_succ]
  go_simp
  with_reducible refine (at_k 6 _).mono ?_
  rintro e w14 ⟨rfl, b14⟩
  dsimp only
  replace haB := blk_u haB b14
  replace hbB := blk_u hbB b14
  replace hcB := blk_u hcB b14
  replace hT := hT.below b14
  replace ap_aB := ap_aB.below b14
  replace ap_bB := ap_bB.below b14
  replace ap_cB := ap_cB.below b14
  replace bel := bel.trans (b14.mono bel.size)
  clear b14
  refine hK.out _ _ ⟨haB, hbB, hcB⟩ (fun hH15 => ?_)
  clear hK K
  refine wpAnyH_take (i := 23) (v := ?_) rfl (by kernel_rfl) (by kernel_rfl) (by kernel_rfl) (fun _ _ _ h => h) (Or.inl ⟨by rfl, ?_⟩) hH15 ?_
  rotate_left
  · ((intro W hW; clear hW; go_simp) <;> with_reducible rfl)
  simp only [Act.put, List.getElem_toArray, List.getElem_cons_zero, List.getElem_cons_succ, List.setIfInBounds_toArray, List.set_cons_zero, List.set_cons_succ]
  refine wpAnyH_take (i := 24) (v := ?_) rfl (by kernel_rfl) (by kernel_rfl) (by kernel_rfl) (fun _ _ _ h => h) (Or.inl ⟨by rfl, ?_⟩) hH15 ?_
  rotate_left
  · ((intro W hW; clear hW; go_simp) <;> with_reducible rfl)
  simp only [Act.put, List.getElem_toArray, List.getElem_cons_zero, List.getElem_cons_succ, List.setIfInBounds_toArray, List.set_cons_zero, List.set_cons_succ]
  refine wpAnyH_take (i := 25) (v := ?_) rfl (by kernel_rfl) (by kernel_rfl) (by kernel_rfl) (fun _ _ _ h => h) (Or.inl ⟨by rfl, ?_⟩) hH15 ?_
  rotate_left
  · ((intro W hW; clear hW; go_simp) <;> with_reducible rfl)
  simp only [Act.put, List.getElem_toArray, List.getElem_cons_zero, List.getElem_cons_succ, List.setIfInBounds_toArray, List.set_cons_zero, List.set_cons_succ]
  refine wpAnyH_take (i := 26) (v := ?_) rfl (by kernel_rfl) (by kernel_rfl) (by kernel_rfl) (fun _ _ _ h => h) (Or.inl ⟨by rfl, ?_⟩) hH15 ?_
  rotate_left
  · ((intro W hW; clear hW; go_simp) <;> with_reducible rfl)
  simp only [Act.put, List.getElem_toArray, List.getElem_cons_zero, List.getElem_cons_succ, List.setIfInBounds_toArray, List.set_cons_zero, List.set_cons_succ]
  refine wpAnyH_take (i := 27) (v := ?_) rfl (by kernel_rfl) (by kernel_rfl) (by kernel_rfl) (fun _ _ _ h => h) (Or.inl ⟨by rfl, ?_⟩) hH15 ?_
  rotate_left
  · ((intro W hW; have hk := cell_lit (hW.2.2) 6 _ rfl; clear hW; go_simp) <;> with_reducible rfl)
  simp only [Act.put, List.getElem_toArray, List.getElem_cons_zero, List.getElem_cons_succ, List.setIfInBounds_toArray, List.set_cons_zero, List.set_cons_succ]
  refine wpAnyH_take (i := 28) (v := ?_) rfl (by kernel_rfl) (by kernel_rfl) (by kernel_rfl) (fun _ _ _ h => h) (Or.inl ⟨by rfl, ?_⟩) hH15 ?_
  rotate_left
  · ((intro W hW; clear hW; go_simp) <;> with_reducible rfl)
  simp only [Act.put, List.getElem_toArray, List.getElem_cons_zero, List.getElem_cons_succ, List.setIfInBounds_toArray, List.set_cons_zero, List.set_cons_succ]
  refine wpAnyH_take (i := 29) (v := ?_) rfl (by kernel_rfl) (by kernel_rfl) (by kernel_rfl) (fun _ _ _ h => h) (Or.inl ⟨by rfl, ?_⟩) hH15 ?_
  rotate_left
  · ((intro W hW; clear hW; go_simp) <;> with_reducible rfl)
  simp only [Act.put, List.getElem_toArray, List.getElem_cons_zero, List.getElem_cons_succ, List.setIfInBounds_toArray, List.set_cons_zero, List.set_cons_succ]
  refine wpAnyH_take (i := 30) (v := ?_) rfl (by kernel_rfl) (by kernel_rfl) (by kernel_rfl) (fun _ _ _ h => h) (Or.inl ⟨by rfl, ?_⟩) hH15 ?_
  rotate_left
  · ((intro W hW; clear hW; go_simp) <;> with_reducible rfl)
  simp only [Act.put, List.getElem_toArray, List.getElem_cons_zero, List.getElem_cons_succ, List.setIfInBounds_toArray, List.set_cons_zero, List.set_cons_succ]
  refine wpAnyH_take (i := 31) (v := ?_) rfl (by kernel_rfl) (by kernel_rfl) (by kernel_rfl) (fun _ _ _ h => h) (Or.inl ⟨by rfl, ?_⟩) hH15 ?_
  rotate_left
  · ((intro W hW; clear hW; go_simp) <;> with_reducible rfl)
  simp only [Act.put, List.getElem_toArray, List.getElem_cons_zero, List.getElem_cons_succ, List.setIfInBounds_toArray, List.set_cons_zero, List.set_cons_succ]
  refine wpAnyH_take (i := 32) (v := ?_) rfl (by kernel_rfl) (by kernel_rfl) (by kernel_rfl) (fun _ _ _ h => h) (Or.inl ⟨by rfl, ?_⟩) hH15 ?_
  rotate_left
  · ((intro W hW; have hk := cell_lit (hW.2.2) 7 _ rfl; clear hW; go_simp) <;> with_reducible rfl)
  simp only [Act.put, List.getElem_toArray, List.getElem_cons_zero, List.getElem_cons_succ, List.setIfInBounds_toArray, List.set_cons_zero, List.set_cons_succ]
  refine wpAnyH_take (i := 33) (v := ?_) rfl (by kernel_rfl) (by kernel_rfl) (by kernel_rfl) (fun _ _ _ h => h) (Or.inl ⟨by rfl, ?_⟩) hH15 ?_
  rotate_left
  · ((intro W hW; clear hW; go_simp) <;> with_reducible rfl)
  simp only [Act.put, List.getElem_toArray, List.getElem_cons_zero, List.getElem_cons_succ, List.setIfInBounds_toArray, List.set_cons_zero, List.set_cons_succ]
  refine wpAnyH_take (i := 34) (v := ?_) rfl (by kernel_rfl) (by kernel_rfl) (by kernel_rfl) (fun _ _ _ h => h) (Or.inl ⟨by rfl, ?_⟩) hH15 ?_
  rotate_left
  · ((intro W hW; clear hW; go_simp) <;> with_reducible rfl)
  simp only [Act.put, List.getElem_toArray, List.getElem_cons_zero, List.getElem_cons_succ, List.setIfInBounds_toArray, List.set_cons_zero, List.set_cons_succ]
  refine wpAnyH_take (i := 35) (v := ?_) rfl (by kernel_rfl) (by kernel_rfl) (by kernel_rfl) (fun _ _ _ h => h) (Or.inl ⟨by rfl, ?_⟩) hH15 ?_
  rotate_left
  · ((intro W hW; clear hW; go_simp) <;> with_reducible rfl)
  simp only [Act.put, List.getElem_toArray, List.getElem_cons_zero, List.getElem_cons_succ, List.setIfInBounds_toArray, List.set_cons_zero, List.set_cons_succ]
  refine wpAnyH_take (i := 36) (v := ?_) rfl (by kernel_rfl) (by kernel_rfl) (by kernel_rfl) (fun _ _ _ h => h) (Or.inl ⟨by rfl, ?_⟩) hH15 ?_
  rotate_left
  · ((intro W hW; clear hW; go_simp) <;> with_reducible rfl)
  simp only [Act.put, List.getElem_toArray, List.getElem_cons_zero, List.getElem_cons_succ, List.setIfInBounds_toArray, List.set_cons_zero, List.set_cons_succ]
  refine wpAnyH_ready (rs := [37]) (by kernel_rfl) (by simp) ?_
  refine AllReadyH.cons (o := _) rfl (fun K hK => ?_) AllReadyH.nil
  simp only [List.getElem_toArray, List.getElem_cons_zero, List.getElem_cons_succ]
  go_simp
  with_reducible refine (k_4 _ hT).mono ?_
  rintro e w16 ⟨rfl, hT_, f_, bb⟩
  dsimp only
  have x_ := f_ _ _ _ _ haB ap_aB
  replace haB := x_.1
  replace ap_aB := x_.2
  clear x_
  have x_ := f_ _ _ _ _ hbB ap_bB
  replace hbB := x_.1
  replace ap_bB := x_.2
  clear x_
  have x_ := f_ _ _ _ _ hcB ap_cB
  replace hcB := x_.1
  replace ap_cB := x_.2
  clear x_
  clear hT
  have hT := hT_
  replace bel := bel.trans bb
  clear bb f_ hT_
  refine hK.out _ _ ⟨haB, hbB, hcB⟩ (fun hH17 => ?_)
  clear hK K
  refine wpAnyH_take (i := 38) (v := ?_) rfl (by kernel_rfl) (by kernel_rfl) (by kernel_rfl) (fun _ _ _ h => h) (Or.inl ⟨by rfl, ?_⟩) hH17 ?_
  rotate_left
  · ((intro W hW; clear hW; go_simp) <;> with_reducible rfl)
  simp only [Act.put, List.getElem_toArray, List.getElem_cons_zero, List.getElem_cons_succ, List.setIfInBounds_toArray, List.set_cons_zero, List.set_cons_succ]
  refine wpAnyH_take (i := 39) (v := ?_) rfl (by kernel_rfl) (by kernel_rfl) (by kernel_rfl) (fun _ _ _ h => h) (Or.inl ⟨by rfl, ?_⟩) hH17 ?_
  rotate_left
  · ((intro W hW; clear hW; go_simp) <;> with_reducible rfl)
  simp only [Act.put, List.getElem_toArray, List.getElem_cons_zero, List.getElem_cons_succ, List.setIfInBounds_toArray, List.set_cons_zero, List.set_cons_succ]
  refine wpAnyH_take (i := 40) (v := ?_) rfl (by kernel_rfl) (by kernel_rfl) (by kernel_rfl) (fun _ _ _ h => h) (Or.inl ⟨by rfl, ?_⟩) hH17 ?_
  rotate_left
  · ((intro W hW; clear hW; go_simp) <;> with_reducible rfl)
  simp only [Act.put, List.getElem_toArray, List.getElem_cons_zero, List.getElem_cons_succ, List.setIfInBounds_toArray, List.set_cons_zero]
  refine wpAnyH_done (by kernel_rfl) ?_ _
  go_wp2_with fail
  go_ret
  exact ⟨rfl, bel⟩
end Go.Proofs.Ytmjmjfcdblapcaa
