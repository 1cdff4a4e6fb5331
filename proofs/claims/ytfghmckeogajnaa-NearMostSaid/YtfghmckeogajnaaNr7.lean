/- The table as one predicate; Mac, Learn, Want, Len over it. -/
import Derived.Test.YtfghmckeogajnaaNr6
namespace Go.Proofs.Ytfghmckeogajnaa
open Go.RowKit

/-- The table at block gt: what is of the call's own from lo on; the clock; the entries. -/
def Tb (lo gt : Nat) (w : World) (age now : Int) (l : List En) : Prop := ∃ (A : Option Addr) (n c : Nat), w.heap[gt]? = some (.cells #[.int .i64 age, .int .i64 now, .slice A n c] 49 (0, 0)) ∧ lo ≤ gt ∧ w.ownsRow lo 52 14 (.slice A n c) n (l.flatMap enE) ∧ Srt l ∧ (∀ e ∈ l, e.ok now) ∧ l.length ≤ 32 ∧ 0 ≤ now ∧ now ≤ 1099511627776
theorem Tb.kt {S : List TypeId} {lo gt : Nat} {w w' : World} {age now : Int} {l : List En} (h : Tb lo gt w age now l) (k : Kt S w w') (h1 : 49 ∉ S) (h2 : 52 ∉ S) : Tb lo gt w' age now l := by
  obtain ⟨A, n, c, h3, h4, h5, h6⟩ := h
  exact ⟨A, n, c, k.blk h3 h1, h4, k.own h5 h2, h6⟩
theorem Tb.below {lo gt : Nat} {w w' : World} {age now : Int} {l : List En} (h : Tb lo gt w age now l) (b : Below w.heap.size w w') : Tb lo gt w' age now l := h.kt (S := []) (kt_below b) (by decide) (by decide)
theorem Tb.lo_le {lo gt : Nat} {w : World} {age now : Int} {l : List En} (h : Tb lo gt w age now l) : lo ≤ w.heap.size := by
  obtain ⟨A, n, c, h3, h4, _⟩ := h
  exact Nat.le_trans h4 (Nat.le_of_lt (hlt h3))
theorem Pk.lo_le {lo lo' n c : Nat} {w : World} {A : Option Addr} {ps : List (List UInt8)} (h : Pk lo w A n c ps) (hl : lo' ≤ lo) : Pk lo' w A n c ps := by
  obtain ⟨hs, h1, h2, h3⟩ := h
  exact ⟨hs, h1, owk_lo h2 hl, fun i h p hh hq => owk_lo (h3 i h p hh hq) hl⟩
/-- A slice of bytes, in a block of bytes. -/
def Sb (w : World) (A : Option Addr) (n c : Nat) (l : List UInt8) : Prop := Sl w A n c l ∧ (0 < n → ∀ g o p, A = some ⟨g, o, p⟩ → ∃ cs fz, w.heap[g]? = some (.cells cs 5 fz))
theorem Sb.av {w : World} {A : Option Addr} {n c g : Nat} {l : List UInt8} {cs : Array Value} {T : TypeId} {fz : Nat × Nat} (h : Sb w A n c l) (hg : w.heap[g]? = some (.cells cs T fz)) (hT : T ≠ 5) : Av A n g := fun hn a o p e he => by
  subst he
  obtain ⟨c2, f2, h2⟩ := h.2 hn a o p e
  rw [hg] at h2; cases h2; exact hT rfl
theorem Sb.nil (w : World) : Sb w none 0 0 [] := ⟨Sl.nil w, fun h => absurd h (by omega)⟩
theorem Sb.lit {w : World} {g n : Nat} {l : List UInt8} {fz : Nat × Nat} (h : w.heap[g]? = some (.cells (l.map u8v).toArray 5 fz)) (hn : l.length = n) (hm : n ≤ maxLen) : Sb w (some ⟨g, 0, none⟩) n n l := ⟨sl_lit l h hn hm, fun _ a o p e => by
  injection e with e; injection e with e; subst e; exact ⟨_, _, h⟩⟩
theorem Sb.kt {S : List TypeId} {w w' : World} {A : Option Addr} {n c : Nat} {l : List UInt8} (h : Sb w A n c l) (k : Kt S w w') (h1 : 5 ∉ S) : Sb w' A n c l := by
  refine ⟨⟨h.1.1, h.1.2.1, h.1.2.2.1, fun hn => ?_⟩, fun hn g o p e => ?_⟩
  · obtain ⟨g, o, e, hc⟩ := h.1.2.2.2 hn
    obtain ⟨cs, fz, hb⟩ := h.2 hn g o none e
    exact ⟨g, o, e, fun j b hj => by rw [World.cell?_of_block (w := w) (a := ⟨g, o + j, none⟩) ((k.blk hb h1).trans hb.symm)]; exact hc j b hj⟩
  · obtain ⟨cs, fz, hb⟩ := h.2 hn g o p e
    exact ⟨cs, fz, k.blk hb h1⟩
set_option linter.unusedVariables false in
set_option linter.unusedSimpArgs false in
set_option maxRecDepth 100000 in
set_option maxHeartbeats 16000000 in
theorem mac_none {lo gt : Nat} {age now : Int} {l : List En} {y : Ad4} {t : Int}  (w : World) (hT : Tb lo gt w age now l) (hf : fhas l y.num = false) : Calls Try.prog 13 #[.pointer (some ⟨gt, 0, none⟩), .agg #[.int .u8 (y.a.toNat : Int), .int .u8 (y.b.toNat : Int), .int .u8 (y.c.toNat : Int), .int .u8 (y.d.toNat : Int)], .int .i64 t] w fun e w' => e = .returned (.tuple #[.agg #[.int .u8 0, .int .u8 0, .int .u8 0, .int .u8 0, .int .u8 0, .int .u8 0], .bool false]) ∧ Tb lo gt w' age (adv now t) l ∧ Kt [49, 52] w w' ∧ Below lo w w' := by
  obtain ⟨A, n, c, htb, otb, own, hS, hok, hlen, n0, n1⟩ := hT
  have hlo : lo ≤ w.heap.size := Nat.le_trans otb (Nat.le_of_lt (hlt htb))
  have off_tb := ofs_type own htb (by decide)
  have hl := row_len (by decide) enE_len own
  have h32 : n ≤ 32 := by omega
  have HLL := Lib.hid hl
  have HLO := Lib.hid hlo
  have HS := Lib.hid hS
  have HOK := Lib.hid hok
  have HLEN := Lib.hid hlen
  have H32 := Lib.hid h32
  obtain ⟨nw, hnw⟩ : ∃ x, adv now t = x := ⟨_, rfl⟩
  have hnw1 : now ≤ nw := by rw [← hnw]; exact adv_ge now t
  have hnw2 : nw ≤ 1099511627776 := by rw [← hnw]; exact adv_le n1
  have m0 : 0 ≤ nw := by omega
  have HNW := Lib.hid hnw
  have HM0 := Lib.hid m0
  have HM2 := Lib.hid hnw2
  have HOK2 : Hid (∀ e ∈ l, e.ok nw) := Lib.hid (fun e he => (hok e he).le hnw1)
  have kt := Kt.refl [49, 52] w
  clear hl hS hok hlen hnw n0 n1
  have HF : Hid (fhas l y.num = false) := Lib.hid hf
  clear hf
  have bel := Below.refl lo w
  go_enter Try.func13, Try.ntmps13
  go_wp2_with (first | ((with_reducible show wpList _ _ _ (⟨some 4, _, _, _, _, _⟩ :: _) _ _); refine wpList_box_n rfl 30 (.tmp 1) rfl #[.int .u8 (y.a.toNat : Int), .int .u8 (y.b.toNat : Int), .int .u8 (y.c.toNat : Int), .int .u8 (y.d.toNat : Int)] rfl ?_; intro g4 w1 ge lt hh bb; have d_tb_yb := ne_new (hlt htb) ge; have oyb := Nat.le_trans (Nat.le_trans hlo bel.size) ge; have off_yb := owk_new own ge; have pn_yb := Nat.le_trans bel.size ge; replace htb := blk_u htb bb; replace own := owk_under own bb; replace kt := kt.trans (kt_below bb); replace bel := bel.trans (bb.mono (Nat.le_trans hlo bel.size)); have hyb := hh; clear hh lt ge bb) | ((with_reducible show wpList _ _ _ (⟨some 6, _, _, _, _, _⟩ :: _) _ _); refine wpList_new_a rfl 32 rfl #[.int .u8 0, .int .u8 0, .int .u8 0, .int .u8 0, .int .u8 0, .int .u8 0] (by kernel_rfl) ?_; intro g6 w2 ge hh bb; have d_tb_rb := ne_new (hlt htb) ge; have d_yb_rb := ne_new (hlt hyb) ge; have orb := Nat.le_trans (Nat.le_trans hlo bel.size) ge; have off_rb := owk_new own ge; have pn_rb := Nat.le_trans bel.size ge; replace htb := blk_u htb bb; replace hyb := blk_u hyb bb; replace own := owk_under own bb; replace kt := kt.trans (kt_below bb); replace bel := bel.trans (bb.mono (Nat.le_trans hlo bel.size)); have hrb := hh; clear hh ge bb))
  with_reducible refine (adv_any _ _ htb).mono ?_
  rintro e w3 ⟨rfl, htb_, b3⟩
  replace hyb := blk_a hyb b3 (ne_symm d_tb_yb)
  replace hrb := blk_a hrb b3 (ne_symm d_tb_rb)
  replace own := owk_off own off_tb b3
  replace kt := kt.trans (kt_grown b3 htb (by simp))
  replace bel := below_grown bel b3 otb (Nat.le_trans hlo bel.size)
  clear b3
  clear htb
  rw [HNW.out] at htb_
  have htb := htb_
  clear htb_
  have R15 := Lib.hid (range_lit hyb 0 4 [.int .u8 (y.a.toNat : Int), .int .u8 (y.b.toNat : Int), .int .u8 (y.c.toNat : Int), .int .u8 (y.d.toNat : Int)] rfl)
  go_wp2_with (first | ((with_reducible show wpList _ _ _ (⟨some 15, _, _, _, _, _⟩ :: _) _ _); refine wpList_load_rng 30 (.tmp 4) rfl (by kernel_rfl) _ _ rfl _ R15.out _ Try.underlying30 rfl (by kernel_rfl) ?_))
  try clear R15
  with_reducible refine (find_any y _ htb (owk_sle (by decide) enE_len own).1 HS.out (Nat.le_trans H32.out (by decide))).mono ?_
  rintro e w4 ⟨rfl, b4⟩
  replace htb := blk_u htb b4
  replace hyb := blk_u hyb b4
  replace hrb := blk_u hrb b4
  replace own := owk_under own b4
  replace kt := kt.trans (kt_below b4)
  replace bel := bel.trans (b4.mono (Nat.le_trans hlo bel.size))
  clear b4
  rw [HF.out]
  obtain ⟨p, hp⟩ : ∃ p, fpos l y.num = p := ⟨_, rfl⟩
  rw [hp]
  have HP := Lib.hid hp
  clear hp
  go_wp2_with (first | ((with_reducible show wpList _ _ _ (⟨none, Op.store _ (.tmp 6) _, _, _, _, _⟩ :: _) _ _); refine wpList_store_blk rfl 32 (.tmp 6) (.tmp 43) rfl g6 rfl _ rfl _ 32 hrb (by rfl) (by kernel_rfl) (by kernel_rfl) ?_; intro w5 hq gr; replace htb := blk_a htb gr d_tb_rb; replace hyb := blk_a hyb gr d_yb_rb; replace own := owk_off own off_rb gr; replace kt := kt.newer gr pn_rb bel.size; replace bel := below_grown bel gr orb (Nat.le_trans hlo bel.size); clear hrb; have hrb := hq; clear hq gr))
  exact bodyPost_ret (results_cell_tmp_row rfl _ _ _ _ _ _ _ rfl hrb Try.underlying32 rfl (by kernel_rfl) (.bool false) rfl) rfl ⟨rfl, by rw [HNW.out]; exact ⟨A, n, c, htb, otb, own, HS.out, HOK2.out, HLEN.out, HM0.out, HM2.out⟩, kt, bel⟩
set_option linter.unusedVariables false in
set_option linter.unusedSimpArgs false in
set_option maxRecDepth 100000 in
set_option maxHeartbeats 16000000 in
theorem mac_at {lo gt : Nat} {age now : Int} {l : List En} {y : Ad4} {t : Int} {i : Nat} {x : En} (w : World) (hT : Tb lo gt w age now l) (hx : l[i]? = some x) (hy : x.num = y.num) (hk : x.k = true) (ho : tooOldB age (adv now t) x = false) : Calls Try.prog 13 #[.pointer (some ⟨gt, 0, none⟩), .agg #[.int .u8 (y.a.toNat : Int), .int .u8 (y.b.toNat : Int), .int .u8 (y.c.toNat : Int), .int .u8 (y.d.toNat : Int)], .int .i64 t] w fun e w' => e = .returned (.tuple #[.agg #[.int .u8 (x.m.a.toNat : Int), .int .u8 (x.m.b.toNat : Int), .int .u8 (x.m.c.toNat : Int), .int .u8 (x.m.d.toNat : Int), .int .u8 (x.m.e.toNat : Int), .int .u8 (x.m.f.toNat : Int)], .bool true]) ∧ Tb lo gt w' age (adv now t) l ∧ Kt [49, 52] w w' ∧ Below lo w w' := by
  obtain ⟨A, n, c, htb, otb, own, hS, hok, hlen, n0, n1⟩ := hT
  have hlo : lo ≤ w.heap.size := Nat.le_trans otb (Nat.le_of_lt (hlt htb))
  have off_tb := ofs_type own htb (by decide)
  have hl := row_len (by decide) enE_len own
  have h32 : n ≤ 32 := by omega
  have HLL := Lib.hid hl
  have HLO := Lib.hid hlo
  have HS := Lib.hid hS
  have HOK := Lib.hid hok
  have HLEN := Lib.hid hlen
  have H32 := Lib.hid h32
  obtain ⟨nw, hnw⟩ : ∃ x, adv now t = x := ⟨_, rfl⟩
  have hnw1 : now ≤ nw := by rw [← hnw]; exact adv_ge now t
  have hnw2 : nw ≤ 1099511627776 := by rw [← hnw]; exact adv_le n1
  have m0 : 0 ≤ nw := by omega
  have HNW := Lib.hid hnw
  have HM0 := Lib.hid m0
  have HM2 := Lib.hid hnw2
  have HOK2 : Hid (∀ e ∈ l, e.ok nw) := Lib.hid (fun e he => (hok e he).le hnw1)
  have kt := Kt.refl [49, 52] w
  clear hl hS hok hlen hnw n0 n1
  have hfd := HS.out.found hx hy
  have HP := Lib.hid hfd.1
  have HF := Lib.hid hfd.2
  have hin : i < n := by have h_ := (List.getElem?_eq_some_iff.1 hx).1; have h2_ := HLL.out; omega
  have i0 : (0 : Int) ≤ i := by omega
  have i1 : (i : Int) < n := by omega
  have hoke := HOK2.out _ (List.mem_of_getElem? hx)
  obtain ⟨gE, rfl, _⟩ := row_at own (by omega)
  have en := (owk_sle (by decide) enE_len own).1
  have av_en_tb := owk_av own off_tb
  clear hfd
  obtain ⟨ade, te, ke, me, re, wAe, wne, wce⟩ := x
  simp only at hk
  subst hk
  have hte0 : 0 ≤ te := hoke.1
  have hte1 : te ≤ nw := hoke.2.1
  clear hoke
  have HX := Lib.hid hx
  have HY := Lib.hid hy
  clear hx hy
  have HTO : Hid (tooOldB age nw (⟨ade, te, true, me, re, wAe, wne, wce⟩) = false) := Lib.hid (by rw [← HNW.out]; exact ho)
  clear ho
  have bel := Below.refl lo w
  go_enter Try.func13, Try.ntmps13
  go_wp2_with (first | ((with_reducible show wpList _ _ _ (⟨some 4, _, _, _, _, _⟩ :: _) _ _); refine wpList_box_n rfl 30 (.tmp 1) rfl #[.int .u8 (y.a.toNat : Int), .int .u8 (y.b.toNat : Int), .int .u8 (y.c.toNat : Int), .int .u8 (y.d.toNat : Int)] rfl ?_; intro g4 w1 ge lt hh bb; have d_tb_yb := ne_new (hlt htb) ge; have av_en_yb := en.av_new ge; have oyb := Nat.le_trans (Nat.le_trans hlo bel.size) ge; have off_yb := owk_new own ge; have pn_yb := Nat.le_trans bel.size ge; replace htb := blk_u htb bb; replace en := en.below bb; replace own := owk_under own bb; replace kt := kt.trans (kt_below bb); replace bel := bel.trans (bb.mono (Nat.le_trans hlo bel.size)); have hyb := hh; clear hh lt ge bb) | ((with_reducible show wpList _ _ _ (⟨some 6, _, _, _, _, _⟩ :: _) _ _); refine wpList_new_a rfl 32 rfl #[.int .u8 0, .int .u8 0, .int .u8 0, .int .u8 0, .int .u8 0, .int .u8 0] (by kernel_rfl) ?_; intro g6 w2 ge hh bb; have d_tb_rb := ne_new (hlt htb) ge; have d_yb_rb := ne_new (hlt hyb) ge; have av_en_rb := en.av_new ge; have orb := Nat.le_trans (Nat.le_trans hlo bel.size) ge; have off_rb := owk_new own ge; have pn_rb := Nat.le_trans bel.size ge; replace htb := blk_u htb bb; replace hyb := blk_u hyb bb; replace en := en.below bb; replace own := owk_under own bb; replace kt := kt.trans (kt_below bb); replace bel := bel.trans (bb.mono (Nat.le_trans hlo bel.size)); have hrb := hh; clear hh ge bb))
  with_reducible refine (adv_any _ _ htb).mono ?_
  rintro e w3 ⟨rfl, htb_, b3⟩
  replace en := en.away av_en_tb b3
  replace hyb := blk_a hyb b3 (ne_symm d_tb_yb)
  replace hrb := blk_a hrb b3 (ne_symm d_tb_rb)
  replace own := owk_off own off_tb b3
  replace kt := kt.trans (kt_grown b3 htb (by simp))
  replace bel := below_grown bel b3 otb (Nat.le_trans hlo bel.size)
  clear b3
  clear htb
  rw [HNW.out] at htb_
  have htb := htb_
  clear htb_
  have R15 := Lib.hid (range_lit hyb 0 4 [.int .u8 (y.a.toNat : Int), .int .u8 (y.b.toNat : Int), .int .u8 (y.c.toNat : Int), .int .u8 (y.d.toNat : Int)] rfl)
  go_wp2_with (first | ((with_reducible show wpList _ _ _ (⟨some 15, _, _, _, _, _⟩ :: _) _ _); refine wpList_load_rng 30 (.tmp 4) rfl (by kernel_rfl) _ _ rfl _ R15.out _ Try.underlying30 rfl (by kernel_rfl) ?_))
  try clear R15
  with_reducible refine (find_any y _ htb (owk_sle (by decide) enE_len own).1 HS.out (Nat.le_trans H32.out (by decide))).mono ?_
  rintro e w4 ⟨rfl, b4⟩
  replace htb := blk_u htb b4
  replace hyb := blk_u hyb b4
  replace hrb := blk_u hrb b4
  replace en := en.below b4
  replace own := owk_under own b4
  replace kt := kt.trans (kt_below b4)
  replace bel := bel.trans (b4.mono (Nat.le_trans hlo bel.size))
  clear b4
  rw [HF.out, HP.out]
  have R25 := cell_lit htb 2 _ rfl
  have R29 := Sle.zcell en HX.out 5 _ rfl
  have R37 := cell_lit htb 2 _ rfl
  have R40 := Lib.hid (Sle.zrange0 en HX.out 14 [.int .u8 (ade.a.toNat : Int), .int .u8 (ade.b.toNat : Int), .int .u8 (ade.c.toNat : Int), .int .u8 (ade.d.toNat : Int), .int .i64 te, .bool true, .int .u8 (me.a.toNat : Int), .int .u8 (me.b.toNat : Int), .int .u8 (me.c.toNat : Int), .int .u8 (me.d.toNat : Int), .int .u8 (me.e.toNat : Int), .int .u8 (me.f.toNat : Int), .int .i64 re, .slice wAe wne wce] rfl)
  go_wp2_with (first | ((with_reducible show wpList _ _ _ (⟨some 40, _, _, _, _, _⟩ :: _) _ _); refine wpList_load_rng 52 (.tmp 39) rfl (by kernel_rfl) _ _ rfl _ R40.out _ Try.underlying52 rfl (by kernel_rfl) ?_))
  try clear R25
  try clear R29
  try clear R37
  try clear R40
  with_reducible refine (told_any (⟨ade, te, true, me, re, wAe, wne, wce⟩) _ htb HM0.out HM2.out hte0 hte1).mono ?_
  rintro e w5 ⟨rfl, b5⟩
  replace htb := blk_u htb b5
  replace hyb := blk_u hyb b5
  replace hrb := blk_u hrb b5
  replace en := en.below b5
  replace own := owk_under own b5
  replace kt := kt.trans (kt_below b5)
  replace bel := bel.trans (b5.mono (Nat.le_trans hlo bel.size))
  clear b5
  rw [HTO.out]
  have R47 := cell_lit htb 2 _ rfl
  have R51 := Lib.hid (Sle.zrange en HX.out 6 6 [.int .u8 (me.a.toNat : Int), .int .u8 (me.b.toNat : Int), .int .u8 (me.c.toNat : Int), .int .u8 (me.d.toNat : Int), .int .u8 (me.e.toNat : Int), .int .u8 (me.f.toNat : Int)] rfl)
  go_wp2_with (first | ((with_reducible show wpList _ _ _ (⟨some 51, _, _, _, _, _⟩ :: _) _ _); refine wpList_load_rng 32 (.tmp 50) rfl (by kernel_rfl) _ _ rfl _ R51.out _ Try.underlying32 rfl (by kernel_rfl) ?_) | ((with_reducible show wpList _ _ _ (⟨none, Op.store _ (.tmp 6) _, _, _, _, _⟩ :: _) _ _); refine wpList_store_blk rfl 32 (.tmp 6) (.tmp 51) rfl g6 rfl _ rfl _ 32 hrb (by rfl) (by kernel_rfl) (by kernel_rfl) ?_; intro w6 hq gr; replace en := en.away av_en_rb gr; replace htb := blk_a htb gr d_tb_rb; replace hyb := blk_a hyb gr d_yb_rb; replace own := owk_off own off_rb gr; replace kt := kt.newer gr pn_rb bel.size; replace bel := below_grown bel gr orb (Nat.le_trans hlo bel.size); clear hrb; have hrb := hq; clear hq gr))
  try clear R47
  try clear R51
  exact bodyPost_ret (results_cell_tmp_row rfl _ _ _ _ _ _ _ rfl hrb Try.underlying32 rfl (by kernel_rfl) (.bool true) rfl) rfl ⟨rfl, by rw [HNW.out]; exact ⟨(some ⟨gE, 0, none⟩), n, c, htb, otb, own, HS.out, HOK2.out, HLEN.out, HM0.out, HM2.out⟩, kt, bel⟩
set_option linter.unusedVariables false in
set_option linter.unusedSimpArgs false in
set_option maxRecDepth 100000 in
set_option maxHeartbeats 16000000 in
theorem mac_old {lo gt : Nat} {age now : Int} {l : List En} {y : Ad4} {t : Int} {i : Nat} {x : En} (w : World) (hT : Tb lo gt w age now l) (hx : l[i]? = some x) (hy : x.num = y.num) (hk : x.k = true) (ho : tooOldB age (adv now t) x = true) : Calls Try.prog 13 #[.pointer (some ⟨gt, 0, none⟩), .agg #[.int .u8 (y.a.toNat : Int), .int .u8 (y.b.toNat : Int), .int .u8 (y.c.toNat : Int), .int .u8 (y.d.toNat : Int)], .int .i64 t] w fun e w' => e = .returned (.tuple #[.agg #[.int .u8 0, .int .u8 0, .int .u8 0, .int .u8 0, .int .u8 0, .int .u8 0], .bool false]) ∧ Tb lo gt w' age (adv now t) l ∧ Kt [49, 52] w w' ∧ Below lo w w' := by
  obtain ⟨A, n, c, htb, otb, own, hS, hok, hlen, n0, n1⟩ := hT
  have hlo : lo ≤ w.heap.size := Nat.le_trans otb (Nat.le_of_lt (hlt htb))
  have off_tb := ofs_type own htb (by decide)
  have hl := row_len (by decide) enE_len own
  have h32 : n ≤ 32 := by omega
  have HLL := Lib.hid hl
  have HLO := Lib.hid hlo
  have HS := Lib.hid hS
  have HOK := Lib.hid hok
  have HLEN := Lib.hid hlen
  have H32 := Lib.hid h32
  obtain ⟨nw, hnw⟩ : ∃ x, adv now t = x := ⟨_, rfl⟩
  have hnw1 : now ≤ nw := by rw [← hnw]; exact adv_ge now t
  have hnw2 : nw ≤ 1099511627776 := by rw [← hnw]; exact adv_le n1
  have m0 : 0 ≤ nw := by omega
  have HNW := Lib.hid hnw
  have HM0 := Lib.hid m0
  have HM2 := Lib.hid hnw2
  have HOK2 : Hid (∀ e ∈ l, e.ok nw) := Lib.hid (fun e he => (hok e he).le hnw1)
  have kt := Kt.refl [49, 52] w
  clear hl hS hok hlen hnw n0 n1
  have hfd := HS.out.found hx hy
  have HP := Lib.hid hfd.1
  have HF := Lib.hid hfd.2
  have hin : i < n := by have h_ := (List.getElem?_eq_some_iff.1 hx).1; have h2_ := HLL.out; omega
  have i0 : (0 : Int) ≤ i := by omega
  have i1 : (i : Int) < n := by omega
  have hoke := HOK2.out _ (List.mem_of_getElem? hx)
  obtain ⟨gE, rfl, _⟩ := row_at own (by omega)
  have en := (owk_sle (by decide) enE_len own).1
  have av_en_tb := owk_av own off_tb
  clear hfd
  obtain ⟨ade, te, ke, me, re, wAe, wne, wce⟩ := x
  simp only at hk
  subst hk
  have hte0 : 0 ≤ te := hoke.1
  have hte1 : te ≤ nw := hoke.2.1
  clear hoke
  have HX := Lib.hid hx
  have HY := Lib.hid hy
  clear hx hy
  have HTO : Hid (tooOldB age nw (⟨ade, te, true, me, re, wAe, wne, wce⟩) = true) := Lib.hid (by rw [← HNW.out]; exact ho)
  clear ho
  have bel := Below.refl lo w
  go_enter Try.func13, Try.ntmps13
  go_wp2_with (first | ((with_reducible show wpList _ _ _ (⟨some 4, _, _, _, _, _⟩ :: _) _ _); refine wpList_box_n rfl 30 (.tmp 1) rfl #[.int .u8 (y.a.toNat : Int), .int .u8 (y.b.toNat : Int), .int .u8 (y.c.toNat : Int), .int .u8 (y.d.toNat : Int)] rfl ?_; intro g4 w1 ge lt hh bb; have d_tb_yb := ne_new (hlt htb) ge; have av_en_yb := en.av_new ge; have oyb := Nat.le_trans (Nat.le_trans hlo bel.size) ge; have off_yb := owk_new own ge; have pn_yb := Nat.le_trans bel.size ge; replace htb := blk_u htb bb; replace en := en.below bb; replace own := owk_under own bb; replace kt := kt.trans (kt_below bb); replace bel := bel.trans (bb.mono (Nat.le_trans hlo bel.size)); have hyb := hh; clear hh lt ge bb) | ((with_reducible show wpList _ _ _ (⟨some 6, _, _, _, _, _⟩ :: _) _ _); refine wpList_new_a rfl 32 rfl #[.int .u8 0, .int .u8 0, .int .u8 0, .int .u8 0, .int .u8 0, .int .u8 0] (by kernel_rfl) ?_; intro g6 w2 ge hh bb; have d_tb_rb := ne_new (hlt htb) ge; have d_yb_rb := ne_new (hlt hyb) ge; have av_en_rb := en.av_new ge; have orb := Nat.le_trans (Nat.le_trans hlo bel.size) ge; have off_rb := owk_new own ge; have pn_rb := Nat.le_trans bel.size ge; replace htb := blk_u htb bb; replace hyb := blk_u hyb bb; replace en := en.below bb; replace own := owk_under own bb; replace kt := kt.trans (kt_below bb); replace bel := bel.trans (bb.mono (Nat.le_trans hlo bel.size)); have hrb := hh; clear hh ge bb))
  with_reducible refine (adv_any _ _ htb).mono ?_
  rintro e w3 ⟨rfl, htb_, b3⟩
  replace en := en.away av_en_tb b3
  replace hyb := blk_a hyb b3 (ne_symm d_tb_yb)
  replace hrb := blk_a hrb b3 (ne_symm d_tb_rb)
  replace own := owk_off own off_tb b3
  replace kt := kt.trans (kt_grown b3 htb (by simp))
  replace bel := below_grown bel b3 otb (Nat.le_trans hlo bel.size)
  clear b3
  clear htb
  rw [HNW.out] at htb_
  have htb := htb_
  clear htb_
  have R15 := Lib.hid (range_lit hyb 0 4 [.int .u8 (y.a.toNat : Int), .int .u8 (y.b.toNat : Int), .int .u8 (y.c.toNat : Int), .int .u8 (y.d.toNat : Int)] rfl)
  go_wp2_with (first | ((with_reducible show wpList _ _ _ (⟨some 15, _, _, _, _, _⟩ :: _) _ _); refine wpList_load_rng 30 (.tmp 4) rfl (by kernel_rfl) _ _ rfl _ R15.out _ Try.underlying30 rfl (by kernel_rfl) ?_))
  try clear R15
  with_reducible refine (find_any y _ htb (owk_sle (by decide) enE_len own).1 HS.out (Nat.le_trans H32.out (by decide))).mono ?_
  rintro e w4 ⟨rfl, b4⟩
  replace htb := blk_u htb b4
  replace hyb := blk_u hyb b4
  replace hrb := blk_u hrb b4
  replace en := en.below b4
  replace own := owk_under own b4
  replace kt := kt.trans (kt_below b4)
  replace bel := bel.trans (b4.mono (Nat.le_trans hlo bel.size))
  clear b4
  rw [HF.out, HP.out]
  have R25 := cell_lit htb 2 _ rfl
  have R29 := Sle.zcell en HX.out 5 _ rfl
  have R37 := cell_lit htb 2 _ rfl
  have R40 := Lib.hid (Sle.zrange0 en HX.out 14 [.int .u8 (ade.a.toNat : Int), .int .u8 (ade.b.toNat : Int), .int .u8 (ade.c.toNat : Int), .int .u8 (ade.d.toNat : Int), .int .i64 te, .bool true, .int .u8 (me.a.toNat : Int), .int .u8 (me.b.toNat : Int), .int .u8 (me.c.toNat : Int), .int .u8 (me.d.toNat : Int), .int .u8 (me.e.toNat : Int), .int .u8 (me.f.toNat : Int), .int .i64 re, .slice wAe wne wce] rfl)
  go_wp2_with (first | ((with_reducible show wpList _ _ _ (⟨some 40, _, _, _, _, _⟩ :: _) _ _); refine wpList_load_rng 52 (.tmp 39) rfl (by kernel_rfl) _ _ rfl _ R40.out _ Try.underlying52 rfl (by kernel_rfl) ?_))
  try clear R25
  try clear R29
  try clear R37
  try clear R40
  with_reducible refine (told_any (⟨ade, te, true, me, re, wAe, wne, wce⟩) _ htb HM0.out HM2.out hte0 hte1).mono ?_
  rintro e w5 ⟨rfl, b5⟩
  replace htb := blk_u htb b5
  replace hyb := blk_u hyb b5
  replace hrb := blk_u hrb b5
  replace en := en.below b5
  replace own := owk_under own b5
  replace kt := kt.trans (kt_below b5)
  replace bel := bel.trans (b5.mono (Nat.le_trans hlo bel.size))
  clear b5
  rw [HTO.out]
  go_wp2_with (first | ((with_reducible show wpList _ _ _ (⟨none, Op.store _ (.tmp 6) _, _, _, _, _⟩ :: _) _ _); refine wpList_store_blk rfl 32 (.tmp 6) (.tmp 43) rfl g6 rfl _ rfl _ 32 hrb (by rfl) (by kernel_rfl) (by kernel_rfl) ?_; intro w6 hq gr; replace en := en.away av_en_rb gr; replace htb := blk_a htb gr d_tb_rb; replace hyb := blk_a hyb gr d_yb_rb; replace own := owk_off own off_rb gr; replace kt := kt.newer gr pn_rb bel.size; replace bel := below_grown bel gr orb (Nat.le_trans hlo bel.size); clear hrb; have hrb := hq; clear hq gr))
  exact bodyPost_ret (results_cell_tmp_row rfl _ _ _ _ _ _ _ rfl hrb Try.underlying32 rfl (by kernel_rfl) (.bool false) rfl) rfl ⟨rfl, by rw [HNW.out]; exact ⟨(some ⟨gE, 0, none⟩), n, c, htb, otb, own, HS.out, HOK2.out, HLEN.out, HM0.out, HM2.out⟩, kt, bel⟩
set_option linter.unusedVariables false in
set_option linter.unusedSimpArgs false in
set_option maxRecDepth 100000 in
set_option maxHeartbeats 16000000 in
theorem learn_skip {lo gt : Nat} {age now : Int} {l : List En} {y : Ad4} {m : Mc6} {t : Int}   (w : World) (hT : Tb lo gt w age now l) (hf : fhas l y.num = false) : Calls Try.prog 10 #[.pointer (some ⟨gt, 0, none⟩), .agg #[.int .u8 (y.a.toNat : Int), .int .u8 (y.b.toNat : Int), .int .u8 (y.c.toNat : Int), .int .u8 (y.d.toNat : Int)], .agg #[.int .u8 (m.a.toNat : Int), .int .u8 (m.b.toNat : Int), .int .u8 (m.c.toNat : Int), .int .u8 (m.d.toNat : Int), .int .u8 (m.e.toNat : Int), .int .u8 (m.f.toNat : Int)], .int .i64 t, .bool false] w fun e w' => e = .returned (.slice none 0 0) ∧ Tb lo gt w' age (adv now t) l ∧ Kt [49, 52] w w' ∧ Below lo w w' := by
  obtain ⟨A, n, c, htb, otb, own, hS, hok, hlen, n0, n1⟩ := hT
  have hlo : lo ≤ w.heap.size := Nat.le_trans otb (Nat.le_of_lt (hlt htb))
  have off_tb := ofs_type own htb (by decide)
  have hl := row_len (by decide) enE_len own
  have h32 : n ≤ 32 := by omega
  have HLL := Lib.hid hl
  have HLO := Lib.hid hlo
  have HS := Lib.hid hS
  have HOK := Lib.hid hok
  have HLEN := Lib.hid hlen
  have H32 := Lib.hid h32
  obtain ⟨nw, hnw⟩ : ∃ x, adv now t = x := ⟨_, rfl⟩
  have hnw1 : now ≤ nw := by rw [← hnw]; exact adv_ge now t
  have hnw2 : nw ≤ 1099511627776 := by rw [← hnw]; exact adv_le n1
  have m0 : 0 ≤ nw := by omega
  have HNW := Lib.hid hnw
  have HM0 := Lib.hid m0
  have HM2 := Lib.hid hnw2
  have HOK2 : Hid (∀ e ∈ l, e.ok nw) := Lib.hid (fun e he => (hok e he).le hnw1)
  have kt := Kt.refl [49, 52] w
  clear hl hS hok hlen hnw n0 n1
  have HF : Hid (fhas l y.num = false) := Lib.hid hf
  clear hf
  have bel := Below.refl lo w
  go_enter Try.func10, Try.ntmps10
  go_wp2_with (first | ((with_reducible show wpList _ _ _ (⟨some 6, _, _, _, _, _⟩ :: _) _ _); refine wpList_box_n rfl 30 (.tmp 1) rfl #[.int .u8 (y.a.toNat : Int), .int .u8 (y.b.toNat : Int), .int .u8 (y.c.toNat : Int), .int .u8 (y.d.toNat : Int)] rfl ?_; intro g6 w1 ge lt hh bb; have d_tb_yb := ne_new (hlt htb) ge; have oyb := Nat.le_trans (Nat.le_trans hlo bel.size) ge; have off_yb := owk_new own ge; have pn_yb := Nat.le_trans bel.size ge; replace htb := blk_u htb bb; replace own := owk_under own bb; replace kt := kt.trans (kt_below bb); replace bel := bel.trans (bb.mono (Nat.le_trans hlo bel.size)); have hyb := hh; clear hh lt ge bb) | ((with_reducible show wpList _ _ _ (⟨some 7, _, _, _, _, _⟩ :: _) _ _); refine wpList_box_n rfl 32 (.tmp 2) rfl #[.int .u8 (m.a.toNat : Int), .int .u8 (m.b.toNat : Int), .int .u8 (m.c.toNat : Int), .int .u8 (m.d.toNat : Int), .int .u8 (m.e.toNat : Int), .int .u8 (m.f.toNat : Int)] rfl ?_; intro g7 w2 ge lt hh bb; have d_tb_mb := ne_new (hlt htb) ge; have d_yb_mb := ne_new (hlt hyb) ge; have omb := Nat.le_trans (Nat.le_trans hlo bel.size) ge; have off_mb := owk_new own ge; have pn_mb := Nat.le_trans bel.size ge; replace htb := blk_u htb bb; replace hyb := blk_u hyb bb; replace own := owk_under own bb; replace kt := kt.trans (kt_below bb); replace bel := bel.trans (bb.mono (Nat.le_trans hlo bel.size)); have hmb := hh; clear hh lt ge bb))
  with_reducible refine (adv_any _ _ htb).mono ?_
  rintro e w3 ⟨rfl, htb_, b3⟩
  replace hyb := blk_a hyb b3 (ne_symm d_tb_yb)
  replace hmb := blk_a hmb b3 (ne_symm d_tb_mb)
  replace own := owk_off own off_tb b3
  replace kt := kt.trans (kt_grown b3 htb (by simp))
  replace bel := below_grown bel b3 otb (Nat.le_trans hlo bel.size)
  clear b3
  clear htb
  rw [HNW.out] at htb_
  have htb := htb_
  clear htb_
  go_wp2_with fail
  replace bel := bel.drew
  replace htb : w3.drew.heap[gt]? = _ := htb
  replace hyb : w3.drew.heap[g6]? = _ := hyb
  replace hmb : w3.drew.heap[g7]? = _ := hmb
  replace own := World.ownsRow.drew own
  replace kt := kt_drew kt
  refine wp_region_held_drew (S := fun W => W.heap[g6]? = some (.cells #[.int .u8 (y.a.toNat : Int), .int .u8 (y.b.toNat : Int), .int .u8 (y.c.toNat : Int), .int .u8 (y.d.toNat : Int)] 30 (0, 0)) ∧ W.heap[gt]? = some (.cells #[.int .i64 age, .int .i64 nw, .slice A n c] 49 (0, 0)) ∧ W.heap[g7]? = some (.cells #[.int .u8 (m.a.toNat : Int), .int .u8 (m.b.toNat : Int), .int .u8 (m.c.toNat : Int), .int .u8 (m.d.toNat : Int), .int .u8 (m.e.toNat : Int), .int .u8 (m.f.toNat : Int)] 32 (0, 0))) (by kernel_rfl) ⟨hyb, htb, hmb⟩ (fun hH => ?_)
  generalize w3.drew = w4 at bel htb hyb hmb own kt hH ⊢
  refine wpAnyH_take (i := 0) (v := .agg #[.int .u8 (y.a.toNat : Int), .int .u8 (y.b.toNat : Int), .int .u8 (y.c.toNat : Int), .int .u8 (y.d.toNat : Int)]) rfl (by kernel_rfl) (by kernel_rfl) (by kernel_rfl) (fun _ _ _ h => h) (yieldsIf_load_part (by kernel_rfl) 30 _ rfl g6 0 4 rfl _ 30 (0, 0) (fun W hW => hW.1) _ rfl _ Try.underlying30 rfl (by kernel_rfl)) hH ?_
  simp only [Act.put, List.getElem_toArray, List.getElem_cons_zero, List.setIfInBounds_toArray, List.set_cons_zero, List.set_cons_succ]
  refine wpAnyH_take (i := 1) (v := ?_) rfl (by kernel_rfl) (by kernel_rfl) (by kernel_rfl) (fun _ _ _ h => h) (Or.inl ⟨by rfl, ?_⟩) hH ?_
  rotate_left
  · ((intro W hW; clear hW; go_simp) <;> with_reducible rfl)
  simp only [Act.put, List.getElem_toArray, List.getElem_cons_zero, List.getElem_cons_succ, List.setIfInBounds_toArray, List.set_cons_zero, List.set_cons_succ]
  refine wpAnyH_take (i := 2) (v := ?_) rfl (by kernel_rfl) (by kernel_rfl) (by kernel_rfl) (fun _ _ _ h => h) (Or.inl ⟨by rfl, ?_⟩) hH ?_
  rotate_left
  · ((intro W hW; clear hW; go_simp) <;> with_reducible rfl)
  simp only [Act.put, List.getElem_toArray, List.getElem_cons_zero, List.getElem_cons_succ, List.setIfInBounds_toArray, List.set_cons_zero, List.set_cons_succ]
  refine wpAnyH_take (i := 3) (v := ?_) rfl (by kernel_rfl) (by kernel_rfl) (by kernel_rfl) (fun _ _ _ h => h) (Or.inl ⟨by rfl, ?_⟩) hH ?_
  rotate_left
  · ((intro W hW; clear hW; go_simp) <;> with_reducible rfl)
  simp only [Act.put, List.getElem_toArray, List.getElem_cons_zero, List.getElem_cons_succ, List.setIfInBounds_toArray, List.set_cons_zero, List.set_cons_succ]
  refine wpAnyH_take (i := 4) (v := ?_) rfl (by kernel_rfl) (by kernel_rfl) (by kernel_rfl) (fun _ _ _ h => h) (Or.inl ⟨by rfl, ?_⟩) hH ?_
  rotate_left
  · ((intro W hW; have hk := cell_lit (hW.2.1) 1 _ rfl; clear hW; go_simp) <;> with_reducible rfl)
  simp only [Act.put, List.getElem_toArray, List.getElem_cons_zero, List.getElem_cons_succ, List.setIfInBounds_toArray, List.set_cons_zero, List.set_cons_succ]
  refine wpAnyH_take (i := 5) (v := .agg #[.int .u8 (m.a.toNat : Int), .int .u8 (m.b.toNat : Int), .int .u8 (m.c.toNat : Int), .int .u8 (m.d.toNat : Int), .int .u8 (m.e.toNat : Int), .int .u8 (m.f.toNat : Int)]) rfl (by kernel_rfl) (by kernel_rfl) (by kernel_rfl) (fun _ _ _ h => h) (yieldsIf_load_part (by kernel_rfl) 32 _ rfl g7 0 6 rfl _ 32 (0, 0) (fun W hW => hW.2.2) _ rfl _ Try.underlying32 rfl (by kernel_rfl)) hH ?_
  simp only [Act.put, List.getElem_toArray, List.getElem_cons_zero, List.getElem_cons_succ, List.setIfInBounds_toArray, List.set_cons_zero, List.set_cons_succ]
  refine wpAnyH_take (i := 6) (v := ?_) rfl (by kernel_rfl) (by kernel_rfl) (by kernel_rfl) (fun _ _ _ h => h) (Or.inl ⟨by rfl, ?_⟩) hH ?_
  rotate_left
  · ((intro W hW; clear hW; go_simp) <;> with_reducible rfl)
  simp only [Act.put, List.getElem_toArray, List.getElem_cons_zero, List.getElem_cons_succ, List.setIfInBounds_toArray, List.set_cons_zero, List.set_cons_succ]
  refine wpAnyH_ready (rs := [7]) (by kernel_rfl) (by simp) ?_
  refine AllReadyH.cons (o := _) rfl (fun K hK => ?_) AllReadyH.nil
  simp only [List.getElem_toArray, List.getElem_cons_zero, List.getElem_cons_succ]
  rw [if_pos (by rfl)]
  refine wp_new_a 52 rfl #[.int .u8 0, .int .u8 0, .int .u8 0, .int .u8 0, .int .i64 0, .bool false, .int .u8 0, .int .u8 0, .int .u8 0, .int .u8 0, .int .u8 0, .int .u8 0, .int .i64 0, .slice none 0 0] (by kernel_rfl) ?_
  intro g11 w5 ge hh bb
  have d_tb_lb := ne_new (hlt htb) ge
  have d_yb_lb := ne_new (hlt hyb) ge
  have d_mb_lb := ne_new (hlt hmb) ge
  have olb := Nat.le_trans (Nat.le_trans hlo bel.size) ge
  have off_lb := owk_new own ge
  have pn_lb := Nat.le_trans bel.size ge
  replace htb := blk_u htb bb
  replace hyb := blk_u hyb bb
  replace hmb := blk_u hmb bb
  replace own := owk_under own bb
  replace kt := kt.trans (kt_below bb)
  replace bel := bel.trans (bb.mono (Nat.le_trans hlo bel.size))
  have hlb := hh
  clear hh ge bb
  refine hK.out _ _ ⟨hyb, htb, hmb⟩ (fun hH6 => ?_)
  clear hK K
  simp only [Act.put, List.setIfInBounds_toArray, List.set_cons_zero, List.set_cons_succ]
  refine wpAnyH_ready (rs := [8]) (by kernel_rfl) (by simp) ?_
  refine AllReadyH.cons (o := _) rfl (fun K hK => ?_) AllReadyH.nil
  simp only [List.getElem_toArray, List.getElem_cons_zero, List.getElem_cons_succ]
  rw [if_pos (by rfl)]
  refine wp_store_blk 52 (.tmp 11) (.tmp 24) rfl g11 rfl _ rfl _ 52 hlb (by rfl) (by kernel_rfl) (by kernel_rfl) ?_
  intro w7 hq gr
  replace htb := blk_a htb gr d_tb_lb
  replace hyb := blk_a hyb gr d_yb_lb
  replace hmb := blk_a hmb gr d_mb_lb
  replace own := owk_off own off_lb gr
  replace kt := kt.newer gr pn_lb bel.size
  replace bel := below_grown bel gr olb (Nat.le_trans hlo bel.size)
  clear hlb
  have hlb := hq
  clear hq gr
  refine hK.out _ _ ⟨hyb, htb, hmb⟩ (fun hH8 => ?_)
  clear hK K
  simp only [Act.put]
  refine wpAnyH_done (by kernel_rfl) ?_ _
  have R27 := Lib.hid (range_lit hyb 0 4 [.int .u8 (y.a.toNat : Int), .int .u8 (y.b.toNat : Int), .int .u8 (y.c.toNat : Int), .int .u8 (y.d.toNat : Int)] rfl)
  go_wp2_with (first | ((with_reducible show wpList _ _ _ (⟨some 27, _, _, _, _, _⟩ :: _) _ _); refine wpList_load_rng 30 (.tmp 6) rfl (by kernel_rfl) _ _ rfl _ R27.out _ Try.underlying30 rfl (by kernel_rfl) ?_))
  try clear R27
  with_reducible refine (find_any y _ htb (owk_sle (by decide) enE_len own).1 HS.out (Nat.le_trans H32.out (by decide))).mono ?_
  rintro e w9 ⟨rfl, b9⟩
  replace htb := blk_u htb b9
  replace hyb := blk_u hyb b9
  replace hmb := blk_u hmb b9
  replace hlb := blk_u hlb b9
  replace own := owk_under own b9
  replace kt := kt.trans (kt_below b9)
  replace bel := bel.trans (b9.mono (Nat.le_trans hlo bel.size))
  clear b9
  rw [HF.out]
  obtain ⟨p, hp⟩ : ∃ p, fpos l y.num = p := ⟨_, rfl⟩
  rw [hp]
  have HP := Lib.hid hp
  clear hp
  go_wp2_with fail
  go_ret
  exact ⟨rfl, by rw [HNW.out]; exact ⟨A, n, c, htb, otb, own, HS.out, HOK2.out, HLEN.out, HM0.out, HM2.out⟩, kt, bel⟩
set_option linter.unusedVariables false in
set_option linter.unusedSimpArgs false in
set_option maxRecDepth 100000 in
set_option maxHeartbeats 16000000 in
theorem learn_new {lo gt : Nat} {age now : Int} {l : List En} {y : Ad4} {m : Mc6} {t : Int}   (w : World) (hT : Tb lo gt w age now l) (hf : fhas l y.num = false) : Calls Try.prog 10 #[.pointer (some ⟨gt, 0, none⟩), .agg #[.int .u8 (y.a.toNat : Int), .int .u8 (y.b.toNat : Int), .int .u8 (y.c.toNat : Int), .int .u8 (y.d.toNat : Int)], .agg #[.int .u8 (m.a.toNat : Int), .int .u8 (m.b.toNat : Int), .int .u8 (m.c.toNat : Int), .int .u8 (m.d.toNat : Int), .int .u8 (m.e.toNat : Int), .int .u8 (m.f.toNat : Int)], .int .i64 t, .bool true] w fun e w' => e = .returned (.slice none 0 0) ∧ Tb lo gt w' age (adv now t) (addE l ⟨y, adv now t, true, m, 0, none, 0, 0⟩).1 ∧ Kt [49, 52] w w' ∧ Below lo w w' := by
  obtain ⟨A, n, c, htb, otb, own, hS, hok, hlen, n0, n1⟩ := hT
  have hlo : lo ≤ w.heap.size := Nat.le_trans otb (Nat.le_of_lt (hlt htb))
  have off_tb := ofs_type own htb (by decide)
  have hl := row_len (by decide) enE_len own
  have h32 : n ≤ 32 := by omega
  have HLL := Lib.hid hl
  have HLO := Lib.hid hlo
  have HS := Lib.hid hS
  have HOK := Lib.hid hok
  have HLEN := Lib.hid hlen
  have H32 := Lib.hid h32
  obtain ⟨nw, hnw⟩ : ∃ x, adv now t = x := ⟨_, rfl⟩
  have hnw1 : now ≤ nw := by rw [← hnw]; exact adv_ge now t
  have hnw2 : nw ≤ 1099511627776 := by rw [← hnw]; exact adv_le n1
  have m0 : 0 ≤ nw := by omega
  have HNW := Lib.hid hnw
  have HM0 := Lib.hid m0
  have HM2 := Lib.hid hnw2
  have HOK2 : Hid (∀ e ∈ l, e.ok nw) := Lib.hid (fun e he => (hok e he).le hnw1)
  have kt := Kt.refl [49, 52] w
  clear hl hS hok hlen hnw n0 n1
  have HF : Hid (fhas l y.num = false) := Lib.hid hf
  clear hf
  have bel := Below.refl lo w
  go_enter Try.func10, Try.ntmps10
  go_wp2_with (first | ((with_reducible show wpList _ _ _ (⟨some 6, _, _, _, _, _⟩ :: _) _ _); refine wpList_box_n rfl 30 (.tmp 1) rfl #[.int .u8 (y.a.toNat : Int), .int .u8 (y.b.toNat : Int), .int .u8 (y.c.toNat : Int), .int .u8 (y.d.toNat : Int)] rfl ?_; intro g6 w1 ge lt hh bb; have d_tb_yb := ne_new (hlt htb) ge; have oyb := Nat.le_trans (Nat.le_trans hlo bel.size) ge; have off_yb := owk_new own ge; have pn_yb := Nat.le_trans bel.size ge; replace htb := blk_u htb bb; replace own := owk_under own bb; replace kt := kt.trans (kt_below bb); replace bel := bel.trans (bb.mono (Nat.le_trans hlo bel.size)); have hyb := hh; clear hh lt ge bb) | ((with_reducible show wpList _ _ _ (⟨some 7, _, _, _, _, _⟩ :: _) _ _); refine wpList_box_n rfl 32 (.tmp 2) rfl #[.int .u8 (m.a.toNat : Int), .int .u8 (m.b.toNat : Int), .int .u8 (m.c.toNat : Int), .int .u8 (m.d.toNat : Int), .int .u8 (m.e.toNat : Int), .int .u8 (m.f.toNat : Int)] rfl ?_; intro g7 w2 ge lt hh bb; have d_tb_mb := ne_new (hlt htb) ge; have d_yb_mb := ne_new (hlt hyb) ge; have omb := Nat.le_trans (Nat.le_trans hlo bel.size) ge; have off_mb := owk_new own ge; have pn_mb := Nat.le_trans bel.size ge; replace htb := blk_u htb bb; replace hyb := blk_u hyb bb; replace own := owk_under own bb; replace kt := kt.trans (kt_below bb); replace bel := bel.trans (bb.mono (Nat.le_trans hlo bel.size)); have hmb := hh; clear hh lt ge bb))
  with_reducible refine (adv_any _ _ htb).mono ?_
  rintro e w3 ⟨rfl, htb_, b3⟩
  replace hyb := blk_a hyb b3 (ne_symm d_tb_yb)
  replace hmb := blk_a hmb b3 (ne_symm d_tb_mb)
  replace own := owk_off own off_tb b3
  replace kt := kt.trans (kt_grown b3 htb (by simp))
  replace bel := below_grown bel b3 otb (Nat.le_trans hlo bel.size)
  clear b3
  clear htb
  rw [HNW.out] at htb_
  have htb := htb_
  clear htb_
  go_wp2_with fail
  replace bel := bel.drew
  replace htb : w3.drew.heap[gt]? = _ := htb
  replace hyb : w3.drew.heap[g6]? = _ := hyb
  replace hmb : w3.drew.heap[g7]? = _ := hmb
  replace own := World.ownsRow.drew own
  replace kt := kt_drew kt
  refine wp_region_held_drew (S := fun W => W.heap[g6]? = some (.cells #[.int .u8 (y.a.toNat : Int), .int .u8 (y.b.toNat : Int), .int .u8 (y.c.toNat : Int), .int .u8 (y.d.toNat : Int)] 30 (0, 0)) ∧ W.heap[gt]? = some (.cells #[.int .i64 age, .int .i64 nw, .slice A n c] 49 (0, 0)) ∧ W.heap[g7]? = some (.cells #[.int .u8 (m.a.toNat : Int), .int .u8 (m.b.toNat : Int), .int .u8 (m.c.toNat : Int), .int .u8 (m.d.toNat : Int), .int .u8 (m.e.toNat : Int), .int .u8 (m.f.toNat : Int)] 32 (0, 0))) (by kernel_rfl) ⟨hyb, htb, hmb⟩ (fun hH => ?_)
  generalize w3.drew = w4 at bel htb hyb hmb own kt hH ⊢
  refine wpAnyH_take (i := 0) (v := .agg #[.int .u8 (y.a.toNat : Int), .int .u8 (y.b.toNat : Int), .int .u8 (y.c.toNat : Int), .int .u8 (y.d.toNat : Int)]) rfl (by kernel_rfl) (by kernel_rfl) (by kernel_rfl) (fun _ _ _ h => h) (yieldsIf_load_part (by kernel_rfl) 30 _ rfl g6 0 4 rfl _ 30 (0, 0) (fun W hW => hW.1) _ rfl _ Try.underlying30 rfl (by kernel_rfl)) hH ?_
  simp only [Act.put, List.getElem_toArray, List.getElem_cons_zero, List.setIfInBounds_toArray, List.set_cons_zero, List.set_cons_succ]
  refine wpAnyH_take (i := 1) (v := ?_) rfl (by kernel_rfl) (by kernel_rfl) (by kernel_rfl) (fun _ _ _ h => h) (Or.inl ⟨by rfl, ?_⟩) hH ?_
  rotate_left
  · ((intro W hW; clear hW; go_simp) <;> with_reducible rfl)
  simp only [Act.put, List.getElem_toArray, List.getElem_cons_zero, List.getElem_cons_succ, List.setIfInBounds_toArray, List.set_cons_zero, List.set_cons_succ]
  refine wpAnyH_take (i := 2) (v := ?_) rfl (by kernel_rfl) (by kernel_rfl) (by kernel_rfl) (fun _ _ _ h => h) (Or.inl ⟨by rfl, ?_⟩) hH ?_
  rotate_left
  · ((intro W hW; clear hW; go_simp) <;> with_reducible rfl)
  simp only [Act.put, List.getElem_toArray, List.getElem_cons_zero, List.getElem_cons_succ, List.setIfInBounds_toArray, List.set_cons_zero, List.set_cons_succ]
  refine wpAnyH_take (i := 3) (v := ?_) rfl (by kernel_rfl) (by kernel_rfl) (by kernel_rfl) (fun _ _ _ h => h) (Or.inl ⟨by rfl, ?_⟩) hH ?_
  rotate_left
  · ((intro W hW; clear hW; go_simp) <;> with_reducible rfl)
  simp only [Act.put, List.getElem_toArray, List.getElem_cons_zero, List.getElem_cons_succ, List.setIfInBounds_toArray, List.set_cons_zero, List.set_cons_succ]
  refine wpAnyH_take (i := 4) (v := ?_) rfl (by kernel_rfl) (by kernel_rfl) (by kernel_rfl) (fun _ _ _ h => h) (Or.inl ⟨by rfl, ?_⟩) hH ?_
  rotate_left
  · ((intro W hW; have hk := cell_lit (hW.2.1) 1 _ rfl; clear hW; go_simp) <;> with_reducible rfl)
  simp only [Act.put, List.getElem_toArray, List.getElem_cons_zero, List.getElem_cons_succ, List.setIfInBounds_toArray, List.set_cons_zero, List.set_cons_succ]
  refine wpAnyH_take (i := 5) (v := .agg #[.int .u8 (m.a.toNat : Int), .int .u8 (m.b.toNat : Int), .int .u8 (m.c.toNat : Int), .int .u8 (m.d.toNat : Int), .int .u8 (m.e.toNat : Int), .int .u8 (m.f.toNat : Int)]) rfl (by kernel_rfl) (by kernel_rfl) (by kernel_rfl) (fun _ _ _ h => h) (yieldsIf_load_part (by kernel_rfl) 32 _ rfl g7 0 6 rfl _ 32 (0, 0) (fun W hW => hW.2.2) _ rfl _ Try.underlying32 rfl (by kernel_rfl)) hH ?_
  simp only [Act.put, List.getElem_toArray, List.getElem_cons_zero, List.getElem_cons_succ, List.setIfInBounds_toArray, List.set_cons_zero, List.set_cons_succ]
  refine wpAnyH_take (i := 6) (v := ?_) rfl (by kernel_rfl) (by kernel_rfl) (by kernel_rfl) (fun _ _ _ h => h) (Or.inl ⟨by rfl, ?_⟩) hH ?_
  rotate_left
  · ((intro W hW; clear hW; go_simp) <;> with_reducible rfl)
  simp only [Act.put, List.getElem_toArray, List.getElem_cons_zero, List.getElem_cons_succ, List.setIfInBounds_toArray, List.set_cons_zero, List.set_cons_succ]
  refine wpAnyH_ready (rs := [7]) (by kernel_rfl) (by simp) ?_
  refine AllReadyH.cons (o := _) rfl (fun K hK => ?_) AllReadyH.nil
  simp only [List.getElem_toArray, List.getElem_cons_zero, List.getElem_cons_succ]
  rw [if_pos (by rfl)]
  refine wp_new_a 52 rfl #[.int .u8 0, .int .u8 0, .int .u8 0, .int .u8 0, .int .i64 0, .bool false, .int .u8 0, .int .u8 0, .int .u8 0, .int .u8 0, .int .u8 0, .int .u8 0, .int .i64 0, .slice none 0 0] (by kernel_rfl) ?_
  intro g11 w5 ge hh bb
  have d_tb_lb := ne_new (hlt htb) ge
  have d_yb_lb := ne_new (hlt hyb) ge
  have d_mb_lb := ne_new (hlt hmb) ge
  have olb := Nat.le_trans (Nat.le_trans hlo bel.size) ge
  have off_lb := owk_new own ge
  have pn_lb := Nat.le_trans bel.size ge
  replace htb := blk_u htb bb
  replace hyb := blk_u hyb bb
  replace hmb := blk_u hmb bb
  replace own := owk_under own bb
  replace kt := kt.trans (kt_below bb)
  replace bel := bel.trans (bb.mono (Nat.le_trans hlo bel.size))
  have hlb := hh
  clear hh ge bb
  refine hK.out _ _ ⟨hyb, htb, hmb⟩ (fun hH6 => ?_)
  clear hK K
  simp only [Act.put, List.setIfInBounds_toArray, List.set_cons_zero, List.set_cons_succ]
  refine wpAnyH_ready (rs := [8]) (by kernel_rfl) (by simp) ?_
  refine AllReadyH.cons (o := _) rfl (fun K hK => ?_) AllReadyH.nil
  simp only [List.getElem_toArray, List.getElem_cons_zero, List.getElem_cons_succ]
  rw [if_pos (by rfl)]
  refine wp_store_blk 52 (.tmp 11) (.tmp 24) rfl g11 rfl _ rfl _ 52 hlb (by rfl) (by kernel_rfl) (by kernel_rfl) ?_
  intro w7 hq gr
  replace htb := blk_a htb gr d_tb_lb
  replace hyb := blk_a hyb gr d_yb_lb
  replace hmb := blk_a hmb gr d_mb_lb
  replace own := owk_off own off_lb gr
  replace kt := kt.newer gr pn_lb bel.size
  replace bel := below_grown bel gr olb (Nat.le_trans hlo bel.size)
  clear hlb
  have hlb := hq
  clear hq gr
  refine hK.out _ _ ⟨hyb, htb, hmb⟩ (fun hH8 => ?_)
  clear hK K
  simp only [Act.put]
  refine wpAnyH_done (by kernel_rfl) ?_ _
  have R27 := Lib.hid (range_lit hyb 0 4 [.int .u8 (y.a.toNat : Int), .int .u8 (y.b.toNat : Int), .int .u8 (y.c.toNat : Int), .int .u8 (y.d.toNat : Int)] rfl)
  go_wp2_with (first | ((with_reducible show wpList _ _ _ (⟨some 27, _, _, _, _, _⟩ :: _) _ _); refine wpList_load_rng 30 (.tmp 6) rfl (by kernel_rfl) _ _ rfl _ R27.out _ Try.underlying30 rfl (by kernel_rfl) ?_))
  try clear R27
  with_reducible refine (find_any y _ htb (owk_sle (by decide) enE_len own).1 HS.out (Nat.le_trans H32.out (by decide))).mono ?_
  rintro e w9 ⟨rfl, b9⟩
  replace htb := blk_u htb b9
  replace hyb := blk_u hyb b9
  replace hmb := blk_u hmb b9
  replace hlb := blk_u hlb b9
  replace own := owk_under own b9
  replace kt := kt.trans (kt_below b9)
  replace bel := bel.trans (b9.mono (Nat.le_trans hlo bel.size))
  clear b9
  rw [HF.out]
  obtain ⟨p, hp⟩ : ∃ p, fpos l y.num = p := ⟨_, rfl⟩
  rw [hp]
  have HP := Lib.hid hp
  clear hp
  have R35 := Lib.hid (range_lit hlb 0 14 [.int .u8 (y.a.toNat : Int), .int .u8 (y.b.toNat : Int), .int .u8 (y.c.toNat : Int), .int .u8 (y.d.toNat : Int), .int .i64 nw, .bool true, .int .u8 (m.a.toNat : Int), .int .u8 (m.b.toNat : Int), .int .u8 (m.c.toNat : Int), .int .u8 (m.d.toNat : Int), .int .u8 (m.e.toNat : Int), .int .u8 (m.f.toNat : Int), .int .i64 0, .slice none 0 0] rfl)
  go_wp2_with (first | ((with_reducible show wpList _ _ _ (⟨some 35, _, _, _, _, _⟩ :: _) _ _); refine wpList_load_rng 52 (.tmp 11) rfl (by kernel_rfl) _ _ rfl _ R35.out _ Try.underlying52 rfl (by kernel_rfl) ?_))
  try clear R35
  have HLO_ := Nat.le_trans HLO.out bel.size
  with_reducible refine (add_any (⟨y, nw, true, m, 0, none, 0, 0⟩) _ HLO_ otb htb own HS.out (Nat.le_trans H32.out (by decide))).mono ?_
  rintro e w10 ⟨A2, n2, c2, rfl, htb_, own_, g2_⟩
  replace hyb := Gr2.blk g2_ hyb (ne_symm d_tb_yb) off_yb
  replace hmb := Gr2.blk g2_ hmb (ne_symm d_tb_mb) off_mb
  replace hlb := Gr2.blk g2_ hlb (ne_symm d_tb_lb) off_lb
  replace kt := kt.trans (Gr2.kt g2_ htb (by simp) own (by simp))
  replace bel := bel.trans (Gr2.bel g2_ otb own (Nat.le_trans hlo bel.size))
  clear htb own g2_
  have htb := htb_
  have own := own_
  clear htb_ own_
  clear off_tb
  have off_tb := ofs_type own htb (by decide)
  clear off_yb
  have off_yb := ofs_type own hyb (by decide)
  clear off_mb
  have off_mb := ofs_type own hmb (by decide)
  clear hlb
  clear HLO_
  go_wp2_with fail
  go_ret
  exact ⟨rfl, by rw [HNW.out]; exact ⟨A2, n2, c2, htb, otb, own, (HS.out.addE (e := ⟨y, nw, true, m, 0, none, 0, 0⟩) HF.out), (fun z hz => (addE_mem hz).elim (fun h_ => h_ ▸ ⟨HM0.out, Int.le_refl _, Int.le_refl _, by have := HM0.out; show (0 : Int) ≤ nw + 1; omega⟩) (HOK2.out z)), (addE_len HLEN.out), HM0.out, HM2.out⟩, kt, bel⟩
set_option linter.unusedVariables false in
set_option linter.unusedSimpArgs false in
set_option maxRecDepth 100000 in
set_option maxHeartbeats 16000000 in
theorem learn_at {lo gt : Nat} {age now : Int} {l : List En} {y : Ad4} {m : Mc6} {t : Int} {i : Nat} {x : En} {kn : Bool} (w : World) (hT : Tb lo gt w age now l) (hx : l[i]? = some x) (hy : x.num = y.num) : Calls Try.prog 10 #[.pointer (some ⟨gt, 0, none⟩), .agg #[.int .u8 (y.a.toNat : Int), .int .u8 (y.b.toNat : Int), .int .u8 (y.c.toNat : Int), .int .u8 (y.d.toNat : Int)], .agg #[.int .u8 (m.a.toNat : Int), .int .u8 (m.b.toNat : Int), .int .u8 (m.c.toNat : Int), .int .u8 (m.d.toNat : Int), .int .u8 (m.e.toNat : Int), .int .u8 (m.f.toNat : Int)], .int .i64 t, .bool kn] w fun e w' => e = .returned (.slice x.wA x.wn x.wc) ∧ Tb lo gt w' age (adv now t) (l.set i ⟨y, adv now t, true, m, 0, none, 0, 0⟩) ∧ Kt [49, 52] w w' ∧ Below lo w w' := by
  obtain ⟨A, n, c, htb, otb, own, hS, hok, hlen, n0, n1⟩ := hT
  have hlo : lo ≤ w.heap.size := Nat.le_trans otb (Nat.le_of_lt (hlt htb))
  have off_tb := ofs_type own htb (by decide)
  have hl := row_len (by decide) enE_len own
  have h32 : n ≤ 32 := by omega
  have HLL := Lib.hid hl
  have HLO := Lib.hid hlo
  have HS := Lib.hid hS
  have HOK := Lib.hid hok
  have HLEN := Lib.hid hlen
  have H32 := Lib.hid h32
  obtain ⟨nw, hnw⟩ : ∃ x, adv now t = x := ⟨_, rfl⟩
  have hnw1 : now ≤ nw := by rw [← hnw]; exact adv_ge now t
  have hnw2 : nw ≤ 1099511627776 := by rw [← hnw]; exact adv_le n1
  have m0 : 0 ≤ nw := by omega
  have HNW := Lib.hid hnw
  have HM0 := Lib.hid m0
  have HM2 := Lib.hid hnw2
  have HOK2 : Hid (∀ e ∈ l, e.ok nw) := Lib.hid (fun e he => (hok e he).le hnw1)
  have kt := Kt.refl [49, 52] w
  clear hl hS hok hlen hnw n0 n1
  have hfd := HS.out.found hx hy
  have HP := Lib.hid hfd.1
  have HF := Lib.hid hfd.2
  have hin : i < n := by have h_ := (List.getElem?_eq_some_iff.1 hx).1; have h2_ := HLL.out; omega
  have i0 : (0 : Int) ≤ i := by omega
  have i1 : (i : Int) < n := by omega
  have hoke := HOK2.out _ (List.mem_of_getElem? hx)
  obtain ⟨gE, rfl, _⟩ := row_at own (by omega)
  have en := (owk_sle (by decide) enE_len own).1
  have av_en_tb := owk_av own off_tb
  clear hfd
  have HX := Lib.hid hx
  have HY := Lib.hid hy
  clear hx hy hoke
  have bel := Below.refl lo w
  go_enter Try.func10, Try.ntmps10
  go_wp2_with (first | ((with_reducible show wpList _ _ _ (⟨some 6, _, _, _, _, _⟩ :: _) _ _); refine wpList_box_n rfl 30 (.tmp 1) rfl #[.int .u8 (y.a.toNat : Int), .int .u8 (y.b.toNat : Int), .int .u8 (y.c.toNat : Int), .int .u8 (y.d.toNat : Int)] rfl ?_; intro g6 w1 ge lt hh bb; have d_tb_yb := ne_new (hlt htb) ge; have av_en_yb := en.av_new ge; have oyb := Nat.le_trans (Nat.le_trans hlo bel.size) ge; have off_yb := owk_new own ge; have pn_yb := Nat.le_trans bel.size ge; replace htb := blk_u htb bb; replace en := en.below bb; replace own := owk_under own bb; replace kt := kt.trans (kt_below bb); replace bel := bel.trans (bb.mono (Nat.le_trans hlo bel.size)); have hyb := hh; clear hh lt ge bb) | ((with_reducible show wpList _ _ _ (⟨some 7, _, _, _, _, _⟩ :: _) _ _); refine wpList_box_n rfl 32 (.tmp 2) rfl #[.int .u8 (m.a.toNat : Int), .int .u8 (m.b.toNat : Int), .int .u8 (m.c.toNat : Int), .int .u8 (m.d.toNat : Int), .int .u8 (m.e.toNat : Int), .int .u8 (m.f.toNat : Int)] rfl ?_; intro g7 w2 ge lt hh bb; have d_tb_mb := ne_new (hlt htb) ge; have d_yb_mb := ne_new (hlt hyb) ge; have av_en_mb := en.av_new ge; have omb := Nat.le_trans (Nat.le_trans hlo bel.size) ge; have off_mb := owk_new own ge; have pn_mb := Nat.le_trans bel.size ge; replace htb := blk_u htb bb; replace hyb := blk_u hyb bb; replace en := en.below bb; replace own := owk_under own bb; replace kt := kt.trans (kt_below bb); replace bel := bel.trans (bb.mono (Nat.le_trans hlo bel.size)); have hmb := hh; clear hh lt ge bb))
  with_reducible refine (adv_any _ _ htb).mono ?_
  rintro e w3 ⟨rfl, htb_, b3⟩
  replace en := en.away av_en_tb b3
  replace hyb := blk_a hyb b3 (ne_symm d_tb_yb)
  replace hmb := blk_a hmb b3 (ne_symm d_tb_mb)
  replace own := owk_off own off_tb b3
  replace kt := kt.trans (kt_grown b3 htb (by simp))
  replace bel := below_grown bel b3 otb (Nat.le_trans hlo bel.size)
  clear b3
  clear htb
  rw [HNW.out] at htb_
  have htb := htb_
  clear htb_
  go_wp2_with fail
  replace bel := bel.drew
  replace htb : w3.drew.heap[gt]? = _ := htb
  replace hyb : w3.drew.heap[g6]? = _ := hyb
  replace hmb : w3.drew.heap[g7]? = _ := hmb
  replace en := en.drew
  replace own := World.ownsRow.drew own
  replace kt := kt_drew kt
  refine wp_region_held_drew (S := fun W => W.heap[g6]? = some (.cells #[.int .u8 (y.a.toNat : Int), .int .u8 (y.b.toNat : Int), .int .u8 (y.c.toNat : Int), .int .u8 (y.d.toNat : Int)] 30 (0, 0)) ∧ W.heap[gt]? = some (.cells #[.int .i64 age, .int .i64 nw, .slice (some ⟨gE, 0, none⟩) n c] 49 (0, 0)) ∧ W.heap[g7]? = some (.cells #[.int .u8 (m.a.toNat : Int), .int .u8 (m.b.toNat : Int), .int .u8 (m.c.toNat : Int), .int .u8 (m.d.toNat : Int), .int .u8 (m.e.toNat : Int), .int .u8 (m.f.toNat : Int)] 32 (0, 0))) (by kernel_rfl) ⟨hyb, htb, hmb⟩ (fun hH => ?_)
  generalize w3.drew = w4 at bel htb hyb hmb en own kt hH ⊢
  refine wpAnyH_take (i := 0) (v := .agg #[.int .u8 (y.a.toNat : Int), .int .u8 (y.b.toNat : Int), .int .u8 (y.c.toNat : Int), .int .u8 (y.d.toNat : Int)]) rfl (by kernel_rfl) (by kernel_rfl) (by kernel_rfl) (fun _ _ _ h => h) (yieldsIf_load_part (by kernel_rfl) 30 _ rfl g6 0 4 rfl _ 30 (0, 0) (fun W hW => hW.1) _ rfl _ Try.underlying30 rfl (by kernel_rfl)) hH ?_
  simp only [Act.put, List.getElem_toArray, List.getElem_cons_zero, List.setIfInBounds_toArray, List.set_cons_zero, List.set_cons_succ]
  refine wpAnyH_take (i := 1) (v := ?_) rfl (by kernel_rfl) (by kernel_rfl) (by kernel_rfl) (fun _ _ _ h => h) (Or.inl ⟨by rfl, ?_⟩) hH ?_
  rotate_left
  · ((intro W hW; clear hW; go_simp) <;> with_reducible rfl)
  simp only [Act.put, List.getElem_toArray, List.getElem_cons_zero, List.getElem_cons_succ, List.setIfInBounds_toArray, List.set_cons_zero, List.set_cons_succ]
  refine wpAnyH_take (i := 2) (v := ?_) rfl (by kernel_rfl) (by kernel_rfl) (by kernel_rfl) (fun _ _ _ h => h) (Or.inl ⟨by rfl, ?_⟩) hH ?_
  rotate_left
  · ((intro W hW; clear hW; go_simp) <;> with_reducible rfl)
  simp only [Act.put, List.getElem_toArray, List.getElem_cons_zero, List.getElem_cons_succ, List.setIfInBounds_toArray, List.set_cons_zero, List.set_cons_succ]
  refine wpAnyH_take (i := 3) (v := ?_) rfl (by kernel_rfl) (by kernel_rfl) (by kernel_rfl) (fun _ _ _ h => h) (Or.inl ⟨by rfl, ?_⟩) hH ?_
  rotate_left
  · ((intro W hW; clear hW; go_simp) <;> with_reducible rfl)
  simp only [Act.put, List.getElem_toArray, List.getElem_cons_zero, List.getElem_cons_succ, List.setIfInBounds_toArray, List.set_cons_zero, List.set_cons_succ]
  refine wpAnyH_take (i := 4) (v := ?_) rfl (by kernel_rfl) (by kernel_rfl) (by kernel_rfl) (fun _ _ _ h => h) (Or.inl ⟨by rfl, ?_⟩) hH ?_
  rotate_left
  · ((intro W hW; have hk := cell_lit (hW.2.1) 1 _ rfl; clear hW; go_simp) <;> with_reducible rfl)
  simp only [Act.put, List.getElem_toArray, List.getElem_cons_zero, List.getElem_cons_succ, List.setIfInBounds_toArray, List.set_cons_zero, List.set_cons_succ]
  refine wpAnyH_take (i := 5) (v := .agg #[.int .u8 (m.a.toNat : Int), .int .u8 (m.b.toNat : Int), .int .u8 (m.c.toNat : Int), .int .u8 (m.d.toNat : Int), .int .u8 (m.e.toNat : Int), .int .u8 (m.f.toNat : Int)]) rfl (by kernel_rfl) (by kernel_rfl) (by kernel_rfl) (fun _ _ _ h => h) (yieldsIf_load_part (by kernel_rfl) 32 _ rfl g7 0 6 rfl _ 32 (0, 0) (fun W hW => hW.2.2) _ rfl _ Try.underlying32 rfl (by kernel_rfl)) hH ?_
  simp only [Act.put, List.getElem_toArray, List.getElem_cons_zero, List.getElem_cons_succ, List.setIfInBounds_toArray, List.set_cons_zero, List.set_cons_succ]
  refine wpAnyH_take (i := 6) (v := ?_) rfl (by kernel_rfl) (by kernel_rfl) (by kernel_rfl) (fun _ _ _ h => h) (Or.inl ⟨by rfl, ?_⟩) hH ?_
  rotate_left
  · ((intro W hW; clear hW; go_simp) <;> with_reducible rfl)
  simp only [Act.put, List.getElem_toArray, List.getElem_cons_zero, List.getElem_cons_succ, List.setIfInBounds_toArray, List.set_cons_zero, List.set_cons_succ]
  refine wpAnyH_ready (rs := [7]) (by kernel_rfl) (by simp) ?_
  refine AllReadyH.cons (o := _) rfl (fun K hK => ?_) AllReadyH.nil
  simp only [List.getElem_toArray, List.getElem_cons_zero, List.getElem_cons_succ]
  rw [if_pos (by rfl)]
  refine wp_new_a 52 rfl #[.int .u8 0, .int .u8 0, .int .u8 0, .int .u8 0, .int .i64 0, .bool false, .int .u8 0, .int .u8 0, .int .u8 0, .int .u8 0, .int .u8 0, .int .u8 0, .int .i64 0, .slice none 0 0] (by kernel_rfl) ?_
  intro g11 w5 ge hh bb
  have d_tb_lb := ne_new (hlt htb) ge
  have d_yb_lb := ne_new (hlt hyb) ge
  have d_mb_lb := ne_new (hlt hmb) ge
  have av_en_lb := en.av_new ge
  have olb := Nat.le_trans (Nat.le_trans hlo bel.size) ge
  have off_lb := owk_new own ge
  have pn_lb := Nat.le_trans bel.size ge
  replace htb := blk_u htb bb
  replace hyb := blk_u hyb bb
  replace hmb := blk_u hmb bb
  replace en := en.below bb
  replace own := owk_under own bb
  replace kt := kt.trans (kt_below bb)
  replace bel := bel.trans (bb.mono (Nat.le_trans hlo bel.size))
  have hlb := hh
  clear hh ge bb
  refine hK.out _ _ ⟨hyb, htb, hmb⟩ (fun hH6 => ?_)
  clear hK K
  simp only [Act.put, List.setIfInBounds_toArray, List.set_cons_zero, List.set_cons_succ]
  refine wpAnyH_ready (rs := [8]) (by kernel_rfl) (by simp) ?_
  refine AllReadyH.cons (o := _) rfl (fun K hK => ?_) AllReadyH.nil
  simp only [List.getElem_toArray, List.getElem_cons_zero, List.getElem_cons_succ]
  rw [if_pos (by rfl)]
  refine wp_store_blk 52 (.tmp 11) (.tmp 24) rfl g11 rfl _ rfl _ 52 hlb (by rfl) (by kernel_rfl) (by kernel_rfl) ?_
  intro w7 hq gr
  replace en := en.away av_en_lb gr
  replace htb := blk_a htb gr d_tb_lb
  replace hyb := blk_a hyb gr d_yb_lb
  replace hmb := blk_a hmb gr d_mb_lb
  replace own := owk_off own off_lb gr
  replace kt := kt.newer gr pn_lb bel.size
  replace bel := below_grown bel gr olb (Nat.le_trans hlo bel.size)
  clear hlb
  have hlb := hq
  clear hq gr
  refine hK.out _ _ ⟨hyb, htb, hmb⟩ (fun hH8 => ?_)
  clear hK K
  simp only [Act.put]
  refine wpAnyH_done (by kernel_rfl) ?_ _
  have R27 := Lib.hid (range_lit hyb 0 4 [.int .u8 (y.a.toNat : Int), .int .u8 (y.b.toNat : Int), .int .u8 (y.c.toNat : Int), .int .u8 (y.d.toNat : Int)] rfl)
  go_wp2_with (first | ((with_reducible show wpList _ _ _ (⟨some 27, _, _, _, _, _⟩ :: _) _ _); refine wpList_load_rng 30 (.tmp 6) rfl (by kernel_rfl) _ _ rfl _ R27.out _ Try.underlying30 rfl (by kernel_rfl) ?_))
  try clear R27
  with_reducible refine (find_any y _ htb (owk_sle (by decide) enE_len own).1 HS.out (Nat.le_trans H32.out (by decide))).mono ?_
  rintro e w9 ⟨rfl, b9⟩
  replace htb := blk_u htb b9
  replace hyb := blk_u hyb b9
  replace hmb := blk_u hmb b9
  replace hlb := blk_u hlb b9
  replace en := en.below b9
  replace own := owk_under own b9
  replace kt := kt.trans (kt_below b9)
  replace bel := bel.trans (b9.mono (Nat.le_trans hlo bel.size))
  clear b9
  rw [HF.out, HP.out]
  have R40 := cell_lit htb 2 _ rfl
  have R44 := Sle.zcell en HX.out 13 _ rfl
  go_wp2_with fail
  clear R40 R44
  replace bel := bel.drew
  replace htb : w9.drew.heap[gt]? = _ := htb
  replace hyb : w9.drew.heap[g6]? = _ := hyb
  replace hmb : w9.drew.heap[g7]? = _ := hmb
  replace hlb : w9.drew.heap[g11]? = _ := hlb
  replace en := en.drew
  replace own := World.ownsRow.drew own
  replace kt := kt_drew kt
  refine wp_region_held_drew (S := fun W => W.heap[gt]? = some (.cells #[.int .i64 age, .int .i64 nw, .slice (some ⟨gE, 0, none⟩) n c] 49 (0, 0)) ∧ W.heap[g11]? = some (.cells #[.int .u8 (y.a.toNat : Int), .int .u8 (y.b.toNat : Int), .int .u8 (y.c.toNat : Int), .int .u8 (y.d.toNat : Int), .int .i64 nw, .bool true, .int .u8 (m.a.toNat : Int), .int .u8 (m.b.toNat : Int), .int .u8 (m.c.toNat : Int), .int .u8 (m.d.toNat : Int), .int .u8 (m.e.toNat : Int), .int .u8 (m.f.toNat : Int), .int .i64 0, .slice none 0 0] 52 (0, 0))) (by kernel_rfl) ⟨htb, hlb⟩ (fun hH => ?_)
  generalize w9.drew = w10 at bel htb hyb hmb hlb en own kt hH ⊢
  refine wpAnyH_take (i := 0) (v := ?_) rfl (by kernel_rfl) (by kernel_rfl) (by kernel_rfl) (fun _ _ _ h => h) (Or.inl ⟨by rfl, ?_⟩) hH ?_
  rotate_left
  · ((intro W hW; clear hW; go_simp) <;> with_reducible rfl)
  simp only [Act.put, List.getElem_toArray, List.getElem_cons_zero, List.setIfInBounds_toArray, List.set_cons_zero, List.set_cons_succ]
  refine wpAnyH_take (i := 1) (v := ?_) rfl (by kernel_rfl) (by kernel_rfl) (by kernel_rfl) (fun _ _ _ h => h) (Or.inl ⟨by rfl, ?_⟩) hH ?_
  rotate_left
  · ((intro W hW; clear hW; go_simp) <;> with_reducible rfl)
  simp only [Act.put, List.getElem_toArray, List.getElem_cons_zero, List.getElem_cons_succ, List.setIfInBounds_toArray, List.set_cons_zero, List.set_cons_succ]
  refine wpAnyH_take (i := 2) (v := ?_) rfl (by kernel_rfl) (by kernel_rfl) (by kernel_rfl) (fun _ _ _ h => h) (Or.inl ⟨by rfl, ?_⟩) hH ?_
  rotate_left
  · ((intro W hW; clear hW; go_simp) <;> with_reducible rfl)
  simp only [Act.put, List.getElem_toArray, List.getElem_cons_zero, List.getElem_cons_succ, List.setIfInBounds_toArray, List.set_cons_zero, List.set_cons_succ]
  refine wpAnyH_take (i := 3) (v := ?_) rfl (by kernel_rfl) (by kernel_rfl) (by kernel_rfl) (fun _ _ _ h => h) (Or.inl ⟨by rfl, ?_⟩) hH ?_
  rotate_left
  · ((intro W hW; have hk := cell_lit (hW.1) 2 _ rfl; clear hW; go_simp) <;> with_reducible rfl)
  simp only [Act.put, List.getElem_toArray, List.getElem_cons_zero, List.getElem_cons_succ, List.setIfInBounds_toArray, List.set_cons_zero, List.set_cons_succ]
  refine wpAnyH_take (i := 4) (v := ?_) rfl (by kernel_rfl) (by kernel_rfl) (by kernel_rfl) (fun _ _ _ h => h) (Or.inl ⟨by rfl, ?_⟩) hH ?_
  rotate_left
  · ((intro W hW; clear hW; go_simp) <;> with_reducible rfl)
  simp only [Act.put, List.getElem_toArray, List.getElem_cons_zero, List.getElem_cons_succ, List.setIfInBounds_toArray, List.set_cons_zero, List.set_cons_succ]
  refine wpAnyH_take (i := 5) (v := .agg #[.int .u8 (y.a.toNat : Int), .int .u8 (y.b.toNat : Int), .int .u8 (y.c.toNat : Int), .int .u8 (y.d.toNat : Int), .int .i64 nw, .bool true, .int .u8 (m.a.toNat : Int), .int .u8 (m.b.toNat : Int), .int .u8 (m.c.toNat : Int), .int .u8 (m.d.toNat : Int), .int .u8 (m.e.toNat : Int), .int .u8 (m.f.toNat : Int), .int .i64 0, .slice none 0 0]) rfl (by kernel_rfl) (by kernel_rfl) (by kernel_rfl) (fun _ _ _ h => h) (yieldsIf_load_part (by kernel_rfl) 52 _ rfl g11 0 14 rfl _ 52 (0, 0) (fun W hW => hW.2) _ rfl _ Try.underlying52 rfl (by kernel_rfl)) hH ?_
  simp only [Act.put, List.getElem_toArray, List.getElem_cons_zero, List.getElem_cons_succ, List.setIfInBounds_toArray, List.set_cons_zero, List.set_cons_succ]
  refine wpAnyH_take (i := 6) (v := ?_) rfl (by kernel_rfl) (by kernel_rfl) (by kernel_rfl) (fun _ _ _ h => h) (Or.inl ⟨by rfl, ?_⟩) hH ?_
  rotate_left
  · ((intro W hW; clear hW; go_simp) <;> with_reducible rfl)
  simp only [Act.put, List.getElem_toArray, List.getElem_cons_zero, List.getElem_cons_succ, List.setIfInBounds_toArray, List.set_cons_zero, List.set_cons_succ]
  refine wpAnyH_ready (rs := [7]) (by kernel_rfl) (by simp) ?_
  refine AllReadyH.cons (o := _) rfl (fun K hK => ?_) AllReadyH.nil
  simp only [List.getElem_toArray, List.getElem_cons_zero, List.getElem_cons_succ]
  rw [if_pos (by rfl)]
  refine wp_store_el 52 (.tmp 51) (.tmp 50) rfl gE i 0 x (⟨y, nw, true, m, 0, none, 0, 0⟩) rfl [.int .u8 (y.a.toNat : Int), .int .u8 (y.b.toNat : Int), .int .u8 (y.c.toNat : Int), .int .u8 (y.d.toNat : Int), .int .i64 nw, .bool true, .int .u8 (m.a.toNat : Int), .int .u8 (m.b.toNat : Int), .int .u8 (m.c.toNat : Int), .int .u8 (m.d.toNat : Int), .int .u8 (m.e.toNat : Int), .int .u8 (m.f.toNat : Int), .int .i64 0, .slice none 0 0] rfl (by decide) enE_len own HX.out (Nat.le_of_ble_eq_true rfl) rfl (by kernel_rfl) (by rfl) ?_
  intro w11 own_ gw
  replace htb := blk_own (v := .slice (some ⟨gE, 0, none⟩) n c) htb gw off_tb
  replace hyb := blk_own (v := .slice (some ⟨gE, 0, none⟩) n c) hyb gw off_yb
  replace hmb := blk_own (v := .slice (some ⟨gE, 0, none⟩) n c) hmb gw off_mb
  replace hlb := blk_own (v := .slice (some ⟨gE, 0, none⟩) n c) hlb gw off_lb
  replace kt := kt.trans (kt_row gw own (by simp))
  replace bel := bel.trans (row_bel gw own (Nat.le_trans hlo bel.size))
  clear own
  have own := own_
  clear own_ gw
  replace en := (owk_sle (by decide) enE_len own).1
  refine hK.out _ _ ⟨htb, hlb⟩ (fun hH12 => ?_)
  clear hK K
  simp only [Act.put]
  refine wpAnyH_done (by kernel_rfl) ?_ _
  go_wp2_with fail
  go_ret
  exact ⟨rfl, by rw [HNW.out]; exact ⟨(some ⟨gE, 0, none⟩), n, c, htb, otb, own, (HS.out.set HX.out HY.out.symm), (fun z hz => (List.mem_or_eq_of_mem_set hz).elim (HOK2.out z) (fun h_ => h_ ▸ ⟨HM0.out, Int.le_refl _, Int.le_refl _, by have := HM0.out; show (0 : Int) ≤ nw + 1; omega⟩)), (by rw [List.length_set]; exact HLEN.out), HM0.out, HM2.out⟩, kt, bel⟩
theorem add_e {lo gt n c : Nat} {A : Option Addr} {age now : Int} {l : List En} (e : En) (w : World) (hlo : lo ≤ w.heap.size) (otb : lo ≤ gt) (htb : w.heap[gt]? = some (.cells #[.int .i64 age, .int .i64 now, .slice A n c] 49 (0, 0))) (hown : w.ownsRow lo 52 14 (.slice A n c) n (l.flatMap enE)) (hS : Srt l) (hn : n ≤ 1000) : Calls Try.prog 18 #[.pointer (some ⟨gt, 0, none⟩), .agg (enE e).toArray] w fun e' w' => ∃ A2 n2 c2, e' = .returned (.bool (addE l e).2) ∧ w'.heap[gt]? = some (.cells #[.int .i64 age, .int .i64 now, .slice A2 n2 c2] 49 (0, 0)) ∧ w'.ownsRow lo 52 14 (.slice A2 n2 c2) n2 ((addE l e).1.flatMap enE) ∧ Gr2 w w' gt (.slice A n c) := add_any e w hlo otb htb hown hS hn
set_option linter.unusedVariables false in
set_option linter.unusedSimpArgs false in
set_option maxRecDepth 100000 in
set_option maxHeartbeats 16000000 in
theorem want_new {lo gt : Nat} {age now : Int} {l : List En} {y : Ad4} {t : Int} {nb cb : Nat} {Ab : Option Addr} {lb : List UInt8}   (w : World) (hT : Tb lo gt w age now l) (hsb : Sb w Ab nb cb lb) (hnb : nb ≤ 100000) (hf : fhas l y.num = false) : Calls Try.prog 11 #[.pointer (some ⟨gt, 0, none⟩), .agg #[.int .u8 (y.a.toNat : Int), .int .u8 (y.b.toNat : Int), .int .u8 (y.c.toNat : Int), .int .u8 (y.d.toNat : Int)], .slice Ab nb cb, .int .i64 t] w fun e w' => ∃ A1 c1, e = .returned (.agg #[.int .u8 0, .int .u8 0, .int .u8 0, .int .u8 0, .int .u8 0, .int .u8 0, .bool false, .bool (addE l ⟨y, adv now t, false, Mc6.zero, 1, A1, 1, c1⟩).2]) ∧ Tb lo gt w' age (adv now t) (addE l ⟨y, adv now t, false, Mc6.zero, 1, A1, 1, c1⟩).1 ∧ Pk lo w' A1 1 c1 [lb] ∧ Kt [49, 52] w w' ∧ Below lo w w' := by
  obtain ⟨A, n, c, htb, otb, own, hS, hok, hlen, n0, n1⟩ := hT
  have hlo : lo ≤ w.heap.size := Nat.le_trans otb (Nat.le_of_lt (hlt htb))
  have off_tb := ofs_type own htb (by decide)
  have hl := row_len (by decide) enE_len own
  have h32 : n ≤ 32 := by omega
  have HLL := Lib.hid hl
  have HLO := Lib.hid hlo
  have HS := Lib.hid hS
  have HOK := Lib.hid hok
  have HLEN := Lib.hid hlen
  have H32 := Lib.hid h32
  obtain ⟨nw, hnw⟩ : ∃ x, adv now t = x := ⟨_, rfl⟩
  have hnw1 : now ≤ nw := by rw [← hnw]; exact adv_ge now t
  have hnw2 : nw ≤ 1099511627776 := by rw [← hnw]; exact adv_le n1
  have m0 : 0 ≤ nw := by omega
  have HNW := Lib.hid hnw
  have HM0 := Lib.hid m0
  have HM2 := Lib.hid hnw2
  have HOK2 : Hid (∀ e ∈ l, e.ok nw) := Lib.hid (fun e he => (hok e he).le hnw1)
  have kt := Kt.refl [49, 52] w
  clear hl hS hok hlen hnw n0 n1
  have sb := hsb.1
  have av_sb_tb := hsb.av htb (by decide)
  clear hsb
  have HF : Hid (fhas l y.num = false) := Lib.hid hf
  clear hf
  have bel := Below.refl lo w
  go_enter Try.func11, Try.ntmps11
  go_wp2_with (first | ((with_reducible show wpList _ _ _ (⟨some 5, _, _, _, _, _⟩ :: _) _ _); refine wpList_box_n rfl 30 (.tmp 1) rfl #[.int .u8 (y.a.toNat : Int), .int .u8 (y.b.toNat : Int), .int .u8 (y.c.toNat : Int), .int .u8 (y.d.toNat : Int)] rfl ?_; intro g5 w1 ge lt hh bb; have d_tb_yb := ne_new (hlt htb) ge; have av_sb_yb := sb.av_new ge; have oyb := Nat.le_trans (Nat.le_trans hlo bel.size) ge; have off_yb := owk_new own ge; have pn_yb := Nat.le_trans bel.size ge; replace htb := blk_u htb bb; replace sb := sb.below bb; replace own := owk_under own bb; replace kt := kt.trans (kt_below bb); replace bel := bel.trans (bb.mono (Nat.le_trans hlo bel.size)); have hyb := hh; clear hh lt ge bb) | ((with_reducible show wpList _ _ _ (⟨some 8, _, _, _, _, _⟩ :: _) _ _); refine wpList_new_a rfl 34 rfl #[.int .u8 0, .int .u8 0, .int .u8 0, .int .u8 0, .int .u8 0, .int .u8 0, .bool false, .bool false] (by kernel_rfl) ?_; intro g8 w2 ge hh bb; have d_tb_rb := ne_new (hlt htb) ge; have d_yb_rb := ne_new (hlt hyb) ge; have av_sb_rb := sb.av_new ge; have orb := Nat.le_trans (Nat.le_trans hlo bel.size) ge; have off_rb := owk_new own ge; have pn_rb := Nat.le_trans bel.size ge; replace htb := blk_u htb bb; replace hyb := blk_u hyb bb; replace sb := sb.below bb; replace own := owk_under own bb; replace kt := kt.trans (kt_below bb); replace bel := bel.trans (bb.mono (Nat.le_trans hlo bel.size)); have hrb := hh; clear hh ge bb))
  with_reducible refine (adv_any _ _ htb).mono ?_
  rintro e w3 ⟨rfl, htb_, b3⟩
  replace sb := sb.away av_sb_tb b3
  replace hyb := blk_a hyb b3 (ne_symm d_tb_yb)
  replace hrb := blk_a hrb b3 (ne_symm d_tb_rb)
  replace own := owk_off own off_tb b3
  replace kt := kt.trans (kt_grown b3 htb (by simp))
  replace bel := below_grown bel b3 otb (Nat.le_trans hlo bel.size)
  clear b3
  clear htb
  rw [HNW.out] at htb_
  have htb := htb_
  clear htb_
  have R17 := Lib.hid (range_lit hyb 0 4 [.int .u8 (y.a.toNat : Int), .int .u8 (y.b.toNat : Int), .int .u8 (y.c.toNat : Int), .int .u8 (y.d.toNat : Int)] rfl)
  go_wp2_with (first | ((with_reducible show wpList _ _ _ (⟨some 17, _, _, _, _, _⟩ :: _) _ _); refine wpList_load_rng 30 (.tmp 5) rfl (by kernel_rfl) _ _ rfl _ R17.out _ Try.underlying30 rfl (by kernel_rfl) ?_))
  try clear R17
  with_reducible refine (find_any y _ htb (owk_sle (by decide) enE_len own).1 HS.out (Nat.le_trans H32.out (by decide))).mono ?_
  rintro e w4 ⟨rfl, b4⟩
  replace htb := blk_u htb b4
  replace hyb := blk_u hyb b4
  replace hrb := blk_u hrb b4
  replace sb := sb.below b4
  replace own := owk_under own b4
  replace kt := kt.trans (kt_below b4)
  replace bel := bel.trans (b4.mono (Nat.le_trans hlo bel.size))
  clear b4
  rw [HF.out]
  obtain ⟨p, hp⟩ : ∃ p, fpos l y.num = p := ⟨_, rfl⟩
  rw [hp]
  have HP := Lib.hid hp
  clear hp
  have R40 := Lib.hid (range_lit hyb 0 4 [.int .u8 (y.a.toNat : Int), .int .u8 (y.b.toNat : Int), .int .u8 (y.c.toNat : Int), .int .u8 (y.d.toNat : Int)] rfl)
  go_wp2_with (first | ((with_reducible show wpList _ _ _ (⟨some 40, _, _, _, _, _⟩ :: _) _ _); refine wpList_load_rng 30 (.tmp 5) rfl (by kernel_rfl) _ _ rfl _ R40.out _ Try.underlying30 rfl (by kernel_rfl) ?_))
  try clear R40
  have HLO_ := Nat.le_trans HLO.out bel.size
  with_reducible refine (first_any y _ htb sb hnb).mono ?_
  rintro e w5 ⟨A1, c1, rfl, pk, b5⟩
  replace htb := blk_u htb b5
  replace hyb := blk_u hyb b5
  replace hrb := blk_u hrb b5
  replace sb := sb.below b5
  replace own := owk_under own b5
  replace kt := kt.trans (kt_below b5)
  replace bel := bel.trans (b5.mono (Nat.le_trans hlo bel.size))
  clear b5
  replace pk := pk.lo_le HLO_
  clear HLO_
  go_wp2_with fail
  have HLO_ := Nat.le_trans HLO.out bel.size
  with_reducible refine (add_e (⟨y, nw, false, Mc6.zero, 1, A1, 1, c1⟩) _ HLO_ otb htb own HS.out (Nat.le_trans H32.out (by decide))).mono ?_
  rintro e w6 ⟨A2, n2, c2, rfl, htb_, own_, g2_⟩
  replace hyb := Gr2.blk g2_ hyb (ne_symm d_tb_yb) off_yb
  replace hrb := Gr2.blk g2_ hrb (ne_symm d_tb_rb) off_rb
  clear sb
  replace kt := kt.trans (Gr2.kt g2_ htb (by simp) own (by simp))
  replace pk := pk.kt (S := [49, 52]) (Gr2.kt g2_ htb (by simp) own (by simp)) (by decide) (by decide)
  replace bel := bel.trans (Gr2.bel g2_ otb own (Nat.le_trans hlo bel.size))
  clear htb own g2_
  have htb := htb_
  have own := own_
  clear htb_ own_
  clear off_tb
  have off_tb := ofs_type own htb (by decide)
  clear off_yb
  have off_yb := ofs_type own hyb (by decide)
  clear off_rb
  have off_rb := ofs_type own hrb (by decide)
  clear HLO_
  go_wp2_with (first | ((with_reducible show wpList _ _ _ (⟨none, Op.store _ (.tmp 8) _, _, _, _, _⟩ :: _) _ _); refine wpList_store_blk rfl 34 (.tmp 8) (.tmp 44) rfl g8 rfl _ rfl _ 34 hrb (by rfl) (by kernel_rfl) (by kernel_rfl) ?_; intro w7 hq gr; replace htb := blk_a htb gr d_tb_rb; replace hyb := blk_a hyb gr d_yb_rb; replace own := owk_off own off_rb gr; replace kt := kt.newer gr pn_rb bel.size; replace pk := pk.kt (S := [34]) (kt_grown gr hrb (by decide)) (by decide) (by decide); replace bel := below_grown bel gr orb (Nat.le_trans hlo bel.size); clear hrb; have hrb := hq; clear hq gr))
  exact bodyPost_ret (results_cell_row' rfl _ _ _ _ _ _ _ rfl hrb Try.underlying34 rfl (by kernel_rfl)) rfl ⟨A1, c1, by rw [HNW.out], by rw [HNW.out]; exact ⟨A2, n2, c2, htb, otb, own, (HS.out.addE (e := ⟨y, nw, false, Mc6.zero, 1, A1, 1, c1⟩) HF.out), (fun z hz => (addE_mem hz).elim (fun h_ => h_ ▸ ⟨HM0.out, Int.le_refl _, by show (0 : Int) ≤ 1; decide, by have := HM0.out; show (1 : Int) ≤ nw + 1; omega⟩) (HOK2.out z)), (addE_len HLEN.out), HM0.out, HM2.out⟩, pk, kt, bel⟩
set_option linter.unusedVariables false in
set_option linter.unusedSimpArgs false in
set_option maxRecDepth 100000 in
set_option maxHeartbeats 16000000 in
theorem want_known {lo gt : Nat} {age now : Int} {l : List En} {y : Ad4} {t : Int} {nb cb : Nat} {Ab : Option Addr} {lb : List UInt8} {i : Nat} {x : En}  (w : World) (hT : Tb lo gt w age now l) (hsb : Sb w Ab nb cb lb) (hnb : nb ≤ 100000) (hx : l[i]? = some x) (hy : x.num = y.num) (hk : x.k = true) (ho : tooOldB age (adv now t) x = false) : Calls Try.prog 11 #[.pointer (some ⟨gt, 0, none⟩), .agg #[.int .u8 (y.a.toNat : Int), .int .u8 (y.b.toNat : Int), .int .u8 (y.c.toNat : Int), .int .u8 (y.d.toNat : Int)], .slice Ab nb cb, .int .i64 t] w fun e w' => e = .returned (.agg #[.int .u8 (x.m.a.toNat : Int), .int .u8 (x.m.b.toNat : Int), .int .u8 (x.m.c.toNat : Int), .int .u8 (x.m.d.toNat : Int), .int .u8 (x.m.e.toNat : Int), .int .u8 (x.m.f.toNat : Int), .bool true, .bool false]) ∧ Tb lo gt w' age (adv now t) l ∧ Kt [49, 52] w w' ∧ Below lo w w' := by
  obtain ⟨A, n, c, htb, otb, own, hS, hok, hlen, n0, n1⟩ := hT
  have hlo : lo ≤ w.heap.size := Nat.le_trans otb (Nat.le_of_lt (hlt htb))
  have off_tb := ofs_type own htb (by decide)
  have hl := row_len (by decide) enE_len own
  have h32 : n ≤ 32 := by omega
  have HLL := Lib.hid hl
  have HLO := Lib.hid hlo
  have HS := Lib.hid hS
  have HOK := Lib.hid hok
  have HLEN := Lib.hid hlen
  have H32 := Lib.hid h32
  obtain ⟨nw, hnw⟩ : ∃ x, adv now t = x := ⟨_, rfl⟩
  have hnw1 : now ≤ nw := by rw [← hnw]; exact adv_ge now t
  have hnw2 : nw ≤ 1099511627776 := by rw [← hnw]; exact adv_le n1
  have m0 : 0 ≤ nw := by omega
  have HNW := Lib.hid hnw
  have HM0 := Lib.hid m0
  have HM2 := Lib.hid hnw2
  have HOK2 : Hid (∀ e ∈ l, e.ok nw) := Lib.hid (fun e he => (hok e he).le hnw1)
  have kt := Kt.refl [49, 52] w
  clear hl hS hok hlen hnw n0 n1
  have sb := hsb.1
  have av_sb_tb := hsb.av htb (by decide)
  clear hsb
  have hfd := HS.out.found hx hy
  have HP := Lib.hid hfd.1
  have HF := Lib.hid hfd.2
  have hin : i < n := by have h_ := (List.getElem?_eq_some_iff.1 hx).1; have h2_ := HLL.out; omega
  have i0 : (0 : Int) ≤ i := by omega
  have i1 : (i : Int) < n := by omega
  have hoke := HOK2.out _ (List.mem_of_getElem? hx)
  obtain ⟨gE, rfl, _⟩ := row_at own (by omega)
  have en := (owk_sle (by decide) enE_len own).1
  have av_en_tb := owk_av own off_tb
  clear hfd
  obtain ⟨ade, te, ke, me, re, wAe, wne, wce⟩ := x
  simp only at hk
  subst hk
  have hte0 : 0 ≤ te := hoke.1
  have hte1 : te ≤ nw := hoke.2.1
  clear hoke
  have HX := Lib.hid hx
  have HY := Lib.hid hy
  clear hx hy
  have HTO : Hid (tooOldB age nw (⟨ade, te, true, me, re, wAe, wne, wce⟩) = false) := Lib.hid (by rw [← HNW.out]; exact ho)
  clear ho
  have bel := Below.refl lo w
  go_enter Try.func11, Try.ntmps11
  go_wp2_with (first | ((with_reducible show wpList _ _ _ (⟨some 5, _, _, _, _, _⟩ :: _) _ _); refine wpList_box_n rfl 30 (.tmp 1) rfl #[.int .u8 (y.a.toNat : Int), .int .u8 (y.b.toNat : Int), .int .u8 (y.c.toNat : Int), .int .u8 (y.d.toNat : Int)] rfl ?_; intro g5 w1 ge lt hh bb; have d_tb_yb := ne_new (hlt htb) ge; have av_sb_yb := sb.av_new ge; have av_en_yb := en.av_new ge; have oyb := Nat.le_trans (Nat.le_trans hlo bel.size) ge; have off_yb := owk_new own ge; have pn_yb := Nat.le_trans bel.size ge; replace htb := blk_u htb bb; replace sb := sb.below bb; replace en := en.below bb; replace own := owk_under own bb; replace kt := kt.trans (kt_below bb); replace bel := bel.trans (bb.mono (Nat.le_trans hlo bel.size)); have hyb := hh; clear hh lt ge bb) | ((with_reducible show wpList _ _ _ (⟨some 8, _, _, _, _, _⟩ :: _) _ _); refine wpList_new_a rfl 34 rfl #[.int .u8 0, .int .u8 0, .int .u8 0, .int .u8 0, .int .u8 0, .int .u8 0, .bool false, .bool false] (by kernel_rfl) ?_; intro g8 w2 ge hh bb; have d_tb_rb := ne_new (hlt htb) ge; have d_yb_rb := ne_new (hlt hyb) ge; have av_sb_rb := sb.av_new ge; have av_en_rb := en.av_new ge; have orb := Nat.le_trans (Nat.le_trans hlo bel.size) ge; have off_rb := owk_new own ge; have pn_rb := Nat.le_trans bel.size ge; replace htb := blk_u htb bb; replace hyb := blk_u hyb bb; replace sb := sb.below bb; replace en := en.below bb; replace own := owk_under own bb; replace kt := kt.trans (kt_below bb); replace bel := bel.trans (bb.mono (Nat.le_trans hlo bel.size)); have hrb := hh; clear hh ge bb))
  with_reducible refine (adv_any _ _ htb).mono ?_
  rintro e w3 ⟨rfl, htb_, b3⟩
  replace sb := sb.away av_sb_tb b3
  replace en := en.away av_en_tb b3
  replace hyb := blk_a hyb b3 (ne_symm d_tb_yb)
  replace hrb := blk_a hrb b3 (ne_symm d_tb_rb)
  replace own := owk_off own off_tb b3
  replace kt := kt.trans (kt_grown b3 htb (by simp))
  replace bel := below_grown bel b3 otb (Nat.le_trans hlo bel.size)
  clear b3
  clear htb
  rw [HNW.out] at htb_
  have htb := htb_
  clear htb_
  have R17 := Lib.hid (range_lit hyb 0 4 [.int .u8 (y.a.toNat : Int), .int .u8 (y.b.toNat : Int), .int .u8 (y.c.toNat : Int), .int .u8 (y.d.toNat : Int)] rfl)
  go_wp2_with (first | ((with_reducible show wpList _ _ _ (⟨some 17, _, _, _, _, _⟩ :: _) _ _); refine wpList_load_rng 30 (.tmp 5) rfl (by kernel_rfl) _ _ rfl _ R17.out _ Try.underlying30 rfl (by kernel_rfl) ?_))
  try clear R17
  with_reducible refine (find_any y _ htb (owk_sle (by decide) enE_len own).1 HS.out (Nat.le_trans H32.out (by decide))).mono ?_
  rintro e w4 ⟨rfl, b4⟩
  replace htb := blk_u htb b4
  replace hyb := blk_u hyb b4
  replace hrb := blk_u hrb b4
  replace sb := sb.below b4
  replace en := en.below b4
  replace own := owk_under own b4
  replace kt := kt.trans (kt_below b4)
  replace bel := bel.trans (b4.mono (Nat.le_trans hlo bel.size))
  clear b4
  rw [HF.out, HP.out]
  have R27 := cell_lit htb 2 _ rfl
  have R30 := Lib.hid (Sle.zrange0 en HX.out 14 [.int .u8 (ade.a.toNat : Int), .int .u8 (ade.b.toNat : Int), .int .u8 (ade.c.toNat : Int), .int .u8 (ade.d.toNat : Int), .int .i64 te, .bool true, .int .u8 (me.a.toNat : Int), .int .u8 (me.b.toNat : Int), .int .u8 (me.c.toNat : Int), .int .u8 (me.d.toNat : Int), .int .u8 (me.e.toNat : Int), .int .u8 (me.f.toNat : Int), .int .i64 re, .slice wAe wne wce] rfl)
  go_wp2_with (first | ((with_reducible show wpList _ _ _ (⟨some 30, _, _, _, _, _⟩ :: _) _ _); refine wpList_load_rng 52 (.tmp 29) rfl (by kernel_rfl) _ _ rfl _ R30.out _ Try.underlying52 rfl (by kernel_rfl) ?_))
  try clear R27
  try clear R30
  with_reducible refine (told_any (⟨ade, te, true, me, re, wAe, wne, wce⟩) _ htb HM0.out HM2.out hte0 hte1).mono ?_
  rintro e w5 ⟨rfl, b5⟩
  replace htb := blk_u htb b5
  replace hyb := blk_u hyb b5
  replace hrb := blk_u hrb b5
  replace sb := sb.below b5
  replace en := en.below b5
  replace own := owk_under own b5
  replace kt := kt.trans (kt_below b5)
  replace bel := bel.trans (b5.mono (Nat.le_trans hlo bel.size))
  clear b5
  rw [HTO.out]
  have R48 := cell_lit htb 2 _ rfl
  have R54 := Sle.zcell en HX.out 5 _ rfl
  have R58 := Lib.hid (Sle.zrange en HX.out 6 6 [.int .u8 (me.a.toNat : Int), .int .u8 (me.b.toNat : Int), .int .u8 (me.c.toNat : Int), .int .u8 (me.d.toNat : Int), .int .u8 (me.e.toNat : Int), .int .u8 (me.f.toNat : Int)] rfl)
  go_wp2_with (first | ((with_reducible show wpList _ _ _ (⟨some 58, _, _, _, _, _⟩ :: _) _ _); refine wpList_load_rng 32 (.tmp 57) rfl (by kernel_rfl) _ _ rfl _ R58.out _ Try.underlying32 rfl (by kernel_rfl) ?_) | ((with_reducible show wpList _ _ _ (⟨none, Op.store _ (.tmp 8) _, _, _, _, _⟩ :: _) _ _); refine wpList_store_blk rfl 34 (.tmp 8) (.tmp 59) rfl g8 rfl _ rfl _ 34 hrb (by rfl) (by kernel_rfl) (by kernel_rfl) ?_; intro w6 hq gr; replace sb := sb.away av_sb_rb gr; replace en := en.away av_en_rb gr; replace htb := blk_a htb gr d_tb_rb; replace hyb := blk_a hyb gr d_yb_rb; replace own := owk_off own off_rb gr; replace kt := kt.newer gr pn_rb bel.size; replace bel := below_grown bel gr orb (Nat.le_trans hlo bel.size); clear hrb; have hrb := hq; clear hq gr))
  try clear R48
  try clear R54
  try clear R58
  exact bodyPost_ret (results_cell_row' rfl _ _ _ _ _ _ _ rfl hrb Try.underlying34 rfl (by kernel_rfl)) rfl ⟨rfl, by rw [HNW.out]; exact ⟨(some ⟨gE, 0, none⟩), n, c, htb, otb, own, HS.out, HOK2.out, HLEN.out, HM0.out, HM2.out⟩, kt, bel⟩
set_option linter.unusedVariables false in
set_option linter.unusedSimpArgs false in
set_option maxRecDepth 100000 in
set_option maxHeartbeats 16000000 in
theorem want_more {lo gt : Nat} {age now : Int} {l : List En} {y : Ad4} {t : Int} {nb cb : Nat} {Ab : Option Addr} {lb : List UInt8} {i : Nat} {x : En} {ps : List (List UInt8)} (w : World) (hT : Tb lo gt w age now l) (hsb : Sb w Ab nb cb lb) (hnb : nb ≤ 100000) (hx : l[i]? = some x) (hy : x.num = y.num) (hk : x.k = false) (hd : adv now t - x.t < 1) (hw : x.wn < 4) (hP : Pk lo w x.wA x.wn x.wc ps) : Calls Try.prog 11 #[.pointer (some ⟨gt, 0, none⟩), .agg #[.int .u8 (y.a.toNat : Int), .int .u8 (y.b.toNat : Int), .int .u8 (y.c.toNat : Int), .int .u8 (y.d.toNat : Int)], .slice Ab nb cb, .int .i64 t] w fun e w' => ∃ A2 c2, e = .returned (.agg #[.int .u8 0, .int .u8 0, .int .u8 0, .int .u8 0, .int .u8 0, .int .u8 0, .bool false, .bool false]) ∧ Tb lo gt w' age (adv now t) (l.set i { x with wA := A2, wn := x.wn + 1, wc := c2 }) ∧ Pk lo w' A2 (x.wn + 1) c2 (ps ++ [lb]) ∧ Kt [49, 52, 42] w w' ∧ Below lo w w' := by
  obtain ⟨A, n, c, htb, otb, own, hS, hok, hlen, n0, n1⟩ := hT
  have hlo : lo ≤ w.heap.size := Nat.le_trans otb (Nat.le_of_lt (hlt htb))
  have off_tb := ofs_type own htb (by decide)
  have hl := row_len (by decide) enE_len own
  have h32 : n ≤ 32 := by omega
  have HLL := Lib.hid hl
  have HLO := Lib.hid hlo
  have HS := Lib.hid hS
  have HOK := Lib.hid hok
  have HLEN := Lib.hid hlen
  have H32 := Lib.hid h32
  obtain ⟨nw, hnw⟩ : ∃ x, adv now t = x := ⟨_, rfl⟩
  have hnw1 : now ≤ nw := by rw [← hnw]; exact adv_ge now t
  have hnw2 : nw ≤ 1099511627776 := by rw [← hnw]; exact adv_le n1
  have m0 : 0 ≤ nw := by omega
  have HNW := Lib.hid hnw
  have HM0 := Lib.hid m0
  have HM2 := Lib.hid hnw2
  have HOK2 : Hid (∀ e ∈ l, e.ok nw) := Lib.hid (fun e he => (hok e he).le hnw1)
  have kt := Kt.refl [49, 52, 42] w
  clear hl hS hok hlen hnw n0 n1
  have sb := hsb.1
  have av_sb_tb := hsb.av htb (by decide)
  clear hsb
  have hfd := HS.out.found hx hy
  have HP := Lib.hid hfd.1
  have HF := Lib.hid hfd.2
  have hin : i < n := by have h_ := (List.getElem?_eq_some_iff.1 hx).1; have h2_ := HLL.out; omega
  have i0 : (0 : Int) ≤ i := by omega
  have i1 : (i : Int) < n := by omega
  have hoke := HOK2.out _ (List.mem_of_getElem? hx)
  obtain ⟨gE, rfl, _⟩ := row_at own (by omega)
  have en := (owk_sle (by decide) enE_len own).1
  have av_en_tb := owk_av own off_tb
  clear hfd
  obtain ⟨ade, te, ke, me, re, wAe, wne, wce⟩ := x
  simp only at hk hd hw hP
  subst hk
  have hte0 : 0 ≤ te := hoke.1
  have hte1 : te ≤ nw := hoke.2.1
  clear hoke
  have HX := Lib.hid hx
  have HY := Lib.hid hy
  clear hx hy
  have HTO : Hid (tooOldB age nw (⟨ade, te, false, me, re, wAe, wne, wce⟩) = false) := Lib.hid rfl
  have HDU : Hid (nw - te < 1) := Lib.hid (by rw [← HNW.out]; exact hd)
  clear hd
  have HWN := Lib.hid hw
  clear hw
  have pk0 := hP
  clear hP
  have bel := Below.refl lo w
  go_enter Try.func11, Try.ntmps11
  go_wp2_with (first | ((with_reducible show wpList _ _ _ (⟨some 5, _, _, _, _, _⟩ :: _) _ _); refine wpList_box_n rfl 30 (.tmp 1) rfl #[.int .u8 (y.a.toNat : Int), .int .u8 (y.b.toNat : Int), .int .u8 (y.c.toNat : Int), .int .u8 (y.d.toNat : Int)] rfl ?_; intro g5 w1 ge lt hh bb; have d_tb_yb := ne_new (hlt htb) ge; have av_sb_yb := sb.av_new ge; have av_en_yb := en.av_new ge; have oyb := Nat.le_trans (Nat.le_trans hlo bel.size) ge; have off_yb := owk_new own ge; have pn_yb := Nat.le_trans bel.size ge; replace htb := blk_u htb bb; replace sb := sb.below bb; replace en := en.below bb; replace own := owk_under own bb; replace kt := kt.trans (kt_below bb); replace pk0 := pk0.kt (S := []) (kt_below bb) (by decide) (by decide); replace bel := bel.trans (bb.mono (Nat.le_trans hlo bel.size)); have hyb := hh; clear hh lt ge bb) | ((with_reducible show wpList _ _ _ (⟨some 8, _, _, _, _, _⟩ :: _) _ _); refine wpList_new_a rfl 34 rfl #[.int .u8 0, .int .u8 0, .int .u8 0, .int .u8 0, .int .u8 0, .int .u8 0, .bool false, .bool false] (by kernel_rfl) ?_; intro g8 w2 ge hh bb; have d_tb_rb := ne_new (hlt htb) ge; have d_yb_rb := ne_new (hlt hyb) ge; have av_sb_rb := sb.av_new ge; have av_en_rb := en.av_new ge; have orb := Nat.le_trans (Nat.le_trans hlo bel.size) ge; have off_rb := owk_new own ge; have pn_rb := Nat.le_trans bel.size ge; replace htb := blk_u htb bb; replace hyb := blk_u hyb bb; replace sb := sb.below bb; replace en := en.below bb; replace own := owk_under own bb; replace kt := kt.trans (kt_below bb); replace pk0 := pk0.kt (S := []) (kt_below bb) (by decide) (by decide); replace bel := bel.trans (bb.mono (Nat.le_trans hlo bel.size)); have hrb := hh; clear hh ge bb))
  with_reducible refine (adv_any _ _ htb).mono ?_
  rintro e w3 ⟨rfl, htb_, b3⟩
  replace sb := sb.away av_sb_tb b3
  replace en := en.away av_en_tb b3
  replace hyb := blk_a hyb b3 (ne_symm d_tb_yb)
  replace hrb := blk_a hrb b3 (ne_symm d_tb_rb)
  replace own := owk_off own off_tb b3
  replace kt := kt.trans (kt_grown b3 htb (by simp))
  replace pk0 := pk0.kt (S := [49]) (kt_grown b3 htb (by decide)) (by decide) (by decide)
  replace bel := below_grown bel b3 otb (Nat.le_trans hlo bel.size)
  clear b3
  clear htb
  rw [HNW.out] at htb_
  have htb := htb_
  clear htb_
  have R17 := Lib.hid (range_lit hyb 0 4 [.int .u8 (y.a.toNat : Int), .int .u8 (y.b.toNat : Int), .int .u8 (y.c.toNat : Int), .int .u8 (y.d.toNat : Int)] rfl)
  go_wp2_with (first | ((with_reducible show wpList _ _ _ (⟨some 17, _, _, _, _, _⟩ :: _) _ _); refine wpList_load_rng 30 (.tmp 5) rfl (by kernel_rfl) _ _ rfl _ R17.out _ Try.underlying30 rfl (by kernel_rfl) ?_))
  try clear R17
  with_reducible refine (find_any y _ htb (owk_sle (by decide) enE_len own).1 HS.out (Nat.le_trans H32.out (by decide))).mono ?_
  rintro e w4 ⟨rfl, b4⟩
  replace htb := blk_u htb b4
  replace hyb := blk_u hyb b4
  replace hrb := blk_u hrb b4
  replace sb := sb.below b4
  replace en := en.below b4
  replace own := owk_under own b4
  replace kt := kt.trans (kt_below b4)
  replace pk0 := pk0.kt (S := []) (kt_below b4) (by decide) (by decide)
  replace bel := bel.trans (b4.mono (Nat.le_trans hlo bel.size))
  clear b4
  rw [HF.out, HP.out]
  have R27 := cell_lit htb 2 _ rfl
  have R30 := Lib.hid (Sle.zrange0 en HX.out 14 [.int .u8 (ade.a.toNat : Int), .int .u8 (ade.b.toNat : Int), .int .u8 (ade.c.toNat : Int), .int .u8 (ade.d.toNat : Int), .int .i64 te, .bool false, .int .u8 (me.a.toNat : Int), .int .u8 (me.b.toNat : Int), .int .u8 (me.c.toNat : Int), .int .u8 (me.d.toNat : Int), .int .u8 (me.e.toNat : Int), .int .u8 (me.f.toNat : Int), .int .i64 re, .slice wAe wne wce] rfl)
  go_wp2_with (first | ((with_reducible show wpList _ _ _ (⟨some 30, _, _, _, _, _⟩ :: _) _ _); refine wpList_load_rng 52 (.tmp 29) rfl (by kernel_rfl) _ _ rfl _ R30.out _ Try.underlying52 rfl (by kernel_rfl) ?_))
  try clear R27
  try clear R30
  with_reducible refine (told_any (⟨ade, te, false, me, re, wAe, wne, wce⟩) _ htb HM0.out HM2.out hte0 hte1).mono ?_
  rintro e w5 ⟨rfl, b5⟩
  replace htb := blk_u htb b5
  replace hyb := blk_u hyb b5
  replace hrb := blk_u hrb b5
  replace sb := sb.below b5
  replace en := en.below b5
  replace own := owk_under own b5
  replace kt := kt.trans (kt_below b5)
  replace pk0 := pk0.kt (S := []) (kt_below b5) (by decide) (by decide)
  replace bel := bel.trans (b5.mono (Nat.le_trans hlo bel.size))
  clear b5
  rw [HTO.out]
  have R48 := cell_lit htb 2 _ rfl
  have R54 := Sle.zcell en HX.out 5 _ rfl
  go_wp2_with fail
  clear R48 R54
  have HLO_ := Nat.le_trans HLO.out bel.size
  with_reducible refine (wait_more (x := ⟨ade, te, false, me, re, wAe, wne, wce⟩) _ own HX.out HLO_ HWN.out pk0 sb hnb).mono ?_
  rintro e w6 ⟨A2, c2, rfl, own_, pk, k2_, bb⟩
  replace htb := Kt.blk k2_ htb (by decide)
  replace hyb := Kt.blk k2_ hyb (by decide)
  replace hrb := Kt.blk k2_ hrb (by decide)
  clear sb
  replace kt := kt.trans (k2_.mono (by simp))
  clear pk0
  replace bel := bel.trans bb
  clear own bb k2_
  have own := own_
  clear own_
  replace en := (owk_sle (by decide) enE_len own).1
  clear HLO_
  have HX2 : Hid ((l.set i ⟨ade, te, false, me, re, A2, wne + 1, c2⟩)[i]? = some ⟨ade, te, false, me, re, A2, wne + 1, c2⟩) := Lib.hid (List.getElem?_set_self (List.getElem?_eq_some_iff.1 HX.out).1)
  have R67 := cell_lit htb 1 _ rfl
  go_wp2_with fail
  clear R67
  with_reducible refine (request_no _ own HX2.out HM0.out HM2.out hte0 hte1 (Int.not_le.2 HDU.out)).mono ?_
  rintro e _ ⟨rfl, rfl⟩
  go_wp2_with (first | ((with_reducible show wpList _ _ _ (⟨none, Op.store _ (.tmp 8) _, _, _, _, _⟩ :: _) _ _); refine wpList_store_blk rfl 34 (.tmp 8) (.tmp 69) rfl g8 rfl _ rfl _ 34 hrb (by rfl) (by kernel_rfl) (by kernel_rfl) ?_; intro w7 hq gr; replace en := en.away av_en_rb gr; replace htb := blk_a htb gr d_tb_rb; replace hyb := blk_a hyb gr d_yb_rb; replace own := owk_off own off_rb gr; replace kt := kt.newer gr pn_rb bel.size; replace pk := pk.kt (S := [34]) (kt_grown gr hrb (by decide)) (by decide) (by decide); replace bel := below_grown bel gr orb (Nat.le_trans hlo bel.size); clear hrb; have hrb := hq; clear hq gr))
  exact bodyPost_ret (results_cell_row' rfl _ _ _ _ _ _ _ rfl hrb Try.underlying34 rfl (by kernel_rfl)) rfl ⟨A2, c2, rfl, by rw [HNW.out]; exact ⟨(some ⟨gE, 0, none⟩), n, c, htb, otb, own, (HS.out.set HX.out rfl), (fun z hz => (List.mem_or_eq_of_mem_set hz).elim (HOK2.out z) (fun h_ => h_ ▸ (show En.ok nw ⟨ade, te, false, me, re, A2, wne + 1, c2⟩ from (HOK2.out (⟨ade, te, false, me, re, wAe, wne, wce⟩) (List.mem_of_getElem? HX.out) : En.ok nw (⟨ade, te, false, me, re, wAe, wne, wce⟩))))), (by rw [List.length_set]; exact HLEN.out), HM0.out, HM2.out⟩, pk, kt, bel⟩
set_option linter.unusedVariables false in
set_option linter.unusedSimpArgs false in
set_option maxRecDepth 100000 in
set_option maxHeartbeats 16000000 in
theorem want_full {lo gt : Nat} {age now : Int} {l : List En} {y : Ad4} {t : Int} {nb cb : Nat} {Ab : Option Addr} {lb : List UInt8} {i : Nat} {x : En}  (w : World) (hT : Tb lo gt w age now l) (hsb : Sb w Ab nb cb lb) (hnb : nb ≤ 100000) (hx : l[i]? = some x) (hy : x.num = y.num) (hk : x.k = false) (hd : adv now t - x.t < 1) (hw : 4 ≤ x.wn) : Calls Try.prog 11 #[.pointer (some ⟨gt, 0, none⟩), .agg #[.int .u8 (y.a.toNat : Int), .int .u8 (y.b.toNat : Int), .int .u8 (y.c.toNat : Int), .int .u8 (y.d.toNat : Int)], .slice Ab nb cb, .int .i64 t] w fun e w' => e = .returned (.agg #[.int .u8 0, .int .u8 0, .int .u8 0, .int .u8 0, .int .u8 0, .int .u8 0, .bool false, .bool false]) ∧ Tb lo gt w' age (adv now t) l ∧ Kt [49, 52] w w' ∧ Below lo w w' := by
  obtain ⟨A, n, c, htb, otb, own, hS, hok, hlen, n0, n1⟩ := hT
  have hlo : lo ≤ w.heap.size := Nat.le_trans otb (Nat.le_of_lt (hlt htb))
  have off_tb := ofs_type own htb (by decide)
  have hl := row_len (by decide) enE_len own
  have h32 : n ≤ 32 := by omega
  have HLL := Lib.hid hl
  have HLO := Lib.hid hlo
  have HS := Lib.hid hS
  have HOK := Lib.hid hok
  have HLEN := Lib.hid hlen
  have H32 := Lib.hid h32
  obtain ⟨nw, hnw⟩ : ∃ x, adv now t = x := ⟨_, rfl⟩
  have hnw1 : now ≤ nw := by rw [← hnw]; exact adv_ge now t
  have hnw2 : nw ≤ 1099511627776 := by rw [← hnw]; exact adv_le n1
  have m0 : 0 ≤ nw := by omega
  have HNW := Lib.hid hnw
  have HM0 := Lib.hid m0
  have HM2 := Lib.hid hnw2
  have HOK2 : Hid (∀ e ∈ l, e.ok nw) := Lib.hid (fun e he => (hok e he).le hnw1)
  have kt := Kt.refl [49, 52] w
  clear hl hS hok hlen hnw n0 n1
  have sb := hsb.1
  have av_sb_tb := hsb.av htb (by decide)
  clear hsb
  have hfd := HS.out.found hx hy
  have HP := Lib.hid hfd.1
  have HF := Lib.hid hfd.2
  have hin : i < n := by have h_ := (List.getElem?_eq_some_iff.1 hx).1; have h2_ := HLL.out; omega
  have i0 : (0 : Int) ≤ i := by omega
  have i1 : (i : Int) < n := by omega
  have hoke := HOK2.out _ (List.mem_of_getElem? hx)
  obtain ⟨gE, rfl, _⟩ := row_at own (by omega)
  have en := (owk_sle (by decide) enE_len own).1
  have av_en_tb := owk_av own off_tb
  clear hfd
  obtain ⟨ade, te, ke, me, re, wAe, wne, wce⟩ := x
  simp only at hk hd hw
  subst hk
  have hte0 : 0 ≤ te := hoke.1
  have hte1 : te ≤ nw := hoke.2.1
  clear hoke
  have HX := Lib.hid hx
  have HY := Lib.hid hy
  clear hx hy
  have HTO : Hid (tooOldB age nw (⟨ade, te, false, me, re, wAe, wne, wce⟩) = false) := Lib.hid rfl
  have HDU : Hid (nw - te < 1) := Lib.hid (by rw [← HNW.out]; exact hd)
  clear hd
  have HWN := Lib.hid hw
  clear hw
  have bel := Below.refl lo w
  go_enter Try.func11, Try.ntmps11
  go_wp2_with (first | ((with_reducible show wpList _ _ _ (⟨some 5, _, _, _, _, _⟩ :: _) _ _); refine wpList_box_n rfl 30 (.tmp 1) rfl #[.int .u8 (y.a.toNat : Int), .int .u8 (y.b.toNat : Int), .int .u8 (y.c.toNat : Int), .int .u8 (y.d.toNat : Int)] rfl ?_; intro g5 w1 ge lt hh bb; have d_tb_yb := ne_new (hlt htb) ge; have av_sb_yb := sb.av_new ge; have av_en_yb := en.av_new ge; have oyb := Nat.le_trans (Nat.le_trans hlo bel.size) ge; have off_yb := owk_new own ge; have pn_yb := Nat.le_trans bel.size ge; replace htb := blk_u htb bb; replace sb := sb.below bb; replace en := en.below bb; replace own := owk_under own bb; replace kt := kt.trans (kt_below bb); replace bel := bel.trans (bb.mono (Nat.le_trans hlo bel.size)); have hyb := hh; clear hh lt ge bb) | ((with_reducible show wpList _ _ _ (⟨some 8, _, _, _, _, _⟩ :: _) _ _); refine wpList_new_a rfl 34 rfl #[.int .u8 0, .int .u8 0, .int .u8 0, .int .u8 0, .int .u8 0, .int .u8 0, .bool false, .bool false] (by kernel_rfl) ?_; intro g8 w2 ge hh bb; have d_tb_rb := ne_new (hlt htb) ge; have d_yb_rb := ne_new (hlt hyb) ge; have av_sb_rb := sb.av_new ge; have av_en_rb := en.av_new ge; have orb := Nat.le_trans (Nat.le_trans hlo bel.size) ge; have off_rb := owk_new own ge; have pn_rb := Nat.le_trans bel.size ge; replace htb := blk_u htb bb; replace hyb := blk_u hyb bb; replace sb := sb.below bb; replace en := en.below bb; replace own := owk_under own bb; replace kt := kt.trans (kt_below bb); replace bel := bel.trans (bb.mono (Nat.le_trans hlo bel.size)); have hrb := hh; clear hh ge bb))
  with_reducible refine (adv_any _ _ htb).mono ?_
  rintro e w3 ⟨rfl, htb_, b3⟩
  replace sb := sb.away av_sb_tb b3
  replace en := en.away av_en_tb b3
  replace hyb := blk_a hyb b3 (ne_symm d_tb_yb)
  replace hrb := blk_a hrb b3 (ne_symm d_tb_rb)
  replace own := owk_off own off_tb b3
  replace kt := kt.trans (kt_grown b3 htb (by simp))
  replace bel := below_grown bel b3 otb (Nat.le_trans hlo bel.size)
  clear b3
  clear htb
  rw [HNW.out] at htb_
  have htb := htb_
  clear htb_
  have R17 := Lib.hid (range_lit hyb 0 4 [.int .u8 (y.a.toNat : Int), .int .u8 (y.b.toNat : Int), .int .u8 (y.c.toNat : Int), .int .u8 (y.d.toNat : Int)] rfl)
  go_wp2_with (first | ((with_reducible show wpList _ _ _ (⟨some 17, _, _, _, _, _⟩ :: _) _ _); refine wpList_load_rng 30 (.tmp 5) rfl (by kernel_rfl) _ _ rfl _ R17.out _ Try.underlying30 rfl (by kernel_rfl) ?_))
  try clear R17
  with_reducible refine (find_any y _ htb (owk_sle (by decide) enE_len own).1 HS.out (Nat.le_trans H32.out (by decide))).mono ?_
  rintro e w4 ⟨rfl, b4⟩
  replace htb := blk_u htb b4
  replace hyb := blk_u hyb b4
  replace hrb := blk_u hrb b4
  replace sb := sb.below b4
  replace en := en.below b4
  replace own := owk_under own b4
  replace kt := kt.trans (kt_below b4)
  replace bel := bel.trans (b4.mono (Nat.le_trans hlo bel.size))
  clear b4
  rw [HF.out, HP.out]
  have R27 := cell_lit htb 2 _ rfl
  have R30 := Lib.hid (Sle.zrange0 en HX.out 14 [.int .u8 (ade.a.toNat : Int), .int .u8 (ade.b.toNat : Int), .int .u8 (ade.c.toNat : Int), .int .u8 (ade.d.toNat : Int), .int .i64 te, .bool false, .int .u8 (me.a.toNat : Int), .int .u8 (me.b.toNat : Int), .int .u8 (me.c.toNat : Int), .int .u8 (me.d.toNat : Int), .int .u8 (me.e.toNat : Int), .int .u8 (me.f.toNat : Int), .int .i64 re, .slice wAe wne wce] rfl)
  go_wp2_with (first | ((with_reducible show wpList _ _ _ (⟨some 30, _, _, _, _, _⟩ :: _) _ _); refine wpList_load_rng 52 (.tmp 29) rfl (by kernel_rfl) _ _ rfl _ R30.out _ Try.underlying52 rfl (by kernel_rfl) ?_))
  try clear R27
  try clear R30
  with_reducible refine (told_any (⟨ade, te, false, me, re, wAe, wne, wce⟩) _ htb HM0.out HM2.out hte0 hte1).mono ?_
  rintro e w5 ⟨rfl, b5⟩
  replace htb := blk_u htb b5
  replace hyb := blk_u hyb b5
  replace hrb := blk_u hrb b5
  replace sb := sb.below b5
  replace en := en.below b5
  replace own := owk_under own b5
  replace kt := kt.trans (kt_below b5)
  replace bel := bel.trans (b5.mono (Nat.le_trans hlo bel.size))
  clear b5
  rw [HTO.out]
  have R48 := cell_lit htb 2 _ rfl
  have R54 := Sle.zcell en HX.out 5 _ rfl
  go_wp2_with fail
  clear R48 R54
  with_reducible refine (wait_full (x := ⟨ade, te, false, me, re, wAe, wne, wce⟩) _ own HX.out HWN.out).mono ?_
  rintro e _ ⟨rfl, rfl⟩
  have R67 := cell_lit htb 1 _ rfl
  go_wp2_with fail
  clear R67
  with_reducible refine (request_no _ own HX.out HM0.out HM2.out hte0 hte1 (Int.not_le.2 HDU.out)).mono ?_
  rintro e _ ⟨rfl, rfl⟩
  go_wp2_with (first | ((with_reducible show wpList _ _ _ (⟨none, Op.store _ (.tmp 8) _, _, _, _, _⟩ :: _) _ _); refine wpList_store_blk rfl 34 (.tmp 8) (.tmp 69) rfl g8 rfl _ rfl _ 34 hrb (by rfl) (by kernel_rfl) (by kernel_rfl) ?_; intro w6 hq gr; replace sb := sb.away av_sb_rb gr; replace en := en.away av_en_rb gr; replace htb := blk_a htb gr d_tb_rb; replace hyb := blk_a hyb gr d_yb_rb; replace own := owk_off own off_rb gr; replace kt := kt.newer gr pn_rb bel.size; replace bel := below_grown bel gr orb (Nat.le_trans hlo bel.size); clear hrb; have hrb := hq; clear hq gr))
  exact bodyPost_ret (results_cell_row' rfl _ _ _ _ _ _ _ rfl hrb Try.underlying34 rfl (by kernel_rfl)) rfl ⟨rfl, by rw [HNW.out]; exact ⟨(some ⟨gE, 0, none⟩), n, c, htb, otb, own, HS.out, HOK2.out, HLEN.out, HM0.out, HM2.out⟩, kt, bel⟩
theorem tlen {lo gt : Nat} {age now : Int} {l : List En} (w : World) (hT : Tb lo gt w age now l) : Calls Try.prog 14 #[.pointer (some ⟨gt, 0, none⟩)] w fun e w' => e = .returned (.int .i64 (l.length : Int)) ∧ w = w' := by
  obtain ⟨A, n, c, htb, otb, own, _⟩ := hT
  rw [row_len (by decide) enE_len own]
  exact len_any w htb
theorem tnew (age : Int) (h1 : 1 ≤ age) (h2 : age ≤ 86400) (w : World) : Calls Try.prog 9 #[.int .i64 age] w fun e w' => ∃ g, e = .returned (.tuple #[.pointer (some ⟨g, 0, none⟩), .int .i64 0]) ∧ Tb w.heap.size g w' age 0 [] ∧ Below w.heap.size w w' := by
  refine (new_any age h1 h2 w).mono ?_
  rintro e w' ⟨g, rfl, h3, h4, bel⟩
  exact ⟨g, rfl, ⟨none, 0, 0, h3, h4, World.ownsRow_nil _ _ _ _, List.Pairwise.nil, fun e he => (by cases he), by decide, by decide, by decide⟩, bel⟩
end Go.Proofs.Ytfghmckeogajnaa
