/- TrackWays: two tables at a time. -/
import Derived.Test.YtjfkeocdojjpgaaLaw18
import Derived.Test.YtjfkeocdojjpgaaSli
namespace Go.Proofs.Ytjfkeocdojjpgaa
open Go.RowKit

/-- A row that lies apart stays. -/
def ApV (gt : Nat) (w : World) (v : Value) : Prop := ∀ g, v.ownBlock = some g → Ap gt w g
theorem Fap.own {gt B k n : Nat} {w w' : World} {T : TypeId} {v : Value} {xs : List Value} (h : Fap gt w w') (ho : w.ownsRow B T k v n xs) (ap : ApV gt w v) : w'.ownsRow B T k v n xs ∧ ApV gt w' v := by
  rcases ho.2 with h2 | ⟨g', cap, cur, e2, hb, hh, h3⟩
  · refine ⟨⟨ho.1, .inl h2⟩, fun g hg => ?_⟩
    rw [h2.1] at hg; simp [Value.ownBlock] at hg
  · have hv : v.ownBlock = some g' := by rw [e2]; rfl
    have h4 := h _ _ _ _ hh (ap g' hv)
    refine ⟨⟨ho.1, .inr ⟨g', cap, cur, e2, hb, h4.1, h3⟩⟩, fun g hg => ?_⟩
    rw [hv] at hg; cases hg; exact h4.2
/-- Two tables that lie apart. -/
def T2 (lo ga gb : Nat) (w : World) (sa sb : Ts) : Prop := ∃ (Aa : Option Addr) (na ca : Nat) (Ab : Option Addr) (nb cb : Nat), (w.heap[ga]? = some (.cells #[.int .i64 sa.rm, .slice Aa na ca] 45 (0, 0)) ∧ lo ≤ ga ∧ w.ownsRow lo 51 8 (.slice Aa na ca) na (sa.l.flatMap cnE) ∧ sa.ok) ∧ (w.heap[gb]? = some (.cells #[.int .i64 sb.rm, .slice Ab nb cb] 45 (0, 0)) ∧ lo ≤ gb ∧ w.ownsRow lo 51 8 (.slice Ab nb cb) nb (sb.l.flatMap cnE) ∧ sb.ok) ∧ gb ≠ ga ∧ Ofs (.slice Aa na ca) gb ∧ Ofs (.slice Ab nb cb) ga ∧ ∀ g, (Value.slice Ab nb cb).ownBlock = some g → Ofs (.slice Aa na ca) g
def Ap2 (ga gb : Nat) (w : World) (q : Nat) : Prop := Ap ga w q ∧ Ap gb w q
def F2 (ga gb : Nat) (w w' : World) : Prop := ∀ (k : Nat) (c : Array Value) (T : TypeId) (fz : Nat × Nat), w.heap[k]? = some (.cells c T fz) → Ap2 ga gb w k → w'.heap[k]? = some (.cells c T fz) ∧ Ap2 ga gb w' k
theorem T2.tka {lo ga gb : Nat} {w : World} {sa sb : Ts} (h : T2 lo ga gb w sa sb) : Tk lo ga w sa := by
  obtain ⟨Aa, na, ca, Ab, nb, cb, h1, h2, _⟩ := h
  exact ⟨Aa, na, ca, h1⟩
theorem T2.tkb {lo ga gb : Nat} {w : World} {sa sb : Ts} (h : T2 lo ga gb w sa sb) : Tk lo gb w sb := by
  obtain ⟨Aa, na, ca, Ab, nb, cb, h1, h2, _⟩ := h
  exact ⟨Ab, nb, cb, h2⟩
theorem T2.swap {lo ga gb : Nat} {w : World} {sa sb : Ts} (h : T2 lo ga gb w sa sb) : T2 lo gb ga w sb sa := by
  obtain ⟨Aa, na, ca, Ab, nb, cb, h1, h2, h3, h4, h5, h6⟩ := h
  exact ⟨Ab, nb, cb, Aa, na, ca, h2, h1, fun e => h3 e.symm, h5, h4, fun g hg g' hg' e => h6 g' hg' g hg e.symm⟩
theorem T2.below {lo ga gb : Nat} {w w' : World} {sa sb : Ts} (h : T2 lo ga gb w sa sb) (b : Below w.heap.size w w') : T2 lo ga gb w' sa sb := by
  obtain ⟨Aa, na, ca, Ab, nb, cb, ⟨a1, a2, a3, a4⟩, ⟨b1, b2, b3, b4⟩, h3⟩ := h
  exact ⟨Aa, na, ca, Ab, nb, cb, ⟨blk_u a1 b, a2, owk_under a3 b, a4⟩, ⟨blk_u b1 b, b2, owk_under b3 b, b4⟩, h3⟩
theorem t2_drew {lo ga gb : Nat} {w : World} {sa sb : Ts} (h : T2 lo ga gb w sa sb) : T2 lo ga gb w.drew sa sb := h
theorem T2.ap {lo ga gb q : Nat} {w : World} {sa sb : Ts} (h : T2 lo ga gb w sa sb) (hq : w.heap.size ≤ q) : Ap2 ga gb w q := ⟨h.tka.ap hq, h.tkb.ap hq⟩
theorem T2.away {lo ga gb q : Nat} {w w' : World} {sa sb : Ts} {c : Array Value} {T : TypeId} {fz : Nat × Nat} (h : T2 lo ga gb w sa sb) (ap : Ap2 ga gb w q) (g : w.grownBy w' (some q)) (_hq : w.heap[q]? = some (.cells c T fz)) : T2 lo ga gb w' sa sb := by
  obtain ⟨Aa, na, ca, Ab, nb, cb, ⟨a1, a2, a3, a4⟩, ⟨b1, b2, b3, b4⟩, h3⟩ := h
  exact ⟨Aa, na, ca, Ab, nb, cb, ⟨(g.block ga (hlt a1) (fun e => ap.1.1 (by injection e with e; exact e.symm))).trans a1, a2, owk_off a3 (ap.1.ofs a1) g, a4⟩, ⟨(g.block gb (hlt b1) (fun e => ap.2.1 (by injection e with e; exact e.symm))).trans b1, b2, owk_off b3 (ap.2.ofs b1) g, b4⟩, h3⟩
theorem Ap2.below {ga gb q : Nat} {w w' : World} (h : Ap2 ga gb w q) (b : Below w.heap.size w w') : Ap2 ga gb w' q := ⟨h.1.below b, h.2.below b⟩
theorem ap2_drew {ga gb q : Nat} {w : World} (h : Ap2 ga gb w q) : Ap2 ga gb w.drew q := h
theorem Ap2.grown {ga gb q r : Nat} {w w' : World} (h : Ap2 ga gb w q) (hr : Ap2 ga gb w r) (g : w.grownBy w' (some r)) : Ap2 ga gb w' q := ⟨h.1.grown hr.1.1 g, h.2.grown hr.2.1 g⟩
theorem T2.mk {lo ga gb : Nat} {w w' : World} {sa sb : Ts} (h : Tk lo ga w sa) (h' : Tk w.heap.size gb w' sb) (b : Below w.heap.size w w') : T2 lo ga gb w' sa sb := by
  have hlo := h.lo_le
  obtain ⟨Aa, na, ca, a1, a2, a3, a4⟩ := h
  obtain ⟨Ab, nb, cb, b1, b2, b3, b4⟩ := h'
  have hga := hlt a1
  exact ⟨Aa, na, ca, Ab, nb, cb, ⟨blk_u a1 b, a2, owk_under a3 b, a4⟩, ⟨b1, Nat.le_trans hlo b2, owk_lo b3 hlo, b4⟩, by omega, owk_new a3 b2, fun g hg => by have := (b3.lt g hg).1; omega, fun g hg => owk_new a3 (b3.lt g hg).1⟩
/-- A call on the first one. -/
theorem T2.left {lo ga gb : Nat} {w w' : World} {sa sb sc : Ts} (h : T2 lo ga gb w sa sb) (h1 : Tk lo ga w' sc) (f : Fap ga w w') : T2 lo ga gb w' sc sb ∧ F2 ga gb w w' := by
  obtain ⟨Aa, na, ca, Ab, nb, cb, ⟨a1, a2, a3, a4⟩, ⟨b1, b2, b3, b4⟩, h3, h4, h5, h6⟩ := h
  obtain ⟨Ac, nc, cc, c1, c2, c3, c4⟩ := h1
  have hb := f _ _ _ _ b1 (Ap.mk a1 h4 h3)
  have hr := f.own b3 (fun g hg => Ap.mk a1 (h6 g hg) (h5 g hg))
  refine ⟨⟨Ac, nc, cc, Ab, nb, cb, ⟨c1, c2, c3, c4⟩, ⟨hb.1, b2, hr.1, b4⟩, h3, hb.2.ofs c1, h5, fun g hg => (hr.2 g hg).ofs c1⟩, fun k c T fz hk ap => ?_⟩
  have h7 := f k c T fz hk ap.1
  exact ⟨h7.1, h7.2, Ap.mk hb.1 (ap.2.ofs b1) ap.2.1⟩
theorem F2.swap {ga gb : Nat} {w w' : World} (h : F2 gb ga w w') : F2 ga gb w w' := fun k c T fz hk ap => ⟨(h k c T fz hk ⟨ap.2, ap.1⟩).1, (h k c T fz hk ⟨ap.2, ap.1⟩).2.2, (h k c T fz hk ⟨ap.2, ap.1⟩).2.1⟩
theorem tnew_two {rm : Int} (w : World) (h1 : ¬ rm < 1) (h4 : ¬ 256 < rm) : Calls Try.prog 9 #[.int .i64 rm] w fun e w' => ∃ gt, e = .returned (.tuple #[.pointer (some ⟨gt, 0, none⟩), .int .i64 0]) ∧ Tk w.heap.size gt w' ⟨rm, []⟩ ∧ Below w.heap.size w w' ∧ Below w.heap.size w w' := by
  refine (tnew_any w h1 h4).mono ?_
  rintro e w' ⟨gt, h1, h2, h3⟩
  exact ⟨gt, h1, h2, h3, h3⟩
/-- One talk, or none yet. -/
def wC (s : Int) (d : Bool) : Cn := ⟨1, atA 1, 1, s, d⟩
def wS : Option (Int × Bool) → Ts
  | none => ⟨4, []⟩
  | some x => ⟨4, [wC x.1 x.2]⟩
def flp (o : Option (Int × Bool)) : Option (Int × Bool) := o.map fun x => (x.1, !x.2)
def wN (o : Option (Int × Bool)) (b : Bool) (f : Int) : Option (Int × Bool) × Int := match o with
  | none => if (fol (wC 0 false) b f).s = 0 then (none, 0) else (some ((fol (wC 0 false) b f).s, (fol (wC 0 false) b f).d), (fol (wC 0 false) b f).s)
  | some x => (some ((fol (wC x.1 x.2) b f).s, (fol (wC x.1 x.2) b f).d), (fol (wC x.1 x.2) b f).s)
theorem fol_wC (s : Int) (d b : Bool) (f : Int) : fol (wC s d) b f = wC (fol (wC s d) b f).s (fol (wC s d) b f).d := by
  unfold fol
  repeat' split
  all_goals rfl
theorem fol_flip0 (o p s : Int) (ad : Ad4) (d b : Bool) (f : Int) : (fol ⟨o, ad, p, s, !d⟩ (!b) f).s = (fol ⟨o, ad, p, s, d⟩ b f).s ∧ (fol ⟨o, ad, p, s, !d⟩ (!b) f).d = !(fol ⟨o, ad, p, s, d⟩ b f).d := by
  have e : ((!b) != (!d)) = (b != d) := by cases b <;> cases d <;> rfl
  unfold fol
  rw [e]
  by_cases c0 : s = 0 ∨ s = 6
  · first | rw [if_pos c0, if_pos c0] | rw [if_pos c0]
    by_cases c1 : (fl f 2 && !fl f 20) = true
    · first | rw [if_pos c1, if_pos c1] | rw [if_pos c1]
      exact ⟨rfl, rfl⟩
    · first | rw [if_neg c1, if_neg c1] | rw [if_neg c1]
      exact ⟨rfl, rfl⟩
  first | rw [if_neg c0, if_neg c0] | rw [if_neg c0]
  by_cases c1 : fl f 4 = true
  · first | rw [if_pos c1, if_pos c1] | rw [if_pos c1]
    exact ⟨rfl, rfl⟩
  first | rw [if_neg c1, if_neg c1] | rw [if_neg c1]
  by_cases c2 : (fl f 1 && decide (s ≤ 3)) = true
  · first | rw [if_pos c2, if_pos c2] | rw [if_pos c2]
    exact ⟨rfl, rfl⟩
  first | rw [if_neg c2, if_neg c2] | rw [if_neg c2]
  by_cases c3 : ((s == 1) && (fl f 2 && (b != d))) = true
  · first | rw [if_pos c3, if_pos c3] | rw [if_pos c3]
    exact ⟨rfl, rfl⟩
  first | rw [if_neg c3, if_neg c3] | rw [if_neg c3]
  by_cases c4 : ((s == 2) && (fl f 16 && !fl f 2)) = true
  · first | rw [if_pos c4, if_pos c4] | rw [if_pos c4]
    exact ⟨rfl, rfl⟩
  first | rw [if_neg c4, if_neg c4] | rw [if_neg c4]
  by_cases c5 : ((s == 4) && (fl f 1 && (b != d))) = true
  · first | rw [if_pos c5, if_pos c5] | rw [if_pos c5]
    exact ⟨rfl, rfl⟩
  first | rw [if_neg c5, if_neg c5] | rw [if_neg c5]
  exact ⟨rfl, rfl⟩
theorem fol_flip (s : Int) (d b : Bool) (f : Int) : (fol (wC s (!d)) (!b) f).s = (fol (wC s d) b f).s ∧ (fol (wC s (!d)) (!b) f).d = !(fol (wC s d) b f).d := fol_flip0 1 1 s (atA 1) d b f
theorem fol_new (b : Bool) (f : Int) : (fl f 2 && !fl f 20) = true ∧ fol (wC 0 false) b f = wC 1 b ∨ (fl f 2 && !fl f 20) = false ∧ fol (wC 0 false) b f = wC 0 false := by
  have h0 : fol (wC 0 false) b f = if (fl f 2 && !fl f 20) = true then wC 1 b else wC 0 false := rfl
  rw [h0]
  rcases h : (fl f 2 && !fl f 20) with _ | _
  · exact .inr ⟨rfl, rfl⟩
  · exact .inl ⟨rfl, rfl⟩
theorem wN_flip {o o' : Option (Int × Bool)} {b : Bool} {f r : Int} (h : wN o b f = (o', r)) : wN (flp o) (!b) f = (flp o', r) := by
  cases o with
  | none =>
    show wN none (!b) f = _
    unfold wN at h ⊢
    rcases fol_new b f with ⟨h1, h2⟩ | ⟨h1, h2⟩
    · rcases fol_new (!b) f with ⟨_, h4⟩ | ⟨h3, _⟩
      · simp only [h2, h4] at h ⊢
        simp only [wC] at h ⊢
        injection h with e1 e2
        rw [← e1, ← e2]; rfl
      · rw [h1] at h3; cases h3
    · rcases fol_new (!b) f with ⟨h3, _⟩ | ⟨_, h4⟩
      · rw [h1] at h3; cases h3
      · simp only [h2, h4] at h ⊢
        simp only [wC] at h ⊢
        injection h with e1 e2
        rw [← e1, ← e2]; rfl
  | some x =>
    obtain ⟨s, d⟩ := x
    have hf := fol_flip s d b f
    unfold wN at h
    injection h with e1 e2
    show (some ((fol (wC s (!d)) (!b) f).s, (fol (wC s (!d)) (!b) f).d), (fol (wC s (!d)) (!b) f).s) = _
    rw [hf.1, hf.2, ← e1, ← e2]; rfl
theorem way_see {lo gt : Nat} {o o' : Option (Int × Bool)} {b : Bool} {f r : Int} (w : World) (hT : Tk lo gt w (wS o)) (h : wN o b f = (o', r)) : Calls Try.prog 10 #[.pointer (some ⟨gt, 0, none⟩), .int .i64 1, .agg #[.int .u8 ((atA 1).a.toNat : Int), .int .u8 ((atA 1).b.toNat : Int), .int .u8 ((atA 1).c.toNat : Int), .int .u8 ((atA 1).d.toNat : Int)], .int .i64 1, .bool b, .agg #[.int .i64 0, .int .i64 0, .int .u32 0, .int .u32 0, .int .i64 f, .int .i64 0, .int .i64 0, .slice none 0 0, .slice none 0 0]] w fun e w' => e = .returned (.int .i64 r) ∧ Tk lo gt w' (wS o') ∧ Fap gt w w' ∧ Below lo w w' := by
  cases o with
  | none =>
    unfold wN at h
    by_cases h0 : (fol (wC 0 false) b f).s = 0
    · simp only [h0, if_true] at h
      injection h with e1 e2
      subst e1; subst e2
      exact see_none (s := ⟨4, []⟩) w hT rfl rfl h0 rfl
    · simp only [h0, if_false] at h
      injection h with e1 e2
      subst e1
      exact see_new (s := ⟨4, []⟩) (s2 := wS (some _)) w hT rfl rfl e2 (fun h9 => h0 (e2.trans h9)) (by decide) (by show (⟨4, [fol (wC 0 false) b f]⟩ : Ts) = ⟨4, [wC _ _]⟩; rw [← fol_wC])
  | some x =>
    obtain ⟨s, d⟩ := x
    unfold wN at h
    injection h with e1 e2
    subst e1
    exact see_old (s := ⟨4, [wC s d]⟩) (s2 := wS (some _)) (i := 0) (x := wC s d) w hT (by kernel_rfl) rfl rfl e2 (by show (⟨4, [fol (wC s d) b f]⟩ : Ts) = ⟨4, [wC _ _]⟩; rw [← fol_wC])
theorem way_a {lo ga gb : Nat} {sb : Ts} {o o' : Option (Int × Bool)} {b : Bool} {f r : Int} (w : World) (hT : T2 lo ga gb w (wS o) sb) (h : wN o b f = (o', r)) : Calls Try.prog 10 #[.pointer (some ⟨ga, 0, none⟩), .int .i64 1, .agg #[.int .u8 ((atA 1).a.toNat : Int), .int .u8 ((atA 1).b.toNat : Int), .int .u8 ((atA 1).c.toNat : Int), .int .u8 ((atA 1).d.toNat : Int)], .int .i64 1, .bool b, .agg #[.int .i64 0, .int .i64 0, .int .u32 0, .int .u32 0, .int .i64 f, .int .i64 0, .int .i64 0, .slice none 0 0, .slice none 0 0]] w fun e w' => e = .returned (.int .i64 r) ∧ T2 lo ga gb w' (wS o') sb ∧ F2 ga gb w w' ∧ Below lo w w' := by
  refine (way_see w hT.tka h).mono ?_
  rintro e w' ⟨rfl, h1, h2, h3⟩
  exact ⟨rfl, (hT.left h1 h2).1, (hT.left h1 h2).2, h3⟩
theorem way_b {lo ga gb : Nat} {sa : Ts} {o o' : Option (Int × Bool)} {b : Bool} {f r : Int} (w : World) (hT : T2 lo ga gb w sa (wS o)) (h : wN o b f = (o', r)) : Calls Try.prog 10 #[.pointer (some ⟨gb, 0, none⟩), .int .i64 1, .agg #[.int .u8 ((atA 1).a.toNat : Int), .int .u8 ((atA 1).b.toNat : Int), .int .u8 ((atA 1).c.toNat : Int), .int .u8 ((atA 1).d.toNat : Int)], .int .i64 1, .bool b, .agg #[.int .i64 0, .int .i64 0, .int .u32 0, .int .u32 0, .int .i64 f, .int .i64 0, .int .i64 0, .slice none 0 0, .slice none 0 0]] w fun e w' => e = .returned (.int .i64 r) ∧ T2 lo ga gb w' sa (wS o') ∧ F2 ga gb w w' ∧ Below lo w w' := by
  refine (way_see w hT.tkb h).mono ?_
  rintro e w' ⟨rfl, h1, h2, h3⟩
  exact ⟨rfl, (hT.swap.left h1 h2).1.swap, (hT.swap.left h1 h2).2.swap, h3⟩
set_option linter.unusedVariables false in
set_option linter.unusedSimpArgs false in
set_option maxRecDepth 100000 in
set_option maxHeartbeats 16000000 in
theorem trackWays_walk (A : Option Addr) (n cp : Nat) (L : List Int) (w : World) (ll : Sle inf 1 w A n cp L) : Calls Try.prog 5 #[.slice A n cp] w fun e w' => e = .returned (.bool true) ∧ Below w.heap.size w w' := by
  have HL0 := Lib.hid ll
  have HN : Hid (L.length = n) := Lib.hid ll.1
  have bel := Below.refl w.heap.size w
  go_enter Try.func5, Try.ntmps5
  go_wp2_with fail
  with_reducible refine (awake_any _).mono ?_
  rintro e w1 ⟨rfl, b1⟩
  replace ll := ll.below b1
  replace bel := bel.trans (b1.mono bel.size)
  clear b1
  by_cases c1 : (100 : Int) < n
  · go_wp2_with fail
    go_ret
    exact ⟨rfl, bel⟩
  have Hc1 : Hid ((n : Int) ≤ 100) := Lib.hid (by omega)
  replace c1 : decide ((100 : Int) < n) = false := decide_eq_false c1
  go_wp2_with fail
  have HLO_ := bel.size
  with_reducible refine (tnew_any (rm := 4) _ (by decide) (by decide)).mono ?_
  rintro e w2 ⟨ga, rfl, hT, b2⟩
  replace ll := ll.below b2
  replace bel := bel.trans (b2.mono bel.size)
  clear b2
  replace hT : Tk w.heap.size ga w2 ⟨4, []⟩ := hT.lo_mono HLO_
  clear HLO_
  go_wp2_with fail
  have hT0 := hT
  with_reducible refine (tnew_two (rm := 4) _ (by decide) (by decide)).mono ?_
  rintro e w3 ⟨gb, rfl, hT2, bk, b3⟩
  replace ll := ll.below b3
  replace hT := hT.below b3
  replace bel := bel.trans (b3.mono bel.size)
  clear b3
  replace hT : T2 w.heap.size ga gb w3 (wS none) (wS (flp none)) := T2.mk hT0 hT2 bk
  clear hT0 hT2 bk
  go_wp2_with fail
  go_loopg [7] (n) (fun gk s7 wr => ∃ k : Nat, ∃ o : Option (Int × Bool), gk = n - k ∧ k ≤ n ∧ T2 w.heap.size ga gb wr (wS o) (wS (flp o)) ∧ s7 = .int .i64 (k : Int) ∧ Sle inf 1 wr (A) (n) (cp) (L) ∧ Below w.heap.size w wr)
  case atStart => exact ⟨0, none, Nat.sub_zero _, Nat.zero_le _, hT, rfl, ll, bel⟩
  case round =>
    clear hT ll bel
    obtain ⟨k, o, HGK, hkn, hT, rfl, ll, bel⟩ := hrel
    have HGK_ := Lib.hid HGK
    clear HGK
    by_cases h : (k : Int) < n
    rotate_left
    · have hkn2 : k = n := by omega
      replace h : decide ((k : Int) < n) = false := decide_eq_false h
      have hN_ : decide (k < n) = false := decide_eq_false (by omega)
      clear hkn2
      go_wp2_with fail
      go_ret
      exact ⟨rfl, bel⟩
    obtain ⟨x, hx⟩ : ∃ x, L[k]? = some x := ⟨_, List.getElem?_eq_getElem (by have := HN.out; omega)⟩
    have HX := Lib.hid hx
    clear hx
    have HK2 : Hid (k < n) := Lib.hid (by omega)
    have k0 : (0 : Int) ≤ k := by omega
    have k100 : (k : Int) < 100 := by have := Hc1.out; omega
    obtain ⟨gI, oI, rfl⟩ := ll.place (by omega)
    obtain ⟨f, hf⟩ : ∃ f, bits .and .i64 x 63 = f := ⟨_, rfl⟩
    obtain ⟨q, hq⟩ : ∃ q, bits .and .i64 x 64 = q := ⟨_, rfl⟩
    obtain ⟨ib, hib⟩ : ∃ b, (q != 0) = b := ⟨_, rfl⟩
    obtain ⟨⟨o', r⟩, hn⟩ : ∃ z, wN o ib f = z := ⟨_, rfl⟩
    have HW := Lib.hid hn
    have HW2 := Lib.hid (wN_flip hn)
    clear hn
    have R32 := Sle.inc (i := k) ll HX.out
    go_wp2_with (first | ((with_reducible show wpList _ _ _ (⟨some 8, _, _, _, _, _⟩ :: _) _ _); refine wpList_new_a rfl 34 rfl #[.int .i64 0, .int .i64 0, .int .u32 0, .int .u32 0, .int .i64 0, .int .i64 0, .int .i64 0, .slice none 0 0, .slice none 0 0] (by kernel_rfl) ?_; intro g8 w4 ge hh bb; have ap_sb := hT.ap ge; have av_ll_sb := ll.av_new ge; have osb := Nat.le_trans bel.size ge; replace ll := ll.below bb; replace hT := hT.below bb; replace ap_sb := ap_sb.below bb; replace bel := bel.trans (bb.mono bel.size); have hsb := hh; clear hh ge bb) | ((with_reducible show wpList _ _ _ (⟨none, Op.store _ (.tmp 8) _, _, _, _, _⟩ :: _) _ _); refine wpList_store_blk rfl 34 (.tmp 8) (.tmp 34) rfl g8 rfl _ rfl _ 34 hsb (by rfl) (by kernel_rfl) (by kernel_rfl) ?_; intro w5 hq gr; replace ll := ll.away av_ll_sb gr; replace hT := hT.away ap_sb gr hsb; replace ap_sb := ap_sb.grown ap_sb gr; replace bel := below_grown bel gr osb bel.size; clear hsb; have hsb := hq; clear hq gr; have R38 := Sle.inc (i := k) ll HX.out))
    try clear R32
    try clear R38
    replace bel := bel.drew
    replace hsb : w5.drew.heap[g8]? = _ := hsb
    replace ll := ll.drew
    replace hT := t2_drew hT
    replace ap_sb := ap2_drew ap_sb
    refine wp_region_held_drew (S := fun W => W.heap[g8]? = some (.cells #[.int .i64 0, .int .i64 0, .int .u32 0, .int .u32 0, .int .i64 f, .int .i64 0, .int .i64 0, .slice none 0 0, .slice none 0 0] 34 (0, 0))) (by kernel_rfl) hsb (fun hH => ?_)
    generalize w5.drew = w6 at bel hsb ll hT ap_sb hH ⊢
    refine wpAnyH_take (i := 0) (v := ?_) rfl (by kernel_rfl) (by kernel_rfl) (by kernel_rfl) (fun _ _ _ h => h) (Or.inl ⟨by rfl, ?_⟩) hH ?_
    rotate_left
    · ((intro W hW; clear hW; go_simp) <;> with_reducible rfl)
    simp only [Act.put, List.getElem_toArray, List.getElem_cons_zero, List.setIfInBounds_toArray, List.set_cons_zero, List.set_cons_succ]
    refine wpAnyH_take (i := 2) (v := ?_) rfl (by kernel_rfl) (by kernel_rfl) (by kernel_rfl) (fun _ _ _ h => h) (Or.inl ⟨by rfl, ?_⟩) hH ?_
    rotate_left
    · ((intro W hW; clear hW; go_simp) <;> with_reducible rfl)
    simp only [Act.put, List.getElem_toArray, List.getElem_cons_zero, List.getElem_cons_succ, List.setIfInBounds_toArray, List.set_cons_zero, List.set_cons_succ]
    refine wpAnyH_take (i := 3) (v := .agg #[.int .i64 0, .int .i64 0, .int .u32 0, .int .u32 0, .int .i64 f, .int .i64 0, .int .i64 0, .slice none 0 0, .slice none 0 0]) rfl (by kernel_rfl) (by kernel_rfl) (by kernel_rfl) (fun _ _ _ h => h) (yieldsIf_load_part (by kernel_rfl) 34 _ rfl g8 0 9 rfl _ 34 (0, 0) (fun W hW => hW) _ rfl _ Try.underlying34 rfl (by kernel_rfl)) hH ?_
    simp only [Act.put, List.getElem_toArray, List.getElem_cons_zero, List.getElem_cons_succ, List.setIfInBounds_toArray, List.set_cons_zero, List.set_cons_succ]
    refine wpAnyH_take (i := 5) (v := ?_) rfl (by kernel_rfl) (by kernel_rfl) (by kernel_rfl) (fun _ _ _ h => h) (Or.inl ⟨by rfl, ?_⟩) hH ?_
    rotate_left
    · ((intro W hW; clear hW; go_simp) <;> with_reducible rfl)
    simp only [Act.put, List.getElem_toArray, List.getElem_cons_zero, List.getElem_cons_succ, List.setIfInBounds_toArray, List.set_cons_zero, List.set_cons_succ]
    refine wpAnyH_take (i := 7) (v := ?_) rfl (by kernel_rfl) (by kernel_rfl) (by kernel_rfl) (fun _ _ _ h => h) (Or.inl ⟨by rfl, ?_⟩) hH ?_
    rotate_left
    · ((intro W hW; clear hW; go_simp) <;> with_reducible rfl)
    simp only [Act.put, List.getElem_toArray, List.getElem_cons_zero, List.getElem_cons_succ, List.setIfInBounds_toArray, List.set_cons_zero, List.set_cons_succ]
    refine wpAnyH_take (i := 8) (v := ?_) rfl (by kernel_rfl) (by kernel_rfl) (by kernel_rfl) (fun _ _ _ h => h) (Or.inl ⟨by rfl, ?_⟩) hH ?_
    rotate_left
    · ((intro W hW; clear hW; go_simp) <;> with_reducible rfl)
    simp only [Act.put, List.getElem_toArray, List.getElem_cons_zero, List.getElem_cons_succ, List.setIfInBounds_toArray, List.set_cons_zero, List.set_cons_succ]
    refine wpAnyH_take (i := 9) (v := .agg #[.int .i64 0, .int .i64 0, .int .u32 0, .int .u32 0, .int .i64 f, .int .i64 0, .int .i64 0, .slice none 0 0, .slice none 0 0]) rfl (by kernel_rfl) (by kernel_rfl) (by kernel_rfl) (fun _ _ _ h => h) (yieldsIf_load_part (by kernel_rfl) 34 _ rfl g8 0 9 rfl _ 34 (0, 0) (fun W hW => hW) _ rfl _ Try.underlying34 rfl (by kernel_rfl)) hH ?_
    simp only [Act.put, List.getElem_toArray, List.getElem_cons_zero, List.getElem_cons_succ, List.setIfInBounds_toArray, List.set_cons_zero, List.set_cons_succ]
    refine wpAnyH_ready (rs := [1]) (by kernel_rfl) (by simp) ?_
    refine AllReadyH.cons (o := _) rfl (fun K hK => ?_) AllReadyH.nil
    simp only [List.getElem_toArray, List.getElem_cons_zero, List.getElem_cons_succ]
    go_simp
    with_reducible refine (at_k 1 _).mono ?_
    rintro e w7 ⟨rfl, b7⟩
    dsimp only
    replace hsb := blk_u hsb b7
    replace ll := ll.below b7
    replace hT := hT.below b7
    replace ap_sb := ap_sb.below b7
    replace bel := bel.trans (b7.mono bel.size)
    clear b7
    refine hK.out _ _ hsb (fun hH8 => ?_)
    clear hK K
    refine wpAnyH_ready (rs := [4]) (by kernel_rfl) (by simp) ?_
    refine AllReadyH.cons (o := _) rfl (fun K hK => ?_) AllReadyH.nil
    simp only [List.getElem_toArray, List.getElem_cons_zero, List.getElem_cons_succ]
    go_simp
    with_reducible refine (way_a _ hT HW.out).mono ?_
    rintro e w9 ⟨rfl, hT_, f_, bb⟩
    dsimp only
    have x_ := f_ _ _ _ _ hsb ap_sb
    replace hsb := x_.1
    replace ap_sb := x_.2
    clear x_
    clear hT
    have hT := hT_
    replace bel := bel.trans bb
    clear bb f_ hT_
    replace ll := HL0.out.below bel
    refine hK.out _ _ hsb (fun hH10 => ?_)
    clear hK K
    refine wpAnyH_ready (rs := [6]) (by kernel_rfl) (by simp) ?_
    refine AllReadyH.cons (o := _) rfl (fun K hK => ?_) AllReadyH.nil
    simp only [List.getElem_toArray, List.getElem_cons_zero, List.getElem_cons_succ]
    go_simp
    with_reducible refine (at_k 1 _).mono ?_
    rintro e w11 ⟨rfl, b11⟩
    dsimp only
    replace hsb := blk_u hsb b11
    replace ll := ll.below b11
    replace hT := hT.below b11
    replace ap_sb := ap_sb.below b11
    replace bel := bel.trans (b11.mono bel.size)
    clear b11
    refine hK.out _ _ hsb (fun hH12 => ?_)
    clear hK K
    refine wpAnyH_ready (rs := [10]) (by kernel_rfl) (by simp) ?_
    refine AllReadyH.cons (o := _) rfl (fun K hK => ?_) AllReadyH.nil
    simp only [List.getElem_toArray, List.getElem_cons_zero, List.getElem_cons_succ]
    go_simp
    with_reducible refine (way_b _ hT HW2.out).mono ?_
    rintro e w13 ⟨rfl, hT_, f_, bb⟩
    dsimp only
    have x_ := f_ _ _ _ _ hsb ap_sb
    replace hsb := x_.1
    replace ap_sb := x_.2
    clear x_
    clear hT
    have hT := hT_
    replace bel := bel.trans bb
    clear bb f_ hT_
    replace ll := HL0.out.below bel
    refine hK.out _ _ hsb (fun hH14 => ?_)
    clear hK K
    refine wpAnyH_take (i := 11) (v := ?_) rfl (by kernel_rfl) (by kernel_rfl) (by kernel_rfl) (fun _ _ _ h => h) (Or.inl ⟨by rfl, ?_⟩) hH14 ?_
    rotate_left
    · ((intro W hW; clear hW; go_simp) <;> with_reducible rfl)
    simp only [Act.put, List.getElem_toArray, List.getElem_cons_zero, List.getElem_cons_succ, List.setIfInBounds_toArray, List.set_cons_zero, List.set_cons_succ]
    refine wpAnyH_done (by kernel_rfl) ?_ _
    go_wp2_with fail
    go_roundg (n - (k + 1))
    case measure => have := HGK_.out; have := HK2.out; omega
    case rel => exact ⟨k + 1, o', rfl, by have := HK2.out; omega, hT, by go_num, ll, bel⟩
end Go.Proofs.Ytjfkeocdojjpgaa
