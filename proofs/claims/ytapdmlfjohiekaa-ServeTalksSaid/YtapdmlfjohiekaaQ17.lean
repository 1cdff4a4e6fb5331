/- Texts put together: Sv4, Law15t. -/
import Derived.Test.YtapdmlfjohiekaaQ1
import Derived.Test.YtapdmlfjohiekaaQ11
import Derived.Test.YtapdmlfjohiekaaQ13
import Derived.Test.YtapdmlfjohiekaaQ16
import Derived.Deep.LoopGhost
import Derived.LoopN
namespace Go.Proofs.Ytapdmlfjohiekaa
open Go.RowKit

set_option linter.unusedVariables false in
set_option linter.unusedSimpArgs false in
set_option maxRecDepth 100000 in
set_option maxHeartbeats 16000000 in
theorem sholdf_any {gb : Nat} {a : Ad4} {b : Bool} (x : Le) (w : World) (hpb : w.heap[gb]? = some (.cells #[.int .u8 (a.a.toNat : Int), .int .u8 (a.b.toNat : Int), .int .u8 (a.c.toNat : Int), .int .u8 (a.d.toNat : Int)] 28 (0, 0))) (hb : x.ad.eqB a = b) : Calls Try.prog 28 #[.agg #[.int .u8 (x.m.a.toNat : Int), .int .u8 (x.m.b.toNat : Int), .int .u8 (x.m.c.toNat : Int), .int .u8 (x.m.d.toNat : Int), .int .u8 (x.m.e.toNat : Int), .int .u8 (x.m.f.toNat : Int), .int .u8 (x.ad.a.toNat : Int), .int .u8 (x.ad.b.toNat : Int), .int .u8 (x.ad.c.toNat : Int), .int .u8 (x.ad.d.toNat : Int), .int .i64 x.u], .pointer (some ⟨gb, 0, none⟩)] w fun e w' => e = .returned (.bool b) ∧ Below w.heap.size w w' := by
  have EQ_ : ∀ W, (binOp .eql 28 (.agg #[.int .u8 (x.ad.a.toNat : Int), .int .u8 (x.ad.b.toNat : Int), .int .u8 (x.ad.c.toNat : Int), .int .u8 (x.ad.d.toNat : Int)]) (.agg #[.int .u8 (a.a.toNat : Int), .int .u8 (a.b.toNat : Int), .int .u8 (a.c.toNat : Int), .int .u8 (a.d.toNat : Int)])).run Try.prog W = .ok (.bool b) W := fun W => by have h_ := eqa_b x.ad a W; rw [hb] at h_; exact h_
  clear hb
  have bel := Below.refl w.heap.size w
  go_enter Try.func28, Try.ntmps28
  go_wp2_with (first | ((with_reducible show wpList _ _ _ (⟨some 2, _, _, _, _, _⟩ :: _) _ _); refine wpList_box_n rfl 56 (.tmp 0) rfl #[.int .u8 (x.m.a.toNat : Int), .int .u8 (x.m.b.toNat : Int), .int .u8 (x.m.c.toNat : Int), .int .u8 (x.m.d.toNat : Int), .int .u8 (x.m.e.toNat : Int), .int .u8 (x.m.f.toNat : Int), .int .u8 (x.ad.a.toNat : Int), .int .u8 (x.ad.b.toNat : Int), .int .u8 (x.ad.c.toNat : Int), .int .u8 (x.ad.d.toNat : Int), .int .i64 x.u] rfl ?_; intro g2 w1 ge lt hh bb; have d_pb_eb := ne_new (hlt hpb) ge; have oeb := Nat.le_trans bel.size ge; replace hpb := blk_u hpb bb; replace bel := bel.trans (bb.mono bel.size); have heb := hh; clear hh lt ge bb; have R5 := Lib.hid (range_lit heb 6 4 [.int .u8 (x.ad.a.toNat : Int), .int .u8 (x.ad.b.toNat : Int), .int .u8 (x.ad.c.toNat : Int), .int .u8 (x.ad.d.toNat : Int)] rfl)) | ((with_reducible show wpList _ _ _ (⟨some 5, _, _, _, _, _⟩ :: _) _ _); refine wpList_load_rng 28 (.tmp 4) rfl (by kernel_rfl) _ _ rfl _ R5.out _ Try.underlying28 rfl (by kernel_rfl) ?_; have R6 := Lib.hid (range_lit hpb 0 4 [.int .u8 (a.a.toNat : Int), .int .u8 (a.b.toNat : Int), .int .u8 (a.c.toNat : Int), .int .u8 (a.d.toNat : Int)] rfl)) | ((with_reducible show wpList _ _ _ (⟨some 6, _, _, _, _, _⟩ :: _) _ _); refine wpList_load_rng 28 (.tmp 1) rfl (by kernel_rfl) _ _ rfl _ R6.out _ Try.underlying28 rfl (by kernel_rfl) ?_))
  try clear R5
  try clear R6
  go_ret
  exact ⟨rfl, bel⟩
set_option linter.unusedVariables false in
set_option linter.unusedSimpArgs false in
set_option maxRecDepth 100000 in
set_option maxHeartbeats 16000000 in
theorem sidx_none {gb gE n c : Nat} {a : Ad4} {l : List Le} (w : World) (hpb : w.heap[gb]? = some (.cells #[.int .u8 (a.a.toNat : Int), .int .u8 (a.b.toNat : Int), .int .u8 (a.c.toNat : Int), .int .u8 (a.d.toNat : Int)] 28 (0, 0))) (en : Sle leE 11 w (some ⟨gE, 0, none⟩) n c l) (hn : n ≤ 1000) (hN : ∀ e ∈ l, e.ad.eqB a = false) : Calls Try.prog 51 #[.slice (some ⟨gE, 0, none⟩) n c, .func (.func 28) #[] #[.pointer (some ⟨gb, 0, none⟩)]] w fun e w' => e = .returned (.int .i64 (-1)) ∧ Below w.heap.size w w' := by
  have HL := Lib.hid en.1
  have hn0 : (n : Int) ≤ 1000 := by omega
  have HN := Lib.hid hN
  clear hN
  have bel := Below.refl w.heap.size w
  go_enter Try.func51, Try.ntmps51
  go_wp2_with fail
  go_loopg [8] (n) (fun gk s8 wr => ∃ k : Nat, gk = n - k ∧ k ≤ n ∧ s8 = .int .i64 (k : Int) ∧ wr.heap[gb]? = some (.cells #[.int .u8 (a.a.toNat : Int), .int .u8 (a.b.toNat : Int), .int .u8 (a.c.toNat : Int), .int .u8 (a.d.toNat : Int)] 28 (0, 0)) ∧ Sle leE 11 wr (some ⟨gE, 0, none⟩) (n) (c) (l) ∧ Below w.heap.size w wr)
  case atStart => exact ⟨0, Nat.sub_zero _, Nat.zero_le _, rfl, hpb, en, bel⟩
  case round =>
    clear hpb en bel
    obtain ⟨k, HGK, hkn, rfl, hpb, en, bel⟩ := hrel
    have HGK_ := Lib.hid HGK
    clear HGK
    by_cases h : k < n
    rotate_left
    · obtain rfl : k = n := by omega
      replace h : decide (k < k) = false := decide_eq_false (by omega)
      go_wp2_with fail
      go_ret
      exact ⟨rfl, bel⟩
    obtain ⟨e, hx⟩ : ∃ e, l[k]? = some e := ⟨_, List.getElem?_eq_getElem (by have := HL.out; omega)⟩
    have k0 : (0 : Int) ≤ k := by omega
    have k1 : (k : Int) < n := by omega
    have HX := Lib.hid hx
    clear hx
    have HG : Hid (e.ad.eqB a = false) := Lib.hid (HN.out e (List.mem_of_getElem? HX.out))
    have R15 := Lib.hid (Sle.zrange0 en HX.out 11 [.int .u8 (e.m.a.toNat : Int), .int .u8 (e.m.b.toNat : Int), .int .u8 (e.m.c.toNat : Int), .int .u8 (e.m.d.toNat : Int), .int .u8 (e.m.e.toNat : Int), .int .u8 (e.m.f.toNat : Int), .int .u8 (e.ad.a.toNat : Int), .int .u8 (e.ad.b.toNat : Int), .int .u8 (e.ad.c.toNat : Int), .int .u8 (e.ad.d.toNat : Int), .int .i64 e.u] rfl)
    go_wp2_with (first | ((with_reducible show wpList _ _ _ (⟨some 15, _, _, _, _, _⟩ :: _) _ _); refine wpList_load_rng 56 (.tmp 14) rfl (by kernel_rfl) _ _ rfl _ R15.out _ Try.underlying56 rfl (by kernel_rfl) ?_))
    try clear R15
    with_reducible refine (sholdf_any e _ hpb HG.out).mono ?_
    rintro e w1 ⟨rfl, b1⟩
    replace hpb := blk_u hpb b1
    replace en := en.below b1
    replace bel := bel.trans (b1.mono bel.size)
    clear b1
    go_wp2_with fail
    go_roundg (n - (k + 1))
    case measure => have := HGK_.out; omega
    case rel => exact ⟨k + 1, rfl, by omega, by go_num, hpb, en, bel⟩
set_option linter.unusedVariables false in
set_option linter.unusedSimpArgs false in
set_option maxRecDepth 100000 in
set_option maxHeartbeats 16000000 in
theorem sidx_some {gb gE n c i : Nat} {a : Ad4} {l : List Le} (w : World) (hpb : w.heap[gb]? = some (.cells #[.int .u8 (a.a.toNat : Int), .int .u8 (a.b.toNat : Int), .int .u8 (a.c.toNat : Int), .int .u8 (a.d.toNat : Int)] 28 (0, 0))) (en : Sle leE 11 w (some ⟨gE, 0, none⟩) n c l) (hn : n ≤ 1000) {x : Le} (hx : l[i]? = some x) (hg : x.ad.eqB a = true) (hN : ∀ j e, j < i → l[j]? = some e → e.ad.eqB a = false) : Calls Try.prog 51 #[.slice (some ⟨gE, 0, none⟩) n c, .func (.func 28) #[] #[.pointer (some ⟨gb, 0, none⟩)]] w fun e w' => e = .returned (.int .i64 (i : Int)) ∧ Below w.heap.size w w' := by
  have HL := Lib.hid en.1
  have hn0 : (n : Int) ≤ 1000 := by omega
  have HIN : Hid (i < n) := Lib.hid (by have := (List.getElem?_eq_some_iff.1 hx).1; have h_ := en.1; omega)
  have HN := Lib.hid hN
  have HXI := Lib.hid hx
  have HGI := Lib.hid hg
  clear hN hx hg
  have bel := Below.refl w.heap.size w
  go_enter Try.func51, Try.ntmps51
  go_wp2_with fail
  go_loopg [8] (n) (fun gk s8 wr => ∃ k : Nat, gk = n - k ∧ k ≤ i ∧ s8 = .int .i64 (k : Int) ∧ wr.heap[gb]? = some (.cells #[.int .u8 (a.a.toNat : Int), .int .u8 (a.b.toNat : Int), .int .u8 (a.c.toNat : Int), .int .u8 (a.d.toNat : Int)] 28 (0, 0)) ∧ Sle leE 11 wr (some ⟨gE, 0, none⟩) (n) (c) (l) ∧ Below w.heap.size w wr)
  case atStart => exact ⟨0, Nat.sub_zero _, Nat.zero_le _, rfl, hpb, en, bel⟩
  case round =>
    clear hpb en bel
    obtain ⟨k, HGK, hkn, rfl, hpb, en, bel⟩ := hrel
    have HGK_ := Lib.hid HGK
    clear HGK
    by_cases h : k < n
    rotate_left
    · exfalso
      have := HIN.out
      omega
    obtain ⟨e, hx⟩ : ∃ e, l[k]? = some e := ⟨_, List.getElem?_eq_getElem (by have := HL.out; omega)⟩
    have k0 : (0 : Int) ≤ k := by omega
    have k1 : (k : Int) < n := by omega
    have HX := Lib.hid hx
    clear hx
    by_cases h2 : k < i
    rotate_left
    · obtain rfl : k = i := by omega
      obtain rfl : e = x := Option.some.inj (HX.out.symm.trans HXI.out)
      have HG := HGI
      have R15 := Lib.hid (Sle.zrange0 en HX.out 11 [.int .u8 (e.m.a.toNat : Int), .int .u8 (e.m.b.toNat : Int), .int .u8 (e.m.c.toNat : Int), .int .u8 (e.m.d.toNat : Int), .int .u8 (e.m.e.toNat : Int), .int .u8 (e.m.f.toNat : Int), .int .u8 (e.ad.a.toNat : Int), .int .u8 (e.ad.b.toNat : Int), .int .u8 (e.ad.c.toNat : Int), .int .u8 (e.ad.d.toNat : Int), .int .i64 e.u] rfl)
      go_wp2_with (first | ((with_reducible show wpList _ _ _ (⟨some 15, _, _, _, _, _⟩ :: _) _ _); refine wpList_load_rng 56 (.tmp 14) rfl (by kernel_rfl) _ _ rfl _ R15.out _ Try.underlying56 rfl (by kernel_rfl) ?_))
      try clear R15
      with_reducible refine (sholdf_any e _ hpb HG.out).mono ?_
      rintro e w1 ⟨rfl, b1⟩
      replace hpb := blk_u hpb b1
      replace en := en.below b1
      replace bel := bel.trans (b1.mono bel.size)
      clear b1
      go_wp2_with fail
      go_ret
      exact ⟨rfl, bel⟩
    have HG : Hid (e.ad.eqB a = false) := Lib.hid (HN.out k e h2 HX.out)
    have R15 := Lib.hid (Sle.zrange0 en HX.out 11 [.int .u8 (e.m.a.toNat : Int), .int .u8 (e.m.b.toNat : Int), .int .u8 (e.m.c.toNat : Int), .int .u8 (e.m.d.toNat : Int), .int .u8 (e.m.e.toNat : Int), .int .u8 (e.m.f.toNat : Int), .int .u8 (e.ad.a.toNat : Int), .int .u8 (e.ad.b.toNat : Int), .int .u8 (e.ad.c.toNat : Int), .int .u8 (e.ad.d.toNat : Int), .int .i64 e.u] rfl)
    go_wp2_with (first | ((with_reducible show wpList _ _ _ (⟨some 15, _, _, _, _, _⟩ :: _) _ _); refine wpList_load_rng 56 (.tmp 14) rfl (by kernel_rfl) _ _ rfl _ R15.out _ Try.underlying56 rfl (by kernel_rfl) ?_))
    try clear R15
    with_reducible refine (sholdf_any e _ hpb HG.out).mono ?_
    rintro e w1 ⟨rfl, b1⟩
    replace hpb := blk_u hpb b1
    replace en := en.below b1
    replace bel := bel.trans (b1.mono bel.size)
    clear b1
    go_wp2_with fail
    go_roundg (n - (k + 1))
    case measure => have := HGK_.out; omega
    case rel => exact ⟨k + 1, rfl, by omega, by go_num, hpb, en, bel⟩
set_option linter.unusedVariables false in
set_option linter.unusedSimpArgs false in
set_option maxRecDepth 100000 in
set_option maxHeartbeats 16000000 in
theorem sidx_nil {gb n c : Nat} {A2 : Option Addr} (w : World) (hn : n = 0) : Calls Try.prog 51 #[.slice A2 n c, .func (.func 28) #[] #[.pointer (some ⟨gb, 0, none⟩)]] w fun e w' => e = .returned (.int .i64 (-1)) ∧ w = w' := by
  subst hn
  skip
  go_enter Try.func51, Try.ntmps51
  go_wp2_with fail
  refine wp_loop_rounds 1 ?_
  rw [rounds_succ]
  go_wp2_with fail
  go_ret
  exact ⟨rfl, rfl⟩
/-- The place of the first lease of an address, or -1. -/
theorem first_le {a : Ad4} : ∀ {l : List Le}, l.any (fun e => e.ad.eqB a) = true → ∃ (i : Nat) (x : Le), l[i]? = some x ∧ x.ad.eqB a = true ∧ ∀ (j : Nat) (e : Le), j < i → l[j]? = some e → e.ad.eqB a = false
  | [], h => by simp at h
  | y :: l, h => by
    cases hy : y.ad.eqB a with
    | true => exact ⟨0, y, rfl, hy, fun j e hj => by omega⟩
    | false =>
      have h2 : l.any (fun e => e.ad.eqB a) = true := by simpa [hy] using h
      obtain ⟨i, x, h3, h4, h5⟩ := first_le h2
      refine ⟨i + 1, x, h3, h4, fun j e hj he => ?_⟩
      cases j with
      | zero => simp only [List.getElem?_cons_zero, Option.some.injEq] at he; subst he; exact hy
      | succ j => exact h5 j e (by omega) he
theorem sidx_any {gb n c : Nat} {A : Option Addr} {a : Ad4} {l : List Le} {b : Bool} (w : World) (hpb : w.heap[gb]? = some (.cells #[.int .u8 (a.a.toNat : Int), .int .u8 (a.b.toNat : Int), .int .u8 (a.c.toNat : Int), .int .u8 (a.d.toNat : Int)] 28 (0, 0))) (en : Sle leE 11 w A n c l) (hA : 0 < n → ∃ g, A = some ⟨g, 0, none⟩) (hn : n ≤ 1000) (hb : l.any (fun e => e.ad.eqB a) = b) : Calls Try.prog 51 #[.slice A n c, .func (.func 28) #[] #[.pointer (some ⟨gb, 0, none⟩)]] w fun e w' => (∃ z : Int, e = .returned (.int .i64 z) ∧ decide (0 ≤ z) = b) ∧ Below w.heap.size w w' := by
  rcases Nat.eq_zero_or_pos n with h | h
  · have hl : l = [] := List.length_eq_zero_iff.1 (en.1.trans h)
    subst hl
    refine (sidx_nil w h).mono ?_
    rintro e w' ⟨rfl, rfl⟩
    exact ⟨⟨_, rfl, by rw [← hb]; rfl⟩, Below.refl _ _⟩
  · have hz : ∃ g, A = some ⟨g, 0, none⟩ := hA h
    obtain ⟨g, rfl⟩ := hz
    cases b with
    | false =>
      refine (sidx_none w hpb en hn (fun e he => ?_)).mono ?_
      · simp only [List.any_eq_false] at hb
        simpa using hb e he
      · rintro e w' ⟨rfl, h2⟩
        exact ⟨⟨_, rfl, rfl⟩, h2⟩
    | true =>
      obtain ⟨i, x, h3, h4, h5⟩ := first_le hb
      refine (sidx_some w hpb en hn h3 h4 h5).mono ?_
      rintro e w' ⟨rfl, h2⟩
      exact ⟨⟨_, rfl, decide_eq_true (by omega)⟩, h2⟩
set_option linter.unusedVariables false in
set_option linter.unusedSimpArgs false in
set_option maxRecDepth 100000 in
set_option maxHeartbeats 16000000 in
theorem scf_any {gb n c : Nat} {A : Option Addr} {a : Ad4} {l : List Le} {b : Bool} (w : World) (hpb : w.heap[gb]? = some (.cells #[.int .u8 (a.a.toNat : Int), .int .u8 (a.b.toNat : Int), .int .u8 (a.c.toNat : Int), .int .u8 (a.d.toNat : Int)] 28 (0, 0))) (en : Sle leE 11 w A n c l) (hA : 0 < n → ∃ g, A = some ⟨g, 0, none⟩) (hn : n ≤ 1000) (hb : l.any (fun e => e.ad.eqB a) = b) : Calls Try.prog 26 #[.slice A n c, .func (.func 28) #[] #[.pointer (some ⟨gb, 0, none⟩)]] w fun e w' => e = .returned (.bool b) ∧ Below w.heap.size w w' := by
  have bel := Below.refl w.heap.size w
  go_enter Try.func26, Try.ntmps26
  go_wp2_with fail
  with_reducible refine (sidx_any _ hpb en hA hn hb).mono ?_
  rintro e w1 ⟨⟨z, rfl, hz⟩, b1⟩
  replace hpb := blk_u hpb b1
  replace en := en.below b1
  replace bel := bel.trans (b1.mono bel.size)
  clear b1
  go_wp2_with fail
  go_ret
  exact ⟨rfl, bel⟩
set_option linter.unusedVariables false in
set_option linter.unusedSimpArgs false in
set_option maxRecDepth 100000 in
set_option maxHeartbeats 16000000 in
theorem six_nil {a : Ad4} (w : World) : Calls Try.prog 50 #[.slice none 0 0, .agg #[.int .u8 (a.a.toNat : Int), .int .u8 (a.b.toNat : Int), .int .u8 (a.c.toNat : Int), .int .u8 (a.d.toNat : Int)]] w fun e w' => e = .returned (.int .i64 (-1)) ∧ Below w.heap.size w w' := by
  have bel := Below.refl w.heap.size w
  go_enter Try.func50, Try.ntmps50
  go_wp2_with (first | ((with_reducible show wpList _ _ _ (⟨some 3, _, _, _, _, _⟩ :: _) _ _); refine wpList_box_n rfl 28 (.tmp 1) rfl #[.int .u8 (a.a.toNat : Int), .int .u8 (a.b.toNat : Int), .int .u8 (a.c.toNat : Int), .int .u8 (a.d.toNat : Int)] rfl ?_; intro g3 w1 ge lt hh bb; have oeb := Nat.le_trans bel.size ge; replace bel := bel.trans (bb.mono bel.size); have heb := hh; clear hh lt ge bb))
  refine wp_loop_rounds 1 ?_
  rw [rounds_succ]
  go_wp2_with fail
  go_ret
  exact ⟨rfl, bel⟩
set_option linter.unusedVariables false in
set_option linter.unusedSimpArgs false in
set_option maxRecDepth 100000 in
set_option maxHeartbeats 16000000 in
theorem scn_nil {a : Ad4} (w : World) : Calls Try.prog 25 #[.slice none 0 0, .agg #[.int .u8 (a.a.toNat : Int), .int .u8 (a.b.toNat : Int), .int .u8 (a.c.toNat : Int), .int .u8 (a.d.toNat : Int)]] w fun e w' => e = .returned (.bool false) ∧ Below w.heap.size w w' := by
  have bel := Below.refl w.heap.size w
  go_enter Try.func25, Try.ntmps25
  go_wp2_with (first | ((with_reducible show wpList _ _ _ (⟨some 3, _, _, _, _, _⟩ :: _) _ _); refine wpList_box_n rfl 28 (.tmp 1) rfl #[.int .u8 (a.a.toNat : Int), .int .u8 (a.b.toNat : Int), .int .u8 (a.c.toNat : Int), .int .u8 (a.d.toNat : Int)] rfl ?_; intro g3 w1 ge lt hh bb; have oeb := Nat.le_trans bel.size ge; replace bel := bel.trans (bb.mono bel.size); have heb := hh; clear hh lt ge bb; have R6 := Lib.hid (range_lit heb 0 4 [.int .u8 (a.a.toNat : Int), .int .u8 (a.b.toNat : Int), .int .u8 (a.c.toNat : Int), .int .u8 (a.d.toNat : Int)] rfl)) | ((with_reducible show wpList _ _ _ (⟨some 6, _, _, _, _, _⟩ :: _) _ _); refine wpList_load_rng 28 (.tmp 3) rfl (by kernel_rfl) _ _ rfl _ R6.out _ Try.underlying28 rfl (by kernel_rfl) ?_))
  try clear R6
  with_reducible refine (six_nil _).mono ?_
  rintro e w2 ⟨rfl, b2⟩
  replace heb := blk_u heb b2
  replace bel := bel.trans (b2.mono bel.size)
  clear b2
  go_wp2_with fail
  go_ret
  exact ⟨rfl, bel⟩
set_option linter.unusedVariables false in
set_option linter.unusedSimpArgs false in
set_option maxRecDepth 100000 in
set_option maxHeartbeats 16000000 in
theorem stick_is {lo gs gp : Nat} {own : Ad4} {mk sc : Int} {s : St} {t : Int} {n : Nat} {ls : List Le} (w : World) (hS : Sv lo gs gp w ⟨own, mk, sc⟩ s) (hl_ : tickO (s.adv t).now s.l = ls ∧ ls.length = n) : Calls Try.prog 14 #[.pointer (some ⟨gs, 0, none⟩), .int .i64 t] w fun e w' => ∃ A2 c2, e = .returned (.slice A2 n c2) ∧ w'.ownsRow w.heap.size 56 11 (.slice A2 n c2) n (ls.flatMap leE) ∧ Sv lo gs gp w' ⟨own, mk, sc⟩ { s.adv t with l := tickL (s.adv t).now s.l } ∧ Kt [84, 101] w w' ∧ Below lo w w' := by
  obtain ⟨hsv, osv, hT⟩ := hS
  dsimp only at hsv
  have hlo : lo ≤ w.heap.size := Nat.le_trans osv (Nat.le_of_lt (hlt hsv))
  have kt := Kt.refl [84, 101] w
  have HL_ := Lib.hid hl_
  clear hl_
  have bel := Below.refl lo w
  go_enter Try.func14, Try.ntmps14
  have R8 := cell_lit hsv 0 _ rfl
  go_wp2_with fail
  clear R8
  have hwz := bel.size
  go_wp2_with fail
  with_reducible refine (ptick_is _ () hT HL_.out).mono ?_
  rintro e w1 ⟨A2, c2, rfl, lrw, hT_, k_, bb⟩
  replace hsv := Kt.blk k_ hsv (by decide)
  replace kt := kt.trans k_
  clear hT
  have hT := hT_
  replace bel := bel.trans bb
  clear bb k_ hT_
  go_wp2_with fail
  go_ret
  exact ⟨_, _, rfl, owk_lo lrw hwz, ⟨hsv, osv, hT⟩, kt, bel⟩
set_option linter.unusedVariables false in
set_option linter.unusedSimpArgs false in
set_option maxRecDepth 100000 in
set_option maxHeartbeats 16000000 in
theorem sall_is {lo gs gp : Nat} {own : Ad4} {mk sc : Int} {s : St} {t : Int} {n : Nat} {ls : List Le} (w : World) (hS : Sv lo gs gp w ⟨own, mk, sc⟩ s) (hl_ : allO (s.adv t).now s.l = ls ∧ ls.length = n) : Calls Try.prog 16 #[.pointer (some ⟨gs, 0, none⟩), .int .i64 t] w fun e w' => ∃ A2 c2, e = .returned (.slice A2 n c2) ∧ w'.ownsRow w.heap.size 56 11 (.slice A2 n c2) n (ls.flatMap leE) ∧ Sv lo gs gp w' ⟨own, mk, sc⟩ (s.adv t) ∧ Kt [84, 101] w w' ∧ Below lo w w' := by
  obtain ⟨hsv, osv, hT⟩ := hS
  dsimp only at hsv
  have hlo : lo ≤ w.heap.size := Nat.le_trans osv (Nat.le_of_lt (hlt hsv))
  have kt := Kt.refl [84, 101] w
  have HL_ := Lib.hid hl_
  clear hl_
  have bel := Below.refl lo w
  go_enter Try.func16, Try.ntmps16
  have R8 := cell_lit hsv 0 _ rfl
  go_wp2_with fail
  clear R8
  have hwz := bel.size
  go_wp2_with fail
  with_reducible refine (pall_is _ () hT HL_.out).mono ?_
  rintro e w1 ⟨A2, c2, rfl, lrw, hT_, k_, bb⟩
  replace hsv := Kt.blk k_ hsv (by decide)
  replace kt := kt.trans k_
  clear hT
  have hT := hT_
  replace bel := bel.trans bb
  clear bb k_ hT_
  go_wp2_with fail
  go_ret
  exact ⟨_, _, rfl, owk_lo lrw hwz, ⟨hsv, osv, hT⟩, kt, bel⟩
theorem all_len (now : Int) (l : List Sd) : (allO now l).length ≤ l.length := by
  unfold allO
  rw [List.length_map]
  exact List.length_filter_le _ _
set_option linter.unusedVariables false in
set_option linter.unusedSimpArgs false in
set_option maxRecDepth 100000 in
set_option maxHeartbeats 16000000 in
theorem sholds_any {lo gs gp : Nat} {own : Ad4} {mk sc : Int} {s : St} {a : Ad4} {t : Int} {b : Bool} (w : World) (hS : Sv lo gs gp w ⟨own, mk, sc⟩ s) (hb : (allO (s.adv t).now s.l).any (fun e => e.ad.eqB a) = b) : Calls Try.prog 13 #[.pointer (some ⟨gs, 0, none⟩), .agg #[.int .u8 (a.a.toNat : Int), .int .u8 (a.b.toNat : Int), .int .u8 (a.c.toNat : Int), .int .u8 (a.d.toNat : Int)], .int .i64 t] w fun e w' => e = .returned (.bool b) ∧ Sv lo gs gp w' ⟨own, mk, sc⟩ (s.adv t) ∧ Kt [84, 101] w w' ∧ Below lo w w' := by
  obtain ⟨hsv, osv, hT⟩ := hS
  dsimp only at hsv
  have hlo : lo ≤ w.heap.size := Nat.le_trans osv (Nat.le_of_lt (hlt hsv))
  have kt := Kt.refl [84, 101] w
  have HALL : Hid ((allO (s.adv t).now s.l).length ≤ 1000) := Lib.hid (Nat.le_trans (all_len _ _) hT.ok.len)
  have HB := Lib.hid hb
  clear hb
  have bel := Below.refl lo w
  go_enter Try.func13, Try.ntmps13
  go_wp2_with (first | ((with_reducible show wpList _ _ _ (⟨some 4, _, _, _, _, _⟩ :: _) _ _); refine wpList_box_n rfl 28 (.tmp 1) rfl #[.int .u8 (a.a.toNat : Int), .int .u8 (a.b.toNat : Int), .int .u8 (a.c.toNat : Int), .int .u8 (a.d.toNat : Int)] rfl ?_; intro g4 w1 ge lt hh bb; have d_sv_ab := ne_new (hlt hsv) ge; have oab := Nat.le_trans (Nat.le_trans hlo bel.size) ge; have pab := Nat.le_trans bel.size ge; replace hsv := blk_u hsv bb; replace kt := kt.trans (kt_below bb); replace hT := hT.below bb; replace bel := bel.trans (bb.mono (Nat.le_trans hlo bel.size)); have hab := hh; clear hh lt ge bb))
  replace bel := bel.drew
  replace hsv : w1.drew.heap[gs]? = _ := hsv
  replace hab : w1.drew.heap[g4]? = _ := hab
  replace kt := kt_drew kt
  replace hT := pl_drew hT
  refine wp_region_held_drew (S := fun W => W.heap[gs]? = some (.cells #[.pointer (some ⟨gp, 0, none⟩), .int .u8 (own.a.toNat : Int), .int .u8 (own.b.toNat : Int), .int .u8 (own.c.toNat : Int), .int .u8 (own.d.toNat : Int), .int .u32 mk, .int .i64 sc, .slice none 0 0] 64 (0, 0)) ∧ W.heap[g4]? = some (.cells #[.int .u8 (a.a.toNat : Int), .int .u8 (a.b.toNat : Int), .int .u8 (a.c.toNat : Int), .int .u8 (a.d.toNat : Int)] 28 (0, 0))) (by kernel_rfl) ⟨hsv, hab⟩ (fun hH => ?_)
  generalize w1.drew = w2 at bel hsv hab kt hT hH ⊢
  refine wpAnyH_take (i := 0) (v := ?_) rfl (by kernel_rfl) (by kernel_rfl) (by kernel_rfl) (fun _ _ _ h => h) (Or.inl ⟨by rfl, ?_⟩) hH ?_
  rotate_left
  · ((intro W hW; clear hW; go_simp) <;> with_reducible rfl)
  simp only [Act.put, List.getElem_toArray, List.getElem_cons_zero, List.setIfInBounds_toArray, List.set_cons_zero, List.set_cons_succ]
  refine wpAnyH_take (i := 1) (v := ?_) rfl (by kernel_rfl) (by kernel_rfl) (by kernel_rfl) (fun _ _ _ h => h) (Or.inl ⟨by rfl, ?_⟩) hH ?_
  rotate_left
  · ((intro W hW; clear hW; go_simp) <;> with_reducible rfl)
  simp only [sq3, sq4]
  refine wpAnyH_take (i := 2) (v := ?_) rfl (by kernel_rfl) (by kernel_rfl) (by kernel_rfl) (fun _ _ _ h => h) (Or.inl ⟨by rfl, ?_⟩) hH ?_
  rotate_left
  · ((intro W hW; clear hW; go_simp) <;> with_reducible rfl)
  simp only [sq3, sq4]
  refine wpAnyH_take (i := 3) (v := ?_) rfl (by kernel_rfl) (by kernel_rfl) (by kernel_rfl) (fun _ _ _ h => h) (Or.inl ⟨by rfl, ?_⟩) hH ?_
  rotate_left
  · ((intro W hW; have hk := cell_lit (hW.1) 7 _ rfl; clear hW; go_simp) <;> with_reducible rfl)
  simp only [sq3, sq4]
  refine wpAnyH_take (i := 4) (v := .agg #[.int .u8 (a.a.toNat : Int), .int .u8 (a.b.toNat : Int), .int .u8 (a.c.toNat : Int), .int .u8 (a.d.toNat : Int)]) rfl (by kernel_rfl) (by kernel_rfl) (by kernel_rfl) (fun _ _ _ h => h) (yieldsIf_load_part (by kernel_rfl) 28 _ rfl g4 0 4 rfl _ 28 (0, 0) (fun W hW => hW.2) _ rfl _ Try.underlying28 rfl (by kernel_rfl)) hH ?_
  simp only [sq3, sq4]
  refine wpAnyH_ready (rs := [5]) (by kernel_rfl) (by simp) ?_
  refine AllReadyH.cons (o := _) rfl (fun K hK => ?_) AllReadyH.nil
  simp only [sq3]
  go_simp
  with_reducible refine (scn_nil _).mono ?_
  rintro e w3 ⟨rfl, b3⟩
  dsimp only
  replace hsv := blk_u hsv b3
  replace hab := blk_u hab b3
  replace kt := kt.trans (kt_below b3)
  replace hT := hT.below b3
  replace bel := bel.trans (b3.mono (Nat.le_trans hlo bel.size))
  clear b3
  refine hK.out _ _ ⟨hsv, hab⟩ (fun hH4 => ?_)
  clear hK K
  refine wpAnyH_done (by kernel_rfl) ?_ _
  have R16 := cell_lit hsv 0 _ rfl
  go_wp2_with fail
  clear R16
  go_wp2_with fail
  with_reducible refine (pall_any t _ hT).mono ?_
  rintro e w5 ⟨A2, n2, c2, rfl, lrw, hT_, k_, bb⟩
  replace hsv := Kt.blk k_ hsv (by decide)
  replace hab := Kt.blk k_ hab (by decide)
  replace kt := kt.trans k_
  clear hT
  have hT := hT_
  replace bel := bel.trans bb
  clear bb k_ hT_
  have hln_ := row_len (by decide) leE_len lrw
  have len := (owk_sle (by decide) leE_len lrw).1
  have lA : 0 < n2 → ∃ g, A2 = some ⟨g, 0, none⟩ := fun h_ => (row_at lrw h_).imp fun _ h2_ => h2_.1
  have hn2 : n2 ≤ 1000 := by rw [← hln_]; exact HALL.out
  clear lrw hln_
  go_wp2_with fail
  with_reducible refine (scf_any _ hab len lA hn2 HB.out).mono ?_
  rintro e w6 ⟨rfl, b6⟩
  replace hsv := blk_u hsv b6
  replace hab := blk_u hab b6
  replace kt := kt.trans (kt_below b6)
  replace hT := hT.below b6
  replace bel := bel.trans (b6.mono (Nat.le_trans hlo bel.size))
  clear b6
  go_wp2_with fail
  go_ret
  exact ⟨rfl, ⟨hsv, osv, hT⟩, kt, bel⟩
open Go.RowKit

set_option maxRecDepth 100000 in
theorem lg_disck {lo gs gp : Nat} {A : Option Addr} {c : Nat} {hs : List Oh} {k : Nat} (hk : k < 32) (w : World) (hT : Sv lo gs gp w ⟨⟨192, 168, 1, 1⟩, 4294967040, 3600⟩ (tkS k)) (hO : Opv w A 1 c hs [(53, [1])])  : Calls Try.prog 10 #[.pointer (some ⟨gs, 0, none⟩), .agg #[.int .i64 1, .int .i64 0, .int .u32 7, .int .i64 0, .int .i64 0, .int .u8 0, .int .u8 0, .int .u8 0, .int .u8 0, .int .u8 0, .int .u8 0, .int .u8 0, .int .u8 0, .int .u8 0, .int .u8 0, .int .u8 0, .int .u8 0, .int .u8 0, .int .u8 0, .int .u8 0, .int .u8 0, .int .u8 2, .int .u8 (k : Int), .int .u8 0, .int .u8 0, .int .u8 0, .int .u8 0, .slice A 1 c], .int .i64 0] w fun e w' => ∃ A2 c2 hs2, e = .returned (.tuple #[.agg #[.int .i64 2, .int .i64 0, .int .u32 7, .int .i64 0, .int .i64 0, .int .u8 0, .int .u8 0, .int .u8 0, .int .u8 0, .int .u8 ((nA k).a.toNat : Int), .int .u8 ((nA k).b.toNat : Int), .int .u8 ((nA k).c.toNat : Int), .int .u8 ((nA k).d.toNat : Int), .int .u8 192, .int .u8 168, .int .u8 1, .int .u8 1, .int .u8 0, .int .u8 0, .int .u8 0, .int .u8 0, .int .u8 2, .int .u8 (k : Int), .int .u8 0, .int .u8 0, .int .u8 0, .int .u8 0, .slice A2 6 c2, .int .u8 2, .int .u8 (k : Int), .int .u8 0, .int .u8 0, .int .u8 0, .int .u8 0, .int .u8 ((nA k).a.toNat : Int), .int .u8 ((nA k).b.toNat : Int), .int .u8 ((nA k).c.toNat : Int), .int .u8 ((nA k).d.toNat : Int)], .bool true]) ∧ Opv w' A2 6 c2 hs2 [(53, [2]), (54, (⟨192, 168, 1, 1⟩ : Ad4).l), (51, four 3600), (1, four 4294967040), (3, (⟨192, 168, 1, 1⟩ : Ad4).l), (6, (⟨192, 168, 1, 1⟩ : Ad4).l)] ∧ (∀ q, q < w.heap.size → Oa A2 6 hs2 q) ∧ Sv lo gs gp w' ⟨⟨192, 168, 1, 1⟩, 4294967040, 3600⟩ ((tkS k).adv 0) ∧ Kt [84, 101] w w' ∧ Below lo w w' := by
  have h_ := sget_offer_your (wa := Ad4.zero) (a := nA k) (h := ⟨1, 0, 7, 0, 0, 0, 0, 0, 0, 0, 0, 0, 0, 0, 0, 0, 0, 0, 0, 0, 0, 2, byteOf (k : Int), 0, 0, 0, 0⟩) w hT hO (by kernel_rfl) (by omega) (by omega) (by kernel_rfl) (b := false) (by kernel_rfl) (talk_offer hk) (by kernel_rfl) (by kernel_rfl)
  dsimp only at h_
  rw [byteOf_small (show k < 256 by omega)] at h_
  exact h_
set_option maxRecDepth 100000 in
theorem lg_wantk {lo gs gp : Nat} {A : Option Addr} {c : Nat} {hs : List Oh} {k : Nat} (hk : k < 32) (w : World) (hT : Sv lo gs gp w ⟨⟨192, 168, 1, 1⟩, 4294967040, 3600⟩ (tkS k)) (hO : Opv w A 2 c hs [(53, [3]), (50, [(nA k).a, (nA k).b, (nA k).c, (nA k).d])])  : Calls Try.prog 10 #[.pointer (some ⟨gs, 0, none⟩), .agg #[.int .i64 1, .int .i64 0, .int .u32 8, .int .i64 0, .int .i64 0, .int .u8 0, .int .u8 0, .int .u8 0, .int .u8 0, .int .u8 0, .int .u8 0, .int .u8 0, .int .u8 0, .int .u8 0, .int .u8 0, .int .u8 0, .int .u8 0, .int .u8 0, .int .u8 0, .int .u8 0, .int .u8 0, .int .u8 2, .int .u8 (k : Int), .int .u8 0, .int .u8 0, .int .u8 0, .int .u8 0, .slice A 2 c], .int .i64 0] w fun e w' => ∃ A2 c2 hs2, e = .returned (.tuple #[.agg #[.int .i64 2, .int .i64 0, .int .u32 8, .int .i64 0, .int .i64 0, .int .u8 0, .int .u8 0, .int .u8 0, .int .u8 0, .int .u8 ((nA k).a.toNat : Int), .int .u8 ((nA k).b.toNat : Int), .int .u8 ((nA k).c.toNat : Int), .int .u8 ((nA k).d.toNat : Int), .int .u8 192, .int .u8 168, .int .u8 1, .int .u8 1, .int .u8 0, .int .u8 0, .int .u8 0, .int .u8 0, .int .u8 2, .int .u8 (k : Int), .int .u8 0, .int .u8 0, .int .u8 0, .int .u8 0, .slice A2 6 c2, .int .u8 2, .int .u8 (k : Int), .int .u8 0, .int .u8 0, .int .u8 0, .int .u8 0, .int .u8 ((nA k).a.toNat : Int), .int .u8 ((nA k).b.toNat : Int), .int .u8 ((nA k).c.toNat : Int), .int .u8 ((nA k).d.toNat : Int)], .bool true]) ∧ Opv w' A2 6 c2 hs2 [(53, [5]), (54, (⟨192, 168, 1, 1⟩ : Ad4).l), (51, four 3600), (1, four 4294967040), (3, (⟨192, 168, 1, 1⟩ : Ad4).l), (6, (⟨192, 168, 1, 1⟩ : Ad4).l)] ∧ (∀ q, q < w.heap.size → Oa A2 6 hs2 q) ∧ Sv lo gs gp w' ⟨⟨192, 168, 1, 1⟩, 4294967040, 3600⟩ (tkS (k + 1)) ∧ Kt [84, 101] w w' ∧ Below lo w w' := by
  have h_ := sget_opt_your (sa := Ad4.zero) (a := nA k) (h := ⟨1, 0, 8, 0, 0, 0, 0, 0, 0, 0, 0, 0, 0, 0, 0, 0, 0, 0, 0, 0, 0, 2, byteOf (k : Int), 0, 0, 0, 0⟩) w hT hO (by kernel_rfl) (by omega) (by omega) (by kernel_rfl) (by kernel_rfl) (by kernel_rfl) (by kernel_rfl) (talk_take hk) (by kernel_rfl) (by kernel_rfl)
  dsimp only at h_
  rw [byteOf_small (show k < 256 by omega)] at h_
  exact h_
set_option maxRecDepth 100000 in
theorem lg_fullk {lo gs gp : Nat} {A : Option Addr} {c : Nat} {hs : List Oh} {k : Nat} (hk : 32 ≤ k) (hk2 : k < 100) (w : World) (hT : Sv lo gs gp w ⟨⟨192, 168, 1, 1⟩, 4294967040, 3600⟩ (tkS 32)) (hO : Opv w A 1 c hs [(53, [1])])  : Calls Try.prog 10 #[.pointer (some ⟨gs, 0, none⟩), .agg #[.int .i64 1, .int .i64 0, .int .u32 7, .int .i64 0, .int .i64 0, .int .u8 0, .int .u8 0, .int .u8 0, .int .u8 0, .int .u8 0, .int .u8 0, .int .u8 0, .int .u8 0, .int .u8 0, .int .u8 0, .int .u8 0, .int .u8 0, .int .u8 0, .int .u8 0, .int .u8 0, .int .u8 0, .int .u8 2, .int .u8 (k : Int), .int .u8 0, .int .u8 0, .int .u8 0, .int .u8 0, .slice A 1 c], .int .i64 0] w fun e w' => e = .returned (.tuple #[.agg #[.int .i64 0, .int .i64 0, .int .u32 0, .int .i64 0, .int .i64 0, .int .u8 0, .int .u8 0, .int .u8 0, .int .u8 0, .int .u8 0, .int .u8 0, .int .u8 0, .int .u8 0, .int .u8 0, .int .u8 0, .int .u8 0, .int .u8 0, .int .u8 0, .int .u8 0, .int .u8 0, .int .u8 0, .int .u8 0, .int .u8 0, .int .u8 0, .int .u8 0, .int .u8 0, .int .u8 0, .slice none 0 0, .int .u8 0, .int .u8 0, .int .u8 0, .int .u8 0, .int .u8 0, .int .u8 0, .int .u8 0, .int .u8 0, .int .u8 0, .int .u8 0], .bool false]) ∧ Sv lo gs gp w' ⟨⟨192, 168, 1, 1⟩, 4294967040, 3600⟩ ((tkS 32).adv 0) ∧ Kt [84, 101] w w' ∧ Below lo w w' := by
  have h_ := sget_offer_no (wa := Ad4.zero) (a := Ad4.zero) (r := 7) (h := ⟨1, 0, 7, 0, 0, 0, 0, 0, 0, 0, 0, 0, 0, 0, 0, 0, 0, 0, 0, 0, 0, 2, byteOf (k : Int), 0, 0, 0, 0⟩) w hT hO (by kernel_rfl) (by kernel_rfl) (b := false) (by kernel_rfl) (talk_full hk hk2) (by kernel_rfl)
  dsimp only at h_
  rw [byteOf_small (show k < 256 by omega)] at h_
  exact h_
set_option linter.unusedVariables false in
set_option linter.unusedSimpArgs false in
set_option maxRecDepth 100000 in
set_option maxHeartbeats 16000000 in
theorem serveTalks_walk (n secs : Int) (w : World) : Calls Try.prog 4 #[.int .i64 n, .int .i64 secs] w fun e w' => e = .returned (.bool true) ∧ Below w.heap.size w w' := by
  have bel := Below.refl w.heap.size w
  go_enter Try.func4, Try.ntmps4
  go_wp2_with fail
  with_reducible refine (sawake_any _).mono ?_
  rintro e w1 ⟨rfl, b1⟩
  replace bel := bel.trans (b1.mono bel.size)
  clear b1
  by_cases c0 : n < 0
  · go_wp2_with fail
    go_ret
    exact ⟨rfl, bel⟩
  have Hc0 : Hid (0 ≤ n) := Lib.hid (by omega)
  replace c0 : decide (n < 0) = false := decide_eq_false c0
  by_cases c1 : 50 < n
  · go_wp2_with fail
    go_ret
    exact ⟨rfl, bel⟩
  have Hc1 : Hid (n ≤ 50) := Lib.hid (by omega)
  replace c1 : decide (50 < n) = false := decide_eq_false c1
  by_cases c2 : secs < 0
  · go_wp2_with fail
    go_ret
    exact ⟨rfl, bel⟩
  have Hc2 : Hid (0 ≤ secs) := Lib.hid (by omega)
  replace c2 : decide (secs < 0) = false := decide_eq_false c2
  by_cases c3 : 10000 < secs
  · go_wp2_with fail
    go_ret
    exact ⟨rfl, bel⟩
  have Hc3 : Hid (secs ≤ 10000) := Lib.hid (by omega)
  replace c3 : decide (10000 < secs) = false := decide_eq_false c3
  obtain ⟨q, hq⟩ : ∃ q : Nat, n = (q : Int) := ⟨n.toNat, by have := Hc0.out; omega⟩
  have HQ := Lib.hid hq
  have HQ1 : Hid (q ≤ 50) := Lib.hid (by have := Hc1.out; omega)
  have HS0 : Hid (0 ≤ secs) := Hc2
  have HS1 : Hid (secs ≤ 10000) := Hc3
  clear hq
  go_wp2_with fail
  with_reducible refine (cusual_any _).mono ?_
  rintro e w2 ⟨rfl, b2⟩
  replace bel := bel.trans (b2.mono bel.size)
  clear b2
  go_wp2_with fail
  have HLO_ := bel.size
  with_reducible refine (snew_us _).mono ?_
  rintro e w3 ⟨gs, gp, rfl, hT, b3⟩
  replace bel := bel.trans (b3.mono bel.size)
  clear b3
  replace hT : Sv w.heap.size gs gp w3 ⟨⟨192, 168, 1, 1⟩, 4294967040, 3600⟩ uS0 := hT.lo_mono HLO_
  clear HLO_
  rw [uS0_is] at hT
  go_wp2_with fail
  go_loopg [7] (q) (fun gk s7 wr => ∃ k : Nat, gk = q - k ∧ k ≤ q ∧ Sv w.heap.size gs gp wr ⟨⟨192, 168, 1, 1⟩, 4294967040, 3600⟩ (tkS (min k 32)) ∧ s7 = .int .i64 (k : Int) ∧ Below w.heap.size w wr)
  case atStart => exact ⟨0, Nat.sub_zero _, Nat.zero_le _, hT, rfl, bel⟩
  case round =>
    clear hT bel
    obtain ⟨k, HGK, hkq, hT, rfl, bel⟩ := hrel
    have HGK_ := Lib.hid HGK
    clear HGK
    by_cases h : (k : Int) < n
    rotate_left
    · have hkq2 : k = q := by have := HQ.out; omega
      replace h : decide ((k : Int) < n) = false := decide_eq_false h
      rw [hkq2] at hT
      clear hkq2 hkq
      have hb0_ : ((0 : Nat) : Int) = 0 := rfl
      by_cases hbig : 32 < n
      · have g32 : decide (32 < n) = true := decide_eq_true (by have := HQ.out; omega)
        have hmm : min q 32 = 32 := by have := HQ.out; omega
        rw [hmm] at hT
        have HM : Hid (32 ≤ 32) := Lib.hid (Nat.le_refl _)
        clear hmm hbig
        by_cases hs : 3600 ≤ secs
        · have s1 : 3600 ≤ secs := hs
          obtain ⟨l1, hl1⟩ : ∃ ls, allO (((tkS 32).adv secs)).now (tkS 32).l = ls ∧ ls.length = 0 := ⟨_, rfl, talk_none s1 HS1.out⟩
          have HA1 := Lib.hid hl1
          obtain ⟨l2, hl2⟩ : ∃ ls, tickO ((((tkS 32).adv secs)).adv secs).now (((tkS 32).adv secs)).l = ls ∧ ls.length = 32 := ⟨_, rfl, talk_over HM.out s1 HS1.out⟩
          have HA2 := Lib.hid hl2
          clear hl1 hl2 hs
          go_wp2_with fail
          go_wp2_with fail
          with_reducible refine (sall_is _ hT HA1.out).mono ?_
          rintro e w4 ⟨Ala, cla, rfl, law, hT_, k_, bb⟩
          clear hT
          have hT := hT_
          replace bel := bel.trans bb
          clear bb k_ hT_
          clear law
          go_wp2_with fail
          go_wp2_with fail
          with_reducible refine (stick_is _ hT HA2.out).mono ?_
          rintro e w5 ⟨Alb, clb, rfl, lbw, hT_, k_, bb⟩
          clear hT
          have hT := hT_
          replace bel := bel.trans bb
          clear bb k_ hT_
          clear lbw
          go_wp2_with fail
          go_ret
          exact ⟨rfl, bel⟩
        have hs_ : secs < 3600 := by omega
        have s1 : decide (3600 ≤ secs) = false := decide_eq_false hs
        obtain ⟨l1, hl1⟩ : ∃ ls, allO (((tkS 32).adv secs)).now (tkS 32).l = ls ∧ ls.length = 32 := ⟨_, rfl, talk_all HM.out HS0.out hs_⟩
        have HA1 := Lib.hid hl1
        obtain ⟨l2, hl2⟩ : ∃ ls, tickO ((((tkS 32).adv secs)).adv secs).now (((tkS 32).adv secs)).l = ls ∧ ls.length = 0 := ⟨_, rfl, talk_not HS0.out hs_⟩
        have HA2 := Lib.hid hl2
        clear hl1 hl2 hs hs_
        go_wp2_with fail
        go_wp2_with fail
        with_reducible refine (sall_is _ hT HA1.out).mono ?_
        rintro e w4 ⟨Ala, cla, rfl, law, hT_, k_, bb⟩
        clear hT
        have hT := hT_
        replace bel := bel.trans bb
        clear bb k_ hT_
        clear law
        go_wp2_with fail
        go_wp2_with fail
        with_reducible refine (stick_is _ hT HA2.out).mono ?_
        rintro e w5 ⟨Alb, clb, rfl, lbw, hT_, k_, bb⟩
        clear hT
        have hT := hT_
        replace bel := bel.trans bb
        clear bb k_ hT_
        clear lbw
        go_wp2_with fail
        go_ret
        exact ⟨rfl, bel⟩
      have g32 : decide (32 < n) = false := decide_eq_false hbig
      have hmm : min q 32 = q := by have := HQ.out; omega
      rw [hmm] at hT
      have HM : Hid (q ≤ 32) := Lib.hid (by have := HQ.out; omega)
      have hbn : (((q : Nat) : Int) == n) = true := by have := HQ.out; simp; omega
      clear hmm hbig
      by_cases hs : 3600 ≤ secs
      · have s1 : 3600 ≤ secs := hs
        obtain ⟨l1, hl1⟩ : ∃ ls, allO (((tkS q).adv secs)).now (tkS q).l = ls ∧ ls.length = 0 := ⟨_, rfl, talk_none s1 HS1.out⟩
        have HA1 := Lib.hid hl1
        obtain ⟨l2, hl2⟩ : ∃ ls, tickO ((((tkS q).adv secs)).adv secs).now (((tkS q).adv secs)).l = ls ∧ ls.length = q := ⟨_, rfl, talk_over HM.out s1 HS1.out⟩
        have HA2 := Lib.hid hl2
        clear hl1 hl2 hs
        go_wp2_with fail
        go_wp2_with fail
        with_reducible refine (sall_is _ hT HA1.out).mono ?_
        rintro e w4 ⟨Ala, cla, rfl, law, hT_, k_, bb⟩
        clear hT
        have hT := hT_
        replace bel := bel.trans bb
        clear bb k_ hT_
        clear law
        go_wp2_with fail
        go_wp2_with fail
        with_reducible refine (stick_is _ hT HA2.out).mono ?_
        rintro e w5 ⟨Alb, clb, rfl, lbw, hT_, k_, bb⟩
        clear hT
        have hT := hT_
        replace bel := bel.trans bb
        clear bb k_ hT_
        clear lbw
        go_wp2_with fail
        go_ret
        exact ⟨rfl, bel⟩
      have hs_ : secs < 3600 := by omega
      have s1 : decide (3600 ≤ secs) = false := decide_eq_false hs
      obtain ⟨l1, hl1⟩ : ∃ ls, allO (((tkS q).adv secs)).now (tkS q).l = ls ∧ ls.length = q := ⟨_, rfl, talk_all HM.out HS0.out hs_⟩
      have HA1 := Lib.hid hl1
      obtain ⟨l2, hl2⟩ : ∃ ls, tickO ((((tkS q).adv secs)).adv secs).now (((tkS q).adv secs)).l = ls ∧ ls.length = 0 := ⟨_, rfl, talk_not HS0.out hs_⟩
      have HA2 := Lib.hid hl2
      clear hl1 hl2 hs hs_
      go_wp2_with fail
      go_wp2_with fail
      with_reducible refine (sall_is _ hT HA1.out).mono ?_
      rintro e w4 ⟨Ala, cla, rfl, law, hT_, k_, bb⟩
      clear hT
      have hT := hT_
      replace bel := bel.trans bb
      clear bb k_ hT_
      clear law
      go_wp2_with fail
      go_wp2_with fail
      with_reducible refine (stick_is _ hT HA2.out).mono ?_
      rintro e w5 ⟨Alb, clb, rfl, lbw, hT_, k_, bb⟩
      clear hT
      have hT := hT_
      replace bel := bel.trans bb
      clear bb k_ hT_
      clear lbw
      go_wp2_with fail
      go_ret
      exact ⟨rfl, bel⟩
    have hk_ : k < q := by have := HQ.out; omega
    have HK := Lib.hid hk_
    have HK5 : Hid (k < 100) := Lib.hid (by have := HQ1.out; omega)
    have k0 : (0 : Int) ≤ k := by omega
    have k1 : (k : Int) < 100 := by have := HK5.out; omega
    have wk : IntKind.u8.wrap (k : Int) = (k : Int) := by show (k : Int) % 256 = k; omega
    clear hk_
    go_wp2_with (first | ((with_reducible show wpList _ _ _ (⟨some 8, _, _, _, _, _⟩ :: _) _ _); refine wpList_new_a rfl 32 rfl #[.int .u8 0, .int .u8 0, .int .u8 0, .int .u8 0, .int .u8 0, .int .u8 0] (by kernel_rfl) ?_; intro g8 w4 ge hh bb; have omb := Nat.le_trans bel.size ge; replace hT := hT.below bb; replace bel := bel.trans (bb.mono bel.size); have hmb := hh; clear hh ge bb) | ((with_reducible show wpList _ _ _ (⟨none, Op.store _ (.tmp 8) _, _, _, _, _⟩ :: _) _ _); refine wpList_store_blk rfl 32 (.tmp 8) (.tmp 44) rfl g8 rfl _ rfl _ 32 hmb (by rfl) (by kernel_rfl) (by kernel_rfl) ?_; intro w5 hq gr; replace hT := hT.grown gr hmb (by decide); replace bel := below_grown bel gr omb bel.size; clear hmb; have hmb := hq; clear hq gr; have R47 := Lib.hid (range_lit hmb 0 6 [.int .u8 2, .int .u8 (k : Int), .int .u8 0, .int .u8 0, .int .u8 0, .int .u8 0] rfl)) | ((with_reducible show wpList _ _ _ (⟨some 47, _, _, _, _, _⟩ :: _) _ _); refine wpList_load_rng 32 (.tmp 8) rfl (by kernel_rfl) _ _ rfl _ R47.out _ Try.underlying32 rfl (by kernel_rfl) ?_))
    try clear R47
    have sp_mb := hlt hmb
    have hwz := bel.size
    with_reducible refine (ldisc_o _).mono ?_
    rintro e w6 ⟨Aw, cw, hw, rfl, hO, fP, b6⟩
    replace hmb := blk_u hmb b6
    replace hT := hT.below b6
    replace bel := bel.trans (b6.mono bel.size)
    clear b6
    have fO : ∀ q, q < w.heap.size → Oa Aw 1 hw q := fun q_ hq_ => fP q_ (Nat.lt_of_lt_of_le hq_ hwz)
    clear hwz
    have oa_mb := fP _ sp_mb
    clear sp_mb
    clear fP
    by_cases h32 : k < 32
    rotate_left
    · have HN : Hid (32 ≤ k) := Lib.hid (by omega)
      have i32 : decide ((k : Int) < 32) = false := decide_eq_false (by omega)
      rw [show min k 32 = 32 by omega] at hT
      clear h32
      go_wp2_with fail
      go_wp2_with fail
      with_reducible refine (lg_fullk HN.out HK5.out _ hT hO).mono ?_
      rintro e w7 ⟨rfl, hT_, k_, bb⟩
      replace hmb := Kt.blk k_ hmb (by decide)
      replace hO := hO.kt k_
      clear hT
      have hT := hT_
      replace bel := bel.trans bb
      clear bb k_ hT_
      rw [tk_adv] at hT
      clear hO
      go_wp2_with (first | ((with_reducible show wpList _ _ _ (⟨some 9, _, _, _, _, _⟩ :: _) _ _); refine wpList_new_a rfl 43 rfl #[.int .i64 0, .int .i64 0, .int .u32 0, .int .i64 0, .int .i64 0, .int .u8 0, .int .u8 0, .int .u8 0, .int .u8 0, .int .u8 0, .int .u8 0, .int .u8 0, .int .u8 0, .int .u8 0, .int .u8 0, .int .u8 0, .int .u8 0, .int .u8 0, .int .u8 0, .int .u8 0, .int .u8 0, .int .u8 0, .int .u8 0, .int .u8 0, .int .u8 0, .int .u8 0, .int .u8 0, .slice none 0 0, .int .u8 0, .int .u8 0, .int .u8 0, .int .u8 0, .int .u8 0, .int .u8 0, .int .u8 0, .int .u8 0, .int .u8 0, .int .u8 0] (by kernel_rfl) ?_; intro g9 w8 ge hh bb; have d_mb_ya := ne_new (hlt hmb) ge; have oya := Nat.le_trans bel.size ge; replace hmb := blk_u hmb bb; replace hT := hT.below bb; replace bel := bel.trans (bb.mono bel.size); have hya := hh; clear hh ge bb) | ((with_reducible show wpList _ _ _ (⟨none, Op.store _ (.tmp 9) _, _, _, _, _⟩ :: _) _ _); refine wpList_store_blk rfl 43 (.tmp 9) (.tmp 50) rfl g9 rfl _ rfl _ 43 hya (by rfl) (by kernel_rfl) (by kernel_rfl) ?_; intro w9 hq gr; replace hmb := blk_a hmb gr d_mb_ya; replace hT := hT.grown gr hya (by decide); replace bel := below_grown bel gr oya bel.size; clear hya; have hya := hq; clear hq gr))
      go_roundg (q - (k + 1))
      case measure => have := HGK_.out; have := HK.out; omega
      case rel => exact ⟨k + 1, rfl, HK.out, (by rw [show min (k + 1) 32 = 32 by have := HN.out; omega]; exact hT), by go_num, bel⟩
    have HY := Lib.hid h32
    have i32 : decide ((k : Int) < 32) = true := decide_eq_true (by omega)
    have w81 : IntKind.i64.wrap (100 + (k : Int)) = 100 + (k : Int) := IntWalk.i64_in _ (by omega)
    have w82 : IntKind.u8.wrap (100 + (k : Int)) = 100 + (k : Int) := by show (100 + (k : Int)) % 256 = _; omega
    have e84 : ∀ W, (binOp .neq 28 (.agg #[.int .u8 ((nA k).a.toNat : Int), .int .u8 ((nA k).b.toNat : Int), .int .u8 ((nA k).c.toNat : Int), .int .u8 ((nA k).d.toNat : Int)]) (.agg #[.int .u8 192, .int .u8 168, .int .u8 1, .int .u8 (100 + (k : Int))])).run Try.prog W = .ok (.bool false) W := fun W => by
      have h_ := nea_b (nA k) (nA k) W
      rw [Ad4.eqB_self] at h_
      have hd : ((nA k).d.toNat : Int) = 100 + (k : Int) := by
        show ((byteOf ((100 + k : Nat) : Int)).toNat : Int) = _
        rw [byteOf_small (by omega)]; omega
      have h2_ : (binOp .neq 28 (adV (nA k)) (.agg #[.int .u8 192, .int .u8 168, .int .u8 1, .int .u8 ((nA k).d.toNat : Int)])).run Try.prog W = .ok (.bool false) W := h_
      rw [hd] at h2_
      exact h2_
    rw [show min k 32 = k by omega] at hT
    clear h32
    go_wp2_with fail
    go_wp2_with fail
    have sp_mb := hlt hmb
    have hwz := bel.size
    with_reducible refine (lg_disck HY.out _ hT hO).mono ?_
    rintro e w7 ⟨A2a, c2a, hs2a, rfl, hPa, fP, hT_, k_, bb⟩
    replace hmb := Kt.blk k_ hmb (by decide)
    replace hO := hO.kt k_
    clear hT
    have hT := hT_
    replace bel := bel.trans bb
    clear bb k_ hT_
    have fAa : ∀ q, q < w.heap.size → Oa A2a 6 hs2a q := fun q_ hq_ => fP q_ (Nat.lt_of_lt_of_le hq_ hwz)
    clear hwz
    have oba_mb := fP _ sp_mb
    clear sp_mb
    clear fP
    rw [tk_adv] at hT
    clear hO
    clear hPa
    go_wp2_with (first | ((with_reducible show wpList _ _ _ (⟨some 9, _, _, _, _, _⟩ :: _) _ _); refine wpList_new_a rfl 43 rfl #[.int .i64 0, .int .i64 0, .int .u32 0, .int .i64 0, .int .i64 0, .int .u8 0, .int .u8 0, .int .u8 0, .int .u8 0, .int .u8 0, .int .u8 0, .int .u8 0, .int .u8 0, .int .u8 0, .int .u8 0, .int .u8 0, .int .u8 0, .int .u8 0, .int .u8 0, .int .u8 0, .int .u8 0, .int .u8 0, .int .u8 0, .int .u8 0, .int .u8 0, .int .u8 0, .int .u8 0, .slice none 0 0, .int .u8 0, .int .u8 0, .int .u8 0, .int .u8 0, .int .u8 0, .int .u8 0, .int .u8 0, .int .u8 0, .int .u8 0, .int .u8 0] (by kernel_rfl) ?_; intro g9 w8 ge hh bb; have d_mb_ya := ne_new (hlt hmb) ge; have oya := Nat.le_trans bel.size ge; replace hmb := blk_u hmb bb; replace hT := hT.below bb; replace bel := bel.trans (bb.mono bel.size); have hya := hh; clear hh ge bb) | ((with_reducible show wpList _ _ _ (⟨none, Op.store _ (.tmp 9) _, _, _, _, _⟩ :: _) _ _); refine wpList_store_blk rfl 43 (.tmp 9) (.tmp 50) rfl g9 rfl _ rfl _ 43 hya (by rfl) (by kernel_rfl) (by kernel_rfl) ?_; intro w9 hq gr; replace hmb := blk_a hmb gr d_mb_ya; replace hT := hT.grown gr hya (by decide); replace bel := below_grown bel gr oya bel.size; clear hya; have hya := hq; clear hq gr; have R60 := Lib.hid (range_lit hmb 0 6 [.int .u8 2, .int .u8 (k : Int), .int .u8 0, .int .u8 0, .int .u8 0, .int .u8 0] rfl)) | ((with_reducible show wpList _ _ _ (⟨some 60, _, _, _, _, _⟩ :: _) _ _); refine wpList_load_rng 32 (.tmp 8) rfl (by kernel_rfl) _ _ rfl _ R60.out _ Try.underlying32 rfl (by kernel_rfl) ?_; have R63 := Lib.hid (range_lit hya 9 4 [.int .u8 ((nA k).a.toNat : Int), .int .u8 ((nA k).b.toNat : Int), .int .u8 ((nA k).c.toNat : Int), .int .u8 ((nA k).d.toNat : Int)] rfl)) | ((with_reducible show wpList _ _ _ (⟨some 63, _, _, _, _, _⟩ :: _) _ _); refine wpList_load_rng 28 (.tmp 62) rfl (by kernel_rfl) _ _ rfl _ R63.out _ Try.underlying28 rfl (by kernel_rfl) ?_))
    try clear R60
    try clear R63
    have sp_mb := hlt hmb
    have sp_ya := hlt hya
    have hwz := bel.size
    with_reducible refine (lwant_o (b0 := (nA k).a) (b1 := (nA k).b) (b2 := (nA k).c) (b3 := (nA k).d) _ rfl rfl rfl rfl).mono ?_
    rintro e w10 ⟨Awb, cwb, hwb, rfl, hO, fP, b10⟩
    replace hmb := blk_u hmb b10
    replace hya := blk_u hya b10
    replace hT := hT.below b10
    replace bel := bel.trans (b10.mono bel.size)
    clear b10
    have fOb : ∀ q, q < w.heap.size → Oa Awb 2 hwb q := fun q_ hq_ => fP q_ (Nat.lt_of_lt_of_le hq_ hwz)
    clear hwz
    have oa_mb := fP _ sp_mb
    have oa_ya := fP _ sp_ya
    clear sp_mb sp_ya
    clear fP
    go_wp2_with fail
    go_wp2_with fail
    have sp_mb := hlt hmb
    have sp_ya := hlt hya
    have hwz := bel.size
    with_reducible refine (lg_wantk HY.out _ hT hO).mono ?_
    rintro e w11 ⟨A2b, c2b, hs2b, rfl, hP, fP, hT_, k_, bb⟩
    replace hmb := Kt.blk k_ hmb (by decide)
    replace hya := Kt.blk k_ hya (by decide)
    replace hO := hO.kt k_
    clear hT
    have hT := hT_
    replace bel := bel.trans bb
    clear bb k_ hT_
    have fAb : ∀ q, q < w.heap.size → Oa A2b 6 hs2b q := fun q_ hq_ => fP q_ (Nat.lt_of_lt_of_le hq_ hwz)
    clear hwz
    have ob_mb := fP _ sp_mb
    have ob_ya := fP _ sp_ya
    clear sp_mb sp_ya
    clear fP
    clear hO
    go_wp2_with (first | ((with_reducible show wpList _ _ _ (⟨some 11, _, _, _, _, _⟩ :: _) _ _); refine wpList_new_a rfl 43 rfl #[.int .i64 0, .int .i64 0, .int .u32 0, .int .i64 0, .int .i64 0, .int .u8 0, .int .u8 0, .int .u8 0, .int .u8 0, .int .u8 0, .int .u8 0, .int .u8 0, .int .u8 0, .int .u8 0, .int .u8 0, .int .u8 0, .int .u8 0, .int .u8 0, .int .u8 0, .int .u8 0, .int .u8 0, .int .u8 0, .int .u8 0, .int .u8 0, .int .u8 0, .int .u8 0, .int .u8 0, .slice none 0 0, .int .u8 0, .int .u8 0, .int .u8 0, .int .u8 0, .int .u8 0, .int .u8 0, .int .u8 0, .int .u8 0, .int .u8 0, .int .u8 0] (by kernel_rfl) ?_; intro g11 w12 ge hh bb; have d_mb_yb := ne_new (hlt hmb) ge; have d_ya_yb := ne_new (hlt hya) ge; have oyb := Nat.le_trans bel.size ge; have ob_yb := hP.oa ge; replace hmb := blk_u hmb bb; replace hya := blk_u hya bb; replace hT := hT.below bb; replace hP := hP.below bb; replace bel := bel.trans (bb.mono bel.size); have hyb := hh; clear hh ge bb) | ((with_reducible show wpList _ _ _ (⟨none, Op.store _ (.tmp 11) _, _, _, _, _⟩ :: _) _ _); refine wpList_store_blk rfl 43 (.tmp 11) (.tmp 66) rfl g11 rfl _ rfl _ 43 hyb (by rfl) (by kernel_rfl) (by kernel_rfl) ?_; intro w13 hq gr; replace hmb := blk_a hmb gr d_mb_yb; replace hya := blk_a hya gr d_ya_yb; replace hT := hT.grown gr hyb (by decide); replace hP := hP.away ob_yb gr; replace bel := below_grown bel gr oyb bel.size; clear hyb; have hyb := hq; clear hq gr; have R72 := Lib.hid (range_lit hyb 0 28 [.int .i64 2, .int .i64 0, .int .u32 8, .int .i64 0, .int .i64 0, .int .u8 0, .int .u8 0, .int .u8 0, .int .u8 0, .int .u8 ((nA k).a.toNat : Int), .int .u8 ((nA k).b.toNat : Int), .int .u8 ((nA k).c.toNat : Int), .int .u8 ((nA k).d.toNat : Int), .int .u8 192, .int .u8 168, .int .u8 1, .int .u8 1, .int .u8 0, .int .u8 0, .int .u8 0, .int .u8 0, .int .u8 2, .int .u8 (k : Int), .int .u8 0, .int .u8 0, .int .u8 0, .int .u8 0, .slice A2b 6 c2b] rfl)) | ((with_reducible show wpList _ _ _ (⟨some 72, _, _, _, _, _⟩ :: _) _ _); refine wpList_load_rng 41 (.tmp 71) rfl (by kernel_rfl) _ _ rfl _ R72.out _ Try.underlying41 rfl (by kernel_rfl) ?_))
    try clear R72
    with_reducible refine (ltype_a (k := 5) _ hP (by kernel_rfl)).mono ?_
    rintro e w14 ⟨rfl, b14⟩
    replace hmb := blk_u hmb b14
    replace hya := blk_u hya b14
    replace hyb := blk_u hyb b14
    replace hT := hT.below b14
    replace hP := hP.below b14
    replace bel := bel.trans (b14.mono bel.size)
    clear b14
    have R79 := Lib.hid (range_lit hyb 9 4 [.int .u8 ((nA k).a.toNat : Int), .int .u8 ((nA k).b.toNat : Int), .int .u8 ((nA k).c.toNat : Int), .int .u8 ((nA k).d.toNat : Int)] rfl)
    go_wp2_with (first | ((with_reducible show wpList _ _ _ (⟨some 79, _, _, _, _, _⟩ :: _) _ _); refine wpList_load_rng 28 (.tmp 78) rfl (by kernel_rfl) _ _ rfl _ R79.out _ Try.underlying28 rfl (by kernel_rfl) ?_; have R90 := Lib.hid (range_lit hyb 9 4 [.int .u8 ((nA k).a.toNat : Int), .int .u8 ((nA k).b.toNat : Int), .int .u8 ((nA k).c.toNat : Int), .int .u8 ((nA k).d.toNat : Int)] rfl)) | ((with_reducible show wpList _ _ _ (⟨some 90, _, _, _, _, _⟩ :: _) _ _); refine wpList_load_rng 28 (.tmp 89) rfl (by kernel_rfl) _ _ rfl _ R90.out _ Try.underlying28 rfl (by kernel_rfl) ?_))
    try clear R79
    try clear R90
    go_wp2_with fail
    with_reducible refine (sholds_any (a := nA k) _ hT (talk_holds HY.out)).mono ?_
    rintro e w15 ⟨rfl, hT_, k_, bb⟩
    replace hmb := Kt.blk k_ hmb (by decide)
    replace hya := Kt.blk k_ hya (by decide)
    replace hyb := Kt.blk k_ hyb (by decide)
    replace hP := hP.kt k_
    clear hT
    have hT := hT_
    replace bel := bel.trans bb
    clear bb k_ hT_
    rw [tk_adv] at hT
    clear hP
    go_wp2_with fail
    go_roundg (q - (k + 1))
    case measure => have := HGK_.out; have := HK.out; omega
    case rel => exact ⟨k + 1, rfl, HK.out, (by rw [show min (k + 1) 32 = k + 1 by have := HY.out; omega]; exact hT), by go_num, bel⟩
end Go.Proofs.Ytapdmlfjohiekaa
