/- Layer 13's great, awake. -/
import Derived.Test.YtmljgpefbbifmaaDh7
namespace Go.Proofs.Ytmljgpefbbifmaa
open Go.RowKit

def greatB (n : Nat) (hs : List Oh) : Bool := decide (20 < n) || hs.any (fun x => decide (1300 < x.n))
theorem great_n {n : Nat} {hs : List Oh} (h : 20 < n) : greatB n hs = true := by unfold greatB; rw [decide_eq_true h]; rfl
theorem great_x {n k : Nat} {hs : List Oh} {x : Oh} (hx : hs[k]? = some x) (h : 1300 < x.n) : greatB n hs = true := by
  unfold greatB
  rw [List.any_eq_true.2 ⟨x, List.mem_of_getElem? hx, decide_eq_true h⟩, Bool.or_true]
theorem great_no {n : Nat} {hs : List Oh} (h : ¬ 20 < n) (hb : ∀ (j : Nat) (x : Oh), j < hs.length → hs[j]? = some x → x.n ≤ 1300) : greatB n hs = false := by
  unfold greatB
  rw [decide_eq_false h, Bool.false_or, List.any_eq_false]
  intro x hx
  obtain ⟨j, hj⟩ := List.getElem?_of_mem hx
  have := hb j x (List.getElem?_eq_some_iff.1 hj).1 hj
  simpa using this
theorem great_all {n : Nat} {hs : List Oh} (h : greatB n hs = false) : n ≤ 20 ∧ ∀ x ∈ hs, x.n ≤ 1300 := by
  unfold greatB at h
  rw [Bool.or_eq_false_iff, List.any_eq_false] at h
  refine ⟨by have := of_decide_eq_false h.1; omega, fun x hx => ?_⟩
  have := h.2 x hx
  simpa using this
theorem bl_next {hs : List Oh} {k m : Nat} {x : Oh} (h : ∀ (j : Nat) (y : Oh), j < k → hs[j]? = some y → y.n ≤ m) (hx : hs[k]? = some x) (hm : x.n ≤ m) : ∀ (j : Nat) (y : Oh), j < k + 1 → hs[j]? = some y → y.n ≤ m := by
  intro j y hj hy
  rcases Nat.lt_or_ge j k with h_ | h_
  · exact h j y h_ hy
  · obtain rfl : j = k := by omega
    rw [hx] at hy
    cases hy
    exact hm
theorem aw_x0 : 0 ≤ hAw.xid := by decide
theorem aw_x1 : hAw.xid < 4294967296 := by decide
set_option linter.unusedVariables false in
set_option linter.unusedSimpArgs false in
set_option maxRecDepth 100000 in
set_option maxHeartbeats 16000000 in
theorem great13_any {h : Mh} {A : Option Addr} {n c : Nat} {hs : List Oh} (w : World) (en : Sle opE 2 w A n c hs) : Calls Try.prog 14 #[.agg #[.int .i64 h.op, .int .i64 h.hops, .int .u32 h.xid, .int .i64 h.secs, .int .i64 h.flags, .int .u8 (h.c0.toNat : Int), .int .u8 (h.c1.toNat : Int), .int .u8 (h.c2.toNat : Int), .int .u8 (h.c3.toNat : Int), .int .u8 (h.y0.toNat : Int), .int .u8 (h.y1.toNat : Int), .int .u8 (h.y2.toNat : Int), .int .u8 (h.y3.toNat : Int), .int .u8 (h.s0.toNat : Int), .int .u8 (h.s1.toNat : Int), .int .u8 (h.s2.toNat : Int), .int .u8 (h.s3.toNat : Int), .int .u8 (h.r0.toNat : Int), .int .u8 (h.r1.toNat : Int), .int .u8 (h.r2.toNat : Int), .int .u8 (h.r3.toNat : Int), .int .u8 (h.m0.toNat : Int), .int .u8 (h.m1.toNat : Int), .int .u8 (h.m2.toNat : Int), .int .u8 (h.m3.toNat : Int), .int .u8 (h.m4.toNat : Int), .int .u8 (h.m5.toNat : Int), .slice A n c]] w fun e w' => e = .returned (.bool (greatB n hs)) ∧ Below w.heap.size w w' := by
  have HL := Lib.hid en.1
  have bel := Below.refl w.heap.size w
  go_enter Try.func14, Try.ntmps14
  by_cases h20 : 20 < n
  · have h20i : (20 : Int) < n := by omega
    have HP : Hid (greatB n hs = true) := Lib.hid (great_n h20)
    clear h20
    go_wp2_with (first | ((with_reducible show wpList _ _ _ (⟨some 1, _, _, _, _, _⟩ :: _) _ _); refine wpList_box_n rfl 30 (.tmp 0) rfl #[.int .i64 h.op, .int .i64 h.hops, .int .u32 h.xid, .int .i64 h.secs, .int .i64 h.flags, .int .u8 (h.c0.toNat : Int), .int .u8 (h.c1.toNat : Int), .int .u8 (h.c2.toNat : Int), .int .u8 (h.c3.toNat : Int), .int .u8 (h.y0.toNat : Int), .int .u8 (h.y1.toNat : Int), .int .u8 (h.y2.toNat : Int), .int .u8 (h.y3.toNat : Int), .int .u8 (h.s0.toNat : Int), .int .u8 (h.s1.toNat : Int), .int .u8 (h.s2.toNat : Int), .int .u8 (h.s3.toNat : Int), .int .u8 (h.r0.toNat : Int), .int .u8 (h.r1.toNat : Int), .int .u8 (h.r2.toNat : Int), .int .u8 (h.r3.toNat : Int), .int .u8 (h.m0.toNat : Int), .int .u8 (h.m1.toNat : Int), .int .u8 (h.m2.toNat : Int), .int .u8 (h.m3.toNat : Int), .int .u8 (h.m4.toNat : Int), .int .u8 (h.m5.toNat : Int), .slice A n c] rfl ?_; intro g1 w1 ge lt hh bb; have av_en_p := en.av_new ge; have op := Nat.le_trans bel.size ge; replace en := en.below bb; replace bel := bel.trans (bb.mono bel.size); have hp := hh; clear hh lt ge bb; have R5 := cell_lit hp 27 _ rfl))
    try clear R5
    go_ret
    exact ⟨by rw [HP.out]; rfl, bel⟩
  have h20i : decide ((20 : Int) < n) = false := decide_eq_false (by omega)
  have H20 := Lib.hid h20
  have hn0 : (n : Int) ≤ 20 := by omega
  clear h20
  go_wp2_with (first | ((with_reducible show wpList _ _ _ (⟨some 1, _, _, _, _, _⟩ :: _) _ _); refine wpList_box_n rfl 30 (.tmp 0) rfl #[.int .i64 h.op, .int .i64 h.hops, .int .u32 h.xid, .int .i64 h.secs, .int .i64 h.flags, .int .u8 (h.c0.toNat : Int), .int .u8 (h.c1.toNat : Int), .int .u8 (h.c2.toNat : Int), .int .u8 (h.c3.toNat : Int), .int .u8 (h.y0.toNat : Int), .int .u8 (h.y1.toNat : Int), .int .u8 (h.y2.toNat : Int), .int .u8 (h.y3.toNat : Int), .int .u8 (h.s0.toNat : Int), .int .u8 (h.s1.toNat : Int), .int .u8 (h.s2.toNat : Int), .int .u8 (h.s3.toNat : Int), .int .u8 (h.r0.toNat : Int), .int .u8 (h.r1.toNat : Int), .int .u8 (h.r2.toNat : Int), .int .u8 (h.r3.toNat : Int), .int .u8 (h.m0.toNat : Int), .int .u8 (h.m1.toNat : Int), .int .u8 (h.m2.toNat : Int), .int .u8 (h.m3.toNat : Int), .int .u8 (h.m4.toNat : Int), .int .u8 (h.m5.toNat : Int), .slice A n c] rfl ?_; intro g1 w1 ge lt hh bb; have av_en_p := en.av_new ge; have op := Nat.le_trans bel.size ge; replace en := en.below bb; replace bel := bel.trans (bb.mono bel.size); have hp := hh; clear hh lt ge bb; have R5 := cell_lit hp 27 _ rfl))
  try clear R5
  go_loopg [3] (n) (fun gk s3 wr => ∃ k : Nat, gk = n - k ∧ k ≤ n ∧ Hid (∀ (j : Nat) (x : Oh), j < k → hs[j]? = some x → x.n ≤ 1300) ∧ s3 = .int .i64 (k : Int) ∧ wr.heap[g1]? = some (.cells #[.int .i64 h.op, .int .i64 h.hops, .int .u32 h.xid, .int .i64 h.secs, .int .i64 h.flags, .int .u8 (h.c0.toNat : Int), .int .u8 (h.c1.toNat : Int), .int .u8 (h.c2.toNat : Int), .int .u8 (h.c3.toNat : Int), .int .u8 (h.y0.toNat : Int), .int .u8 (h.y1.toNat : Int), .int .u8 (h.y2.toNat : Int), .int .u8 (h.y3.toNat : Int), .int .u8 (h.s0.toNat : Int), .int .u8 (h.s1.toNat : Int), .int .u8 (h.s2.toNat : Int), .int .u8 (h.s3.toNat : Int), .int .u8 (h.r0.toNat : Int), .int .u8 (h.r1.toNat : Int), .int .u8 (h.r2.toNat : Int), .int .u8 (h.r3.toNat : Int), .int .u8 (h.m0.toNat : Int), .int .u8 (h.m1.toNat : Int), .int .u8 (h.m2.toNat : Int), .int .u8 (h.m3.toNat : Int), .int .u8 (h.m4.toNat : Int), .int .u8 (h.m5.toNat : Int), .slice A n c] 30 (0, 0)) ∧ Sle opE 2 wr (A) (n) (c) (hs) ∧ Below w.heap.size w wr)
  case atStart => exact ⟨0, Nat.sub_zero _, Nat.zero_le _, Lib.hid (fun j x h_ => absurd h_ (by omega)), rfl, hp, en, bel⟩
  case round =>
    clear hp en bel
    obtain ⟨k, HGK, hkn, HB2, rfl, hp, en, bel⟩ := hrel
    have HGK_ := Lib.hid HGK
    clear HGK
    by_cases hkk : k < n
    rotate_left
    · obtain rfl : n = k := by omega
      have HP : Hid (greatB n hs = false) := Lib.hid (great_no H20.out (fun j x hj hx => HB2.out j x (by have := HL.out; omega) hx))
      replace hkk : decide (n < n) = false := decide_eq_false (by omega)
      have R10 := cell_lit hp 27 _ rfl
      go_wp2_with fail
      clear R10
      go_ret
      exact ⟨by rw [HP.out]; rfl, bel⟩
    obtain ⟨x, hx_⟩ : ∃ x, hs[k]? = some x := ⟨_, List.getElem?_eq_getElem (by have := HL.out; omega)⟩
    have HX := Lib.hid hx_
    have k0 : (0 : Int) ≤ k := by omega
    have k1 : (k : Int) < n := by omega
    clear hx_
    obtain ⟨gE, oE, hEp⟩ := en.place (by omega)
    subst hEp
    by_cases h2 : 1300 < x.n
    · have h2i : (1300 : Int) < x.n := by omega
      have HP : Hid (greatB n hs = true) := Lib.hid (great_x HX.out h2)
      clear h2
      have R10 := cell_lit hp 27 _ rfl
      have R16 := cell_lit hp 27 _ rfl
      have R20 := Sle.cellk en HX.out 1 _ rfl
      go_wp2_with fail
      clear R10 R16 R20
      go_ret
      exact ⟨by rw [HP.out]; rfl, bel⟩
    have h2i : decide ((1300 : Int) < x.n) = false := decide_eq_false (by omega)
    have H2 : Hid (x.n ≤ 1300) := Lib.hid (by omega)
    clear h2
    have R10 := cell_lit hp 27 _ rfl
    have R16 := cell_lit hp 27 _ rfl
    have R20 := Sle.cellk en HX.out 1 _ rfl
    go_wp2_with fail
    clear R10 R16 R20
    go_roundg (n - (k + 1))
    case measure => have := HGK_.out; omega
    case rel => exact ⟨k + 1, rfl, by omega, Lib.hid (bl_next HB2.out HX.out H2.out), by go_num, hp, en, bel⟩
theorem atype {A : Option Addr} {n c : Nat} {hs : List Oh} (w : World) (en : Sle opE 2 w A n c hs) (hbd : Bd w hs [(53, [1])]) (hn : n ≤ 100000) (hb : ∀ x ∈ hs, x.n ≤ 100000) : Calls Try.prog 10 #[.agg #[.int .i64 1, .int .i64 0, .int .u32 7, .int .i64 0, .int .i64 0, .int .u8 0, .int .u8 0, .int .u8 0, .int .u8 0, .int .u8 0, .int .u8 0, .int .u8 0, .int .u8 0, .int .u8 0, .int .u8 0, .int .u8 0, .int .u8 0, .int .u8 0, .int .u8 0, .int .u8 0, .int .u8 0, .int .u8 2, .int .u8 0, .int .u8 0, .int .u8 0, .int .u8 0, .int .u8 0, .slice A n c]] w fun e w' => e = .returned (.int .i64 1) ∧ Below w.heap.size w w' := by
  refine Calls.mono (show Calls Try.prog 10 #[.agg #[.int .i64 1, .int .i64 0, .int .u32 7, .int .i64 0, .int .i64 0, .int .u8 0, .int .u8 0, .int .u8 0, .int .u8 0, .int .u8 0, .int .u8 0, .int .u8 0, .int .u8 0, .int .u8 0, .int .u8 0, .int .u8 0, .int .u8 0, .int .u8 0, .int .u8 0, .int .u8 0, .int .u8 0, .int .u8 2, .int .u8 0, .int .u8 0, .int .u8 0, .int .u8 0, .int .u8 0, .slice A n c]] w _ from dtype_any (h := hAw) w en hbd hn hb) ?_
  rintro e w' ⟨rfl, bel⟩
  exact ⟨rfl, bel⟩
theorem aput {A : Option Addr} {n c : Nat} {hs : List Oh} (w : World) (en : Sle opE 2 w A n c hs) (hbd : Bd w hs [(53, [1])]) (hn : n ≤ 100000) (hb : ∀ x ∈ hs, x.n ≤ 100000) : Calls Try.prog 9 #[.agg #[.int .i64 1, .int .i64 0, .int .u32 7, .int .i64 0, .int .i64 0, .int .u8 0, .int .u8 0, .int .u8 0, .int .u8 0, .int .u8 0, .int .u8 0, .int .u8 0, .int .u8 0, .int .u8 0, .int .u8 0, .int .u8 0, .int .u8 0, .int .u8 0, .int .u8 0, .int .u8 0, .int .u8 0, .int .u8 2, .int .u8 0, .int .u8 0, .int .u8 0, .int .u8 0, .int .u8 0, .slice A n c]] w fun e w' => ∃ A' c', e = .returned (.tuple #[.slice A' 300 c', .int .i64 0]) ∧ Sl w' A' 300 c' (dPut hAw [(53, [1])]).1 ∧ Below w.heap.size w w' := by
  refine Calls.mono (show Calls Try.prog 9 #[.agg #[.int .i64 1, .int .i64 0, .int .u32 7, .int .i64 0, .int .i64 0, .int .u8 0, .int .u8 0, .int .u8 0, .int .u8 0, .int .u8 0, .int .u8 0, .int .u8 0, .int .u8 0, .int .u8 0, .int .u8 0, .int .u8 0, .int .u8 0, .int .u8 0, .int .u8 0, .int .u8 0, .int .u8 0, .int .u8 2, .int .u8 0, .int .u8 0, .int .u8 0, .int .u8 0, .int .u8 0, .slice A n c]] w _ from dput_any (h := hAw) w en hbd hn hb aw_x0 aw_x1) ?_
  rintro e w' ⟨A', n', c', rfl, pb, bel⟩
  obtain rfl : n' = 300 := pb.1.symm.trans aw_put.2
  exact ⟨A', c', by rw [aw_put.1], pb, bel⟩
theorem aget {A : Option Addr} {c : Nat} (w : World) (pb : Sl w A 300 c (dPut hAw [(53, [1])]).1) : Calls Try.prog 8 #[.slice A 300 c] w fun e w' => ∃ A' n' c' hs, e = .returned (.tuple #[.agg #[.int .i64 1, .int .i64 0, .int .u32 7, .int .i64 0, .int .i64 0, .int .u8 0, .int .u8 0, .int .u8 0, .int .u8 0, .int .u8 0, .int .u8 0, .int .u8 0, .int .u8 0, .int .u8 0, .int .u8 0, .int .u8 0, .int .u8 0, .int .u8 0, .int .u8 0, .int .u8 0, .int .u8 0, .int .u8 2, .int .u8 0, .int .u8 0, .int .u8 0, .int .u8 0, .int .u8 0, .slice A' n' c'], .int .i64 0]) ∧ Sle opE 2 w' A' n' c' hs ∧ Bd w' hs [(53, [1])] ∧ n' ≤ 100000 ∧ (∀ x ∈ hs, x.n ≤ 100000) ∧ Below w.heap.size w w' := by
  refine (dget_any w pb (by decide)).mono ?_
  rintro e w' ⟨h2, A', n', c', hs, rfl, hh, ⟨em, hbe⟩, hn, hb, bel⟩
  obtain rfl : h2 = hAw := by rw [hh, aw_get]
  rw [aw_get] at hbe
  exact ⟨A', n', c', hs, by rw [aw_get]; rfl, em, hbe, hn, hb, bel⟩
theorem aown {A : Option Addr} {n c : Nat} {hs : List Oh} (w : World) (en : Sle opE 2 w A n c hs) (hn : n ≤ 100000) : Calls Try.prog 13 #[.agg #[.int .i64 1, .int .i64 0, .int .u32 7, .int .i64 0, .int .i64 0, .int .u8 0, .int .u8 0, .int .u8 0, .int .u8 0, .int .u8 0, .int .u8 0, .int .u8 0, .int .u8 0, .int .u8 0, .int .u8 0, .int .u8 0, .int .u8 0, .int .u8 0, .int .u8 0, .int .u8 0, .int .u8 0, .int .u8 2, .int .u8 0, .int .u8 0, .int .u8 0, .int .u8 0, .int .u8 0, .slice A n c]] w fun e w' => ∃ A' c', e = .returned (.agg #[.int .i64 1, .int .i64 0, .int .u32 7, .int .i64 0, .int .i64 0, .int .u8 0, .int .u8 0, .int .u8 0, .int .u8 0, .int .u8 0, .int .u8 0, .int .u8 0, .int .u8 0, .int .u8 0, .int .u8 0, .int .u8 0, .int .u8 0, .int .u8 0, .int .u8 0, .int .u8 0, .int .u8 0, .int .u8 2, .int .u8 0, .int .u8 0, .int .u8 0, .int .u8 0, .int .u8 0, .slice A' n c']) ∧ Sle opE 2 w' A' n c' hs ∧ Below w.heap.size w w' := own13_any (h := hAw) w en hn
theorem asame {A C : Option Addr} {n m c d : Nat} {hs hs2 : List Oh} {L : OptL} (w : World) (en : Sle opE 2 w A n c hs) (hbd : Bd w hs L) (em : Sle opE 2 w C m d hs2) (hbd2 : Bd w hs2 L) (hn : n ≤ 100000) : Calls Try.prog 12 #[.agg #[.int .i64 1, .int .i64 0, .int .u32 7, .int .i64 0, .int .i64 0, .int .u8 0, .int .u8 0, .int .u8 0, .int .u8 0, .int .u8 0, .int .u8 0, .int .u8 0, .int .u8 0, .int .u8 0, .int .u8 0, .int .u8 0, .int .u8 0, .int .u8 0, .int .u8 0, .int .u8 0, .int .u8 0, .int .u8 2, .int .u8 0, .int .u8 0, .int .u8 0, .int .u8 0, .int .u8 0, .slice A n c], .agg #[.int .i64 1, .int .i64 0, .int .u32 7, .int .i64 0, .int .i64 0, .int .u8 0, .int .u8 0, .int .u8 0, .int .u8 0, .int .u8 0, .int .u8 0, .int .u8 0, .int .u8 0, .int .u8 0, .int .u8 0, .int .u8 0, .int .u8 0, .int .u8 0, .int .u8 0, .int .u8 0, .int .u8 0, .int .u8 2, .int .u8 0, .int .u8 0, .int .u8 0, .int .u8 0, .int .u8 0, .slice C m d]] w fun e w' => e = .returned (.bool true) ∧ Below w.heap.size w w' := same13_any (h := hAw) w en hbd em hbd2 hn
set_option linter.unusedVariables false in
set_option linter.unusedSimpArgs false in
set_option maxRecDepth 100000 in
set_option maxHeartbeats 16000000 in
theorem awake13_any (w : World) : Calls Try.prog 7 #[] w fun e w' => e = .returned (.bool true) ∧ Below w.heap.size w w' := by
  have bel := Below.refl w.heap.size w
  go_enter Try.func7, Try.ntmps7
  go_wp2_with (first | ((with_reducible show wpList _ _ _ (⟨some 7, _, _, _, _, _⟩ :: _) _ _); refine wpList_lit_n rfl 34 5 1 _ rfl #[.int .u8 1] (.int .u8 0) Try.underlying34 (by kernel_rfl) 1 (by kernel_rfl) (by decide) (by kernel_rfl) ?_; intro g7 w1 ge lt hh bb; have hl : w1.heap[g7]? = some (.cells (([1] : List UInt8).map u8v).toArray 5 (0, 0)) := (by simpa [u8v, byteOf_val] using hh); have ebw := own_lit (B := w.heap.size) ([1]) hl ge 1 rfl (by simp [maxLen]); have eb := (own_sl ebw).1; have eblo := bel.size; clear hl; have ebge := ge; have lz_eb := bb.size; have ob7 := Nat.le_trans bel.size ge; replace bel := bel.trans (bb.mono bel.size); have hb7 := hh; clear hh lt ge bb) | ((with_reducible show wpList _ _ _ (⟨some 9, _, _, _, _, _⟩ :: _) _ _); refine wpList_lit_n rfl 28 38 1 _ rfl #[.int .i64 53, .slice (some ⟨g7, 0, none⟩) 1 1] (.agg #[.int .i64 0, .slice none 0 0]) Try.underlying28 (by kernel_rfl) 2 (by kernel_rfl) (by decide) (by kernel_rfl) ?_; intro g9 w2 ge lt hh bb; have d_b7_b9 := ne_new (hlt hb7) ge; have av_eb_b9 := eb.av_new ge; have of_eb_b9 := own_new ebw ge; have ob9 := Nat.le_trans bel.size ge; replace hb7 := blk_u hb7 bb; replace eb := eb.below bb; replace ebw := own_under ebw bb; replace lz_eb := Nat.le_trans lz_eb bb.size; replace bel := bel.trans (bb.mono bel.size); have hb9 := hh; clear hh lt ge bb; have en : Sle opE 2 w2 (some ⟨g9, 0, none⟩) (1) (1) ([⟨53, some ⟨g7, 0, none⟩, 1, 1⟩]) := sle_lit ([⟨53, some ⟨g7, 0, none⟩, 1, 1⟩]) (by decide) opE_len hb9 rfl (by simp [maxLen])) | ((with_reducible show wpList _ _ _ (⟨some 1, _, _, _, _, _⟩ :: _) _ _); refine wpList_new_a rfl 30 rfl #[.int .i64 0, .int .i64 0, .int .u32 0, .int .i64 0, .int .i64 0, .int .u8 0, .int .u8 0, .int .u8 0, .int .u8 0, .int .u8 0, .int .u8 0, .int .u8 0, .int .u8 0, .int .u8 0, .int .u8 0, .int .u8 0, .int .u8 0, .int .u8 0, .int .u8 0, .int .u8 0, .int .u8 0, .int .u8 0, .int .u8 0, .int .u8 0, .int .u8 0, .int .u8 0, .int .u8 0, .slice none 0 0] (by kernel_rfl) ?_; intro g1 w3 ge hh bb; have d_b7_m := ne_new (hlt hb7) ge; have d_b9_m := ne_new (hlt hb9) ge; have av_eb_m := eb.av_new ge; have of_eb_m := own_new ebw ge; have av_en_m := en.av_new ge; have om := Nat.le_trans bel.size ge; replace hb7 := blk_u hb7 bb; replace hb9 := blk_u hb9 bb; replace eb := eb.below bb; replace ebw := own_under ebw bb; replace en := en.below bb; replace lz_eb := Nat.le_trans lz_eb bb.size; replace bel := bel.trans (bb.mono bel.size); have hm := hh; clear hh ge bb) | ((with_reducible show wpList _ _ _ (⟨none, Op.store _ (.tmp 1) _, _, _, _, _⟩ :: _) _ _); refine wpList_store_blk rfl 30 (.tmp 1) (.tmp 10) rfl g1 rfl _ rfl _ 30 hm (by rfl) (by kernel_rfl) (by kernel_rfl) ?_; intro w4 hq gr; replace eb := eb.away av_eb_m gr; replace ebw := own_off ebw of_eb_m gr; replace en := en.away av_en_m gr; replace lz_eb := Nat.le_trans lz_eb gr.size; replace hb7 := blk_a hb7 gr d_b7_m; replace hb9 := blk_a hb9 gr d_b9_m; replace bel := below_grown bel gr om bel.size; clear hm; have hm := hq; clear hq gr; have R12 := Lib.hid (range_lit hm 0 28 [.int .i64 1, .int .i64 0, .int .u32 7, .int .i64 0, .int .i64 0, .int .u8 0, .int .u8 0, .int .u8 0, .int .u8 0, .int .u8 0, .int .u8 0, .int .u8 0, .int .u8 0, .int .u8 0, .int .u8 0, .int .u8 0, .int .u8 0, .int .u8 0, .int .u8 0, .int .u8 0, .int .u8 0, .int .u8 2, .int .u8 0, .int .u8 0, .int .u8 0, .int .u8 0, .int .u8 0, .slice (some ⟨g9, 0, none⟩) 1 1] rfl)) | ((with_reducible show wpList _ _ _ (⟨some 12, _, _, _, _, _⟩ :: _) _ _); refine wpList_load_rng 30 (.tmp 1) rfl (by kernel_rfl) _ _ rfl _ R12.out _ Try.underlying30 rfl (by kernel_rfl) ?_))
  try clear R12
  with_reducible refine (aput _ en (Bd.mk1 53 eb) (by decide) (hb1 (by decide))).mono ?_
  rintro e w5 ⟨A1, c1, rfl, pb, b5⟩
  replace hb7 := blk_u hb7 b5
  replace hb9 := blk_u hb9 b5
  replace hm := blk_u hm b5
  replace eb := eb.below b5
  replace ebw := own_under ebw b5
  replace en := en.below b5
  replace lz_eb := Nat.le_trans lz_eb b5.size
  replace bel := bel.trans (b5.mono bel.size)
  clear b5
  replace pb : Sl w5 (A1) (300) (c1) ((dPut hAw [(53, [1])]).1) := pb
  go_wp2_with fail
  with_reducible refine (aget _ pb).mono ?_
  rintro e w6 ⟨A2, n2, c2, hs2, rfl, em, hbe, hn2, hb2, b6⟩
  replace hb7 := blk_u hb7 b6
  replace hb9 := blk_u hb9 b6
  replace hm := blk_u hm b6
  replace eb := eb.below b6
  replace ebw := own_under ebw b6
  replace en := en.below b6
  replace pb := pb.below b6
  replace lz_eb := Nat.le_trans lz_eb b6.size
  replace bel := bel.trans (b6.mono bel.size)
  clear b6
  replace em : Sle opE 2 w6 (A2) (n2) (c2) (hs2) := em
  have HBE := Lib.hid hbe
  have HN2 := Lib.hid hn2
  clear hbe hn2 hb2
  have bd1 := Below.refl w6.heap.size w6
  go_wp2_with (first | ((with_reducible show wpList _ _ _ (⟨some 4, _, _, _, _, _⟩ :: _) _ _); refine wpList_new_a rfl 30 rfl #[.int .i64 0, .int .i64 0, .int .u32 0, .int .i64 0, .int .i64 0, .int .u8 0, .int .u8 0, .int .u8 0, .int .u8 0, .int .u8 0, .int .u8 0, .int .u8 0, .int .u8 0, .int .u8 0, .int .u8 0, .int .u8 0, .int .u8 0, .int .u8 0, .int .u8 0, .int .u8 0, .int .u8 0, .int .u8 0, .int .u8 0, .int .u8 0, .int .u8 0, .int .u8 0, .int .u8 0, .slice none 0 0] (by kernel_rfl) ?_; intro g4 w7 ge hh bb; have d_b7_nn := ne_new (hlt hb7) ge; have d_b9_nn := ne_new (hlt hb9) ge; have d_m_nn := ne_new (hlt hm) ge; have av_eb_nn := eb.av_new ge; have of_eb_nn := own_new ebw ge; have av_en_nn := en.av_new ge; have av_pb_nn := pb.av_new ge; have av_em_nn := em.av_new ge; have onn := Nat.le_trans bel.size ge; have o1_nn := Nat.le_trans bd1.size ge; replace hb7 := blk_u hb7 bb; replace hb9 := blk_u hb9 bb; replace hm := blk_u hm bb; replace eb := eb.below bb; replace ebw := own_under ebw bb; replace en := en.below bb; replace pb := pb.below bb; replace em := em.below bb; replace lz_eb := Nat.le_trans lz_eb bb.size; replace bd1 := bd1.trans (bb.mono bd1.size); replace bel := bel.trans (bb.mono bel.size); have hnn := hh; clear hh ge bb) | ((with_reducible show wpList _ _ _ (⟨none, Op.store _ (.tmp 4) _, _, _, _, _⟩ :: _) _ _); refine wpList_store_blk rfl 30 (.tmp 4) (.tmp 19) rfl g4 rfl _ rfl _ 30 hnn (by rfl) (by kernel_rfl) (by kernel_rfl) ?_; intro w8 hq gr; replace eb := eb.away av_eb_nn gr; replace ebw := own_off ebw of_eb_nn gr; replace en := en.away av_en_nn gr; replace pb := pb.away av_pb_nn gr; replace em := em.away av_em_nn gr; replace lz_eb := Nat.le_trans lz_eb gr.size; replace hb7 := blk_a hb7 gr d_b7_nn; replace hb9 := blk_a hb9 gr d_b9_nn; replace hm := blk_a hm gr d_m_nn; replace bd1 := below_grown bd1 gr o1_nn bd1.size; replace bel := below_grown bel gr onn bel.size; clear hnn; have hnn := hq; clear hq gr))
  replace bel := bel.drew
  replace hb7 : w8.drew.heap[g7]? = _ := hb7
  replace hb9 : w8.drew.heap[g9]? = _ := hb9
  replace hm : w8.drew.heap[g1]? = _ := hm
  replace hnn : w8.drew.heap[g4]? = _ := hnn
  replace eb := eb.drew
  replace ebw : w8.drew.ownsRow _ _ _ _ _ _ := ebw
  replace lz_eb : _ ≤ w8.drew.heap.size := lz_eb
  replace en := en.drew
  replace pb := pb.drew
  replace em := em.drew
  replace bd1 := bd1.drew
  refine wp_region_held_drew (S := fun W => W.heap[g4]? = some (.cells #[.int .i64 1, .int .i64 0, .int .u32 7, .int .i64 0, .int .i64 0, .int .u8 0, .int .u8 0, .int .u8 0, .int .u8 0, .int .u8 0, .int .u8 0, .int .u8 0, .int .u8 0, .int .u8 0, .int .u8 0, .int .u8 0, .int .u8 0, .int .u8 0, .int .u8 0, .int .u8 0, .int .u8 0, .int .u8 2, .int .u8 0, .int .u8 0, .int .u8 0, .int .u8 0, .int .u8 0, .slice A2 n2 c2] 30 (0, 0)) ∧ W.heap[g1]? = some (.cells #[.int .i64 1, .int .i64 0, .int .u32 7, .int .i64 0, .int .i64 0, .int .u8 0, .int .u8 0, .int .u8 0, .int .u8 0, .int .u8 0, .int .u8 0, .int .u8 0, .int .u8 0, .int .u8 0, .int .u8 0, .int .u8 0, .int .u8 0, .int .u8 0, .int .u8 0, .int .u8 0, .int .u8 0, .int .u8 2, .int .u8 0, .int .u8 0, .int .u8 0, .int .u8 0, .int .u8 0, .slice (some ⟨g9, 0, none⟩) 1 1] 30 (0, 0))) (by kernel_rfl) ⟨hnn, hm⟩ (fun hH => ?_)
  generalize w8.drew = w9 at bel hb7 hb9 hm hnn eb en pb em ebw bd1 lz_eb hH ⊢
  refine wpAnyH_take (i := 0) (v := ?_) rfl (by kernel_rfl) (by kernel_rfl) (by kernel_rfl) (fun _ _ _ h => h) (Or.inl ⟨by rfl, ?_⟩) hH ?_
  rotate_left
  · ((intro W hW; clear hW; go_simp) <;> with_reducible rfl)
  simp only [Act.put, List.getElem_toArray, List.getElem_cons_zero, List.setIfInBounds_toArray, List.set_cons_zero, List.set_cons_succ]
  refine wpAnyH_take (i := 1) (v := ?_) rfl (by kernel_rfl) (by kernel_rfl) (by kernel_rfl) (fun _ _ _ h => h) (Or.inl ⟨by rfl, ?_⟩) hH ?_
  rotate_left
  · ((intro W hW; clear hW; go_simp) <;> with_reducible rfl)
  simp only [Act.put, List.getElem_toArray, List.getElem_cons_zero, List.getElem_cons_succ, List.setIfInBounds_toArray, List.set_cons_zero, List.set_cons_succ]
  refine wpAnyH_take (i := 2) (v := ?_) rfl (by kernel_rfl) (by kernel_rfl) (by kernel_rfl) (fun _ _ _ h => h) (Or.inl ⟨by rfl, ?_⟩) hH ?_
  rotate_left
  · ((intro W hW; clear hW; go_simp) <;> with_reducible rfl)
  simp only [Act.put, List.getElem_toArray, List.getElem_cons_zero, List.getElem_cons_succ, List.setIfInBounds_toArray, List.set_cons_zero, List.set_cons_succ]
  refine wpAnyH_take (i := 3) (v := ?_) rfl (by kernel_rfl) (by kernel_rfl) (by kernel_rfl) (fun _ _ _ h => h) (Or.inl ⟨by rfl, ?_⟩) hH ?_
  rotate_left
  · ((intro W hW; clear hW; go_simp) <;> with_reducible rfl)
  simp only [Act.put, List.getElem_toArray, List.getElem_cons_zero, List.getElem_cons_succ, List.setIfInBounds_toArray, List.set_cons_zero, List.set_cons_succ]
  refine wpAnyH_take (i := 4) (v := ?_) rfl (by kernel_rfl) (by kernel_rfl) (by kernel_rfl) (fun _ _ _ h => h) (Or.inl ⟨by rfl, ?_⟩) hH ?_
  rotate_left
  · ((intro W hW; clear hW; go_simp) <;> with_reducible rfl)
  simp only [Act.put, List.getElem_toArray, List.getElem_cons_zero, List.getElem_cons_succ, List.setIfInBounds_toArray, List.set_cons_zero, List.set_cons_succ]
  refine wpAnyH_take (i := 5) (v := ?_) rfl (by kernel_rfl) (by kernel_rfl) (by kernel_rfl) (fun _ _ _ h => h) (Or.inl ⟨by rfl, ?_⟩) hH ?_
  rotate_left
  · ((intro W hW; clear hW; go_simp) <;> with_reducible rfl)
  simp only [Act.put, List.getElem_toArray, List.getElem_cons_zero, List.getElem_cons_succ, List.setIfInBounds_toArray, List.set_cons_zero, List.set_cons_succ]
  refine wpAnyH_take (i := 6) (v := ?_) rfl (by kernel_rfl) (by kernel_rfl) (by kernel_rfl) (fun _ _ _ h => h) (Or.inl ⟨by rfl, ?_⟩) hH ?_
  rotate_left
  · ((intro W hW; clear hW; go_simp) <;> with_reducible rfl)
  simp only [Act.put, List.getElem_toArray, List.getElem_cons_zero, List.getElem_cons_succ, List.setIfInBounds_toArray, List.set_cons_zero, List.set_cons_succ]
  refine wpAnyH_take (i := 7) (v := ?_) rfl (by kernel_rfl) (by kernel_rfl) (by kernel_rfl) (fun _ _ _ h => h) (Or.inl ⟨by rfl, ?_⟩) hH ?_
  rotate_left
  · ((intro W hW; clear hW; go_simp) <;> with_reducible rfl)
  simp only [Act.put, List.getElem_toArray, List.getElem_cons_zero, List.getElem_cons_succ, List.setIfInBounds_toArray, List.set_cons_zero, List.set_cons_succ]
  refine wpAnyH_take (i := 8) (v := ?_) rfl (by kernel_rfl) (by kernel_rfl) (by kernel_rfl) (fun _ _ _ h => h) (Or.inl ⟨by rfl, ?_⟩) hH ?_
  rotate_left
  · ((intro W hW; clear hW; go_simp) <;> with_reducible rfl)
  simp only [Act.put, List.getElem_toArray, List.getElem_cons_zero, List.getElem_cons_succ, List.setIfInBounds_toArray, List.set_cons_zero, List.set_cons_succ]
  refine wpAnyH_take (i := 9) (v := ?_) rfl (by kernel_rfl) (by kernel_rfl) (by kernel_rfl) (fun _ _ _ h => h) (Or.inl ⟨by rfl, ?_⟩) hH ?_
  rotate_left
  · ((intro W hW; clear hW; go_simp) <;> with_reducible rfl)
  simp only [Act.put, List.getElem_toArray, List.getElem_cons_zero, List.getElem_cons_succ, List.setIfInBounds_toArray, List.set_cons_zero, List.set_cons_succ]
  refine wpAnyH_take (i := 10) (v := ?_) rfl (by kernel_rfl) (by kernel_rfl) (by kernel_rfl) (fun _ _ _ h => h) (Or.inl ⟨by rfl, ?_⟩) hH ?_
  rotate_left
  · ((intro W hW; clear hW; go_simp) <;> with_reducible rfl)
  simp only [Act.put, List.getElem_toArray, List.getElem_cons_zero, List.getElem_cons_succ, List.setIfInBounds_toArray, List.set_cons_zero, List.set_cons_succ]
  refine wpAnyH_take (i := 11) (v := ?_) rfl (by kernel_rfl) (by kernel_rfl) (by kernel_rfl) (fun _ _ _ h => h) (Or.inl ⟨by rfl, ?_⟩) hH ?_
  rotate_left
  · ((intro W hW; clear hW; go_simp) <;> with_reducible rfl)
  simp only [Act.put, List.getElem_toArray, List.getElem_cons_zero, List.getElem_cons_succ, List.setIfInBounds_toArray, List.set_cons_zero, List.set_cons_succ]
  refine wpAnyH_take (i := 12) (v := .agg #[.int .i64 1, .int .i64 0, .int .u32 7, .int .i64 0, .int .i64 0, .int .u8 0, .int .u8 0, .int .u8 0, .int .u8 0, .int .u8 0, .int .u8 0, .int .u8 0, .int .u8 0, .int .u8 0, .int .u8 0, .int .u8 0, .int .u8 0, .int .u8 0, .int .u8 0, .int .u8 0, .int .u8 0, .int .u8 2, .int .u8 0, .int .u8 0, .int .u8 0, .int .u8 0, .int .u8 0, .slice A2 n2 c2]) rfl (by kernel_rfl) (by kernel_rfl) (by kernel_rfl) (fun _ _ _ h => h) (yieldsIf_load_part (by kernel_rfl) 30 _ rfl g4 0 28 rfl _ 30 (0, 0) (fun W hW => hW.1) _ rfl _ Try.underlying30 rfl (by kernel_rfl)) hH ?_
  simp only [Act.put, List.getElem_toArray, List.getElem_cons_zero, List.getElem_cons_succ, List.setIfInBounds_toArray, List.set_cons_zero, List.set_cons_succ]
  refine wpAnyH_take (i := 14) (v := .agg #[.int .i64 1, .int .i64 0, .int .u32 7, .int .i64 0, .int .i64 0, .int .u8 0, .int .u8 0, .int .u8 0, .int .u8 0, .int .u8 0, .int .u8 0, .int .u8 0, .int .u8 0, .int .u8 0, .int .u8 0, .int .u8 0, .int .u8 0, .int .u8 0, .int .u8 0, .int .u8 0, .int .u8 0, .int .u8 2, .int .u8 0, .int .u8 0, .int .u8 0, .int .u8 0, .int .u8 0, .slice (some ⟨g9, 0, none⟩) 1 1]) rfl (by kernel_rfl) (by kernel_rfl) (by kernel_rfl) (fun _ _ _ h => h) (yieldsIf_load_part (by kernel_rfl) 30 _ rfl g1 0 28 rfl _ 30 (0, 0) (fun W hW => hW.2) _ rfl _ Try.underlying30 rfl (by kernel_rfl)) hH ?_
  simp only [Act.put, List.getElem_toArray, List.getElem_cons_zero, List.getElem_cons_succ, List.setIfInBounds_toArray, List.set_cons_zero, List.set_cons_succ]
  refine wpAnyH_ready (rs := [13]) (by kernel_rfl) (by simp) ?_
  refine AllReadyH.cons (o := _) rfl (fun K hK => ?_) AllReadyH.nil
  simp only [List.getElem_toArray, List.getElem_cons_zero, List.getElem_cons_succ]
  go_simp
  with_reducible refine (aown _ em HN2.out).mono ?_
  rintro e w10 ⟨A5, c5, rfl, eo, b10⟩
  dsimp only
  replace hb7 := blk_u hb7 b10
  replace hb9 := blk_u hb9 b10
  replace hm := blk_u hm b10
  replace hnn := blk_u hnn b10
  replace eb := eb.below b10
  replace ebw := own_under ebw b10
  replace en := en.below b10
  replace pb := pb.below b10
  replace em := em.below b10
  replace lz_eb := Nat.le_trans lz_eb b10.size
  replace bd1 := bd1.trans (b10.mono bd1.size)
  replace bel := bel.trans (b10.mono bel.size)
  clear b10
  replace eo : Sle opE 2 w10 (A5) (n2) (c5) (hs2) := eo
  refine hK.out _ _ ⟨hnn, hm⟩ (fun hH11 => ?_)
  clear hK K
  refine wpAnyH_ready (rs := [15]) (by kernel_rfl) (by simp) ?_
  refine AllReadyH.cons (o := _) rfl (fun K hK => ?_) AllReadyH.nil
  simp only [List.getElem_toArray, List.getElem_cons_zero, List.getElem_cons_succ]
  go_simp
  with_reducible refine (aown _ en (by decide)).mono ?_
  rintro e w12 ⟨A6, c6, rfl, er_, b12⟩
  dsimp only
  replace hb7 := blk_u hb7 b12
  replace hb9 := blk_u hb9 b12
  replace hm := blk_u hm b12
  replace hnn := blk_u hnn b12
  replace eb := eb.below b12
  replace ebw := own_under ebw b12
  replace en := en.below b12
  replace pb := pb.below b12
  replace em := em.below b12
  replace eo := eo.below b12
  replace lz_eb := Nat.le_trans lz_eb b12.size
  replace bd1 := bd1.trans (b12.mono bd1.size)
  replace bel := bel.trans (b12.mono bel.size)
  clear b12
  replace er_ : Sle opE 2 w12 (A6) (1) (c6) ([⟨53, some ⟨g7, 0, none⟩, 1, 1⟩]) := er_
  refine hK.out _ _ ⟨hnn, hm⟩ (fun hH13 => ?_)
  clear hK K
  refine wpAnyH_ready (rs := [16]) (by kernel_rfl) (by simp) ?_
  refine AllReadyH.cons (o := _) rfl (fun K hK => ?_) AllReadyH.nil
  simp only [List.getElem_toArray, List.getElem_cons_zero, List.getElem_cons_succ]
  go_simp
  with_reducible refine (asame _ eo (HBE.out.below bd1) er_ (Bd.mk1 53 eb) HN2.out).mono ?_
  rintro e w14 ⟨rfl, b14⟩
  dsimp only
  replace hb7 := blk_u hb7 b14
  replace hb9 := blk_u hb9 b14
  replace hm := blk_u hm b14
  replace hnn := blk_u hnn b14
  replace eb := eb.below b14
  replace ebw := own_under ebw b14
  replace en := en.below b14
  replace pb := pb.below b14
  replace em := em.below b14
  replace eo := eo.below b14
  replace er_ := er_.below b14
  replace lz_eb := Nat.le_trans lz_eb b14.size
  replace bd1 := bd1.trans (b14.mono bd1.size)
  replace bel := bel.trans (b14.mono bel.size)
  clear b14
  refine hK.out _ _ ⟨hnn, hm⟩ (fun hH15 => ?_)
  clear hK K
  refine wpAnyH_take (i := 17) (v := ?_) rfl (by kernel_rfl) (by kernel_rfl) (by kernel_rfl) (fun _ _ _ h => h) (Or.inl ⟨by rfl, ?_⟩) hH15 ?_
  rotate_left
  · ((intro W hW; clear hW; go_simp) <;> with_reducible rfl)
  simp only [Act.put, List.getElem_toArray, List.getElem_cons_zero, List.getElem_cons_succ, List.setIfInBounds_toArray, List.set_cons_zero, List.set_cons_succ]
  refine wpAnyH_take (i := 18) (v := ?_) rfl (by kernel_rfl) (by kernel_rfl) (by kernel_rfl) (fun _ _ _ h => h) (Or.inl ⟨by rfl, ?_⟩) hH15 ?_
  rotate_left
  · ((intro W hW; clear hW; go_simp) <;> with_reducible rfl)
  simp only [Act.put, List.getElem_toArray, List.getElem_cons_zero, List.getElem_cons_succ, List.setIfInBounds_toArray, List.set_cons_zero, List.set_cons_succ]
  refine wpAnyH_take (i := 19) (v := .agg #[.int .i64 1, .int .i64 0, .int .u32 7, .int .i64 0, .int .i64 0, .int .u8 0, .int .u8 0, .int .u8 0, .int .u8 0, .int .u8 0, .int .u8 0, .int .u8 0, .int .u8 0, .int .u8 0, .int .u8 0, .int .u8 0, .int .u8 0, .int .u8 0, .int .u8 0, .int .u8 0, .int .u8 0, .int .u8 2, .int .u8 0, .int .u8 0, .int .u8 0, .int .u8 0, .int .u8 0, .slice (some ⟨g9, 0, none⟩) 1 1]) rfl (by kernel_rfl) (by kernel_rfl) (by kernel_rfl) (fun _ _ _ h => h) (yieldsIf_load_part (by kernel_rfl) 30 _ rfl g1 0 28 rfl _ 30 (0, 0) (fun W hW => hW.2) _ rfl _ Try.underlying30 rfl (by kernel_rfl)) hH15 ?_
  simp only [Act.put, List.getElem_toArray, List.getElem_cons_zero, List.getElem_cons_succ, List.setIfInBounds_toArray, List.set_cons_zero, List.set_cons_succ]
  refine wpAnyH_ready (rs := [20]) (by kernel_rfl) (by simp) ?_
  refine AllReadyH.cons (o := _) rfl (fun K hK => ?_) AllReadyH.nil
  simp only [List.getElem_toArray, List.getElem_cons_zero, List.getElem_cons_succ]
  go_simp
  with_reducible refine (atype _ en (Bd.mk1 53 eb) (by decide) (hb1 (by decide))).mono ?_
  rintro e w16 ⟨rfl, b16⟩
  dsimp only
  replace hb7 := blk_u hb7 b16
  replace hb9 := blk_u hb9 b16
  replace hm := blk_u hm b16
  replace hnn := blk_u hnn b16
  replace eb := eb.below b16
  replace ebw := own_under ebw b16
  replace en := en.below b16
  replace pb := pb.below b16
  replace em := em.below b16
  replace eo := eo.below b16
  replace er_ := er_.below b16
  replace lz_eb := Nat.le_trans lz_eb b16.size
  replace bd1 := bd1.trans (b16.mono bd1.size)
  replace bel := bel.trans (b16.mono bel.size)
  clear b16
  refine hK.out _ _ ⟨hnn, hm⟩ (fun hH17 => ?_)
  clear hK K
  refine wpAnyH_take (i := 21) (v := ?_) rfl (by kernel_rfl) (by kernel_rfl) (by kernel_rfl) (fun _ _ _ h => h) (Or.inl ⟨by rfl, ?_⟩) hH17 ?_
  rotate_left
  · ((intro W hW; clear hW; go_simp) <;> with_reducible rfl)
  simp only [Act.put, List.getElem_toArray, List.getElem_cons_zero, List.getElem_cons_succ, List.setIfInBounds_toArray, List.set_cons_zero, List.set_cons_succ]
  refine wpAnyH_take (i := 22) (v := ?_) rfl (by kernel_rfl) (by kernel_rfl) (by kernel_rfl) (fun _ _ _ h => h) (Or.inl ⟨by rfl, ?_⟩) hH17 ?_
  rotate_left
  · ((intro W hW; clear hW; go_simp) <;> with_reducible rfl)
  simp only [Act.put, List.getElem_toArray, List.getElem_cons_zero, List.getElem_cons_succ, List.setIfInBounds_toArray, List.set_cons_zero, List.set_cons_succ]
  refine wpAnyH_take (i := 23) (v := ?_) rfl (by kernel_rfl) (by kernel_rfl) (by kernel_rfl) (fun _ _ _ h => h) (Or.inl ⟨by rfl, ?_⟩) hH17 ?_
  rotate_left
  · ((intro W hW; clear hW; go_simp) <;> with_reducible rfl)
  simp only [Act.put, List.getElem_toArray, List.getElem_cons_zero, List.getElem_cons_succ, List.setIfInBounds_toArray, List.set_cons_zero]
  refine wpAnyH_done (by kernel_rfl) ?_ _
  go_wp2_with fail
  go_ret
  exact ⟨rfl, bel⟩
end Go.Proofs.Ytmljgpefbbifmaa
