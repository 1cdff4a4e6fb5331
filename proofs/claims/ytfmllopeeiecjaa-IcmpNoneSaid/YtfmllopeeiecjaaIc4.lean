/- Layer 9: icmp's isHost, answerable, About. -/
import Derived.Test.YtfmllopeeiecjaaIc1
import Derived.Test.YtfmllopeeiecjaaIcm
namespace Go.Proofs.Ytfmllopeeiecjaa
open Go.RowKit

set_option maxRecDepth 100000 in
set_option maxHeartbeats 16000000 in
theorem ishost_0 (o0 o1 o2 o3 : UInt8) (h0 : ([o0, o1, o2, o3] == [0, 0, 0, 0]) = true) (w : World) : Calls Try.prog 58 #[.agg #[.int .u8 (o0.toNat : Int), .int .u8 (o1.toNat : Int), .int .u8 (o2.toNat : Int), .int .u8 (o3.toNat : Int)]] w fun e w' => e = .returned (.bool false) ∧ Below w.heap.size w w' := by
  have q : ∀ W, (binOp .neq 24 (.agg #[.int .u8 (o0.toNat : Int), .int .u8 (o1.toNat : Int), .int .u8 (o2.toNat : Int), .int .u8 (o3.toNat : Int)]) (.agg #[.int .u8 0, .int .u8 0, .int .u8 0, .int .u8 0])).run Try.prog W = .ok (.bool false) W := fun W => by rw [neq4z, h0]; rfl
  have g := guard4
  clear h0
  have bel := Below.refl w.heap.size w
  go_enter Try.func58, Try.ntmps58
  go_wp2_with (first | ((with_reducible show wpList _ _ _ (⟨some 1, _, _, _, _, _⟩ :: _) _ _); refine wpList_box_n rfl 24 (.tmp 0) rfl #[.int .u8 (o0.toNat : Int), .int .u8 (o1.toNat : Int), .int .u8 (o2.toNat : Int), .int .u8 (o3.toNat : Int)] rfl ?_; intro g1 w1 ge lt hh bb; have oa := Nat.le_trans bel.size ge; replace bel := bel.trans (bb.mono bel.size); have ha := hh; clear hh lt ge bb; have R3 := Lib.hid (range_lit ha 0 4 [.int .u8 (o0.toNat : Int), .int .u8 (o1.toNat : Int), .int .u8 (o2.toNat : Int), .int .u8 (o3.toNat : Int)] rfl)) | ((with_reducible show wpList _ _ _ (⟨some 3, _, _, _, _, _⟩ :: _) _ _); refine wpList_load_rng 24 (.tmp 1) rfl (by kernel_rfl) _ _ rfl _ R3.out _ Try.underlying24 rfl (by kernel_rfl) ?_))
  try clear R3
  go_ret
  exact ⟨rfl, bel⟩
set_option maxRecDepth 100000 in
set_option maxHeartbeats 16000000 in
theorem ishost_1 (o0 o1 o2 o3 : UInt8) (h0 : ([o0, o1, o2, o3] == [0, 0, 0, 0]) = false) (h1 : o0.toNat ≤ 223) (w : World) : Calls Try.prog 58 #[.agg #[.int .u8 (o0.toNat : Int), .int .u8 (o1.toNat : Int), .int .u8 (o2.toNat : Int), .int .u8 (o3.toNat : Int)]] w fun e w' => e = .returned (.bool true) ∧ Below w.heap.size w w' := by
  have q : ∀ W, (binOp .neq 24 (.agg #[.int .u8 (o0.toNat : Int), .int .u8 (o1.toNat : Int), .int .u8 (o2.toNat : Int), .int .u8 (o3.toNat : Int)]) (.agg #[.int .u8 0, .int .u8 0, .int .u8 0, .int .u8 0])).run Try.prog W = .ok (.bool true) W := fun W => by rw [neq4z, h0]; rfl
  have g := guard4
  clear h0
  have t0 : (o0.toNat : Int) ≤ 223 := by omega
  clear h1
  have bel := Below.refl w.heap.size w
  go_enter Try.func58, Try.ntmps58
  go_wp2_with (first | ((with_reducible show wpList _ _ _ (⟨some 1, _, _, _, _, _⟩ :: _) _ _); refine wpList_box_n rfl 24 (.tmp 0) rfl #[.int .u8 (o0.toNat : Int), .int .u8 (o1.toNat : Int), .int .u8 (o2.toNat : Int), .int .u8 (o3.toNat : Int)] rfl ?_; intro g1 w1 ge lt hh bb; have oa := Nat.le_trans bel.size ge; replace bel := bel.trans (bb.mono bel.size); have ha := hh; clear hh lt ge bb; have R3 := Lib.hid (range_lit ha 0 4 [.int .u8 (o0.toNat : Int), .int .u8 (o1.toNat : Int), .int .u8 (o2.toNat : Int), .int .u8 (o3.toNat : Int)] rfl)) | ((with_reducible show wpList _ _ _ (⟨some 3, _, _, _, _, _⟩ :: _) _ _); refine wpList_load_rng 24 (.tmp 1) rfl (by kernel_rfl) _ _ rfl _ R3.out _ Try.underlying24 rfl (by kernel_rfl) ?_; have R8 := cell_lit ha 0 _ rfl))
  try clear R3
  try clear R8
  go_ret
  exact ⟨rfl, bel⟩
set_option maxRecDepth 100000 in
set_option maxHeartbeats 16000000 in
theorem ishost_2 (o0 o1 o2 o3 : UInt8) (h0 : ([o0, o1, o2, o3] == [0, 0, 0, 0]) = false) (h1 : 223 < o0.toNat) (w : World) : Calls Try.prog 58 #[.agg #[.int .u8 (o0.toNat : Int), .int .u8 (o1.toNat : Int), .int .u8 (o2.toNat : Int), .int .u8 (o3.toNat : Int)]] w fun e w' => e = .returned (.bool false) ∧ Below w.heap.size w w' := by
  have q : ∀ W, (binOp .neq 24 (.agg #[.int .u8 (o0.toNat : Int), .int .u8 (o1.toNat : Int), .int .u8 (o2.toNat : Int), .int .u8 (o3.toNat : Int)]) (.agg #[.int .u8 0, .int .u8 0, .int .u8 0, .int .u8 0])).run Try.prog W = .ok (.bool true) W := fun W => by rw [neq4z, h0]; rfl
  have g := guard4
  clear h0
  have t0 : decide ((o0.toNat : Int) ≤ 223) = false := decide_eq_false (by omega)
  clear h1
  have bel := Below.refl w.heap.size w
  go_enter Try.func58, Try.ntmps58
  go_wp2_with (first | ((with_reducible show wpList _ _ _ (⟨some 1, _, _, _, _, _⟩ :: _) _ _); refine wpList_box_n rfl 24 (.tmp 0) rfl #[.int .u8 (o0.toNat : Int), .int .u8 (o1.toNat : Int), .int .u8 (o2.toNat : Int), .int .u8 (o3.toNat : Int)] rfl ?_; intro g1 w1 ge lt hh bb; have oa := Nat.le_trans bel.size ge; replace bel := bel.trans (bb.mono bel.size); have ha := hh; clear hh lt ge bb; have R3 := Lib.hid (range_lit ha 0 4 [.int .u8 (o0.toNat : Int), .int .u8 (o1.toNat : Int), .int .u8 (o2.toNat : Int), .int .u8 (o3.toNat : Int)] rfl)) | ((with_reducible show wpList _ _ _ (⟨some 3, _, _, _, _, _⟩ :: _) _ _); refine wpList_load_rng 24 (.tmp 1) rfl (by kernel_rfl) _ _ rfl _ R3.out _ Try.underlying24 rfl (by kernel_rfl) ?_; have R8 := cell_lit ha 0 _ rfl))
  try clear R3
  try clear R8
  go_ret
  exact ⟨rfl, bel⟩
theorem ishost_any (o0 o1 o2 o3 : UInt8) (w : World) : Calls Try.prog 58 #[.agg #[.int .u8 (o0.toNat : Int), .int .u8 (o1.toNat : Int), .int .u8 (o2.toNat : Int), .int .u8 (o3.toNat : Int)]] w fun e w' => e = .returned (.bool (hostOk o0 o1 o2 o3)) ∧ Below w.heap.size w w' := by
  unfold hostOk
  rcases (by decide : ∀ b : Bool, b = true ∨ b = false) ([o0, o1, o2, o3] == [0, 0, 0, 0]) with h0 | h0
  · rw [h0]
    exact ishost_0 o0 o1 o2 o3 h0 w
  · rw [h0]
    by_cases h1 : o0.toNat ≤ 223
    · rw [decide_eq_true h1]
      exact ishost_1 o0 o1 o2 o3 h0 h1 w
    · rw [decide_eq_false h1]
      exact ishost_2 o0 o1 o2 o3 h0 (by omega) w
set_option linter.unusedVariables false in
set_option maxRecDepth 100000 in
set_option maxHeartbeats 16000000 in
theorem answer_0 (tos id fl pt ttl pr : Int) (a0 a1 a2 a3 a4 a5 a6 a7 : UInt8) (So Sb : Option Addr) (no co nb cb : Nat) (w : World) (h0 : 0 < pt) : Calls Try.prog 33 #[.agg #[.int .i64 tos, .int .i64 id, .int .i64 fl, .int .i64 pt, .int .i64 ttl, .int .i64 pr, .int .u8 (a0.toNat : Int), .int .u8 (a1.toNat : Int), .int .u8 (a2.toNat : Int), .int .u8 (a3.toNat : Int), .int .u8 (a4.toNat : Int), .int .u8 (a5.toNat : Int), .int .u8 (a6.toNat : Int), .int .u8 (a7.toNat : Int), .slice So no co, .slice Sb nb cb]] w fun e w' => e = .returned (.bool false) ∧ Below w.heap.size w w' := by
  have t0 : (0 : Int) < pt := h0
  clear h0
  have bel := Below.refl w.heap.size w
  go_enter Try.func33, Try.ntmps33
  go_wp2_with (first | ((with_reducible show wpList _ _ _ (⟨some 1, _, _, _, _, _⟩ :: _) _ _); refine wpList_box_n rfl 27 (.tmp 0) rfl #[.int .i64 tos, .int .i64 id, .int .i64 fl, .int .i64 pt, .int .i64 ttl, .int .i64 pr, .int .u8 (a0.toNat : Int), .int .u8 (a1.toNat : Int), .int .u8 (a2.toNat : Int), .int .u8 (a3.toNat : Int), .int .u8 (a4.toNat : Int), .int .u8 (a5.toNat : Int), .int .u8 (a6.toNat : Int), .int .u8 (a7.toNat : Int), .slice So no co, .slice Sb nb cb] rfl ?_; intro g1 w1 ge lt hh bb; have op := Nat.le_trans bel.size ge; replace bel := bel.trans (bb.mono bel.size); have hp := hh; clear hh lt ge bb; have R4 := cell_lit hp 3 _ rfl))
  try clear R4
  go_ret
  exact ⟨rfl, bel⟩
set_option linter.unusedVariables false in
set_option maxRecDepth 100000 in
set_option maxHeartbeats 16000000 in
theorem answer_1 (tos id fl pt ttl pr : Int) (a0 a1 a2 a3 a4 a5 a6 a7 : UInt8) (So Sb : Option Addr) (no co nb cb : Nat) (w : World) (h0 : ¬ 0 < pt) (h1 : hostOk a0 a1 a2 a3 = false) : Calls Try.prog 33 #[.agg #[.int .i64 tos, .int .i64 id, .int .i64 fl, .int .i64 pt, .int .i64 ttl, .int .i64 pr, .int .u8 (a0.toNat : Int), .int .u8 (a1.toNat : Int), .int .u8 (a2.toNat : Int), .int .u8 (a3.toNat : Int), .int .u8 (a4.toNat : Int), .int .u8 (a5.toNat : Int), .int .u8 (a6.toNat : Int), .int .u8 (a7.toNat : Int), .slice So no co, .slice Sb nb cb]] w fun e w' => e = .returned (.bool false) ∧ Below w.heap.size w w' := by
  have t0 : decide ((0 : Int) < pt) = false := decide_eq_false h0
  have H1 := Lib.hid h1
  clear h0 h1
  have bel := Below.refl w.heap.size w
  go_enter Try.func33, Try.ntmps33
  go_wp2_with (first | ((with_reducible show wpList _ _ _ (⟨some 1, _, _, _, _, _⟩ :: _) _ _); refine wpList_box_n rfl 27 (.tmp 0) rfl #[.int .i64 tos, .int .i64 id, .int .i64 fl, .int .i64 pt, .int .i64 ttl, .int .i64 pr, .int .u8 (a0.toNat : Int), .int .u8 (a1.toNat : Int), .int .u8 (a2.toNat : Int), .int .u8 (a3.toNat : Int), .int .u8 (a4.toNat : Int), .int .u8 (a5.toNat : Int), .int .u8 (a6.toNat : Int), .int .u8 (a7.toNat : Int), .slice So no co, .slice Sb nb cb] rfl ?_; intro g1 w1 ge lt hh bb; have op := Nat.le_trans bel.size ge; replace bel := bel.trans (bb.mono bel.size); have hp := hh; clear hh lt ge bb; have R4 := cell_lit hp 3 _ rfl; have R8 := Lib.hid (range_lit hp 6 4 [.int .u8 (a0.toNat : Int), .int .u8 (a1.toNat : Int), .int .u8 (a2.toNat : Int), .int .u8 (a3.toNat : Int)] rfl)) | ((with_reducible show wpList _ _ _ (⟨some 8, _, _, _, _, _⟩ :: _) _ _); refine wpList_load_rng 24 (.tmp 7) rfl (by kernel_rfl) _ _ rfl _ R8.out _ Try.underlying24 rfl (by kernel_rfl) ?_))
  try clear R4
  try clear R8
  with_reducible refine (ishost_any _ _ _ _ _).mono ?_
  rintro e w2 ⟨rfl, b2⟩
  replace hp := blk_u hp b2
  replace bel := bel.trans (b2.mono bel.size)
  clear b2
  rw [H1.out]
  go_wp2_with fail
  go_ret
  exact ⟨rfl, bel⟩
set_option linter.unusedVariables false in
set_option maxRecDepth 100000 in
set_option maxHeartbeats 16000000 in
theorem answer_2 (tos id fl pt ttl pr : Int) (a0 a1 a2 a3 a4 a5 a6 a7 : UInt8) (So Sb : Option Addr) (no co nb cb : Nat) (w : World) (h0 : ¬ 0 < pt) (h1 : hostOk a0 a1 a2 a3 = true) (h2 : hostOk a4 a5 a6 a7 = false) : Calls Try.prog 33 #[.agg #[.int .i64 tos, .int .i64 id, .int .i64 fl, .int .i64 pt, .int .i64 ttl, .int .i64 pr, .int .u8 (a0.toNat : Int), .int .u8 (a1.toNat : Int), .int .u8 (a2.toNat : Int), .int .u8 (a3.toNat : Int), .int .u8 (a4.toNat : Int), .int .u8 (a5.toNat : Int), .int .u8 (a6.toNat : Int), .int .u8 (a7.toNat : Int), .slice So no co, .slice Sb nb cb]] w fun e w' => e = .returned (.bool false) ∧ Below w.heap.size w w' := by
  have t0 : decide ((0 : Int) < pt) = false := decide_eq_false h0
  have H1 := Lib.hid h1
  have H2 := Lib.hid h2
  clear h0 h1 h2
  have bel := Below.refl w.heap.size w
  go_enter Try.func33, Try.ntmps33
  go_wp2_with (first | ((with_reducible show wpList _ _ _ (⟨some 1, _, _, _, _, _⟩ :: _) _ _); refine wpList_box_n rfl 27 (.tmp 0) rfl #[.int .i64 tos, .int .i64 id, .int .i64 fl, .int .i64 pt, .int .i64 ttl, .int .i64 pr, .int .u8 (a0.toNat : Int), .int .u8 (a1.toNat : Int), .int .u8 (a2.toNat : Int), .int .u8 (a3.toNat : Int), .int .u8 (a4.toNat : Int), .int .u8 (a5.toNat : Int), .int .u8 (a6.toNat : Int), .int .u8 (a7.toNat : Int), .slice So no co, .slice Sb nb cb] rfl ?_; intro g1 w1 ge lt hh bb; have op := Nat.le_trans bel.size ge; replace bel := bel.trans (bb.mono bel.size); have hp := hh; clear hh lt ge bb; have R4 := cell_lit hp 3 _ rfl; have R8 := Lib.hid (range_lit hp 6 4 [.int .u8 (a0.toNat : Int), .int .u8 (a1.toNat : Int), .int .u8 (a2.toNat : Int), .int .u8 (a3.toNat : Int)] rfl)) | ((with_reducible show wpList _ _ _ (⟨some 8, _, _, _, _, _⟩ :: _) _ _); refine wpList_load_rng 24 (.tmp 7) rfl (by kernel_rfl) _ _ rfl _ R8.out _ Try.underlying24 rfl (by kernel_rfl) ?_))
  try clear R4
  try clear R8
  with_reducible refine (ishost_any _ _ _ _ _).mono ?_
  rintro e w2 ⟨rfl, b2⟩
  replace hp := blk_u hp b2
  replace bel := bel.trans (b2.mono bel.size)
  clear b2
  rw [H1.out]
  have R14 := Lib.hid (range_lit hp 10 4 [.int .u8 (a4.toNat : Int), .int .u8 (a5.toNat : Int), .int .u8 (a6.toNat : Int), .int .u8 (a7.toNat : Int)] rfl)
  go_wp2_with (first | ((with_reducible show wpList _ _ _ (⟨some 14, _, _, _, _, _⟩ :: _) _ _); refine wpList_load_rng 24 (.tmp 13) rfl (by kernel_rfl) _ _ rfl _ R14.out _ Try.underlying24 rfl (by kernel_rfl) ?_))
  try clear R14
  with_reducible refine (ishost_any _ _ _ _ _).mono ?_
  rintro e w3 ⟨rfl, b3⟩
  replace hp := blk_u hp b3
  replace bel := bel.trans (b3.mono bel.size)
  clear b3
  rw [H2.out]
  go_wp2_with fail
  go_ret
  exact ⟨rfl, bel⟩
set_option linter.unusedVariables false in
set_option maxRecDepth 100000 in
set_option maxHeartbeats 16000000 in
theorem answer_3 (tos id fl pt ttl pr : Int) (a0 a1 a2 a3 a4 a5 a6 a7 : UInt8) (So Sb : Option Addr) (no co nb cb : Nat) (w : World) (h0 : ¬ 0 < pt) (h1 : hostOk a0 a1 a2 a3 = true) (h2 : hostOk a4 a5 a6 a7 = true) (h3 : pr ≠ 1) : Calls Try.prog 33 #[.agg #[.int .i64 tos, .int .i64 id, .int .i64 fl, .int .i64 pt, .int .i64 ttl, .int .i64 pr, .int .u8 (a0.toNat : Int), .int .u8 (a1.toNat : Int), .int .u8 (a2.toNat : Int), .int .u8 (a3.toNat : Int), .int .u8 (a4.toNat : Int), .int .u8 (a5.toNat : Int), .int .u8 (a6.toNat : Int), .int .u8 (a7.toNat : Int), .slice So no co, .slice Sb nb cb]] w fun e w' => e = .returned (.bool true) ∧ Below w.heap.size w w' := by
  have t0 : decide ((0 : Int) < pt) = false := decide_eq_false h0
  have H1 := Lib.hid h1
  have H2 := Lib.hid h2
  have t1 : (pr == 1) = false := by simpa using h3
  have t2 : (pr != 1) = true := by simpa using h3
  clear h0 h1 h2 h3
  have bel := Below.refl w.heap.size w
  go_enter Try.func33, Try.ntmps33
  go_wp2_with (first | ((with_reducible show wpList _ _ _ (⟨some 1, _, _, _, _, _⟩ :: _) _ _); refine wpList_box_n rfl 27 (.tmp 0) rfl #[.int .i64 tos, .int .i64 id, .int .i64 fl, .int .i64 pt, .int .i64 ttl, .int .i64 pr, .int .u8 (a0.toNat : Int), .int .u8 (a1.toNat : Int), .int .u8 (a2.toNat : Int), .int .u8 (a3.toNat : Int), .int .u8 (a4.toNat : Int), .int .u8 (a5.toNat : Int), .int .u8 (a6.toNat : Int), .int .u8 (a7.toNat : Int), .slice So no co, .slice Sb nb cb] rfl ?_; intro g1 w1 ge lt hh bb; have op := Nat.le_trans bel.size ge; replace bel := bel.trans (bb.mono bel.size); have hp := hh; clear hh lt ge bb; have R4 := cell_lit hp 3 _ rfl; have R8 := Lib.hid (range_lit hp 6 4 [.int .u8 (a0.toNat : Int), .int .u8 (a1.toNat : Int), .int .u8 (a2.toNat : Int), .int .u8 (a3.toNat : Int)] rfl)) | ((with_reducible show wpList _ _ _ (⟨some 8, _, _, _, _, _⟩ :: _) _ _); refine wpList_load_rng 24 (.tmp 7) rfl (by kernel_rfl) _ _ rfl _ R8.out _ Try.underlying24 rfl (by kernel_rfl) ?_))
  try clear R4
  try clear R8
  with_reducible refine (ishost_any _ _ _ _ _).mono ?_
  rintro e w2 ⟨rfl, b2⟩
  replace hp := blk_u hp b2
  replace bel := bel.trans (b2.mono bel.size)
  clear b2
  rw [H1.out]
  have R14 := Lib.hid (range_lit hp 10 4 [.int .u8 (a4.toNat : Int), .int .u8 (a5.toNat : Int), .int .u8 (a6.toNat : Int), .int .u8 (a7.toNat : Int)] rfl)
  go_wp2_with (first | ((with_reducible show wpList _ _ _ (⟨some 14, _, _, _, _, _⟩ :: _) _ _); refine wpList_load_rng 24 (.tmp 13) rfl (by kernel_rfl) _ _ rfl _ R14.out _ Try.underlying24 rfl (by kernel_rfl) ?_))
  try clear R14
  with_reducible refine (ishost_any _ _ _ _ _).mono ?_
  rintro e w3 ⟨rfl, b3⟩
  replace hp := blk_u hp b3
  replace bel := bel.trans (b3.mono bel.size)
  clear b3
  rw [H2.out]
  have R19 := cell_lit hp 5 _ rfl
  go_wp2_with fail
  clear R19
  go_ret
  exact ⟨rfl, bel⟩
set_option linter.unusedVariables false in
set_option maxRecDepth 100000 in
set_option maxHeartbeats 16000000 in
theorem answer_4 (tos id fl pt ttl : Int) (a0 a1 a2 a3 a4 a5 a6 a7 : UInt8) (So Sb : Option Addr) (no co nb cb : Nat) (w : World) (h0 : ¬ 0 < pt) (h1 : hostOk a0 a1 a2 a3 = true) (h2 : hostOk a4 a5 a6 a7 = true) (h3 : nb < 8) : Calls Try.prog 33 #[.agg #[.int .i64 tos, .int .i64 id, .int .i64 fl, .int .i64 pt, .int .i64 ttl, .int .i64 1, .int .u8 (a0.toNat : Int), .int .u8 (a1.toNat : Int), .int .u8 (a2.toNat : Int), .int .u8 (a3.toNat : Int), .int .u8 (a4.toNat : Int), .int .u8 (a5.toNat : Int), .int .u8 (a6.toNat : Int), .int .u8 (a7.toNat : Int), .slice So no co, .slice Sb nb cb]] w fun e w' => e = .returned (.bool false) ∧ Below w.heap.size w w' := by
  have t0 : decide ((0 : Int) < pt) = false := decide_eq_false h0
  have H1 := Lib.hid h1
  have H2 := Lib.hid h2
  have t1 : decide ((8 : Int) ≤ nb) = false := decide_eq_false (by omega)
  clear h0 h1 h2 h3
  have bel := Below.refl w.heap.size w
  go_enter Try.func33, Try.ntmps33
  go_wp2_with (first | ((with_reducible show wpList _ _ _ (⟨some 1, _, _, _, _, _⟩ :: _) _ _); refine wpList_box_n rfl 27 (.tmp 0) rfl #[.int .i64 tos, .int .i64 id, .int .i64 fl, .int .i64 pt, .int .i64 ttl, .int .i64 1, .int .u8 (a0.toNat : Int), .int .u8 (a1.toNat : Int), .int .u8 (a2.toNat : Int), .int .u8 (a3.toNat : Int), .int .u8 (a4.toNat : Int), .int .u8 (a5.toNat : Int), .int .u8 (a6.toNat : Int), .int .u8 (a7.toNat : Int), .slice So no co, .slice Sb nb cb] rfl ?_; intro g1 w1 ge lt hh bb; have op := Nat.le_trans bel.size ge; replace bel := bel.trans (bb.mono bel.size); have hp := hh; clear hh lt ge bb; have R4 := cell_lit hp 3 _ rfl; have R8 := Lib.hid (range_lit hp 6 4 [.int .u8 (a0.toNat : Int), .int .u8 (a1.toNat : Int), .int .u8 (a2.toNat : Int), .int .u8 (a3.toNat : Int)] rfl)) | ((with_reducible show wpList _ _ _ (⟨some 8, _, _, _, _, _⟩ :: _) _ _); refine wpList_load_rng 24 (.tmp 7) rfl (by kernel_rfl) _ _ rfl _ R8.out _ Try.underlying24 rfl (by kernel_rfl) ?_))
  try clear R4
  try clear R8
  with_reducible refine (ishost_any _ _ _ _ _).mono ?_
  rintro e w2 ⟨rfl, b2⟩
  replace hp := blk_u hp b2
  replace bel := bel.trans (b2.mono bel.size)
  clear b2
  rw [H1.out]
  have R14 := Lib.hid (range_lit hp 10 4 [.int .u8 (a4.toNat : Int), .int .u8 (a5.toNat : Int), .int .u8 (a6.toNat : Int), .int .u8 (a7.toNat : Int)] rfl)
  go_wp2_with (first | ((with_reducible show wpList _ _ _ (⟨some 14, _, _, _, _, _⟩ :: _) _ _); refine wpList_load_rng 24 (.tmp 13) rfl (by kernel_rfl) _ _ rfl _ R14.out _ Try.underlying24 rfl (by kernel_rfl) ?_))
  try clear R14
  with_reducible refine (ishost_any _ _ _ _ _).mono ?_
  rintro e w3 ⟨rfl, b3⟩
  replace hp := blk_u hp b3
  replace bel := bel.trans (b3.mono bel.size)
  clear b3
  rw [H2.out]
  have R19 := cell_lit hp 5 _ rfl
  have R23 := cell_lit hp 15 _ rfl
  go_wp2_with fail
  clear R19 R23
  go_ret
  exact ⟨rfl, bel⟩
set_option linter.unusedVariables false in
set_option maxRecDepth 100000 in
set_option maxHeartbeats 16000000 in
theorem answer_5 (tos id fl pt ttl : Int) (a0 a1 a2 a3 a4 a5 a6 a7 : UInt8) (So : Option Addr) (gB oB : Nat) (no co nb cb : Nat) (w : World) (x : UInt8) (r : List UInt8) (hb : Sl w (some ⟨gB, oB, none⟩) nb cb (x :: r)) (h0 : ¬ 0 < pt) (h1 : hostOk a0 a1 a2 a3 = true) (h2 : hostOk a4 a5 a6 a7 = true) (h3 : 8 ≤ nb) : Calls Try.prog 33 #[.agg #[.int .i64 tos, .int .i64 id, .int .i64 fl, .int .i64 pt, .int .i64 ttl, .int .i64 1, .int .u8 (a0.toNat : Int), .int .u8 (a1.toNat : Int), .int .u8 (a2.toNat : Int), .int .u8 (a3.toNat : Int), .int .u8 (a4.toNat : Int), .int .u8 (a5.toNat : Int), .int .u8 (a6.toNat : Int), .int .u8 (a7.toNat : Int), .slice So no co, .slice (some ⟨gB, oB, none⟩) nb cb]] w fun e w' => e = .returned (.bool (echoT (x.toNat : Int))) ∧ Below w.heap.size w w' := by
  have t0 : decide ((0 : Int) < pt) = false := decide_eq_false h0
  have H1 := Lib.hid h1
  have H2 := Lib.hid h2
  have t1 : (8 : Int) ≤ nb := by omega
  have m0 : 0 < nb := by omega
  have v0 : (0 : Int) ≤ x.toNat := by omega
  have v1 : (x.toNat : Int) < 256 := by have := x.toNat_lt; omega
  clear h0 h1 h2 h3
  have bel := Below.refl w.heap.size w
  go_enter Try.func33, Try.ntmps33
  go_wp2_with (first | ((with_reducible show wpList _ _ _ (⟨some 1, _, _, _, _, _⟩ :: _) _ _); refine wpList_box_n rfl 27 (.tmp 0) rfl #[.int .i64 tos, .int .i64 id, .int .i64 fl, .int .i64 pt, .int .i64 ttl, .int .i64 1, .int .u8 (a0.toNat : Int), .int .u8 (a1.toNat : Int), .int .u8 (a2.toNat : Int), .int .u8 (a3.toNat : Int), .int .u8 (a4.toNat : Int), .int .u8 (a5.toNat : Int), .int .u8 (a6.toNat : Int), .int .u8 (a7.toNat : Int), .slice So no co, .slice (some ⟨gB, oB, none⟩) nb cb] rfl ?_; intro g1 w1 ge lt hh bb; have av_hb_p := hb.av_new ge; have op := Nat.le_trans bel.size ge; replace hb := hb.below bb; replace bel := bel.trans (bb.mono bel.size); have hp := hh; clear hh lt ge bb; have R4 := cell_lit hp 3 _ rfl; have R8 := Lib.hid (range_lit hp 6 4 [.int .u8 (a0.toNat : Int), .int .u8 (a1.toNat : Int), .int .u8 (a2.toNat : Int), .int .u8 (a3.toNat : Int)] rfl)) | ((with_reducible show wpList _ _ _ (⟨some 8, _, _, _, _, _⟩ :: _) _ _); refine wpList_load_rng 24 (.tmp 7) rfl (by kernel_rfl) _ _ rfl _ R8.out _ Try.underlying24 rfl (by kernel_rfl) ?_))
  try clear R4
  try clear R8
  with_reducible refine (ishost_any _ _ _ _ _).mono ?_
  rintro e w2 ⟨rfl, b2⟩
  replace hp := blk_u hp b2
  replace hb := hb.below b2
  replace bel := bel.trans (b2.mono bel.size)
  clear b2
  rw [H1.out]
  have R14 := Lib.hid (range_lit hp 10 4 [.int .u8 (a4.toNat : Int), .int .u8 (a5.toNat : Int), .int .u8 (a6.toNat : Int), .int .u8 (a7.toNat : Int)] rfl)
  go_wp2_with (first | ((with_reducible show wpList _ _ _ (⟨some 14, _, _, _, _, _⟩ :: _) _ _); refine wpList_load_rng 24 (.tmp 13) rfl (by kernel_rfl) _ _ rfl _ R14.out _ Try.underlying24 rfl (by kernel_rfl) ?_))
  try clear R14
  with_reducible refine (ishost_any _ _ _ _ _).mono ?_
  rintro e w3 ⟨rfl, b3⟩
  replace hp := blk_u hp b3
  replace hb := hb.below b3
  replace bel := bel.trans (b3.mono bel.size)
  clear b3
  rw [H2.out]
  have R19 := cell_lit hp 5 _ rfl
  have R23 := cell_lit hp 15 _ rfl
  have R28 := cell_lit hp 15 _ rfl
  have R30 := (by have h_ := sl_at hb (j := 0) rfl; rw [Nat.add_zero] at h_; exact h_)
  go_wp2_with fail
  clear R19 R23 R28 R30
  with_reducible refine (isecho_any _ _).mono ?_
  rintro e _ ⟨rfl, rfl⟩
  go_wp2_with fail
  go_ret
  exact ⟨rfl, bel⟩
theorem answer_any (tos id fl pt ttl pr : Int) (a0 a1 a2 a3 a4 a5 a6 a7 : UInt8) (So Sb : Option Addr) (no co nb cb : Nat) (lb : List UInt8) (w : World) (hb : Sl w Sb nb cb lb) : Calls Try.prog 33 #[.agg #[.int .i64 tos, .int .i64 id, .int .i64 fl, .int .i64 pt, .int .i64 ttl, .int .i64 pr, .int .u8 (a0.toNat : Int), .int .u8 (a1.toNat : Int), .int .u8 (a2.toNat : Int), .int .u8 (a3.toNat : Int), .int .u8 (a4.toNat : Int), .int .u8 (a5.toNat : Int), .int .u8 (a6.toNat : Int), .int .u8 (a7.toNat : Int), .slice So no co, .slice Sb nb cb]] w fun e w' => e = .returned (.bool (icMay pt pr a0 a1 a2 a3 a4 a5 a6 a7 lb)) ∧ Below w.heap.size w w' := by
  unfold icMay
  by_cases h0 : 0 < pt
  · rw [decide_eq_true h0]
    exact answer_0 tos id fl pt ttl pr a0 a1 a2 a3 a4 a5 a6 a7 So Sb no co nb cb w h0
  rw [decide_eq_false h0, Bool.not_false, Bool.true_and]
  rcases (by decide : ∀ b : Bool, b = true ∨ b = false) (hostOk a0 a1 a2 a3) with h1 | h1
  · rw [h1, Bool.true_and]
    rcases (by decide : ∀ b : Bool, b = true ∨ b = false) (hostOk a4 a5 a6 a7) with h2 | h2
    · rw [h2, Bool.true_and]
      by_cases h3 : pr = 1
      · subst h3
        rw [decide_eq_true rfl, Bool.not_true, Bool.false_or]
        by_cases h4 : 8 ≤ nb
        · rw [decide_eq_true (by rw [hb.1]; exact h4), Bool.true_and]
          obtain ⟨gB, oB, rfl⟩ := sl_some hb (by omega)
          rcases lb with _ | ⟨x, r⟩
          · have := hb.1
            simp at this
            omega
          exact answer_5 tos id fl pt ttl a0 a1 a2 a3 a4 a5 a6 a7 So gB oB no co nb cb w x r hb h0 h1 h2 h4
        · rw [decide_eq_false (by rw [hb.1]; exact h4), Bool.false_and]
          exact answer_4 tos id fl pt ttl a0 a1 a2 a3 a4 a5 a6 a7 So Sb no co nb cb w h0 h1 h2 (by omega)
      · rw [decide_eq_false h3]
        exact answer_3 tos id fl pt ttl pr a0 a1 a2 a3 a4 a5 a6 a7 So Sb no co nb cb w h0 h1 h2 h3
    · rw [h2, Bool.false_and]
      exact answer_2 tos id fl pt ttl pr a0 a1 a2 a3 a4 a5 a6 a7 So Sb no co nb cb w h0 h1 h2
  · rw [h1, Bool.false_and]
    exact answer_1 tos id fl pt ttl pr a0 a1 a2 a3 a4 a5 a6 a7 So Sb no co nb cb w h0 h1
set_option linter.unusedVariables false in
set_option maxRecDepth 100000 in
set_option maxHeartbeats 16000000 in
theorem icabout_1 (o0 o1 o2 o3 : UInt8) (B : Option Addr) (nB cB : Nat) (l : List UInt8) (ty cd : Int) (f0 f1 f2 f3 f4 f5 : Int) (a0 a1 a2 a3 a4 a5 a6 a7 : UInt8) (lo lb : List UInt8) (no nb : Nat) (w : World) (hB : Sl w B nB cB l) (hm : nB ≤ 100000) (er : Int) (hg : ipGet l = (([f0, f1, f2, f3, f4, f5], [a0, a1, a2, a3, a4, a5, a6, a7]), (lo, lb), er)) (he : er ≠ 0) (h1 : lo.length = no) (h2 : lb.length = nb) : Calls Try.prog 14 #[.agg #[.int .u8 (o0.toNat : Int), .int .u8 (o1.toNat : Int), .int .u8 (o2.toNat : Int), .int .u8 (o3.toNat : Int)], .slice B nB cB, .int .i64 ty, .int .i64 cd] w (PkPost (icAbout o0 o1 o2 o3 l ty cd) w) := by
  obtain ⟨ii, hii, hz0, hz1, hz2⟩ := info_parts Try.info5
  have HG := Lib.hid hg
  have HM := Lib.hid hm
  have HL1 := Lib.hid h1
  have HL2 := Lib.hid h2
  have HP : Hid (icAbout o0 o1 o2 o3 l ty cd = pkNone er) := Lib.hid (by rw [icAbout_eq _ _ _ _ _ _ hg]; exact if_pos he)
  have t0 : (er == 0) = false := by simpa using he
  have t1 : (er != 0) = true := by simpa using he
  clear hg hm h1 h2 he
  have bel := Below.refl w.heap.size w
  go_enter Try.func14, Try.ntmps14
  go_wp2_with (first | ((with_reducible show wpList _ _ _ (⟨some 4, _, _, _, _, _⟩ :: _) _ _); refine wpList_box_n rfl 24 (.tmp 0) rfl #[.int .u8 (o0.toNat : Int), .int .u8 (o1.toNat : Int), .int .u8 (o2.toNat : Int), .int .u8 (o3.toNat : Int)] rfl ?_; intro g4 w1 ge lt hh bb; have av_hB_o := hB.av_new ge; have oo := Nat.le_trans bel.size ge; replace hB := hB.below bb; replace bel := bel.trans (bb.mono bel.size); have ho := hh; clear hh lt ge bb) | ((with_reducible show wpList _ _ _ (⟨some 8, _, _, _, _, _⟩ :: _) _ _); refine wpList_new_a rfl 27 rfl #[.int .i64 0, .int .i64 0, .int .i64 0, .int .i64 0, .int .i64 0, .int .i64 0, .int .u8 0, .int .u8 0, .int .u8 0, .int .u8 0, .int .u8 0, .int .u8 0, .int .u8 0, .int .u8 0, .slice none 0 0, .slice none 0 0] (by kernel_rfl) ?_; intro g8 w2 ge hh bb; have d_o_z := ne_new (hlt ho) ge; have av_hB_z := hB.av_new ge; have oz := Nat.le_trans bel.size ge; replace ho := blk_u ho bb; replace hB := hB.below bb; replace bel := bel.trans (bb.mono bel.size); have hz := hh; clear hh ge bb))
  with_reducible refine (ipget_n _ _ _ l f0 f1 f2 f3 f4 f5 a0 a1 a2 a3 a4 a5 a6 a7 lo lb no nb er _ hB HM.out HG.out HL1.out HL2.out).mono ?_
  rintro e w3 ⟨Ao, co, Ab, cb, rfl, po, pb, b3⟩
  replace ho := blk_u ho b3
  replace hz := blk_u hz b3
  replace hB := hB.below b3
  replace bel := bel.trans (b3.mono bel.size)
  clear b3
  replace po : Sl w3 (Ao) (no) (co) (lo) := po
  replace pb : Sl w3 (Ab) (nb) (cb) (lb) := pb
  go_wp2_with (first | ((with_reducible show wpList _ _ _ (⟨some 10, _, _, _, _, _⟩ :: _) _ _); refine wpList_new_a rfl 27 rfl #[.int .i64 0, .int .i64 0, .int .i64 0, .int .i64 0, .int .i64 0, .int .i64 0, .int .u8 0, .int .u8 0, .int .u8 0, .int .u8 0, .int .u8 0, .int .u8 0, .int .u8 0, .int .u8 0, .slice none 0 0, .slice none 0 0] (by kernel_rfl) ?_; intro g10 w4 ge hh bb; have d_o_p := ne_new (hlt ho) ge; have d_z_p := ne_new (hlt hz) ge; have av_hB_p := hB.av_new ge; have av_po_p := po.av_new ge; have av_pb_p := pb.av_new ge; have op := Nat.le_trans bel.size ge; replace ho := blk_u ho bb; replace hz := blk_u hz bb; replace hB := hB.below bb; replace po := po.below bb; replace pb := pb.below bb; replace bel := bel.trans (bb.mono bel.size); have hp := hh; clear hh ge bb) | ((with_reducible show wpList _ _ _ (⟨none, Op.store _ (.tmp 10) _, _, _, _, _⟩ :: _) _ _); refine wpList_store_blk rfl 27 (.tmp 10) (.tmp 16) rfl g10 rfl _ rfl _ 27 hp (by rfl) (by kernel_rfl) (by kernel_rfl) ?_; intro w5 hq gr; replace hB := hB.away av_hB_p gr; replace po := po.away av_po_p gr; replace pb := pb.away av_pb_p gr; replace ho := blk_a ho gr d_o_p; replace hz := blk_a hz gr d_z_p; replace bel := below_grown bel gr op bel.size; clear hp; have hp := hq; clear hq gr) | ((with_reducible show wpList _ _ _ (⟨none, Op.store _ (.tmp 8) _, _, _, _, _⟩ :: _) _ _); refine wpList_store_blk rfl 27 (.tmp 8) (.tmp 20) rfl g8 rfl _ rfl _ 27 hz (by rfl) (by kernel_rfl) (by kernel_rfl) ?_; intro w6 hq gr; replace hB := hB.away av_hB_z gr; clear po; clear pb; replace ho := blk_a ho gr d_o_z; replace hp := blk_a hp gr (ne_symm d_z_p); replace bel := below_grown bel gr oz bel.size; clear hz; have hz := hq; clear hq gr))
  exact bodyPost_ret (results_cell_tmp_row rfl _ _ _ _ _ _ _ rfl hz Try.underlying27 rfl (by kernel_rfl) (.int .i64 er) rfl) rfl (by rw [HP.out]; exact PkPost.none bel)
set_option linter.unusedVariables false in
set_option maxRecDepth 100000 in
set_option maxHeartbeats 16000000 in
theorem icabout_2 (o0 o1 o2 o3 : UInt8) (B : Option Addr) (nB cB : Nat) (l : List UInt8) (ty cd : Int) (f0 f1 f2 f3 f4 f5 : Int) (a0 a1 a2 a3 a4 a5 a6 a7 : UInt8) (lo lb : List UInt8) (no nb : Nat) (w : World) (hB : Sl w B nB cB l) (hm : nB ≤ 100000) (hg : ipGet l = (([f0, f1, f2, f3, f4, f5], [a0, a1, a2, a3, a4, a5, a6, a7]), (lo, lb), 0)) (hy : icMay f3 f5 a0 a1 a2 a3 a4 a5 a6 a7 lb = false) (h1 : lo.length = no) (h2 : lb.length = nb) : Calls Try.prog 14 #[.agg #[.int .u8 (o0.toNat : Int), .int .u8 (o1.toNat : Int), .int .u8 (o2.toNat : Int), .int .u8 (o3.toNat : Int)], .slice B nB cB, .int .i64 ty, .int .i64 cd] w (PkPost (icAbout o0 o1 o2 o3 l ty cd) w) := by
  obtain ⟨ii, hii, hz0, hz1, hz2⟩ := info_parts Try.info5
  have HG := Lib.hid hg
  have HM := Lib.hid hm
  have HL1 := Lib.hid h1
  have HL2 := Lib.hid h2
  have HP : Hid (icAbout o0 o1 o2 o3 l ty cd = pkNone 11) := Lib.hid (by rw [icAbout_eq _ _ _ _ _ _ hg]; unfold icAb; rw [if_neg (by decide), if_pos hy])
  have HY := Lib.hid hy
  clear hg hm h1 h2 hy
  have bel := Below.refl w.heap.size w
  go_enter Try.func14, Try.ntmps14
  go_wp2_with (first | ((with_reducible show wpList _ _ _ (⟨some 4, _, _, _, _, _⟩ :: _) _ _); refine wpList_box_n rfl 24 (.tmp 0) rfl #[.int .u8 (o0.toNat : Int), .int .u8 (o1.toNat : Int), .int .u8 (o2.toNat : Int), .int .u8 (o3.toNat : Int)] rfl ?_; intro g4 w1 ge lt hh bb; have av_hB_o := hB.av_new ge; have oo := Nat.le_trans bel.size ge; replace hB := hB.below bb; replace bel := bel.trans (bb.mono bel.size); have ho := hh; clear hh lt ge bb) | ((with_reducible show wpList _ _ _ (⟨some 8, _, _, _, _, _⟩ :: _) _ _); refine wpList_new_a rfl 27 rfl #[.int .i64 0, .int .i64 0, .int .i64 0, .int .i64 0, .int .i64 0, .int .i64 0, .int .u8 0, .int .u8 0, .int .u8 0, .int .u8 0, .int .u8 0, .int .u8 0, .int .u8 0, .int .u8 0, .slice none 0 0, .slice none 0 0] (by kernel_rfl) ?_; intro g8 w2 ge hh bb; have d_o_z := ne_new (hlt ho) ge; have av_hB_z := hB.av_new ge; have oz := Nat.le_trans bel.size ge; replace ho := blk_u ho bb; replace hB := hB.below bb; replace bel := bel.trans (bb.mono bel.size); have hz := hh; clear hh ge bb))
  with_reducible refine (ipget_n _ _ _ l f0 f1 f2 f3 f4 f5 a0 a1 a2 a3 a4 a5 a6 a7 lo lb no nb 0 _ hB HM.out HG.out HL1.out HL2.out).mono ?_
  rintro e w3 ⟨Ao, co, Ab, cb, rfl, po, pb, b3⟩
  replace ho := blk_u ho b3
  replace hz := blk_u hz b3
  replace hB := hB.below b3
  replace bel := bel.trans (b3.mono bel.size)
  clear b3
  replace po : Sl w3 (Ao) (no) (co) (lo) := po
  replace pb : Sl w3 (Ab) (nb) (cb) (lb) := pb
  go_wp2_with (first | ((with_reducible show wpList _ _ _ (⟨some 10, _, _, _, _, _⟩ :: _) _ _); refine wpList_new_a rfl 27 rfl #[.int .i64 0, .int .i64 0, .int .i64 0, .int .i64 0, .int .i64 0, .int .i64 0, .int .u8 0, .int .u8 0, .int .u8 0, .int .u8 0, .int .u8 0, .int .u8 0, .int .u8 0, .int .u8 0, .slice none 0 0, .slice none 0 0] (by kernel_rfl) ?_; intro g10 w4 ge hh bb; have d_o_p := ne_new (hlt ho) ge; have d_z_p := ne_new (hlt hz) ge; have av_hB_p := hB.av_new ge; have av_po_p := po.av_new ge; have av_pb_p := pb.av_new ge; have op := Nat.le_trans bel.size ge; replace ho := blk_u ho bb; replace hz := blk_u hz bb; replace hB := hB.below bb; replace po := po.below bb; replace pb := pb.below bb; replace bel := bel.trans (bb.mono bel.size); have hp := hh; clear hh ge bb) | ((with_reducible show wpList _ _ _ (⟨none, Op.store _ (.tmp 10) _, _, _, _, _⟩ :: _) _ _); refine wpList_store_blk rfl 27 (.tmp 10) (.tmp 16) rfl g10 rfl _ rfl _ 27 hp (by rfl) (by kernel_rfl) (by kernel_rfl) ?_; intro w5 hq gr; replace hB := hB.away av_hB_p gr; replace po := po.away av_po_p gr; replace pb := pb.away av_pb_p gr; replace ho := blk_a ho gr d_o_p; replace hz := blk_a hz gr d_z_p; replace bel := below_grown bel gr op bel.size; clear hp; have hp := hq; clear hq gr; have R22 := Lib.hid (range_lit hp 0 16 [.int .i64 f0, .int .i64 f1, .int .i64 f2, .int .i64 f3, .int .i64 f4, .int .i64 f5, .int .u8 (a0.toNat : Int), .int .u8 (a1.toNat : Int), .int .u8 (a2.toNat : Int), .int .u8 (a3.toNat : Int), .int .u8 (a4.toNat : Int), .int .u8 (a5.toNat : Int), .int .u8 (a6.toNat : Int), .int .u8 (a7.toNat : Int), .slice Ao no co, .slice Ab nb cb] rfl)) | ((with_reducible show wpList _ _ _ (⟨some 22, _, _, _, _, _⟩ :: _) _ _); refine wpList_load_rng 27 (.tmp 10) rfl (by kernel_rfl) _ _ rfl _ R22.out _ Try.underlying27 rfl (by kernel_rfl) ?_))
  try clear R22
  with_reducible refine (answer_any _ _ _ _ _ _ _ _ _ _ _ _ _ _ _ _ _ _ _ _ lb _ pb).mono ?_
  rintro e w6 ⟨rfl, b6⟩
  replace ho := blk_u ho b6
  replace hz := blk_u hz b6
  replace hp := blk_u hp b6
  replace hB := hB.below b6
  replace po := po.below b6
  replace pb := pb.below b6
  replace bel := bel.trans (b6.mono bel.size)
  clear b6
  rw [HY.out]
  go_wp2_with (first | ((with_reducible show wpList _ _ _ (⟨none, Op.store _ (.tmp 8) _, _, _, _, _⟩ :: _) _ _); refine wpList_store_blk rfl 27 (.tmp 8) (.tmp 25) rfl g8 rfl _ rfl _ 27 hz (by rfl) (by kernel_rfl) (by kernel_rfl) ?_; intro w7 hq gr; replace hB := hB.away av_hB_z gr; clear po; clear pb; replace ho := blk_a ho gr d_o_z; replace hp := blk_a hp gr (ne_symm d_z_p); replace bel := below_grown bel gr oz bel.size; clear hz; have hz := hq; clear hq gr))
  exact bodyPost_ret (results_cell_tmp_row rfl _ _ _ _ _ _ _ rfl hz Try.underlying27 rfl (by kernel_rfl) (.int .i64 11) rfl) rfl (by rw [HP.out]; exact PkPost.none bel)
set_option linter.unusedVariables false in
set_option maxRecDepth 100000 in
set_option maxHeartbeats 16000000 in
theorem icabout_3 (o0 o1 o2 o3 : UInt8) (B : Option Addr) (nB cB : Nat) (l : List UInt8) (ty cd : Int) (f0 f1 f2 f3 f4 f5 : Int) (a0 a1 a2 a3 a4 a5 a6 a7 : UInt8) (lo lb : List UInt8) (no nb : Nat) (w : World) (hB : Sl w B nB cB l) (hm : nB ≤ 100000) (hg : ipGet l = (([f0, f1, f2, f3, f4, f5], [a0, a1, a2, a3, a4, a5, a6, a7]), (lo, lb), 0)) (hy : icMay f3 f5 a0 a1 a2 a3 a4 a5 a6 a7 lb = true) (hn : nb ≤ 8) (h1 : lo.length = no) (h2 : lb.length = nb) : Calls Try.prog 14 #[.agg #[.int .u8 (o0.toNat : Int), .int .u8 (o1.toNat : Int), .int .u8 (o2.toNat : Int), .int .u8 (o3.toNat : Int)], .slice B nB cB, .int .i64 ty, .int .i64 cd] w (PkPost (icAbout o0 o1 o2 o3 l ty cd) w) := by
  obtain ⟨ii, hii, hz0, hz1, hz2⟩ := info_parts Try.info5
  have HG := Lib.hid hg
  have HM := Lib.hid hm
  have HL1 := Lib.hid h1
  have HL2 := Lib.hid h2
  have hlen := ipget_len hg
  obtain ⟨k, hk⟩ : ∃ k, k = 20 + no + nb := ⟨_, rfl⟩
  have HP : Hid (icAbout o0 o1 o2 o3 l ty cd = icPut 0 0 0 0 64 o0 o1 o2 o3 a0 a1 a2 a3 [] ty cd 0 (l.take k)) := Lib.hid (by rw [icAbout_eq _ _ _ _ _ _ hg]; unfold icAb; rw [if_neg (by decide), if_neg (by rw [hy]; decide), h1, h2, hk, show min nb 8 = nb by omega])
  have HY := Lib.hid hy
  have HK : Hid (k ≤ nB) := Lib.hid (by have := hB.1; omega)
  have t2 : decide ((8 : Int) < nb) = false := decide_eq_false (by omega)
  have b0 : (0 : Int) ≤ no := by omega
  have b1 : (no : Int) ≤ 100000 := by have := hB.1; omega
  have b2 : (0 : Int) ≤ nb := by omega
  have b3 : (nb : Int) ≤ 8 := by omega
  have ek : 20 + (no : Int) + (nb : Int) = (k : Int) := by omega
  have ew : IntKind.i64.wrap (k : Int) = (k : Int) := IntWalk.i64_in _ (by have := hB.1; omega)
  clear hg hm h1 h2 hy hk hlen hn
  have bel := Below.refl w.heap.size w
  go_enter Try.func14, Try.ntmps14
  go_wp2_with (first | ((with_reducible show wpList _ _ _ (⟨some 4, _, _, _, _, _⟩ :: _) _ _); refine wpList_box_n rfl 24 (.tmp 0) rfl #[.int .u8 (o0.toNat : Int), .int .u8 (o1.toNat : Int), .int .u8 (o2.toNat : Int), .int .u8 (o3.toNat : Int)] rfl ?_; intro g4 w1 ge lt hh bb; have av_hB_o := hB.av_new ge; have oo := Nat.le_trans bel.size ge; replace hB := hB.below bb; replace bel := bel.trans (bb.mono bel.size); have ho := hh; clear hh lt ge bb) | ((with_reducible show wpList _ _ _ (⟨some 8, _, _, _, _, _⟩ :: _) _ _); refine wpList_new_a rfl 27 rfl #[.int .i64 0, .int .i64 0, .int .i64 0, .int .i64 0, .int .i64 0, .int .i64 0, .int .u8 0, .int .u8 0, .int .u8 0, .int .u8 0, .int .u8 0, .int .u8 0, .int .u8 0, .int .u8 0, .slice none 0 0, .slice none 0 0] (by kernel_rfl) ?_; intro g8 w2 ge hh bb; have d_o_z := ne_new (hlt ho) ge; have av_hB_z := hB.av_new ge; have oz := Nat.le_trans bel.size ge; replace ho := blk_u ho bb; replace hB := hB.below bb; replace bel := bel.trans (bb.mono bel.size); have hz := hh; clear hh ge bb))
  with_reducible refine (ipget_n _ _ _ l f0 f1 f2 f3 f4 f5 a0 a1 a2 a3 a4 a5 a6 a7 lo lb no nb 0 _ hB HM.out HG.out HL1.out HL2.out).mono ?_
  rintro e w3 ⟨Ao, co, Ab, cb, rfl, po, pb, b3⟩
  replace ho := blk_u ho b3
  replace hz := blk_u hz b3
  replace hB := hB.below b3
  replace bel := bel.trans (b3.mono bel.size)
  clear b3
  replace po : Sl w3 (Ao) (no) (co) (lo) := po
  replace pb : Sl w3 (Ab) (nb) (cb) (lb) := pb
  go_wp2_with (first | ((with_reducible show wpList _ _ _ (⟨some 10, _, _, _, _, _⟩ :: _) _ _); refine wpList_new_a rfl 27 rfl #[.int .i64 0, .int .i64 0, .int .i64 0, .int .i64 0, .int .i64 0, .int .i64 0, .int .u8 0, .int .u8 0, .int .u8 0, .int .u8 0, .int .u8 0, .int .u8 0, .int .u8 0, .int .u8 0, .slice none 0 0, .slice none 0 0] (by kernel_rfl) ?_; intro g10 w4 ge hh bb; have d_o_p := ne_new (hlt ho) ge; have d_z_p := ne_new (hlt hz) ge; have av_hB_p := hB.av_new ge; have av_po_p := po.av_new ge; have av_pb_p := pb.av_new ge; have op := Nat.le_trans bel.size ge; replace ho := blk_u ho bb; replace hz := blk_u hz bb; replace hB := hB.below bb; replace po := po.below bb; replace pb := pb.below bb; replace bel := bel.trans (bb.mono bel.size); have hp := hh; clear hh ge bb) | ((with_reducible show wpList _ _ _ (⟨none, Op.store _ (.tmp 10) _, _, _, _, _⟩ :: _) _ _); refine wpList_store_blk rfl 27 (.tmp 10) (.tmp 16) rfl g10 rfl _ rfl _ 27 hp (by rfl) (by kernel_rfl) (by kernel_rfl) ?_; intro w5 hq gr; replace hB := hB.away av_hB_p gr; replace po := po.away av_po_p gr; replace pb := pb.away av_pb_p gr; replace ho := blk_a ho gr d_o_p; replace hz := blk_a hz gr d_z_p; replace bel := below_grown bel gr op bel.size; clear hp; have hp := hq; clear hq gr; have R22 := Lib.hid (range_lit hp 0 16 [.int .i64 f0, .int .i64 f1, .int .i64 f2, .int .i64 f3, .int .i64 f4, .int .i64 f5, .int .u8 (a0.toNat : Int), .int .u8 (a1.toNat : Int), .int .u8 (a2.toNat : Int), .int .u8 (a3.toNat : Int), .int .u8 (a4.toNat : Int), .int .u8 (a5.toNat : Int), .int .u8 (a6.toNat : Int), .int .u8 (a7.toNat : Int), .slice Ao no co, .slice Ab nb cb] rfl)) | ((with_reducible show wpList _ _ _ (⟨some 22, _, _, _, _, _⟩ :: _) _ _); refine wpList_load_rng 27 (.tmp 10) rfl (by kernel_rfl) _ _ rfl _ R22.out _ Try.underlying27 rfl (by kernel_rfl) ?_))
  try clear R22
  with_reducible refine (answer_any _ _ _ _ _ _ _ _ _ _ _ _ _ _ _ _ _ _ _ _ lb _ pb).mono ?_
  rintro e w6 ⟨rfl, b6⟩
  replace ho := blk_u ho b6
  replace hz := blk_u hz b6
  replace hp := blk_u hp b6
  replace hB := hB.below b6
  replace po := po.below b6
  replace pb := pb.below b6
  replace bel := bel.trans (b6.mono bel.size)
  clear b6
  rw [HY.out]
  have R28 := cell_lit hp 14 _ rfl
  have R32 := cell_lit hp 15 _ rfl
  obtain ⟨A36, c36, r36, f36, u36⟩ := piece_front hB (k := k) HK.out
  have qt := f36 _ hB
  have av_qt_o := av_hB_o.sub u36
  have av_qt_z := av_hB_z.sub u36
  have av_qt_p := av_hB_p.sub u36
  clear f36 u36
  have R37 := Lib.hid (range_lit ho 0 4 [.int .u8 (o0.toNat : Int), .int .u8 (o1.toNat : Int), .int .u8 (o2.toNat : Int), .int .u8 (o3.toNat : Int)] rfl)
  go_wp2_with (first | ((with_reducible show wpList _ _ _ (⟨some 37, _, _, _, _, _⟩ :: _) _ _); refine wpList_load_rng 24 (.tmp 4) rfl (by kernel_rfl) _ _ rfl _ R37.out _ Try.underlying24 rfl (by kernel_rfl) ?_; have R39 := Lib.hid (range_lit hp 6 4 [.int .u8 (a0.toNat : Int), .int .u8 (a1.toNat : Int), .int .u8 (a2.toNat : Int), .int .u8 (a3.toNat : Int)] rfl)) | ((with_reducible show wpList _ _ _ (⟨some 39, _, _, _, _, _⟩ :: _) _ _); refine wpList_load_rng 24 (.tmp 38) rfl (by kernel_rfl) _ _ rfl _ R39.out _ Try.underlying24 rfl (by kernel_rfl) ?_))
  try clear R28
  try clear R32
  try clear R37
  try clear R39
  have ob := bel.size
  with_reducible refine (icput_any _ _ _ _ _ _ _ _ _ _ _ _ _ _ _ _ _ _ _ _ _ _ _ _ _ _ [] _ _ (Sl.nil _) qt (by decide) (by decide) (by decide)).mono ?_
  rintro e w7 ⟨y0, y1, y2, y3, y4, y5, g0, g1, g2, g3, g4, g5, g6, g7, lr, lq, Ar, Aq, cr, cq, er, rfl, sr, sq_, fr1, fr2, b7, hQ⟩
  have av_sr_o := fr1.av (hlt ho)
  have av_sr_z := fr1.av (hlt hz)
  have av_sr_p := fr1.av (hlt hp)
  have av_sq__o := fr2.av (hlt ho)
  have av_sq__z := fr2.av (hlt hz)
  have av_sq__p := fr2.av (hlt hp)
  replace ho := blk_u ho b7
  replace hz := blk_u hz b7
  replace hp := blk_u hp b7
  replace hB := hB.below b7
  replace po := po.below b7
  replace pb := pb.below b7
  replace qt := qt.below b7
  replace bel := bel.trans (b7.mono bel.size)
  clear b7
  replace sr : Sl w7 (Ar) (lr.length) (cr) (lr) := sr
  replace sq_ : Sl w7 (Aq) (lq.length) (cq) (lq) := sq_
  go_wp2_with (first | ((with_reducible show wpList _ _ _ (⟨none, Op.store _ (.tmp 8) _, _, _, _, _⟩ :: _) _ _); refine wpList_store_blk rfl 27 (.tmp 8) (.tmp 46) rfl g8 rfl _ rfl _ 27 hz (by rfl) (by kernel_rfl) (by kernel_rfl) ?_; intro w8 hq gr; replace hB := hB.away av_hB_z gr; clear po; clear pb; replace qt := qt.away av_qt_z gr; replace sr := sr.away av_sr_z gr; replace sq_ := sq_.away av_sq__z gr; replace ho := blk_a ho gr d_o_z; replace hp := blk_a hp gr (ne_symm d_z_p); replace bel := below_grown bel gr oz bel.size; clear hz; have hz := hq; clear hq gr))
  exact bodyPost_ret (results_cell_tmp_row rfl _ _ _ _ _ _ _ rfl hz Try.underlying27 rfl (by kernel_rfl) (.int .i64 er) rfl) rfl ⟨y0, y1, y2, y3, y4, y5, g0, g1, g2, g3, g4, g5, g6, g7, lr, lq, Ar, Aq, cr, cq, er, rfl, sr, sq_, fr1.mono ob, fr2.mono ob, bel, hQ.trans HP.out.symm⟩
set_option linter.unusedVariables false in
set_option maxRecDepth 100000 in
set_option maxHeartbeats 16000000 in
theorem icabout_4 (o0 o1 o2 o3 : UInt8) (B : Option Addr) (nB cB : Nat) (l : List UInt8) (ty cd : Int) (f0 f1 f2 f3 f4 f5 : Int) (a0 a1 a2 a3 a4 a5 a6 a7 : UInt8) (lo lb : List UInt8) (no nb : Nat) (w : World) (hB : Sl w B nB cB l) (hm : nB ≤ 100000) (hg : ipGet l = (([f0, f1, f2, f3, f4, f5], [a0, a1, a2, a3, a4, a5, a6, a7]), (lo, lb), 0)) (hy : icMay f3 f5 a0 a1 a2 a3 a4 a5 a6 a7 lb = true) (hn : 8 < nb) (h1 : lo.length = no) (h2 : lb.length = nb) : Calls Try.prog 14 #[.agg #[.int .u8 (o0.toNat : Int), .int .u8 (o1.toNat : Int), .int .u8 (o2.toNat : Int), .int .u8 (o3.toNat : Int)], .slice B nB cB, .int .i64 ty, .int .i64 cd] w (PkPost (icAbout o0 o1 o2 o3 l ty cd) w) := by
  obtain ⟨ii, hii, hz0, hz1, hz2⟩ := info_parts Try.info5
  have HG := Lib.hid hg
  have HM := Lib.hid hm
  have HL1 := Lib.hid h1
  have HL2 := Lib.hid h2
  have hlen := ipget_len hg
  obtain ⟨k, hk⟩ : ∃ k, k = 20 + no + 8 := ⟨_, rfl⟩
  have HP : Hid (icAbout o0 o1 o2 o3 l ty cd = icPut 0 0 0 0 64 o0 o1 o2 o3 a0 a1 a2 a3 [] ty cd 0 (l.take k)) := Lib.hid (by rw [icAbout_eq _ _ _ _ _ _ hg]; unfold icAb; rw [if_neg (by decide), if_neg (by rw [hy]; decide), h1, h2, hk, show min nb 8 = 8 by omega])
  have HY := Lib.hid hy
  have HK : Hid (k ≤ nB) := Lib.hid (by have := hB.1; omega)
  have t2 : (8 : Int) < nb := by omega
  have b0 : (0 : Int) ≤ no := by omega
  have b1 : (no : Int) ≤ 100000 := by have := hB.1; omega
  have ek : 20 + (no : Int) + 8 = (k : Int) := by omega
  have ew : IntKind.i64.wrap (k : Int) = (k : Int) := IntWalk.i64_in _ (by have := hB.1; omega)
  clear hg hm h1 h2 hy hk hlen hn
  have bel := Below.refl w.heap.size w
  go_enter Try.func14, Try.ntmps14
  go_wp2_with (first | ((with_reducible show wpList _ _ _ (⟨some 4, _, _, _, _, _⟩ :: _) _ _); refine wpList_box_n rfl 24 (.tmp 0) rfl #[.int .u8 (o0.toNat : Int), .int .u8 (o1.toNat : Int), .int .u8 (o2.toNat : Int), .int .u8 (o3.toNat : Int)] rfl ?_; intro g4 w1 ge lt hh bb; have av_hB_o := hB.av_new ge; have oo := Nat.le_trans bel.size ge; replace hB := hB.below bb; replace bel := bel.trans (bb.mono bel.size); have ho := hh; clear hh lt ge bb) | ((with_reducible show wpList _ _ _ (⟨some 8, _, _, _, _, _⟩ :: _) _ _); refine wpList_new_a rfl 27 rfl #[.int .i64 0, .int .i64 0, .int .i64 0, .int .i64 0, .int .i64 0, .int .i64 0, .int .u8 0, .int .u8 0, .int .u8 0, .int .u8 0, .int .u8 0, .int .u8 0, .int .u8 0, .int .u8 0, .slice none 0 0, .slice none 0 0] (by kernel_rfl) ?_; intro g8 w2 ge hh bb; have d_o_z := ne_new (hlt ho) ge; have av_hB_z := hB.av_new ge; have oz := Nat.le_trans bel.size ge; replace ho := blk_u ho bb; replace hB := hB.below bb; replace bel := bel.trans (bb.mono bel.size); have hz := hh; clear hh ge bb))
  with_reducible refine (ipget_n _ _ _ l f0 f1 f2 f3 f4 f5 a0 a1 a2 a3 a4 a5 a6 a7 lo lb no nb 0 _ hB HM.out HG.out HL1.out HL2.out).mono ?_
  rintro e w3 ⟨Ao, co, Ab, cb, rfl, po, pb, b3⟩
  replace ho := blk_u ho b3
  replace hz := blk_u hz b3
  replace hB := hB.below b3
  replace bel := bel.trans (b3.mono bel.size)
  clear b3
  replace po : Sl w3 (Ao) (no) (co) (lo) := po
  replace pb : Sl w3 (Ab) (nb) (cb) (lb) := pb
  go_wp2_with (first | ((with_reducible show wpList _ _ _ (⟨some 10, _, _, _, _, _⟩ :: _) _ _); refine wpList_new_a rfl 27 rfl #[.int .i64 0, .int .i64 0, .int .i64 0, .int .i64 0, .int .i64 0, .int .i64 0, .int .u8 0, .int .u8 0, .int .u8 0, .int .u8 0, .int .u8 0, .int .u8 0, .int .u8 0, .int .u8 0, .slice none 0 0, .slice none 0 0] (by kernel_rfl) ?_; intro g10 w4 ge hh bb; have d_o_p := ne_new (hlt ho) ge; have d_z_p := ne_new (hlt hz) ge; have av_hB_p := hB.av_new ge; have av_po_p := po.av_new ge; have av_pb_p := pb.av_new ge; have op := Nat.le_trans bel.size ge; replace ho := blk_u ho bb; replace hz := blk_u hz bb; replace hB := hB.below bb; replace po := po.below bb; replace pb := pb.below bb; replace bel := bel.trans (bb.mono bel.size); have hp := hh; clear hh ge bb) | ((with_reducible show wpList _ _ _ (⟨none, Op.store _ (.tmp 10) _, _, _, _, _⟩ :: _) _ _); refine wpList_store_blk rfl 27 (.tmp 10) (.tmp 16) rfl g10 rfl _ rfl _ 27 hp (by rfl) (by kernel_rfl) (by kernel_rfl) ?_; intro w5 hq gr; replace hB := hB.away av_hB_p gr; replace po := po.away av_po_p gr; replace pb := pb.away av_pb_p gr; replace ho := blk_a ho gr d_o_p; replace hz := blk_a hz gr d_z_p; replace bel := below_grown bel gr op bel.size; clear hp; have hp := hq; clear hq gr; have R22 := Lib.hid (range_lit hp 0 16 [.int .i64 f0, .int .i64 f1, .int .i64 f2, .int .i64 f3, .int .i64 f4, .int .i64 f5, .int .u8 (a0.toNat : Int), .int .u8 (a1.toNat : Int), .int .u8 (a2.toNat : Int), .int .u8 (a3.toNat : Int), .int .u8 (a4.toNat : Int), .int .u8 (a5.toNat : Int), .int .u8 (a6.toNat : Int), .int .u8 (a7.toNat : Int), .slice Ao no co, .slice Ab nb cb] rfl)) | ((with_reducible show wpList _ _ _ (⟨some 22, _, _, _, _, _⟩ :: _) _ _); refine wpList_load_rng 27 (.tmp 10) rfl (by kernel_rfl) _ _ rfl _ R22.out _ Try.underlying27 rfl (by kernel_rfl) ?_))
  try clear R22
  with_reducible refine (answer_any _ _ _ _ _ _ _ _ _ _ _ _ _ _ _ _ _ _ _ _ lb _ pb).mono ?_
  rintro e w6 ⟨rfl, b6⟩
  replace ho := blk_u ho b6
  replace hz := blk_u hz b6
  replace hp := blk_u hp b6
  replace hB := hB.below b6
  replace po := po.below b6
  replace pb := pb.below b6
  replace bel := bel.trans (b6.mono bel.size)
  clear b6
  rw [HY.out]
  have R28 := cell_lit hp 14 _ rfl
  have R32 := cell_lit hp 15 _ rfl
  obtain ⟨A36, c36, r36, f36, u36⟩ := piece_front hB (k := k) HK.out
  have qt := f36 _ hB
  have av_qt_o := av_hB_o.sub u36
  have av_qt_z := av_hB_z.sub u36
  have av_qt_p := av_hB_p.sub u36
  clear f36 u36
  have R37 := Lib.hid (range_lit ho 0 4 [.int .u8 (o0.toNat : Int), .int .u8 (o1.toNat : Int), .int .u8 (o2.toNat : Int), .int .u8 (o3.toNat : Int)] rfl)
  go_wp2_with (first | ((with_reducible show wpList _ _ _ (⟨some 37, _, _, _, _, _⟩ :: _) _ _); refine wpList_load_rng 24 (.tmp 4) rfl (by kernel_rfl) _ _ rfl _ R37.out _ Try.underlying24 rfl (by kernel_rfl) ?_; have R39 := Lib.hid (range_lit hp 6 4 [.int .u8 (a0.toNat : Int), .int .u8 (a1.toNat : Int), .int .u8 (a2.toNat : Int), .int .u8 (a3.toNat : Int)] rfl)) | ((with_reducible show wpList _ _ _ (⟨some 39, _, _, _, _, _⟩ :: _) _ _); refine wpList_load_rng 24 (.tmp 38) rfl (by kernel_rfl) _ _ rfl _ R39.out _ Try.underlying24 rfl (by kernel_rfl) ?_))
  try clear R28
  try clear R32
  try clear R37
  try clear R39
  have ob := bel.size
  with_reducible refine (icput_any _ _ _ _ _ _ _ _ _ _ _ _ _ _ _ _ _ _ _ _ _ _ _ _ _ _ [] _ _ (Sl.nil _) qt (by decide) (by decide) (by decide)).mono ?_
  rintro e w7 ⟨y0, y1, y2, y3, y4, y5, g0, g1, g2, g3, g4, g5, g6, g7, lr, lq, Ar, Aq, cr, cq, er, rfl, sr, sq_, fr1, fr2, b7, hQ⟩
  have av_sr_o := fr1.av (hlt ho)
  have av_sr_z := fr1.av (hlt hz)
  have av_sr_p := fr1.av (hlt hp)
  have av_sq__o := fr2.av (hlt ho)
  have av_sq__z := fr2.av (hlt hz)
  have av_sq__p := fr2.av (hlt hp)
  replace ho := blk_u ho b7
  replace hz := blk_u hz b7
  replace hp := blk_u hp b7
  replace hB := hB.below b7
  replace po := po.below b7
  replace pb := pb.below b7
  replace qt := qt.below b7
  replace bel := bel.trans (b7.mono bel.size)
  clear b7
  replace sr : Sl w7 (Ar) (lr.length) (cr) (lr) := sr
  replace sq_ : Sl w7 (Aq) (lq.length) (cq) (lq) := sq_
  go_wp2_with (first | ((with_reducible show wpList _ _ _ (⟨none, Op.store _ (.tmp 8) _, _, _, _, _⟩ :: _) _ _); refine wpList_store_blk rfl 27 (.tmp 8) (.tmp 46) rfl g8 rfl _ rfl _ 27 hz (by rfl) (by kernel_rfl) (by kernel_rfl) ?_; intro w8 hq gr; replace hB := hB.away av_hB_z gr; clear po; clear pb; replace qt := qt.away av_qt_z gr; replace sr := sr.away av_sr_z gr; replace sq_ := sq_.away av_sq__z gr; replace ho := blk_a ho gr d_o_z; replace hp := blk_a hp gr (ne_symm d_z_p); replace bel := below_grown bel gr oz bel.size; clear hz; have hz := hq; clear hq gr))
  exact bodyPost_ret (results_cell_tmp_row rfl _ _ _ _ _ _ _ rfl hz Try.underlying27 rfl (by kernel_rfl) (.int .i64 er) rfl) rfl ⟨y0, y1, y2, y3, y4, y5, g0, g1, g2, g3, g4, g5, g6, g7, lr, lq, Ar, Aq, cr, cq, er, rfl, sr, sq_, fr1.mono ob, fr2.mono ob, bel, hQ.trans HP.out.symm⟩
theorem icabout_any (o0 o1 o2 o3 : UInt8) (B : Option Addr) (nB cB : Nat) (l : List UInt8) (ty cd : Int) (w : World) (hB : Sl w B nB cB l) (hm : nB ≤ 100000) : Calls Try.prog 14 #[.agg #[.int .u8 (o0.toNat : Int), .int .u8 (o1.toNat : Int), .int .u8 (o2.toNat : Int), .int .u8 (o3.toNat : Int)], .slice B nB cB, .int .i64 ty, .int .i64 cd] w (PkPost (icAbout o0 o1 o2 o3 l ty cd) w) := by
  obtain ⟨f0, f1, f2, f3, f4, f5, a0, a1, a2, a3, a4, a5, a6, a7, lo, lb, er, hg⟩ := ipget_form l
  by_cases he : er = 0
  · subst he
    rcases (by decide : ∀ b : Bool, b = true ∨ b = false) (icMay f3 f5 a0 a1 a2 a3 a4 a5 a6 a7 lb) with hy | hy
    · by_cases hn : lb.length ≤ 8
      · exact icabout_3 o0 o1 o2 o3 B nB cB l ty cd f0 f1 f2 f3 f4 f5 a0 a1 a2 a3 a4 a5 a6 a7 lo lb _ _ w hB hm hg hy hn rfl rfl
      · exact icabout_4 o0 o1 o2 o3 B nB cB l ty cd f0 f1 f2 f3 f4 f5 a0 a1 a2 a3 a4 a5 a6 a7 lo lb _ _ w hB hm hg hy (by omega) rfl rfl
    · exact icabout_2 o0 o1 o2 o3 B nB cB l ty cd f0 f1 f2 f3 f4 f5 a0 a1 a2 a3 a4 a5 a6 a7 lo lb _ _ w hB hm hg hy rfl rfl
  · exact icabout_1 o0 o1 o2 o3 B nB cB l ty cd f0 f1 f2 f3 f4 f5 a0 a1 a2 a3 a4 a5 a6 a7 lo lb _ _ w hB hm er hg he rfl rfl
end Go.Proofs.Ytfmllopeeiecjaa
