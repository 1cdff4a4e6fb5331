/- Texts put together: Tc1, Tc2, Tc3, Tcf, Trw. -/
import Derived.Test.YtbdaejodbcjmfaaGreatQ1
import Derived.Test.YtbdaejodbcjmfaaGreatQ2
import Derived.Test.YtbdaejodbcjmfaaGreatQ3
import Derived.Test.YtbdaejodbcjmfaaGreatQ4
import Derived.Test.YtbdaejodbcjmfaaGreatQ5
import Derived.Test.YtbdaejodbcjmfaaGreatQ6
import Derived.Test.YtbdaejodbcjmfaaGreatQ7
import Derived.Test.YtbdaejodbcjmfaaGreatQ8
import Derived.Test.YtbdaejodbcjmfaaGreatQ9
import Derived.Test.YtbdaejodbcjmfaaGreatQ10
import Derived.Test.YtbdaejodbcjmfaaGreatQ11
import Derived.Test.YtbdaejodbcjmfaaGreatQ12
import Derived.Test.YtbdaejodbcjmfaaGreatQ13
import Derived.Test.YtbdaejodbcjmfaaGreatV1
import Derived.Deep.RegionHeld3
import Derived.Deep.CutRange
namespace Go.Proofs.YtbdaejodbcjmfaaGreat
open Go.RowKit
open Go.RowKit

set_option maxRecDepth 100000 in
set_option maxHeartbeats 16000000 in
theorem hold16 (v : Int) (w : World) : Calls Tryz.prog 123 #[.int .i64 16, .int .i64 v] w fun e w' => e = .returned (.bool (inOk 65535 v)) ∧ w = w' := by
  unfold inOk
  rcases (by decide : ∀ b : Bool, b = true ∨ b = false) (v / 65536 == 0) with h0 | h0
  · have h1 : (decide (0 ≤ v) && decide (v ≤ 65535)) = true := by
      have := eq_of_beq h0
      simp only [Bool.and_eq_true, decide_eq_true_eq]
      omega
    rw [h1]
    clear h1
    go_enter Tryz.func123, Tryz.ntmps123
    go_wp2
    go_ret
    exact ⟨rfl, rfl⟩
  · have h1 : (decide (0 ≤ v) && decide (v ≤ 65535)) = false := by
      have := ne_of_beq_false h0
      simp only [Bool.and_eq_false_iff, decide_eq_false_iff_not]
      omega
    rw [h1]
    clear h1
    go_enter Tryz.func123, Tryz.ntmps123
    go_wp2
    go_ret
    exact ⟨rfl, rfl⟩
set_option maxRecDepth 100000 in
set_option maxHeartbeats 16000000 in
theorem hold6 (v : Int) (w : World) : Calls Tryz.prog 123 #[.int .i64 6, .int .i64 v] w fun e w' => e = .returned (.bool (inOk 63 v)) ∧ w = w' := by
  unfold inOk
  rcases (by decide : ∀ b : Bool, b = true ∨ b = false) (v / 64 == 0) with h0 | h0
  · have h1 : (decide (0 ≤ v) && decide (v ≤ 63)) = true := by
      have := eq_of_beq h0
      simp only [Bool.and_eq_true, decide_eq_true_eq]
      omega
    rw [h1]
    clear h1
    go_enter Tryz.func123, Tryz.ntmps123
    go_wp2
    go_ret
    exact ⟨rfl, rfl⟩
  · have h1 : (decide (0 ≤ v) && decide (v ≤ 63)) = false := by
      have := ne_of_beq_false h0
      simp only [Bool.and_eq_false_iff, decide_eq_false_iff_not]
      omega
    rw [h1]
    clear h1
    go_enter Tryz.func123, Tryz.ntmps123
    go_wp2
    go_ret
    exact ⟨rfl, rfl⟩
set_option linter.unusedVariables false in
set_option maxRecDepth 100000 in
set_option maxHeartbeats 16000000 in
theorem writable_0 (sf st se ak fg wn ug : Int) (Q : Option Addr) (nq cq : Nat) (D : Option Addr) (nd cd : Nat) (lq : List UInt8) (w : World) (hv : Sl w Q nq cq lq) (f0 : inOk 65535 sf = false) : Calls Tryz.prog 97 #[.agg #[.int .i64 sf, .int .i64 st, .int .u32 se, .int .u32 ak, .int .i64 fg, .int .i64 wn, .int .i64 ug, .slice Q nq cq, .slice D nd cd]] w fun e w' => e = .returned (.bool false) ∧ Below w.heap.size w w' := by
  clear hv
  have F0 := Lib.hid f0
  clear f0
  have bel := Below.refl w.heap.size w
  go_enter Tryz.func97, Tryz.ntmps97
  go_wp2_with (first | ((with_reducible show wpList _ _ _ (⟨some 1, _, _, _, _, _⟩ :: _) _ _); refine wpList_box_n rfl 105 (.tmp 0) rfl #[.int .i64 sf, .int .i64 st, .int .u32 se, .int .u32 ak, .int .i64 fg, .int .i64 wn, .int .i64 ug, .slice Q nq cq, .slice D nd cd] rfl ?_; intro g1 w1 ge lt hh bb; have od := Nat.le_trans bel.size ge; replace bel := bel.trans (bb.mono bel.size); have hd := hh; clear hh lt ge bb; have R4 := cell_lit hd 0 _ rfl))
  try clear R4
  with_reducible refine (hold16 _ _).mono ?_
  rintro e _ ⟨rfl, rfl⟩
  rw [F0.out]
  go_wp2_with fail
  go_ret
  exact ⟨rfl, bel⟩
set_option linter.unusedVariables false in
set_option maxRecDepth 100000 in
set_option maxHeartbeats 16000000 in
theorem writable_1 (sf st se ak fg wn ug : Int) (Q : Option Addr) (nq cq : Nat) (D : Option Addr) (nd cd : Nat) (lq : List UInt8) (w : World) (hv : Sl w Q nq cq lq) (f0 : inOk 65535 sf = true) (f1 : inOk 65535 st = false) : Calls Tryz.prog 97 #[.agg #[.int .i64 sf, .int .i64 st, .int .u32 se, .int .u32 ak, .int .i64 fg, .int .i64 wn, .int .i64 ug, .slice Q nq cq, .slice D nd cd]] w fun e w' => e = .returned (.bool false) ∧ Below w.heap.size w w' := by
  clear hv
  have F0 := Lib.hid f0
  clear f0
  have F1 := Lib.hid f1
  clear f1
  have bel := Below.refl w.heap.size w
  go_enter Tryz.func97, Tryz.ntmps97
  go_wp2_with (first | ((with_reducible show wpList _ _ _ (⟨some 1, _, _, _, _, _⟩ :: _) _ _); refine wpList_box_n rfl 105 (.tmp 0) rfl #[.int .i64 sf, .int .i64 st, .int .u32 se, .int .u32 ak, .int .i64 fg, .int .i64 wn, .int .i64 ug, .slice Q nq cq, .slice D nd cd] rfl ?_; intro g1 w1 ge lt hh bb; have od := Nat.le_trans bel.size ge; replace bel := bel.trans (bb.mono bel.size); have hd := hh; clear hh lt ge bb; have R4 := cell_lit hd 0 _ rfl))
  try clear R4
  with_reducible refine (hold16 _ _).mono ?_
  rintro e _ ⟨rfl, rfl⟩
  rw [F0.out]
  have R8 := cell_lit hd 1 _ rfl
  go_wp2_with fail
  clear R8
  with_reducible refine (hold16 _ _).mono ?_
  rintro e _ ⟨rfl, rfl⟩
  rw [F1.out]
  go_wp2_with fail
  go_ret
  exact ⟨rfl, bel⟩
set_option linter.unusedVariables false in
set_option maxRecDepth 100000 in
set_option maxHeartbeats 16000000 in
theorem writable_2 (sf st se ak fg wn ug : Int) (Q : Option Addr) (nq cq : Nat) (D : Option Addr) (nd cd : Nat) (lq : List UInt8) (w : World) (hv : Sl w Q nq cq lq) (f0 : inOk 65535 sf = true) (f1 : inOk 65535 st = true) (f2 : inOk 63 fg = false) : Calls Tryz.prog 97 #[.agg #[.int .i64 sf, .int .i64 st, .int .u32 se, .int .u32 ak, .int .i64 fg, .int .i64 wn, .int .i64 ug, .slice Q nq cq, .slice D nd cd]] w fun e w' => e = .returned (.bool false) ∧ Below w.heap.size w w' := by
  clear hv
  have F0 := Lib.hid f0
  clear f0
  have F1 := Lib.hid f1
  clear f1
  have F2 := Lib.hid f2
  clear f2
  have bel := Below.refl w.heap.size w
  go_enter Tryz.func97, Tryz.ntmps97
  go_wp2_with (first | ((with_reducible show wpList _ _ _ (⟨some 1, _, _, _, _, _⟩ :: _) _ _); refine wpList_box_n rfl 105 (.tmp 0) rfl #[.int .i64 sf, .int .i64 st, .int .u32 se, .int .u32 ak, .int .i64 fg, .int .i64 wn, .int .i64 ug, .slice Q nq cq, .slice D nd cd] rfl ?_; intro g1 w1 ge lt hh bb; have od := Nat.le_trans bel.size ge; replace bel := bel.trans (bb.mono bel.size); have hd := hh; clear hh lt ge bb; have R4 := cell_lit hd 0 _ rfl))
  try clear R4
  with_reducible refine (hold16 _ _).mono ?_
  rintro e _ ⟨rfl, rfl⟩
  rw [F0.out]
  have R8 := cell_lit hd 1 _ rfl
  go_wp2_with fail
  clear R8
  with_reducible refine (hold16 _ _).mono ?_
  rintro e _ ⟨rfl, rfl⟩
  rw [F1.out]
  have R13 := cell_lit hd 4 _ rfl
  go_wp2_with fail
  clear R13
  with_reducible refine (hold6 _ _).mono ?_
  rintro e _ ⟨rfl, rfl⟩
  rw [F2.out]
  go_wp2_with fail
  go_ret
  exact ⟨rfl, bel⟩
set_option linter.unusedVariables false in
set_option maxRecDepth 100000 in
set_option maxHeartbeats 16000000 in
theorem writable_3 (sf st se ak fg wn ug : Int) (Q : Option Addr) (nq cq : Nat) (D : Option Addr) (nd cd : Nat) (lq : List UInt8) (w : World) (hv : Sl w Q nq cq lq) (f0 : inOk 65535 sf = true) (f1 : inOk 65535 st = true) (f2 : inOk 63 fg = true) (f3 : inOk 65535 wn = false) : Calls Tryz.prog 97 #[.agg #[.int .i64 sf, .int .i64 st, .int .u32 se, .int .u32 ak, .int .i64 fg, .int .i64 wn, .int .i64 ug, .slice Q nq cq, .slice D nd cd]] w fun e w' => e = .returned (.bool false) ∧ Below w.heap.size w w' := by
  clear hv
  have F0 := Lib.hid f0
  clear f0
  have F1 := Lib.hid f1
  clear f1
  have F2 := Lib.hid f2
  clear f2
  have F3 := Lib.hid f3
  clear f3
  have bel := Below.refl w.heap.size w
  go_enter Tryz.func97, Tryz.ntmps97
  go_wp2_with (first | ((with_reducible show wpList _ _ _ (⟨some 1, _, _, _, _, _⟩ :: _) _ _); refine wpList_box_n rfl 105 (.tmp 0) rfl #[.int .i64 sf, .int .i64 st, .int .u32 se, .int .u32 ak, .int .i64 fg, .int .i64 wn, .int .i64 ug, .slice Q nq cq, .slice D nd cd] rfl ?_; intro g1 w1 ge lt hh bb; have od := Nat.le_trans bel.size ge; replace bel := bel.trans (bb.mono bel.size); have hd := hh; clear hh lt ge bb; have R4 := cell_lit hd 0 _ rfl))
  try clear R4
  with_reducible refine (hold16 _ _).mono ?_
  rintro e _ ⟨rfl, rfl⟩
  rw [F0.out]
  have R8 := cell_lit hd 1 _ rfl
  go_wp2_with fail
  clear R8
  with_reducible refine (hold16 _ _).mono ?_
  rintro e _ ⟨rfl, rfl⟩
  rw [F1.out]
  have R13 := cell_lit hd 4 _ rfl
  go_wp2_with fail
  clear R13
  with_reducible refine (hold6 _ _).mono ?_
  rintro e _ ⟨rfl, rfl⟩
  rw [F2.out]
  have R18 := cell_lit hd 5 _ rfl
  go_wp2_with fail
  clear R18
  with_reducible refine (hold16 _ _).mono ?_
  rintro e _ ⟨rfl, rfl⟩
  rw [F3.out]
  go_wp2_with fail
  go_ret
  exact ⟨rfl, bel⟩
set_option linter.unusedVariables false in
set_option maxRecDepth 100000 in
set_option maxHeartbeats 16000000 in
theorem writable_4 (sf st se ak fg wn ug : Int) (Q : Option Addr) (nq cq : Nat) (D : Option Addr) (nd cd : Nat) (lq : List UInt8) (w : World) (hv : Sl w Q nq cq lq) (f0 : inOk 65535 sf = true) (f1 : inOk 65535 st = true) (f2 : inOk 63 fg = true) (f3 : inOk 65535 wn = true) (f4 : inOk 65535 ug = false) : Calls Tryz.prog 97 #[.agg #[.int .i64 sf, .int .i64 st, .int .u32 se, .int .u32 ak, .int .i64 fg, .int .i64 wn, .int .i64 ug, .slice Q nq cq, .slice D nd cd]] w fun e w' => e = .returned (.bool false) ∧ Below w.heap.size w w' := by
  clear hv
  have F0 := Lib.hid f0
  clear f0
  have F1 := Lib.hid f1
  clear f1
  have F2 := Lib.hid f2
  clear f2
  have F3 := Lib.hid f3
  clear f3
  have F4 := Lib.hid f4
  clear f4
  have bel := Below.refl w.heap.size w
  go_enter Tryz.func97, Tryz.ntmps97
  go_wp2_with (first | ((with_reducible show wpList _ _ _ (⟨some 1, _, _, _, _, _⟩ :: _) _ _); refine wpList_box_n rfl 105 (.tmp 0) rfl #[.int .i64 sf, .int .i64 st, .int .u32 se, .int .u32 ak, .int .i64 fg, .int .i64 wn, .int .i64 ug, .slice Q nq cq, .slice D nd cd] rfl ?_; intro g1 w1 ge lt hh bb; have od := Nat.le_trans bel.size ge; replace bel := bel.trans (bb.mono bel.size); have hd := hh; clear hh lt ge bb; have R4 := cell_lit hd 0 _ rfl))
  try clear R4
  with_reducible refine (hold16 _ _).mono ?_
  rintro e _ ⟨rfl, rfl⟩
  rw [F0.out]
  have R8 := cell_lit hd 1 _ rfl
  go_wp2_with fail
  clear R8
  with_reducible refine (hold16 _ _).mono ?_
  rintro e _ ⟨rfl, rfl⟩
  rw [F1.out]
  have R13 := cell_lit hd 4 _ rfl
  go_wp2_with fail
  clear R13
  with_reducible refine (hold6 _ _).mono ?_
  rintro e _ ⟨rfl, rfl⟩
  rw [F2.out]
  have R18 := cell_lit hd 5 _ rfl
  go_wp2_with fail
  clear R18
  with_reducible refine (hold16 _ _).mono ?_
  rintro e _ ⟨rfl, rfl⟩
  rw [F3.out]
  have R23 := cell_lit hd 6 _ rfl
  go_wp2_with fail
  clear R23
  with_reducible refine (hold16 _ _).mono ?_
  rintro e _ ⟨rfl, rfl⟩
  rw [F4.out]
  go_wp2_with fail
  go_ret
  exact ⟨rfl, bel⟩
set_option linter.unusedVariables false in
set_option maxRecDepth 100000 in
set_option maxHeartbeats 16000000 in
theorem writable_5 (sf st se ak fg wn ug : Int) (Q : Option Addr) (nq cq : Nat) (D : Option Addr) (nd cd : Nat) (lq : List UInt8) (w : World) (hv : Sl w Q nq cq lq) (f0 : inOk 65535 sf = true) (f1 : inOk 65535 st = true) (f2 : inOk 63 fg = true) (f3 : inOk 65535 wn = true) (f4 : inOk 65535 ug = true) (n0 : 40 < nq) : Calls Tryz.prog 97 #[.agg #[.int .i64 sf, .int .i64 st, .int .u32 se, .int .u32 ak, .int .i64 fg, .int .i64 wn, .int .i64 ug, .slice Q nq cq, .slice D nd cd]] w fun e w' => e = .returned (.bool false) ∧ Below w.heap.size w w' := by
  have F0 := Lib.hid f0
  clear f0
  have F1 := Lib.hid f1
  clear f1
  have F2 := Lib.hid f2
  clear f2
  have F3 := Lib.hid f3
  clear f3
  have F4 := Lib.hid f4
  clear f4
  have t0 : decide ((nq : Int) ≤ 40) = false := decide_eq_false (by omega)
  clear n0
  have bel := Below.refl w.heap.size w
  go_enter Tryz.func97, Tryz.ntmps97
  go_wp2_with (first | ((with_reducible show wpList _ _ _ (⟨some 1, _, _, _, _, _⟩ :: _) _ _); refine wpList_box_n rfl 105 (.tmp 0) rfl #[.int .i64 sf, .int .i64 st, .int .u32 se, .int .u32 ak, .int .i64 fg, .int .i64 wn, .int .i64 ug, .slice Q nq cq, .slice D nd cd] rfl ?_; intro g1 w1 ge lt hh bb; have av_hv_d := hv.av_new ge; have od := Nat.le_trans bel.size ge; replace hv := hv.below bb; replace bel := bel.trans (bb.mono bel.size); have hd := hh; clear hh lt ge bb; have R4 := cell_lit hd 0 _ rfl))
  try clear R4
  with_reducible refine (hold16 _ _).mono ?_
  rintro e _ ⟨rfl, rfl⟩
  rw [F0.out]
  have R8 := cell_lit hd 1 _ rfl
  go_wp2_with fail
  clear R8
  with_reducible refine (hold16 _ _).mono ?_
  rintro e _ ⟨rfl, rfl⟩
  rw [F1.out]
  have R13 := cell_lit hd 4 _ rfl
  go_wp2_with fail
  clear R13
  with_reducible refine (hold6 _ _).mono ?_
  rintro e _ ⟨rfl, rfl⟩
  rw [F2.out]
  have R18 := cell_lit hd 5 _ rfl
  go_wp2_with fail
  clear R18
  with_reducible refine (hold16 _ _).mono ?_
  rintro e _ ⟨rfl, rfl⟩
  rw [F3.out]
  have R23 := cell_lit hd 6 _ rfl
  go_wp2_with fail
  clear R23
  with_reducible refine (hold16 _ _).mono ?_
  rintro e _ ⟨rfl, rfl⟩
  rw [F4.out]
  have R28 := cell_lit hd 7 _ rfl
  go_wp2_with fail
  clear R28
  go_ret
  exact ⟨rfl, bel⟩
set_option linter.unusedVariables false in
set_option maxRecDepth 100000 in
set_option maxHeartbeats 16000000 in
theorem writable_6 (sf st se ak fg wn ug : Int) (Q : Option Addr) (nq cq : Nat) (D : Option Addr) (nd cd : Nat) (lq : List UInt8) (w : World) (hv : Sl w Q nq cq lq) (f0 : inOk 65535 sf = true) (f1 : inOk 65535 st = true) (f2 : inOk 63 fg = true) (f3 : inOk 65535 wn = true) (f4 : inOk 65535 ug = true) (n0 : nq ≤ 40) (n1 : nq % 4 ≠ 0) : Calls Tryz.prog 97 #[.agg #[.int .i64 sf, .int .i64 st, .int .u32 se, .int .u32 ak, .int .i64 fg, .int .i64 wn, .int .i64 ug, .slice Q nq cq, .slice D nd cd]] w fun e w' => e = .returned (.bool false) ∧ Below w.heap.size w w' := by
  have F0 := Lib.hid f0
  clear f0
  have F1 := Lib.hid f1
  clear f1
  have F2 := Lib.hid f2
  clear f2
  have F3 := Lib.hid f3
  clear f3
  have F4 := Lib.hid f4
  clear f4
  have t0 : (nq : Int) ≤ 40 := by omega
  clear n0
  have t1 : ((nq : Int) % 4 == 0) = false := by simp; omega
  clear n1
  have bel := Below.refl w.heap.size w
  go_enter Tryz.func97, Tryz.ntmps97
  go_wp2_with (first | ((with_reducible show wpList _ _ _ (⟨some 1, _, _, _, _, _⟩ :: _) _ _); refine wpList_box_n rfl 105 (.tmp 0) rfl #[.int .i64 sf, .int .i64 st, .int .u32 se, .int .u32 ak, .int .i64 fg, .int .i64 wn, .int .i64 ug, .slice Q nq cq, .slice D nd cd] rfl ?_; intro g1 w1 ge lt hh bb; have av_hv_d := hv.av_new ge; have od := Nat.le_trans bel.size ge; replace hv := hv.below bb; replace bel := bel.trans (bb.mono bel.size); have hd := hh; clear hh lt ge bb; have R4 := cell_lit hd 0 _ rfl))
  try clear R4
  with_reducible refine (hold16 _ _).mono ?_
  rintro e _ ⟨rfl, rfl⟩
  rw [F0.out]
  have R8 := cell_lit hd 1 _ rfl
  go_wp2_with fail
  clear R8
  with_reducible refine (hold16 _ _).mono ?_
  rintro e _ ⟨rfl, rfl⟩
  rw [F1.out]
  have R13 := cell_lit hd 4 _ rfl
  go_wp2_with fail
  clear R13
  with_reducible refine (hold6 _ _).mono ?_
  rintro e _ ⟨rfl, rfl⟩
  rw [F2.out]
  have R18 := cell_lit hd 5 _ rfl
  go_wp2_with fail
  clear R18
  with_reducible refine (hold16 _ _).mono ?_
  rintro e _ ⟨rfl, rfl⟩
  rw [F3.out]
  have R23 := cell_lit hd 6 _ rfl
  go_wp2_with fail
  clear R23
  with_reducible refine (hold16 _ _).mono ?_
  rintro e _ ⟨rfl, rfl⟩
  rw [F4.out]
  have R28 := cell_lit hd 7 _ rfl
  have R34 := cell_lit hd 7 _ rfl
  go_wp2_with fail
  clear R28 R34
  go_ret
  exact ⟨rfl, bel⟩
set_option linter.unusedVariables false in
set_option maxRecDepth 100000 in
set_option maxHeartbeats 16000000 in
theorem writable_7 (sf st se ak fg wn ug : Int) (Q : Option Addr) (nq cq : Nat) (D : Option Addr) (nd cd : Nat) (lq : List UInt8) (w : World) (hv : Sl w Q nq cq lq) (f0 : inOk 65535 sf = true) (f1 : inOk 65535 st = true) (f2 : inOk 63 fg = true) (f3 : inOk 65535 wn = true) (f4 : inOk 65535 ug = true) (n0 : nq ≤ 40) (n1 : nq % 4 = 0) : Calls Tryz.prog 97 #[.agg #[.int .i64 sf, .int .i64 st, .int .u32 se, .int .u32 ak, .int .i64 fg, .int .i64 wn, .int .i64 ug, .slice Q nq cq, .slice D nd cd]] w fun e w' => e = .returned (.bool true) ∧ Below w.heap.size w w' := by
  have F0 := Lib.hid f0
  clear f0
  have F1 := Lib.hid f1
  clear f1
  have F2 := Lib.hid f2
  clear f2
  have F3 := Lib.hid f3
  clear f3
  have F4 := Lib.hid f4
  clear f4
  have t0 : (nq : Int) ≤ 40 := by omega
  clear n0
  have t1 : ((nq : Int) % 4 == 0) = true := by simp; omega
  clear n1
  have bel := Below.refl w.heap.size w
  go_enter Tryz.func97, Tryz.ntmps97
  go_wp2_with (first | ((with_reducible show wpList _ _ _ (⟨some 1, _, _, _, _, _⟩ :: _) _ _); refine wpList_box_n rfl 105 (.tmp 0) rfl #[.int .i64 sf, .int .i64 st, .int .u32 se, .int .u32 ak, .int .i64 fg, .int .i64 wn, .int .i64 ug, .slice Q nq cq, .slice D nd cd] rfl ?_; intro g1 w1 ge lt hh bb; have av_hv_d := hv.av_new ge; have od := Nat.le_trans bel.size ge; replace hv := hv.below bb; replace bel := bel.trans (bb.mono bel.size); have hd := hh; clear hh lt ge bb; have R4 := cell_lit hd 0 _ rfl))
  try clear R4
  with_reducible refine (hold16 _ _).mono ?_
  rintro e _ ⟨rfl, rfl⟩
  rw [F0.out]
  have R8 := cell_lit hd 1 _ rfl
  go_wp2_with fail
  clear R8
  with_reducible refine (hold16 _ _).mono ?_
  rintro e _ ⟨rfl, rfl⟩
  rw [F1.out]
  have R13 := cell_lit hd 4 _ rfl
  go_wp2_with fail
  clear R13
  with_reducible refine (hold6 _ _).mono ?_
  rintro e _ ⟨rfl, rfl⟩
  rw [F2.out]
  have R18 := cell_lit hd 5 _ rfl
  go_wp2_with fail
  clear R18
  with_reducible refine (hold16 _ _).mono ?_
  rintro e _ ⟨rfl, rfl⟩
  rw [F3.out]
  have R23 := cell_lit hd 6 _ rfl
  go_wp2_with fail
  clear R23
  with_reducible refine (hold16 _ _).mono ?_
  rintro e _ ⟨rfl, rfl⟩
  rw [F4.out]
  have R28 := cell_lit hd 7 _ rfl
  have R34 := cell_lit hd 7 _ rfl
  go_wp2_with fail
  clear R28 R34
  go_ret
  exact ⟨rfl, bel⟩
theorem writable_any (sf st se ak fg wn ug : Int) (Q : Option Addr) (nq cq : Nat) (D : Option Addr) (nd cd : Nat) (lq : List UInt8) (w : World) (hv : Sl w Q nq cq lq) : Calls Tryz.prog 97 #[.agg #[.int .i64 sf, .int .i64 st, .int .u32 se, .int .u32 ak, .int .i64 fg, .int .i64 wn, .int .i64 ug, .slice Q nq cq, .slice D nd cd]] w fun e w' => e = .returned (.bool (segOk sf st fg wn ug nq)) ∧ Below w.heap.size w w' := by
  rcases (by decide : ∀ b : Bool, b = true ∨ b = false) (inOk 65535 sf) with f0 | f0
  · rcases (by decide : ∀ b : Bool, b = true ∨ b = false) (inOk 65535 st) with f1 | f1
    · rcases (by decide : ∀ b : Bool, b = true ∨ b = false) (inOk 63 fg) with f2 | f2
      · rcases (by decide : ∀ b : Bool, b = true ∨ b = false) (inOk 65535 wn) with f3 | f3
        · rcases (by decide : ∀ b : Bool, b = true ∨ b = false) (inOk 65535 ug) with f4 | f4
          · by_cases n0 : nq ≤ 40
            · by_cases n1 : nq % 4 = 0
              · rw [show segOk sf st fg wn ug nq = true by unfold segOk; simp [f0, f1, f2, f3, f4, n0, n1]]
                exact writable_7 sf st se ak fg wn ug Q nq cq D nd cd lq w hv f0 f1 f2 f3 f4 n0 n1
              · rw [show segOk sf st fg wn ug nq = false by unfold segOk; simp [f0, f1, f2, f3, f4]; omega]
                exact writable_6 sf st se ak fg wn ug Q nq cq D nd cd lq w hv f0 f1 f2 f3 f4 n0 n1
            · rw [show segOk sf st fg wn ug nq = false by unfold segOk; simp [f0, f1, f2, f3, f4]; omega]
              exact writable_5 sf st se ak fg wn ug Q nq cq D nd cd lq w hv f0 f1 f2 f3 f4 (by omega)
          · rw [show segOk sf st fg wn ug nq = false by unfold segOk; simp [f0, f1, f2, f3, f4]]
            exact writable_4 sf st se ak fg wn ug Q nq cq D nd cd lq w hv f0 f1 f2 f3 f4
        · rw [show segOk sf st fg wn ug nq = false by unfold segOk; simp [f0, f1, f2, f3]]
          exact writable_3 sf st se ak fg wn ug Q nq cq D nd cd lq w hv f0 f1 f2 f3
      · rw [show segOk sf st fg wn ug nq = false by unfold segOk; simp [f0, f1, f2]]
        exact writable_2 sf st se ak fg wn ug Q nq cq D nd cd lq w hv f0 f1 f2
    · rw [show segOk sf st fg wn ug nq = false by unfold segOk; simp [f0, f1]]
      exact writable_1 sf st se ak fg wn ug Q nq cq D nd cd lq w hv f0 f1
  · rw [show segOk sf st fg wn ug nq = false by unfold segOk; simp [f0]]
    exact writable_0 sf st se ak fg wn ug Q nq cq D nd cd lq w hv f0
set_option maxRecDepth 100000 in
set_option maxHeartbeats 16000000 in
theorem tcfits_any (tos id fl pt ttl pr : Int) (a0 a1 a2 a3 a4 a5 a6 a7 : UInt8) (So Sb : Option Addr) (no co nb cb : Nat) (lb : List UInt8) (w : World) (hb : Sl w Sb nb cb lb) (hm : nb ≤ 100000) : Calls Tryz.prog 100 #[.agg #[.int .i64 tos, .int .i64 id, .int .i64 fl, .int .i64 pt, .int .i64 ttl, .int .i64 pr, .int .u8 (a0.toNat : Int), .int .u8 (a1.toNat : Int), .int .u8 (a2.toNat : Int), .int .u8 (a3.toNat : Int), .int .u8 (a4.toNat : Int), .int .u8 (a5.toNat : Int), .int .u8 (a6.toNat : Int), .int .u8 (a7.toNat : Int), .slice So no co, .slice Sb nb cb]] w fun e w' => e = .returned (.bool (decide (ck (l4Ps a0 a1 a2 a3 a4 a5 a6 a7 pr (nb : Int) ++ lb) = 0))) ∧ Below w.heap.size w w' := by
  obtain ⟨ii, hii, hz0, hz1, hz2⟩ := info_parts Tryz.info5
  have n2 : (nb : Int) ≤ 100000 := by omega
  have bel := Below.refl w.heap.size w
  go_enter Tryz.func100, Tryz.ntmps100
  go_wp2_with (first | ((with_reducible show wpList _ _ _ (⟨some 1, _, _, _, _, _⟩ :: _) _ _); refine wpList_box_n rfl 38 (.tmp 0) rfl #[.int .i64 tos, .int .i64 id, .int .i64 fl, .int .i64 pt, .int .i64 ttl, .int .i64 pr, .int .u8 (a0.toNat : Int), .int .u8 (a1.toNat : Int), .int .u8 (a2.toNat : Int), .int .u8 (a3.toNat : Int), .int .u8 (a4.toNat : Int), .int .u8 (a5.toNat : Int), .int .u8 (a6.toNat : Int), .int .u8 (a7.toNat : Int), .slice So no co, .slice Sb nb cb] rfl ?_; intro g1 w1 ge lt hh bb; have av_hb_p := hb.av_new ge; have op := Nat.le_trans bel.size ge; replace hb := hb.below bb; replace bel := bel.trans (bb.mono bel.size); have hp := hh; clear hh lt ge bb))
  replace bel := bel.drew
  replace hp : w1.drew.heap[g1]? = _ := hp
  replace hb := hb.drew
  refine wp_region_held_drew (S := fun W => W.heap[g1]? = some (.cells #[.int .i64 tos, .int .i64 id, .int .i64 fl, .int .i64 pt, .int .i64 ttl, .int .i64 pr, .int .u8 (a0.toNat : Int), .int .u8 (a1.toNat : Int), .int .u8 (a2.toNat : Int), .int .u8 (a3.toNat : Int), .int .u8 (a4.toNat : Int), .int .u8 (a5.toNat : Int), .int .u8 (a6.toNat : Int), .int .u8 (a7.toNat : Int), .slice So no co, .slice Sb nb cb] 38 (0, 0))) (by kernel_rfl) hp (fun hH => ?_)
  generalize w1.drew = w2 at bel hp hb hH ⊢
  refine wpAnyH_take (i := 0) (v := .agg #[.int .i64 tos, .int .i64 id, .int .i64 fl, .int .i64 pt, .int .i64 ttl, .int .i64 pr, .int .u8 (a0.toNat : Int), .int .u8 (a1.toNat : Int), .int .u8 (a2.toNat : Int), .int .u8 (a3.toNat : Int), .int .u8 (a4.toNat : Int), .int .u8 (a5.toNat : Int), .int .u8 (a6.toNat : Int), .int .u8 (a7.toNat : Int), .slice So no co, .slice Sb nb cb]) rfl (by kernel_rfl) (by kernel_rfl) (by kernel_rfl) (fun _ _ _ h => h) (yieldsIf_load_part (by kernel_rfl) 38 _ rfl g1 0 16 rfl _ 38 (0, 0) (fun W hW => hW) _ rfl _ Tryz.underlying38 rfl (by kernel_rfl)) hH ?_
  simp only [Act.put, List.getElem_toArray, List.getElem_cons_zero, List.setIfInBounds_toArray, List.set_cons_zero, List.set_cons_succ]
  refine wpAnyH_take (i := 1) (v := ?_) rfl (by kernel_rfl) (by kernel_rfl) (by kernel_rfl) (fun _ _ _ h => h) (Or.inl ⟨by rfl, ?_⟩) hH ?_
  rotate_left
  · ((intro W hW; clear hW; go_simp) <;> with_reducible rfl)
  simp only [sq3, sq4]
  refine wpAnyH_take (i := 2) (v := ?_) rfl (by kernel_rfl) (by kernel_rfl) (by kernel_rfl) (fun _ _ _ h => h) (Or.inl ⟨by rfl, ?_⟩) hH ?_
  rotate_left
  · ((intro W hW; have hk := cell_lit (hW) 15 _ rfl; clear hW; go_simp) <;> with_reducible rfl)
  simp only [sq3, sq4]
  refine wpAnyH_take (i := 3) (v := ?_) rfl (by kernel_rfl) (by kernel_rfl) (by kernel_rfl) (fun _ _ _ h => h) (Or.inl ⟨by rfl, ?_⟩) hH ?_
  rotate_left
  · ((intro W hW; clear hW; go_simp) <;> with_reducible rfl)
  simp only [sq3, sq4]
  refine wpAnyH_take (i := 5) (v := ?_) rfl (by kernel_rfl) (by kernel_rfl) (by kernel_rfl) (fun _ _ _ h => h) (Or.inl ⟨by rfl, ?_⟩) hH ?_
  rotate_left
  · ((intro W hW; clear hW; go_simp) <;> with_reducible rfl)
  simp only [sq3, sq4]
  refine wpAnyH_take (i := 6) (v := ?_) rfl (by kernel_rfl) (by kernel_rfl) (by kernel_rfl) (fun _ _ _ h => h) (Or.inl ⟨by rfl, ?_⟩) hH ?_
  rotate_left
  · ((intro W hW; have hk := cell_lit (hW) 15 _ rfl; clear hW; go_simp) <;> with_reducible rfl)
  simp only [sq3, sq4]
  refine wpAnyH_ready (rs := [4]) (by kernel_rfl) (by simp) ?_
  refine AllReadyH.cons (o := _) rfl (fun K hK => ?_) AllReadyH.nil
  simp only [sq3]
  go_simp
  with_reducible refine (ippseudo_o _ _ _ _ _ _ _ _ _ _ _ _ _ _ _ _ _ _ _ _ _ _).mono ?_
  rintro e w3 ⟨v, rfl, psw, b3⟩
  dsimp only
  have y_ps_p := Lib.hid (hlt hp)
  have bl_hb_ps := hb.bl_new
  have pslo := bel.size
  have lz_ps := b3.size
  replace hp := blk_u hp b3
  replace hb := hb.below b3
  replace bel := bel.trans (b3.mono bel.size)
  clear b3
  obtain ⟨Aps, cps, rfl⟩ := own_val psw
  have ps := (own_sl psw).1
  have fr_ps := (own_sl psw).2
  have av_ps_p := fr_ps.av y_ps_p.out
  refine hK.out _ _ hp (fun hH4 => ?_)
  clear hK K
  refine wpAnyH_ready (rs := [7]) (by kernel_rfl) (by simp) ?_
  refine AllReadyH.cons (o := _) rfl (fun K hK => ?_) AllReadyH.nil
  simp only [sq3]
  rw [if_pos (by rfl)]
  refine wp_append_bb (.tmp 7) (.tmp 9) 36 rfl (w2.heap.size) 5 ii (.int .u8 0) Tryz.underlying36 hii hz0 hz1 hz2 rfl _ (12) (l4Ps a0 a1 a2 a3 a4 a5 a6 a7 pr (nb : Int)) rfl psw (Sb) (nb) (cb) (lb) rfl hb (by have := hm; omega) lz_ps ?_
  intro v10 w5 own_ bb
  replace hb := hb.under bl_hb_ps bb
  replace hp := blk_under hp bb y_ps_p.out
  replace bel := bel.trans (bb.mono pslo)
  have lz_s12 := Nat.le_trans lz_ps bb.size
  clear bb
  clear ps psw lz_ps
  replace own_ : w5.ownsRow (w2.heap.size) 5 1 v10 (12 + nb) ((l4Ps a0 a1 a2 a3 a4 a5 a6 a7 pr (nb : Int) ++ lb : List UInt8).map u8v) := own_
  obtain ⟨A10, c10, rfl⟩ := own_val own_
  have s12w := own_
  have s12 := (own_sl own_).1
  have fr_s12 := (own_sl own_).2
  clear own_
  have av_s12_p := fr_s12.av y_ps_p.out
  refine hK.out _ _ hp (fun hH6 => ?_)
  clear hK K
  simp only [sq4]
  refine wpAnyH_ready (rs := [8]) (by kernel_rfl) (by simp) ?_
  refine AllReadyH.cons (o := _) rfl (fun K hK => ?_) AllReadyH.nil
  simp only [sq3]
  go_simp
  with_reducible refine (fitsd _ _ _ _ _ s12).mono ?_
  rintro e w7 ⟨rfl, b7⟩
  dsimp only
  replace hp := blk_u hp b7
  replace hb := hb.below b7
  replace s12 := s12.below b7
  replace s12w := own_under s12w b7
  replace lz_s12 := Nat.le_trans lz_s12 b7.size
  replace bel := bel.trans (b7.mono bel.size)
  clear b7
  refine hK.out _ _ hp (fun hH8 => ?_)
  clear hK K
  refine wpAnyH_take (i := 9) (v := ?_) rfl (by kernel_rfl) (by kernel_rfl) (by kernel_rfl) (fun _ _ _ h => h) (Or.inl ⟨by rfl, ?_⟩) hH8 ?_
  rotate_left
  · ((intro W hW; clear hW; go_simp) <;> with_reducible rfl)
  simp only [sq3, sq4]
  refine wpAnyH_done (by kernel_rfl) ?_ _
  go_wp2_with fail
  go_ret
  exact ⟨rfl, bel⟩
set_option maxRecDepth 100000 in
set_option maxHeartbeats 16000000 in
theorem tcwrite_0 (tos id fl pt ttl pr : Int) (a0 a1 a2 a3 a4 a5 a6 a7 : UInt8) (So Sb : Option Addr) (no co nb cb : Nat) (sf st se ak fg wn ug : Int) (Q : Option Addr) (nq cq : Nat) (D : Option Addr) (nd cd : Nat) (lq ld : List UInt8) (sm : Int) (w : World) (hv : Sl w Q nq cq lq) (hb : Sl w D nd cd ld) (hm : nd ≤ 1460) (hq : nq ≤ 40) (hq4 : nq % 4 = 0) (e0 : 0 ≤ se) (e1 : se < 4294967296) (k0 : 0 ≤ ak) (k1 : ak < 4294967296) (hsm : ck [l4Ps a0 a1 a2 a3 a4 a5 a6 a7 pr (20 + (nq : Int) + nd), [] ++ two sf ++ two st ++ four se ++ four ak ++ [byteOf (80 + 4 * (nq : Int)), byteOf fg] ++ two wn, [] ++ two ug ++ lq ++ ld].flatten = sm) : Calls Tryz.prog 98 #[.agg #[.int .i64 tos, .int .i64 id, .int .i64 fl, .int .i64 pt, .int .i64 ttl, .int .i64 pr, .int .u8 (a0.toNat : Int), .int .u8 (a1.toNat : Int), .int .u8 (a2.toNat : Int), .int .u8 (a3.toNat : Int), .int .u8 (a4.toNat : Int), .int .u8 (a5.toNat : Int), .int .u8 (a6.toNat : Int), .int .u8 (a7.toNat : Int), .slice So no co, .slice Sb nb cb], .agg #[.int .i64 sf, .int .i64 st, .int .u32 se, .int .u32 ak, .int .i64 fg, .int .i64 wn, .int .i64 ug, .slice Q nq cq, .slice D nd cd]] w fun e w' => ∃ v, e = .returned v ∧ w'.ownsRow w.heap.size 5 1 v (20 + nq + nd) ((tcA sf st se ak nq fg wn ++ two sm ++ (two ug ++ lq ++ ld)).map u8v) ∧ Below w.heap.size w w' := by
  have HS : Hid (ck [l4Ps a0 a1 a2 a3 a4 a5 a6 a7 pr (20 + (nq : Int) + nd), [] ++ two sf ++ two st ++ four se ++ four ak ++ [byteOf (80 + 4 * (nq : Int)), byteOf fg] ++ two wn, [] ++ two ug ++ lq ++ ld].flatten = sm) := Lib.hid hsm
  have E0 := Lib.hid e0
  have E1 := Lib.hid e1
  have K0 := Lib.hid k0
  have K1 := Lib.hid k1
  have n0 : (0 : Int) ≤ nd := by omega
  have n1 : (nd : Int) ≤ 1460 := by omega
  have n2 : (0 : Int) ≤ nq := by omega
  have n3 : (nq : Int) ≤ 40 := by omega
  have e4 : (20 + (nq : Int)) / 4 * 16 = 80 + 4 * (nq : Int) := by omega
  clear hsm e0 e1 k0 k1 hq4
  obtain ⟨ii, hii, hz0, hz1, hz2⟩ := info_parts Tryz.info5
  have bel := Below.refl w.heap.size w
  go_enter Tryz.func98, Tryz.ntmps98
  go_wp2_with (first | ((with_reducible show wpList _ _ _ (⟨some 2, _, _, _, _, _⟩ :: _) _ _); refine wpList_box_n rfl 38 (.tmp 0) rfl #[.int .i64 tos, .int .i64 id, .int .i64 fl, .int .i64 pt, .int .i64 ttl, .int .i64 pr, .int .u8 (a0.toNat : Int), .int .u8 (a1.toNat : Int), .int .u8 (a2.toNat : Int), .int .u8 (a3.toNat : Int), .int .u8 (a4.toNat : Int), .int .u8 (a5.toNat : Int), .int .u8 (a6.toNat : Int), .int .u8 (a7.toNat : Int), .slice So no co, .slice Sb nb cb] rfl ?_; intro g2 w1 ge lt hh bb; have av_hv_p := hv.av_new ge; have av_hb_p := hb.av_new ge; have op := Nat.le_trans bel.size ge; replace hv := hv.below bb; replace hb := hb.below bb; replace bel := bel.trans (bb.mono bel.size); have hp := hh; clear hh lt ge bb) | ((with_reducible show wpList _ _ _ (⟨some 3, _, _, _, _, _⟩ :: _) _ _); refine wpList_box_n rfl 105 (.tmp 1) rfl #[.int .i64 sf, .int .i64 st, .int .u32 se, .int .u32 ak, .int .i64 fg, .int .i64 wn, .int .i64 ug, .slice Q nq cq, .slice D nd cd] rfl ?_; intro g3 w2 ge lt hh bb; have d_p_d := ne_new (hlt hp) ge; have av_hv_d := hv.av_new ge; have av_hb_d := hb.av_new ge; have od := Nat.le_trans bel.size ge; replace hp := blk_u hp bb; replace hv := hv.below bb; replace hb := hb.below bb; replace bel := bel.trans (bb.mono bel.size); have hd := hh; clear hh lt ge bb; have R10 := cell_lit hd 7 _ rfl; have R14 := cell_lit hd 0 _ rfl))
  try clear R10
  try clear R14
  with_reducible refine (w16_oto _ 0 2 _ _ _ _ rfl (Sl.nil _) (by omega)).mono ?_
  rintro e w3 ⟨v, rfl, h1w, b3⟩
  have y_h1_p := Lib.hid (hlt hp)
  have y_h1_d := Lib.hid (hlt hd)
  have bl_hv_h1 := hv.bl_new
  have bl_hb_h1 := hb.bl_new
  have h1lo := bel.size
  have lz_h1 := b3.size
  replace hp := blk_u hp b3
  replace hd := blk_u hd b3
  replace hv := hv.below b3
  replace hb := hb.below b3
  replace bel := bel.trans (b3.mono bel.size)
  clear b3
  obtain ⟨Ah1, ch1, rfl⟩ := own_val h1w
  have h1 := (own_sl h1w).1
  have fr_h1 := (own_sl h1w).2
  have av_h1_p := fr_h1.av y_h1_p.out
  have av_h1_d := fr_h1.av y_h1_d.out
  have R18 := cell_lit hd 1 _ rfl
  go_wp2_with fail
  clear R18
  with_reducible refine (w16_oto _ 2 4 _ _ _ _ rfl h1 (by omega)).mono ?_
  rintro e w4 ⟨v, rfl, h2w, b4⟩
  have y_h2_p := Lib.hid (hlt hp)
  have y_h2_d := Lib.hid (hlt hd)
  have bl_hv_h2 := hv.bl_new
  have bl_hb_h2 := hb.bl_new
  have bl_h1_h2 := h1.bl_new
  have h2lo := bel.size
  have lz_h2 := b4.size
  replace hp := blk_u hp b4
  replace hd := blk_u hd b4
  replace hv := hv.below b4
  replace hb := hb.below b4
  replace h1 := h1.below b4
  replace h1w := own_under h1w b4
  replace lz_h1 := Nat.le_trans lz_h1 b4.size
  replace bel := bel.trans (b4.mono bel.size)
  clear b4
  obtain ⟨Ah2, ch2, rfl⟩ := own_val h2w
  have h2 := (own_sl h2w).1
  have fr_h2 := (own_sl h2w).2
  have av_h2_p := fr_h2.av y_h2_p.out
  have av_h2_d := fr_h2.av y_h2_d.out
  have R22 := cell_lit hd 2 _ rfl
  go_wp2_with fail
  clear R22
  with_reducible refine (w32_oto _ 4 8 _ _ _ _ E0.out E1.out rfl h2 (by omega)).mono ?_
  rintro e w5 ⟨v, rfl, h3w, b5⟩
  have y_h3_p := Lib.hid (hlt hp)
  have y_h3_d := Lib.hid (hlt hd)
  have bl_hv_h3 := hv.bl_new
  have bl_hb_h3 := hb.bl_new
  have bl_h1_h3 := h1.bl_new
  have bl_h2_h3 := h2.bl_new
  have h3lo := bel.size
  have lz_h3 := b5.size
  replace hp := blk_u hp b5
  replace hd := blk_u hd b5
  replace hv := hv.below b5
  replace hb := hb.below b5
  replace h1 := h1.below b5
  replace h1w := own_under h1w b5
  replace h2 := h2.below b5
  replace h2w := own_under h2w b5
  replace lz_h1 := Nat.le_trans lz_h1 b5.size
  replace lz_h2 := Nat.le_trans lz_h2 b5.size
  replace bel := bel.trans (b5.mono bel.size)
  clear b5
  obtain ⟨Ah3, ch3, rfl⟩ := own_val h3w
  have h3 := (own_sl h3w).1
  have fr_h3 := (own_sl h3w).2
  have av_h3_p := fr_h3.av y_h3_p.out
  have av_h3_d := fr_h3.av y_h3_d.out
  have R26 := cell_lit hd 3 _ rfl
  go_wp2_with fail
  clear R26
  with_reducible refine (w32_oto _ 8 12 _ _ _ _ K0.out K1.out rfl h3 (by omega)).mono ?_
  rintro e w6 ⟨v, rfl, h4w, b6⟩
  have y_h4_p := Lib.hid (hlt hp)
  have y_h4_d := Lib.hid (hlt hd)
  have bl_hv_h4 := hv.bl_new
  have bl_hb_h4 := hb.bl_new
  have bl_h1_h4 := h1.bl_new
  have bl_h2_h4 := h2.bl_new
  have bl_h3_h4 := h3.bl_new
  have h4lo := bel.size
  have lz_h4 := b6.size
  replace hp := blk_u hp b6
  replace hd := blk_u hd b6
  replace hv := hv.below b6
  replace hb := hb.below b6
  replace h1 := h1.below b6
  replace h1w := own_under h1w b6
  replace h2 := h2.below b6
  replace h2w := own_under h2w b6
  replace h3 := h3.below b6
  replace h3w := own_under h3w b6
  replace lz_h1 := Nat.le_trans lz_h1 b6.size
  replace lz_h2 := Nat.le_trans lz_h2 b6.size
  replace lz_h3 := Nat.le_trans lz_h3 b6.size
  replace bel := bel.trans (b6.mono bel.size)
  clear b6
  obtain ⟨Ah4, ch4, rfl⟩ := own_val h4w
  have h4 := (own_sl h4w).1
  have fr_h4 := (own_sl h4w).2
  have av_h4_p := fr_h4.av y_h4_p.out
  have av_h4_d := fr_h4.av y_h4_d.out
  have R34 := cell_lit hd 4 _ rfl
  go_wp2_with (first | ((with_reducible show wpList _ _ _ (⟨some 36, _, _, _, _, _⟩ :: _) _ _); refine wpList_lit_n rfl 36 5 2 _ rfl #[.int .u8 (80 + 4 * (nq : Int)), .int .u8 (fg % 256)] (.int .u8 0) Tryz.underlying36 (by kernel_rfl) 1 (by kernel_rfl) (by decide) (by kernel_rfl) ?_; intro g36 w7 ge lt hh bb; have hl : w7.heap[g36]? = some (.cells (([byteOf (80 + 4 * (nq : Int)), byteOf fg] : List UInt8).map u8v).toArray 5 (0, 0)) := (by have e5 : (80 + 4 * (nq : Int)) % 256 = 80 + 4 * (nq : Int) := (by omega); simpa [u8v, byteOf_val, e5] using hh); have tww := own_lit (B := w6.heap.size) ([byteOf (80 + 4 * (nq : Int)), byteOf fg]) hl ge 2 rfl (by simp [maxLen]); have tw := (own_sl tww).1; have twlo := bel.size; clear hl; have twge := ge; have lz_tw := bb.size; have y_tw_p := Lib.hid (hlt hp); have y_tw_d := Lib.hid (hlt hd); have bl_hv_tw := hv.bl_new; have bl_hb_tw := hb.bl_new; have bl_h1_tw := h1.bl_new; have bl_h2_tw := h2.bl_new; have bl_h3_tw := h3.bl_new; have bl_h4_tw := h4.bl_new; have d_p_b36 := ne_new (hlt hp) ge; have d_d_b36 := ne_new (hlt hd) ge; have av_hv_b36 := hv.av_new ge; have av_hb_b36 := hb.av_new ge; have av_h1_b36 := h1.av_new ge; have of_h1_b36 := own_new h1w ge; have av_h2_b36 := h2.av_new ge; have of_h2_b36 := own_new h2w ge; have av_h3_b36 := h3.av_new ge; have of_h3_b36 := own_new h3w ge; have av_h4_b36 := h4.av_new ge; have of_h4_b36 := own_new h4w ge; have ob36 := Nat.le_trans bel.size ge; replace hp := blk_u hp bb; replace hd := blk_u hd bb; replace hv := hv.below bb; replace hb := hb.below bb; replace h1 := h1.below bb; replace h1w := own_under h1w bb; replace h2 := h2.below bb; replace h2w := own_under h2w bb; replace h3 := h3.below bb; replace h3w := own_under h3w bb; replace h4 := h4.below bb; replace h4w := own_under h4w bb; replace lz_h1 := Nat.le_trans lz_h1 bb.size; replace lz_h2 := Nat.le_trans lz_h2 bb.size; replace lz_h3 := Nat.le_trans lz_h3 bb.size; replace lz_h4 := Nat.le_trans lz_h4 bb.size; replace bel := bel.trans (bb.mono bel.size); have hb36 := hh; clear hh lt ge bb; have av_tw_p := (own_sl tww).2.av y_tw_p.out; have av_tw_d := (own_sl tww).2.av y_tw_d.out) | ((with_reducible show wpList _ _ _ (⟨some 37, _, _, _, _, _⟩ :: _) _ _); refine wpList_append_bb _ rfl (.tmp 28) (.tmp 36) 36 rfl (w5.heap.size) 5 ii (.int .u8 0) Tryz.underlying36 hii hz0 hz1 hz2 rfl _ (12) ([] ++ two sf ++ two st ++ four se ++ four ak) rfl h4w (some ⟨g36, 0, none⟩) (2) (2) ([byteOf (80 + 4 * (nq : Int)), byteOf fg]) rfl tw (by omega) lz_h4 ?_; intro v37 w8 own_ bb; replace hv := hv.under bl_hv_h4 bb; replace hb := hb.under bl_hb_h4 bb; replace h1 := h1.under bl_h1_h4 bb; clear h1w lz_h1; replace h2 := h2.under bl_h2_h4 bb; clear h2w lz_h2; replace h3 := h3.under bl_h3_h4 bb; clear h3w lz_h3; clear tw tww lz_tw; replace hp := blk_under hp bb y_h4_p.out; replace hd := blk_under hd bb y_h4_d.out; clear hb36; replace bel := bel.trans (bb.mono h4lo); have lz_s37 := Nat.le_trans lz_h4 bb.size; clear bb; clear h4 h4w lz_h4; replace own_ : w8.ownsRow (w5.heap.size) 5 1 v37 (14) (([] ++ two sf ++ two st ++ four se ++ four ak ++ [byteOf (80 + 4 * (nq : Int)), byteOf fg] : List UInt8).map u8v) := own_; obtain ⟨A37, c37, rfl⟩ := own_val own_; have s37w := own_; have s37 := (own_sl own_).1; have fr_s37 := (own_sl own_).2; clear own_; have av_s37_p := fr_s37.av y_h4_p.out; have av_s37_d := fr_s37.av y_h4_d.out; have R40 := cell_lit hd 5 _ rfl))
  try clear R34
  try clear R40
  with_reducible refine (w16_oto _ 14 16 _ _ _ _ rfl s37 (by omega)).mono ?_
  rintro e w9 ⟨v, rfl, h6w, b9⟩
  have y_h6_p := Lib.hid (hlt hp)
  have y_h6_d := Lib.hid (hlt hd)
  have bl_hv_h6 := hv.bl_new
  have bl_hb_h6 := hb.bl_new
  have bl_h1_h6 := h1.bl_new
  have bl_h2_h6 := h2.bl_new
  have bl_h3_h6 := h3.bl_new
  have bl_s37_h6 := s37.bl_new
  have h6lo := bel.size
  have lz_h6 := b9.size
  replace hp := blk_u hp b9
  replace hd := blk_u hd b9
  replace hv := hv.below b9
  replace hb := hb.below b9
  replace h1 := h1.below b9
  replace h2 := h2.below b9
  replace h3 := h3.below b9
  replace s37 := s37.below b9
  replace s37w := own_under s37w b9
  replace lz_s37 := Nat.le_trans lz_s37 b9.size
  replace bel := bel.trans (b9.mono bel.size)
  clear b9
  obtain ⟨Ah6, ch6, rfl⟩ := own_val h6w
  have h6 := (own_sl h6w).1
  have fr_h6 := (own_sl h6w).2
  have av_h6_p := fr_h6.av y_h6_p.out
  have av_h6_d := fr_h6.av y_h6_d.out
  have R43 := cell_lit hd 6 _ rfl
  go_wp2_with fail
  clear R43
  with_reducible refine (w16_oto _ 0 2 _ _ _ _ rfl (Sl.nil _) (by omega)).mono ?_
  rintro e w10 ⟨v, rfl, k1w, b10⟩
  have y_k1_p := Lib.hid (hlt hp)
  have y_k1_d := Lib.hid (hlt hd)
  have bl_hv_k1 := hv.bl_new
  have bl_hb_k1 := hb.bl_new
  have bl_h1_k1 := h1.bl_new
  have bl_h2_k1 := h2.bl_new
  have bl_h3_k1 := h3.bl_new
  have bl_s37_k1 := s37.bl_new
  have bl_h6_k1 := h6.bl_new
  have k1lo := bel.size
  have lz_k1 := b10.size
  replace hp := blk_u hp b10
  replace hd := blk_u hd b10
  replace hv := hv.below b10
  replace hb := hb.below b10
  replace h1 := h1.below b10
  replace h2 := h2.below b10
  replace h3 := h3.below b10
  replace s37 := s37.below b10
  replace s37w := own_under s37w b10
  replace h6 := h6.below b10
  replace h6w := own_under h6w b10
  replace lz_s37 := Nat.le_trans lz_s37 b10.size
  replace lz_h6 := Nat.le_trans lz_h6 b10.size
  replace bel := bel.trans (b10.mono bel.size)
  clear b10
  obtain ⟨Ak1, ck1, rfl⟩ := own_val k1w
  have k1 := (own_sl k1w).1
  have fr_k1 := (own_sl k1w).2
  have av_k1_p := fr_k1.av y_k1_p.out
  have av_k1_d := fr_k1.av y_k1_d.out
  have R47 := cell_lit hd 7 _ rfl
  go_wp2_with (first | ((with_reducible show wpList _ _ _ (⟨some 48, _, _, _, _, _⟩ :: _) _ _); refine wpList_append_bb _ rfl (.tmp 45) (.tmp 47) 36 rfl (w9.heap.size) 5 ii (.int .u8 0) Tryz.underlying36 hii hz0 hz1 hz2 rfl _ (2) ([] ++ two ug) rfl k1w (Q) (nq) (cq) (lq) rfl hv (by omega) lz_k1 ?_; intro v48 w11 own_ bb; replace hv := hv.under bl_hv_k1 bb; replace hb := hb.under bl_hb_k1 bb; replace h1 := h1.under bl_h1_k1 bb; replace h2 := h2.under bl_h2_k1 bb; replace h3 := h3.under bl_h3_k1 bb; replace s37 := s37.under bl_s37_k1 bb; clear s37w lz_s37; replace h6 := h6.under bl_h6_k1 bb; clear h6w lz_h6; replace hp := blk_under hp bb y_k1_p.out; replace hd := blk_under hd bb y_k1_d.out; replace bel := bel.trans (bb.mono k1lo); have lz_k2 := Nat.le_trans lz_k1 bb.size; clear bb; clear k1 k1w lz_k1; replace own_ : w11.ownsRow (w9.heap.size) 5 1 v48 (2 + nq) (([] ++ two ug ++ lq : List UInt8).map u8v) := own_; obtain ⟨A48, c48, rfl⟩ := own_val own_; have k2w := own_; have k2 := (own_sl own_).1; have fr_k2 := (own_sl own_).2; clear own_; have av_k2_p := fr_k2.av y_k1_p.out; have av_k2_d := fr_k2.av y_k1_d.out; have R51 := cell_lit hd 8 _ rfl) | ((with_reducible show wpList _ _ _ (⟨some 52, _, _, _, _, _⟩ :: _) _ _); refine wpList_append_bb _ rfl (.tmp 49) (.tmp 51) 36 rfl (w9.heap.size) 5 ii (.int .u8 0) Tryz.underlying36 hii hz0 hz1 hz2 rfl _ (2 + nq) ([] ++ two ug ++ lq) rfl k2w (D) (nd) (cd) (ld) rfl hb (by omega) lz_k2 ?_; intro v52 w12 own_ bb; replace hv := hv.under bl_hv_k1 bb; replace hb := hb.under bl_hb_k1 bb; replace h1 := h1.under bl_h1_k1 bb; replace h2 := h2.under bl_h2_k1 bb; replace h3 := h3.under bl_h3_k1 bb; replace s37 := s37.under bl_s37_k1 bb; replace h6 := h6.under bl_h6_k1 bb; replace hp := blk_under hp bb y_k1_p.out; replace hd := blk_under hd bb y_k1_d.out; replace bel := bel.trans (bb.mono k1lo); have lz_k3 := Nat.le_trans lz_k2 bb.size; clear bb; clear k2 k2w lz_k2; replace own_ : w12.ownsRow (w9.heap.size) 5 1 v52 (2 + nq + nd) (([] ++ two ug ++ lq ++ ld : List UInt8).map u8v) := own_; obtain ⟨A52, c52, rfl⟩ := own_val own_; have k3w := own_; have k3 := (own_sl own_).1; have fr_k3 := (own_sl own_).2; clear own_; have av_k3_p := fr_k3.av y_k1_p.out; have av_k3_d := fr_k3.av y_k1_d.out; have R53 := Lib.hid (range_lit hp 0 16 [.int .i64 tos, .int .i64 id, .int .i64 fl, .int .i64 pt, .int .i64 ttl, .int .i64 pr, .int .u8 (a0.toNat : Int), .int .u8 (a1.toNat : Int), .int .u8 (a2.toNat : Int), .int .u8 (a3.toNat : Int), .int .u8 (a4.toNat : Int), .int .u8 (a5.toNat : Int), .int .u8 (a6.toNat : Int), .int .u8 (a7.toNat : Int), .slice So no co, .slice Sb nb cb] rfl)) | ((with_reducible show wpList _ _ _ (⟨some 53, _, _, _, _, _⟩ :: _) _ _); refine wpList_load_rng 38 (.tmp 2) rfl (by kernel_rfl) _ _ rfl _ R53.out _ Tryz.underlying38 rfl (by kernel_rfl) ?_; have R56 := cell_lit hd 8 _ rfl))
  try clear R47
  try clear R51
  try clear R53
  try clear R56
  with_reducible refine (ippseudo_any _ _ _ _ _ _ _ _ _ _ _ _ _ _ _ _ _ _ _ _ _ _).mono ?_
  rintro e w13 ⟨Ap, cp, rfl, ps, b13⟩
  replace hp := blk_u hp b13
  replace hd := blk_u hd b13
  replace hv := hv.below b13
  replace hb := hb.below b13
  replace h1 := h1.below b13
  replace h2 := h2.below b13
  replace h3 := h3.below b13
  replace s37 := s37.below b13
  replace h6 := h6.below b13
  replace k3 := k3.below b13
  replace k3w := own_under k3w b13
  replace lz_k3 := Nat.le_trans lz_k3 b13.size
  replace bel := bel.trans (b13.mono bel.size)
  clear b13
  replace ps : Sl w13 (Ap) (12) (cp) (l4Ps a0 a1 a2 a3 a4 a5 a6 a7 pr (20 + (nq : Int) + nd)) := ps
  go_wp2_with (first | ((with_reducible show wpList _ _ _ (⟨some 62, _, _, _, _, _⟩ :: _) _ _); refine wpList_lit_n rfl 173 36 3 _ rfl #[.slice Ap 12 cp, .slice Ah6 16 ch6, .slice A52 (2 + nq + nd) c52] (.slice none 0 0) Tryz.underlying173 (by kernel_rfl) 1 (by kernel_rfl) (by decide) (by kernel_rfl) ?_; intro g62 w14 ge lt hh bb; have d_p_b62 := ne_new (hlt hp) ge; have d_d_b62 := ne_new (hlt hd) ge; have av_hv_b62 := hv.av_new ge; have av_hb_b62 := hb.av_new ge; have av_h1_b62 := h1.av_new ge; have av_h2_b62 := h2.av_new ge; have av_h3_b62 := h3.av_new ge; have av_s37_b62 := s37.av_new ge; have av_h6_b62 := h6.av_new ge; have av_k3_b62 := k3.av_new ge; have of_k3_b62 := own_new k3w ge; have av_ps_b62 := ps.av_new ge; have ob62 := Nat.le_trans bel.size ge; replace hp := blk_u hp bb; replace hd := blk_u hd bb; replace hv := hv.below bb; replace hb := hb.below bb; replace h1 := h1.below bb; replace h2 := h2.below bb; replace h3 := h3.below bb; replace s37 := s37.below bb; replace h6 := h6.below bb; replace k3 := k3.below bb; replace k3w := own_under k3w bb; replace ps := ps.below bb; replace lz_k3 := Nat.le_trans lz_k3 bb.size; replace bel := bel.trans (bb.mono bel.size); have hb62 := hh; clear hh lt ge bb; have hs3 : Sls w14 (some ⟨g62, 0, none⟩) 3 [l4Ps a0 a1 a2 a3 a4 a5 a6 a7 pr (20 + (nq : Int) + nd), [] ++ two sf ++ two st ++ four se ++ four ak ++ [byteOf (80 + 4 * (nq : Int)), byteOf fg] ++ two wn, [] ++ two ug ++ lq ++ ld] := Sls.three ps h6 k3 hb62))
  with_reducible refine (many_any _ 3 3 _ _ (by unfold maxLen; omega) hs3).mono ?_
  rintro e _ ⟨rfl, rfl⟩
  rw [HS.out]
  clear hs3
  go_wp2_with fail
  with_reducible refine (w16_oto _ 16 18 _ _ _ _ rfl h6 (by omega)).mono ?_
  rintro e w15 ⟨v, rfl, h7w, b15⟩
  have y_h7_p := Lib.hid (hlt hp)
  have y_h7_d := Lib.hid (hlt hd)
  have y_h7_b62 := Lib.hid (hlt hb62)
  have bl_hv_h7 := hv.bl_new
  have bl_hb_h7 := hb.bl_new
  have bl_h1_h7 := h1.bl_new
  have bl_h2_h7 := h2.bl_new
  have bl_h3_h7 := h3.bl_new
  have bl_s37_h7 := s37.bl_new
  have bl_h6_h7 := h6.bl_new
  have bl_k3_h7 := k3.bl_new
  have bl_ps_h7 := ps.bl_new
  have h7lo := bel.size
  have lz_h7 := b15.size
  replace hp := blk_u hp b15
  replace hd := blk_u hd b15
  replace hb62 := blk_u hb62 b15
  replace hv := hv.below b15
  replace hb := hb.below b15
  replace h1 := h1.below b15
  replace h2 := h2.below b15
  replace h3 := h3.below b15
  replace s37 := s37.below b15
  replace h6 := h6.below b15
  replace k3 := k3.below b15
  replace k3w := own_under k3w b15
  replace ps := ps.below b15
  replace lz_k3 := Nat.le_trans lz_k3 b15.size
  replace bel := bel.trans (b15.mono bel.size)
  clear b15
  obtain ⟨Ah7, ch7, rfl⟩ := own_val h7w
  have h7 := (own_sl h7w).1
  have fr_h7 := (own_sl h7w).2
  have av_h7_p := fr_h7.av y_h7_p.out
  have av_h7_d := fr_h7.av y_h7_d.out
  have av_h7_b62 := fr_h7.av y_h7_b62.out
  go_wp2_with (first | ((with_reducible show wpList _ _ _ (⟨some 68, _, _, _, _, _⟩ :: _) _ _); refine wpList_append_bb _ rfl (.tmp 66) (.tmp 67) 36 rfl (w14.heap.size) 5 ii (.int .u8 0) Tryz.underlying36 hii hz0 hz1 hz2 rfl _ (18) ([] ++ two sf ++ two st ++ four se ++ four ak ++ [byteOf (80 + 4 * (nq : Int)), byteOf fg] ++ two wn ++ two sm) rfl h7w (A52) (2 + nq + nd) (c52) ([] ++ two ug ++ lq ++ ld) rfl k3 (by omega) lz_h7 ?_; intro v68 w16 own_ bb; replace hv := hv.under bl_hv_h7 bb; replace hb := hb.under bl_hb_h7 bb; replace h1 := h1.under bl_h1_h7 bb; replace h2 := h2.under bl_h2_h7 bb; replace h3 := h3.under bl_h3_h7 bb; replace s37 := s37.under bl_s37_h7 bb; replace h6 := h6.under bl_h6_h7 bb; replace k3 := k3.under bl_k3_h7 bb; clear k3w lz_k3; replace ps := ps.under bl_ps_h7 bb; replace hp := blk_under hp bb y_h7_p.out; replace hd := blk_under hd bb y_h7_d.out; replace hb62 := blk_under hb62 bb y_h7_b62.out; replace bel := bel.trans (bb.mono h7lo); have lz_out := Nat.le_trans lz_h7 bb.size; clear bb; clear h7 h7w lz_h7; replace own_ : w16.ownsRow (w14.heap.size) 5 1 v68 (20 + nq + nd) (([] ++ two sf ++ two st ++ four se ++ four ak ++ [byteOf (80 + 4 * (nq : Int)), byteOf fg] ++ two wn ++ two sm ++ ([] ++ two ug ++ lq ++ ld) : List UInt8).map u8v) := (by rw [show 18 + (2 + nq + nd) = 20 + nq + nd by omega] at own_; exact own_); obtain ⟨A68, c68, rfl⟩ := own_val own_; have outw := own_; have out := (own_sl own_).1; have fr_out := (own_sl own_).2; clear own_; have av_out_p := fr_out.av y_h7_p.out; have av_out_d := fr_out.av y_h7_d.out; have av_out_b62 := fr_out.av y_h7_b62.out))
  go_ret
  exact ⟨_, rfl, ownsRow_mono outw (Nat.le_trans h7lo (Nat.le_refl _)), bel⟩
open Go.RowKit

theorem tcwrite_any (tos id fl pt ttl : Int) (a0 a1 a2 a3 a4 a5 a6 a7 : UInt8) (So Sb : Option Addr) (no co nb cb : Nat) (sf st se ak fg wn ug : Int) (Q : Option Addr) (nq cq : Nat) (D : Option Addr) (nd cd : Nat) (lq ld : List UInt8) (w : World) (hv : Sl w Q nq cq lq) (hb : Sl w D nd cd ld) (hm : nd ≤ 1460) (hq : nq ≤ 40) (hq4 : nq % 4 = 0) (e0 : 0 ≤ se) (e1 : se < 4294967296) (k0 : 0 ≤ ak) (k1 : ak < 4294967296) : Calls Tryz.prog 98 #[.agg #[.int .i64 tos, .int .i64 id, .int .i64 fl, .int .i64 pt, .int .i64 ttl, .int .i64 6, .int .u8 (a0.toNat : Int), .int .u8 (a1.toNat : Int), .int .u8 (a2.toNat : Int), .int .u8 (a3.toNat : Int), .int .u8 (a4.toNat : Int), .int .u8 (a5.toNat : Int), .int .u8 (a6.toNat : Int), .int .u8 (a7.toNat : Int), .slice So no co, .slice Sb nb cb], .agg #[.int .i64 sf, .int .i64 st, .int .u32 se, .int .u32 ak, .int .i64 fg, .int .i64 wn, .int .i64 ug, .slice Q nq cq, .slice D nd cd]] w fun e w' => ∃ v, e = .returned v ∧ w'.ownsRow w.heap.size 5 1 v (20 + nq + nd) ((tcBytes a0 a1 a2 a3 a4 a5 a6 a7 sf st se ak fg wn ug lq ld).map u8v) ∧ Below w.heap.size w w' := by
  have hl := hb.1
  have hl2 := hv.1
  subst hl
  subst hl2
  exact tcwrite_0 tos id fl pt ttl 6 a0 a1 a2 a3 a4 a5 a6 a7 So Sb no co nb cb sf st se ak fg wn ug Q _ cq D _ cd lq ld _ w hv hb hm hq hq4 e0 e1 k0 k1 rfl
set_option linter.unusedVariables false in
set_option maxRecDepth 100000 in
set_option maxHeartbeats 16000000 in
theorem tcput_ok (tos id fl pt ttl pr : Int) (a0 a1 a2 a3 a4 a5 a6 a7 : UInt8) (So Sb : Option Addr) (no co nb cb : Nat) (sf st se ak fg wn ug : Int) (Q : Option Addr) (nq cq : Nat) (D : Option Addr) (nd cd : Nat) (lo lq ld : List UInt8) (w : World) (ho : Sl w So no co lo) (hv : Sl w Q nq cq lq) (hb : Sl w D nd cd ld) (hg : segOk sf st fg wn ug nq = true) (hq : nq ≤ 40) (hq4 : nq % 4 = 0) (hn : nq + nd ≤ 1460) (hno : no ≤ 100000) (e0 : 0 ≤ se) (e1 : se < 4294967296) (k0 : 0 ≤ ak) (k1 : ak < 4294967296) : Calls Tryz.prog 64 #[.agg #[.int .i64 tos, .int .i64 id, .int .i64 fl, .int .i64 pt, .int .i64 ttl, .int .i64 pr, .int .u8 (a0.toNat : Int), .int .u8 (a1.toNat : Int), .int .u8 (a2.toNat : Int), .int .u8 (a3.toNat : Int), .int .u8 (a4.toNat : Int), .int .u8 (a5.toNat : Int), .int .u8 (a6.toNat : Int), .int .u8 (a7.toNat : Int), .slice So no co, .slice Sb nb cb], .agg #[.int .i64 sf, .int .i64 st, .int .u32 se, .int .u32 ak, .int .i64 fg, .int .i64 wn, .int .i64 ug, .slice Q nq cq, .slice D nd cd]] w (PkPost (tcPut tos id fl pt ttl a0 a1 a2 a3 a4 a5 a6 a7 lo sf st se ak fg wn ug lq ld) w) := by
  obtain ⟨ii, hii, hz0, hz1, hz2⟩ := info_parts Tryz.info5
  have HP : Hid (tcPut tos id fl pt ttl a0 a1 a2 a3 a4 a5 a6 a7 lo sf st se ak fg wn ug lq ld = (([tos, id, fl, pt, ttl, 6], [a0, a1, a2, a3, a4, a5, a6, a7]), (lo, tcBytes a0 a1 a2 a3 a4 a5 a6 a7 sf st se ak fg wn ug lq ld), 0)) := Lib.hid (by unfold tcPut; rw [if_neg (by rw [hv.1, hg]; decide), if_neg (by rw [hv.1, hb.1]; omega)])
  have HG := Lib.hid hg
  have HL1 := Lib.hid ho.1
  have HL2 : Hid ((tcBytes a0 a1 a2 a3 a4 a5 a6 a7 sf st se ak fg wn ug lq ld).length = 20 + nq + nd) := Lib.hid (by rw [tcBytes_len, hv.1, hb.1])
  have n1 : (nq : Int) ≤ 40 := by omega
  have n2 : (0 : Int) ≤ nq := by omega
  have n3 : (0 : Int) ≤ nd := by omega
  have n4 : (nd : Int) ≤ 100000 := by omega
  have t0 : decide ((1480 : Int) < 20 + nq + nd) = false := decide_eq_false (by omega)
  have HQ := Lib.hid hq
  have HQ4 := Lib.hid hq4
  have HN := Lib.hid hn
  have HNO := Lib.hid hno
  have E0 := Lib.hid e0
  have E1 := Lib.hid e1
  have K0 := Lib.hid k0
  have K1 := Lib.hid k1
  clear hg hq hq4 hn hno e0 e1 k0 k1
  have bel := Below.refl w.heap.size w
  go_enter Tryz.func64, Tryz.ntmps64
  go_wp2_with (first | ((with_reducible show wpList _ _ _ (⟨some 2, _, _, _, _, _⟩ :: _) _ _); refine wpList_box_n rfl 38 (.tmp 0) rfl #[.int .i64 tos, .int .i64 id, .int .i64 fl, .int .i64 pt, .int .i64 ttl, .int .i64 pr, .int .u8 (a0.toNat : Int), .int .u8 (a1.toNat : Int), .int .u8 (a2.toNat : Int), .int .u8 (a3.toNat : Int), .int .u8 (a4.toNat : Int), .int .u8 (a5.toNat : Int), .int .u8 (a6.toNat : Int), .int .u8 (a7.toNat : Int), .slice So no co, .slice Sb nb cb] rfl ?_; intro g2 w1 ge lt hh bb; have av_ho_p := ho.av_new ge; have av_hv_p := hv.av_new ge; have av_hb_p := hb.av_new ge; have op := Nat.le_trans bel.size ge; replace ho := ho.below bb; replace hv := hv.below bb; replace hb := hb.below bb; replace bel := bel.trans (bb.mono bel.size); have hp := hh; clear hh lt ge bb) | ((with_reducible show wpList _ _ _ (⟨some 3, _, _, _, _, _⟩ :: _) _ _); refine wpList_box_n rfl 105 (.tmp 1) rfl #[.int .i64 sf, .int .i64 st, .int .u32 se, .int .u32 ak, .int .i64 fg, .int .i64 wn, .int .i64 ug, .slice Q nq cq, .slice D nd cd] rfl ?_; intro g3 w2 ge lt hh bb; have d_p_d := ne_new (hlt hp) ge; have av_ho_d := ho.av_new ge; have av_hv_d := hv.av_new ge; have av_hb_d := hb.av_new ge; have od := Nat.le_trans bel.size ge; replace hp := blk_u hp bb; replace ho := ho.below bb; replace hv := hv.below bb; replace hb := hb.below bb; replace bel := bel.trans (bb.mono bel.size); have hd := hh; clear hh lt ge bb) | ((with_reducible show wpList _ _ _ (⟨some 4, _, _, _, _, _⟩ :: _) _ _); refine wpList_new_a rfl 38 rfl #[.int .i64 0, .int .i64 0, .int .i64 0, .int .i64 0, .int .i64 0, .int .i64 0, .int .u8 0, .int .u8 0, .int .u8 0, .int .u8 0, .int .u8 0, .int .u8 0, .int .u8 0, .int .u8 0, .slice none 0 0, .slice none 0 0] (by kernel_rfl) ?_; intro g4 w3 ge hh bb; have d_p_z := ne_new (hlt hp) ge; have d_d_z := ne_new (hlt hd) ge; have av_ho_z := ho.av_new ge; have av_hv_z := hv.av_new ge; have av_hb_z := hb.av_new ge; have oz := Nat.le_trans bel.size ge; replace hp := blk_u hp bb; replace hd := blk_u hd bb; replace ho := ho.below bb; replace hv := hv.below bb; replace hb := hb.below bb; replace bel := bel.trans (bb.mono bel.size); have hz := hh; clear hh ge bb; have R6 := Lib.hid (range_lit hd 0 9 [.int .i64 sf, .int .i64 st, .int .u32 se, .int .u32 ak, .int .i64 fg, .int .i64 wn, .int .i64 ug, .slice Q nq cq, .slice D nd cd] rfl)) | ((with_reducible show wpList _ _ _ (⟨some 6, _, _, _, _, _⟩ :: _) _ _); refine wpList_load_rng 105 (.tmp 3) rfl (by kernel_rfl) _ _ rfl _ R6.out _ Tryz.underlying105 rfl (by kernel_rfl) ?_))
  try clear R6
  with_reducible refine (writable_any _ _ _ _ _ _ _ _ _ _ _ _ _ _ _ hv).mono ?_
  rintro e w4 ⟨rfl, b4⟩
  replace hp := blk_u hp b4
  replace hd := blk_u hd b4
  replace hz := blk_u hz b4
  replace ho := ho.below b4
  replace hv := hv.below b4
  replace hb := hb.below b4
  replace bel := bel.trans (b4.mono bel.size)
  clear b4
  rw [HG.out]
  have R11 := cell_lit hd 7 _ rfl
  have R15 := cell_lit hd 8 _ rfl
  go_wp2_with (first | ((with_reducible show wpList _ _ _ (⟨none, Op.store _ (.tmp 20) _, _, _, _, _⟩ :: _) _ _); refine wpList_store_part rfl 3 (.tmp 20) (.const (.int .i64 6)) rfl g2 5 rfl [.int .i64 6] rfl [.int .i64 tos, .int .i64 id, .int .i64 fl, .int .i64 pt, .int .i64 ttl, .int .i64 pr, .int .u8 (a0.toNat : Int), .int .u8 (a1.toNat : Int), .int .u8 (a2.toNat : Int), .int .u8 (a3.toNat : Int), .int .u8 (a4.toNat : Int), .int .u8 (a5.toNat : Int), .int .u8 (a6.toNat : Int), .int .u8 (a7.toNat : Int), .slice So no co, .slice Sb nb cb] 38 hp (by simp) [.int .i64 tos, .int .i64 id, .int .i64 fl, .int .i64 pt, .int .i64 ttl, .int .i64 6, .int .u8 (a0.toNat : Int), .int .u8 (a1.toNat : Int), .int .u8 (a2.toNat : Int), .int .u8 (a3.toNat : Int), .int .u8 (a4.toNat : Int), .int .u8 (a5.toNat : Int), .int .u8 (a6.toNat : Int), .int .u8 (a7.toNat : Int), .slice So no co, .slice Sb nb cb] rfl (by kernel_rfl) (by rfl) ?_; intro w5 hq gr; replace ho := ho.away av_ho_p gr; replace hv := hv.away av_hv_p gr; replace hb := hb.away av_hb_p gr; replace hd := blk_a hd gr (ne_symm d_p_d); replace hz := blk_a hz gr (ne_symm d_p_z); replace bel := below_grown bel gr op bel.size; clear hp; have hp := hq; clear hq gr) | ((with_reducible show wpList _ _ _ (⟨some 21, _, _, _, _, _⟩ :: _) _ _); refine wpList_lit_n rfl 36 5 0 _ rfl #[] (.int .u8 0) Tryz.underlying36 (by kernel_rfl) 1 (by kernel_rfl) (by decide) (by kernel_rfl) ?_; intro g21 w6 ge lt hh bb; have hl : w6.heap[g21]? = some (.cells (([] : List UInt8).map u8v).toArray 5 (0, 0)) := (by simpa [u8v, byteOf_val] using hh); have e0w := own_lit (B := w5.heap.size) ([]) hl ge 0 rfl (by simp [maxLen]); have e0 := (own_sl e0w).1; have e0lo := bel.size; clear hl; have e0ge := ge; have lz_e0 := bb.size; have y_e0_p := Lib.hid (hlt hp); have y_e0_d := Lib.hid (hlt hd); have y_e0_z := Lib.hid (hlt hz); have bl_ho_e0 := ho.bl_new; have bl_hv_e0 := hv.bl_new; have bl_hb_e0 := hb.bl_new; replace hp := blk_u hp bb; replace hd := blk_u hd bb; replace hz := blk_u hz bb; replace ho := ho.below bb; replace hv := hv.below bb; replace hb := hb.below bb; replace bel := bel.trans (bb.mono bel.size); clear hh lt ge bb; have av_e0_p := (own_sl e0w).2.av y_e0_p.out; have av_e0_d := (own_sl e0w).2.av y_e0_d.out; have av_e0_z := (own_sl e0w).2.av y_e0_z.out; have R23 := cell_lit hp 14 _ rfl) | ((with_reducible show wpList _ _ _ (⟨some 24, _, _, _, _, _⟩ :: _) _ _); refine wpList_append_bb _ rfl (.tmp 21) (.tmp 23) 36 rfl (w5.heap.size) 5 ii (.int .u8 0) Tryz.underlying36 hii hz0 hz1 hz2 rfl _ (0) ([]) rfl e0w (So) (no) (co) (lo) rfl ho (by have := HNO.out; omega) lz_e0 ?_; intro v24 w7 own_ bb; replace ho := ho.under bl_ho_e0 bb; replace hv := hv.under bl_hv_e0 bb; replace hb := hb.under bl_hb_e0 bb; replace hp := blk_under hp bb y_e0_p.out; replace hd := blk_under hd bb y_e0_d.out; replace hz := blk_under hz bb y_e0_z.out; replace bel := bel.trans (bb.mono e0lo); have lz_so := Nat.le_trans lz_e0 bb.size; clear bb; clear e0 e0w lz_e0; replace own_ : w7.ownsRow (w5.heap.size) 5 1 v24 (no) ((lo : List UInt8).map u8v) := (by simpa using own_); obtain ⟨A24, c24, rfl⟩ := own_val own_; have sow := own_; have so := (own_sl own_).1; have fr_so := (own_sl own_).2; clear own_; have av_so_p := fr_so.av y_e0_p.out; have av_so_d := fr_so.av y_e0_d.out; have av_so_z := fr_so.av y_e0_z.out) | ((with_reducible show wpList _ _ _ (⟨none, Op.store _ (.tmp 25) _, _, _, _, _⟩ :: _) _ _); refine wpList_store_part rfl 36 (.tmp 25) (.tmp 24) rfl g2 14 rfl [.slice A24 no c24] rfl [.int .i64 tos, .int .i64 id, .int .i64 fl, .int .i64 pt, .int .i64 ttl, .int .i64 6, .int .u8 (a0.toNat : Int), .int .u8 (a1.toNat : Int), .int .u8 (a2.toNat : Int), .int .u8 (a3.toNat : Int), .int .u8 (a4.toNat : Int), .int .u8 (a5.toNat : Int), .int .u8 (a6.toNat : Int), .int .u8 (a7.toNat : Int), .slice So no co, .slice Sb nb cb] 38 hp (by simp) [.int .i64 tos, .int .i64 id, .int .i64 fl, .int .i64 pt, .int .i64 ttl, .int .i64 6, .int .u8 (a0.toNat : Int), .int .u8 (a1.toNat : Int), .int .u8 (a2.toNat : Int), .int .u8 (a3.toNat : Int), .int .u8 (a4.toNat : Int), .int .u8 (a5.toNat : Int), .int .u8 (a6.toNat : Int), .int .u8 (a7.toNat : Int), .slice A24 no c24, .slice Sb nb cb] rfl (by kernel_rfl) (by rfl) ?_; intro w8 hq gr; replace ho := ho.away av_ho_p gr; replace hv := hv.away av_hv_p gr; replace hb := hb.away av_hb_p gr; replace so := so.away av_so_p gr; replace sow := own_away sow y_e0_p.out gr; replace lz_so := Nat.le_trans lz_so gr.size; replace hd := blk_a hd gr (ne_symm d_p_d); replace hz := blk_a hz gr (ne_symm d_p_z); replace bel := below_grown bel gr op bel.size; clear hp; have hp := hq; clear hq gr; have R26 := Lib.hid (range_lit hp 0 16 [.int .i64 tos, .int .i64 id, .int .i64 fl, .int .i64 pt, .int .i64 ttl, .int .i64 6, .int .u8 (a0.toNat : Int), .int .u8 (a1.toNat : Int), .int .u8 (a2.toNat : Int), .int .u8 (a3.toNat : Int), .int .u8 (a4.toNat : Int), .int .u8 (a5.toNat : Int), .int .u8 (a6.toNat : Int), .int .u8 (a7.toNat : Int), .slice A24 no c24, .slice Sb nb cb] rfl)) | ((with_reducible show wpList _ _ _ (⟨some 26, _, _, _, _, _⟩ :: _) _ _); refine wpList_load_rng 38 (.tmp 2) rfl (by kernel_rfl) _ _ rfl _ R26.out _ Tryz.underlying38 rfl (by kernel_rfl) ?_; have R27 := Lib.hid (range_lit hd 0 9 [.int .i64 sf, .int .i64 st, .int .u32 se, .int .u32 ak, .int .i64 fg, .int .i64 wn, .int .i64 ug, .slice Q nq cq, .slice D nd cd] rfl)) | ((with_reducible show wpList _ _ _ (⟨some 27, _, _, _, _, _⟩ :: _) _ _); refine wpList_load_rng 105 (.tmp 3) rfl (by kernel_rfl) _ _ rfl _ R27.out _ Tryz.underlying105 rfl (by kernel_rfl) ?_))
  try clear R11
  try clear R15
  try clear R23
  try clear R26
  try clear R27
  with_reducible refine (tcwrite_any _ _ _ _ _ _ _ _ _ _ _ _ _ _ _ _ _ _ _ _ _ _ _ _ _ _ _ _ _ _ _ _ _ _ _ hv hb (by have := HN.out; omega) HQ.out HQ4.out E0.out E1.out K0.out K1.out).mono ?_
  rintro e w9 ⟨v, rfl, sbw, b9⟩
  have y_sb_p := Lib.hid (hlt hp)
  have y_sb_d := Lib.hid (hlt hd)
  have y_sb_z := Lib.hid (hlt hz)
  have bl_ho_sb := ho.bl_new
  have bl_hv_sb := hv.bl_new
  have bl_hb_sb := hb.bl_new
  have bl_so_sb := so.bl_new
  have sblo := bel.size
  have lz_sb := b9.size
  replace hp := blk_u hp b9
  replace hd := blk_u hd b9
  replace hz := blk_u hz b9
  replace ho := ho.below b9
  replace hv := hv.below b9
  replace hb := hb.below b9
  replace so := so.below b9
  replace sow := own_under sow b9
  replace lz_so := Nat.le_trans lz_so b9.size
  replace bel := bel.trans (b9.mono bel.size)
  clear b9
  obtain ⟨Asb, csb, rfl⟩ := own_val sbw
  have sb := (own_sl sbw).1
  have fr_sb := (own_sl sbw).2
  have av_sb_p := fr_sb.av y_sb_p.out
  have av_sb_d := fr_sb.av y_sb_d.out
  have av_sb_z := fr_sb.av y_sb_z.out
  go_wp2_with (first | ((with_reducible show wpList _ _ _ (⟨none, Op.store _ (.tmp 29) _, _, _, _, _⟩ :: _) _ _); refine wpList_store_part rfl 36 (.tmp 29) (.tmp 28) rfl g2 15 rfl [.slice Asb (20 + nq + nd) csb] rfl [.int .i64 tos, .int .i64 id, .int .i64 fl, .int .i64 pt, .int .i64 ttl, .int .i64 6, .int .u8 (a0.toNat : Int), .int .u8 (a1.toNat : Int), .int .u8 (a2.toNat : Int), .int .u8 (a3.toNat : Int), .int .u8 (a4.toNat : Int), .int .u8 (a5.toNat : Int), .int .u8 (a6.toNat : Int), .int .u8 (a7.toNat : Int), .slice A24 no c24, .slice Sb nb cb] 38 hp (by simp) [.int .i64 tos, .int .i64 id, .int .i64 fl, .int .i64 pt, .int .i64 ttl, .int .i64 6, .int .u8 (a0.toNat : Int), .int .u8 (a1.toNat : Int), .int .u8 (a2.toNat : Int), .int .u8 (a3.toNat : Int), .int .u8 (a4.toNat : Int), .int .u8 (a5.toNat : Int), .int .u8 (a6.toNat : Int), .int .u8 (a7.toNat : Int), .slice A24 no c24, .slice Asb (20 + nq + nd) csb] rfl (by kernel_rfl) (by rfl) ?_; intro w10 hq gr; replace ho := ho.away av_ho_p gr; replace hv := hv.away av_hv_p gr; replace hb := hb.away av_hb_p gr; replace so := so.away av_so_p gr; replace sow := own_away sow y_e0_p.out gr; replace sb := sb.away av_sb_p gr; replace sbw := own_away sbw y_sb_p.out gr; replace lz_so := Nat.le_trans lz_so gr.size; replace lz_sb := Nat.le_trans lz_sb gr.size; replace hd := blk_a hd gr (ne_symm d_p_d); replace hz := blk_a hz gr (ne_symm d_p_z); replace bel := below_grown bel gr op bel.size; clear hp; have hp := hq; clear hq gr; have R30 := Lib.hid (range_lit hp 0 16 [.int .i64 tos, .int .i64 id, .int .i64 fl, .int .i64 pt, .int .i64 ttl, .int .i64 6, .int .u8 (a0.toNat : Int), .int .u8 (a1.toNat : Int), .int .u8 (a2.toNat : Int), .int .u8 (a3.toNat : Int), .int .u8 (a4.toNat : Int), .int .u8 (a5.toNat : Int), .int .u8 (a6.toNat : Int), .int .u8 (a7.toNat : Int), .slice A24 no c24, .slice Asb (20 + nq + nd) csb] rfl)) | ((with_reducible show wpList _ _ _ (⟨some 30, _, _, _, _, _⟩ :: _) _ _); refine wpList_load_rng 38 (.tmp 2) rfl (by kernel_rfl) _ _ rfl _ R30.out _ Tryz.underlying38 rfl (by kernel_rfl) ?_) | ((with_reducible show wpList _ _ _ (⟨none, Op.store _ (.tmp 4) _, _, _, _, _⟩ :: _) _ _); refine wpList_store_blk rfl 38 (.tmp 4) (.tmp 30) rfl g4 rfl _ rfl _ 38 hz (by rfl) (by kernel_rfl) (by kernel_rfl) ?_; intro w11 hq gr; replace ho := ho.away av_ho_z gr; replace hv := hv.away av_hv_z gr; replace hb := hb.away av_hb_z gr; replace so := so.away av_so_z gr; replace sow := own_away sow y_e0_z.out gr; replace sb := sb.away av_sb_z gr; replace sbw := own_away sbw y_sb_z.out gr; replace lz_so := Nat.le_trans lz_so gr.size; replace lz_sb := Nat.le_trans lz_sb gr.size; replace hp := blk_a hp gr d_p_z; replace hd := blk_a hd gr d_d_z; replace bel := below_grown bel gr oz bel.size; clear hz; have hz := hq; clear hq gr))
  try clear R30
  exact bodyPost_ret (results_cell_tmp_row rfl _ _ _ _ _ _ _ rfl hz Tryz.underlying38 rfl (by kernel_rfl) _ rfl) rfl ⟨tos, id, fl, pt, ttl, 6, a0, a1, a2, a3, a4, a5, a6, a7, lo, tcBytes a0 a1 a2 a3 a4 a5 a6 a7 sf st se ak fg wn ug lq ld, A24, Asb, c24, csb, 0, by rw [HL1.out, HL2.out]; rfl, by rw [HL1.out]; exact so, by rw [HL2.out]; exact sb, by rw [HL1.out]; exact fr_so.mono e0lo, by rw [HL2.out]; exact fr_sb.mono sblo, bel, HP.out.symm⟩
theorem segOk_bnd {sf st fg wn ug : Int} {nq : Nat} (h : segOk sf st fg wn ug nq = true) : nq ≤ 40 ∧ nq % 4 = 0 := by
  unfold segOk at h
  simp only [Bool.and_eq_true, decide_eq_true_eq] at h
  exact ⟨h.1.2, h.2⟩
open Go.RowKit

set_option linter.unusedVariables false in
set_option maxRecDepth 100000 in
set_option maxHeartbeats 16000000 in
theorem tcget_7 (tos id fl pt ttl : Int) (a0 a1 a2 a3 a4 a5 a6 a7 : UInt8) (So Sb : Option Addr) (no co nb cb : Nat) (h0 h1 h2 h3 h4 h5 h6 h7 h8 h9 h10 h11 h12 h13 h14 h15 h16 h17 h18 h19 : UInt8) (r : List UInt8) (v hd : Nat) (fg : Int) (w : World) (hb : Sl w Sb nb cb (h0 :: h1 :: h2 :: h3 :: h4 :: h5 :: h6 :: h7 :: h8 :: h9 :: h10 :: h11 :: h12 :: h13 :: h14 :: h15 :: h16 :: h17 :: h18 :: h19 :: r)) (hm : nb ≤ 100000) (hvv : h12.toNat = v) (hhd : h12.toNat / 16 * 4 = hd) (hfg : bits .and .i64 (h13.toNat : Int) 63 = fg) (hfg2 : ((h13.toNat % 64 : Nat) : Int) = fg) (hw : (decide (pt = 0) && decide (fl % 2 = 0)) = true) (hx : hd ≤ nb) (hy : 20 ≤ hd) (hc : ck (l4Ps a0 a1 a2 a3 a4 a5 a6 a7 6 (nb : Int) ++ (h0 :: h1 :: h2 :: h3 :: h4 :: h5 :: h6 :: h7 :: h8 :: h9 :: h10 :: h11 :: h12 :: h13 :: h14 :: h15 :: h16 :: h17 :: h18 :: h19 :: r)) = 0) : Calls Tryz.prog 68 #[.agg #[.int .i64 tos, .int .i64 id, .int .i64 fl, .int .i64 pt, .int .i64 ttl, .int .i64 6, .int .u8 (a0.toNat : Int), .int .u8 (a1.toNat : Int), .int .u8 (a2.toNat : Int), .int .u8 (a3.toNat : Int), .int .u8 (a4.toNat : Int), .int .u8 (a5.toNat : Int), .int .u8 (a6.toNat : Int), .int .u8 (a7.toNat : Int), .slice So no co, .slice Sb nb cb]] w (SgPost (tcGet fl pt 6 a0 a1 a2 a3 a4 a5 a6 a7 (h0 :: h1 :: h2 :: h3 :: h4 :: h5 :: h6 :: h7 :: h8 :: h9 :: h10 :: h11 :: h12 :: h13 :: h14 :: h15 :: h16 :: h17 :: h18 :: h19 :: r)) w) := by
  obtain ⟨k, hk⟩ : ∃ k, hd = k + 20 := ⟨hd - 20, by omega⟩
  have hk20 : IntKind.i64.wrap ((hd : Int) - 20) = (k : Int) := by rw [show (hd : Int) - 20 = (k : Int) by omega]; exact IntWalk.i64_in _ (by have := h12.toNat_lt; omega)
  have t1 : decide ((hd : Int) < 20) = false := decide_eq_false (by omega)
  have HP : Hid (tcGet fl pt 6 a0 a1 a2 a3 a4 a5 a6 a7 (h0 :: h1 :: h2 :: h3 :: h4 :: h5 :: h6 :: h7 :: h8 :: h9 :: h10 :: h11 :: h12 :: h13 :: h14 :: h15 :: h16 :: h17 :: h18 :: h19 :: r) = ([((be [h0, h1] : Nat) : Int), ((be [h2, h3] : Nat) : Int), ((be [h4, h5, h6, h7] : Nat) : Int), ((be [h8, h9, h10, h11] : Nat) : Int), fg, ((be [h14, h15] : Nat) : Int), ((be [h18, h19] : Nat) : Int)], (r.take k, r.drop k), 0)) := Lib.hid (by rw [tc_ok (by rw [tc_at hhd hw, hb.1, if_neg (by omega), if_neg (by omega), if_neg (fun h => h hc)]) hhd hk, hfg2])
  have HV := Lib.hid hvv
  have HM := Lib.hid hm
  have HW := Lib.hid hw
  have HL := Lib.hid hb.1
  have v0 : (0 : Int) ≤ v := by omega
  have v1 : (v : Int) < 256 := by have := h12.toNat_lt; omega
  have ehd : (v : Int) / 16 * 4 = (hd : Int) := by omega
  have ehw : IntKind.i64.wrap (hd : Int) = (hd : Int) := IntWalk.i64_in _ (by omega)
  have hkr : k ≤ r.length := by have := hb.1; simp only [List.length_cons] at this; omega
  have HKR := Lib.hid hkr
  have HKL : Hid ((r.take k).length = k) := Lib.hid (by rw [List.length_take]; omega)
  obtain ⟨m, hm2⟩ : ∃ m, (r.drop k).length = m := ⟨_, rfl⟩
  have HM2 := Lib.hid hm2
  have hm3 : m ≤ 100000 := by have := hb.1; simp only [List.length_cons] at this; rw [List.length_drop] at hm2; omega
  have HM3 := Lib.hid hm3
  clear hm2 hm3
  have HC : Hid (decide (ck (l4Ps a0 a1 a2 a3 a4 a5 a6 a7 6 (nb : Int) ++ (h0 :: h1 :: h2 :: h3 :: h4 :: h5 :: h6 :: h7 :: h8 :: h9 :: h10 :: h11 :: h12 :: h13 :: h14 :: h15 :: h16 :: h17 :: h18 :: h19 :: r)) = 0) = true) := Lib.hid (decide_eq_true hc)
  clear hx hy hk hkr hc
  clear hvv hhd hfg2 hm hw
  have bel := Below.refl w.heap.size w
  go_enter Tryz.func68, Tryz.ntmps68
  go_wp2_with (first | ((with_reducible show wpList _ _ _ (⟨some 1, _, _, _, _, _⟩ :: _) _ _); refine wpList_box_n rfl 38 (.tmp 0) rfl #[.int .i64 tos, .int .i64 id, .int .i64 fl, .int .i64 pt, .int .i64 ttl, .int .i64 6, .int .u8 (a0.toNat : Int), .int .u8 (a1.toNat : Int), .int .u8 (a2.toNat : Int), .int .u8 (a3.toNat : Int), .int .u8 (a4.toNat : Int), .int .u8 (a5.toNat : Int), .int .u8 (a6.toNat : Int), .int .u8 (a7.toNat : Int), .slice So no co, .slice Sb nb cb] rfl ?_; intro g1 w1 ge lt hh bb; have av_hb_p := hb.av_new ge; have op := Nat.le_trans bel.size ge; replace hb := hb.below bb; replace bel := bel.trans (bb.mono bel.size); have hp := hh; clear hh lt ge bb) | ((with_reducible show wpList _ _ _ (⟨some 2, _, _, _, _, _⟩ :: _) _ _); refine wpList_new_a rfl 105 rfl #[.int .i64 0, .int .i64 0, .int .u32 0, .int .u32 0, .int .i64 0, .int .i64 0, .int .i64 0, .slice none 0 0, .slice none 0 0] (by kernel_rfl) ?_; intro g2 w2 ge hh bb; have d_p_z := ne_new (hlt hp) ge; have av_hb_z := hb.av_new ge; have oz := Nat.le_trans bel.size ge; replace hp := blk_u hp bb; replace hb := hb.below bb; replace bel := bel.trans (bb.mono bel.size); have hz := hh; clear hh ge bb; have R8 := cell_lit hp 5 _ rfl; have R11 := Lib.hid (range_lit hp 0 16 [.int .i64 tos, .int .i64 id, .int .i64 fl, .int .i64 pt, .int .i64 ttl, .int .i64 6, .int .u8 (a0.toNat : Int), .int .u8 (a1.toNat : Int), .int .u8 (a2.toNat : Int), .int .u8 (a3.toNat : Int), .int .u8 (a4.toNat : Int), .int .u8 (a5.toNat : Int), .int .u8 (a6.toNat : Int), .int .u8 (a7.toNat : Int), .slice So no co, .slice Sb nb cb] rfl)) | ((with_reducible show wpList _ _ _ (⟨some 11, _, _, _, _, _⟩ :: _) _ _); refine wpList_load_rng 38 (.tmp 1) rfl (by kernel_rfl) _ _ rfl _ R11.out _ Tryz.underlying38 rfl (by kernel_rfl) ?_))
  try clear R8
  try clear R11
  with_reducible refine (ipwhole_any _ _ _ _ _ _ _ _ _ _ _ _ _ _ _ _ _ _ _ _ _).mono ?_
  rintro e w3 ⟨rfl, b3⟩
  replace hp := blk_u hp b3
  replace hz := blk_u hz b3
  replace hb := hb.below b3
  replace bel := bel.trans (b3.mono bel.size)
  clear b3
  rw [HW.out]
  have R16 := cell_lit hp 15 _ rfl
  go_wp2_with fail
  clear R16
  with_reducible refine (rd_read _ _ _ _ _ hb (by have := HM.out; omega)).mono ?_
  rintro e w4 ⟨gr, Ar3, cr3, rfl, ge, hh, rest, frr, avr, b4⟩
  have av_rest_p := frr.av (hlt hp)
  have av_rest_z := frr.av (hlt hz)
  have d_p_r := ne_new (hlt hp) ge
  have d_z_r := ne_new (hlt hz) ge
  have av_hb_r := hb.av_new ge
  have or := Nat.le_trans bel.size ge
  replace hp := blk_u hp b4
  replace hz := blk_u hz b4
  replace hb := hb.below b4
  replace bel := bel.trans (b4.mono bel.size)
  have hr := hh
  clear hh ge b4
  replace rest : Sl w4 (Ar3) (nb) (cr3) (h0 :: h1 :: h2 :: h3 :: h4 :: h5 :: h6 :: h7 :: h8 :: h9 :: h10 :: h11 :: h12 :: h13 :: h14 :: h15 :: h16 :: h17 :: h18 :: h19 :: r) := rest
  go_wp2_with fail
  with_reducible refine (rd_u16c _ _ _ _ _ _ _ _ _ hr rest).mono ?_
  rintro e w5 ⟨A4, n4, c4, rfl, hq, sq, uq, b5⟩
  replace hb := hb.away av_hb_r b5
  replace hp := blk_a hp b5 d_p_r
  replace hz := blk_a hz b5 d_z_r
  replace bel := below_grown bel b5 or bel.size
  clear b5
  clear hr rest
  have hr := hq
  have rest := sq
  clear hq sq
  have av4_rest_p := av_rest_p.sub uq
  have av4_rest_z := av_rest_z.sub uq
  have av4_rest_r := avr.sub uq
  clear uq
  go_wp2_with fail
  with_reducible refine (rd_u16c _ _ _ _ _ _ _ _ _ hr rest).mono ?_
  rintro e w6 ⟨A5, n5, c5, rfl, hq, sq, uq, b6⟩
  replace hb := hb.away av_hb_r b6
  replace hp := blk_a hp b6 d_p_r
  replace hz := blk_a hz b6 d_z_r
  replace bel := below_grown bel b6 or bel.size
  clear b6
  clear hr rest
  have hr := hq
  have rest := sq
  clear hq sq
  have av5_rest_p := av4_rest_p.sub uq
  have av5_rest_z := av4_rest_z.sub uq
  have av5_rest_r := av4_rest_r.sub uq
  clear uq
  go_wp2_with fail
  with_reducible refine (rd_u32c _ _ _ _ _ _ _ _ _ _ _ hr rest).mono ?_
  rintro e w7 ⟨A6, n6, c6, rfl, hq, sq, uq, b7⟩
  replace hb := hb.away av_hb_r b7
  replace hp := blk_a hp b7 d_p_r
  replace hz := blk_a hz b7 d_z_r
  replace bel := below_grown bel b7 or bel.size
  clear b7
  clear hr rest
  have hr := hq
  have rest := sq
  clear hq sq
  have av6_rest_p := av5_rest_p.sub uq
  have av6_rest_z := av5_rest_z.sub uq
  have av6_rest_r := av5_rest_r.sub uq
  clear uq
  go_wp2_with fail
  with_reducible refine (rd_u32c _ _ _ _ _ _ _ _ _ _ _ hr rest).mono ?_
  rintro e w8 ⟨A7, n7, c7, rfl, hq, sq, uq, b8⟩
  replace hb := hb.away av_hb_r b8
  replace hp := blk_a hp b8 d_p_r
  replace hz := blk_a hz b8 d_z_r
  replace bel := below_grown bel b8 or bel.size
  clear b8
  clear hr rest
  have hr := hq
  have rest := sq
  clear hq sq
  have av7_rest_p := av6_rest_p.sub uq
  have av7_rest_z := av6_rest_z.sub uq
  have av7_rest_r := av6_rest_r.sub uq
  clear uq
  go_wp2_with (first | ((with_reducible show wpList _ _ _ (⟨some 5, _, _, _, _, _⟩ :: _) _ _); refine wpList_new_a rfl 105 rfl #[.int .i64 0, .int .i64 0, .int .u32 0, .int .u32 0, .int .i64 0, .int .i64 0, .int .i64 0, .slice none 0 0, .slice none 0 0] (by kernel_rfl) ?_; intro g5 w9 ge hh bb; have d_p_d := ne_new (hlt hp) ge; have d_z_d := ne_new (hlt hz) ge; have d_r_d := ne_new (hlt hr) ge; have av_hb_d := hb.av_new ge; have av_rest_d := rest.av_new ge; have od := Nat.le_trans bel.size ge; replace hp := blk_u hp bb; replace hz := blk_u hz bb; replace hr := blk_u hr bb; replace hb := hb.below bb; replace rest := rest.below bb; replace bel := bel.trans (bb.mono bel.size); have hd := hh; clear hh ge bb) | ((with_reducible show wpList _ _ _ (⟨none, Op.store _ (.tmp 5) _, _, _, _, _⟩ :: _) _ _); refine wpList_store_blk rfl 105 (.tmp 5) (.tmp 26) rfl g5 rfl _ rfl _ 105 hd (by rfl) (by kernel_rfl) (by kernel_rfl) ?_; intro w10 hq gr; replace hb := hb.away av_hb_d gr; replace rest := rest.away av_rest_d gr; replace hp := blk_a hp gr d_p_d; replace hz := blk_a hz gr d_z_d; replace hr := blk_a hr gr d_r_d; replace bel := below_grown bel gr od bel.size; clear hd; have hd := hq; clear hq gr))
  with_reducible refine (rd_u8c _ _ _ _ _ _ _ _ hr rest).mono ?_
  rintro e w11 ⟨A10, n10, c10, rfl, hq, sq, uq, b11⟩
  replace hb := hb.away av_hb_r b11
  replace hp := blk_a hp b11 d_p_r
  replace hz := blk_a hz b11 d_z_r
  replace hd := blk_a hd b11 (ne_symm d_r_d)
  replace bel := below_grown bel b11 or bel.size
  clear b11
  clear hr rest
  have hr := hq
  have rest := sq
  clear hq sq
  have av10_rest_p := av7_rest_p.sub uq
  have av10_rest_z := av7_rest_z.sub uq
  have av10_rest_r := av7_rest_r.sub uq
  have av10_rest_d := av_rest_d.sub uq
  clear uq
  rw [HV.out]
  go_wp2_with fail
  with_reducible refine (rd_u8c _ _ _ _ _ _ _ _ hr rest).mono ?_
  rintro e w12 ⟨A11, n11, c11, rfl, hq, sq, uq, b12⟩
  replace hb := hb.away av_hb_r b12
  replace hp := blk_a hp b12 d_p_r
  replace hz := blk_a hz b12 d_z_r
  replace hd := blk_a hd b12 (ne_symm d_r_d)
  replace bel := below_grown bel b12 or bel.size
  clear b12
  clear hr rest
  have hr := hq
  have rest := sq
  clear hq sq
  have av11_rest_p := av10_rest_p.sub uq
  have av11_rest_z := av10_rest_z.sub uq
  have av11_rest_r := av10_rest_r.sub uq
  have av11_rest_d := av10_rest_d.sub uq
  clear uq
  go_wp2_with (first | ((with_reducible show wpList _ _ _ (⟨none, Op.store _ (.tmp 34) _, _, _, _, _⟩ :: _) _ _); refine wpList_store_part rfl 3 (.tmp 34) (.tmp 33) rfl g5 4 rfl [.int .i64 fg] rfl [.int .i64 (be [h0, h1] : Nat), .int .i64 (be [h2, h3] : Nat), .int .u32 (be [h4, h5, h6, h7] : Nat), .int .u32 (be [h8, h9, h10, h11] : Nat), .int .i64 0, .int .i64 0, .int .i64 0, .slice none 0 0, .slice none 0 0] 105 hd (by simp) [.int .i64 (be [h0, h1] : Nat), .int .i64 (be [h2, h3] : Nat), .int .u32 (be [h4, h5, h6, h7] : Nat), .int .u32 (be [h8, h9, h10, h11] : Nat), .int .i64 fg, .int .i64 0, .int .i64 0, .slice none 0 0, .slice none 0 0] rfl (by kernel_rfl) (by rfl) ?_; intro w13 hq gr; replace hb := hb.away av_hb_d gr; replace rest := rest.away av11_rest_d gr; replace hp := blk_a hp gr d_p_d; replace hz := blk_a hz gr d_z_d; replace hr := blk_a hr gr d_r_d; replace bel := below_grown bel gr od bel.size; clear hd; have hd := hq; clear hq gr))
  with_reducible refine (rd_u16c _ _ _ _ _ _ _ _ _ hr rest).mono ?_
  rintro e w14 ⟨A13, n13, c13, rfl, hq, sq, uq, b14⟩
  replace hb := hb.away av_hb_r b14
  replace hp := blk_a hp b14 d_p_r
  replace hz := blk_a hz b14 d_z_r
  replace hd := blk_a hd b14 (ne_symm d_r_d)
  replace bel := below_grown bel b14 or bel.size
  clear b14
  clear hr rest
  have hr := hq
  have rest := sq
  clear hq sq
  have av13_rest_p := av11_rest_p.sub uq
  have av13_rest_z := av11_rest_z.sub uq
  have av13_rest_r := av11_rest_r.sub uq
  have av13_rest_d := av11_rest_d.sub uq
  clear uq
  go_wp2_with (first | ((with_reducible show wpList _ _ _ (⟨none, Op.store _ (.tmp 37) _, _, _, _, _⟩ :: _) _ _); refine wpList_store_part rfl 3 (.tmp 37) (.tmp 36) rfl g5 5 rfl [.int .i64 (be [h14, h15] : Nat)] rfl [.int .i64 (be [h0, h1] : Nat), .int .i64 (be [h2, h3] : Nat), .int .u32 (be [h4, h5, h6, h7] : Nat), .int .u32 (be [h8, h9, h10, h11] : Nat), .int .i64 fg, .int .i64 0, .int .i64 0, .slice none 0 0, .slice none 0 0] 105 hd (by simp) [.int .i64 (be [h0, h1] : Nat), .int .i64 (be [h2, h3] : Nat), .int .u32 (be [h4, h5, h6, h7] : Nat), .int .u32 (be [h8, h9, h10, h11] : Nat), .int .i64 fg, .int .i64 (be [h14, h15] : Nat), .int .i64 0, .slice none 0 0, .slice none 0 0] rfl (by kernel_rfl) (by rfl) ?_; intro w15 hq gr; replace hb := hb.away av_hb_d gr; replace rest := rest.away av13_rest_d gr; replace hp := blk_a hp gr d_p_d; replace hz := blk_a hz gr d_z_d; replace hr := blk_a hr gr d_r_d; replace bel := below_grown bel gr od bel.size; clear hd; have hd := hq; clear hq gr))
  with_reducible refine (rd_u16c _ _ _ _ _ _ _ _ _ hr rest).mono ?_
  rintro e w16 ⟨A15, n15, c15, rfl, hq, sq, uq, b16⟩
  replace hb := hb.away av_hb_r b16
  replace hp := blk_a hp b16 d_p_r
  replace hz := blk_a hz b16 d_z_r
  replace hd := blk_a hd b16 (ne_symm d_r_d)
  replace bel := below_grown bel b16 or bel.size
  clear b16
  clear hr rest
  have hr := hq
  have rest := sq
  clear hq sq
  have av15_rest_p := av13_rest_p.sub uq
  have av15_rest_z := av13_rest_z.sub uq
  have av15_rest_r := av13_rest_r.sub uq
  have av15_rest_d := av13_rest_d.sub uq
  clear uq
  go_wp2_with fail
  with_reducible refine (rd_u16c _ _ _ _ _ _ _ _ _ hr rest).mono ?_
  rintro e w17 ⟨A16, n16, c16, rfl, hq, sq, uq, b17⟩
  replace hb := hb.away av_hb_r b17
  replace hp := blk_a hp b17 d_p_r
  replace hz := blk_a hz b17 d_z_r
  replace hd := blk_a hd b17 (ne_symm d_r_d)
  replace bel := below_grown bel b17 or bel.size
  clear b17
  clear hr rest
  have hr := hq
  have rest := sq
  clear hq sq
  have av16_rest_p := av15_rest_p.sub uq
  have av16_rest_z := av15_rest_z.sub uq
  have av16_rest_r := av15_rest_r.sub uq
  have av16_rest_d := av15_rest_d.sub uq
  clear uq
  go_wp2_with (first | ((with_reducible show wpList _ _ _ (⟨none, Op.store _ (.tmp 42) _, _, _, _, _⟩ :: _) _ _); refine wpList_store_part rfl 3 (.tmp 42) (.tmp 41) rfl g5 6 rfl [.int .i64 (be [h18, h19] : Nat)] rfl [.int .i64 (be [h0, h1] : Nat), .int .i64 (be [h2, h3] : Nat), .int .u32 (be [h4, h5, h6, h7] : Nat), .int .u32 (be [h8, h9, h10, h11] : Nat), .int .i64 fg, .int .i64 (be [h14, h15] : Nat), .int .i64 0, .slice none 0 0, .slice none 0 0] 105 hd (by simp) [.int .i64 (be [h0, h1] : Nat), .int .i64 (be [h2, h3] : Nat), .int .u32 (be [h4, h5, h6, h7] : Nat), .int .u32 (be [h8, h9, h10, h11] : Nat), .int .i64 fg, .int .i64 (be [h14, h15] : Nat), .int .i64 (be [h18, h19] : Nat), .slice none 0 0, .slice none 0 0] rfl (by kernel_rfl) (by rfl) ?_; intro w18 hq gr; replace hb := hb.away av_hb_d gr; replace rest := rest.away av16_rest_d gr; replace hp := blk_a hp gr d_p_d; replace hz := blk_a hz gr d_z_d; replace hr := blk_a hr gr d_r_d; replace bel := below_grown bel gr od bel.size; clear hd; have hd := hq; clear hq gr))
  with_reducible refine (rd_short _ _ _ _ _ _ _ hr rest).mono ?_
  rintro e _ ⟨rfl, rfl⟩
  go_wp2_with fail
  have ob1 := bel.size
  with_reducible refine (rd_bytes (k) _ _ _ _ _ _ _ hr rest (HKR.out) (by have := HL.out; simp only [List.length_cons] at this; have := HKR.out; have := HM.out; omega)).mono ?_
  rintro e w19 ⟨Aop, cop, A18, n18, c18, rfl, hq, sq, uq, op, frop, b19⟩
  have av_op_p := frop.av (hlt hp)
  have av_op_z := frop.av (hlt hz)
  have av_op_r := frop.av (hlt hr)
  have av_op_d := frop.av (hlt hd)
  replace hb := hb.away av_hb_r b19
  replace hp := blk_a hp b19 d_p_r
  replace hz := blk_a hz b19 d_z_r
  replace hd := blk_a hd b19 (ne_symm d_r_d)
  replace bel := below_grown bel b19 or bel.size
  clear b19
  clear hr rest
  have hr := hq
  have rest := sq
  clear hq sq
  have av18_rest_p := av16_rest_p.sub uq
  have av18_rest_z := av16_rest_z.sub uq
  have av18_rest_r := av16_rest_r.sub uq
  have av18_rest_d := av16_rest_d.sub uq
  clear uq
  have fr_op := frop.mono ob1
  go_wp2_with (first | ((with_reducible show wpList _ _ _ (⟨none, Op.store _ (.tmp 53) _, _, _, _, _⟩ :: _) _ _); refine wpList_store_part rfl 36 (.tmp 53) (.tmp 52) rfl g5 7 rfl [.slice Aop k cop] rfl [.int .i64 (be [h0, h1] : Nat), .int .i64 (be [h2, h3] : Nat), .int .u32 (be [h4, h5, h6, h7] : Nat), .int .u32 (be [h8, h9, h10, h11] : Nat), .int .i64 fg, .int .i64 (be [h14, h15] : Nat), .int .i64 (be [h18, h19] : Nat), .slice none 0 0, .slice none 0 0] 105 hd (by simp) [.int .i64 (be [h0, h1] : Nat), .int .i64 (be [h2, h3] : Nat), .int .u32 (be [h4, h5, h6, h7] : Nat), .int .u32 (be [h8, h9, h10, h11] : Nat), .int .i64 fg, .int .i64 (be [h14, h15] : Nat), .int .i64 (be [h18, h19] : Nat), .slice Aop k cop, .slice none 0 0] rfl (by kernel_rfl) (by rfl) ?_; intro w20 hq gr; replace hb := hb.away av_hb_d gr; replace rest := rest.away av18_rest_d gr; replace op := op.away av_op_d gr; replace hp := blk_a hp gr d_p_d; replace hz := blk_a hz gr d_z_d; replace hr := blk_a hr gr d_r_d; replace bel := below_grown bel gr od bel.size; clear hd; have hd := hq; clear hq gr))
  with_reducible refine (rd_short _ _ _ _ _ _ _ hr rest).mono ?_
  rintro e _ ⟨rfl, rfl⟩
  have R57 := Lib.hid (range_lit hp 0 16 [.int .i64 tos, .int .i64 id, .int .i64 fl, .int .i64 pt, .int .i64 ttl, .int .i64 6, .int .u8 (a0.toNat : Int), .int .u8 (a1.toNat : Int), .int .u8 (a2.toNat : Int), .int .u8 (a3.toNat : Int), .int .u8 (a4.toNat : Int), .int .u8 (a5.toNat : Int), .int .u8 (a6.toNat : Int), .int .u8 (a7.toNat : Int), .slice So no co, .slice Sb nb cb] rfl)
  go_wp2_with (first | ((with_reducible show wpList _ _ _ (⟨some 57, _, _, _, _, _⟩ :: _) _ _); refine wpList_load_rng 38 (.tmp 1) rfl (by kernel_rfl) _ _ rfl _ R57.out _ Tryz.underlying38 rfl (by kernel_rfl) ?_))
  try clear R57
  with_reducible refine (tcfits_any _ _ _ _ _ 6 _ _ _ _ _ _ _ _ _ _ _ _ _ _ _ _ hb HM.out).mono ?_
  rintro e w21 ⟨rfl, b21⟩
  replace hp := blk_u hp b21
  replace hz := blk_u hz b21
  replace hr := blk_u hr b21
  replace hd := blk_u hd b21
  replace hb := hb.below b21
  replace rest := rest.below b21
  replace op := op.below b21
  replace bel := bel.trans (b21.mono bel.size)
  clear b21
  rw [HC.out]
  go_wp2_with fail
  with_reducible refine (rd_left _ _ _ _ _ _ _ hr rest).mono ?_
  rintro e _ ⟨rfl, rfl⟩
  rw [HM2.out]
  go_wp2_with fail
  have ob2 := bel.size
  with_reducible refine (rd_bytes (m) _ _ _ _ _ _ _ hr rest (by rw [HM2.out]; exact Nat.le_refl _) (by have := HM3.out; omega)).mono ?_
  rintro e w22 ⟨Abd, cbd, A21, n21, c21, rfl, hq, sq, uq, bd, frbd, b22⟩
  have av_bd_p := frbd.av (hlt hp)
  have av_bd_z := frbd.av (hlt hz)
  have av_bd_r := frbd.av (hlt hr)
  have av_bd_d := frbd.av (hlt hd)
  replace hb := hb.away av_hb_r b22
  replace op := op.away av_op_r b22
  replace hp := blk_a hp b22 d_p_r
  replace hz := blk_a hz b22 d_z_r
  replace hd := blk_a hd b22 (ne_symm d_r_d)
  replace bel := below_grown bel b22 or bel.size
  clear b22
  clear hr rest
  have hr := hq
  have rest := sq
  clear hq sq
  have av21_rest_p := av18_rest_p.sub uq
  have av21_rest_z := av18_rest_z.sub uq
  have av21_rest_r := av18_rest_r.sub uq
  have av21_rest_d := av18_rest_d.sub uq
  clear uq
  have fr_bd := frbd.mono ob2
  go_wp2_with (first | ((with_reducible show wpList _ _ _ (⟨none, Op.store _ (.tmp 65) _, _, _, _, _⟩ :: _) _ _); refine wpList_store_part rfl 36 (.tmp 65) (.tmp 64) rfl g5 8 rfl [.slice Abd m cbd] rfl [.int .i64 (be [h0, h1] : Nat), .int .i64 (be [h2, h3] : Nat), .int .u32 (be [h4, h5, h6, h7] : Nat), .int .u32 (be [h8, h9, h10, h11] : Nat), .int .i64 fg, .int .i64 (be [h14, h15] : Nat), .int .i64 (be [h18, h19] : Nat), .slice Aop k cop, .slice none 0 0] 105 hd (by simp) [.int .i64 (be [h0, h1] : Nat), .int .i64 (be [h2, h3] : Nat), .int .u32 (be [h4, h5, h6, h7] : Nat), .int .u32 (be [h8, h9, h10, h11] : Nat), .int .i64 fg, .int .i64 (be [h14, h15] : Nat), .int .i64 (be [h18, h19] : Nat), .slice Aop k cop, .slice Abd m cbd] rfl (by kernel_rfl) (by rfl) ?_; intro w23 hq gr; replace hb := hb.away av_hb_d gr; replace rest := rest.away av21_rest_d gr; replace op := op.away av_op_d gr; replace bd := bd.away av_bd_d gr; replace hp := blk_a hp gr d_p_d; replace hz := blk_a hz gr d_z_d; replace hr := blk_a hr gr d_r_d; replace bel := below_grown bel gr od bel.size; clear hd; have hd := hq; clear hq gr; have R66 := Lib.hid (range_lit hd 0 9 [.int .i64 (be [h0, h1] : Nat), .int .i64 (be [h2, h3] : Nat), .int .u32 (be [h4, h5, h6, h7] : Nat), .int .u32 (be [h8, h9, h10, h11] : Nat), .int .i64 fg, .int .i64 (be [h14, h15] : Nat), .int .i64 (be [h18, h19] : Nat), .slice Aop k cop, .slice Abd m cbd] rfl)) | ((with_reducible show wpList _ _ _ (⟨some 66, _, _, _, _, _⟩ :: _) _ _); refine wpList_load_rng 105 (.tmp 5) rfl (by kernel_rfl) _ _ rfl _ R66.out _ Tryz.underlying105 rfl (by kernel_rfl) ?_) | ((with_reducible show wpList _ _ _ (⟨none, Op.store _ (.tmp 2) _, _, _, _, _⟩ :: _) _ _); refine wpList_store_blk rfl 105 (.tmp 2) (.tmp 66) rfl g2 rfl _ rfl _ 105 hz (by rfl) (by kernel_rfl) (by kernel_rfl) ?_; intro w24 hq gr; replace hb := hb.away av_hb_z gr; replace rest := rest.away av21_rest_z gr; replace op := op.away av_op_z gr; replace bd := bd.away av_bd_z gr; replace hp := blk_a hp gr d_p_z; replace hr := blk_a hr gr (ne_symm d_z_r); replace hd := blk_a hd gr (ne_symm d_z_d); replace bel := below_grown bel gr oz bel.size; clear hz; have hz := hq; clear hq gr))
  try clear R66
  exact bodyPost_ret (results_cell_tmp_row rfl _ _ _ _ _ _ _ rfl hz Tryz.underlying105 rfl (by kernel_rfl) (.int .i64 0) rfl) rfl ⟨_, _, _, _, fg, _, _, r.take k, r.drop k, Aop, Abd, cop, cbd, 0, by rw [HKL.out, HM2.out], by rw [HKL.out]; exact op, by rw [List.take_of_length_le (Nat.le_of_eq HM2.out)] at bd; rw [HM2.out]; exact bd, by rw [HKL.out]; exact fr_op, by rw [HM2.out]; exact fr_bd, bel, HP.out.symm⟩
open Go.RowKit

theorem tcBytes_eq (a0 a1 a2 a3 a4 a5 a6 a7 : UInt8) (sf st se ak fg wn ug : Int) (q b : List UInt8) : tcBytes a0 a1 a2 a3 a4 a5 a6 a7 sf st se ak fg wn ug q b = byteOf (sf / 256) :: byteOf sf :: byteOf (st / 256) :: byteOf st :: byteOf (se / 16777216) :: byteOf (se / 65536) :: byteOf (se / 256) :: byteOf se :: byteOf (ak / 16777216) :: byteOf (ak / 65536) :: byteOf (ak / 256) :: byteOf ak :: byteOf (80 + 4 * (q.length : Int)) :: byteOf fg :: byteOf (wn / 256) :: byteOf wn :: byteOf ((tcSum a0 a1 a2 a3 a4 a5 a6 a7 sf st se ak fg wn ug q b) / 256) :: byteOf (tcSum a0 a1 a2 a3 a4 a5 a6 a7 sf st se ak fg wn ug q b) :: byteOf (ug / 256) :: byteOf ug :: (q ++ b) := by
  unfold tcBytes
  simp only [List.append_assoc]
  rfl
theorem tcSum_range (a0 a1 a2 a3 a4 a5 a6 a7 : UInt8) (sf st se ak fg wn ug : Int) (q b : List UInt8) : 0 ≤ tcSum a0 a1 a2 a3 a4 a5 a6 a7 sf st se ak fg wn ug q b ∧ tcSum a0 a1 a2 a3 a4 a5 a6 a7 sf st se ak fg wn ug q b ≤ 65535 := by
  have h := ck_bounds [l4Ps a0 a1 a2 a3 a4 a5 a6 a7 6 (20 + (q.length : Int) + (b.length : Int)), tcA sf st se ak q.length fg wn, two ug ++ q ++ b].flatten
  unfold tcSum
  omega
/-- The whole of it fits. -/
theorem tc_sealed (a0 a1 a2 a3 a4 a5 a6 a7 : UInt8) (sf st se ak fg wn ug : Int) (q b : List UInt8) : ck (l4Ps a0 a1 a2 a3 a4 a5 a6 a7 6 (20 + (q.length : Int) + (b.length : Int)) ++ tcBytes a0 a1 a2 a3 a4 a5 a6 a7 sf st se ak fg wn ug q b) = 0 := by
  have hr := tcSum_range a0 a1 a2 a3 a4 a5 a6 a7 sf st se ak fg wn ug q b
  have hv := two_val _ hr.1 hr.2
  have hp := ps_pos a0 a1 a2 a3 a4 a5 a6 a7 6 (20 + (q.length : Int) + (b.length : Int)) (tcA sf st se ak q.length fg wn ++ (two ug ++ q ++ b)) (by decide)
  rw [← List.append_assoc] at hp
  have hs : tcSum a0 a1 a2 a3 a4 a5 a6 a7 sf st se ak fg wn ug q b = 65535 - (nrm (ws true (l4Ps a0 a1 a2 a3 a4 a5 a6 a7 6 (20 + (q.length : Int) + (b.length : Int)) ++ tcA sf st se ak q.length fg wn ++ (two ug ++ q ++ b))) : Int) := by
    unfold tcSum ck
    rw [show [l4Ps a0 a1 a2 a3 a4 a5 a6 a7 6 (20 + (q.length : Int) + (b.length : Int)), tcA sf st se ak q.length fg wn, two ug ++ q ++ b].flatten = l4Ps a0 a1 a2 a3 a4 a5 a6 a7 6 (20 + (q.length : Int) + (b.length : Int)) ++ tcA sf st se ak q.length fg wn ++ (two ug ++ q ++ b) by simp]
  rw [ck_zero]
  unfold tcBytes
  rw [show two (tcSum a0 a1 a2 a3 a4 a5 a6 a7 sf st se ak fg wn ug q b) = [byteOf (tcSum a0 a1 a2 a3 a4 a5 a6 a7 sf st se ak fg wn ug q b / 256), byteOf (tcSum a0 a1 a2 a3 a4 a5 a6 a7 sf st se ak fg wn ug q b)] from rfl, l4_around _ _ _ _ _ (by simp [l4Ps, two]) (by rw [tcA_len])]
  generalize ws true (l4Ps a0 a1 a2 a3 a4 a5 a6 a7 6 (20 + (q.length : Int) + (b.length : Int)) ++ tcA sf st se ak q.length fg wn ++ (two ug ++ q ++ b)) = W at *
  have h1 := nrm_mod W
  have h2 := nrm_le W
  omega
theorem inOk_of {m v : Int} (h : inOk m v = true) : 0 ≤ v ∧ v ≤ m := by
  unfold inOk at h
  simpa using h
theorem segOk_of {sf st fg wn ug : Int} {n : Nat} (h : segOk sf st fg wn ug n = true) : (0 ≤ sf ∧ sf ≤ 65535) ∧ (0 ≤ st ∧ st ≤ 65535) ∧ (0 ≤ fg ∧ fg ≤ 63) ∧ (0 ≤ wn ∧ wn ≤ 65535) ∧ (0 ≤ ug ∧ ug ≤ 65535) ∧ n ≤ 40 ∧ n % 4 = 0 := by
  unfold segOk at h
  simp only [Bool.and_eq_true, decide_eq_true_eq] at h
  obtain ⟨⟨⟨⟨⟨⟨h1, h2⟩, h3⟩, h4⟩, h5⟩, h6⟩, h7⟩ := h
  exact ⟨inOk_of h1, inOk_of h2, inOk_of h3, inOk_of h4, inOk_of h5, h6, h7⟩
theorem be_quad (v : Int) (h0 : 0 ≤ v) (h1 : v < 4294967296) : ((be [byteOf (v / 16777216), byteOf (v / 65536), byteOf (v / 256), byteOf v] : Nat) : Int) = v := by
  have h := be_four v
  unfold four at h
  omega
theorem be_pair (v : Int) (h0 : 0 ≤ v) (h1 : v ≤ 65535) : ((be [byteOf (v / 256), byteOf v] : Nat) : Int) = v := be2_two v h0 h1
/-- What was put is read back. -/
theorem tc_back {fl pt : Int} (hw : (decide (pt = 0) && decide (fl % 2 = 0)) = true) (a0 a1 a2 a3 a4 a5 a6 a7 : UInt8) {sf st se ak fg wn ug : Int} (q b : List UInt8) (hg : segOk sf st fg wn ug q.length = true) (e0 : 0 ≤ se) (e1 : se < 4294967296) (k0 : 0 ≤ ak) (k1 : ak < 4294967296) :
    tcGet fl pt 6 a0 a1 a2 a3 a4 a5 a6 a7 (tcBytes a0 a1 a2 a3 a4 a5 a6 a7 sf st se ak fg wn ug q b) = ([sf, st, se, ak, fg, wn, ug], (q, b), 0) := by
  obtain ⟨g1, g2, g3, g4, g5, g6, g7⟩ := segOk_of hg
  have hsl := tc_sealed a0 a1 a2 a3 a4 a5 a6 a7 sf st se ak fg wn ug q b
  have hlen := tcBytes_len a0 a1 a2 a3 a4 a5 a6 a7 sf st se ak fg wn ug q b
  rw [tcBytes_eq] at hsl hlen ⊢
  have hh : (byteOf (80 + 4 * (q.length : Int))).toNat / 16 * 4 = 20 + q.length := by
    have := byteOf_val (80 + 4 * (q.length : Int))
    omega
  have hf : (((byteOf fg).toNat % 64 : Nat) : Int) = fg := by
    have := byteOf_val fg
    omega
  rw [tc_ok (k := q.length) ?_ hh (by omega), be_pair sf g1.1 g1.2, be_pair st g2.1 g2.2, be_quad se e0 e1, be_quad ak k0 k1, hf, be_pair wn g4.1 g4.2, be_pair ug g5.1 g5.2, List.take_left, List.drop_left]
  rw [tc_at hh hw, hlen, if_neg (by omega), if_neg (by omega), if_neg]
  intro h
  apply h
  rw [show ((20 + q.length + b.length : Nat) : Int) = 20 + (q.length : Int) + (b.length : Int) from rfl]
  exact hsl
open Go.RowKit

theorem see_old {lo gt : Nat} {z0 z1 z2 z3 z4 z5 : Int} {Z6 Z7 : Option Addr} {z6 y6 z7 y7 : Nat} {s s2 : Ks} {o p f r : Int} {ad : Ad4} {b : Bool} {y : Cn} {i : Nat} {x : Cn} (w : World) (hT : Tk lo gt w s) (hN : s.l.findIdx (isB o ad p) = i) (hx : s.l[i]? = some x) (hy : fol x b f = y) (hr : y.s = r) (h2 : (⟨s.rm, s.l.set i y⟩ : Ks) = s2) : Calls Tryz.prog 69 #[.pointer (some ⟨gt, 0, none⟩), .int .i64 o, .agg #[.int .u8 (ad.a.toNat : Int), .int .u8 (ad.b.toNat : Int), .int .u8 (ad.c.toNat : Int), .int .u8 (ad.d.toNat : Int)], .int .i64 p, .bool b, .agg #[.int .i64 z0, .int .i64 z1, .int .u32 z2, .int .u32 z3, .int .i64 f, .int .i64 z4, .int .i64 z5, .slice Z6 z6 y6, .slice Z7 z7 y7]] w fun e w' => e = .returned (.int .i64 r) ∧ Tk lo gt w' s2 ∧ Kap gt w w' ∧ Below lo w w' := by
  obtain ⟨rm, l⟩ := s
  subst hr
  subst h2
  exact tsee_old w hT hN hx hy
theorem see_new {lo gt : Nat} {z0 z1 z2 z3 z4 z5 : Int} {Z6 Z7 : Option Addr} {z6 y6 z7 y7 : Nat} {s s2 : Ks} {o p f r : Int} {ad : Ad4} {b : Bool} {y : Cn} (w : World) (hT : Tk lo gt w s) (hN : s.l.findIdx (isB o ad p) = s.l.length) (hy : fol ⟨o, ad, p, 0, false⟩ b f = y) (hr : y.s = r) (h0 : r ≠ 0) (hl : (s.l.length : Int) < s.rm) (h2 : (⟨s.rm, s.l ++ [y]⟩ : Ks) = s2) : Calls Tryz.prog 69 #[.pointer (some ⟨gt, 0, none⟩), .int .i64 o, .agg #[.int .u8 (ad.a.toNat : Int), .int .u8 (ad.b.toNat : Int), .int .u8 (ad.c.toNat : Int), .int .u8 (ad.d.toNat : Int)], .int .i64 p, .bool b, .agg #[.int .i64 z0, .int .i64 z1, .int .u32 z2, .int .u32 z3, .int .i64 f, .int .i64 z4, .int .i64 z5, .slice Z6 z6 y6, .slice Z7 z7 y7]] w fun e w' => e = .returned (.int .i64 r) ∧ Tk lo gt w' s2 ∧ Kap gt w w' ∧ Below lo w w' := by
  obtain ⟨rm, l⟩ := s
  subst hr
  subst h2
  exact tsee_new w hT hN hy h0 hl
end Go.Proofs.YtbdaejodbcjmfaaGreat
