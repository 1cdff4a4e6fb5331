/- Layer 8: tcp's holds, writable, fits, write, Put. -/
import Derived.Test.YtkmihoijnjdbnaaTcl
import Derived.Test.YtkmihoijnjdbnaaRd3
import Derived.Test.YtkmihoijnjdbnaaUd1
import Derived.Test.YtkmihoijnjdbnaaIpe
import Derived.Test.YtkmihoijnjdbnaaIpf
import Derived.Deep.RegionHeld3
namespace Go.Proofs.Ytkmihoijnjdbnaa
open Go.RowKit

set_option maxRecDepth 100000 in
set_option maxHeartbeats 16000000 in
theorem hold16 (v : Int) (w : World) : Calls Try.prog 36 #[.int .i64 16, .int .i64 v] w fun e w' => e = .returned (.bool (inOk 65535 v)) ∧ w = w' := by
  unfold inOk
  rcases (by decide : ∀ b : Bool, b = true ∨ b = false) (v / 65536 == 0) with h0 | h0
  · have h1 : (decide (0 ≤ v) && decide (v ≤ 65535)) = true := by
      have := eq_of_beq h0
      simp only [Bool.and_eq_true, decide_eq_true_eq]
      omega
    rw [h1]
    clear h1
    go_enter Try.func36, Try.ntmps36
    go_wp2
    go_ret
    exact ⟨rfl, rfl⟩
  · have h1 : (decide (0 ≤ v) && decide (v ≤ 65535)) = false := by
      have := ne_of_beq_false h0
      simp only [Bool.and_eq_false_iff, decide_eq_false_iff_not]
      omega
    rw [h1]
    clear h1
    go_enter Try.func36, Try.ntmps36
    go_wp2
    go_ret
    exact ⟨rfl, rfl⟩
set_option maxRecDepth 100000 in
set_option maxHeartbeats 16000000 in
theorem hold6 (v : Int) (w : World) : Calls Try.prog 36 #[.int .i64 6, .int .i64 v] w fun e w' => e = .returned (.bool (inOk 63 v)) ∧ w = w' := by
  unfold inOk
  rcases (by decide : ∀ b : Bool, b = true ∨ b = false) (v / 64 == 0) with h0 | h0
  · have h1 : (decide (0 ≤ v) && decide (v ≤ 63)) = true := by
      have := eq_of_beq h0
      simp only [Bool.and_eq_true, decide_eq_true_eq]
      omega
    rw [h1]
    clear h1
    go_enter Try.func36, Try.ntmps36
    go_wp2
    go_ret
    exact ⟨rfl, rfl⟩
  · have h1 : (decide (0 ≤ v) && decide (v ≤ 63)) = false := by
      have := ne_of_beq_false h0
      simp only [Bool.and_eq_false_iff, decide_eq_false_iff_not]
      omega
    rw [h1]
    clear h1
    go_enter Try.func36, Try.ntmps36
    go_wp2
    go_ret
    exact ⟨rfl, rfl⟩
set_option linter.unusedVariables false in
set_option maxRecDepth 100000 in
set_option maxHeartbeats 16000000 in
theorem writable_0 (sf st se ak fg wn ug : Int) (Q : Option Addr) (nq cq : Nat) (D : Option Addr) (nd cd : Nat) (lq : List UInt8) (w : World) (hv : Sl w Q nq cq lq) (f0 : inOk 65535 sf = false) : Calls Try.prog 18 #[.agg #[.int .i64 sf, .int .i64 st, .int .u32 se, .int .u32 ak, .int .i64 fg, .int .i64 wn, .int .i64 ug, .slice Q nq cq, .slice D nd cd]] w fun e w' => e = .returned (.bool false) ∧ Below w.heap.size w w' := by
  clear hv
  have F0 := Lib.hid f0
  clear f0
  have bel := Below.refl w.heap.size w
  go_enter Try.func18, Try.ntmps18
  go_wp2_with (first | ((with_reducible show wpList _ _ _ (⟨some 1, _, _, _, _, _⟩ :: _) _ _); refine wpList_box_n rfl 34 (.tmp 0) rfl #[.int .i64 sf, .int .i64 st, .int .u32 se, .int .u32 ak, .int .i64 fg, .int .i64 wn, .int .i64 ug, .slice Q nq cq, .slice D nd cd] rfl ?_; intro g1 w1 ge lt hh bb; have od := Nat.le_trans bel.size ge; replace bel := bel.trans (bb.mono bel.size); have hd := hh; clear hh lt ge bb; have R4 := cell_lit hd 0 _ rfl))
  try clear R4
  with_reducible refine (hold16 _ _).mono ?_
  rintro e _ ⟨rfl, rfl⟩
  rw [F0.out]
  go_wp2_with fail
  go_ret
  exact ⟨rfl, bel⟩
set_option linter.unusedVariables false in
set_option maxRecDepth 100000 in
set_option maxHeartbeats 16000000 in
theorem writable_1 (sf st se ak fg wn ug : Int) (Q : Option Addr) (nq cq : Nat) (D : Option Addr) (nd cd : Nat) (lq : List UInt8) (w : World) (hv : Sl w Q nq cq lq) (f0 : inOk 65535 sf = true) (f1 : inOk 65535 st = false) : Calls Try.prog 18 #[.agg #[.int .i64 sf, .int .i64 st, .int .u32 se, .int .u32 ak, .int .i64 fg, .int .i64 wn, .int .i64 ug, .slice Q nq cq, .slice D nd cd]] w fun e w' => e = .returned (.bool false) ∧ Below w.heap.size w w' := by
  clear hv
  have F0 := Lib.hid f0
  clear f0
  have F1 := Lib.hid f1
  clear f1
  have bel := Below.refl w.heap.size w
  go_enter Try.func18, Try.ntmps18
  go_wp2_with (first | ((with_reducible show wpList _ _ _ (⟨some 1, _, _, _, _, _⟩ :: _) _ _); refine wpList_box_n rfl 34 (.tmp 0) rfl #[.int .i64 sf, .int .i64 st, .int .u32 se, .int .u32 ak, .int .i64 fg, .int .i64 wn, .int .i64 ug, .slice Q nq cq, .slice D nd cd] rfl ?_; intro g1 w1 ge lt hh bb; have od := Nat.le_trans bel.size ge; replace bel := bel.trans (bb.mono bel.size); have hd := hh; clear hh lt ge bb; have R4 := cell_lit hd 0 _ rfl))
  try clear R4
  with_reducible refine (hold16 _ _).mono ?_
  rintro e _ ⟨rfl, rfl⟩
  rw [F0.out]
  have R8 := cell_lit hd 1 _ rfl
  go_wp2_with fail
  clear R8
  with_reducible refine (hold16 _ _).mono ?_
  rintro e _ ⟨rfl, rfl⟩
  rw [F1.out]
  go_wp2_with fail
  go_ret
  exact ⟨rfl, bel⟩
set_option linter.unusedVariables false in
set_option maxRecDepth 100000 in
set_option maxHeartbeats 16000000 in
theorem writable_2 (sf st se ak fg wn ug : Int) (Q : Option Addr) (nq cq : Nat) (D : Option Addr) (nd cd : Nat) (lq : List UInt8) (w : World) (hv : Sl w Q nq cq lq) (f0 : inOk 65535 sf = true) (f1 : inOk 65535 st = true) (f2 : inOk 63 fg = false) : Calls Try.prog 18 #[.agg #[.int .i64 sf, .int .i64 st, .int .u32 se, .int .u32 ak, .int .i64 fg, .int .i64 wn, .int .i64 ug, .slice Q nq cq, .slice D nd cd]] w fun e w' => e = .returned (.bool false) ∧ Below w.heap.size w w' := by
  clear hv
  have F0 := Lib.hid f0
  clear f0
  have F1 := Lib.hid f1
  clear f1
  have F2 := Lib.hid f2
  clear f2
  have bel := Below.refl w.heap.size w
  go_enter Try.func18, Try.ntmps18
  go_wp2_with (first | ((with_reducible show wpList _ _ _ (⟨some 1, _, _, _, _, _⟩ :: _) _ _); refine wpList_box_n rfl 34 (.tmp 0) rfl #[.int .i64 sf, .int .i64 st, .int .u32 se, .int .u32 ak, .int .i64 fg, .int .i64 wn, .int .i64 ug, .slice Q nq cq, .slice D nd cd] rfl ?_; intro g1 w1 ge lt hh bb; have od := Nat.le_trans bel.size ge; replace bel := bel.trans (bb.mono bel.size); have hd := hh; clear hh lt ge bb; have R4 := cell_lit hd 0 _ rfl))
  try clear R4
  with_reducible refine (hold16 _ _).mono ?_
  rintro e _ ⟨rfl, rfl⟩
  rw [F0.out]
  have R8 := cell_lit hd 1 _ rfl
  go_wp2_with fail
  clear R8
  with_reducible refine (hold16 _ _).mono ?_
  rintro e _ ⟨rfl, rfl⟩
  rw [F1.out]
  have R13 := cell_lit hd 4 _ rfl
  go_wp2_with fail
  clear R13
  with_reducible refine (hold6 _ _).mono ?_
  rintro e _ ⟨rfl, rfl⟩
  rw [F2.out]
  go_wp2_with fail
  go_ret
  exact ⟨rfl, bel⟩
set_option linter.unusedVariables false in
set_option maxRecDepth 100000 in
set_option maxHeartbeats 16000000 in
theorem writable_3 (sf st se ak fg wn ug : Int) (Q : Option Addr) (nq cq : Nat) (D : Option Addr) (nd cd : Nat) (lq : List UInt8) (w : World) (hv : Sl w Q nq cq lq) (f0 : inOk 65535 sf = true) (f1 : inOk 65535 st = true) (f2 : inOk 63 fg = true) (f3 : inOk 65535 wn = false) : Calls Try.prog 18 #[.agg #[.int .i64 sf, .int .i64 st, .int .u32 se, .int .u32 ak, .int .i64 fg, .int .i64 wn, .int .i64 ug, .slice Q nq cq, .slice D nd cd]] w fun e w' => e = .returned (.bool false) ∧ Below w.heap.size w w' := by
  clear hv
  have F0 := Lib.hid f0
  clear f0
  have F1 := Lib.hid f1
  clear f1
  have F2 := Lib.hid f2
  clear f2
  have F3 := Lib.hid f3
  clear f3
  have bel := Below.refl w.heap.size w
  go_enter Try.func18, Try.ntmps18
  go_wp2_with (first | ((with_reducible show wpList _ _ _ (⟨some 1, _, _, _, _, _⟩ :: _) _ _); refine wpList_box_n rfl 34 (.tmp 0) rfl #[.int .i64 sf, .int .i64 st, .int .u32 se, .int .u32 ak, .int .i64 fg, .int .i64 wn, .int .i64 ug, .slice Q nq cq, .slice D nd cd] rfl ?_; intro g1 w1 ge lt hh bb; have od := Nat.le_trans bel.size ge; replace bel := bel.trans (bb.mono bel.size); have hd := hh; clear hh lt ge bb; have R4 := cell_lit hd 0 _ rfl))
  try clear R4
  with_reducible refine (hold16 _ _).mono ?_
  rintro e _ ⟨rfl, rfl⟩
  rw [F0.out]
  have R8 := cell_lit hd 1 _ rfl
  go_wp2_with fail
  clear R8
  with_reducible refine (hold16 _ _).mono ?_
  rintro e _ ⟨rfl, rfl⟩
  rw [F1.out]
  have R13 := cell_lit hd 4 _ rfl
  go_wp2_with fail
  clear R13
  with_reducible refine (hold6 _ _).mono ?_
  rintro e _ ⟨rfl, rfl⟩
  rw [F2.out]
  have R18 := cell_lit hd 5 _ rfl
  go_wp2_with fail
  clear R18
  with_reducible refine (hold16 _ _).mono ?_
  rintro e _ ⟨rfl, rfl⟩
  rw [F3.out]
  go_wp2_with fail
  go_ret
  exact ⟨rfl, bel⟩
set_option linter.unusedVariables false in
set_option maxRecDepth 100000 in
set_option maxHeartbeats 16000000 in
theorem writable_4 (sf st se ak fg wn ug : Int) (Q : Option Addr) (nq cq : Nat) (D : Option Addr) (nd cd : Nat) (lq : List UInt8) (w : World) (hv : Sl w Q nq cq lq) (f0 : inOk 65535 sf = true) (f1 : inOk 65535 st = true) (f2 : inOk 63 fg = true) (f3 : inOk 65535 wn = true) (f4 : inOk 65535 ug = false) : Calls Try.prog 18 #[.agg #[.int .i64 sf, .int .i64 st, .int .u32 se, .int .u32 ak, .int .i64 fg, .int .i64 wn, .int .i64 ug, .slice Q nq cq, .slice D nd cd]] w fun e w' => e = .returned (.bool false) ∧ Below w.heap.size w w' := by
  clear hv
  have F0 := Lib.hid f0
  clear f0
  have F1 := Lib.hid f1
  clear f1
  have F2 := Lib.hid f2
  clear f2
  have F3 := Lib.hid f3
  clear f3
  have F4 := Lib.hid f4
  clear f4
  have bel := Below.refl w.heap.size w
  go_enter Try.func18, Try.ntmps18
  go_wp2_with (first | ((with_reducible show wpList _ _ _ (⟨some 1, _, _, _, _, _⟩ :: _) _ _); refine wpList_box_n rfl 34 (.tmp 0) rfl #[.int .i64 sf, .int .i64 st, .int .u32 se, .int .u32 ak, .int .i64 fg, .int .i64 wn, .int .i64 ug, .slice Q nq cq, .slice D nd cd] rfl ?_; intro g1 w1 ge lt hh bb; have od := Nat.le_trans bel.size ge; replace bel := bel.trans (bb.mono bel.size); have hd := hh; clear hh lt ge bb; have R4 := cell_lit hd 0 _ rfl))
  try clear R4
  with_reducible refine (hold16 _ _).mono ?_
  rintro e _ ⟨rfl, rfl⟩
  rw [F0.out]
  have R8 := cell_lit hd 1 _ rfl
  go_wp2_with fail
  clear R8
  with_reducible refine (hold16 _ _).mono ?_
  rintro e _ ⟨rfl, rfl⟩
  rw [F1.out]
  have R13 := cell_lit hd 4 _ rfl
  go_wp2_with fail
  clear R13
  with_reducible refine (hold6 _ _).mono ?_
  rintro e _ ⟨rfl, rfl⟩
  rw [F2.out]
  have R18 := cell_lit hd 5 _ rfl
  go_wp2_with fail
  clear R18
  with_reducible refine (hold16 _ _).mono ?_
  rintro e _ ⟨rfl, rfl⟩
  rw [F3.out]
  have R23 := cell_lit hd 6 _ rfl
  go_wp2_with fail
  clear R23
  with_reducible refine (hold16 _ _).mono ?_
  rintro e _ ⟨rfl, rfl⟩
  rw [F4.out]
  go_wp2_with fail
  go_ret
  exact ⟨rfl, bel⟩
set_option linter.unusedVariables false in
set_option maxRecDepth 100000 in
set_option maxHeartbeats 16000000 in
theorem writable_5 (sf st se ak fg wn ug : Int) (Q : Option Addr) (nq cq : Nat) (D : Option Addr) (nd cd : Nat) (lq : List UInt8) (w : World) (hv : Sl w Q nq cq lq) (f0 : inOk 65535 sf = true) (f1 : inOk 65535 st = true) (f2 : inOk 63 fg = true) (f3 : inOk 65535 wn = true) (f4 : inOk 65535 ug = true) (n0 : 40 < nq) : Calls Try.prog 18 #[.agg #[.int .i64 sf, .int .i64 st, .int .u32 se, .int .u32 ak, .int .i64 fg, .int .i64 wn, .int .i64 ug, .slice Q nq cq, .slice D nd cd]] w fun e w' => e = .returned (.bool false) ∧ Below w.heap.size w w' := by
  have F0 := Lib.hid f0
  clear f0
  have F1 := Lib.hid f1
  clear f1
  have F2 := Lib.hid f2
  clear f2
  have F3 := Lib.hid f3
  clear f3
  have F4 := Lib.hid f4
  clear f4
  have t0 : decide ((nq : Int) ≤ 40) = false := decide_eq_false (by omega)
  clear n0
  have bel := Below.refl w.heap.size w
  go_enter Try.func18, Try.ntmps18
  go_wp2_with (first | ((with_reducible show wpList _ _ _ (⟨some 1, _, _, _, _, _⟩ :: _) _ _); refine wpList_box_n rfl 34 (.tmp 0) rfl #[.int .i64 sf, .int .i64 st, .int .u32 se, .int .u32 ak, .int .i64 fg, .int .i64 wn, .int .i64 ug, .slice Q nq cq, .slice D nd cd] rfl ?_; intro g1 w1 ge lt hh bb; have av_hv_d := hv.av_new ge; have od := Nat.le_trans bel.size ge; replace hv := hv.below bb; replace bel := bel.trans (bb.mono bel.size); have hd := hh; clear hh lt ge bb; have R4 := cell_lit hd 0 _ rfl))
  try clear R4
  with_reducible refine (hold16 _ _).mono ?_
  rintro e _ ⟨rfl, rfl⟩
  rw [F0.out]
  have R8 := cell_lit hd 1 _ rfl
  go_wp2_with fail
  clear R8
  with_reducible refine (hold16 _ _).mono ?_
  rintro e _ ⟨rfl, rfl⟩
  rw [F1.out]
  have R13 := cell_lit hd 4 _ rfl
  go_wp2_with fail
  clear R13
  with_reducible refine (hold6 _ _).mono ?_
  rintro e _ ⟨rfl, rfl⟩
  rw [F2.out]
  have R18 := cell_lit hd 5 _ rfl
  go_wp2_with fail
  clear R18
  with_reducible refine (hold16 _ _).mono ?_
  rintro e _ ⟨rfl, rfl⟩
  rw [F3.out]
  have R23 := cell_lit hd 6 _ rfl
  go_wp2_with fail
  clear R23
  with_reducible refine (hold16 _ _).mono ?_
  rintro e _ ⟨rfl, rfl⟩
  rw [F4.out]
  have R28 := cell_lit hd 7 _ rfl
  go_wp2_with fail
  clear R28
  go_ret
  exact ⟨rfl, bel⟩
set_option linter.unusedVariables false in
set_option maxRecDepth 100000 in
set_option maxHeartbeats 16000000 in
theorem writable_6 (sf st se ak fg wn ug : Int) (Q : Option Addr) (nq cq : Nat) (D : Option Addr) (nd cd : Nat) (lq : List UInt8) (w : World) (hv : Sl w Q nq cq lq) (f0 : inOk 65535 sf = true) (f1 : inOk 65535 st = true) (f2 : inOk 63 fg = true) (f3 : inOk 65535 wn = true) (f4 : inOk 65535 ug = true) (n0 : nq ≤ 40) (n1 : nq % 4 ≠ 0) : Calls Try.prog 18 #[.agg #[.int .i64 sf, .int .i64 st, .int .u32 se, .int .u32 ak, .int .i64 fg, .int .i64 wn, .int .i64 ug, .slice Q nq cq, .slice D nd cd]] w fun e w' => e = .returned (.bool false) ∧ Below w.heap.size w w' := by
  have F0 := Lib.hid f0
  clear f0
  have F1 := Lib.hid f1
  clear f1
  have F2 := Lib.hid f2
  clear f2
  have F3 := Lib.hid f3
  clear f3
  have F4 := Lib.hid f4
  clear f4
  have t0 : (nq : Int) ≤ 40 := by omega
  clear n0
  have t1 : ((nq : Int) % 4 == 0) = false := by simp; omega
  clear n1
  have bel := Below.refl w.heap.size w
  go_enter Try.func18, Try.ntmps18
  go_wp2_with (first | ((with_reducible show wpList _ _ _ (⟨some 1, _, _, _, _, _⟩ :: _) _ _); refine wpList_box_n rfl 34 (.tmp 0) rfl #[.int .i64 sf, .int .i64 st, .int .u32 se, .int .u32 ak, .int .i64 fg, .int .i64 wn, .int .i64 ug, .slice Q nq cq, .slice D nd cd] rfl ?_; intro g1 w1 ge lt hh bb; have av_hv_d := hv.av_new ge; have od := Nat.le_trans bel.size ge; replace hv := hv.below bb; replace bel := bel.trans (bb.mono bel.size); have hd := hh; clear hh lt ge bb; have R4 := cell_lit hd 0 _ rfl))
  try clear R4
  with_reducible refine (hold16 _ _).mono ?_
  rintro e _ ⟨rfl, rfl⟩
  rw [F0.out]
  have R8 := cell_lit hd 1 _ rfl
  go_wp2_with fail
  clear R8
  with_reducible refine (hold16 _ _).mono ?_
  rintro e _ ⟨rfl, rfl⟩
  rw [F1.out]
  have R13 := cell_lit hd 4 _ rfl
  go_wp2_with fail
  clear R13
  with_reducible refine (hold6 _ _).mono ?_
  rintro e _ ⟨rfl, rfl⟩
  rw [F2.out]
  have R18 := cell_lit hd 5 _ rfl
  go_wp2_with fail
  clear R18
  with_reducible refine (hold16 _ _).mono ?_
  rintro e _ ⟨rfl, rfl⟩
  rw [F3.out]
  have R23 := cell_lit hd 6 _ rfl
  go_wp2_with fail
  clear R23
  with_reducible refine (hold16 _ _).mono ?_
  rintro e _ ⟨rfl, rfl⟩
  rw [F4.out]
  have R28 := cell_lit hd 7 _ rfl
  have R34 := cell_lit hd 7 _ rfl
  go_wp2_with fail
  clear R28 R34
  go_ret
  exact ⟨rfl, bel⟩
set_option linter.unusedVariables false in
set_option maxRecDepth 100000 in
set_option maxHeartbeats 16000000 in
theorem writable_7 (sf st se ak fg wn ug : Int) (Q : Option Addr) (nq cq : Nat) (D : Option Addr) (nd cd : Nat) (lq : List UInt8) (w : World) (hv : Sl w Q nq cq lq) (f0 : inOk 65535 sf = true) (f1 : inOk 65535 st = true) (f2 : inOk 63 fg = true) (f3 : inOk 65535 wn = true) (f4 : inOk 65535 ug = true) (n0 : nq ≤ 40) (n1 : nq % 4 = 0) : Calls Try.prog 18 #[.agg #[.int .i64 sf, .int .i64 st, .int .u32 se, .int .u32 ak, .int .i64 fg, .int .i64 wn, .int .i64 ug, .slice Q nq cq, .slice D nd cd]] w fun e w' => e = .returned (.bool true) ∧ Below w.heap.size w w' := by
  have F0 := Lib.hid f0
  clear f0
  have F1 := Lib.hid f1
  clear f1
  have F2 := Lib.hid f2
  clear f2
  have F3 := Lib.hid f3
  clear f3
  have F4 := Lib.hid f4
  clear f4
  have t0 : (nq : Int) ≤ 40 := by omega
  clear n0
  have t1 : ((nq : Int) % 4 == 0) = true := by simp; omega
  clear n1
  have bel := Below.refl w.heap.size w
  go_enter Try.func18, Try.ntmps18
  go_wp2_with (first | ((with_reducible show wpList _ _ _ (⟨some 1, _, _, _, _, _⟩ :: _) _ _); refine wpList_box_n rfl 34 (.tmp 0) rfl #[.int .i64 sf, .int .i64 st, .int .u32 se, .int .u32 ak, .int .i64 fg, .int .i64 wn, .int .i64 ug, .slice Q nq cq, .slice D nd cd] rfl ?_; intro g1 w1 ge lt hh bb; have av_hv_d := hv.av_new ge; have od := Nat.le_trans bel.size ge; replace hv := hv.below bb; replace bel := bel.trans (bb.mono bel.size); have hd := hh; clear hh lt ge bb; have R4 := cell_lit hd 0 _ rfl))
  try clear R4
  with_reducible refine (hold16 _ _).mono ?_
  rintro e _ ⟨rfl, rfl⟩
  rw [F0.out]
  have R8 := cell_lit hd 1 _ rfl
  go_wp2_with fail
  clear R8
  with_reducible refine (hold16 _ _).mono ?_
  rintro e _ ⟨rfl, rfl⟩
  rw [F1.out]
  have R13 := cell_lit hd 4 _ rfl
  go_wp2_with fail
  clear R13
  with_reducible refine (hold6 _ _).mono ?_
  rintro e _ ⟨rfl, rfl⟩
  rw [F2.out]
  have R18 := cell_lit hd 5 _ rfl
  go_wp2_with fail
  clear R18
  with_reducible refine (hold16 _ _).mono ?_
  rintro e _ ⟨rfl, rfl⟩
  rw [F3.out]
  have R23 := cell_lit hd 6 _ rfl
  go_wp2_with fail
  clear R23
  with_reducible refine (hold16 _ _).mono ?_
  rintro e _ ⟨rfl, rfl⟩
  rw [F4.out]
  have R28 := cell_lit hd 7 _ rfl
  have R34 := cell_lit hd 7 _ rfl
  go_wp2_with fail
  clear R28 R34
  go_ret
  exact ⟨rfl, bel⟩
theorem writable_any (sf st se ak fg wn ug : Int) (Q : Option Addr) (nq cq : Nat) (D : Option Addr) (nd cd : Nat) (lq : List UInt8) (w : World) (hv : Sl w Q nq cq lq) : Calls Try.prog 18 #[.agg #[.int .i64 sf, .int .i64 st, .int .u32 se, .int .u32 ak, .int .i64 fg, .int .i64 wn, .int .i64 ug, .slice Q nq cq, .slice D nd cd]] w fun e w' => e = .returned (.bool (segOk sf st fg wn ug nq)) ∧ Below w.heap.size w w' := by
  rcases (by decide : ∀ b : Bool, b = true ∨ b = false) (inOk 65535 sf) with f0 | f0
  · rcases (by decide : ∀ b : Bool, b = true ∨ b = false) (inOk 65535 st) with f1 | f1
    · rcases (by decide : ∀ b : Bool, b = true ∨ b = false) (inOk 63 fg) with f2 | f2
      · rcases (by decide : ∀ b : Bool, b = true ∨ b = false) (inOk 65535 wn) with f3 | f3
        · rcases (by decide : ∀ b : Bool, b = true ∨ b = false) (inOk 65535 ug) with f4 | f4
          · by_cases n0 : nq ≤ 40
            · by_cases n1 : nq % 4 = 0
              · rw [show segOk sf st fg wn ug nq = true by unfold segOk; simp [f0, f1, f2, f3, f4, n0, n1]]
                exact writable_7 sf st se ak fg wn ug Q nq cq D nd cd lq w hv f0 f1 f2 f3 f4 n0 n1
              · rw [show segOk sf st fg wn ug nq = false by unfold segOk; simp [f0, f1, f2, f3, f4]; omega]
                exact writable_6 sf st se ak fg wn ug Q nq cq D nd cd lq w hv f0 f1 f2 f3 f4 n0 n1
            · rw [show segOk sf st fg wn ug nq = false by unfold segOk; simp [f0, f1, f2, f3, f4]; omega]
              exact writable_5 sf st se ak fg wn ug Q nq cq D nd cd lq w hv f0 f1 f2 f3 f4 (by omega)
          · rw [show segOk sf st fg wn ug nq = false by unfold segOk; simp [f0, f1, f2, f3, f4]]
            exact writable_4 sf st se ak fg wn ug Q nq cq D nd cd lq w hv f0 f1 f2 f3 f4
        · rw [show segOk sf st fg wn ug nq = false by unfold segOk; simp [f0, f1, f2, f3]]
          exact writable_3 sf st se ak fg wn ug Q nq cq D nd cd lq w hv f0 f1 f2 f3
      · rw [show segOk sf st fg wn ug nq = false by unfold segOk; simp [f0, f1, f2]]
        exact writable_2 sf st se ak fg wn ug Q nq cq D nd cd lq w hv f0 f1 f2
    · rw [show segOk sf st fg wn ug nq = false by unfold segOk; simp [f0, f1]]
      exact writable_1 sf st se ak fg wn ug Q nq cq D nd cd lq w hv f0 f1
  · rw [show segOk sf st fg wn ug nq = false by unfold segOk; simp [f0]]
    exact writable_0 sf st se ak fg wn ug Q nq cq D nd cd lq w hv f0
set_option maxRecDepth 100000 in
set_option maxHeartbeats 16000000 in
theorem tcfits_any (tos id fl pt ttl pr : Int) (a0 a1 a2 a3 a4 a5 a6 a7 : UInt8) (So Sb : Option Addr) (no co nb cb : Nat) (lb : List UInt8) (w : World) (hb : Sl w Sb nb cb lb) (hm : nb ≤ 100000) : Calls Try.prog 26 #[.agg #[.int .i64 tos, .int .i64 id, .int .i64 fl, .int .i64 pt, .int .i64 ttl, .int .i64 pr, .int .u8 (a0.toNat : Int), .int .u8 (a1.toNat : Int), .int .u8 (a2.toNat : Int), .int .u8 (a3.toNat : Int), .int .u8 (a4.toNat : Int), .int .u8 (a5.toNat : Int), .int .u8 (a6.toNat : Int), .int .u8 (a7.toNat : Int), .slice So no co, .slice Sb nb cb]] w fun e w' => e = .returned (.bool (decide (ck (l4Ps a0 a1 a2 a3 a4 a5 a6 a7 pr (nb : Int) ++ lb) = 0))) ∧ Below w.heap.size w w' := by
  obtain ⟨ii, hii, hz0, hz1, hz2⟩ := info_parts Try.info5
  have n2 : (nb : Int) ≤ 100000 := by omega
  have bel := Below.refl w.heap.size w
  go_enter Try.func26, Try.ntmps26
  go_wp2_with (first | ((with_reducible show wpList _ _ _ (⟨some 1, _, _, _, _, _⟩ :: _) _ _); refine wpList_box_n rfl 27 (.tmp 0) rfl #[.int .i64 tos, .int .i64 id, .int .i64 fl, .int .i64 pt, .int .i64 ttl, .int .i64 pr, .int .u8 (a0.toNat : Int), .int .u8 (a1.toNat : Int), .int .u8 (a2.toNat : Int), .int .u8 (a3.toNat : Int), .int .u8 (a4.toNat : Int), .int .u8 (a5.toNat : Int), .int .u8 (a6.toNat : Int), .int .u8 (a7.toNat : Int), .slice So no co, .slice Sb nb cb] rfl ?_; intro g1 w1 ge lt hh bb; have av_hb_p := hb.av_new ge; have op := Nat.le_trans bel.size ge; replace hb := hb.below bb; replace bel := bel.trans (bb.mono bel.size); have hp := hh; clear hh lt ge bb))
  replace bel := bel.drew
  replace hp : w1.drew.heap[g1]? = _ := hp
  replace hb := hb.drew
  refine wp_region_held_drew (S := fun W => W.heap[g1]? = some (.cells #[.int .i64 tos, .int .i64 id, .int .i64 fl, .int .i64 pt, .int .i64 ttl, .int .i64 pr, .int .u8 (a0.toNat : Int), .int .u8 (a1.toNat : Int), .int .u8 (a2.toNat : Int), .int .u8 (a3.toNat : Int), .int .u8 (a4.toNat : Int), .int .u8 (a5.toNat : Int), .int .u8 (a6.toNat : Int), .int .u8 (a7.toNat : Int), .slice So no co, .slice Sb nb cb] 27 (0, 0))) (by kernel_rfl) hp (fun hH => ?_)
  generalize w1.drew = w2 at bel hp hb hH ⊢
  refine wpAnyH_take (i := 0) (v := .agg #[.int .i64 tos, .int .i64 id, .int .i64 fl, .int .i64 pt, .int .i64 ttl, .int .i64 pr, .int .u8 (a0.toNat : Int), .int .u8 (a1.toNat : Int), .int .u8 (a2.toNat : Int), .int .u8 (a3.toNat : Int), .int .u8 (a4.toNat : Int), .int .u8 (a5.toNat : Int), .int .u8 (a6.toNat : Int), .int .u8 (a7.toNat : Int), .slice So no co, .slice Sb nb cb]) rfl (by kernel_rfl) (by kernel_rfl) (by kernel_rfl) (fun _ _ _ h => h) (yieldsIf_load_part (by kernel_rfl) 27 _ rfl g1 0 16 rfl _ 27 (0, 0) (fun W hW => hW) _ rfl _ Try.underlying27 rfl (by kernel_rfl)) hH ?_
  simp only [Act.put, List.getElem_toArray, List.getElem_cons_zero, List.setIfInBounds_toArray, List.set_cons_zero, List.set_cons_succ]
  refine wpAnyH_take (i := 1) (v := ?_) rfl (by kernel_rfl) (by kernel_rfl) (by kernel_rfl) (fun _ _ _ h => h) (Or.inl ⟨by rfl, ?_⟩) hH ?_
  rotate_left
  · ((intro W hW; clear hW; go_simp) <;> with_reducible rfl)
  simp only [Act.put, List.getElem_toArray, List.getElem_cons_zero, List.getElem_cons_succ, List.setIfInBounds_toArray, List.set_cons_zero, List.set_cons_succ]
  refine wpAnyH_take (i := 2) (v := ?_) rfl (by kernel_rfl) (by kernel_rfl) (by kernel_rfl) (fun _ _ _ h => h) (Or.inl ⟨by rfl, ?_⟩) hH ?_
  rotate_left
  · ((intro W hW; have hk := cell_lit (hW) 15 _ rfl; clear hW; go_simp) <;> with_reducible rfl)
  simp only [Act.put, List.getElem_toArray, List.getElem_cons_zero, List.getElem_cons_succ, List.setIfInBounds_toArray, List.set_cons_zero, List.set_cons_succ]
  refine wpAnyH_take (i := 3) (v := ?_) rfl (by kernel_rfl) (by kernel_rfl) (by kernel_rfl) (fun _ _ _ h => h) (Or.inl ⟨by rfl, ?_⟩) hH ?_
  rotate_left
  · ((intro W hW; clear hW; go_simp) <;> with_reducible rfl)
  simp only [Act.put, List.getElem_toArray, List.getElem_cons_zero, List.getElem_cons_succ, List.setIfInBounds_toArray, List.set_cons_zero, List.set_cons_succ]
  refine wpAnyH_take (i := 5) (v := ?_) rfl (by kernel_rfl) (by kernel_rfl) (by kernel_rfl) (fun _ _ _ h => h) (Or.inl ⟨by rfl, ?_⟩) hH ?_
  rotate_left
  · ((intro W hW; clear hW; go_simp) <;> with_reducible rfl)
  simp only [Act.put, List.getElem_toArray, List.getElem_cons_zero, List.getElem_cons_succ, List.setIfInBounds_toArray, List.set_cons_zero, List.set_cons_succ]
  refine wpAnyH_take (i := 6) (v := ?_) rfl (by kernel_rfl) (by kernel_rfl) (by kernel_rfl) (fun _ _ _ h => h) (Or.inl ⟨by rfl, ?_⟩) hH ?_
  rotate_left
  · ((intro W hW; have hk := cell_lit (hW) 15 _ rfl; clear hW; go_simp) <;> with_reducible rfl)
  simp only [Act.put, List.getElem_toArray, List.getElem_cons_zero, List.getElem_cons_succ, List.setIfInBounds_toArray, List.set_cons_zero, List.set_cons_succ]
  refine wpAnyH_ready (rs := [4]) (by kernel_rfl) (by simp) ?_
  refine AllReadyH.cons (o := _) rfl (fun K hK => ?_) AllReadyH.nil
  simp only [List.getElem_toArray, List.getElem_cons_zero, List.getElem_cons_succ]
  go_simp
  with_reducible refine (ippseudo_o _ _ _ _ _ _ _ _ _ _ _ _ _ _ _ _ _ _ _ _ _ _).mono ?_
  rintro e w3 ⟨v, rfl, psw, b3⟩
  dsimp only
  have y_ps_p := Lib.hid (hlt hp)
  have bl_hb_ps := hb.bl_new
  have pslo := bel.size
  have lz_ps := b3.size
  replace hp := blk_u hp b3
  replace hb := hb.below b3
  replace bel := bel.trans (b3.mono bel.size)
  clear b3
  obtain ⟨Aps, cps, rfl⟩ := own_val psw
  have ps := (own_sl psw).1
  have fr_ps := (own_sl psw).2
  have av_ps_p := fr_ps.av y_ps_p.out
  refine hK.out _ _ hp (fun hH4 => ?_)
  clear hK K
  refine wpAnyH_ready (rs := [7]) (by kernel_rfl) (by simp) ?_
  refine AllReadyH.cons (o := _) rfl (fun K hK => ?_) AllReadyH.nil
  simp only [List.getElem_toArray, List.getElem_cons_zero, List.getElem_cons_succ]
  rw [if_pos (by rfl)]
  refine wp_append_bb (.tmp 7) (.tmp 9) 25 rfl (w2.heap.size) 5 ii (.int .u8 0) Try.underlying25 hii hz0 hz1 hz2 rfl _ (12) (l4Ps a0 a1 a2 a3 a4 a5 a6 a7 pr (nb : Int)) rfl psw (Sb) (nb) (cb) (lb) rfl hb (by have := hm; omega) lz_ps ?_
  intro v10 w5 own_ bb
  replace hb := hb.under bl_hb_ps bb
  replace hp := blk_under hp bb y_ps_p.out
  replace bel := bel.trans (bb.mono pslo)
  have lz_s12 := Nat.le_trans lz_ps bb.size
  clear bb
  clear ps psw lz_ps
  replace own_ : w5.ownsRow (w2.heap.size) 5 1 v10 (12 + nb) ((l4Ps a0 a1 a2 a3 a4 a5 a6 a7 pr (nb : Int) ++ lb : List UInt8).map u8v) := own_
  obtain ⟨A10, c10, rfl⟩ := own_val own_
  have s12w := own_
  have s12 := (own_sl own_).1
  have fr_s12 := (own_sl own_).2
  clear own_
  have av_s12_p := fr_s12.av y_ps_p.out
  refine hK.out _ _ hp (fun hH6 => ?_)
  clear hK K
  simp only [Act.put, List.setIfInBounds_toArray, List.set_cons_zero, List.set_cons_succ]
  refine wpAnyH_ready (rs := [8]) (by kernel_rfl) (by simp) ?_
  refine AllReadyH.cons (o := _) rfl (fun K hK => ?_) AllReadyH.nil
  simp only [List.getElem_toArray, List.getElem_cons_zero, List.getElem_cons_succ]
  go_simp
  with_reducible refine (fitsd _ _ _ _ _ s12).mono ?_
  rintro e w7 ⟨rfl, b7⟩
  dsimp only
  replace hp := blk_u hp b7
  replace hb := hb.below b7
  replace s12 := s12.below b7
  replace s12w := own_under s12w b7
  replace lz_s12 := Nat.le_trans lz_s12 b7.size
  replace bel := bel.trans (b7.mono bel.size)
  clear b7
  refine hK.out _ _ hp (fun hH8 => ?_)
  clear hK K
  refine wpAnyH_take (i := 9) (v := ?_) rfl (by kernel_rfl) (by kernel_rfl) (by kernel_rfl) (fun _ _ _ h => h) (Or.inl ⟨by rfl, ?_⟩) hH8 ?_
  rotate_left
  · ((intro W hW; clear hW; go_simp) <;> with_reducible rfl)
  simp only [Act.put, List.getElem_toArray, List.getElem_cons_zero, List.getElem_cons_succ, List.setIfInBounds_toArray, List.set_cons_zero, List.set_cons_succ]
  refine wpAnyH_done (by kernel_rfl) ?_ _
  go_wp2_with fail
  go_ret
  exact ⟨rfl, bel⟩
set_option maxRecDepth 100000 in
set_option maxHeartbeats 16000000 in
theorem tcwrite_0 (tos id fl pt ttl pr : Int) (a0 a1 a2 a3 a4 a5 a6 a7 : UInt8) (So Sb : Option Addr) (no co nb cb : Nat) (sf st se ak fg wn ug : Int) (Q : Option Addr) (nq cq : Nat) (D : Option Addr) (nd cd : Nat) (lq ld : List UInt8) (sm : Int) (w : World) (hv : Sl w Q nq cq lq) (hb : Sl w D nd cd ld) (hm : nd ≤ 1460) (hq : nq ≤ 40) (hq4 : nq % 4 = 0) (e0 : 0 ≤ se) (e1 : se < 4294967296) (k0 : 0 ≤ ak) (k1 : ak < 4294967296) (hsm : ck [l4Ps a0 a1 a2 a3 a4 a5 a6 a7 pr (20 + (nq : Int) + nd), [] ++ two sf ++ two st ++ four se ++ four ak ++ [byteOf (80 + 4 * (nq : Int)), byteOf fg] ++ two wn, [] ++ two ug ++ lq ++ ld].flatten = sm) : Calls Try.prog 19 #[.agg #[.int .i64 tos, .int .i64 id, .int .i64 fl, .int .i64 pt, .int .i64 ttl, .int .i64 pr, .int .u8 (a0.toNat : Int), .int .u8 (a1.toNat : Int), .int .u8 (a2.toNat : Int), .int .u8 (a3.toNat : Int), .int .u8 (a4.toNat : Int), .int .u8 (a5.toNat : Int), .int .u8 (a6.toNat : Int), .int .u8 (a7.toNat : Int), .slice So no co, .slice Sb nb cb], .agg #[.int .i64 sf, .int .i64 st, .int .u32 se, .int .u32 ak, .int .i64 fg, .int .i64 wn, .int .i64 ug, .slice Q nq cq, .slice D nd cd]] w fun e w' => ∃ v, e = .returned v ∧ w'.ownsRow w.heap.size 5 1 v (20 + nq + nd) ((tcA sf st se ak nq fg wn ++ two sm ++ (two ug ++ lq ++ ld)).map u8v) ∧ Below w.heap.size w w' := by
  have HS : Hid (ck [l4Ps a0 a1 a2 a3 a4 a5 a6 a7 pr (20 + (nq : Int) + nd), [] ++ two sf ++ two st ++ four se ++ four ak ++ [byteOf (80 + 4 * (nq : Int)), byteOf fg] ++ two wn, [] ++ two ug ++ lq ++ ld].flatten = sm) := Lib.hid hsm
  have E0 := Lib.hid e0
  have E1 := Lib.hid e1
  have K0 := Lib.hid k0
  have K1 := Lib.hid k1
  have n0 : (0 : Int) ≤ nd := by omega
  have n1 : (nd : Int) ≤ 1460 := by omega
  have n2 : (0 : Int) ≤ nq := by omega
  have n3 : (nq : Int) ≤ 40 := by omega
  have e4 : (20 + (nq : Int)) / 4 * 16 = 80 + 4 * (nq : Int) := by omega
  clear hsm e0 e1 k0 k1 hq4
  obtain ⟨ii, hii, hz0, hz1, hz2⟩ := info_parts Try.info5
  have bel := Below.refl w.heap.size w
  go_enter Try.func19, Try.ntmps19
  go_wp2_with (first | ((with_reducible show wpList _ _ _ (⟨some 2, _, _, _, _, _⟩ :: _) _ _); refine wpList_box_n rfl 27 (.tmp 0) rfl #[.int .i64 tos, .int .i64 id, .int .i64 fl, .int .i64 pt, .int .i64 ttl, .int .i64 pr, .int .u8 (a0.toNat : Int), .int .u8 (a1.toNat : Int), .int .u8 (a2.toNat : Int), .int .u8 (a3.toNat : Int), .int .u8 (a4.toNat : Int), .int .u8 (a5.toNat : Int), .int .u8 (a6.toNat : Int), .int .u8 (a7.toNat : Int), .slice So no co, .slice Sb nb cb] rfl ?_; intro g2 w1 ge lt hh bb; have av_hv_p := hv.av_new ge; have av_hb_p := hb.av_new ge; have op := Nat.le_trans bel.size ge; replace hv := hv.below bb; replace hb := hb.below bb; replace bel := bel.trans (bb.mono bel.size); have hp := hh; clear hh lt ge bb) | ((with_reducible show wpList _ _ _ (⟨some 3, _, _, _, _, _⟩ :: _) _ _); refine wpList_box_n rfl 34 (.tmp 1) rfl #[.int .i64 sf, .int .i64 st, .int .u32 se, .int .u32 ak, .int .i64 fg, .int .i64 wn, .int .i64 ug, .slice Q nq cq, .slice D nd cd] rfl ?_; intro g3 w2 ge lt hh bb; have d_p_d := ne_new (hlt hp) ge; have av_hv_d := hv.av_new ge; have av_hb_d := hb.av_new ge; have od := Nat.le_trans bel.size ge; replace hp := blk_u hp bb; replace hv := hv.below bb; replace hb := hb.below bb; replace bel := bel.trans (bb.mono bel.size); have hd := hh; clear hh lt ge bb; have R10 := cell_lit hd 7 _ rfl; have R14 := cell_lit hd 0 _ rfl))
  try clear R10
  try clear R14
  with_reducible refine (w16_oto _ 0 2 _ _ _ _ rfl (Sl.nil _) (by omega)).mono ?_
  rintro e w3 ⟨v, rfl, h1w, b3⟩
  have y_h1_p := Lib.hid (hlt hp)
  have y_h1_d := Lib.hid (hlt hd)
  have bl_hv_h1 := hv.bl_new
  have bl_hb_h1 := hb.bl_new
  have h1lo := bel.size
  have lz_h1 := b3.size
  replace hp := blk_u hp b3
  replace hd := blk_u hd b3
  replace hv := hv.below b3
  replace hb := hb.below b3
  replace bel := bel.trans (b3.mono bel.size)
  clear b3
  obtain ⟨Ah1, ch1, rfl⟩ := own_val h1w
  have h1 := (own_sl h1w).1
  have fr_h1 := (own_sl h1w).2
  have av_h1_p := fr_h1.av y_h1_p.out
  have av_h1_d := fr_h1.av y_h1_d.out
  have R18 := cell_lit hd 1 _ rfl
  go_wp2_with fail
  clear R18
  with_reducible refine (w16_oto _ 2 4 _ _ _ _ rfl h1 (by omega)).mono ?_
  rintro e w4 ⟨v, rfl, h2w, b4⟩
  have y_h2_p := Lib.hid (hlt hp)
  have y_h2_d := Lib.hid (hlt hd)
  have bl_hv_h2 := hv.bl_new
  have bl_hb_h2 := hb.bl_new
  have bl_h1_h2 := h1.bl_new
  have h2lo := bel.size
  have lz_h2 := b4.size
  replace hp := blk_u hp b4
  replace hd := blk_u hd b4
  replace hv := hv.below b4
  replace hb := hb.below b4
  replace h1 := h1.below b4
  replace h1w := own_under h1w b4
  replace lz_h1 := Nat.le_trans lz_h1 b4.size
  replace bel := bel.trans (b4.mono bel.size)
  clear b4
  obtain ⟨Ah2, ch2, rfl⟩ := own_val h2w
  have h2 := (own_sl h2w).1
  have fr_h2 := (own_sl h2w).2
  have av_h2_p := fr_h2.av y_h2_p.out
  have av_h2_d := fr_h2.av y_h2_d.out
  have R22 := cell_lit hd 2 _ rfl
  go_wp2_with fail
  clear R22
  with_reducible refine (w32_oto _ 4 8 _ _ _ _ E0.out E1.out rfl h2 (by omega)).mono ?_
  rintro e w5 ⟨v, rfl, h3w, b5⟩
  have y_h3_p := Lib.hid (hlt hp)
  have y_h3_d := Lib.hid (hlt hd)
  have bl_hv_h3 := hv.bl_new
  have bl_hb_h3 := hb.bl_new
  have bl_h1_h3 := h1.bl_new
  have bl_h2_h3 := h2.bl_new
  have h3lo := bel.size
  have lz_h3 := b5.size
  replace hp := blk_u hp b5
  replace hd := blk_u hd b5
  replace hv := hv.below b5
  replace hb := hb.below b5
  replace h1 := h1.below b5
  replace h1w := own_under h1w b5
  replace h2 := h2.below b5
  replace h2w := own_under h2w b5
  replace lz_h1 := Nat.le_trans lz_h1 b5.size
  replace lz_h2 := Nat.le_trans lz_h2 b5.size
  replace bel := bel.trans (b5.mono bel.size)
  clear b5
  obtain ⟨Ah3, ch3, rfl⟩ := own_val h3w
  have h3 := (own_sl h3w).1
  have fr_h3 := (own_sl h3w).2
  have av_h3_p := fr_h3.av y_h3_p.out
  have av_h3_d := fr_h3.av y_h3_d.out
  have R26 := cell_lit hd 3 _ rfl
  go_wp2_with fail
  clear R26
  with_reducible refine (w32_oto _ 8 12 _ _ _ _ K0.out K1.out rfl h3 (by omega)).mono ?_
  rintro e w6 ⟨v, rfl, h4w, b6⟩
  have y_h4_p := Lib.hid (hlt hp)
  have y_h4_d := Lib.hid (hlt hd)
  have bl_hv_h4 := hv.bl_new
  have bl_hb_h4 := hb.bl_new
  have bl_h1_h4 := h1.bl_new
  have bl_h2_h4 := h2.bl_new
  have bl_h3_h4 := h3.bl_new
  have h4lo := bel.size
  have lz_h4 := b6.size
  replace hp := blk_u hp b6
  replace hd := blk_u hd b6
  replace hv := hv.below b6
  replace hb := hb.below b6
  replace h1 := h1.below b6
  replace h1w := own_under h1w b6
  replace h2 := h2.below b6
  replace h2w := own_under h2w b6
  replace h3 := h3.below b6
  replace h3w := own_under h3w b6
  replace lz_h1 := Nat.le_trans lz_h1 b6.size
  replace lz_h2 := Nat.le_trans lz_h2 b6.size
  replace lz_h3 := Nat.le_trans lz_h3 b6.size
  replace bel := bel.trans (b6.mono bel.size)
  clear b6
  obtain ⟨Ah4, ch4, rfl⟩ := own_val h4w
  have h4 := (own_sl h4w).1
  have fr_h4 := (own_sl h4w).2
  have av_h4_p := fr_h4.av y_h4_p.out
  have av_h4_d := fr_h4.av y_h4_d.out
  have R34 := cell_lit hd 4 _ rfl
  go_wp2_with (first | ((with_reducible show wpList _ _ _ (⟨some 36, _, _, _, _, _⟩ :: _) _ _); refine wpList_lit_n rfl 25 5 2 _ rfl #[.int .u8 (80 + 4 * (nq : Int)), .int .u8 (fg % 256)] (.int .u8 0) Try.underlying25 (by kernel_rfl) 1 (by kernel_rfl) (by decide) (by kernel_rfl) ?_; intro g36 w7 ge lt hh bb; have hl : w7.heap[g36]? = some (.cells (([byteOf (80 + 4 * (nq : Int)), byteOf fg] : List UInt8).map u8v).toArray 5 (0, 0)) := (by have e5 : (80 + 4 * (nq : Int)) % 256 = 80 + 4 * (nq : Int) := (by omega); simpa [u8v, byteOf_val, e5] using hh); have tww := own_lit (B := w6.heap.size) ([byteOf (80 + 4 * (nq : Int)), byteOf fg]) hl ge 2 rfl (by simp [maxLen]); have tw := (own_sl tww).1; have twlo := bel.size; clear hl; have twge := ge; have lz_tw := bb.size; have y_tw_p := Lib.hid (hlt hp); have y_tw_d := Lib.hid (hlt hd); have bl_hv_tw := hv.bl_new; have bl_hb_tw := hb.bl_new; have bl_h1_tw := h1.bl_new; have bl_h2_tw := h2.bl_new; have bl_h3_tw := h3.bl_new; have bl_h4_tw := h4.bl_new; have d_p_b36 := ne_new (hlt hp) ge; have d_d_b36 := ne_new (hlt hd) ge; have av_hv_b36 := hv.av_new ge; have av_hb_b36 := hb.av_new ge; have av_h1_b36 := h1.av_new ge; have of_h1_b36 := own_new h1w ge; have av_h2_b36 := h2.av_new ge; have of_h2_b36 := own_new h2w ge; have av_h3_b36 := h3.av_new ge; have of_h3_b36 := own_new h3w ge; have av_h4_b36 := h4.av_new ge; have of_h4_b36 := own_new h4w ge; have ob36 := Nat.le_trans bel.size ge; replace hp := blk_u hp bb; replace hd := blk_u hd bb; replace hv := hv.below bb; replace hb := hb.below bb; replace h1 := h1.below bb; replace h1w := own_under h1w bb; replace h2 := h2.below bb; replace h2w := own_under h2w bb; replace h3 := h3.below bb; replace h3w := own_under h3w bb; replace h4 := h4.below bb; replace h4w := own_under h4w bb; replace lz_h1 := Nat.le_trans lz_h1 bb.size; replace lz_h2 := Nat.le_trans lz_h2 bb.size; replace lz_h3 := Nat.le_trans lz_h3 bb.size; replace lz_h4 := Nat.le_trans lz_h4 bb.size; replace bel := bel.trans (bb.mono bel.size); have hb36 := hh; clear hh lt ge bb; have av_tw_p := (own_sl tww).2.av y_tw_p.out; have av_tw_d := (own_sl tww).2.av y_tw_d.out) | ((with_reducible show wpList _ _ _ (⟨some 37, _, _, _, _, _⟩ :: _) _ _); refine wpList_append_bb _ rfl (.tmp 28) (.tmp 36) 25 rfl (w5.heap.size) 5 ii (.int .u8 0) Try.underlying25 hii hz0 hz1 hz2 rfl _ (12) ([] ++ two sf ++ two st ++ four se ++ four ak) rfl h4w (some ⟨g36, 0, none⟩) (2) (2) ([byteOf (80 + 4 * (nq : Int)), byteOf fg]) rfl tw (by omega) lz_h4 ?_; intro v37 w8 own_ bb; replace hv := hv.under bl_hv_h4 bb; replace hb := hb.under bl_hb_h4 bb; replace h1 := h1.under bl_h1_h4 bb; clear h1w lz_h1; replace h2 := h2.under bl_h2_h4 bb; clear h2w lz_h2; replace h3 := h3.under bl_h3_h4 bb; clear h3w lz_h3; clear tw tww lz_tw; replace hp := blk_under hp bb y_h4_p.out; replace hd := blk_under hd bb y_h4_d.out; clear hb36; replace bel := bel.trans (bb.mono h4lo); have lz_s37 := Nat.le_trans lz_h4 bb.size; clear bb; clear h4 h4w lz_h4; replace own_ : w8.ownsRow (w5.heap.size) 5 1 v37 (14) (([] ++ two sf ++ two st ++ four se ++ four ak ++ [byteOf (80 + 4 * (nq : Int)), byteOf fg] : List UInt8).map u8v) := own_; obtain ⟨A37, c37, rfl⟩ := own_val own_; have s37w := own_; have s37 := (own_sl own_).1; have fr_s37 := (own_sl own_).2; clear own_; have av_s37_p := fr_s37.av y_h4_p.out; have av_s37_d := fr_s37.av y_h4_d.out; have R40 := cell_lit hd 5 _ rfl))
  try clear R34
  try clear R40
  with_reducible refine (w16_oto _ 14 16 _ _ _ _ rfl s37 (by omega)).mono ?_
  rintro e w9 ⟨v, rfl, h6w, b9⟩
  have y_h6_p := Lib.hid (hlt hp)
  have y_h6_d := Lib.hid (hlt hd)
  have bl_hv_h6 := hv.bl_new
  have bl_hb_h6 := hb.bl_new
  have bl_h1_h6 := h1.bl_new
  have bl_h2_h6 := h2.bl_new
  have bl_h3_h6 := h3.bl_new
  have bl_s37_h6 := s37.bl_new
  have h6lo := bel.size
  have lz_h6 := b9.size
  replace hp := blk_u hp b9
  replace hd := blk_u hd b9
  replace hv := hv.below b9
  replace hb := hb.below b9
  replace h1 := h1.below b9
  replace h2 := h2.below b9
  replace h3 := h3.below b9
  replace s37 := s37.below b9
  replace s37w := own_under s37w b9
  replace lz_s37 := Nat.le_trans lz_s37 b9.size
  replace bel := bel.trans (b9.mono bel.size)
  clear b9
  obtain ⟨Ah6, ch6, rfl⟩ := own_val h6w
  have h6 := (own_sl h6w).1
  have fr_h6 := (own_sl h6w).2
  have av_h6_p := fr_h6.av y_h6_p.out
  have av_h6_d := fr_h6.av y_h6_d.out
  have R43 := cell_lit hd 6 _ rfl
  go_wp2_with fail
  clear R43
  with_reducible refine (w16_oto _ 0 2 _ _ _ _ rfl (Sl.nil _) (by omega)).mono ?_
  rintro e w10 ⟨v, rfl, k1w, b10⟩
  have y_k1_p := Lib.hid (hlt hp)
  have y_k1_d := Lib.hid (hlt hd)
  have bl_hv_k1 := hv.bl_new
  have bl_hb_k1 := hb.bl_new
  have bl_h1_k1 := h1.bl_new
  have bl_h2_k1 := h2.bl_new
  have bl_h3_k1 := h3.bl_new
  have bl_s37_k1 := s37.bl_new
  have bl_h6_k1 := h6.bl_new
  have k1lo := bel.size
  have lz_k1 := b10.size
  replace hp := blk_u hp b10
  replace hd := blk_u hd b10
  replace hv := hv.below b10
  replace hb := hb.below b10
  replace h1 := h1.below b10
  replace h2 := h2.below b10
  replace h3 := h3.below b10
  replace s37 := s37.below b10
  replace s37w := own_under s37w b10
  replace h6 := h6.below b10
  replace h6w := own_under h6w b10
  replace lz_s37 := Nat.le_trans lz_s37 b10.size
  replace lz_h6 := Nat.le_trans lz_h6 b10.size
  replace bel := bel.trans (b10.mono bel.size)
  clear b10
  obtain ⟨Ak1, ck1, rfl⟩ := own_val k1w
  have k1 := (own_sl k1w).1
  have fr_k1 := (own_sl k1w).2
  have av_k1_p := fr_k1.av y_k1_p.out
  have av_k1_d := fr_k1.av y_k1_d.out
  have R47 := cell_lit hd 7 _ rfl
  go_wp2_with (first | ((with_reducible show wpList _ _ _ (⟨some 48, _, _, _, _, _⟩ :: _) _ _); refine wpList_append_bb _ rfl (.tmp 45) (.tmp 47) 25 rfl (w9.heap.size) 5 ii (.int .u8 0) Try.underlying25 hii hz0 hz1 hz2 rfl _ (2) ([] ++ two ug) rfl k1w (Q) (nq) (cq) (lq) rfl hv (by omega) lz_k1 ?_; intro v48 w11 own_ bb; replace hv := hv.under bl_hv_k1 bb; replace hb := hb.under bl_hb_k1 bb; replace h1 := h1.under bl_h1_k1 bb; replace h2 := h2.under bl_h2_k1 bb; replace h3 := h3.under bl_h3_k1 bb; replace s37 := s37.under bl_s37_k1 bb; clear s37w lz_s37; replace h6 := h6.under bl_h6_k1 bb; clear h6w lz_h6; replace hp := blk_under hp bb y_k1_p.out; replace hd := blk_under hd bb y_k1_d.out; replace bel := bel.trans (bb.mono k1lo); have lz_k2 := Nat.le_trans lz_k1 bb.size; clear bb; clear k1 k1w lz_k1; replace own_ : w11.ownsRow (w9.heap.size) 5 1 v48 (2 + nq) (([] ++ two ug ++ lq : List UInt8).map u8v) := own_; obtain ⟨A48, c48, rfl⟩ := own_val own_; have k2w := own_; have k2 := (own_sl own_).1; have fr_k2 := (own_sl own_).2; clear own_; have av_k2_p := fr_k2.av y_k1_p.out; have av_k2_d := fr_k2.av y_k1_d.out; have R51 := cell_lit hd 8 _ rfl) | ((with_reducible show wpList _ _ _ (⟨some 52, _, _, _, _, _⟩ :: _) _ _); refine wpList_append_bb _ rfl (.tmp 49) (.tmp 51) 25 rfl (w9.heap.size) 5 ii (.int .u8 0) Try.underlying25 hii hz0 hz1 hz2 rfl _ (2 + nq) ([] ++ two ug ++ lq) rfl k2w (D) (nd) (cd) (ld) rfl hb (by omega) lz_k2 ?_; intro v52 w12 own_ bb; replace hv := hv.under bl_hv_k1 bb; replace hb := hb.under bl_hb_k1 bb; replace h1 := h1.under bl_h1_k1 bb; replace h2 := h2.under bl_h2_k1 bb; replace h3 := h3.under bl_h3_k1 bb; replace s37 := s37.under bl_s37_k1 bb; replace h6 := h6.under bl_h6_k1 bb; replace hp := blk_under hp bb y_k1_p.out; replace hd := blk_under hd bb y_k1_d.out; replace bel := bel.trans (bb.mono k1lo); have lz_k3 := Nat.le_trans lz_k2 bb.size; clear bb; clear k2 k2w lz_k2; replace own_ : w12.ownsRow (w9.heap.size) 5 1 v52 (2 + nq + nd) (([] ++ two ug ++ lq ++ ld : List UInt8).map u8v) := own_; obtain ⟨A52, c52, rfl⟩ := own_val own_; have k3w := own_; have k3 := (own_sl own_).1; have fr_k3 := (own_sl own_).2; clear own_; have av_k3_p := fr_k3.av y_k1_p.out; have av_k3_d := fr_k3.av y_k1_d.out; have R53 := Lib.hid (range_lit hp 0 16 [.int .i64 tos, .int .i64 id, .int .i64 fl, .int .i64 pt, .int .i64 ttl, .int .i64 pr, .int .u8 (a0.toNat : Int), .int .u8 (a1.toNat : Int), .int .u8 (a2.toNat : Int), .int .u8 (a3.toNat : Int), .int .u8 (a4.toNat : Int), .int .u8 (a5.toNat : Int), .int .u8 (a6.toNat : Int), .int .u8 (a7.toNat : Int), .slice So no co, .slice Sb nb cb] rfl)) | ((with_reducible show wpList _ _ _ (⟨some 53, _, _, _, _, _⟩ :: _) _ _); refine wpList_load_rng 27 (.tmp 2) rfl (by kernel_rfl) _ _ rfl _ R53.out _ Try.underlying27 rfl (by kernel_rfl) ?_; have R56 := cell_lit hd 8 _ rfl))
  try clear R47
  try clear R51
  try clear R53
  try clear R56
  with_reducible refine (ippseudo_any _ _ _ _ _ _ _ _ _ _ _ _ _ _ _ _ _ _ _ _ _ _).mono ?_
  rintro e w13 ⟨Ap, cp, rfl, ps, b13⟩
  replace hp := blk_u hp b13
  replace hd := blk_u hd b13
  replace hv := hv.below b13
  replace hb := hb.below b13
  replace h1 := h1.below b13
  replace h2 := h2.below b13
  replace h3 := h3.below b13
  replace s37 := s37.below b13
  replace h6 := h6.below b13
  replace k3 := k3.below b13
  replace k3w := own_under k3w b13
  replace lz_k3 := Nat.le_trans lz_k3 b13.size
  replace bel := bel.trans (b13.mono bel.size)
  clear b13
  replace ps : Sl w13 (Ap) (12) (cp) (l4Ps a0 a1 a2 a3 a4 a5 a6 a7 pr (20 + (nq : Int) + nd)) := ps
  go_wp2_with (first | ((with_reducible show wpList _ _ _ (⟨some 62, _, _, _, _, _⟩ :: _) _ _); refine wpList_lit_n rfl 75 25 3 _ rfl #[.slice Ap 12 cp, .slice Ah6 16 ch6, .slice A52 (2 + nq + nd) c52] (.slice none 0 0) Try.underlying75 (by kernel_rfl) 1 (by kernel_rfl) (by decide) (by kernel_rfl) ?_; intro g62 w14 ge lt hh bb; have d_p_b62 := ne_new (hlt hp) ge; have d_d_b62 := ne_new (hlt hd) ge; have av_hv_b62 := hv.av_new ge; have av_hb_b62 := hb.av_new ge; have av_h1_b62 := h1.av_new ge; have av_h2_b62 := h2.av_new ge; have av_h3_b62 := h3.av_new ge; have av_s37_b62 := s37.av_new ge; have av_h6_b62 := h6.av_new ge; have av_k3_b62 := k3.av_new ge; have of_k3_b62 := own_new k3w ge; have av_ps_b62 := ps.av_new ge; have ob62 := Nat.le_trans bel.size ge; replace hp := blk_u hp bb; replace hd := blk_u hd bb; replace hv := hv.below bb; replace hb := hb.below bb; replace h1 := h1.below bb; replace h2 := h2.below bb; replace h3 := h3.below bb; replace s37 := s37.below bb; replace h6 := h6.below bb; replace k3 := k3.below bb; replace k3w := own_under k3w bb; replace ps := ps.below bb; replace lz_k3 := Nat.le_trans lz_k3 bb.size; replace bel := bel.trans (bb.mono bel.size); have hb62 := hh; clear hh lt ge bb; have hs3 : Sls w14 (some ⟨g62, 0, none⟩) 3 [l4Ps a0 a1 a2 a3 a4 a5 a6 a7 pr (20 + (nq : Int) + nd), [] ++ two sf ++ two st ++ four se ++ four ak ++ [byteOf (80 + 4 * (nq : Int)), byteOf fg] ++ two wn, [] ++ two ug ++ lq ++ ld] := Sls.three ps h6 k3 hb62))
  with_reducible refine (many_any _ 3 3 _ _ (by unfold maxLen; omega) hs3).mono ?_
  rintro e _ ⟨rfl, rfl⟩
  rw [HS.out]
  clear hs3
  go_wp2_with fail
  with_reducible refine (w16_oto _ 16 18 _ _ _ _ rfl h6 (by omega)).mono ?_
  rintro e w15 ⟨v, rfl, h7w, b15⟩
  have y_h7_p := Lib.hid (hlt hp)
  have y_h7_d := Lib.hid (hlt hd)
  have y_h7_b62 := Lib.hid (hlt hb62)
  have bl_hv_h7 := hv.bl_new
  have bl_hb_h7 := hb.bl_new
  have bl_h1_h7 := h1.bl_new
  have bl_h2_h7 := h2.bl_new
  have bl_h3_h7 := h3.bl_new
  have bl_s37_h7 := s37.bl_new
  have bl_h6_h7 := h6.bl_new
  have bl_k3_h7 := k3.bl_new
  have bl_ps_h7 := ps.bl_new
  have h7lo := bel.size
  have lz_h7 := b15.size
  replace hp := blk_u hp b15
  replace hd := blk_u hd b15
  replace hb62 := blk_u hb62 b15
  replace hv := hv.below b15
  replace hb := hb.below b15
  replace h1 := h1.below b15
  replace h2 := h2.below b15
  replace h3 := h3.below b15
  replace s37 := s37.below b15
  replace h6 := h6.below b15
  replace k3 := k3.below b15
  replace k3w := own_under k3w b15
  replace ps := ps.below b15
  replace lz_k3 := Nat.le_trans lz_k3 b15.size
  replace bel := bel.trans (b15.mono bel.size)
  clear b15
  obtain ⟨Ah7, ch7, rfl⟩ := own_val h7w
  have h7 := (own_sl h7w).1
  have fr_h7 := (own_sl h7w).2
  have av_h7_p := fr_h7.av y_h7_p.out
  have av_h7_d := fr_h7.av y_h7_d.out
  have av_h7_b62 := fr_h7.av y_h7_b62.out
  go_wp2_with (first | ((with_reducible show wpList _ _ _ (⟨some 68, _, _, _, _, _⟩ :: _) _ _); refine wpList_append_bb _ rfl (.tmp 66) (.tmp 67) 25 rfl (w14.heap.size) 5 ii (.int .u8 0) Try.underlying25 hii hz0 hz1 hz2 rfl _ (18) ([] ++ two sf ++ two st ++ four se ++ four ak ++ [byteOf (80 + 4 * (nq : Int)), byteOf fg] ++ two wn ++ two sm) rfl h7w (A52) (2 + nq + nd) (c52) ([] ++ two ug ++ lq ++ ld) rfl k3 (by omega) lz_h7 ?_; intro v68 w16 own_ bb; replace hv := hv.under bl_hv_h7 bb; replace hb := hb.under bl_hb_h7 bb; replace h1 := h1.under bl_h1_h7 bb; replace h2 := h2.under bl_h2_h7 bb; replace h3 := h3.under bl_h3_h7 bb; replace s37 := s37.under bl_s37_h7 bb; replace h6 := h6.under bl_h6_h7 bb; replace k3 := k3.under bl_k3_h7 bb; clear k3w lz_k3; replace ps := ps.under bl_ps_h7 bb; replace hp := blk_under hp bb y_h7_p.out; replace hd := blk_under hd bb y_h7_d.out; replace hb62 := blk_under hb62 bb y_h7_b62.out; replace bel := bel.trans (bb.mono h7lo); have lz_out := Nat.le_trans lz_h7 bb.size; clear bb; clear h7 h7w lz_h7; replace own_ : w16.ownsRow (w14.heap.size) 5 1 v68 (20 + nq + nd) (([] ++ two sf ++ two st ++ four se ++ four ak ++ [byteOf (80 + 4 * (nq : Int)), byteOf fg] ++ two wn ++ two sm ++ ([] ++ two ug ++ lq ++ ld) : List UInt8).map u8v) := (by rw [show 18 + (2 + nq + nd) = 20 + nq + nd by omega] at own_; exact own_); obtain ⟨A68, c68, rfl⟩ := own_val own_; have outw := own_; have out := (own_sl own_).1; have fr_out := (own_sl own_).2; clear own_; have av_out_p := fr_out.av y_h7_p.out; have av_out_d := fr_out.av y_h7_d.out; have av_out_b62 := fr_out.av y_h7_b62.out))
  go_ret
  exact ⟨_, rfl, ownsRow_mono outw (Nat.le_trans h7lo (Nat.le_refl _)), bel⟩
end Go.Proofs.Ytkmihoijnjdbnaa
