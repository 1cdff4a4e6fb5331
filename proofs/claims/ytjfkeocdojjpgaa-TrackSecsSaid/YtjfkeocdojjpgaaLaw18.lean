/- Secs; the calls as the statements make them; at, awake. -/
import Derived.Test.YtjfkeocdojjpgaaTr4
import Derived.Deep.Cut
namespace Go.Proofs.Ytjfkeocdojjpgaa
open Go.RowKit

def lim (s : Int) : Int := if s = 1 ∨ s = 2 ∨ s = 4 then 240 else if s = 5 ∨ s = 6 then 10 else 60
/-- How long, as the chapter says. -/
def secV (s k : Int) : Int := if s = 3 then k else if lim s < k then lim s else k
theorem secV_le (s k : Int) : secV s k ≤ k := by
  unfold secV
  split
  · exact Int.le_refl _
  · split <;> omega
set_option linter.unusedVariables false in
set_option linter.unusedSimpArgs false in
set_option maxRecDepth 100000 in
set_option maxHeartbeats 16000000 in
theorem secs_3 {s k : Int} (w : World) (h3 : (s == 3) = true) : Calls Try.prog 14 #[.int .i64 s, .int .i64 k] w fun e w' => e = .returned (.int .i64 k) ∧ w = w' := by
  skip
  skip
  go_enter Try.func14, Try.ntmps14
  go_wp2_with fail
  go_ret
  exact ⟨rfl, rfl⟩
set_option linter.unusedVariables false in
set_option linter.unusedSimpArgs false in
set_option maxRecDepth 100000 in
set_option maxHeartbeats 16000000 in
theorem secs_1 {s k m : Int} (w : World) (h3 : (s == 3) = false) (h1 : (s == 1) = true) (hm : (if (240 : Int) < k then 240 else k) = m) : Calls Try.prog 14 #[.int .i64 s, .int .i64 k] w fun e w' => e = .returned (.int .i64 m) ∧ w = w' := by
  have HM := Lib.hid hm
  clear hm
  skip
  go_enter Try.func14, Try.ntmps14
  go_wp2_with (first | ((with_reducible show wpList _ _ _ (⟨some 14, _, _, _, _, _⟩ :: _) _ _); refine wpList_min rfl (.tmp 13) (.const (.int .i64 240)) 3 3 rfl .i64 k 240 m rfl rfl HM.out ?_))
  go_ret
  exact ⟨rfl, rfl⟩
set_option linter.unusedVariables false in
set_option linter.unusedSimpArgs false in
set_option maxRecDepth 100000 in
set_option maxHeartbeats 16000000 in
theorem secs_2 {s k m : Int} (w : World) (h3 : (s == 3) = false) (h1 : (s == 1) = false) (h2 : (s == 2) = true) (hm : (if (240 : Int) < k then 240 else k) = m) : Calls Try.prog 14 #[.int .i64 s, .int .i64 k] w fun e w' => e = .returned (.int .i64 m) ∧ w = w' := by
  have HM := Lib.hid hm
  clear hm
  skip
  go_enter Try.func14, Try.ntmps14
  go_wp2_with (first | ((with_reducible show wpList _ _ _ (⟨some 14, _, _, _, _, _⟩ :: _) _ _); refine wpList_min rfl (.tmp 13) (.const (.int .i64 240)) 3 3 rfl .i64 k 240 m rfl rfl HM.out ?_))
  go_ret
  exact ⟨rfl, rfl⟩
set_option linter.unusedVariables false in
set_option linter.unusedSimpArgs false in
set_option maxRecDepth 100000 in
set_option maxHeartbeats 16000000 in
theorem secs_4 {s k m : Int} (w : World) (h3 : (s == 3) = false) (h1 : (s == 1) = false) (h2 : (s == 2) = false) (h4 : (s == 4) = true) (hm : (if (240 : Int) < k then 240 else k) = m) : Calls Try.prog 14 #[.int .i64 s, .int .i64 k] w fun e w' => e = .returned (.int .i64 m) ∧ w = w' := by
  have HM := Lib.hid hm
  clear hm
  skip
  go_enter Try.func14, Try.ntmps14
  go_wp2_with (first | ((with_reducible show wpList _ _ _ (⟨some 14, _, _, _, _, _⟩ :: _) _ _); refine wpList_min rfl (.tmp 13) (.const (.int .i64 240)) 3 3 rfl .i64 k 240 m rfl rfl HM.out ?_))
  go_ret
  exact ⟨rfl, rfl⟩
set_option linter.unusedVariables false in
set_option linter.unusedSimpArgs false in
set_option maxRecDepth 100000 in
set_option maxHeartbeats 16000000 in
theorem secs_5 {s k m : Int} (w : World) (h3 : (s == 3) = false) (h1 : (s == 1) = false) (h2 : (s == 2) = false) (h4 : (s == 4) = false) (h5 : (s == 5) = true) (hm : (if (10 : Int) < k then 10 else k) = m) : Calls Try.prog 14 #[.int .i64 s, .int .i64 k] w fun e w' => e = .returned (.int .i64 m) ∧ w = w' := by
  have HM := Lib.hid hm
  clear hm
  skip
  go_enter Try.func14, Try.ntmps14
  go_wp2_with (first | ((with_reducible show wpList _ _ _ (⟨some 19, _, _, _, _, _⟩ :: _) _ _); refine wpList_min rfl (.tmp 18) (.const (.int .i64 10)) 3 3 rfl .i64 k 10 m rfl rfl HM.out ?_))
  go_ret
  exact ⟨rfl, rfl⟩
set_option linter.unusedVariables false in
set_option linter.unusedSimpArgs false in
set_option maxRecDepth 100000 in
set_option maxHeartbeats 16000000 in
theorem secs_6 {s k m : Int} (w : World) (h3 : (s == 3) = false) (h1 : (s == 1) = false) (h2 : (s == 2) = false) (h4 : (s == 4) = false) (h5 : (s == 5) = false) (h6 : (s == 6) = true) (hm : (if (10 : Int) < k then 10 else k) = m) : Calls Try.prog 14 #[.int .i64 s, .int .i64 k] w fun e w' => e = .returned (.int .i64 m) ∧ w = w' := by
  have HM := Lib.hid hm
  clear hm
  skip
  go_enter Try.func14, Try.ntmps14
  go_wp2_with (first | ((with_reducible show wpList _ _ _ (⟨some 19, _, _, _, _, _⟩ :: _) _ _); refine wpList_min rfl (.tmp 18) (.const (.int .i64 10)) 3 3 rfl .i64 k 10 m rfl rfl HM.out ?_))
  go_ret
  exact ⟨rfl, rfl⟩
set_option linter.unusedVariables false in
set_option linter.unusedSimpArgs false in
set_option maxRecDepth 100000 in
set_option maxHeartbeats 16000000 in
theorem secs_o {s k m : Int} (w : World) (h3 : (s == 3) = false) (h1 : (s == 1) = false) (h2 : (s == 2) = false) (h4 : (s == 4) = false) (h5 : (s == 5) = false) (h6 : (s == 6) = false) (hm : (if (60 : Int) < k then 60 else k) = m) : Calls Try.prog 14 #[.int .i64 s, .int .i64 k] w fun e w' => e = .returned (.int .i64 m) ∧ w = w' := by
  have HM := Lib.hid hm
  clear hm
  skip
  go_enter Try.func14, Try.ntmps14
  go_wp2_with (first | ((with_reducible show wpList _ _ _ (⟨some 21, _, _, _, _, _⟩ :: _) _ _); refine wpList_min rfl (.tmp 20) (.const (.int .i64 60)) 3 3 rfl .i64 k 60 m rfl rfl HM.out ?_))
  go_ret
  exact ⟨rfl, rfl⟩
set_option linter.unusedVariables false in
set_option linter.unusedSimpArgs false in
set_option maxRecDepth 100000 in
set_option maxHeartbeats 16000000 in
theorem rsecs_3 {s k : Int} (w : World) (h3 : (s == 3) = true) : Calls Try.prog 15 #[.int .i64 s, .int .i64 k] w fun e w' => e = .returned (.int .i64 k) ∧ w = w' := by
  skip
  skip
  go_enter Try.func15, Try.ntmps15
  go_wp2_with fail
  go_ret
  exact ⟨rfl, rfl⟩
set_option linter.unusedVariables false in
set_option linter.unusedSimpArgs false in
set_option maxRecDepth 100000 in
set_option maxHeartbeats 16000000 in
theorem rsecs_1l {s k : Int} (w : World) (h3 : (s == 3) = false) (h1 : (s == 1) = true) (hk : k < 240) : Calls Try.prog 15 #[.int .i64 s, .int .i64 k] w fun e w' => e = .returned (.int .i64 k) ∧ w = w' := by
  skip
  skip
  go_enter Try.func15, Try.ntmps15
  go_wp2_with fail
  go_ret
  exact ⟨rfl, rfl⟩
set_option linter.unusedVariables false in
set_option linter.unusedSimpArgs false in
set_option maxRecDepth 100000 in
set_option maxHeartbeats 16000000 in
theorem rsecs_1g {s k : Int} (w : World) (h3 : (s == 3) = false) (h1 : (s == 1) = true) (hk : ¬ k < 240) : Calls Try.prog 15 #[.int .i64 s, .int .i64 k] w fun e w' => e = .returned (.int .i64 240) ∧ w = w' := by
  have hk2 : decide (k < 240) = false := decide_eq_false hk
  clear hk
  skip
  go_enter Try.func15, Try.ntmps15
  go_wp2_with fail
  go_ret
  exact ⟨rfl, rfl⟩
set_option linter.unusedVariables false in
set_option linter.unusedSimpArgs false in
set_option maxRecDepth 100000 in
set_option maxHeartbeats 16000000 in
theorem rsecs_2l {s k : Int} (w : World) (h3 : (s == 3) = false) (h1 : (s == 1) = false) (h2 : (s == 2) = true) (hk : k < 240) : Calls Try.prog 15 #[.int .i64 s, .int .i64 k] w fun e w' => e = .returned (.int .i64 k) ∧ w = w' := by
  skip
  skip
  go_enter Try.func15, Try.ntmps15
  go_wp2_with fail
  go_ret
  exact ⟨rfl, rfl⟩
set_option linter.unusedVariables false in
set_option linter.unusedSimpArgs false in
set_option maxRecDepth 100000 in
set_option maxHeartbeats 16000000 in
theorem rsecs_2g {s k : Int} (w : World) (h3 : (s == 3) = false) (h1 : (s == 1) = false) (h2 : (s == 2) = true) (hk : ¬ k < 240) : Calls Try.prog 15 #[.int .i64 s, .int .i64 k] w fun e w' => e = .returned (.int .i64 240) ∧ w = w' := by
  have hk2 : decide (k < 240) = false := decide_eq_false hk
  clear hk
  skip
  go_enter Try.func15, Try.ntmps15
  go_wp2_with fail
  go_ret
  exact ⟨rfl, rfl⟩
set_option linter.unusedVariables false in
set_option linter.unusedSimpArgs false in
set_option maxRecDepth 100000 in
set_option maxHeartbeats 16000000 in
theorem rsecs_4l {s k : Int} (w : World) (h3 : (s == 3) = false) (h1 : (s == 1) = false) (h2 : (s == 2) = false) (h4 : (s == 4) = true) (hk : k < 240) : Calls Try.prog 15 #[.int .i64 s, .int .i64 k] w fun e w' => e = .returned (.int .i64 k) ∧ w = w' := by
  skip
  skip
  go_enter Try.func15, Try.ntmps15
  go_wp2_with fail
  go_ret
  exact ⟨rfl, rfl⟩
set_option linter.unusedVariables false in
set_option linter.unusedSimpArgs false in
set_option maxRecDepth 100000 in
set_option maxHeartbeats 16000000 in
theorem rsecs_4g {s k : Int} (w : World) (h3 : (s == 3) = false) (h1 : (s == 1) = false) (h2 : (s == 2) = false) (h4 : (s == 4) = true) (hk : ¬ k < 240) : Calls Try.prog 15 #[.int .i64 s, .int .i64 k] w fun e w' => e = .returned (.int .i64 240) ∧ w = w' := by
  have hk2 : decide (k < 240) = false := decide_eq_false hk
  clear hk
  skip
  go_enter Try.func15, Try.ntmps15
  go_wp2_with fail
  go_ret
  exact ⟨rfl, rfl⟩
set_option linter.unusedVariables false in
set_option linter.unusedSimpArgs false in
set_option maxRecDepth 100000 in
set_option maxHeartbeats 16000000 in
theorem rsecs_5l {s k : Int} (w : World) (h3 : (s == 3) = false) (h1 : (s == 1) = false) (h2 : (s == 2) = false) (h4 : (s == 4) = false) (h5 : (s == 5) = true) (hk : k < 10) : Calls Try.prog 15 #[.int .i64 s, .int .i64 k] w fun e w' => e = .returned (.int .i64 k) ∧ w = w' := by
  skip
  skip
  go_enter Try.func15, Try.ntmps15
  go_wp2_with fail
  go_ret
  exact ⟨rfl, rfl⟩
set_option linter.unusedVariables false in
set_option linter.unusedSimpArgs false in
set_option maxRecDepth 100000 in
set_option maxHeartbeats 16000000 in
theorem rsecs_5g {s k : Int} (w : World) (h3 : (s == 3) = false) (h1 : (s == 1) = false) (h2 : (s == 2) = false) (h4 : (s == 4) = false) (h5 : (s == 5) = true) (hk : ¬ k < 10) : Calls Try.prog 15 #[.int .i64 s, .int .i64 k] w fun e w' => e = .returned (.int .i64 10) ∧ w = w' := by
  have hk2 : decide (k < 10) = false := decide_eq_false hk
  clear hk
  skip
  go_enter Try.func15, Try.ntmps15
  go_wp2_with fail
  go_ret
  exact ⟨rfl, rfl⟩
set_option linter.unusedVariables false in
set_option linter.unusedSimpArgs false in
set_option maxRecDepth 100000 in
set_option maxHeartbeats 16000000 in
theorem rsecs_6l {s k : Int} (w : World) (h3 : (s == 3) = false) (h1 : (s == 1) = false) (h2 : (s == 2) = false) (h4 : (s == 4) = false) (h5 : (s == 5) = false) (h6 : (s == 6) = true) (hk : k < 10) : Calls Try.prog 15 #[.int .i64 s, .int .i64 k] w fun e w' => e = .returned (.int .i64 k) ∧ w = w' := by
  skip
  skip
  go_enter Try.func15, Try.ntmps15
  go_wp2_with fail
  go_ret
  exact ⟨rfl, rfl⟩
set_option linter.unusedVariables false in
set_option linter.unusedSimpArgs false in
set_option maxRecDepth 100000 in
set_option maxHeartbeats 16000000 in
theorem rsecs_6g {s k : Int} (w : World) (h3 : (s == 3) = false) (h1 : (s == 1) = false) (h2 : (s == 2) = false) (h4 : (s == 4) = false) (h5 : (s == 5) = false) (h6 : (s == 6) = true) (hk : ¬ k < 10) : Calls Try.prog 15 #[.int .i64 s, .int .i64 k] w fun e w' => e = .returned (.int .i64 10) ∧ w = w' := by
  have hk2 : decide (k < 10) = false := decide_eq_false hk
  clear hk
  skip
  go_enter Try.func15, Try.ntmps15
  go_wp2_with fail
  go_ret
  exact ⟨rfl, rfl⟩
set_option linter.unusedVariables false in
set_option linter.unusedSimpArgs false in
set_option maxRecDepth 100000 in
set_option maxHeartbeats 16000000 in
theorem rsecs_ol {s k : Int} (w : World) (h3 : (s == 3) = false) (h1 : (s == 1) = false) (h2 : (s == 2) = false) (h4 : (s == 4) = false) (h5 : (s == 5) = false) (h6 : (s == 6) = false) (hk : k < 60) : Calls Try.prog 15 #[.int .i64 s, .int .i64 k] w fun e w' => e = .returned (.int .i64 k) ∧ w = w' := by
  skip
  skip
  go_enter Try.func15, Try.ntmps15
  go_wp2_with fail
  go_ret
  exact ⟨rfl, rfl⟩
set_option linter.unusedVariables false in
set_option linter.unusedSimpArgs false in
set_option maxRecDepth 100000 in
set_option maxHeartbeats 16000000 in
theorem rsecs_og {s k : Int} (w : World) (h3 : (s == 3) = false) (h1 : (s == 1) = false) (h2 : (s == 2) = false) (h4 : (s == 4) = false) (h5 : (s == 5) = false) (h6 : (s == 6) = false) (hk : ¬ k < 60) : Calls Try.prog 15 #[.int .i64 s, .int .i64 k] w fun e w' => e = .returned (.int .i64 60) ∧ w = w' := by
  have hk2 : decide (k < 60) = false := decide_eq_false hk
  clear hk
  skip
  go_enter Try.func15, Try.ntmps15
  go_wp2_with fail
  go_ret
  exact ⟨rfl, rfl⟩
theorem secs_any (s k : Int) (w : World) : Calls Try.prog 14 #[.int .i64 s, .int .i64 k] w fun e w' => e = .returned (.int .i64 (secV s k)) ∧ w = w' := by
  have tr : ∀ j : Int, s = j → (s == j) = true := fun j h => beq_iff_eq.2 h
  have fa : ∀ j : Int, ¬ s = j → (s == j) = false := fun j h => beq_eq_false_iff_ne.2 h
  by_cases h : s = 3
  · rw [show secV s k = k by simp [secV, h]]; exact secs_3 w (tr 3 h)
  have n3 := h
  clear h
  by_cases h : s = 1
  · rw [show secV s k = if 240 < k then 240 else k by simp [secV, lim, h]]; exact secs_1 w (fa 3 n3) (tr 1 h) rfl
  have n1 := h
  clear h
  by_cases h : s = 2
  · rw [show secV s k = if 240 < k then 240 else k by simp [secV, lim, h]]; exact secs_2 w (fa 3 n3) (fa 1 n1) (tr 2 h) rfl
  have n2 := h
  clear h
  by_cases h : s = 4
  · rw [show secV s k = if 240 < k then 240 else k by simp [secV, lim, h]]; exact secs_4 w (fa 3 n3) (fa 1 n1) (fa 2 n2) (tr 4 h) rfl
  have n4 := h
  clear h
  by_cases h : s = 5
  · rw [show secV s k = if 10 < k then 10 else k by simp [secV, lim, h]]; exact secs_5 w (fa 3 n3) (fa 1 n1) (fa 2 n2) (fa 4 n4) (tr 5 h) rfl
  have n5 := h
  clear h
  by_cases h : s = 6
  · rw [show secV s k = if 10 < k then 10 else k by simp [secV, lim, h]]; exact secs_6 w (fa 3 n3) (fa 1 n1) (fa 2 n2) (fa 4 n4) (fa 5 n5) (tr 6 h) rfl
  have n6 := h
  clear h
  rw [show secV s k = if 60 < k then 60 else k by simp [secV, lim, n3, n1, n2, n4, n5, n6]]
  exact secs_o w (fa 3 n3) (fa 1 n1) (fa 2 n2) (fa 4 n4) (fa 5 n5) (fa 6 n6) rfl
theorem rsecs_any (s k : Int) (w : World) : Calls Try.prog 15 #[.int .i64 s, .int .i64 k] w fun e w' => e = .returned (.int .i64 (secV s k)) ∧ w = w' := by
  have tr : ∀ j : Int, s = j → (s == j) = true := fun j h => beq_iff_eq.2 h
  have fa : ∀ j : Int, ¬ s = j → (s == j) = false := fun j h => beq_eq_false_iff_ne.2 h
  by_cases h : s = 3
  · rw [show secV s k = k by simp [secV, h]]; exact rsecs_3 w (tr 3 h)
  have n3 := h
  clear h
  by_cases h : s = 1
  · rw [show secV s k = if 240 < k then 240 else k by simp [secV, lim, h]]
    by_cases hk : k < 240
    · rw [if_neg (by omega)]; exact rsecs_1l w (fa 3 n3) (tr 1 h) hk
    · rw [show (if (240 : Int) < k then 240 else k) = 240 by split <;> omega]; exact rsecs_1g w (fa 3 n3) (tr 1 h) hk
  have n1 := h
  clear h
  by_cases h : s = 2
  · rw [show secV s k = if 240 < k then 240 else k by simp [secV, lim, h]]
    by_cases hk : k < 240
    · rw [if_neg (by omega)]; exact rsecs_2l w (fa 3 n3) (fa 1 n1) (tr 2 h) hk
    · rw [show (if (240 : Int) < k then 240 else k) = 240 by split <;> omega]; exact rsecs_2g w (fa 3 n3) (fa 1 n1) (tr 2 h) hk
  have n2 := h
  clear h
  by_cases h : s = 4
  · rw [show secV s k = if 240 < k then 240 else k by simp [secV, lim, h]]
    by_cases hk : k < 240
    · rw [if_neg (by omega)]; exact rsecs_4l w (fa 3 n3) (fa 1 n1) (fa 2 n2) (tr 4 h) hk
    · rw [show (if (240 : Int) < k then 240 else k) = 240 by split <;> omega]; exact rsecs_4g w (fa 3 n3) (fa 1 n1) (fa 2 n2) (tr 4 h) hk
  have n4 := h
  clear h
  by_cases h : s = 5
  · rw [show secV s k = if 10 < k then 10 else k by simp [secV, lim, h]]
    by_cases hk : k < 10
    · rw [if_neg (by omega)]; exact rsecs_5l w (fa 3 n3) (fa 1 n1) (fa 2 n2) (fa 4 n4) (tr 5 h) hk
    · rw [show (if (10 : Int) < k then 10 else k) = 10 by split <;> omega]; exact rsecs_5g w (fa 3 n3) (fa 1 n1) (fa 2 n2) (fa 4 n4) (tr 5 h) hk
  have n5 := h
  clear h
  by_cases h : s = 6
  · rw [show secV s k = if 10 < k then 10 else k by simp [secV, lim, h]]
    by_cases hk : k < 10
    · rw [if_neg (by omega)]; exact rsecs_6l w (fa 3 n3) (fa 1 n1) (fa 2 n2) (fa 4 n4) (fa 5 n5) (tr 6 h) hk
    · rw [show (if (10 : Int) < k then 10 else k) = 10 by split <;> omega]; exact rsecs_6g w (fa 3 n3) (fa 1 n1) (fa 2 n2) (fa 4 n4) (fa 5 n5) (tr 6 h) hk
  have n6 := h
  clear h
  rw [show secV s k = if 60 < k then 60 else k by simp [secV, lim, n3, n1, n2, n4, n5, n6]]
  by_cases hk : k < 60
  · rw [if_neg (by omega)]; exact rsecs_ol w (fa 3 n3) (fa 1 n1) (fa 2 n2) (fa 4 n4) (fa 5 n5) (fa 6 n6) hk
  · rw [show (if (60 : Int) < k then 60 else k) = 60 by split <;> omega]; exact rsecs_og w (fa 3 n3) (fa 1 n1) (fa 2 n2) (fa 4 n4) (fa 5 n5) (fa 6 n6) hk
theorem see_old {lo gt : Nat} {s s2 : Ts} {o p f r : Int} {ad : Ad4} {b : Bool} {y : Cn} {i : Nat} {x : Cn} (w : World) (hT : Tk lo gt w s) (hN : s.l.findIdx (isB o ad p) = i) (hx : s.l[i]? = some x) (hy : fol x b f = y) (hr : y.s = r) (h2 : (⟨s.rm, s.l.set i y⟩ : Ts) = s2) : Calls Try.prog 10 #[.pointer (some ⟨gt, 0, none⟩), .int .i64 o, .agg #[.int .u8 (ad.a.toNat : Int), .int .u8 (ad.b.toNat : Int), .int .u8 (ad.c.toNat : Int), .int .u8 (ad.d.toNat : Int)], .int .i64 p, .bool b, .agg #[.int .i64 0, .int .i64 0, .int .u32 0, .int .u32 0, .int .i64 f, .int .i64 0, .int .i64 0, .slice none 0 0, .slice none 0 0]] w fun e w' => e = .returned (.int .i64 r) ∧ Tk lo gt w' s2 ∧ Fap gt w w' ∧ Below lo w w' := by
  obtain ⟨rm, l⟩ := s
  subst hr
  subst h2
  exact tsee_old w hT hN hx hy
theorem see_none {lo gt : Nat} {s : Ts} {o p f r : Int} {ad : Ad4} {b : Bool} {y : Cn} (w : World) (hT : Tk lo gt w s) (hN : s.l.findIdx (isB o ad p) = s.l.length) (hy : fol ⟨o, ad, p, 0, false⟩ b f = y) (hr : y.s = r) (h0 : r = 0) : Calls Try.prog 10 #[.pointer (some ⟨gt, 0, none⟩), .int .i64 o, .agg #[.int .u8 (ad.a.toNat : Int), .int .u8 (ad.b.toNat : Int), .int .u8 (ad.c.toNat : Int), .int .u8 (ad.d.toNat : Int)], .int .i64 p, .bool b, .agg #[.int .i64 0, .int .i64 0, .int .u32 0, .int .u32 0, .int .i64 f, .int .i64 0, .int .i64 0, .slice none 0 0, .slice none 0 0]] w fun e w' => e = .returned (.int .i64 r) ∧ Tk lo gt w' s ∧ Fap gt w w' ∧ Below lo w w' := by
  obtain ⟨rm, l⟩ := s
  subst hr
  exact tsee_none w hT hN hy h0
theorem see_new {lo gt : Nat} {s s2 : Ts} {o p f r : Int} {ad : Ad4} {b : Bool} {y : Cn} (w : World) (hT : Tk lo gt w s) (hN : s.l.findIdx (isB o ad p) = s.l.length) (hy : fol ⟨o, ad, p, 0, false⟩ b f = y) (hr : y.s = r) (h0 : r ≠ 0) (hl : (s.l.length : Int) < s.rm) (h2 : (⟨s.rm, s.l ++ [y]⟩ : Ts) = s2) : Calls Try.prog 10 #[.pointer (some ⟨gt, 0, none⟩), .int .i64 o, .agg #[.int .u8 (ad.a.toNat : Int), .int .u8 (ad.b.toNat : Int), .int .u8 (ad.c.toNat : Int), .int .u8 (ad.d.toNat : Int)], .int .i64 p, .bool b, .agg #[.int .i64 0, .int .i64 0, .int .u32 0, .int .u32 0, .int .i64 f, .int .i64 0, .int .i64 0, .slice none 0 0, .slice none 0 0]] w fun e w' => e = .returned (.int .i64 r) ∧ Tk lo gt w' s2 ∧ Fap gt w w' ∧ Below lo w w' := by
  obtain ⟨rm, l⟩ := s
  subst hr
  subst h2
  exact tsee_new w hT hN hy h0 hl
theorem see_full {lo gt : Nat} {s s2 : Ts} {o p f r : Int} {ad : Ad4} {b : Bool} {y : Cn} (w : World) (hT : Tk lo gt w s) (hN : s.l.findIdx (isB o ad p) = s.l.length) (hy : fol ⟨o, ad, p, 0, false⟩ b f = y) (hr : y.s = r) (h0 : r ≠ 0) (hl : s.rm ≤ (s.l.length : Int)) (h2 : (⟨s.rm, s.l.eraseIdx (least s.l) ++ [y]⟩ : Ts) = s2) : Calls Try.prog 10 #[.pointer (some ⟨gt, 0, none⟩), .int .i64 o, .agg #[.int .u8 (ad.a.toNat : Int), .int .u8 (ad.b.toNat : Int), .int .u8 (ad.c.toNat : Int), .int .u8 (ad.d.toNat : Int)], .int .i64 p, .bool b, .agg #[.int .i64 0, .int .i64 0, .int .u32 0, .int .u32 0, .int .i64 f, .int .i64 0, .int .i64 0, .slice none 0 0, .slice none 0 0]] w fun e w' => e = .returned (.int .i64 r) ∧ Tk lo gt w' s2 ∧ Fap gt w w' ∧ Below lo w w' := by
  obtain ⟨rm, l⟩ := s
  subst hr
  subst h2
  exact tsee_full w hT hN hy h0 hl
theorem st_no {lo gt : Nat} {s : Ts} {o p : Int} {ad : Ad4} (w : World) (hT : Tk lo gt w s) (hN : s.l.findIdx (isB o ad p) = s.l.length) : Calls Try.prog 12 #[.pointer (some ⟨gt, 0, none⟩), .int .i64 o, .agg #[.int .u8 (ad.a.toNat : Int), .int .u8 (ad.b.toNat : Int), .int .u8 (ad.c.toNat : Int), .int .u8 (ad.d.toNat : Int)], .int .i64 p] w fun e w' => e = .returned (.int .i64 0) ∧ Tk lo gt w' s ∧ Fap gt w w' ∧ Below lo w w' := by
  obtain ⟨rm, l⟩ := s
  exact tstate_no w hT hN
theorem st_yes {lo gt : Nat} {s : Ts} {o p r : Int} {ad : Ad4} {i : Nat} {x : Cn} (w : World) (hT : Tk lo gt w s) (hN : s.l.findIdx (isB o ad p) = i) (hx : s.l[i]? = some x) (hr : x.s = r) : Calls Try.prog 12 #[.pointer (some ⟨gt, 0, none⟩), .int .i64 o, .agg #[.int .u8 (ad.a.toNat : Int), .int .u8 (ad.b.toNat : Int), .int .u8 (ad.c.toNat : Int), .int .u8 (ad.d.toNat : Int)], .int .i64 p] w fun e w' => e = .returned (.int .i64 r) ∧ Tk lo gt w' s ∧ Fap gt w w' ∧ Below lo w w' := by
  obtain ⟨rm, l⟩ := s
  subst hr
  exact tstate_yes w hT hN hx
theorem len_is {lo gt : Nat} {s : Ts} {n : Int} (w : World) (hT : Tk lo gt w s) (hn : (s.l.length : Int) = n) : Calls Try.prog 13 #[.pointer (some ⟨gt, 0, none⟩)] w fun e w' => e = .returned (.int .i64 n) ∧ Tk lo gt w' s ∧ Fap gt w w' ∧ Below lo w w' := by
  obtain ⟨rm, l⟩ := s
  subst hn
  exact tlen_any w hT
def atA (k : Int) : Ad4 := ⟨8, 8, 8, byteOf k⟩
set_option linter.unusedVariables false in
set_option linter.unusedSimpArgs false in
set_option maxRecDepth 100000 in
set_option maxHeartbeats 16000000 in
theorem at_k (k : Int) (w : World) : Calls Try.prog 11 #[.int .i64 k] w fun e w' => e = .returned (.agg #[.int .u8 ((atA k).a.toNat : Int), .int .u8 ((atA k).b.toNat : Int), .int .u8 ((atA k).c.toNat : Int), .int .u8 ((atA k).d.toNat : Int)]) ∧ Below w.heap.size w w' := by
  have bel := Below.refl w.heap.size w
  go_enter Try.func11, Try.ntmps11
  go_wp2_with (first | ((with_reducible show wpList _ _ _ (⟨some 2, _, _, _, _, _⟩ :: _) _ _); refine wpList_new_a rfl 29 rfl #[.int .u8 0, .int .u8 0, .int .u8 0, .int .u8 0] (by kernel_rfl) ?_; intro g2 w1 ge hh bb; have orb := Nat.le_trans bel.size ge; replace bel := bel.trans (bb.mono bel.size); have hrb := hh; clear hh ge bb) | ((with_reducible show wpList _ _ _ (⟨none, Op.store _ (.tmp 2) _, _, _, _, _⟩ :: _) _ _); refine wpList_store_blk rfl 29 (.tmp 2) (.tmp 5) rfl g2 rfl _ rfl _ 29 hrb (by rfl) (by kernel_rfl) (by kernel_rfl) ?_; intro w2 hq gr; replace bel := below_grown bel gr orb bel.size; clear hrb; have hrb := hq; clear hq gr))
  exact bodyPost_ret (results_cell_row' rfl _ _ _ _ _ _ _ rfl hrb Try.underlying29 rfl (by kernel_rfl)) rfl ⟨by show Ending.returned (.agg #[.int .u8 8, .int .u8 8, .int .u8 8, .int .u8 (k % 256)]) = .returned (.agg #[.int .u8 8, .int .u8 8, .int .u8 8, .int .u8 ((byteOf k).toNat : Int)]); rw [byteOf_val], bel⟩
def aS0 : Ts := ⟨4, []⟩
def aS1 : Ts := ⟨4, [⟨1, atA 1, 80, 1, false⟩]⟩
def aS2 : Ts := ⟨4, [⟨1, atA 1, 80, 2, false⟩]⟩
def aS3 : Ts := ⟨4, [⟨1, atA 1, 80, 3, false⟩]⟩
theorem a_1 {lo gt : Nat} (w : World) (hT : Tk lo gt w aS0) : Calls Try.prog 10 #[.pointer (some ⟨gt, 0, none⟩), .int .i64 1, .agg #[.int .u8 ((atA 1).a.toNat : Int), .int .u8 ((atA 1).b.toNat : Int), .int .u8 ((atA 1).c.toNat : Int), .int .u8 ((atA 1).d.toNat : Int)], .int .i64 80, .bool false, .agg #[.int .i64 0, .int .i64 0, .int .u32 0, .int .u32 0, .int .i64 2, .int .i64 0, .int .i64 0, .slice none 0 0, .slice none 0 0]] w fun e w' => e = .returned (.int .i64 1) ∧ Tk lo gt w' aS1 ∧ Fap gt w w' ∧ Below lo w w' := see_new (s := aS0) (s2 := aS1) w hT (by kernel_rfl) (by kernel_rfl) rfl (by decide) (by decide) rfl
theorem a_2 {lo gt : Nat} (w : World) (hT : Tk lo gt w aS1) : Calls Try.prog 10 #[.pointer (some ⟨gt, 0, none⟩), .int .i64 1, .agg #[.int .u8 ((atA 1).a.toNat : Int), .int .u8 ((atA 1).b.toNat : Int), .int .u8 ((atA 1).c.toNat : Int), .int .u8 ((atA 1).d.toNat : Int)], .int .i64 80, .bool true, .agg #[.int .i64 0, .int .i64 0, .int .u32 0, .int .u32 0, .int .i64 18, .int .i64 0, .int .i64 0, .slice none 0 0, .slice none 0 0]] w fun e w' => e = .returned (.int .i64 2) ∧ Tk lo gt w' aS2 ∧ Fap gt w w' ∧ Below lo w w' := see_old (s := aS1) (s2 := aS2) (i := 0) w hT (by kernel_rfl) rfl (by kernel_rfl) rfl rfl
theorem a_3 {lo gt : Nat} (w : World) (hT : Tk lo gt w aS2) : Calls Try.prog 10 #[.pointer (some ⟨gt, 0, none⟩), .int .i64 1, .agg #[.int .u8 ((atA 1).a.toNat : Int), .int .u8 ((atA 1).b.toNat : Int), .int .u8 ((atA 1).c.toNat : Int), .int .u8 ((atA 1).d.toNat : Int)], .int .i64 80, .bool false, .agg #[.int .i64 0, .int .i64 0, .int .u32 0, .int .u32 0, .int .i64 16, .int .i64 0, .int .i64 0, .slice none 0 0, .slice none 0 0]] w fun e w' => e = .returned (.int .i64 3) ∧ Tk lo gt w' aS3 ∧ Fap gt w w' ∧ Below lo w w' := see_old (s := aS2) (s2 := aS3) (i := 0) w hT (by kernel_rfl) rfl (by kernel_rfl) rfl rfl
theorem a_4 {lo gt : Nat} (w : World) (hT : Tk lo gt w aS3) : Calls Try.prog 12 #[.pointer (some ⟨gt, 0, none⟩), .int .i64 1, .agg #[.int .u8 ((atA 1).a.toNat : Int), .int .u8 ((atA 1).b.toNat : Int), .int .u8 ((atA 1).c.toNat : Int), .int .u8 ((atA 1).d.toNat : Int)], .int .i64 80] w fun e w' => e = .returned (.int .i64 3) ∧ Tk lo gt w' aS3 ∧ Fap gt w w' ∧ Below lo w w' := st_yes (s := aS3) (i := 0) w hT (by kernel_rfl) rfl rfl
theorem a_5 {lo gt : Nat} (w : World) (hT : Tk lo gt w aS3) : Calls Try.prog 13 #[.pointer (some ⟨gt, 0, none⟩)] w fun e w' => e = .returned (.int .i64 1) ∧ Tk lo gt w' aS3 ∧ Fap gt w w' ∧ Below lo w w' := len_is (s := aS3) w hT rfl
set_option linter.unusedVariables false in
set_option linter.unusedSimpArgs false in
set_option maxRecDepth 100000 in
set_option maxHeartbeats 16000000 in
theorem awake_any (w : World) : Calls Try.prog 8 #[] w fun e w' => e = .returned (.bool true) ∧ Below w.heap.size w w' := by
  have bel := Below.refl w.heap.size w
  go_enter Try.func8, Try.ntmps8
  go_wp2_with fail
  have HLO_ := bel.size
  with_reducible refine (tnew_any (rm := 4) _ (by decide) (by decide)).mono ?_
  rintro e w1 ⟨gt, rfl, hT, b1⟩
  replace bel := bel.trans (b1.mono bel.size)
  clear b1
  replace hT : Tk w.heap.size gt w1 aS0 := hT.lo_mono HLO_
  clear HLO_
  go_wp2_with fail
  with_reducible refine (at_k 1 _).mono ?_
  rintro e w2 ⟨rfl, b2⟩
  replace hT := hT.below b2
  replace bel := bel.trans (b2.mono bel.size)
  clear b2
  go_wp2_with fail
  with_reducible refine (a_1 _ hT).mono ?_
  rintro e w3 ⟨rfl, hT_, f_, bb⟩
  clear hT
  have hT := hT_
  replace bel := bel.trans bb
  clear bb f_ hT_
  go_wp2_with fail
  with_reducible refine (at_k 1 _).mono ?_
  rintro e w4 ⟨rfl, b4⟩
  replace hT := hT.below b4
  replace bel := bel.trans (b4.mono bel.size)
  clear b4
  go_wp2_with fail
  with_reducible refine (a_2 _ hT).mono ?_
  rintro e w5 ⟨rfl, hT_, f_, bb⟩
  clear hT
  have hT := hT_
  replace bel := bel.trans bb
  clear bb f_ hT_
  go_wp2_with fail
  with_reducible refine (at_k 1 _).mono ?_
  rintro e w6 ⟨rfl, b6⟩
  replace hT := hT.below b6
  replace bel := bel.trans (b6.mono bel.size)
  clear b6
  go_wp2_with fail
  with_reducible refine (a_3 _ hT).mono ?_
  rintro e w7 ⟨rfl, hT_, f_, bb⟩
  clear hT
  have hT := hT_
  replace bel := bel.trans bb
  clear bb f_ hT_
  go_wp2_with fail
  with_reducible refine (at_k 1 _).mono ?_
  rintro e w8 ⟨rfl, b8⟩
  replace hT := hT.below b8
  replace bel := bel.trans (b8.mono bel.size)
  clear b8
  go_wp2_with fail
  with_reducible refine (a_4 _ hT).mono ?_
  rintro e w9 ⟨rfl, hT_, f_, bb⟩
  clear hT
  have hT := hT_
  replace bel := bel.trans bb
  clear bb f_ hT_
  go_wp2_with fail
  with_reducible refine (a_5 _ hT).mono ?_
  rintro e w10 ⟨rfl, hT_, f_, bb⟩
  clear hT
  have hT := hT_
  replace bel := bel.trans bb
  clear bb f_ hT_
  go_wp2_with fail
  with_reducible refine (secs_any 3 7200 _).mono ?_
  rintro e _ ⟨rfl, rfl⟩
  rw [show secV 3 7200 = 7200 by decide]
  go_wp2_with fail
  with_reducible refine (secs_any 1 7200 _).mono ?_
  rintro e _ ⟨rfl, rfl⟩
  rw [show secV 1 7200 = 240 by decide]
  go_wp2_with fail
  go_ret
  exact ⟨rfl, bel⟩
set_option linter.unusedVariables false in
set_option linter.unusedSimpArgs false in
set_option maxRecDepth 100000 in
set_option maxHeartbeats 16000000 in
theorem trackSecs_walk (s k : Int) (w : World) : Calls Try.prog 4 #[.int .i64 s, .int .i64 k] w fun e w' => e = .returned (.bool true) ∧ Below w.heap.size w w' := by
  obtain ⟨z, hz⟩ : ∃ z, secV s k = z := ⟨_, rfl⟩
  have hzk : z ≤ k := hz ▸ secV_le s k
  have HZ := Lib.hid hz
  clear hz
  have bel := Below.refl w.heap.size w
  go_enter Try.func4, Try.ntmps4
  go_wp2_with fail
  with_reducible refine (awake_any _).mono ?_
  rintro e w1 ⟨rfl, b1⟩
  replace bel := bel.trans (b1.mono bel.size)
  clear b1
  go_wp2_with fail
  with_reducible refine (secs_any s k _).mono ?_
  rintro e _ ⟨rfl, rfl⟩
  rw [HZ.out]
  go_wp2_with fail
  with_reducible refine (rsecs_any s k _).mono ?_
  rintro e _ ⟨rfl, rfl⟩
  rw [HZ.out]
  go_wp2_with fail
  go_ret
  exact ⟨rfl, bel⟩
end Go.Proofs.Ytjfkeocdojjpgaa
