/- Texts put together: Dr1. -/
import Derived.Test.YtjedknjlpeccbaaQ1
import Derived.Test.YtjedknjlpeccbaaQ8
import Derived.Test.YtjedknjlpeccbaaQ9
namespace Go.Proofs.Ytjedknjlpeccbaa
open Go.RowKit

set_option linter.unusedVariables false in
set_option linter.unusedSimpArgs false in
set_option maxRecDepth 100000 in
set_option maxHeartbeats 16000000 in
theorem rneed_ok0 {gx n c : Nat} {A : Option Addr} {b : List UInt8} {a : Nat} (w : World) (hwk : w.heap[gx]? = some (.cells #[.slice A n c, .int .i64 (a : Int), .int .i64 0] 66 (0, 0))) (sb : Sl w A n c b) (av_sb_wk : Av A n gx) (hn : n ≤ 100000) (ha : a ≤ n) (kk : Int) (k : Nat) (hk : (k : Int) = kk) (hk0 : k ≤ 100000) (hle : a + k ≤ n) : Calls Try.prog 54 #[.pointer (some ⟨gx, 0, none⟩), .int .i64 kk] w fun e w' => e = .returned (.bool true) ∧ w'.heap[gx]? = some (.cells #[.slice A n c, .int .i64 (a : Int), .int .i64 0] 66 (0, 0)) ∧ w.grownBy w' (some gx) := by
  have hlo := Nat.zero_le w.heap.size
  have owk := Nat.zero_le gx
  have HBL := Lib.hid sb.1
  have HAN := Lib.hid ha
  have a0 : (0 : Int) ≤ a := by omega
  have a1 : (a : Int) ≤ 100000 := by omega
  have n0 : (0 : Int) ≤ n := by omega
  have n1 : (n : Int) ≤ 100000 := by omega
  have hsz := Nat.le_refl w.heap.size
  have fz := fz_refl w (some gx)
  have k0 : (0 : Int) ≤ kk := by omega
  have k1 : (kk : Int) ≤ 100000 := by omega
  have e_na : IntKind.i64.wrap ((n : Int) - (a : Int)) = (n : Int) - (a : Int) := IntWalk.i64_in _ (by omega)
  have t1 : decide ((n : Int) - (a : Int) < kk) = false := decide_eq_false (by omega)
  clear hk
  have bel := Below.refl 0 w
  go_enter Try.func54, Try.ntmps54
  go_wp2_with fail
  replace bel := bel.drew
  replace hwk : w.drew.heap[gx]? = _ := hwk
  replace sb := sb.drew
  replace fz := gk_drew fz
  replace hsz := sz_drew' hsz
  refine wp_region_held_drew (S := fun W => W.heap[gx]? = some (.cells #[.slice A n c, .int .i64 (a : Int), .int .i64 0] 66 (0, 0))) (by kernel_rfl) hwk (fun hH => ?_)
  generalize w.drew = w1 at bel hwk sb fz hsz hH ⊢
  refine wpAnyH_take (i := 0) (v := ?_) rfl (by kernel_rfl) (by kernel_rfl) (by kernel_rfl) (fun _ _ _ h => h) (Or.inl ⟨by rfl, ?_⟩) hH ?_
  rotate_left
  · ((intro W hW; clear hW; go_simp) <;> with_reducible rfl)
  simp only [Act.put, List.getElem_toArray, List.getElem_cons_zero, List.setIfInBounds_toArray, List.set_cons_zero, List.set_cons_succ]
  refine wpAnyH_take (i := 1) (v := ?_) rfl (by kernel_rfl) (by kernel_rfl) (by kernel_rfl) (fun _ _ _ h => h) (Or.inl ⟨by rfl, ?_⟩) hH ?_
  rotate_left
  · ((intro W hW; clear hW; go_simp) <;> with_reducible rfl)
  simp only [sq3, sq4]
  refine wpAnyH_take (i := 2) (v := ?_) rfl (by kernel_rfl) (by kernel_rfl) (by kernel_rfl) (fun _ _ _ h => h) (Or.inl ⟨by rfl, ?_⟩) hH ?_
  rotate_left
  · ((intro W hW; clear hW; go_simp) <;> with_reducible rfl)
  simp only [sq3, sq4]
  refine wpAnyH_take (i := 3) (v := ?_) rfl (by kernel_rfl) (by kernel_rfl) (by kernel_rfl) (fun _ _ _ h => h) (Or.inl ⟨by rfl, ?_⟩) hH ?_
  rotate_left
  · ((intro W hW; have hk := cell_lit (hW) 2 _ rfl; clear hW; go_simp) <;> with_reducible rfl)
  simp only [sq3, sq4]
  refine wpAnyH_take (i := 4) (v := ?_) rfl (by kernel_rfl) (by kernel_rfl) (by kernel_rfl) (fun _ _ _ h => h) (Or.inl ⟨by rfl, ?_⟩) hH ?_
  rotate_left
  · ((intro W hW; clear hW; go_simp) <;> with_reducible rfl)
  simp only [sq3, sq4]
  refine wpAnyH_take (i := 5) (v := ?_) rfl (by kernel_rfl) (by kernel_rfl) (by kernel_rfl) (fun _ _ _ h => h) (Or.inl ⟨by rfl, ?_⟩) hH ?_
  rotate_left
  · ((intro W hW; clear hW; go_simp) <;> with_reducible rfl)
  simp only [sq3, sq4]
  refine wpAnyH_take (i := 6) (v := ?_) rfl (by kernel_rfl) (by kernel_rfl) (by kernel_rfl) (fun _ _ _ h => h) (Or.inl ⟨by rfl, ?_⟩) hH ?_
  rotate_left
  · ((intro W hW; clear hW; go_simp) <;> with_reducible rfl)
  simp only [sq3, sq4]
  refine wpAnyH_take (i := 7) (v := ?_) rfl (by kernel_rfl) (by kernel_rfl) (by kernel_rfl) (fun _ _ _ h => h) (Or.inl ⟨by rfl, ?_⟩) hH ?_
  rotate_left
  · ((intro W hW; clear hW; go_simp) <;> with_reducible rfl)
  simp only [sq3, sq4]
  refine wpAnyH_take (i := 8) (v := ?_) rfl (by kernel_rfl) (by kernel_rfl) (by kernel_rfl) (fun _ _ _ h => h) (Or.inl ⟨by rfl, ?_⟩) hH ?_
  rotate_left
  · ((intro W hW; clear hW; go_simp) <;> with_reducible rfl)
  simp only [sq3, sq4]
  refine wpAnyH_take (i := 9) (v := ?_) rfl (by kernel_rfl) (by kernel_rfl) (by kernel_rfl) (fun _ _ _ h => h) (Or.inl ⟨by rfl, ?_⟩) hH ?_
  rotate_left
  · ((intro W hW; clear hW; go_simp) <;> with_reducible rfl)
  simp only [sq3, sq4]
  refine wpAnyH_take (i := 10) (v := ?_) rfl (by kernel_rfl) (by kernel_rfl) (by kernel_rfl) (fun _ _ _ h => h) (Or.inl ⟨by rfl, ?_⟩) hH ?_
  rotate_left
  · ((intro W hW; have hk := cell_lit (hW) 0 _ rfl; clear hW; go_simp) <;> with_reducible rfl)
  simp only [sq3, sq4]
  refine wpAnyH_take (i := 11) (v := ?_) rfl (by kernel_rfl) (by kernel_rfl) (by kernel_rfl) (fun _ _ _ h => h) (Or.inl ⟨by rfl, ?_⟩) hH ?_
  rotate_left
  · ((intro W hW; clear hW; go_simp) <;> with_reducible rfl)
  simp only [sq3, sq4]
  refine wpAnyH_take (i := 12) (v := ?_) rfl (by kernel_rfl) (by kernel_rfl) (by kernel_rfl) (fun _ _ _ h => h) (Or.inl ⟨by rfl, ?_⟩) hH ?_
  rotate_left
  · ((intro W hW; clear hW; go_simp) <;> with_reducible rfl)
  simp only [sq3, sq4]
  refine wpAnyH_take (i := 13) (v := ?_) rfl (by kernel_rfl) (by kernel_rfl) (by kernel_rfl) (fun _ _ _ h => h) (Or.inl ⟨by rfl, ?_⟩) hH ?_
  rotate_left
  · ((intro W hW; clear hW; go_simp) <;> with_reducible rfl)
  simp only [sq3, sq4]
  refine wpAnyH_take (i := 14) (v := ?_) rfl (by kernel_rfl) (by kernel_rfl) (by kernel_rfl) (fun _ _ _ h => h) (Or.inl ⟨by rfl, ?_⟩) hH ?_
  rotate_left
  · ((intro W hW; clear hW; go_simp) <;> with_reducible rfl)
  simp only [sq3, sq4]
  refine wpAnyH_take (i := 15) (v := ?_) rfl (by kernel_rfl) (by kernel_rfl) (by kernel_rfl) (fun _ _ _ h => h) (Or.inl ⟨by rfl, ?_⟩) hH ?_
  rotate_left
  · ((intro W hW; have hk := cell_lit (hW) 1 _ rfl; clear hW; go_simp) <;> with_reducible rfl)
  simp only [sq3, sq4]
  refine wpAnyH_take (i := 16) (v := ?_) rfl (by kernel_rfl) (by kernel_rfl) (by kernel_rfl) (fun _ _ _ h => h) (Or.inl ⟨by rfl, ?_⟩) hH ?_
  rotate_left
  · ((intro W hW; clear hW; go_simp) <;> with_reducible rfl)
  simp only [sq3, sq4]
  refine wpAnyH_take (i := 17) (v := ?_) rfl (by kernel_rfl) (by kernel_rfl) (by kernel_rfl) (fun _ _ _ h => h) (Or.inl ⟨by rfl, ?_⟩) hH ?_
  rotate_left
  · ((intro W hW; clear hW; go_simp) <;> with_reducible rfl)
  simp only [sq3, sq4]
  refine wpAnyH_take (i := 18) (v := ?_) rfl (by kernel_rfl) (by kernel_rfl) (by kernel_rfl) (fun _ _ _ h => h) (Or.inl ⟨by rfl, ?_⟩) hH ?_
  rotate_left
  · ((intro W hW; clear hW; go_simp) <;> with_reducible rfl)
  simp only [sq3, sq4]
  refine wpAnyH_done (by kernel_rfl) ?_ _
  have R30 := cell_lit hwk 2 _ rfl
  go_wp2_with fail
  clear R30
  go_ret
  exact ⟨rfl, hwk, fz⟩
set_option linter.unusedVariables false in
set_option linter.unusedSimpArgs false in
set_option maxRecDepth 100000 in
set_option maxHeartbeats 16000000 in
theorem rneed_no0 {gx n c : Nat} {A : Option Addr} {b : List UInt8} {a : Nat} (w : World) (hwk : w.heap[gx]? = some (.cells #[.slice A n c, .int .i64 (a : Int), .int .i64 0] 66 (0, 0))) (sb : Sl w A n c b) (av_sb_wk : Av A n gx) (hn : n ≤ 100000) (ha : a ≤ n) (kk : Int) (k : Nat) (hk : (k : Int) = kk) (hk0 : k ≤ 100000) (hle : n < a + k) : Calls Try.prog 54 #[.pointer (some ⟨gx, 0, none⟩), .int .i64 kk] w fun e w' => e = .returned (.bool false) ∧ w'.heap[gx]? = some (.cells #[.slice A n c, .int .i64 (a : Int), .int .i64 3] 66 (0, 0)) ∧ w.grownBy w' (some gx) := by
  have hlo := Nat.zero_le w.heap.size
  have owk := Nat.zero_le gx
  have HBL := Lib.hid sb.1
  have HAN := Lib.hid ha
  have a0 : (0 : Int) ≤ a := by omega
  have a1 : (a : Int) ≤ 100000 := by omega
  have n0 : (0 : Int) ≤ n := by omega
  have n1 : (n : Int) ≤ 100000 := by omega
  have hsz := Nat.le_refl w.heap.size
  have fz := fz_refl w (some gx)
  have k0 : (0 : Int) ≤ kk := by omega
  have k1 : (kk : Int) ≤ 100000 := by omega
  have e_na : IntKind.i64.wrap ((n : Int) - (a : Int)) = (n : Int) - (a : Int) := IntWalk.i64_in _ (by omega)
  have t1 : (n : Int) - (a : Int) < kk := by omega
  clear hk
  have bel := Below.refl 0 w
  go_enter Try.func54, Try.ntmps54
  go_wp2_with fail
  replace bel := bel.drew
  replace hwk : w.drew.heap[gx]? = _ := hwk
  replace sb := sb.drew
  replace fz := gk_drew fz
  replace hsz := sz_drew' hsz
  refine wp_region_held_drew (S := fun W => W.heap[gx]? = some (.cells #[.slice A n c, .int .i64 (a : Int), .int .i64 0] 66 (0, 0))) (by kernel_rfl) hwk (fun hH => ?_)
  generalize w.drew = w1 at bel hwk sb fz hsz hH ⊢
  refine wpAnyH_take (i := 0) (v := ?_) rfl (by kernel_rfl) (by kernel_rfl) (by kernel_rfl) (fun _ _ _ h => h) (Or.inl ⟨by rfl, ?_⟩) hH ?_
  rotate_left
  · ((intro W hW; clear hW; go_simp) <;> with_reducible rfl)
  simp only [Act.put, List.getElem_toArray, List.getElem_cons_zero, List.setIfInBounds_toArray, List.set_cons_zero, List.set_cons_succ]
  refine wpAnyH_take (i := 1) (v := ?_) rfl (by kernel_rfl) (by kernel_rfl) (by kernel_rfl) (fun _ _ _ h => h) (Or.inl ⟨by rfl, ?_⟩) hH ?_
  rotate_left
  · ((intro W hW; clear hW; go_simp) <;> with_reducible rfl)
  simp only [sq3, sq4]
  refine wpAnyH_take (i := 2) (v := ?_) rfl (by kernel_rfl) (by kernel_rfl) (by kernel_rfl) (fun _ _ _ h => h) (Or.inl ⟨by rfl, ?_⟩) hH ?_
  rotate_left
  · ((intro W hW; clear hW; go_simp) <;> with_reducible rfl)
  simp only [sq3, sq4]
  refine wpAnyH_take (i := 3) (v := ?_) rfl (by kernel_rfl) (by kernel_rfl) (by kernel_rfl) (fun _ _ _ h => h) (Or.inl ⟨by rfl, ?_⟩) hH ?_
  rotate_left
  · ((intro W hW; have hk := cell_lit (hW) 2 _ rfl; clear hW; go_simp) <;> with_reducible rfl)
  simp only [sq3, sq4]
  refine wpAnyH_take (i := 4) (v := ?_) rfl (by kernel_rfl) (by kernel_rfl) (by kernel_rfl) (fun _ _ _ h => h) (Or.inl ⟨by rfl, ?_⟩) hH ?_
  rotate_left
  · ((intro W hW; clear hW; go_simp) <;> with_reducible rfl)
  simp only [sq3, sq4]
  refine wpAnyH_take (i := 5) (v := ?_) rfl (by kernel_rfl) (by kernel_rfl) (by kernel_rfl) (fun _ _ _ h => h) (Or.inl ⟨by rfl, ?_⟩) hH ?_
  rotate_left
  · ((intro W hW; clear hW; go_simp) <;> with_reducible rfl)
  simp only [sq3, sq4]
  refine wpAnyH_take (i := 6) (v := ?_) rfl (by kernel_rfl) (by kernel_rfl) (by kernel_rfl) (fun _ _ _ h => h) (Or.inl ⟨by rfl, ?_⟩) hH ?_
  rotate_left
  · ((intro W hW; clear hW; go_simp) <;> with_reducible rfl)
  simp only [sq3, sq4]
  refine wpAnyH_take (i := 7) (v := ?_) rfl (by kernel_rfl) (by kernel_rfl) (by kernel_rfl) (fun _ _ _ h => h) (Or.inl ⟨by rfl, ?_⟩) hH ?_
  rotate_left
  · ((intro W hW; clear hW; go_simp) <;> with_reducible rfl)
  simp only [sq3, sq4]
  refine wpAnyH_take (i := 8) (v := ?_) rfl (by kernel_rfl) (by kernel_rfl) (by kernel_rfl) (fun _ _ _ h => h) (Or.inl ⟨by rfl, ?_⟩) hH ?_
  rotate_left
  · ((intro W hW; clear hW; go_simp) <;> with_reducible rfl)
  simp only [sq3, sq4]
  refine wpAnyH_take (i := 9) (v := ?_) rfl (by kernel_rfl) (by kernel_rfl) (by kernel_rfl) (fun _ _ _ h => h) (Or.inl ⟨by rfl, ?_⟩) hH ?_
  rotate_left
  · ((intro W hW; clear hW; go_simp) <;> with_reducible rfl)
  simp only [sq3, sq4]
  refine wpAnyH_take (i := 10) (v := ?_) rfl (by kernel_rfl) (by kernel_rfl) (by kernel_rfl) (fun _ _ _ h => h) (Or.inl ⟨by rfl, ?_⟩) hH ?_
  rotate_left
  · ((intro W hW; have hk := cell_lit (hW) 0 _ rfl; clear hW; go_simp) <;> with_reducible rfl)
  simp only [sq3, sq4]
  refine wpAnyH_take (i := 11) (v := ?_) rfl (by kernel_rfl) (by kernel_rfl) (by kernel_rfl) (fun _ _ _ h => h) (Or.inl ⟨by rfl, ?_⟩) hH ?_
  rotate_left
  · ((intro W hW; clear hW; go_simp) <;> with_reducible rfl)
  simp only [sq3, sq4]
  refine wpAnyH_take (i := 12) (v := ?_) rfl (by kernel_rfl) (by kernel_rfl) (by kernel_rfl) (fun _ _ _ h => h) (Or.inl ⟨by rfl, ?_⟩) hH ?_
  rotate_left
  · ((intro W hW; clear hW; go_simp) <;> with_reducible rfl)
  simp only [sq3, sq4]
  refine wpAnyH_take (i := 13) (v := ?_) rfl (by kernel_rfl) (by kernel_rfl) (by kernel_rfl) (fun _ _ _ h => h) (Or.inl ⟨by rfl, ?_⟩) hH ?_
  rotate_left
  · ((intro W hW; clear hW; go_simp) <;> with_reducible rfl)
  simp only [sq3, sq4]
  refine wpAnyH_take (i := 14) (v := ?_) rfl (by kernel_rfl) (by kernel_rfl) (by kernel_rfl) (fun _ _ _ h => h) (Or.inl ⟨by rfl, ?_⟩) hH ?_
  rotate_left
  · ((intro W hW; clear hW; go_simp) <;> with_reducible rfl)
  simp only [sq3, sq4]
  refine wpAnyH_take (i := 15) (v := ?_) rfl (by kernel_rfl) (by kernel_rfl) (by kernel_rfl) (fun _ _ _ h => h) (Or.inl ⟨by rfl, ?_⟩) hH ?_
  rotate_left
  · ((intro W hW; have hk := cell_lit (hW) 1 _ rfl; clear hW; go_simp) <;> with_reducible rfl)
  simp only [sq3, sq4]
  refine wpAnyH_take (i := 16) (v := ?_) rfl (by kernel_rfl) (by kernel_rfl) (by kernel_rfl) (fun _ _ _ h => h) (Or.inl ⟨by rfl, ?_⟩) hH ?_
  rotate_left
  · ((intro W hW; clear hW; go_simp) <;> with_reducible rfl)
  simp only [sq3, sq4]
  refine wpAnyH_take (i := 17) (v := ?_) rfl (by kernel_rfl) (by kernel_rfl) (by kernel_rfl) (fun _ _ _ h => h) (Or.inl ⟨by rfl, ?_⟩) hH ?_
  rotate_left
  · ((intro W hW; clear hW; go_simp) <;> with_reducible rfl)
  simp only [sq3, sq4]
  refine wpAnyH_take (i := 18) (v := ?_) rfl (by kernel_rfl) (by kernel_rfl) (by kernel_rfl) (fun _ _ _ h => h) (Or.inl ⟨by rfl, ?_⟩) hH ?_
  rotate_left
  · ((intro W hW; clear hW; go_simp) <;> with_reducible rfl)
  simp only [sq3, sq4]
  refine wpAnyH_done (by kernel_rfl) ?_ _
  go_wp2_with (first | ((with_reducible show wpList _ _ _ (⟨none, Op.store _ (.tmp 26) _, _, _, _, _⟩ :: _) _ _); refine wpList_store_part rfl 27 (.tmp 26) (.const (.int .i64 3)) rfl gx 2 rfl [.int .i64 3] rfl [.slice A n c, .int .i64 (a : Int), .int .i64 0] 66 hwk (by simp) [.slice A n c, .int .i64 (a : Int), .int .i64 3] rfl (by kernel_rfl) (by rfl) ?_; intro w2 hq gr; replace sb := sb.away av_sb_wk gr; replace fz := fz_self fz gr; replace hsz := Nat.le_trans hsz gr.size; replace bel := below_grown bel gr owk (Nat.le_trans hlo bel.size); clear hwk; have hwk := hq; clear hq gr; have R30 := cell_lit hwk 2 _ rfl))
  try clear R30
  go_ret
  exact ⟨rfl, hwk, fz⟩
set_option linter.unusedVariables false in
set_option linter.unusedSimpArgs false in
set_option maxRecDepth 100000 in
set_option maxHeartbeats 16000000 in
theorem rneed_err {gx n c : Nat} {A : Option Addr} {b : List UInt8} {a y : Nat} (w : World) (hwk : w.heap[gx]? = some (.cells #[.slice A n c, .int .i64 (a : Int), .int .i64 (y : Int)] 66 (0, 0))) (sb : Sl w A n c b) (av_sb_wk : Av A n gx) (hn : n ≤ 100000) (ha : a ≤ n) (kk : Int) (k : Nat) (hk : (k : Int) = kk) (hk0 : k ≤ 100000) (hy : y ≠ 0) : Calls Try.prog 54 #[.pointer (some ⟨gx, 0, none⟩), .int .i64 kk] w fun e w' => e = .returned (.bool false) ∧ w'.heap[gx]? = some (.cells #[.slice A n c, .int .i64 (a : Int), .int .i64 (y : Int)] 66 (0, 0)) ∧ w.grownBy w' (some gx) := by
  have hlo := Nat.zero_le w.heap.size
  have owk := Nat.zero_le gx
  have HBL := Lib.hid sb.1
  have HAN := Lib.hid ha
  have a0 : (0 : Int) ≤ a := by omega
  have a1 : (a : Int) ≤ 100000 := by omega
  have n0 : (0 : Int) ≤ n := by omega
  have n1 : (n : Int) ≤ 100000 := by omega
  have hsz := Nat.le_refl w.heap.size
  have fz := fz_refl w (some gx)
  have k0 : (0 : Int) ≤ kk := by omega
  have k1 : (kk : Int) ≤ 100000 := by omega
  have e_na : IntKind.i64.wrap ((n : Int) - (a : Int)) = (n : Int) - (a : Int) := IntWalk.i64_in _ (by omega)
  have ya : ((y : Int) == 0) = false := by rw [beq_eq_false_iff_ne]; omega
  have yb : (y == 0) = false := by rw [beq_eq_false_iff_ne]; omega
  have yc : ((y : Int) != 0) = true := by rw [bne_iff_ne]; omega
  have yd : (y != 0) = true := by rw [bne_iff_ne]; omega
  clear hk hy
  have bel := Below.refl 0 w
  go_enter Try.func54, Try.ntmps54
  go_wp2_with fail
  replace bel := bel.drew
  replace hwk : w.drew.heap[gx]? = _ := hwk
  replace sb := sb.drew
  replace fz := gk_drew fz
  replace hsz := sz_drew' hsz
  refine wp_region_held_drew (S := fun W => W.heap[gx]? = some (.cells #[.slice A n c, .int .i64 (a : Int), .int .i64 (y : Int)] 66 (0, 0))) (by kernel_rfl) hwk (fun hH => ?_)
  generalize w.drew = w1 at bel hwk sb fz hsz hH ⊢
  refine wpAnyH_take (i := 0) (v := ?_) rfl (by kernel_rfl) (by kernel_rfl) (by kernel_rfl) (fun _ _ _ h => h) (Or.inl ⟨by rfl, ?_⟩) hH ?_
  rotate_left
  · ((intro W hW; clear hW; go_simp) <;> with_reducible rfl)
  simp only [Act.put, List.getElem_toArray, List.getElem_cons_zero, List.setIfInBounds_toArray, List.set_cons_zero, List.set_cons_succ]
  refine wpAnyH_take (i := 1) (v := ?_) rfl (by kernel_rfl) (by kernel_rfl) (by kernel_rfl) (fun _ _ _ h => h) (Or.inl ⟨by rfl, ?_⟩) hH ?_
  rotate_left
  · ((intro W hW; clear hW; go_simp) <;> with_reducible rfl)
  simp only [sq3, sq4]
  refine wpAnyH_take (i := 2) (v := ?_) rfl (by kernel_rfl) (by kernel_rfl) (by kernel_rfl) (fun _ _ _ h => h) (Or.inl ⟨by rfl, ?_⟩) hH ?_
  rotate_left
  · ((intro W hW; clear hW; go_simp) <;> with_reducible rfl)
  simp only [sq3, sq4]
  refine wpAnyH_take (i := 3) (v := ?_) rfl (by kernel_rfl) (by kernel_rfl) (by kernel_rfl) (fun _ _ _ h => h) (Or.inl ⟨by rfl, ?_⟩) hH ?_
  rotate_left
  · ((intro W hW; have hk := cell_lit (hW) 2 _ rfl; clear hW; go_simp) <;> with_reducible rfl)
  simp only [sq3, sq4]
  refine wpAnyH_take (i := 4) (v := ?_) rfl (by kernel_rfl) (by kernel_rfl) (by kernel_rfl) (fun _ _ _ h => h) (Or.inl ⟨by rfl, ?_⟩) hH ?_
  rotate_left
  · ((intro W hW; clear hW; go_simp) <;> with_reducible rfl)
  simp only [sq3, sq4]
  refine wpAnyH_take (i := 5) (v := ?_) rfl (by kernel_rfl) (by kernel_rfl) (by kernel_rfl) (fun _ _ _ h => h) (Or.inl ⟨by rfl, ?_⟩) hH ?_
  rotate_left
  · ((intro W hW; clear hW; go_simp) <;> with_reducible rfl)
  simp only [sq3, sq4]
  refine wpAnyH_take (i := 6) (v := undef) rfl (by kernel_rfl) (by kernel_rfl) (by kernel_rfl) (fun _ _ _ h => h) (Or.inr ⟨by rfl, rfl⟩) hH ?_
  simp only [sq3, sq4]
  refine wpAnyH_take (i := 7) (v := undef) rfl (by kernel_rfl) (by kernel_rfl) (by kernel_rfl) (fun _ _ _ h => h) (Or.inr ⟨by rfl, rfl⟩) hH ?_
  simp only [sq3, sq4]
  refine wpAnyH_take (i := 8) (v := undef) rfl (by kernel_rfl) (by kernel_rfl) (by kernel_rfl) (fun _ _ _ h => h) (Or.inr ⟨by rfl, rfl⟩) hH ?_
  simp only [sq3, sq4]
  refine wpAnyH_take (i := 9) (v := undef) rfl (by kernel_rfl) (by kernel_rfl) (by kernel_rfl) (fun _ _ _ h => h) (Or.inr ⟨by rfl, rfl⟩) hH ?_
  simp only [sq3, sq4]
  refine wpAnyH_take (i := 10) (v := undef) rfl (by kernel_rfl) (by kernel_rfl) (by kernel_rfl) (fun _ _ _ h => h) (Or.inr ⟨by rfl, rfl⟩) hH ?_
  simp only [sq3, sq4]
  refine wpAnyH_take (i := 11) (v := undef) rfl (by kernel_rfl) (by kernel_rfl) (by kernel_rfl) (fun _ _ _ h => h) (Or.inr ⟨by rfl, rfl⟩) hH ?_
  simp only [sq3, sq4]
  refine wpAnyH_take (i := 12) (v := undef) rfl (by kernel_rfl) (by kernel_rfl) (by kernel_rfl) (fun _ _ _ h => h) (Or.inr ⟨by rfl, rfl⟩) hH ?_
  simp only [sq3, sq4]
  refine wpAnyH_take (i := 13) (v := undef) rfl (by kernel_rfl) (by kernel_rfl) (by kernel_rfl) (fun _ _ _ h => h) (Or.inr ⟨by rfl, rfl⟩) hH ?_
  simp only [sq3, sq4]
  refine wpAnyH_take (i := 14) (v := undef) rfl (by kernel_rfl) (by kernel_rfl) (by kernel_rfl) (fun _ _ _ h => h) (Or.inr ⟨by rfl, rfl⟩) hH ?_
  simp only [sq3, sq4]
  refine wpAnyH_take (i := 15) (v := undef) rfl (by kernel_rfl) (by kernel_rfl) (by kernel_rfl) (fun _ _ _ h => h) (Or.inr ⟨by rfl, rfl⟩) hH ?_
  simp only [sq3, sq4]
  refine wpAnyH_take (i := 16) (v := undef) rfl (by kernel_rfl) (by kernel_rfl) (by kernel_rfl) (fun _ _ _ h => h) (Or.inr ⟨by rfl, rfl⟩) hH ?_
  simp only [sq3, sq4]
  refine wpAnyH_take (i := 17) (v := undef) rfl (by kernel_rfl) (by kernel_rfl) (by kernel_rfl) (fun _ _ _ h => h) (Or.inr ⟨by rfl, rfl⟩) hH ?_
  simp only [sq3, sq4]
  refine wpAnyH_take (i := 18) (v := ?_) rfl (by kernel_rfl) (by kernel_rfl) (by kernel_rfl) (fun _ _ _ h => h) (Or.inl ⟨by rfl, ?_⟩) hH ?_
  rotate_left
  · ((intro W hW; clear hW; go_simp) <;> with_reducible rfl)
  simp only [sq3, sq4]
  refine wpAnyH_done (by kernel_rfl) ?_ _
  have R30 := cell_lit hwk 2 _ rfl
  go_wp2_with fail
  clear R30
  go_ret
  exact ⟨rfl, hwk, fz⟩
theorem rneed_yes {gx n c : Nat} {A : Option Addr} {b : List UInt8} {a y : Nat} (w : World) (hwk : w.heap[gx]? = some (.cells #[.slice A n c, .int .i64 (a : Int), .int .i64 (y : Int)] 66 (0, 0))) (sb : Sl w A n c b) (av_sb_wk : Av A n gx) (hn : n ≤ 100000) (ha : a ≤ n) (kk : Int) (k : Nat) (hk : (k : Int) = kk) (hk0 : k ≤ 100000) (hs : needS n k (a, y) = (a, 0)) : Calls Try.prog 54 #[.pointer (some ⟨gx, 0, none⟩), .int .i64 kk] w fun e w' => e = .returned (.bool true) ∧ w'.heap[gx]? = some (.cells #[.slice A n c, .int .i64 (a : Int), .int .i64 0] 66 (0, 0)) ∧ w.grownBy w' (some gx) := by
  obtain ⟨h1, _, h2⟩ := need_is (s := (a, y)) (by rw [hs])
  obtain rfl : y = 0 := h1
  exact rneed_ok0 w hwk sb av_sb_wk hn ha kk k hk hk0 h2
theorem rneed_no {gx n c : Nat} {A : Option Addr} {b : List UInt8} {a y : Nat} (w : World) (hwk : w.heap[gx]? = some (.cells #[.slice A n c, .int .i64 (a : Int), .int .i64 (y : Int)] 66 (0, 0))) (sb : Sl w A n c b) (av_sb_wk : Av A n gx) (hn : n ≤ 100000) (ha : a ≤ n) (kk : Int) (k : Nat) (hk : (k : Int) = kk) (hk0 : k ≤ 100000) {a2 y2 : Nat} (hs : needS n k (a, y) = (a2, y2)) (hy2 : y2 ≠ 0) : Calls Try.prog 54 #[.pointer (some ⟨gx, 0, none⟩), .int .i64 kk] w fun e w' => e = .returned (.bool false) ∧ w'.heap[gx]? = some (.cells #[.slice A n c, .int .i64 (a2 : Int), .int .i64 (y2 : Int)] 66 (0, 0)) ∧ w.grownBy w' (some gx) := by
  by_cases hy : y = 0
  · subst hy
    by_cases hl : n < a + k
    · rw [needS_no hl] at hs
      injection hs with h1 h2
      subst h1; subst h2
      exact rneed_no0 w hwk sb av_sb_wk hn ha kk k hk hk0 hl
    · rw [needS_ok (by omega)] at hs
      injection hs with h1 h2
      exact absurd h2.symm hy2
  · rw [needS_ep hy] at hs
    injection hs with h1 h2
    subst h1; subst h2
    exact rneed_err w hwk sb av_sb_wk hn ha kk k hk hk0 hy
theorem at16_is {A : Option Addr} {n c k v : Nat} {l : List UInt8} (w : World) (hl : Sl w A n c l) (hk : k + 2 ≤ n) (hn : n ≤ 100000) (hv : nAt l k 2 = v) : Calls Try.prog 55 #[.slice A n c, .int .i64 (k : Int)] w fun e w' => e = .returned (.int .i64 (v : Int)) ∧ Below w.heap.size w w' := by
  subst hv
  exact at16_b A n c k l w hl hk (by omega)
set_option linter.unusedVariables false in
set_option linter.unusedSimpArgs false in
set_option maxRecDepth 100000 in
set_option maxHeartbeats 16000000 in
theorem ru16_ok {gx n c : Nat} {A : Option Addr} {b : List UInt8} {a : Nat} (w : World) (hwk : w.heap[gx]? = some (.cells #[.slice A n c, .int .i64 (a : Int), .int .i64 0] 66 (0, 0))) (sb : Sl w A n c b) (av_sb_wk : Av A n gx) (hn : n ≤ 100000) (ha : a ≤ n) (hle : a + 2 ≤ n) {v : Nat} (hv : nAt b a 2 = v) : Calls Try.prog 27 #[.pointer (some ⟨gx, 0, none⟩)] w fun e w' => e = .returned (.int .i64 (v : Int)) ∧ w'.heap[gx]? = some (.cells #[.slice A n c, .int .i64 ((a + 2 : Nat) : Int), .int .i64 0] 66 (0, 0)) ∧ w.grownBy w' (some gx) := by
  have hlo := Nat.zero_le w.heap.size
  have owk := Nat.zero_le gx
  have HBL := Lib.hid sb.1
  have HAN := Lib.hid ha
  have a0 : (0 : Int) ≤ a := by omega
  have a1 : (a : Int) ≤ 100000 := by omega
  have n0 : (0 : Int) ≤ n := by omega
  have n1 : (n : Int) ≤ 100000 := by omega
  have hsz := Nat.le_refl w.heap.size
  have fz := fz_refl w (some gx)
  have e23 : IntKind.i64.wrap (a : Int) = (a : Int) := IntWalk.i64_in _ (by omega)
  have e22 : IntKind.i64.wrap ((a : Int) + 2 - 2) = (a : Int) := by rw [show (a : Int) + 2 - 2 = a by omega]; exact IntWalk.i64_in _ (by omega)
  have HA2 : Hid ((a : Int) + 2 = ((a + 2 : Nat) : Int)) := Lib.hid rfl
  have HV := Lib.hid hv
  have bel := Below.refl 0 w
  go_enter Try.func27, Try.ntmps27
  go_wp2_with fail
  with_reducible refine (rneed_ok0 _ hwk sb av_sb_wk hn HAN.out 2 2 rfl (by decide) hle).mono ?_
  rintro e w1 ⟨rfl, hq_, b1⟩
  replace sb := sb.away av_sb_wk b1
  replace fz := fz_self fz b1
  replace hsz := Nat.le_trans hsz b1.size
  replace bel := below_grown bel b1 owk (Nat.le_trans hlo bel.size)
  clear b1
  clear hwk
  have hwk := hq_
  clear hq_
  have R10 := cell_lit hwk 1 _ rfl
  go_wp2_with (first | ((with_reducible show wpList _ _ _ (⟨none, Op.store _ (.tmp 13) _, _, _, _, _⟩ :: _) _ _); refine wpList_store_part rfl 3 (.tmp 13) (.tmp 11) rfl gx 1 rfl [.int .i64 ((a : Int) + 2)] rfl [.slice A n c, .int .i64 (a : Int), .int .i64 0] 66 hwk (by simp) [.slice A n c, .int .i64 ((a : Int) + 2), .int .i64 0] rfl (by kernel_rfl) (by rfl) ?_; intro w2 hq gr; replace sb := sb.away av_sb_wk gr; replace fz := fz_self fz gr; replace hsz := Nat.le_trans hsz gr.size; replace bel := below_grown bel gr owk (Nat.le_trans hlo bel.size); clear hwk; have hwk := hq; clear hq gr))
  try clear R10
  replace bel := bel.drew
  replace hwk : w2.drew.heap[gx]? = _ := hwk
  replace sb := sb.drew
  replace fz := gk_drew fz
  replace hsz := sz_drew' hsz
  refine wp_region_held_drew (S := fun W => W.heap[gx]? = some (.cells #[.slice A n c, .int .i64 ((a : Int) + 2), .int .i64 0] 66 (0, 0))) (by kernel_rfl) hwk (fun hH => ?_)
  generalize w2.drew = w3 at bel hwk sb fz hsz hH ⊢
  refine wpAnyH_take (i := 0) (v := ?_) rfl (by kernel_rfl) (by kernel_rfl) (by kernel_rfl) (fun _ _ _ h => h) (Or.inl ⟨by rfl, ?_⟩) hH ?_
  rotate_left
  · ((intro W hW; clear hW; go_simp) <;> with_reducible rfl)
  simp only [Act.put, List.getElem_toArray, List.getElem_cons_zero, List.setIfInBounds_toArray, List.set_cons_zero, List.set_cons_succ]
  refine wpAnyH_take (i := 1) (v := ?_) rfl (by kernel_rfl) (by kernel_rfl) (by kernel_rfl) (fun _ _ _ h => h) (Or.inl ⟨by rfl, ?_⟩) hH ?_
  rotate_left
  · ((intro W hW; clear hW; go_simp) <;> with_reducible rfl)
  simp only [sq3, sq4]
  refine wpAnyH_take (i := 2) (v := ?_) rfl (by kernel_rfl) (by kernel_rfl) (by kernel_rfl) (fun _ _ _ h => h) (Or.inl ⟨by rfl, ?_⟩) hH ?_
  rotate_left
  · ((intro W hW; clear hW; go_simp) <;> with_reducible rfl)
  simp only [sq3, sq4]
  refine wpAnyH_take (i := 3) (v := ?_) rfl (by kernel_rfl) (by kernel_rfl) (by kernel_rfl) (fun _ _ _ h => h) (Or.inl ⟨by rfl, ?_⟩) hH ?_
  rotate_left
  · ((intro W hW; have hk := cell_lit (hW) 0 _ rfl; clear hW; go_simp) <;> with_reducible rfl)
  simp only [sq3, sq4]
  refine wpAnyH_take (i := 4) (v := ?_) rfl (by kernel_rfl) (by kernel_rfl) (by kernel_rfl) (fun _ _ _ h => h) (Or.inl ⟨by rfl, ?_⟩) hH ?_
  rotate_left
  · ((intro W hW; clear hW; go_simp) <;> with_reducible rfl)
  simp only [sq3, sq4]
  refine wpAnyH_take (i := 5) (v := ?_) rfl (by kernel_rfl) (by kernel_rfl) (by kernel_rfl) (fun _ _ _ h => h) (Or.inl ⟨by rfl, ?_⟩) hH ?_
  rotate_left
  · ((intro W hW; clear hW; go_simp) <;> with_reducible rfl)
  simp only [sq3, sq4]
  refine wpAnyH_take (i := 6) (v := ?_) rfl (by kernel_rfl) (by kernel_rfl) (by kernel_rfl) (fun _ _ _ h => h) (Or.inl ⟨by rfl, ?_⟩) hH ?_
  rotate_left
  · ((intro W hW; clear hW; go_simp) <;> with_reducible rfl)
  simp only [sq3, sq4]
  refine wpAnyH_take (i := 7) (v := ?_) rfl (by kernel_rfl) (by kernel_rfl) (by kernel_rfl) (fun _ _ _ h => h) (Or.inl ⟨by rfl, ?_⟩) hH ?_
  rotate_left
  · ((intro W hW; have hk := cell_lit (hW) 1 _ rfl; clear hW; go_simp) <;> with_reducible rfl)
  simp only [sq3, sq4]
  refine wpAnyH_take (i := 8) (v := ?_) rfl (by kernel_rfl) (by kernel_rfl) (by kernel_rfl) (fun _ _ _ h => h) (Or.inl ⟨by rfl, ?_⟩) hH ?_
  rotate_left
  · ((intro W hW; clear hW; go_simp) <;> with_reducible rfl)
  simp only [sq3, sq4]
  refine wpAnyH_ready (rs := [9]) (by kernel_rfl) (by simp) ?_
  refine AllReadyH.cons (o := _) rfl (fun K hK => ?_) AllReadyH.nil
  simp only [sq3]
  go_simp
  with_reducible refine (at16_is _ sb hle hn HV.out).mono ?_
  rintro e w4 ⟨rfl, b4⟩
  dsimp only
  replace hwk := blk_u hwk b4
  replace sb := sb.below b4
  replace fz := gk_under fz b4 hsz
  replace hsz := Nat.le_trans hsz b4.size
  replace bel := bel.trans (b4.mono (Nat.le_trans hlo bel.size))
  clear b4
  refine hK.out _ _ hwk (fun hH5 => ?_)
  clear hK K
  refine wpAnyH_take (i := 10) (v := ?_) rfl (by kernel_rfl) (by kernel_rfl) (by kernel_rfl) (fun _ _ _ h => h) (Or.inl ⟨by rfl, ?_⟩) hH5 ?_
  rotate_left
  · ((intro W hW; clear hW; go_simp) <;> with_reducible rfl)
  simp only [sq3, sq4]
  refine wpAnyH_done (by kernel_rfl) ?_ _
  go_wp2_with fail
  go_ret
  exact ⟨rfl, by rw [← HA2.out]; exact hwk, fz⟩
set_option linter.unusedVariables false in
set_option linter.unusedSimpArgs false in
set_option maxRecDepth 100000 in
set_option maxHeartbeats 16000000 in
theorem ru16_no {gx n c : Nat} {A : Option Addr} {b : List UInt8} {a : Nat} (w : World) (hwk : w.heap[gx]? = some (.cells #[.slice A n c, .int .i64 (a : Int), .int .i64 0] 66 (0, 0))) (sb : Sl w A n c b) (av_sb_wk : Av A n gx) (hn : n ≤ 100000) (ha : a ≤ n) (hle : n < a + 2) : Calls Try.prog 27 #[.pointer (some ⟨gx, 0, none⟩)] w fun e w' => e = .returned (.int .i64 0) ∧ w'.heap[gx]? = some (.cells #[.slice A n c, .int .i64 (a : Int), .int .i64 3] 66 (0, 0)) ∧ w.grownBy w' (some gx) := by
  have hlo := Nat.zero_le w.heap.size
  have owk := Nat.zero_le gx
  have HBL := Lib.hid sb.1
  have HAN := Lib.hid ha
  have a0 : (0 : Int) ≤ a := by omega
  have a1 : (a : Int) ≤ 100000 := by omega
  have n0 : (0 : Int) ≤ n := by omega
  have n1 : (n : Int) ≤ 100000 := by omega
  have hsz := Nat.le_refl w.heap.size
  have fz := fz_refl w (some gx)
  skip
  have bel := Below.refl 0 w
  go_enter Try.func27, Try.ntmps27
  go_wp2_with fail
  with_reducible refine (rneed_no0 _ hwk sb av_sb_wk hn HAN.out 2 2 rfl (by decide) hle).mono ?_
  rintro e w1 ⟨rfl, hq_, b1⟩
  replace sb := sb.away av_sb_wk b1
  replace fz := fz_self fz b1
  replace hsz := Nat.le_trans hsz b1.size
  replace bel := below_grown bel b1 owk (Nat.le_trans hlo bel.size)
  clear b1
  clear hwk
  have hwk := hq_
  clear hq_
  go_wp2_with fail
  go_ret
  exact ⟨rfl, hwk, fz⟩
set_option linter.unusedVariables false in
set_option linter.unusedSimpArgs false in
set_option maxRecDepth 100000 in
set_option maxHeartbeats 16000000 in
theorem ru16_err {gx n c : Nat} {A : Option Addr} {b : List UInt8} {a y : Nat} (w : World) (hwk : w.heap[gx]? = some (.cells #[.slice A n c, .int .i64 (a : Int), .int .i64 (y : Int)] 66 (0, 0))) (sb : Sl w A n c b) (av_sb_wk : Av A n gx) (hn : n ≤ 100000) (ha : a ≤ n) (hy : y ≠ 0) : Calls Try.prog 27 #[.pointer (some ⟨gx, 0, none⟩)] w fun e w' => e = .returned (.int .i64 0) ∧ w'.heap[gx]? = some (.cells #[.slice A n c, .int .i64 (a : Int), .int .i64 (y : Int)] 66 (0, 0)) ∧ w.grownBy w' (some gx) := by
  have hlo := Nat.zero_le w.heap.size
  have owk := Nat.zero_le gx
  have HBL := Lib.hid sb.1
  have HAN := Lib.hid ha
  have a0 : (0 : Int) ≤ a := by omega
  have a1 : (a : Int) ≤ 100000 := by omega
  have n0 : (0 : Int) ≤ n := by omega
  have n1 : (n : Int) ≤ 100000 := by omega
  have hsz := Nat.le_refl w.heap.size
  have fz := fz_refl w (some gx)
  skip
  have bel := Below.refl 0 w
  go_enter Try.func27, Try.ntmps27
  go_wp2_with fail
  with_reducible refine (rneed_err _ hwk sb av_sb_wk hn HAN.out 2 2 rfl (by decide) hy).mono ?_
  rintro e w1 ⟨rfl, hq_, b1⟩
  replace sb := sb.away av_sb_wk b1
  replace fz := fz_self fz b1
  replace hsz := Nat.le_trans hsz b1.size
  replace bel := below_grown bel b1 owk (Nat.le_trans hlo bel.size)
  clear b1
  clear hwk
  have hwk := hq_
  clear hq_
  go_wp2_with fail
  go_ret
  exact ⟨rfl, hwk, fz⟩
theorem ru16_any {gx n c : Nat} {A : Option Addr} {b : List UInt8} {a y : Nat} (w : World) (hwk : w.heap[gx]? = some (.cells #[.slice A n c, .int .i64 (a : Int), .int .i64 (y : Int)] 66 (0, 0))) (sb : Sl w A n c b) (av_sb_wk : Av A n gx) (hn : n ≤ 100000) (ha : a ≤ n) {v a2 y2 : Nat} (hs : u16S b (a, y) = (v, a2, y2)) : Calls Try.prog 27 #[.pointer (some ⟨gx, 0, none⟩)] w fun e w' => e = .returned (.int .i64 (v : Int)) ∧ w'.heap[gx]? = some (.cells #[.slice A n c, .int .i64 (a2 : Int), .int .i64 (y2 : Int)] 66 (0, 0)) ∧ w.grownBy w' (some gx) := by
  have hb := sb.1
  by_cases hy : y = 0
  · subst hy
    by_cases hl : n < a + 2
    · rw [u16S_no (by omega)] at hs
      injection hs with h1 h2
      injection h2 with h2 h3
      subst h1; subst h2; subst h3
      exact ru16_no w hwk sb av_sb_wk hn ha hl
    · rw [u16S_ok (by omega)] at hs
      injection hs with h1 h2
      injection h2 with h2 h3
      subst h2; subst h3
      exact ru16_ok w hwk sb av_sb_wk hn ha (by omega) h1
  · rw [u16S_ep hy] at hs
    injection hs with h1 h2
    injection h2 with h2 h3
    subst h1; subst h2; subst h3
    exact ru16_err w hwk sb av_sb_wk hn ha hy
set_option linter.unusedVariables false in
set_option linter.unusedSimpArgs false in
set_option maxRecDepth 100000 in
set_option maxHeartbeats 16000000 in
theorem rname_ok {gx n c : Nat} {A : Option Addr} {b : List UInt8} {a : Nat} (w : World) (hwk : w.heap[gx]? = some (.cells #[.slice A n c, .int .i64 (a : Int), .int .i64 0] 66 (0, 0))) (sb : Sl w A n c b) (av_sb_wk : Av A n gx) (hn : n ≤ 100000) (ha : a ≤ n) {l : List (List UInt8)} {nx er : Nat} (hg : getN b (a : Int) = (l, nx, er)) : Calls Try.prog 28 #[.pointer (some ⟨gx, 0, none⟩)] w fun e w' => ∃ L m cl, e = .returned (.slice L m cl) ∧ w'.ownsRow w.heap.size 9 1 (.slice L m cl) m (l.flatMap stf) ∧ w'.heap[gx]? = some (.cells #[.slice A n c, .int .i64 (nx : Int), .int .i64 (er : Int)] 66 (0, 0)) ∧ w.grownBy w' (some gx) := by
  have hlo := Nat.zero_le w.heap.size
  have owk := Nat.zero_le gx
  have HBL := Lib.hid sb.1
  have HAN := Lib.hid ha
  have a0 : (0 : Int) ≤ a := by omega
  have a1 : (a : Int) ≤ 100000 := by omega
  have n0 : (0 : Int) ≤ n := by omega
  have n1 : (n : Int) ≤ 100000 := by omega
  have hsz := Nat.le_refl w.heap.size
  have fz := fz_refl w (some gx)
  have HG := Lib.hid hg
  clear hg
  obtain ⟨m, HM_⟩ : ∃ u_, l.length = u_ := ⟨_, rfl⟩
  have HM := Lib.hid HM_
  clear HM_
  have bel := Below.refl 0 w
  go_enter Try.func28, Try.ntmps28
  have R9 := cell_lit hwk 2 _ rfl
  go_wp2_with fail
  clear R9
  replace bel := bel.drew
  replace hwk : w.drew.heap[gx]? = _ := hwk
  replace sb := sb.drew
  replace fz := gk_drew fz
  replace hsz := sz_drew' hsz
  refine wp_region_held_drew (S := fun W => W.heap[gx]? = some (.cells #[.slice A n c, .int .i64 (a : Int), .int .i64 0] 66 (0, 0))) (by kernel_rfl) hwk (fun hH => ?_)
  generalize w.drew = w1 at bel hwk sb fz hsz hH ⊢
  refine wpAnyH_take (i := 0) (v := ?_) rfl (by kernel_rfl) (by kernel_rfl) (by kernel_rfl) (fun _ _ _ h => h) (Or.inl ⟨by rfl, ?_⟩) hH ?_
  rotate_left
  · ((intro W hW; clear hW; go_simp) <;> with_reducible rfl)
  simp only [Act.put, List.getElem_toArray, List.getElem_cons_zero, List.setIfInBounds_toArray, List.set_cons_zero, List.set_cons_succ]
  refine wpAnyH_take (i := 1) (v := ?_) rfl (by kernel_rfl) (by kernel_rfl) (by kernel_rfl) (fun _ _ _ h => h) (Or.inl ⟨by rfl, ?_⟩) hH ?_
  rotate_left
  · ((intro W hW; clear hW; go_simp) <;> with_reducible rfl)
  simp only [sq3, sq4]
  refine wpAnyH_take (i := 2) (v := ?_) rfl (by kernel_rfl) (by kernel_rfl) (by kernel_rfl) (fun _ _ _ h => h) (Or.inl ⟨by rfl, ?_⟩) hH ?_
  rotate_left
  · ((intro W hW; clear hW; go_simp) <;> with_reducible rfl)
  simp only [sq3, sq4]
  refine wpAnyH_take (i := 3) (v := ?_) rfl (by kernel_rfl) (by kernel_rfl) (by kernel_rfl) (fun _ _ _ h => h) (Or.inl ⟨by rfl, ?_⟩) hH ?_
  rotate_left
  · ((intro W hW; have hk := cell_lit (hW) 0 _ rfl; clear hW; go_simp) <;> with_reducible rfl)
  simp only [sq3, sq4]
  refine wpAnyH_take (i := 4) (v := ?_) rfl (by kernel_rfl) (by kernel_rfl) (by kernel_rfl) (fun _ _ _ h => h) (Or.inl ⟨by rfl, ?_⟩) hH ?_
  rotate_left
  · ((intro W hW; clear hW; go_simp) <;> with_reducible rfl)
  simp only [sq3, sq4]
  refine wpAnyH_take (i := 5) (v := ?_) rfl (by kernel_rfl) (by kernel_rfl) (by kernel_rfl) (fun _ _ _ h => h) (Or.inl ⟨by rfl, ?_⟩) hH ?_
  rotate_left
  · ((intro W hW; clear hW; go_simp) <;> with_reducible rfl)
  simp only [sq3, sq4]
  refine wpAnyH_take (i := 6) (v := ?_) rfl (by kernel_rfl) (by kernel_rfl) (by kernel_rfl) (fun _ _ _ h => h) (Or.inl ⟨by rfl, ?_⟩) hH ?_
  rotate_left
  · ((intro W hW; clear hW; go_simp) <;> with_reducible rfl)
  simp only [sq3, sq4]
  refine wpAnyH_take (i := 7) (v := ?_) rfl (by kernel_rfl) (by kernel_rfl) (by kernel_rfl) (fun _ _ _ h => h) (Or.inl ⟨by rfl, ?_⟩) hH ?_
  rotate_left
  · ((intro W hW; have hk := cell_lit (hW) 1 _ rfl; clear hW; go_simp) <;> with_reducible rfl)
  simp only [sq3, sq4]
  refine wpAnyH_ready (rs := [8]) (by kernel_rfl) (by simp) ?_
  refine AllReadyH.cons (o := _) rfl (fun K hK => ?_) AllReadyH.nil
  simp only [sq3]
  go_simp
  with_reducible refine (rget_lit _ sb hn HG.out HM.out rfl rfl).mono ?_
  rintro e w2 ⟨v_nm, rfl, nmw, b2⟩
  dsimp only
  have hz_nm := hsz
  have y_nm_wk := Lib.hid (hlt hwk)
  have bl_sb_nm := sb.bl_new
  have nmlo := (Nat.le_trans hlo bel.size)
  have lz_nm := b2.size
  replace hwk := blk_u hwk b2
  replace sb := sb.below b2
  replace fz := gk_under fz b2 hsz
  replace hsz := Nat.le_trans hsz b2.size
  replace bel := bel.trans (b2.mono (Nat.le_trans hlo bel.size))
  clear b2
  obtain ⟨Anm, cnm, rfl⟩ := owk_val nmw
  have nm := (owk_sle (by decide) stf_len nmw).1
  have fr_nm := (owk_sle (by decide) stf_len nmw).2
  have av_nm_wk := fr_nm.av y_nm_wk.out
  refine hK.out _ _ hwk (fun hH3 => ?_)
  clear hK K
  refine wpAnyH_take (i := 9) (v := ?_) rfl (by kernel_rfl) (by kernel_rfl) (by kernel_rfl) (fun _ _ _ h => h) (Or.inl ⟨by rfl, ?_⟩) hH3 ?_
  rotate_left
  · ((intro W hW; clear hW; go_simp) <;> with_reducible rfl)
  simp only [sq3, sq4]
  refine wpAnyH_take (i := 10) (v := ?_) rfl (by kernel_rfl) (by kernel_rfl) (by kernel_rfl) (fun _ _ _ h => h) (Or.inl ⟨by rfl, ?_⟩) hH3 ?_
  rotate_left
  · ((intro W hW; clear hW; go_simp) <;> with_reducible rfl)
  simp only [sq3, sq4]
  refine wpAnyH_take (i := 11) (v := ?_) rfl (by kernel_rfl) (by kernel_rfl) (by kernel_rfl) (fun _ _ _ h => h) (Or.inl ⟨by rfl, ?_⟩) hH3 ?_
  rotate_left
  · ((intro W hW; clear hW; go_simp) <;> with_reducible rfl)
  simp only [sq3, sq4]
  refine wpAnyH_take (i := 12) (v := ?_) rfl (by kernel_rfl) (by kernel_rfl) (by kernel_rfl) (fun _ _ _ h => h) (Or.inl ⟨by rfl, ?_⟩) hH3 ?_
  rotate_left
  · ((intro W hW; clear hW; go_simp) <;> with_reducible rfl)
  simp only [sq3, sq4]
  refine wpAnyH_take (i := 13) (v := ?_) rfl (by kernel_rfl) (by kernel_rfl) (by kernel_rfl) (fun _ _ _ h => h) (Or.inl ⟨by rfl, ?_⟩) hH3 ?_
  rotate_left
  · ((intro W hW; clear hW; go_simp) <;> with_reducible rfl)
  simp only [sq3, sq4]
  refine wpAnyH_take (i := 14) (v := ?_) rfl (by kernel_rfl) (by kernel_rfl) (by kernel_rfl) (fun _ _ _ h => h) (Or.inl ⟨by rfl, ?_⟩) hH3 ?_
  rotate_left
  · ((intro W hW; clear hW; go_simp) <;> with_reducible rfl)
  simp only [sq3, sq4]
  refine wpAnyH_take (i := 15) (v := ?_) rfl (by kernel_rfl) (by kernel_rfl) (by kernel_rfl) (fun _ _ _ h => h) (Or.inl ⟨by rfl, ?_⟩) hH3 ?_
  rotate_left
  · ((intro W hW; clear hW; go_simp) <;> with_reducible rfl)
  simp only [sq3, sq4]
  refine wpAnyH_done (by kernel_rfl) ?_ _
  go_wp2_with (first | ((with_reducible show wpList _ _ _ (⟨none, Op.store _ (.tmp 27) _, _, _, _, _⟩ :: _) _ _); refine wpList_store_part rfl 27 (.tmp 27) (.tmp 25) rfl gx 2 rfl [.int .i64 (er : Int)] rfl [.slice A n c, .int .i64 (a : Int), .int .i64 0] 66 hwk (by simp) [.slice A n c, .int .i64 (a : Int), .int .i64 (er : Int)] rfl (by kernel_rfl) (by rfl) ?_; intro w4 hq gr; replace sb := sb.away av_sb_wk gr; replace nm := nm.away av_nm_wk gr; replace nmw := owk_away nmw y_nm_wk.out gr; replace lz_nm := Nat.le_trans lz_nm gr.size; replace fz := fz_self fz gr; replace hsz := Nat.le_trans hsz gr.size; replace bel := below_grown bel gr owk (Nat.le_trans hlo bel.size); clear hwk; have hwk := hq; clear hq gr) | ((with_reducible show wpList _ _ _ (⟨none, Op.store _ (.tmp 31) _, _, _, _, _⟩ :: _) _ _); refine wpList_store_part rfl 3 (.tmp 31) (.tmp 29) rfl gx 1 rfl [.int .i64 (nx : Int)] rfl [.slice A n c, .int .i64 (a : Int), .int .i64 (er : Int)] 66 hwk (by simp) [.slice A n c, .int .i64 (nx : Int), .int .i64 (er : Int)] rfl (by kernel_rfl) (by rfl) ?_; intro w5 hq gr; replace sb := sb.away av_sb_wk gr; replace nm := nm.away av_nm_wk gr; replace nmw := owk_away nmw y_nm_wk.out gr; replace lz_nm := Nat.le_trans lz_nm gr.size; replace fz := fz_self fz gr; replace hsz := Nat.le_trans hsz gr.size; replace bel := below_grown bel gr owk (Nat.le_trans hlo bel.size); clear hwk; have hwk := hq; clear hq gr))
  go_ret
  exact ⟨_, _, _, rfl, owk_lo nmw hz_nm, hwk, fz⟩
set_option linter.unusedVariables false in
set_option linter.unusedSimpArgs false in
set_option maxRecDepth 100000 in
set_option maxHeartbeats 16000000 in
theorem rname_err {gx n c : Nat} {A : Option Addr} {b : List UInt8} {a y : Nat} (w : World) (hwk : w.heap[gx]? = some (.cells #[.slice A n c, .int .i64 (a : Int), .int .i64 (y : Int)] 66 (0, 0))) (sb : Sl w A n c b) (av_sb_wk : Av A n gx) (hn : n ≤ 100000) (ha : a ≤ n) (hy : y ≠ 0) : Calls Try.prog 28 #[.pointer (some ⟨gx, 0, none⟩)] w fun e w' => ∃ L m cl, e = .returned (.slice L m cl) ∧ w'.ownsRow w.heap.size 9 1 (.slice L m cl) m (([] : List (List UInt8)).flatMap stf) ∧ w'.heap[gx]? = some (.cells #[.slice A n c, .int .i64 (a : Int), .int .i64 (y : Int)] 66 (0, 0)) ∧ w.grownBy w' (some gx) := by
  have hlo := Nat.zero_le w.heap.size
  have owk := Nat.zero_le gx
  have HBL := Lib.hid sb.1
  have HAN := Lib.hid ha
  have a0 : (0 : Int) ≤ a := by omega
  have a1 : (a : Int) ≤ 100000 := by omega
  have n0 : (0 : Int) ≤ n := by omega
  have n1 : (n : Int) ≤ 100000 := by omega
  have hsz := Nat.le_refl w.heap.size
  have fz := fz_refl w (some gx)
  have ya : ((y : Int) == 0) = false := by rw [beq_eq_false_iff_ne]; omega
  have yb : (y == 0) = false := by rw [beq_eq_false_iff_ne]; omega
  have yc : ((y : Int) != 0) = true := by rw [bne_iff_ne]; omega
  have yd : (y != 0) = true := by rw [bne_iff_ne]; omega
  have bel := Below.refl 0 w
  go_enter Try.func28, Try.ntmps28
  have R9 := cell_lit hwk 2 _ rfl
  go_wp2_with fail
  clear R9
  go_ret
  exact ⟨none, 0, 0, rfl, owk_nil _ _ _, hwk, fz⟩
theorem rname_any {gx n c : Nat} {A : Option Addr} {b : List UInt8} {a y : Nat} (w : World) (hwk : w.heap[gx]? = some (.cells #[.slice A n c, .int .i64 (a : Int), .int .i64 (y : Int)] 66 (0, 0))) (sb : Sl w A n c b) (av_sb_wk : Av A n gx) (hn : n ≤ 100000) (ha : a ≤ n) {l : List (List UInt8)} {a2 y2 : Nat} (hs : nameS b (a, y) = (l, a2, y2)) : Calls Try.prog 28 #[.pointer (some ⟨gx, 0, none⟩)] w fun e w' => ∃ L m cl, e = .returned (.slice L m cl) ∧ w'.ownsRow w.heap.size 9 1 (.slice L m cl) m (l.flatMap stf) ∧ w'.heap[gx]? = some (.cells #[.slice A n c, .int .i64 (a2 : Int), .int .i64 (y2 : Int)] 66 (0, 0)) ∧ w.grownBy w' (some gx) := by
  by_cases hy : y = 0
  · subst hy
    rw [nameS_ok] at hs
    exact rname_ok w hwk sb av_sb_wk hn ha hs
  · rw [nameS_err (s := (a, y)) hy] at hs
    injection hs with h1 h2
    injection h2 with h2 h3
    subst h1; subst h2; subst h3
    exact rname_err w hwk sb av_sb_wk hn ha hy
set_option linter.unusedVariables false in
set_option linter.unusedSimpArgs false in
set_option maxRecDepth 100000 in
set_option maxHeartbeats 16000000 in
theorem rnames_yes {t : Int} (n : Nat) (w : World) (ht : t = 2 ∨ t = 5 ∨ t = 12 ∨ t = 15 ∨ t = 6) : Calls Try.prog 67 #[.int .i64 t] w fun e w' => e = .returned (.tuple #[.int .i64 ((lay t n).1 : Int), .int .i64 ((lay t n).2.1 : Int), .int .i64 ((lay t n).2.2 : Int)]) ∧ w = w' := by
  have bel := Below.refl w.heap.size w
  go_enter Try.func67, Try.ntmps67
  rcases ht with h2 | h5 | h12 | h15 | h6
  · have HH2 := Lib.hid h2
    have e2_ : (t == 2) = true := by simpa using h2
    clear h2
    have HL : Hid (lay t n = (0, 1, 0)) := Lib.hid (by unfold lay; simp [HH2.out])
    go_wp2_with fail
    exact bodyPost_ret (v := .tuple #[.int .i64 0, .int .i64 1, .int .i64 0]) (by simp [results, Try.results67, go_sem]) rfl ⟨by rw [HL.out]; rfl, rfl⟩
  · have HH5 := Lib.hid h5
    have e5_ : (t == 5) = true := by simpa using h5
    clear h5
    have HL : Hid (lay t n = (0, 1, 0)) := Lib.hid (by unfold lay; simp [HH5.out])
    have e2_ : (t == 2) = false := by rw [HH5.out]; rfl
    go_wp2_with fail
    exact bodyPost_ret (v := .tuple #[.int .i64 0, .int .i64 1, .int .i64 0]) (by simp [results, Try.results67, go_sem]) rfl ⟨by rw [HL.out]; rfl, rfl⟩
  · have HH12 := Lib.hid h12
    have e12_ : (t == 12) = true := by simpa using h12
    clear h12
    have HL : Hid (lay t n = (0, 1, 0)) := Lib.hid (by unfold lay; simp [HH12.out])
    have e2_ : (t == 2) = false := by rw [HH12.out]; rfl
    have e5_ : (t == 5) = false := by rw [HH12.out]; rfl
    go_wp2_with fail
    exact bodyPost_ret (v := .tuple #[.int .i64 0, .int .i64 1, .int .i64 0]) (by simp [results, Try.results67, go_sem]) rfl ⟨by rw [HL.out]; rfl, rfl⟩
  · have HH15 := Lib.hid h15
    have e15_ : (t == 15) = true := by simpa using h15
    clear h15
    have HL : Hid (lay t n = (2, 1, 0)) := Lib.hid (by unfold lay; simp [HH15.out])
    have e2_ : (t == 2) = false := by rw [HH15.out]; rfl
    have e5_ : (t == 5) = false := by rw [HH15.out]; rfl
    have e12_ : (t == 12) = false := by rw [HH15.out]; rfl
    go_wp2_with fail
    exact bodyPost_ret (v := .tuple #[.int .i64 2, .int .i64 1, .int .i64 0]) (by simp [results, Try.results67, go_sem]) rfl ⟨by rw [HL.out]; rfl, rfl⟩
  have HH6 := Lib.hid h6
  have e6_ : (t == 6) = true := by simpa using h6
  clear h6
  have HL : Hid (lay t n = (0, 2, 20)) := Lib.hid (by unfold lay; simp [HH6.out])
  have e2_ : (t == 2) = false := by rw [HH6.out]; rfl
  have e5_ : (t == 5) = false := by rw [HH6.out]; rfl
  have e12_ : (t == 12) = false := by rw [HH6.out]; rfl
  have e15_ : (t == 15) = false := by rw [HH6.out]; rfl
  go_wp2_with fail
  exact bodyPost_ret (v := .tuple #[.int .i64 0, .int .i64 2, .int .i64 20]) (by simp [results, Try.results67, go_sem]) rfl ⟨by rw [HL.out]; rfl, rfl⟩
set_option linter.unusedVariables false in
set_option linter.unusedSimpArgs false in
set_option maxRecDepth 100000 in
set_option maxHeartbeats 16000000 in
theorem rnames_no {t : Int} (w : World) (ht : ¬ (t = 2 ∨ t = 5 ∨ t = 12 ∨ t = 15 ∨ t = 6)) : Calls Try.prog 67 #[.int .i64 t] w fun e w' => e = .returned (.tuple #[.int .i64 0, .int .i64 (-1), .int .i64 0]) ∧ w = w' := by
  have h2 : ¬ t = 2 := fun h_ => ht (by simp [h_])
  have e2_ : (t == 2) = false := by simpa using h2
  clear h2
  have h5 : ¬ t = 5 := fun h_ => ht (by simp [h_])
  have e5_ : (t == 5) = false := by simpa using h5
  clear h5
  have h12 : ¬ t = 12 := fun h_ => ht (by simp [h_])
  have e12_ : (t == 12) = false := by simpa using h12
  clear h12
  have h15 : ¬ t = 15 := fun h_ => ht (by simp [h_])
  have e15_ : (t == 15) = false := by simpa using h15
  clear h15
  have h6 : ¬ t = 6 := fun h_ => ht (by simp [h_])
  have e6_ : (t == 6) = false := by simpa using h6
  clear h6
  clear ht
  have bel := Below.refl w.heap.size w
  go_enter Try.func67, Try.ntmps67
  go_wp2_with fail
  exact bodyPost_ret (v := .tuple #[.int .i64 0, .int .i64 (-1), .int .i64 0]) (by simp [results, Try.results67, go_sem]) rfl ⟨rfl, rfl⟩
end Go.Proofs.Ytjedknjlpeccbaa
