/- Layer 9: icmp's isByte, isEcho, Query, Fault, write, Put. -/
import Derived.Test.YtfmllopeeiecjaaIcl
import Derived.Test.YtfmllopeeiecjaaUd1
import Derived.Test.YtfmllopeeiecjaaRd3
import Derived.Deep.RegionHeld3
namespace Go.Proofs.Ytfmllopeeiecjaa
open Go.RowKit

theorem Sls.duo {w : World} {A B : Option Addr} {n c m d g : Nat} {l t : List UInt8} {T : TypeId} (h : Sl w A n c l) (h2 : Sl w B m d t) (hg : w.heap[g]? = some (.cells #[.slice A n c, .slice B m d] T (0, 0))) : Sls w (some ⟨g, 0, none⟩) 2 [l, t] := by
  refine ⟨rfl, fun _ => ⟨_, _, rfl, fun j x hj => ?_⟩⟩
  match j, hj with
  | 0, hj =>
    obtain rfl : l = x := by simpa using hj
    exact ⟨A, n, c, by simp only [World.cell?, hg]; simp, h⟩
  | 1, hj =>
    obtain rfl : t = x := by simpa using hj
    exact ⟨B, m, d, by simp only [World.cell?, hg]; simp, h2⟩
  | j + 2, hj => simp at hj
set_option maxRecDepth 100000 in
set_option maxHeartbeats 16000000 in
theorem isbyte_any (v : Int) (w : World) : Calls Try.prog 28 #[.int .i64 v] w fun e w' => e = .returned (.bool (byteOk v)) ∧ w = w' := by
  unfold byteOk
  by_cases h0 : 0 ≤ v
  · rw [decide_eq_true h0, Bool.true_and]
    by_cases h1 : v ≤ 255
    · rw [decide_eq_true h1]
      go_enter Try.func28, Try.ntmps28
      go_wp2
      go_ret
      exact ⟨rfl, rfl⟩
    · have h2 : decide (v ≤ 255) = false := decide_eq_false h1
      rw [h2]
      clear h1
      go_enter Try.func28, Try.ntmps28
      go_wp2
      go_ret
      exact ⟨rfl, rfl⟩
  · have h2 : decide (0 ≤ v) = false := decide_eq_false h0
    rw [h2, Bool.false_and]
    clear h0
    go_enter Try.func28, Try.ntmps28
    go_wp2
    go_ret
    exact ⟨rfl, rfl⟩
set_option maxRecDepth 100000 in
set_option maxHeartbeats 16000000 in
theorem isecho_any (v : Int) (w : World) : Calls Try.prog 42 #[.int .i64 v] w fun e w' => e = .returned (.bool (echoT v)) ∧ w = w' := by
  unfold echoT
  by_cases h0 : v = 8
  · have e0 : (v == 8) = true := by simpa using h0
    rw [decide_eq_true h0, Bool.true_or]
    clear h0
    go_enter Try.func42, Try.ntmps42
    go_wp2
    go_ret
    exact ⟨rfl, rfl⟩
  · have e0 : (v == 8) = false := by simpa using h0
    rw [decide_eq_false h0, Bool.false_or]
    clear h0
    by_cases h1 : v = 0
    · have e1 : (v == 0) = true := by simpa using h1
      rw [decide_eq_true h1]
      clear h1
      go_enter Try.func42, Try.ntmps42
      go_wp2
      go_ret
      exact ⟨rfl, rfl⟩
    · have e1 : (v == 0) = false := by simpa using h1
      rw [decide_eq_false h1]
      clear h1
      go_enter Try.func42, Try.ntmps42
      go_wp2
      go_ret
      exact ⟨rfl, rfl⟩
set_option maxRecDepth 100000 in
set_option maxHeartbeats 16000000 in
theorem icfault_0 (ty cd re : Int) (D : Option Addr) (nd qd : Nat) (h0 : (ty == 3) = true) (w : World) : Calls Try.prog 21 #[.agg #[.int .i64 ty, .int .i64 cd, .int .u32 re, .slice D nd qd]] w fun e w' => e = .returned (.bool true) ∧ Below w.heap.size w w' := by
  have bel := Below.refl w.heap.size w
  go_enter Try.func21, Try.ntmps21
  go_wp2_with (first | ((with_reducible show wpList _ _ _ (⟨some 1, _, _, _, _, _⟩ :: _) _ _); refine wpList_box_n rfl 34 (.tmp 0) rfl #[.int .i64 ty, .int .i64 cd, .int .u32 re, .slice D nd qd] rfl ?_; intro g1 w1 ge lt hh bb; have om := Nat.le_trans bel.size ge; replace bel := bel.trans (bb.mono bel.size); have hm := hh; clear hh lt ge bb; have R4 := cell_lit hm 0 _ rfl))
  try clear R4
  go_ret
  exact ⟨rfl, bel⟩
set_option maxRecDepth 100000 in
set_option maxHeartbeats 16000000 in
theorem icfault_1 (ty cd re : Int) (D : Option Addr) (nd qd : Nat) (h0 : (ty == 3) = false) (h1 : (ty == 11) = true) (w : World) : Calls Try.prog 21 #[.agg #[.int .i64 ty, .int .i64 cd, .int .u32 re, .slice D nd qd]] w fun e w' => e = .returned (.bool true) ∧ Below w.heap.size w w' := by
  have bel := Below.refl w.heap.size w
  go_enter Try.func21, Try.ntmps21
  go_wp2_with (first | ((with_reducible show wpList _ _ _ (⟨some 1, _, _, _, _, _⟩ :: _) _ _); refine wpList_box_n rfl 34 (.tmp 0) rfl #[.int .i64 ty, .int .i64 cd, .int .u32 re, .slice D nd qd] rfl ?_; intro g1 w1 ge lt hh bb; have om := Nat.le_trans bel.size ge; replace bel := bel.trans (bb.mono bel.size); have hm := hh; clear hh lt ge bb; have R4 := cell_lit hm 0 _ rfl; have R8 := cell_lit hm 0 _ rfl))
  try clear R4
  try clear R8
  go_ret
  exact ⟨rfl, bel⟩
set_option maxRecDepth 100000 in
set_option maxHeartbeats 16000000 in
theorem icfault_2 (ty cd re : Int) (D : Option Addr) (nd qd : Nat) (h0 : (ty == 3) = false) (h1 : (ty == 11) = false) (h2 : (ty == 12) = true) (w : World) : Calls Try.prog 21 #[.agg #[.int .i64 ty, .int .i64 cd, .int .u32 re, .slice D nd qd]] w fun e w' => e = .returned (.bool true) ∧ Below w.heap.size w w' := by
  have bel := Below.refl w.heap.size w
  go_enter Try.func21, Try.ntmps21
  go_wp2_with (first | ((with_reducible show wpList _ _ _ (⟨some 1, _, _, _, _, _⟩ :: _) _ _); refine wpList_box_n rfl 34 (.tmp 0) rfl #[.int .i64 ty, .int .i64 cd, .int .u32 re, .slice D nd qd] rfl ?_; intro g1 w1 ge lt hh bb; have om := Nat.le_trans bel.size ge; replace bel := bel.trans (bb.mono bel.size); have hm := hh; clear hh lt ge bb; have R4 := cell_lit hm 0 _ rfl; have R8 := cell_lit hm 0 _ rfl; have R13 := cell_lit hm 0 _ rfl))
  try clear R4
  try clear R8
  try clear R13
  go_ret
  exact ⟨rfl, bel⟩
set_option maxRecDepth 100000 in
set_option maxHeartbeats 16000000 in
theorem icfault_3 (ty cd re : Int) (D : Option Addr) (nd qd : Nat) (h0 : (ty == 3) = false) (h1 : (ty == 11) = false) (h2 : (ty == 12) = false) (w : World) : Calls Try.prog 21 #[.agg #[.int .i64 ty, .int .i64 cd, .int .u32 re, .slice D nd qd]] w fun e w' => e = .returned (.bool false) ∧ Below w.heap.size w w' := by
  have bel := Below.refl w.heap.size w
  go_enter Try.func21, Try.ntmps21
  go_wp2_with (first | ((with_reducible show wpList _ _ _ (⟨some 1, _, _, _, _, _⟩ :: _) _ _); refine wpList_box_n rfl 34 (.tmp 0) rfl #[.int .i64 ty, .int .i64 cd, .int .u32 re, .slice D nd qd] rfl ?_; intro g1 w1 ge lt hh bb; have om := Nat.le_trans bel.size ge; replace bel := bel.trans (bb.mono bel.size); have hm := hh; clear hh lt ge bb; have R4 := cell_lit hm 0 _ rfl; have R8 := cell_lit hm 0 _ rfl; have R13 := cell_lit hm 0 _ rfl))
  try clear R4
  try clear R8
  try clear R13
  go_ret
  exact ⟨rfl, bel⟩
theorem icfault_any (ty cd re : Int) (D : Option Addr) (nd qd : Nat) (w : World) : Calls Try.prog 21 #[.agg #[.int .i64 ty, .int .i64 cd, .int .u32 re, .slice D nd qd]] w fun e w' => e = .returned (.bool (faultT ty)) ∧ Below w.heap.size w w' := by
  unfold faultT
  by_cases h0 : ty = 3
  · rw [decide_eq_true h0, Bool.true_or]
    exact icfault_0 ty cd re D nd qd (by simpa using h0) w
  by_cases h1 : ty = 11
  · rw [decide_eq_false h0, decide_eq_true h1, Bool.false_or, Bool.true_or]
    exact icfault_1 ty cd re D nd qd (by simpa using h0) (by simpa using h1) w
  by_cases h2 : ty = 12
  · rw [decide_eq_false h0, decide_eq_false h1, decide_eq_true h2, Bool.false_or, Bool.false_or]
    exact icfault_2 ty cd re D nd qd (by simpa using h0) (by simpa using h1) (by simpa using h2) w
  · rw [decide_eq_false h0, decide_eq_false h1, decide_eq_false h2, Bool.false_or, Bool.false_or]
    exact icfault_3 ty cd re D nd qd (by simpa using h0) (by simpa using h1) (by simpa using h2) w
set_option maxRecDepth 100000 in
set_option maxHeartbeats 16000000 in
theorem icquery_0 (ty cd re : Int) (D : Option Addr) (nd qd : Nat) (h0 : echoT ty = false) (w : World) : Calls Try.prog 16 #[.agg #[.int .i64 ty, .int .i64 cd, .int .u32 re, .slice D nd qd]] w fun e w' => e = .returned (.tuple #[.int .i64 0, .bool false]) ∧ Below w.heap.size w w' := by
  have HE := Lib.hid h0
  clear h0
  have bel := Below.refl w.heap.size w
  go_enter Try.func16, Try.ntmps16
  go_wp2_with (first | ((with_reducible show wpList _ _ _ (⟨some 1, _, _, _, _, _⟩ :: _) _ _); refine wpList_box_n rfl 34 (.tmp 0) rfl #[.int .i64 ty, .int .i64 cd, .int .u32 re, .slice D nd qd] rfl ?_; intro g1 w1 ge lt hh bb; have om := Nat.le_trans bel.size ge; replace bel := bel.trans (bb.mono bel.size); have hm := hh; clear hh lt ge bb; have R5 := cell_lit hm 0 _ rfl))
  try clear R5
  with_reducible refine (isecho_any _ _).mono ?_
  rintro e _ ⟨rfl, rfl⟩
  rw [HE.out]
  go_wp2_with fail
  exact bodyPost_ret (v := .tuple #[.int .i64 0, .bool false]) (by simp [results, Try.results16, go_sem]) rfl ⟨rfl, bel⟩
set_option maxRecDepth 100000 in
set_option maxHeartbeats 16000000 in
theorem icquery_1 (ty cd re : Int) (D : Option Addr) (nd qd : Nat) (h0 : echoT ty = true) (h1 : cd ≠ 0) (w : World) : Calls Try.prog 16 #[.agg #[.int .i64 ty, .int .i64 cd, .int .u32 re, .slice D nd qd]] w fun e w' => e = .returned (.tuple #[.int .i64 0, .bool false]) ∧ Below w.heap.size w w' := by
  have HE := Lib.hid h0
  have t0 : (cd == 0) = false := by simpa using h1
  have t1 : (cd != 0) = true := by simpa using h1
  clear h0 h1
  have bel := Below.refl w.heap.size w
  go_enter Try.func16, Try.ntmps16
  go_wp2_with (first | ((with_reducible show wpList _ _ _ (⟨some 1, _, _, _, _, _⟩ :: _) _ _); refine wpList_box_n rfl 34 (.tmp 0) rfl #[.int .i64 ty, .int .i64 cd, .int .u32 re, .slice D nd qd] rfl ?_; intro g1 w1 ge lt hh bb; have om := Nat.le_trans bel.size ge; replace bel := bel.trans (bb.mono bel.size); have hm := hh; clear hh lt ge bb; have R5 := cell_lit hm 0 _ rfl))
  try clear R5
  with_reducible refine (isecho_any _ _).mono ?_
  rintro e _ ⟨rfl, rfl⟩
  rw [HE.out]
  have R10 := cell_lit hm 1 _ rfl
  go_wp2_with fail
  clear R10
  exact bodyPost_ret (v := .tuple #[.int .i64 0, .bool false]) (by simp [results, Try.results16, go_sem]) rfl ⟨rfl, bel⟩
set_option maxRecDepth 100000 in
set_option maxHeartbeats 16000000 in
theorem icquery_2 (ty cd re : Int) (D : Option Addr) (nd qd : Nat) (h0 : echoT ty = true) (h1 : cd = 0) (e0 : 0 ≤ re) (e1 : re < 4294967296) (w : World) : Calls Try.prog 16 #[.agg #[.int .i64 ty, .int .i64 cd, .int .u32 re, .slice D nd qd]] w fun e w' => e = .returned (.tuple #[.int .i64 (re / 65536), .bool true]) ∧ Below w.heap.size w w' := by
  have HE := Lib.hid h0
  have t0 : (cd == 0) = true := by simpa using h1
  have t1 : (cd != 0) = false := by simpa using h1
  clear h0 h1
  have bel := Below.refl w.heap.size w
  go_enter Try.func16, Try.ntmps16
  go_wp2_with (first | ((with_reducible show wpList _ _ _ (⟨some 1, _, _, _, _, _⟩ :: _) _ _); refine wpList_box_n rfl 34 (.tmp 0) rfl #[.int .i64 ty, .int .i64 cd, .int .u32 re, .slice D nd qd] rfl ?_; intro g1 w1 ge lt hh bb; have om := Nat.le_trans bel.size ge; replace bel := bel.trans (bb.mono bel.size); have hm := hh; clear hh lt ge bb; have R5 := cell_lit hm 0 _ rfl))
  try clear R5
  with_reducible refine (isecho_any _ _).mono ?_
  rintro e _ ⟨rfl, rfl⟩
  rw [HE.out]
  have R10 := cell_lit hm 1 _ rfl
  have R14 := cell_lit hm 2 _ rfl
  go_wp2_with fail
  clear R10 R14
  exact bodyPost_ret (v := .tuple #[.int .i64 (re / 65536), .bool true]) (by simp [results, Try.results16, go_sem]) rfl ⟨rfl, bel⟩
theorem icquery_any (ty cd re : Int) (D : Option Addr) (nd qd : Nat) (e0 : 0 ≤ re) (e1 : re < 4294967296) (w : World) : Calls Try.prog 16 #[.agg #[.int .i64 ty, .int .i64 cd, .int .u32 re, .slice D nd qd]] w fun e w' => e = .returned (.tuple #[.int .i64 (if (echoT ty && decide (cd = 0)) = true then re / 65536 else 0), .bool (echoT ty && decide (cd = 0))]) ∧ Below w.heap.size w w' := by
  rcases (by decide : ∀ b : Bool, b = true ∨ b = false) (echoT ty) with h0 | h0
  · by_cases h1 : cd = 0
    · rw [h0, decide_eq_true h1]
      exact icquery_2 ty cd re D nd qd h0 h1 e0 e1 w
    · rw [h0, decide_eq_false h1]
      exact icquery_1 ty cd re D nd qd h0 h1 w
  · rw [h0]
    exact icquery_0 ty cd re D nd qd h0 w
set_option maxRecDepth 100000 in
set_option maxHeartbeats 16000000 in
theorem icwrite_0 (ty cd re : Int) (D : Option Addr) (nd qd : Nat) (ld : List UInt8) (sm : Int) (w : World) (hb : Sl w D nd qd ld) (hm : nd ≤ 1472) (e0 : 0 ≤ re) (e1 : re < 4294967296) (hsm : ck [[byteOf ty, byteOf cd], [] ++ four re ++ ld].flatten = sm) : Calls Try.prog 29 #[.agg #[.int .i64 ty, .int .i64 cd, .int .u32 re, .slice D nd qd]] w fun e w' => ∃ v, e = .returned v ∧ w'.ownsRow w.heap.size 5 1 v (8 + nd) (([byteOf ty, byteOf cd] ++ two sm ++ ([] ++ four re ++ ld)).map u8v) ∧ Below w.heap.size w w' := by
  have HS : Hid (ck [[byteOf ty, byteOf cd], [] ++ four re ++ ld].flatten = sm) := Lib.hid hsm
  have E0 := Lib.hid e0
  have E1 := Lib.hid e1
  have n0 : (0 : Int) ≤ nd := by omega
  have n1 : (nd : Int) ≤ 1472 := by omega
  clear hsm e0 e1
  obtain ⟨ii, hii, hz0, hz1, hz2⟩ := info_parts Try.info5
  have bel := Below.refl w.heap.size w
  go_enter Try.func29, Try.ntmps29
  go_wp2_with (first | ((with_reducible show wpList _ _ _ (⟨some 1, _, _, _, _, _⟩ :: _) _ _); refine wpList_box_n rfl 34 (.tmp 0) rfl #[.int .i64 ty, .int .i64 cd, .int .u32 re, .slice D nd qd] rfl ?_; intro g1 w1 ge lt hh bb; have av_hb_m := hb.av_new ge; have om := Nat.le_trans bel.size ge; replace hb := hb.below bb; replace bel := bel.trans (bb.mono bel.size); have hm := hh; clear hh lt ge bb; have R7 := cell_lit hm 0 _ rfl; have R10 := cell_lit hm 1 _ rfl) | ((with_reducible show wpList _ _ _ (⟨some 12, _, _, _, _, _⟩ :: _) _ _); refine wpList_lit_n rfl 25 5 2 _ rfl #[.int .u8 (ty % 256), .int .u8 (cd % 256)] (.int .u8 0) Try.underlying25 (by kernel_rfl) 1 (by kernel_rfl) (by decide) (by kernel_rfl) ?_; intro g12 w2 ge lt hh bb; have hl : w2.heap[g12]? = some (.cells (([byteOf ty, byteOf cd] : List UInt8).map u8v).toArray 5 (0, 0)) := (by simpa [u8v, byteOf_val] using hh); have hdw := own_lit (B := w1.heap.size) ([byteOf ty, byteOf cd]) hl ge 2 rfl (by simp [maxLen]); have hd := (own_sl hdw).1; have hdlo := bel.size; clear hl; have hdge := ge; have lz_hd := bb.size; have y_hd_m := Lib.hid (hlt hm); have bl_hb_hd := hb.bl_new; have d_m_b12 := ne_new (hlt hm) ge; have av_hb_b12 := hb.av_new ge; have ob12 := Nat.le_trans bel.size ge; replace hm := blk_u hm bb; replace hb := hb.below bb; replace bel := bel.trans (bb.mono bel.size); have hb12 := hh; clear hh lt ge bb; have av_hd_m := (own_sl hdw).2.av y_hd_m.out))
  try clear R7
  try clear R10
  replace bel := bel.drew
  replace hm : w2.drew.heap[g1]? = _ := hm
  replace hb12 : w2.drew.heap[g12]? = _ := hb12
  replace hb := hb.drew
  replace hd := hd.drew
  replace hdw : w2.drew.ownsRow _ _ _ _ _ _ := hdw
  replace lz_hd : _ ≤ w2.drew.heap.size := lz_hd
  refine wp_region_held_drew (S := fun W => W.heap[g1]? = some (.cells #[.int .i64 ty, .int .i64 cd, .int .u32 re, .slice D nd qd] 34 (0, 0))) (by kernel_rfl) hm (fun hH => ?_)
  generalize w2.drew = w3 at bel hm hb12 hb hd hdw lz_hd hH ⊢
  refine wpAnyH_take (i := 0) (v := ?_) rfl (by kernel_rfl) (by kernel_rfl) (by kernel_rfl) (fun _ _ _ h => h) (Or.inl ⟨by rfl, ?_⟩) hH ?_
  rotate_left
  · ((intro W hW; clear hW; go_simp) <;> with_reducible rfl)
  simp only [Act.put, List.getElem_toArray, List.getElem_cons_zero, List.setIfInBounds_toArray, List.set_cons_zero, List.set_cons_succ]
  refine wpAnyH_take (i := 1) (v := ?_) rfl (by kernel_rfl) (by kernel_rfl) (by kernel_rfl) (fun _ _ _ h => h) (Or.inl ⟨by rfl, ?_⟩) hH ?_
  rotate_left
  · ((intro W hW; have hk := cell_lit (hW) 2 _ rfl; clear hW; go_simp) <;> with_reducible rfl)
  simp only [Act.put, List.getElem_toArray, List.getElem_cons_zero, List.getElem_cons_succ, List.setIfInBounds_toArray, List.set_cons_zero, List.set_cons_succ]
  refine wpAnyH_take (i := 3) (v := ?_) rfl (by kernel_rfl) (by kernel_rfl) (by kernel_rfl) (fun _ _ _ h => h) (Or.inl ⟨by rfl, ?_⟩) hH ?_
  rotate_left
  · ((intro W hW; clear hW; go_simp) <;> with_reducible rfl)
  simp only [Act.put, List.getElem_toArray, List.getElem_cons_zero, List.getElem_cons_succ, List.setIfInBounds_toArray, List.set_cons_zero, List.set_cons_succ]
  refine wpAnyH_take (i := 4) (v := ?_) rfl (by kernel_rfl) (by kernel_rfl) (by kernel_rfl) (fun _ _ _ h => h) (Or.inl ⟨by rfl, ?_⟩) hH ?_
  rotate_left
  · ((intro W hW; have hk := cell_lit (hW) 3 _ rfl; clear hW; go_simp) <;> with_reducible rfl)
  simp only [Act.put, List.getElem_toArray, List.getElem_cons_zero, List.getElem_cons_succ, List.setIfInBounds_toArray, List.set_cons_zero, List.set_cons_succ]
  refine wpAnyH_ready (rs := [2]) (by kernel_rfl) (by simp) ?_
  refine AllReadyH.cons (o := _) rfl (fun K hK => ?_) AllReadyH.nil
  simp only [List.getElem_toArray, List.getElem_cons_zero, List.getElem_cons_succ]
  go_simp
  with_reducible refine (w32_oto _ 0 4 _ _ _ _ E0.out E1.out rfl (Sl.nil _) (by omega)).mono ?_
  rintro e w4 ⟨v, rfl, k1w, b4⟩
  dsimp only
  have y_k1_m := Lib.hid (hlt hm)
  have y_k1_b12 := Lib.hid (hlt hb12)
  have bl_hb_k1 := hb.bl_new
  have bl_hd_k1 := hd.bl_new
  have k1lo := bel.size
  have lz_k1 := b4.size
  replace hm := blk_u hm b4
  replace hb12 := blk_u hb12 b4
  replace hb := hb.below b4
  replace hd := hd.below b4
  replace hdw := own_under hdw b4
  replace lz_hd := Nat.le_trans lz_hd b4.size
  replace bel := bel.trans (b4.mono bel.size)
  clear b4
  obtain ⟨Ak1, ck1, rfl⟩ := own_val k1w
  have k1 := (own_sl k1w).1
  have fr_k1 := (own_sl k1w).2
  have av_k1_m := fr_k1.av y_k1_m.out
  have av_k1_b12 := fr_k1.av y_k1_b12.out
  refine hK.out _ _ hm (fun hH5 => ?_)
  clear hK K
  refine wpAnyH_ready (rs := [5]) (by kernel_rfl) (by simp) ?_
  refine AllReadyH.cons (o := _) rfl (fun K hK => ?_) AllReadyH.nil
  simp only [List.getElem_toArray, List.getElem_cons_zero, List.getElem_cons_succ]
  rw [if_pos (by rfl)]
  refine wp_append_bb (.tmp 15) (.tmp 17) 25 rfl (w3.heap.size) 5 ii (.int .u8 0) Try.underlying25 hii hz0 hz1 hz2 rfl _ (4) ([] ++ four re) rfl k1w (D) (nd) (qd) (ld) rfl hb (by omega) lz_k1 ?_
  intro v18 w6 own_ bb
  replace hb := hb.under bl_hb_k1 bb
  replace hd := hd.under bl_hd_k1 bb
  clear hdw lz_hd
  replace hm := blk_under hm bb y_k1_m.out
  replace hb12 := blk_under hb12 bb y_k1_b12.out
  replace bel := bel.trans (bb.mono k1lo)
  have lz_k2 := Nat.le_trans lz_k1 bb.size
  clear bb
  clear k1 k1w lz_k1
  replace own_ : w6.ownsRow (w3.heap.size) 5 1 v18 (4 + nd) (([] ++ four re ++ ld : List UInt8).map u8v) := own_
  obtain ⟨A18, c18, rfl⟩ := own_val own_
  have k2w := own_
  have k2 := (own_sl own_).1
  have fr_k2 := (own_sl own_).2
  clear own_
  have av_k2_m := fr_k2.av y_k1_m.out
  have av_k2_b12 := fr_k2.av y_k1_b12.out
  refine hK.out _ _ hm (fun hH7 => ?_)
  clear hK K
  simp only [Act.put, List.setIfInBounds_toArray, List.set_cons_zero, List.set_cons_succ]
  refine wpAnyH_take (i := 6) (v := ?_) rfl (by kernel_rfl) (by kernel_rfl) (by kernel_rfl) (fun _ _ _ h => h) (Or.inl ⟨by rfl, ?_⟩) hH7 ?_
  rotate_left
  · ((intro W hW; clear hW; go_simp) <;> with_reducible rfl)
  simp only [Act.put, List.getElem_toArray, List.getElem_cons_zero, List.getElem_cons_succ, List.setIfInBounds_toArray, List.set_cons_zero, List.set_cons_succ]
  refine wpAnyH_done (by kernel_rfl) ?_ _
  go_wp2_with (first | ((with_reducible show wpList _ _ _ (⟨some 21, _, _, _, _, _⟩ :: _) _ _); refine wpList_lit_n rfl 93 25 2 _ rfl #[.slice (some ⟨g12, 0, none⟩) 2 2, .slice A18 (4 + nd) c18] (.slice none 0 0) Try.underlying93 (by kernel_rfl) 1 (by kernel_rfl) (by decide) (by kernel_rfl) ?_; intro g21 w8 ge lt hh bb; have d_m_b21 := ne_new (hlt hm) ge; have d_b12_b21 := ne_new (hlt hb12) ge; have av_hb_b21 := hb.av_new ge; have av_hd_b21 := hd.av_new ge; have av_k2_b21 := k2.av_new ge; have of_k2_b21 := own_new k2w ge; have ob21 := Nat.le_trans bel.size ge; replace hm := blk_u hm bb; replace hb12 := blk_u hb12 bb; replace hb := hb.below bb; replace hd := hd.below bb; replace k2 := k2.below bb; replace k2w := own_under k2w bb; replace lz_k2 := Nat.le_trans lz_k2 bb.size; replace bel := bel.trans (bb.mono bel.size); have hb21 := hh; clear hh lt ge bb; have hs2 : Sls w8 (some ⟨g21, 0, none⟩) 2 [[byteOf ty, byteOf cd], [] ++ four re ++ ld] := Sls.duo hd k2 hb21))
  with_reducible refine (many_any _ 2 2 _ _ (by unfold maxLen; omega) hs2).mono ?_
  rintro e _ ⟨rfl, rfl⟩
  rw [HS.out]
  clear hs2
  go_wp2_with fail
  with_reducible refine (w16_oto _ 2 4 _ _ _ _ rfl hd (by omega)).mono ?_
  rintro e w9 ⟨v, rfl, h7w, b9⟩
  have y_h7_m := Lib.hid (hlt hm)
  have y_h7_b12 := Lib.hid (hlt hb12)
  have y_h7_b21 := Lib.hid (hlt hb21)
  have bl_hb_h7 := hb.bl_new
  have bl_hd_h7 := hd.bl_new
  have bl_k2_h7 := k2.bl_new
  have h7lo := bel.size
  have lz_h7 := b9.size
  replace hm := blk_u hm b9
  replace hb12 := blk_u hb12 b9
  replace hb21 := blk_u hb21 b9
  replace hb := hb.below b9
  replace hd := hd.below b9
  replace k2 := k2.below b9
  replace k2w := own_under k2w b9
  replace lz_k2 := Nat.le_trans lz_k2 b9.size
  replace bel := bel.trans (b9.mono bel.size)
  clear b9
  obtain ⟨Ah7, ch7, rfl⟩ := own_val h7w
  have h7 := (own_sl h7w).1
  have fr_h7 := (own_sl h7w).2
  have av_h7_m := fr_h7.av y_h7_m.out
  have av_h7_b12 := fr_h7.av y_h7_b12.out
  have av_h7_b21 := fr_h7.av y_h7_b21.out
  go_wp2_with (first | ((with_reducible show wpList _ _ _ (⟨some 27, _, _, _, _, _⟩ :: _) _ _); refine wpList_append_bb _ rfl (.tmp 25) (.tmp 26) 25 rfl (w8.heap.size) 5 ii (.int .u8 0) Try.underlying25 hii hz0 hz1 hz2 rfl _ (4) ([byteOf ty, byteOf cd] ++ two sm) rfl h7w (A18) (4 + nd) (c18) ([] ++ four re ++ ld) rfl k2 (by omega) lz_h7 ?_; intro v27 w10 own_ bb; replace hb := hb.under bl_hb_h7 bb; replace hd := hd.under bl_hd_h7 bb; replace k2 := k2.under bl_k2_h7 bb; clear k2w lz_k2; replace hm := blk_under hm bb y_h7_m.out; replace hb12 := blk_under hb12 bb y_h7_b12.out; replace hb21 := blk_under hb21 bb y_h7_b21.out; replace bel := bel.trans (bb.mono h7lo); have lz_out := Nat.le_trans lz_h7 bb.size; clear bb; clear h7 h7w lz_h7; replace own_ : w10.ownsRow (w8.heap.size) 5 1 v27 (8 + nd) (([byteOf ty, byteOf cd] ++ two sm ++ ([] ++ four re ++ ld) : List UInt8).map u8v) := (by rw [show 4 + (4 + nd) = 8 + nd by omega] at own_; exact own_); obtain ⟨A27, c27, rfl⟩ := own_val own_; have outw := own_; have out := (own_sl own_).1; have fr_out := (own_sl own_).2; clear own_; have av_out_m := fr_out.av y_h7_m.out; have av_out_b12 := fr_out.av y_h7_b12.out; have av_out_b21 := fr_out.av y_h7_b21.out))
  go_ret
  exact ⟨_, rfl, ownsRow_mono outw (Nat.le_trans h7lo (Nat.le_refl _)), bel⟩
theorem icwrite_any (ty cd re : Int) (D : Option Addr) (nd qd : Nat) (ld : List UInt8) (w : World) (hb : Sl w D nd qd ld) (hm : nd ≤ 1472) (e0 : 0 ≤ re) (e1 : re < 4294967296) : Calls Try.prog 29 #[.agg #[.int .i64 ty, .int .i64 cd, .int .u32 re, .slice D nd qd]] w fun e w' => ∃ v, e = .returned v ∧ w'.ownsRow w.heap.size 5 1 v (8 + nd) ((icBytes ty cd re ld).map u8v) ∧ Below w.heap.size w w' :=
  icwrite_0 ty cd re D nd qd ld _ w hb hm e0 e1 rfl
set_option linter.unusedVariables false in
set_option maxRecDepth 100000 in
set_option maxHeartbeats 16000000 in
theorem icput_bad1 (tos id fl pt ttl pr : Int) (a0 a1 a2 a3 a4 a5 a6 a7 : UInt8) (So Sb : Option Addr) (no co nb cb : Nat) (ty cd re : Int) (D : Option Addr) (nd qd : Nat) (lo ld : List UInt8) (w : World) (ho : Sl w So no co lo) (hb : Sl w D nd qd ld) (h1 : byteOk ty = false) : Calls Try.prog 11 #[.agg #[.int .i64 tos, .int .i64 id, .int .i64 fl, .int .i64 pt, .int .i64 ttl, .int .i64 pr, .int .u8 (a0.toNat : Int), .int .u8 (a1.toNat : Int), .int .u8 (a2.toNat : Int), .int .u8 (a3.toNat : Int), .int .u8 (a4.toNat : Int), .int .u8 (a5.toNat : Int), .int .u8 (a6.toNat : Int), .int .u8 (a7.toNat : Int), .slice So no co, .slice Sb nb cb], .agg #[.int .i64 ty, .int .i64 cd, .int .u32 re, .slice D nd qd]] w (PkPost (icPut tos id fl pt ttl a0 a1 a2 a3 a4 a5 a6 a7 lo ty cd re ld) w) := by
  have H1 := Lib.hid h1
  have HP : Hid (icPut tos id fl pt ttl a0 a1 a2 a3 a4 a5 a6 a7 lo ty cd re ld = pkNone 1) := Lib.hid (if_pos (by rw [h1]; rfl))
  clear h1
  have bel := Below.refl w.heap.size w
  go_enter Try.func11, Try.ntmps11
  go_wp2_with (first | ((with_reducible show wpList _ _ _ (⟨some 2, _, _, _, _, _⟩ :: _) _ _); refine wpList_box_n rfl 27 (.tmp 0) rfl #[.int .i64 tos, .int .i64 id, .int .i64 fl, .int .i64 pt, .int .i64 ttl, .int .i64 pr, .int .u8 (a0.toNat : Int), .int .u8 (a1.toNat : Int), .int .u8 (a2.toNat : Int), .int .u8 (a3.toNat : Int), .int .u8 (a4.toNat : Int), .int .u8 (a5.toNat : Int), .int .u8 (a6.toNat : Int), .int .u8 (a7.toNat : Int), .slice So no co, .slice Sb nb cb] rfl ?_; intro g2 w1 ge lt hh bb; have op := Nat.le_trans bel.size ge; replace bel := bel.trans (bb.mono bel.size); have hp := hh; clear hh lt ge bb) | ((with_reducible show wpList _ _ _ (⟨some 3, _, _, _, _, _⟩ :: _) _ _); refine wpList_box_n rfl 34 (.tmp 1) rfl #[.int .i64 ty, .int .i64 cd, .int .u32 re, .slice D nd qd] rfl ?_; intro g3 w2 ge lt hh bb; have d_p_m := ne_new (hlt hp) ge; have om := Nat.le_trans bel.size ge; replace hp := blk_u hp bb; replace bel := bel.trans (bb.mono bel.size); have hm := hh; clear hh lt ge bb) | ((with_reducible show wpList _ _ _ (⟨some 4, _, _, _, _, _⟩ :: _) _ _); refine wpList_new_a rfl 27 rfl #[.int .i64 0, .int .i64 0, .int .i64 0, .int .i64 0, .int .i64 0, .int .i64 0, .int .u8 0, .int .u8 0, .int .u8 0, .int .u8 0, .int .u8 0, .int .u8 0, .int .u8 0, .int .u8 0, .slice none 0 0, .slice none 0 0] (by kernel_rfl) ?_; intro g4 w3 ge hh bb; have d_p_z := ne_new (hlt hp) ge; have d_m_z := ne_new (hlt hm) ge; have oz := Nat.le_trans bel.size ge; replace hp := blk_u hp bb; replace hm := blk_u hm bb; replace bel := bel.trans (bb.mono bel.size); have hz := hh; clear hh ge bb; have R7 := cell_lit hm 0 _ rfl))
  try clear R7
  with_reducible refine (isbyte_any _ _).mono ?_
  rintro e _ ⟨rfl, rfl⟩
  rw [H1.out]
  go_wp2_with (first | ((with_reducible show wpList _ _ _ (⟨none, Op.store _ (.tmp 4) _, _, _, _, _⟩ :: _) _ _); refine wpList_store_blk rfl 27 (.tmp 4) (.tmp 16) rfl g4 rfl _ rfl _ 27 hz (by rfl) (by kernel_rfl) (by kernel_rfl) ?_; intro w4 hq gr; replace hp := blk_a hp gr d_p_z; replace hm := blk_a hm gr d_m_z; replace bel := below_grown bel gr oz bel.size; clear hz; have hz := hq; clear hq gr))
  exact bodyPost_ret (results_cell_tmp_row rfl _ _ _ _ _ _ _ rfl hz Try.underlying27 rfl (by kernel_rfl) _ rfl) rfl (by rw [HP.out]; exact PkPost.none bel)
set_option linter.unusedVariables false in
set_option maxRecDepth 100000 in
set_option maxHeartbeats 16000000 in
theorem icput_bad2 (tos id fl pt ttl pr : Int) (a0 a1 a2 a3 a4 a5 a6 a7 : UInt8) (So Sb : Option Addr) (no co nb cb : Nat) (ty cd re : Int) (D : Option Addr) (nd qd : Nat) (lo ld : List UInt8) (w : World) (ho : Sl w So no co lo) (hb : Sl w D nd qd ld) (h1 : byteOk ty = true) (h2 : byteOk cd = false) : Calls Try.prog 11 #[.agg #[.int .i64 tos, .int .i64 id, .int .i64 fl, .int .i64 pt, .int .i64 ttl, .int .i64 pr, .int .u8 (a0.toNat : Int), .int .u8 (a1.toNat : Int), .int .u8 (a2.toNat : Int), .int .u8 (a3.toNat : Int), .int .u8 (a4.toNat : Int), .int .u8 (a5.toNat : Int), .int .u8 (a6.toNat : Int), .int .u8 (a7.toNat : Int), .slice So no co, .slice Sb nb cb], .agg #[.int .i64 ty, .int .i64 cd, .int .u32 re, .slice D nd qd]] w (PkPost (icPut tos id fl pt ttl a0 a1 a2 a3 a4 a5 a6 a7 lo ty cd re ld) w) := by
  have H1 := Lib.hid h1
  have H2 := Lib.hid h2
  have HP : Hid (icPut tos id fl pt ttl a0 a1 a2 a3 a4 a5 a6 a7 lo ty cd re ld = pkNone 1) := Lib.hid (if_pos (by rw [h1, h2]; rfl))
  clear h1 h2
  have bel := Below.refl w.heap.size w
  go_enter Try.func11, Try.ntmps11
  go_wp2_with (first | ((with_reducible show wpList _ _ _ (⟨some 2, _, _, _, _, _⟩ :: _) _ _); refine wpList_box_n rfl 27 (.tmp 0) rfl #[.int .i64 tos, .int .i64 id, .int .i64 fl, .int .i64 pt, .int .i64 ttl, .int .i64 pr, .int .u8 (a0.toNat : Int), .int .u8 (a1.toNat : Int), .int .u8 (a2.toNat : Int), .int .u8 (a3.toNat : Int), .int .u8 (a4.toNat : Int), .int .u8 (a5.toNat : Int), .int .u8 (a6.toNat : Int), .int .u8 (a7.toNat : Int), .slice So no co, .slice Sb nb cb] rfl ?_; intro g2 w1 ge lt hh bb; have op := Nat.le_trans bel.size ge; replace bel := bel.trans (bb.mono bel.size); have hp := hh; clear hh lt ge bb) | ((with_reducible show wpList _ _ _ (⟨some 3, _, _, _, _, _⟩ :: _) _ _); refine wpList_box_n rfl 34 (.tmp 1) rfl #[.int .i64 ty, .int .i64 cd, .int .u32 re, .slice D nd qd] rfl ?_; intro g3 w2 ge lt hh bb; have d_p_m := ne_new (hlt hp) ge; have om := Nat.le_trans bel.size ge; replace hp := blk_u hp bb; replace bel := bel.trans (bb.mono bel.size); have hm := hh; clear hh lt ge bb) | ((with_reducible show wpList _ _ _ (⟨some 4, _, _, _, _, _⟩ :: _) _ _); refine wpList_new_a rfl 27 rfl #[.int .i64 0, .int .i64 0, .int .i64 0, .int .i64 0, .int .i64 0, .int .i64 0, .int .u8 0, .int .u8 0, .int .u8 0, .int .u8 0, .int .u8 0, .int .u8 0, .int .u8 0, .int .u8 0, .slice none 0 0, .slice none 0 0] (by kernel_rfl) ?_; intro g4 w3 ge hh bb; have d_p_z := ne_new (hlt hp) ge; have d_m_z := ne_new (hlt hm) ge; have oz := Nat.le_trans bel.size ge; replace hp := blk_u hp bb; replace hm := blk_u hm bb; replace bel := bel.trans (bb.mono bel.size); have hz := hh; clear hh ge bb; have R7 := cell_lit hm 0 _ rfl))
  try clear R7
  with_reducible refine (isbyte_any _ _).mono ?_
  rintro e _ ⟨rfl, rfl⟩
  rw [H1.out]
  have R12 := cell_lit hm 1 _ rfl
  go_wp2_with fail
  clear R12
  with_reducible refine (isbyte_any _ _).mono ?_
  rintro e _ ⟨rfl, rfl⟩
  rw [H2.out]
  go_wp2_with (first | ((with_reducible show wpList _ _ _ (⟨none, Op.store _ (.tmp 4) _, _, _, _, _⟩ :: _) _ _); refine wpList_store_blk rfl 27 (.tmp 4) (.tmp 16) rfl g4 rfl _ rfl _ 27 hz (by rfl) (by kernel_rfl) (by kernel_rfl) ?_; intro w4 hq gr; replace hp := blk_a hp gr d_p_z; replace hm := blk_a hm gr d_m_z; replace bel := below_grown bel gr oz bel.size; clear hz; have hz := hq; clear hq gr))
  exact bodyPost_ret (results_cell_tmp_row rfl _ _ _ _ _ _ _ rfl hz Try.underlying27 rfl (by kernel_rfl) _ rfl) rfl (by rw [HP.out]; exact PkPost.none bel)
set_option linter.unusedVariables false in
set_option maxRecDepth 100000 in
set_option maxHeartbeats 16000000 in
theorem icput_long (tos id fl pt ttl pr : Int) (a0 a1 a2 a3 a4 a5 a6 a7 : UInt8) (So Sb : Option Addr) (no co nb cb : Nat) (ty cd re : Int) (D : Option Addr) (nd qd : Nat) (lo ld : List UInt8) (w : World) (ho : Sl w So no co lo) (hb : Sl w D nd qd ld) (h1 : byteOk ty = true) (h2 : byteOk cd = true) (hn : 1472 < nd) : Calls Try.prog 11 #[.agg #[.int .i64 tos, .int .i64 id, .int .i64 fl, .int .i64 pt, .int .i64 ttl, .int .i64 pr, .int .u8 (a0.toNat : Int), .int .u8 (a1.toNat : Int), .int .u8 (a2.toNat : Int), .int .u8 (a3.toNat : Int), .int .u8 (a4.toNat : Int), .int .u8 (a5.toNat : Int), .int .u8 (a6.toNat : Int), .int .u8 (a7.toNat : Int), .slice So no co, .slice Sb nb cb], .agg #[.int .i64 ty, .int .i64 cd, .int .u32 re, .slice D nd qd]] w (PkPost (icPut tos id fl pt ttl a0 a1 a2 a3 a4 a5 a6 a7 lo ty cd re ld) w) := by
  obtain ⟨ii, hii, hz0, hz1, hz2⟩ := info_parts Try.info5
  have H1 := Lib.hid h1
  have H2 := Lib.hid h2
  have HP : Hid (icPut tos id fl pt ttl a0 a1 a2 a3 a4 a5 a6 a7 lo ty cd re ld = pkNone 2) := Lib.hid (by unfold icPut; rw [if_neg (by rw [h1, h2]; decide), if_pos (by rw [hb.1]; exact hn)])
  have t0 : (1472 : Int) < nd := by omega
  clear h1 h2 hn
  have bel := Below.refl w.heap.size w
  go_enter Try.func11, Try.ntmps11
  go_wp2_with (first | ((with_reducible show wpList _ _ _ (⟨some 2, _, _, _, _, _⟩ :: _) _ _); refine wpList_box_n rfl 27 (.tmp 0) rfl #[.int .i64 tos, .int .i64 id, .int .i64 fl, .int .i64 pt, .int .i64 ttl, .int .i64 pr, .int .u8 (a0.toNat : Int), .int .u8 (a1.toNat : Int), .int .u8 (a2.toNat : Int), .int .u8 (a3.toNat : Int), .int .u8 (a4.toNat : Int), .int .u8 (a5.toNat : Int), .int .u8 (a6.toNat : Int), .int .u8 (a7.toNat : Int), .slice So no co, .slice Sb nb cb] rfl ?_; intro g2 w1 ge lt hh bb; have av_ho_p := ho.av_new ge; have av_hb_p := hb.av_new ge; have op := Nat.le_trans bel.size ge; replace ho := ho.below bb; replace hb := hb.below bb; replace bel := bel.trans (bb.mono bel.size); have hp := hh; clear hh lt ge bb) | ((with_reducible show wpList _ _ _ (⟨some 3, _, _, _, _, _⟩ :: _) _ _); refine wpList_box_n rfl 34 (.tmp 1) rfl #[.int .i64 ty, .int .i64 cd, .int .u32 re, .slice D nd qd] rfl ?_; intro g3 w2 ge lt hh bb; have d_p_m := ne_new (hlt hp) ge; have av_ho_m := ho.av_new ge; have av_hb_m := hb.av_new ge; have om := Nat.le_trans bel.size ge; replace hp := blk_u hp bb; replace ho := ho.below bb; replace hb := hb.below bb; replace bel := bel.trans (bb.mono bel.size); have hm := hh; clear hh lt ge bb) | ((with_reducible show wpList _ _ _ (⟨some 4, _, _, _, _, _⟩ :: _) _ _); refine wpList_new_a rfl 27 rfl #[.int .i64 0, .int .i64 0, .int .i64 0, .int .i64 0, .int .i64 0, .int .i64 0, .int .u8 0, .int .u8 0, .int .u8 0, .int .u8 0, .int .u8 0, .int .u8 0, .int .u8 0, .int .u8 0, .slice none 0 0, .slice none 0 0] (by kernel_rfl) ?_; intro g4 w3 ge hh bb; have d_p_z := ne_new (hlt hp) ge; have d_m_z := ne_new (hlt hm) ge; have av_ho_z := ho.av_new ge; have av_hb_z := hb.av_new ge; have oz := Nat.le_trans bel.size ge; replace hp := blk_u hp bb; replace hm := blk_u hm bb; replace ho := ho.below bb; replace hb := hb.below bb; replace bel := bel.trans (bb.mono bel.size); have hz := hh; clear hh ge bb; have R7 := cell_lit hm 0 _ rfl))
  try clear R7
  with_reducible refine (isbyte_any _ _).mono ?_
  rintro e _ ⟨rfl, rfl⟩
  rw [H1.out]
  have R12 := cell_lit hm 1 _ rfl
  go_wp2_with fail
  clear R12
  with_reducible refine (isbyte_any _ _).mono ?_
  rintro e _ ⟨rfl, rfl⟩
  rw [H2.out]
  have R18 := cell_lit hm 3 _ rfl
  go_wp2_with (first | ((with_reducible show wpList _ _ _ (⟨none, Op.store _ (.tmp 4) _, _, _, _, _⟩ :: _) _ _); refine wpList_store_blk rfl 27 (.tmp 4) (.tmp 21) rfl g4 rfl _ rfl _ 27 hz (by rfl) (by kernel_rfl) (by kernel_rfl) ?_; intro w4 hq gr; replace ho := ho.away av_ho_z gr; replace hb := hb.away av_hb_z gr; replace hp := blk_a hp gr d_p_z; replace hm := blk_a hm gr d_m_z; replace bel := below_grown bel gr oz bel.size; clear hz; have hz := hq; clear hq gr))
  try clear R18
  exact bodyPost_ret (results_cell_tmp_row rfl _ _ _ _ _ _ _ rfl hz Try.underlying27 rfl (by kernel_rfl) _ rfl) rfl (by rw [HP.out]; exact PkPost.none bel)
set_option linter.unusedVariables false in
set_option maxRecDepth 100000 in
set_option maxHeartbeats 16000000 in
theorem icput_ok (tos id fl pt ttl pr : Int) (a0 a1 a2 a3 a4 a5 a6 a7 : UInt8) (So Sb : Option Addr) (no co nb cb : Nat) (ty cd re : Int) (D : Option Addr) (nd qd : Nat) (lo ld : List UInt8) (w : World) (ho : Sl w So no co lo) (hb : Sl w D nd qd ld) (h1 : byteOk ty = true) (h2 : byteOk cd = true) (hn : nd ≤ 1472) (hno : no ≤ 100000) (e0 : 0 ≤ re) (e1 : re < 4294967296) : Calls Try.prog 11 #[.agg #[.int .i64 tos, .int .i64 id, .int .i64 fl, .int .i64 pt, .int .i64 ttl, .int .i64 pr, .int .u8 (a0.toNat : Int), .int .u8 (a1.toNat : Int), .int .u8 (a2.toNat : Int), .int .u8 (a3.toNat : Int), .int .u8 (a4.toNat : Int), .int .u8 (a5.toNat : Int), .int .u8 (a6.toNat : Int), .int .u8 (a7.toNat : Int), .slice So no co, .slice Sb nb cb], .agg #[.int .i64 ty, .int .i64 cd, .int .u32 re, .slice D nd qd]] w (PkPost (icPut tos id fl pt ttl a0 a1 a2 a3 a4 a5 a6 a7 lo ty cd re ld) w) := by
  obtain ⟨ii, hii, hz0, hz1, hz2⟩ := info_parts Try.info5
  have H1 := Lib.hid h1
  have H2 := Lib.hid h2
  have HL1 := Lib.hid ho.1
  have HL2 : Hid ((icBytes ty cd re ld).length = 8 + nd) := Lib.hid (by rw [icBytes_len, hb.1])
  have HP : Hid (icPut tos id fl pt ttl a0 a1 a2 a3 a4 a5 a6 a7 lo ty cd re ld = (([tos, id, fl, pt, ttl, 1], [a0, a1, a2, a3, a4, a5, a6, a7]), (lo, icBytes ty cd re ld), 0)) := Lib.hid (by unfold icPut; rw [if_neg (by rw [h1, h2]; decide), if_neg (by rw [hb.1]; omega)])
  have t0 : decide ((1472 : Int) < nd) = false := decide_eq_false (by omega)
  have HN := Lib.hid hn
  have HNO := Lib.hid hno
  have E0 := Lib.hid e0
  have E1 := Lib.hid e1
  clear h1 h2 hn hno e0 e1
  have bel := Below.refl w.heap.size w
  go_enter Try.func11, Try.ntmps11
  go_wp2_with (first | ((with_reducible show wpList _ _ _ (⟨some 2, _, _, _, _, _⟩ :: _) _ _); refine wpList_box_n rfl 27 (.tmp 0) rfl #[.int .i64 tos, .int .i64 id, .int .i64 fl, .int .i64 pt, .int .i64 ttl, .int .i64 pr, .int .u8 (a0.toNat : Int), .int .u8 (a1.toNat : Int), .int .u8 (a2.toNat : Int), .int .u8 (a3.toNat : Int), .int .u8 (a4.toNat : Int), .int .u8 (a5.toNat : Int), .int .u8 (a6.toNat : Int), .int .u8 (a7.toNat : Int), .slice So no co, .slice Sb nb cb] rfl ?_; intro g2 w1 ge lt hh bb; have av_ho_p := ho.av_new ge; have av_hb_p := hb.av_new ge; have op := Nat.le_trans bel.size ge; replace ho := ho.below bb; replace hb := hb.below bb; replace bel := bel.trans (bb.mono bel.size); have hp := hh; clear hh lt ge bb) | ((with_reducible show wpList _ _ _ (⟨some 3, _, _, _, _, _⟩ :: _) _ _); refine wpList_box_n rfl 34 (.tmp 1) rfl #[.int .i64 ty, .int .i64 cd, .int .u32 re, .slice D nd qd] rfl ?_; intro g3 w2 ge lt hh bb; have d_p_m := ne_new (hlt hp) ge; have av_ho_m := ho.av_new ge; have av_hb_m := hb.av_new ge; have om := Nat.le_trans bel.size ge; replace hp := blk_u hp bb; replace ho := ho.below bb; replace hb := hb.below bb; replace bel := bel.trans (bb.mono bel.size); have hm := hh; clear hh lt ge bb) | ((with_reducible show wpList _ _ _ (⟨some 4, _, _, _, _, _⟩ :: _) _ _); refine wpList_new_a rfl 27 rfl #[.int .i64 0, .int .i64 0, .int .i64 0, .int .i64 0, .int .i64 0, .int .i64 0, .int .u8 0, .int .u8 0, .int .u8 0, .int .u8 0, .int .u8 0, .int .u8 0, .int .u8 0, .int .u8 0, .slice none 0 0, .slice none 0 0] (by kernel_rfl) ?_; intro g4 w3 ge hh bb; have d_p_z := ne_new (hlt hp) ge; have d_m_z := ne_new (hlt hm) ge; have av_ho_z := ho.av_new ge; have av_hb_z := hb.av_new ge; have oz := Nat.le_trans bel.size ge; replace hp := blk_u hp bb; replace hm := blk_u hm bb; replace ho := ho.below bb; replace hb := hb.below bb; replace bel := bel.trans (bb.mono bel.size); have hz := hh; clear hh ge bb; have R7 := cell_lit hm 0 _ rfl))
  try clear R7
  with_reducible refine (isbyte_any _ _).mono ?_
  rintro e _ ⟨rfl, rfl⟩
  rw [H1.out]
  have R12 := cell_lit hm 1 _ rfl
  go_wp2_with fail
  clear R12
  with_reducible refine (isbyte_any _ _).mono ?_
  rintro e _ ⟨rfl, rfl⟩
  rw [H2.out]
  have R18 := cell_lit hm 3 _ rfl
  go_wp2_with (first | ((with_reducible show wpList _ _ _ (⟨none, Op.store _ (.tmp 22) _, _, _, _, _⟩ :: _) _ _); refine wpList_store_part rfl 3 (.tmp 22) (.const (.int .i64 1)) rfl g2 5 rfl [.int .i64 1] rfl [.int .i64 tos, .int .i64 id, .int .i64 fl, .int .i64 pt, .int .i64 ttl, .int .i64 pr, .int .u8 (a0.toNat : Int), .int .u8 (a1.toNat : Int), .int .u8 (a2.toNat : Int), .int .u8 (a3.toNat : Int), .int .u8 (a4.toNat : Int), .int .u8 (a5.toNat : Int), .int .u8 (a6.toNat : Int), .int .u8 (a7.toNat : Int), .slice So no co, .slice Sb nb cb] 27 hp (by simp) [.int .i64 tos, .int .i64 id, .int .i64 fl, .int .i64 pt, .int .i64 ttl, .int .i64 1, .int .u8 (a0.toNat : Int), .int .u8 (a1.toNat : Int), .int .u8 (a2.toNat : Int), .int .u8 (a3.toNat : Int), .int .u8 (a4.toNat : Int), .int .u8 (a5.toNat : Int), .int .u8 (a6.toNat : Int), .int .u8 (a7.toNat : Int), .slice So no co, .slice Sb nb cb] rfl (by kernel_rfl) (by rfl) ?_; intro w4 hq gr; replace ho := ho.away av_ho_p gr; replace hb := hb.away av_hb_p gr; replace hm := blk_a hm gr (ne_symm d_p_m); replace hz := blk_a hz gr (ne_symm d_p_z); replace bel := below_grown bel gr op bel.size; clear hp; have hp := hq; clear hq gr) | ((with_reducible show wpList _ _ _ (⟨some 23, _, _, _, _, _⟩ :: _) _ _); refine wpList_lit_n rfl 25 5 0 _ rfl #[] (.int .u8 0) Try.underlying25 (by kernel_rfl) 1 (by kernel_rfl) (by decide) (by kernel_rfl) ?_; intro g23 w5 ge lt hh bb; have hl : w5.heap[g23]? = some (.cells (([] : List UInt8).map u8v).toArray 5 (0, 0)) := (by simpa [u8v, byteOf_val] using hh); have e0w := own_lit (B := w4.heap.size) ([]) hl ge 0 rfl (by simp [maxLen]); have e0 := (own_sl e0w).1; have e0lo := bel.size; clear hl; have e0ge := ge; have lz_e0 := bb.size; have y_e0_p := Lib.hid (hlt hp); have y_e0_m := Lib.hid (hlt hm); have y_e0_z := Lib.hid (hlt hz); have bl_ho_e0 := ho.bl_new; have bl_hb_e0 := hb.bl_new; replace hp := blk_u hp bb; replace hm := blk_u hm bb; replace hz := blk_u hz bb; replace ho := ho.below bb; replace hb := hb.below bb; replace bel := bel.trans (bb.mono bel.size); clear hh lt ge bb; have av_e0_p := (own_sl e0w).2.av y_e0_p.out; have av_e0_m := (own_sl e0w).2.av y_e0_m.out; have av_e0_z := (own_sl e0w).2.av y_e0_z.out; have R25 := cell_lit hp 14 _ rfl) | ((with_reducible show wpList _ _ _ (⟨some 26, _, _, _, _, _⟩ :: _) _ _); refine wpList_append_bb _ rfl (.tmp 23) (.tmp 25) 25 rfl (w4.heap.size) 5 ii (.int .u8 0) Try.underlying25 hii hz0 hz1 hz2 rfl _ (0) ([]) rfl e0w (So) (no) (co) (lo) rfl ho (by have := HNO.out; omega) lz_e0 ?_; intro v26 w6 own_ bb; replace ho := ho.under bl_ho_e0 bb; replace hb := hb.under bl_hb_e0 bb; replace hp := blk_under hp bb y_e0_p.out; replace hm := blk_under hm bb y_e0_m.out; replace hz := blk_under hz bb y_e0_z.out; replace bel := bel.trans (bb.mono e0lo); have lz_so := Nat.le_trans lz_e0 bb.size; clear bb; clear e0 e0w lz_e0; replace own_ : w6.ownsRow (w4.heap.size) 5 1 v26 (no) ((lo : List UInt8).map u8v) := (by simpa using own_); obtain ⟨A26, c26, rfl⟩ := own_val own_; have sow := own_; have so := (own_sl own_).1; have fr_so := (own_sl own_).2; clear own_; have av_so_p := fr_so.av y_e0_p.out; have av_so_m := fr_so.av y_e0_m.out; have av_so_z := fr_so.av y_e0_z.out) | ((with_reducible show wpList _ _ _ (⟨none, Op.store _ (.tmp 27) _, _, _, _, _⟩ :: _) _ _); refine wpList_store_part rfl 25 (.tmp 27) (.tmp 26) rfl g2 14 rfl [.slice A26 no c26] rfl [.int .i64 tos, .int .i64 id, .int .i64 fl, .int .i64 pt, .int .i64 ttl, .int .i64 1, .int .u8 (a0.toNat : Int), .int .u8 (a1.toNat : Int), .int .u8 (a2.toNat : Int), .int .u8 (a3.toNat : Int), .int .u8 (a4.toNat : Int), .int .u8 (a5.toNat : Int), .int .u8 (a6.toNat : Int), .int .u8 (a7.toNat : Int), .slice So no co, .slice Sb nb cb] 27 hp (by simp) [.int .i64 tos, .int .i64 id, .int .i64 fl, .int .i64 pt, .int .i64 ttl, .int .i64 1, .int .u8 (a0.toNat : Int), .int .u8 (a1.toNat : Int), .int .u8 (a2.toNat : Int), .int .u8 (a3.toNat : Int), .int .u8 (a4.toNat : Int), .int .u8 (a5.toNat : Int), .int .u8 (a6.toNat : Int), .int .u8 (a7.toNat : Int), .slice A26 no c26, .slice Sb nb cb] rfl (by kernel_rfl) (by rfl) ?_; intro w7 hq gr; replace ho := ho.away av_ho_p gr; replace hb := hb.away av_hb_p gr; replace so := so.away av_so_p gr; replace sow := own_away sow y_e0_p.out gr; replace lz_so := Nat.le_trans lz_so gr.size; replace hm := blk_a hm gr (ne_symm d_p_m); replace hz := blk_a hz gr (ne_symm d_p_z); replace bel := below_grown bel gr op bel.size; clear hp; have hp := hq; clear hq gr; have R28 := Lib.hid (range_lit hm 0 4 [.int .i64 ty, .int .i64 cd, .int .u32 re, .slice D nd qd] rfl)) | ((with_reducible show wpList _ _ _ (⟨some 28, _, _, _, _, _⟩ :: _) _ _); refine wpList_load_rng 34 (.tmp 3) rfl (by kernel_rfl) _ _ rfl _ R28.out _ Try.underlying34 rfl (by kernel_rfl) ?_))
  try clear R18
  try clear R25
  try clear R28
  with_reducible refine (icwrite_any _ _ _ _ _ _ ld _ hb HN.out E0.out E1.out).mono ?_
  rintro e w8 ⟨v, rfl, sbw, b8⟩
  have y_sb_p := Lib.hid (hlt hp)
  have y_sb_m := Lib.hid (hlt hm)
  have y_sb_z := Lib.hid (hlt hz)
  have bl_ho_sb := ho.bl_new
  have bl_hb_sb := hb.bl_new
  have bl_so_sb := so.bl_new
  have sblo := bel.size
  have lz_sb := b8.size
  replace hp := blk_u hp b8
  replace hm := blk_u hm b8
  replace hz := blk_u hz b8
  replace ho := ho.below b8
  replace hb := hb.below b8
  replace so := so.below b8
  replace sow := own_under sow b8
  replace lz_so := Nat.le_trans lz_so b8.size
  replace bel := bel.trans (b8.mono bel.size)
  clear b8
  obtain ⟨Asb, csb, rfl⟩ := own_val sbw
  have sb := (own_sl sbw).1
  have fr_sb := (own_sl sbw).2
  have av_sb_p := fr_sb.av y_sb_p.out
  have av_sb_m := fr_sb.av y_sb_m.out
  have av_sb_z := fr_sb.av y_sb_z.out
  go_wp2_with (first | ((with_reducible show wpList _ _ _ (⟨none, Op.store _ (.tmp 30) _, _, _, _, _⟩ :: _) _ _); refine wpList_store_part rfl 25 (.tmp 30) (.tmp 29) rfl g2 15 rfl [.slice Asb (8 + nd) csb] rfl [.int .i64 tos, .int .i64 id, .int .i64 fl, .int .i64 pt, .int .i64 ttl, .int .i64 1, .int .u8 (a0.toNat : Int), .int .u8 (a1.toNat : Int), .int .u8 (a2.toNat : Int), .int .u8 (a3.toNat : Int), .int .u8 (a4.toNat : Int), .int .u8 (a5.toNat : Int), .int .u8 (a6.toNat : Int), .int .u8 (a7.toNat : Int), .slice A26 no c26, .slice Sb nb cb] 27 hp (by simp) [.int .i64 tos, .int .i64 id, .int .i64 fl, .int .i64 pt, .int .i64 ttl, .int .i64 1, .int .u8 (a0.toNat : Int), .int .u8 (a1.toNat : Int), .int .u8 (a2.toNat : Int), .int .u8 (a3.toNat : Int), .int .u8 (a4.toNat : Int), .int .u8 (a5.toNat : Int), .int .u8 (a6.toNat : Int), .int .u8 (a7.toNat : Int), .slice A26 no c26, .slice Asb (8 + nd) csb] rfl (by kernel_rfl) (by rfl) ?_; intro w9 hq gr; replace ho := ho.away av_ho_p gr; replace hb := hb.away av_hb_p gr; replace so := so.away av_so_p gr; replace sow := own_away sow y_e0_p.out gr; replace sb := sb.away av_sb_p gr; replace sbw := own_away sbw y_sb_p.out gr; replace lz_so := Nat.le_trans lz_so gr.size; replace lz_sb := Nat.le_trans lz_sb gr.size; replace hm := blk_a hm gr (ne_symm d_p_m); replace hz := blk_a hz gr (ne_symm d_p_z); replace bel := below_grown bel gr op bel.size; clear hp; have hp := hq; clear hq gr; have R31 := Lib.hid (range_lit hp 0 16 [.int .i64 tos, .int .i64 id, .int .i64 fl, .int .i64 pt, .int .i64 ttl, .int .i64 1, .int .u8 (a0.toNat : Int), .int .u8 (a1.toNat : Int), .int .u8 (a2.toNat : Int), .int .u8 (a3.toNat : Int), .int .u8 (a4.toNat : Int), .int .u8 (a5.toNat : Int), .int .u8 (a6.toNat : Int), .int .u8 (a7.toNat : Int), .slice A26 no c26, .slice Asb (8 + nd) csb] rfl)) | ((with_reducible show wpList _ _ _ (⟨some 31, _, _, _, _, _⟩ :: _) _ _); refine wpList_load_rng 27 (.tmp 2) rfl (by kernel_rfl) _ _ rfl _ R31.out _ Try.underlying27 rfl (by kernel_rfl) ?_) | ((with_reducible show wpList _ _ _ (⟨none, Op.store _ (.tmp 4) _, _, _, _, _⟩ :: _) _ _); refine wpList_store_blk rfl 27 (.tmp 4) (.tmp 31) rfl g4 rfl _ rfl _ 27 hz (by rfl) (by kernel_rfl) (by kernel_rfl) ?_; intro w10 hq gr; replace ho := ho.away av_ho_z gr; replace hb := hb.away av_hb_z gr; replace so := so.away av_so_z gr; replace sow := own_away sow y_e0_z.out gr; replace sb := sb.away av_sb_z gr; replace sbw := own_away sbw y_sb_z.out gr; replace lz_so := Nat.le_trans lz_so gr.size; replace lz_sb := Nat.le_trans lz_sb gr.size; replace hp := blk_a hp gr d_p_z; replace hm := blk_a hm gr d_m_z; replace bel := below_grown bel gr oz bel.size; clear hz; have hz := hq; clear hq gr))
  try clear R31
  exact bodyPost_ret (results_cell_tmp_row rfl _ _ _ _ _ _ _ rfl hz Try.underlying27 rfl (by kernel_rfl) _ rfl) rfl ⟨tos, id, fl, pt, ttl, 1, a0, a1, a2, a3, a4, a5, a6, a7, lo, icBytes ty cd re ld, A26, Asb, c26, csb, 0, by rw [HL1.out, HL2.out]; rfl, by rw [HL1.out]; exact so, by rw [HL2.out]; exact sb, by rw [HL1.out]; exact fr_so.mono e0lo, by rw [HL2.out]; exact fr_sb.mono sblo, bel, HP.out.symm⟩
theorem icput_any (tos id fl pt ttl pr : Int) (a0 a1 a2 a3 a4 a5 a6 a7 : UInt8) (So Sb : Option Addr) (no co nb cb : Nat) (ty cd re : Int) (D : Option Addr) (nd qd : Nat) (lo ld : List UInt8) (w : World) (ho : Sl w So no co lo) (hb : Sl w D nd qd ld) (hno : no ≤ 100000) (e0 : 0 ≤ re) (e1 : re < 4294967296) : Calls Try.prog 11 #[.agg #[.int .i64 tos, .int .i64 id, .int .i64 fl, .int .i64 pt, .int .i64 ttl, .int .i64 pr, .int .u8 (a0.toNat : Int), .int .u8 (a1.toNat : Int), .int .u8 (a2.toNat : Int), .int .u8 (a3.toNat : Int), .int .u8 (a4.toNat : Int), .int .u8 (a5.toNat : Int), .int .u8 (a6.toNat : Int), .int .u8 (a7.toNat : Int), .slice So no co, .slice Sb nb cb], .agg #[.int .i64 ty, .int .i64 cd, .int .u32 re, .slice D nd qd]] w (PkPost (icPut tos id fl pt ttl a0 a1 a2 a3 a4 a5 a6 a7 lo ty cd re ld) w) := by
  rcases (by decide : ∀ b : Bool, b = true ∨ b = false) (byteOk ty) with h1 | h1
  · rcases (by decide : ∀ b : Bool, b = true ∨ b = false) (byteOk cd) with h2 | h2
    · by_cases hl : nd ≤ 1472
      · exact icput_ok tos id fl pt ttl pr a0 a1 a2 a3 a4 a5 a6 a7 So Sb no co nb cb ty cd re D nd qd lo ld w ho hb h1 h2 hl hno e0 e1
      · exact icput_long tos id fl pt ttl pr a0 a1 a2 a3 a4 a5 a6 a7 So Sb no co nb cb ty cd re D nd qd lo ld w ho hb h1 h2 (by omega)
    · exact icput_bad2 tos id fl pt ttl pr a0 a1 a2 a3 a4 a5 a6 a7 So Sb no co nb cb ty cd re D nd qd lo ld w ho hb h1 h2
  · exact icput_bad1 tos id fl pt ttl pr a0 a1 a2 a3 a4 a5 a6 a7 So Sb no co nb cb ty cd re D nd qd lo ld w ho hb h1
end Go.Proofs.Ytfmllopeeiecjaa
