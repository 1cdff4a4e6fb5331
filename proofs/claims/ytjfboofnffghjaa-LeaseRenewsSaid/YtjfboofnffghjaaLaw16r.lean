/- LeaseRenews. -/
import Derived.Test.YtjfboofnffghjaaLaw16
namespace Go.Proofs.Ytjfboofnffghjaa
open Go.RowKit

set_option linter.unusedVariables false in
set_option linter.unusedSimpArgs false in
set_option maxRecDepth 100000 in
set_option maxHeartbeats 16000000 in
theorem leaseRenews_walk (secs at0 : Int) (answer : Bool) (w : World) : Calls Try.prog 7 #[.int .u32 secs, .int .i64 at0, .bool answer] w fun e w' => e = .returned (.bool true) ∧ Below w.heap.size w w' := by
  have bel := Below.refl w.heap.size w
  go_enter Try.func7, Try.ntmps7
  go_wp2_with fail
  with_reducible refine (lawake _).mono ?_
  rintro e w1 ⟨rfl, b1⟩
  replace bel := bel.trans (b1.mono bel.size)
  clear b1
  by_cases c0 : secs < 60
  · go_wp2_with fail
    go_ret
    exact ⟨rfl, bel⟩
  have Hc0 : Hid (60 ≤ secs) := Lib.hid (by omega)
  replace c0 : decide (secs < 60) = false := decide_eq_false c0
  by_cases c1 : 5000 < secs
  · go_wp2_with fail
    go_ret
    exact ⟨rfl, bel⟩
  have Hc1 : Hid (secs ≤ 5000) := Lib.hid (by omega)
  replace c1 : decide (5000 < secs) = false := decide_eq_false c1
  by_cases c2 : at0 < 0
  · go_wp2_with fail
    go_ret
    exact ⟨rfl, bel⟩
  have Hc2 : Hid (0 ≤ at0) := Lib.hid (by omega)
  replace c2 : decide (at0 < 0) = false := decide_eq_false c2
  by_cases c3 : 1073741824 < at0
  · go_wp2_with fail
    go_ret
    exact ⟨rfl, bel⟩
  have Hc3 : Hid (at0 ≤ 1073741824) := Lib.hid (by omega)
  replace c3 : decide (1073741824 < at0) = false := decide_eq_false c3
  have := Hc0.out
  have := Hc1.out
  have := Hc2.out
  have := Hc3.out
  have HS60 : Hid (60 ≤ secs) := Lib.hid (by omega)
  have HS5 : Hid (secs ≤ 5000) := Lib.hid (by omega)
  have HA0 : Hid (0 ≤ at0) := Lib.hid (by omega)
  have HA1 : Hid (at0 ≤ 1073741824) := Lib.hid (by omega)
  obtain ⟨hf, hhf_⟩ : ∃ x, x = at0 + secs / 2 := ⟨_, rfl⟩
  obtain ⟨hm1, hhm_⟩ : ∃ x, x = hf - 1 := ⟨_, rfl⟩
  obtain ⟨s8, hs8_⟩ : ∃ x, x = at0 + secs * 7 / 8 := ⟨_, rfl⟩
  obtain ⟨u1, hu1_⟩ : ∃ x, x = at0 + secs := ⟨_, rfl⟩
  obtain ⟨ue, hue_⟩ : ∃ x, x = hf + secs := ⟨_, rfl⟩
  have HHF := Lib.hid hhf_
  have HHM := Lib.hid hhm_
  have HS8 := Lib.hid hs8_
  have HU1 := Lib.hid hu1_
  have HUE := Lib.hid hue_
  have hws : IntKind.i64.wrap secs = secs := IntWalk.i64_in _ (by omega)
  have hw7 : IntKind.i64.wrap (secs * 7) = secs * 7 := IntWalk.i64_in _ (by omega)
  have hq2 : Int.tdiv secs 2 = secs / 2 := Int.tdiv_eq_ediv_of_nonneg (by omega)
  have hq8 : Int.tdiv (secs * 7) 8 = secs * 7 / 8 := Int.tdiv_eq_ediv_of_nonneg (by omega)
  have hwh : IntKind.i64.wrap (secs / 2) = secs / 2 := IntWalk.i64_in _ (by omega)
  have hwe : IntKind.i64.wrap (secs * 7 / 8) = secs * 7 / 8 := IntWalk.i64_in _ (by omega)
  have hA : IntKind.i64.wrap (at0 + secs / 2) = hf := by rw [hhf_]; exact IntWalk.i64_in _ (by omega)
  have hB : IntKind.i64.wrap (hf - 1) = hm1 := by rw [hhm_, hhf_]; exact IntWalk.i64_in _ (by omega)
  have hC : IntKind.i64.wrap (at0 + secs * 7 / 8) = s8 := by rw [hs8_]; exact IntWalk.i64_in _ (by omega)
  have hD : IntKind.i64.wrap (hf + secs) = ue := by rw [hue_, hhf_]; exact IntWalk.i64_in _ (by omega)
  have WU1 : Hid (IntKind.i64.wrap (at0 + secs) = u1) := Lib.hid (by rw [hu1_]; exact IntWalk.i64_in _ (by omega))
  have WHF := Lib.hid hA
  have WS8 := Lib.hid hC
  have WUE := Lib.hid hD
  have s0_ : 0 ≤ secs := by omega
  clear hhf_ hhm_ hs8_ hu1_ hue_
  try clear c0
  try clear c1
  try clear c2
  try clear c3
  have e84 : ∀ W, (binOp .neq 34 (.agg #[.int .u8 10, .int .u8 0, .int .u8 0, .int .u8 5]) (.agg #[.int .u8 10, .int .u8 0, .int .u8 0, .int .u8 5])).run Try.prog W = .ok (.bool false) W := fun W => by kernel_rfl
  go_wp2_with fail
  with_reducible refine (lmac _).mono ?_
  rintro e w2 ⟨rfl, b2⟩
  replace bel := bel.trans (b2.mono bel.size)
  clear b2
  go_wp2_with fail
  have HLO_ := bel.size
  with_reducible refine (lnew _).mono ?_
  rintro e w3 ⟨gc, rfl, hT, b3⟩
  replace bel := bel.trans (b3.mono bel.size)
  clear b3
  replace hT : Cl w.heap.size gc w3 #[.int .u8 2, .int .u8 0, .int .u8 0, .int .u8 0, .int .u8 0, .int .u8 2, .int .i64 0, .int .i64 0, .int .u32 0, .int .i64 0, .int .i64 0, .int .i64 0, .int .u8 0, .int .u8 0, .int .u8 0, .int .u8 0, .int .u8 0, .int .u8 0, .int .u8 0, .int .u8 0, .int .u8 0, .int .u8 0, .int .u8 0, .int .u8 0, .int .u8 0, .int .u8 0, .int .u8 0, .int .u8 0, .int .i64 0, .int .i64 0, .int .i64 0] := hT.lo_mono HLO_
  clear HLO_
  go_wp2_with (first | ((with_reducible show wpList _ _ _ (⟨some 8, _, _, _, _, _⟩ :: _) _ _); refine wpList_new_a rfl 34 rfl #[.int .u8 0, .int .u8 0, .int .u8 0, .int .u8 0] (by kernel_rfl) ?_; intro g8 w4 ge hh bb; have oya := Nat.le_trans bel.size ge; replace hT := hT.below bb; replace bel := bel.trans (bb.mono bel.size); have hya := hh; clear hh ge bb) | ((with_reducible show wpList _ _ _ (⟨none, Op.store _ (.tmp 8) _, _, _, _, _⟩ :: _) _ _); refine wpList_store_blk rfl 34 (.tmp 8) (.tmp 35) rfl g8 rfl _ rfl _ 34 hya (by rfl) (by kernel_rfl) (by kernel_rfl) ?_; intro w5 hq gr; replace hT := hT.grown gr hya (by decide); replace bel := below_grown bel gr oya bel.size; clear hya; have hya := hq; clear hq gr))
  go_wp2_with fail
  with_reducible refine (ltick_new _ hT (by have h0_ := HS60.out; have h1_ := HS5.out; have h2_ := HA0.out; have h3_ := HA1.out; have h4_ := HHF.out; have h5_ := HS8.out; have h6_ := HU1.out; have h7_ := HHM.out; have h8_ := HUE.out; omega) (by have h0_ := HS60.out; have h1_ := HS5.out; have h2_ := HA0.out; have h3_ := HA1.out; have h4_ := HHF.out; have h5_ := HS8.out; have h6_ := HU1.out; have h7_ := HHM.out; have h8_ := HUE.out; omega)).mono ?_
  rintro e w6 ⟨g_x, rfl, _, hT_, k_, bb⟩
  replace hya := Kt.blk k_ hya (by decide)
  clear hT
  have hT := hT_
  replace bel := bel.trans bb
  clear bb k_ hT_
  have R40 := Lib.hid (range_lit hya 0 4 [.int .u8 10, .int .u8 0, .int .u8 0, .int .u8 5] rfl)
  go_wp2_with (first | ((with_reducible show wpList _ _ _ (⟨some 40, _, _, _, _, _⟩ :: _) _ _); refine wpList_load_rng 34 (.tmp 8) rfl (by kernel_rfl) _ _ rfl _ R40.out _ Try.underlying34 rfl (by kernel_rfl) ?_))
  try clear R40
  with_reducible refine (lword (kb := 2) _ rfl).mono ?_
  rintro e w7 ⟨Ao, co, rfl, hw_, b7⟩
  replace hya := blk_u hya b7
  replace hT := hT.below b7
  replace bel := bel.trans (b7.mono bel.size)
  clear b7
  obtain ⟨hso, ho⟩ := hw_
  go_wp2_with fail
  go_wp2_with fail
  with_reducible refine (lget_off _ hT (by have h0_ := HS60.out; have h1_ := HS5.out; have h2_ := HA0.out; have h3_ := HA1.out; have h4_ := HHF.out; have h5_ := HS8.out; have h6_ := HU1.out; have h7_ := HHM.out; have h8_ := HUE.out; omega) (by have h0_ := HS60.out; have h1_ := HS5.out; have h2_ := HA0.out; have h3_ := HA1.out; have h4_ := HHF.out; have h5_ := HS8.out; have h6_ := HU1.out; have h7_ := HHM.out; have h8_ := HUE.out; omega) ho (fun W => by kernel_rfl) (wl_2 _) (wl_54 _ _) (fun W => by kernel_rfl) by_5).mono ?_
  rintro e w8 ⟨g_x, rfl, _, hT_, k_, bb⟩
  replace hya := Kt.blk k_ hya (by decide)
  replace ho := ho.kt k_
  clear hT
  have hT := hT_
  replace bel := bel.trans bb
  clear bb k_ hT_
  clear ho
  have R46 := Lib.hid (range_lit hya 0 4 [.int .u8 10, .int .u8 0, .int .u8 0, .int .u8 5] rfl)
  go_wp2_with (first | ((with_reducible show wpList _ _ _ (⟨some 46, _, _, _, _, _⟩ :: _) _ _); refine wpList_load_rng 34 (.tmp 8) rfl (by kernel_rfl) _ _ rfl _ R46.out _ Try.underlying34 rfl (by kernel_rfl) ?_))
  try clear R46
  with_reducible refine (lword (kb := 5) _ rfl).mono ?_
  rintro e w9 ⟨Ao, co, rfl, hw_, b9⟩
  replace hya := blk_u hya b9
  replace hT := hT.below b9
  replace bel := bel.trans (b9.mono bel.size)
  clear b9
  obtain ⟨hso, ho⟩ := hw_
  go_wp2_with fail
  go_wp2_with fail
  with_reducible refine (lget_ack_2 (nu := u1) (n1 := hf) (n2 := s8) _ hT (by have h0_ := HS60.out; have h1_ := HS5.out; have h2_ := HA0.out; have h3_ := HA1.out; have h4_ := HHF.out; have h5_ := HS8.out; have h6_ := HU1.out; have h7_ := HHM.out; have h8_ := HUE.out; omega) (by have h0_ := HS60.out; have h1_ := HS5.out; have h2_ := HA0.out; have h3_ := HA1.out; have h4_ := HHF.out; have h5_ := HS8.out; have h6_ := HU1.out; have h7_ := HHM.out; have h8_ := HUE.out; omega) ho (fun W => by kernel_rfl) (wl_5 _) (wl_54 _ _) (fun W => by kernel_rfl) (fun W => by kernel_rfl) (wl_51 _ (by have h0_ := HS60.out; have h1_ := HS5.out; have h2_ := HA0.out; have h3_ := HA1.out; have h4_ := HHF.out; have h5_ := HS8.out; have h6_ := HU1.out; have h7_ := HHM.out; have h8_ := HUE.out; omega) (by have h0_ := HS60.out; have h1_ := HS5.out; have h2_ := HA0.out; have h3_ := HA1.out; have h4_ := HHF.out; have h5_ := HS8.out; have h6_ := HU1.out; have h7_ := HHM.out; have h8_ := HUE.out; omega)) (by have h0_ := HS60.out; have h1_ := HS5.out; have h2_ := HA0.out; have h3_ := HA1.out; have h4_ := HHF.out; have h5_ := HS8.out; have h6_ := HU1.out; have h7_ := HHM.out; have h8_ := HUE.out; omega) (by have h0_ := HS60.out; have h1_ := HS5.out; have h2_ := HA0.out; have h3_ := HA1.out; have h4_ := HHF.out; have h5_ := HS8.out; have h6_ := HU1.out; have h7_ := HHM.out; have h8_ := HUE.out; omega) (wl_1 _ _) (wl_3 _ _) WU1.out WHF.out WS8.out).mono ?_
  rintro e w10 ⟨rfl, hT_, k_, bb⟩
  replace hya := Kt.blk k_ hya (by decide)
  replace ho := ho.kt k_
  clear hT
  have hT := hT_
  replace bel := bel.trans bb
  clear bb k_ hT_
  clear ho
  go_wp2_with fail
  go_wp2_with fail
  with_reducible refine (ltick_3no _ hT (by have h0_ := HS60.out; have h1_ := HS5.out; have h2_ := HA0.out; have h3_ := HA1.out; have h4_ := HHF.out; have h5_ := HS8.out; have h6_ := HU1.out; have h7_ := HHM.out; have h8_ := HUE.out; omega) (by have h0_ := HS60.out; have h1_ := HS5.out; have h2_ := HA0.out; have h3_ := HA1.out; have h4_ := HHF.out; have h5_ := HS8.out; have h6_ := HU1.out; have h7_ := HHM.out; have h8_ := HUE.out; omega) (decide_eq_false (by have h0_ := HS60.out; have h1_ := HS5.out; have h2_ := HA0.out; have h3_ := HA1.out; have h4_ := HHF.out; have h5_ := HS8.out; have h6_ := HU1.out; have h7_ := HHM.out; have h8_ := HUE.out; omega)) (by have h0_ := HS60.out; have h1_ := HS5.out; have h2_ := HA0.out; have h3_ := HA1.out; have h4_ := HHF.out; have h5_ := HS8.out; have h6_ := HU1.out; have h7_ := HHM.out; have h8_ := HUE.out; omega)).mono ?_
  rintro e w11 ⟨rfl, hT_, k_, bb⟩
  replace hya := Kt.blk k_ hya (by decide)
  clear hT
  have hT := hT_
  replace bel := bel.trans bb
  clear bb k_ hT_
  go_wp2_with fail
  go_wp2_with fail
  with_reducible refine (ltick_3yes _ hT (by have h0_ := HS60.out; have h1_ := HS5.out; have h2_ := HA0.out; have h3_ := HA1.out; have h4_ := HHF.out; have h5_ := HS8.out; have h6_ := HU1.out; have h7_ := HHM.out; have h8_ := HUE.out; omega) (by have h0_ := HS60.out; have h1_ := HS5.out; have h2_ := HA0.out; have h3_ := HA1.out; have h4_ := HHF.out; have h5_ := HS8.out; have h6_ := HU1.out; have h7_ := HHM.out; have h8_ := HUE.out; omega) (decide_eq_false (by have h0_ := HS60.out; have h1_ := HS5.out; have h2_ := HA0.out; have h3_ := HA1.out; have h4_ := HHF.out; have h5_ := HS8.out; have h6_ := HU1.out; have h7_ := HHM.out; have h8_ := HUE.out; omega)) (decide_eq_false (by have h0_ := HS60.out; have h1_ := HS5.out; have h2_ := HA0.out; have h3_ := HA1.out; have h4_ := HHF.out; have h5_ := HS8.out; have h6_ := HU1.out; have h7_ := HHM.out; have h8_ := HUE.out; omega))).mono ?_
  rintro e w12 ⟨g_lb, rfl, hm_, hT_, k_, bb⟩
  replace hya := Kt.blk k_ hya (by decide)
  clear hT
  have hT := hT_
  replace bel := bel.trans bb
  clear bb k_ hT_
  obtain ⟨A_lb, n_lb, c_lb, hs_lb, L_lb, hlb, hPlb, ht_⟩ := hm_
  have HTlb := Lib.hid ht_
  clear ht_
  replace hlb : w12.heap[g_lb]? = some (.cells #[.int .i64 1, .int .i64 0, .int .u32 9, .int .i64 0, .int .i64 0, .int .u8 10, .int .u8 0, .int .u8 0, .int .u8 5, .int .u8 0, .int .u8 0, .int .u8 0, .int .u8 0, .int .u8 0, .int .u8 0, .int .u8 0, .int .u8 0, .int .u8 0, .int .u8 0, .int .u8 0, .int .u8 0, .int .u8 2, .int .u8 0, .int .u8 0, .int .u8 0, .int .u8 0, .int .u8 2, .slice A_lb n_lb c_lb] 37 (0, 0)) := hlb
  go_wp2_with fail
  replace bel := bel.drew
  replace hya : w12.drew.heap[g8]? = _ := hya
  replace hlb : w12.drew.heap[g_lb]? = _ := hlb
  replace hT := cl_drew hT
  replace hPlb := hPlb.drew
  refine wp_region_held_drew (S := fun W => W.heap[g_lb]? = some (.cells #[.int .i64 1, .int .i64 0, .int .u32 9, .int .i64 0, .int .i64 0, .int .u8 10, .int .u8 0, .int .u8 0, .int .u8 5, .int .u8 0, .int .u8 0, .int .u8 0, .int .u8 0, .int .u8 0, .int .u8 0, .int .u8 0, .int .u8 0, .int .u8 0, .int .u8 0, .int .u8 0, .int .u8 0, .int .u8 2, .int .u8 0, .int .u8 0, .int .u8 0, .int .u8 0, .int .u8 2, .slice A_lb n_lb c_lb] 37 (0, 0)) ∧ W.heap[g8]? = some (.cells #[.int .u8 10, .int .u8 0, .int .u8 0, .int .u8 5] 34 (0, 0))) (by kernel_rfl) ⟨hlb, hya⟩ (fun hH => ?_)
  generalize w12.drew = w13 at bel hya hlb hT hPlb hH ⊢
  refine wpAnyH_take (i := 0) (v := ?_) rfl (by kernel_rfl) (by kernel_rfl) (by kernel_rfl) (fun _ _ _ h => h) (Or.inl ⟨by rfl, ?_⟩) hH ?_
  rotate_left
  · ((intro W hW; clear hW; go_simp) <;> with_reducible rfl)
  simp only [Act.put, List.getElem_toArray, List.getElem_cons_zero, List.setIfInBounds_toArray, List.set_cons_zero, List.set_cons_succ]
  refine wpAnyH_take (i := 1) (v := ?_) rfl (by kernel_rfl) (by kernel_rfl) (by kernel_rfl) (fun _ _ _ h => h) (Or.inl ⟨by rfl, ?_⟩) hH ?_
  rotate_left
  · ((intro W hW; clear hW; go_simp) <;> with_reducible rfl)
  simp only [Act.put, List.getElem_toArray, List.getElem_cons_zero, List.getElem_cons_succ, List.setIfInBounds_toArray, List.set_cons_zero, List.set_cons_succ]
  refine wpAnyH_take (i := 2) (v := ?_) rfl (by kernel_rfl) (by kernel_rfl) (by kernel_rfl) (fun _ _ _ h => h) (Or.inl ⟨by rfl, ?_⟩) hH ?_
  rotate_left
  · ((intro W hW; clear hW; go_simp) <;> with_reducible rfl)
  simp only [Act.put, List.getElem_toArray, List.getElem_cons_zero, List.getElem_cons_succ, List.setIfInBounds_toArray, List.set_cons_zero, List.set_cons_succ]
  refine wpAnyH_take (i := 3) (v := ?_) rfl (by kernel_rfl) (by kernel_rfl) (by kernel_rfl) (fun _ _ _ h => h) (Or.inl ⟨by rfl, ?_⟩) hH ?_
  rotate_left
  · ((intro W hW; clear hW; go_simp) <;> with_reducible rfl)
  simp only [Act.put, List.getElem_toArray, List.getElem_cons_zero, List.getElem_cons_succ, List.setIfInBounds_toArray, List.set_cons_zero, List.set_cons_succ]
  refine wpAnyH_take (i := 4) (v := ?_) rfl (by kernel_rfl) (by kernel_rfl) (by kernel_rfl) (fun _ _ _ h => h) (Or.inl ⟨by rfl, ?_⟩) hH ?_
  rotate_left
  · ((intro W hW; clear hW; go_simp) <;> with_reducible rfl)
  simp only [Act.put, List.getElem_toArray, List.getElem_cons_zero, List.getElem_cons_succ, List.setIfInBounds_toArray, List.set_cons_zero, List.set_cons_succ]
  refine wpAnyH_take (i := 5) (v := ?_) rfl (by kernel_rfl) (by kernel_rfl) (by kernel_rfl) (fun _ _ _ h => h) (Or.inl ⟨by rfl, ?_⟩) hH ?_
  rotate_left
  · ((intro W hW; clear hW; go_simp) <;> with_reducible rfl)
  simp only [Act.put, List.getElem_toArray, List.getElem_cons_zero, List.getElem_cons_succ, List.setIfInBounds_toArray, List.set_cons_zero, List.set_cons_succ]
  refine wpAnyH_take (i := 6) (v := ?_) rfl (by kernel_rfl) (by kernel_rfl) (by kernel_rfl) (fun _ _ _ h => h) (Or.inl ⟨by rfl, ?_⟩) hH ?_
  rotate_left
  · ((intro W hW; clear hW; go_simp) <;> with_reducible rfl)
  simp only [Act.put, List.getElem_toArray, List.getElem_cons_zero, List.getElem_cons_succ, List.setIfInBounds_toArray, List.set_cons_zero, List.set_cons_succ]
  refine wpAnyH_take (i := 7) (v := ?_) rfl (by kernel_rfl) (by kernel_rfl) (by kernel_rfl) (fun _ _ _ h => h) (Or.inl ⟨by rfl, ?_⟩) hH ?_
  rotate_left
  · ((intro W hW; clear hW; go_simp) <;> with_reducible rfl)
  simp only [Act.put, List.getElem_toArray, List.getElem_cons_zero, List.getElem_cons_succ, List.setIfInBounds_toArray, List.set_cons_zero, List.set_cons_succ]
  refine wpAnyH_take (i := 8) (v := ?_) rfl (by kernel_rfl) (by kernel_rfl) (by kernel_rfl) (fun _ _ _ h => h) (Or.inl ⟨by rfl, ?_⟩) hH ?_
  rotate_left
  · ((intro W hW; clear hW; go_simp) <;> with_reducible rfl)
  simp only [Act.put, List.getElem_toArray, List.getElem_cons_zero, List.getElem_cons_succ, List.setIfInBounds_toArray, List.set_cons_zero, List.set_cons_succ]
  refine wpAnyH_take (i := 9) (v := ?_) rfl (by kernel_rfl) (by kernel_rfl) (by kernel_rfl) (fun _ _ _ h => h) (Or.inl ⟨by rfl, ?_⟩) hH ?_
  rotate_left
  · ((intro W hW; clear hW; go_simp) <;> with_reducible rfl)
  simp only [Act.put, List.getElem_toArray, List.getElem_cons_zero, List.getElem_cons_succ, List.setIfInBounds_toArray, List.set_cons_zero, List.set_cons_succ]
  refine wpAnyH_take (i := 10) (v := ?_) rfl (by kernel_rfl) (by kernel_rfl) (by kernel_rfl) (fun _ _ _ h => h) (Or.inl ⟨by rfl, ?_⟩) hH ?_
  rotate_left
  · ((intro W hW; clear hW; go_simp) <;> with_reducible rfl)
  simp only [Act.put, List.getElem_toArray, List.getElem_cons_zero, List.getElem_cons_succ, List.setIfInBounds_toArray, List.set_cons_zero, List.set_cons_succ]
  refine wpAnyH_take (i := 11) (v := .agg #[.int .i64 1, .int .i64 0, .int .u32 9, .int .i64 0, .int .i64 0, .int .u8 10, .int .u8 0, .int .u8 0, .int .u8 5, .int .u8 0, .int .u8 0, .int .u8 0, .int .u8 0, .int .u8 0, .int .u8 0, .int .u8 0, .int .u8 0, .int .u8 0, .int .u8 0, .int .u8 0, .int .u8 0, .int .u8 2, .int .u8 0, .int .u8 0, .int .u8 0, .int .u8 0, .int .u8 2, .slice A_lb n_lb c_lb]) rfl (by kernel_rfl) (by kernel_rfl) (by kernel_rfl) (fun _ _ _ h => h) (yieldsIf_load_part (by kernel_rfl) 37 _ rfl g_lb 0 28 rfl _ 37 (0, 0) (fun W hW => hW.1) _ rfl _ Try.underlying37 rfl (by kernel_rfl)) hH ?_
  simp only [Act.put, List.getElem_toArray, List.getElem_cons_zero, List.getElem_cons_succ, List.setIfInBounds_toArray, List.set_cons_zero, List.set_cons_succ]
  refine wpAnyH_ready (rs := [12]) (by kernel_rfl) (by simp) ?_
  refine AllReadyH.cons (o := _) rfl (fun K hK => ?_) AllReadyH.nil
  simp only [List.getElem_toArray, List.getElem_cons_zero, List.getElem_cons_succ]
  go_simp
  with_reducible refine (ltype_a (k := 3) _ hPlb (by rw [HTlb.out]; kernel_rfl)).mono ?_
  rintro e w14 ⟨rfl, b14⟩
  dsimp only
  replace hya := blk_u hya b14
  replace hlb := blk_u hlb b14
  replace hT := hT.below b14
  replace hPlb := hPlb.below b14
  replace bel := bel.trans (b14.mono bel.size)
  clear b14
  refine hK.out _ _ ⟨hlb, hya⟩ (fun hH15 => ?_)
  clear hK K
  refine wpAnyH_take (i := 13) (v := ?_) rfl (by kernel_rfl) (by kernel_rfl) (by kernel_rfl) (fun _ _ _ h => h) (Or.inl ⟨by rfl, ?_⟩) hH15 ?_
  rotate_left
  · ((intro W hW; clear hW; go_simp) <;> with_reducible rfl)
  simp only [Act.put, List.getElem_toArray, List.getElem_cons_zero, List.getElem_cons_succ, List.setIfInBounds_toArray, List.set_cons_zero, List.set_cons_succ]
  refine wpAnyH_take (i := 14) (v := ?_) rfl (by kernel_rfl) (by kernel_rfl) (by kernel_rfl) (fun _ _ _ h => h) (Or.inl ⟨by rfl, ?_⟩) hH15 ?_
  rotate_left
  · ((intro W hW; clear hW; go_simp) <;> with_reducible rfl)
  simp only [Act.put, List.getElem_toArray, List.getElem_cons_zero, List.getElem_cons_succ, List.setIfInBounds_toArray, List.set_cons_zero, List.set_cons_succ]
  refine wpAnyH_take (i := 15) (v := ?_) rfl (by kernel_rfl) (by kernel_rfl) (by kernel_rfl) (fun _ _ _ h => h) (Or.inl ⟨by rfl, ?_⟩) hH15 ?_
  rotate_left
  · ((intro W hW; clear hW; go_simp) <;> with_reducible rfl)
  simp only [Act.put, List.getElem_toArray, List.getElem_cons_zero, List.getElem_cons_succ, List.setIfInBounds_toArray, List.set_cons_zero, List.set_cons_succ]
  refine wpAnyH_take (i := 16) (v := ?_) rfl (by kernel_rfl) (by kernel_rfl) (by kernel_rfl) (fun _ _ _ h => h) (Or.inl ⟨by rfl, ?_⟩) hH15 ?_
  rotate_left
  · ((intro W hW; clear hW; go_simp) <;> with_reducible rfl)
  simp only [Act.put, List.getElem_toArray, List.getElem_cons_zero, List.getElem_cons_succ, List.setIfInBounds_toArray, List.set_cons_zero, List.set_cons_succ]
  refine wpAnyH_take (i := 17) (v := ?_) rfl (by kernel_rfl) (by kernel_rfl) (by kernel_rfl) (fun _ _ _ h => h) (Or.inl ⟨by rfl, ?_⟩) hH15 ?_
  rotate_left
  · ((intro W hW; clear hW; go_simp) <;> with_reducible rfl)
  simp only [Act.put, List.getElem_toArray, List.getElem_cons_zero, List.getElem_cons_succ, List.setIfInBounds_toArray, List.set_cons_zero, List.set_cons_succ]
  refine wpAnyH_take (i := 18) (v := ?_) rfl (by kernel_rfl) (by kernel_rfl) (by kernel_rfl) (fun _ _ _ h => h) (Or.inl ⟨by rfl, ?_⟩) hH15 ?_
  rotate_left
  · ((intro W hW; clear hW; go_simp) <;> with_reducible rfl)
  simp only [Act.put, List.getElem_toArray, List.getElem_cons_zero, List.getElem_cons_succ, List.setIfInBounds_toArray, List.set_cons_zero, List.set_cons_succ]
  refine wpAnyH_take (i := 19) (v := .agg #[.int .u8 10, .int .u8 0, .int .u8 0, .int .u8 5]) rfl (by kernel_rfl) (by kernel_rfl) (by kernel_rfl) (fun _ _ _ h => h) (yieldsIf_load_part (by kernel_rfl) 34 _ rfl g_lb 5 4 rfl _ 37 (0, 0) (fun W hW => hW.1) _ rfl _ Try.underlying34 rfl (by kernel_rfl)) hH15 ?_
  simp only [Act.put, List.getElem_toArray, List.getElem_cons_zero, List.getElem_cons_succ, List.setIfInBounds_toArray, List.set_cons_zero, List.set_cons_succ]
  refine wpAnyH_take (i := 20) (v := .agg #[.int .u8 10, .int .u8 0, .int .u8 0, .int .u8 5]) rfl (by kernel_rfl) (by kernel_rfl) (by kernel_rfl) (fun _ _ _ h => h) (yieldsIf_load_part (by kernel_rfl) 34 _ rfl g8 0 4 rfl _ 34 (0, 0) (fun W hW => hW.2) _ rfl _ Try.underlying34 rfl (by kernel_rfl)) hH15 ?_
  simp only [Act.put, List.getElem_toArray, List.getElem_cons_zero, List.getElem_cons_succ, List.setIfInBounds_toArray, List.set_cons_zero, List.set_cons_succ]
  refine wpAnyH_take (i := 21) (v := ?_) rfl (by kernel_rfl) (by kernel_rfl) (by kernel_rfl) (fun _ _ _ h => h) (Or.inl ⟨by rfl, ?_⟩) hH15 ?_
  rotate_left
  · ((intro W hW; clear hW; go_simp) <;> with_reducible rfl)
  simp only [Act.put, List.getElem_toArray, List.getElem_cons_zero, List.getElem_cons_succ, List.setIfInBounds_toArray, List.set_cons_zero, List.set_cons_succ]
  refine wpAnyH_take (i := 22) (v := ?_) rfl (by kernel_rfl) (by kernel_rfl) (by kernel_rfl) (fun _ _ _ h => h) (Or.inl ⟨by rfl, ?_⟩) hH15 ?_
  rotate_left
  · ((intro W hW; clear hW; go_simp) <;> with_reducible rfl)
  simp only [Act.put, List.getElem_toArray, List.getElem_cons_zero, List.getElem_cons_succ, List.setIfInBounds_toArray, List.set_cons_zero, List.set_cons_succ]
  refine wpAnyH_take (i := 23) (v := ?_) rfl (by kernel_rfl) (by kernel_rfl) (by kernel_rfl) (fun _ _ _ h => h) (Or.inl ⟨by rfl, ?_⟩) hH15 ?_
  rotate_left
  · ((intro W hW; clear hW; go_simp) <;> with_reducible rfl)
  simp only [Act.put, List.getElem_toArray, List.getElem_cons_zero, List.getElem_cons_succ, List.setIfInBounds_toArray, List.set_cons_zero, List.set_cons_succ]
  refine wpAnyH_take (i := 24) (v := ?_) rfl (by kernel_rfl) (by kernel_rfl) (by kernel_rfl) (fun _ _ _ h => h) (Or.inl ⟨by rfl, ?_⟩) hH15 ?_
  rotate_left
  · ((intro W hW; clear hW; go_simp) <;> with_reducible rfl)
  simp only [Act.put, List.getElem_toArray, List.getElem_cons_zero, List.getElem_cons_succ, List.setIfInBounds_toArray, List.set_cons_zero, List.set_cons_succ]
  refine wpAnyH_take (i := 25) (v := ?_) rfl (by kernel_rfl) (by kernel_rfl) (by kernel_rfl) (fun _ _ _ h => h) (Or.inl ⟨by rfl, ?_⟩) hH15 ?_
  rotate_left
  · ((intro W hW; clear hW; go_simp) <;> with_reducible rfl)
  simp only [Act.put, List.getElem_toArray, List.getElem_cons_zero, List.getElem_cons_succ, List.setIfInBounds_toArray, List.set_cons_zero, List.set_cons_succ]
  refine wpAnyH_take (i := 26) (v := ?_) rfl (by kernel_rfl) (by kernel_rfl) (by kernel_rfl) (fun _ _ _ h => h) (Or.inl ⟨by rfl, ?_⟩) hH15 ?_
  rotate_left
  · ((intro W hW; clear hW; go_simp) <;> with_reducible rfl)
  simp only [Act.put, List.getElem_toArray, List.getElem_cons_zero, List.getElem_cons_succ, List.setIfInBounds_toArray, List.set_cons_zero, List.set_cons_succ]
  refine wpAnyH_take (i := 27) (v := ?_) rfl (by kernel_rfl) (by kernel_rfl) (by kernel_rfl) (fun _ _ _ h => h) (Or.inl ⟨by rfl, ?_⟩) hH15 ?_
  rotate_left
  · ((intro W hW; have hk := cell_lit (hW.1) 2 _ rfl; clear hW; go_simp) <;> with_reducible rfl)
  simp only [Act.put, List.getElem_toArray, List.getElem_cons_zero, List.getElem_cons_succ, List.setIfInBounds_toArray, List.set_cons_zero, List.set_cons_succ]
  refine wpAnyH_take (i := 28) (v := ?_) rfl (by kernel_rfl) (by kernel_rfl) (by kernel_rfl) (fun _ _ _ h => h) (Or.inl ⟨by rfl, ?_⟩) hH15 ?_
  rotate_left
  · ((intro W hW; clear hW; go_simp) <;> with_reducible rfl)
  simp only [Act.put, List.getElem_toArray, List.getElem_cons_zero, List.getElem_cons_succ, List.setIfInBounds_toArray, List.set_cons_zero, List.set_cons_succ]
  refine wpAnyH_take (i := 29) (v := ?_) rfl (by kernel_rfl) (by kernel_rfl) (by kernel_rfl) (fun _ _ _ h => h) (Or.inl ⟨by rfl, ?_⟩) hH15 ?_
  rotate_left
  · ((intro W hW; clear hW; go_simp) <;> with_reducible rfl)
  simp only [Act.put, List.getElem_toArray, List.getElem_cons_zero, List.getElem_cons_succ, List.setIfInBounds_toArray, List.set_cons_zero, List.set_cons_succ]
  refine wpAnyH_take (i := 30) (v := ?_) rfl (by kernel_rfl) (by kernel_rfl) (by kernel_rfl) (fun _ _ _ h => h) (Or.inl ⟨by rfl, ?_⟩) hH15 ?_
  rotate_left
  · ((intro W hW; clear hW; go_simp) <;> with_reducible rfl)
  simp only [Act.put, List.getElem_toArray, List.getElem_cons_zero, List.getElem_cons_succ, List.setIfInBounds_toArray, List.set_cons_zero, List.set_cons_succ]
  refine wpAnyH_take (i := 31) (v := ?_) rfl (by kernel_rfl) (by kernel_rfl) (by kernel_rfl) (fun _ _ _ h => h) (Or.inl ⟨by rfl, ?_⟩) hH15 ?_
  rotate_left
  · ((intro W hW; clear hW; go_simp) <;> with_reducible rfl)
  simp only [Act.put, List.getElem_toArray, List.getElem_cons_zero, List.getElem_cons_succ, List.setIfInBounds_toArray, List.set_cons_zero, List.set_cons_succ]
  refine wpAnyH_ready (rs := [32]) (by kernel_rfl) (by simp) ?_
  refine AllReadyH.cons (o := _) rfl (fun K hK => ?_) AllReadyH.nil
  simp only [List.getElem_toArray, List.getElem_cons_zero, List.getElem_cons_succ]
  go_simp
  with_reducible refine (lstate _ hT).mono ?_
  rintro e _ ⟨rfl, rfl⟩
  dsimp only
  refine hK.out _ _ ⟨hlb, hya⟩ (fun hH16 => ?_)
  clear hK K
  refine wpAnyH_take (i := 33) (v := ?_) rfl (by kernel_rfl) (by kernel_rfl) (by kernel_rfl) (fun _ _ _ h => h) (Or.inl ⟨by rfl, ?_⟩) hH16 ?_
  rotate_left
  · ((intro W hW; clear hW; go_simp) <;> with_reducible rfl)
  simp only [Act.put, List.getElem_toArray, List.getElem_cons_zero, List.getElem_cons_succ, List.setIfInBounds_toArray, List.set_cons_zero, List.set_cons_succ]
  refine wpAnyH_take (i := 34) (v := ?_) rfl (by kernel_rfl) (by kernel_rfl) (by kernel_rfl) (fun _ _ _ h => h) (Or.inl ⟨by rfl, ?_⟩) hH16 ?_
  rotate_left
  · ((intro W hW; clear hW; go_simp) <;> with_reducible rfl)
  simp only [Act.put, List.getElem_toArray, List.getElem_cons_zero, List.getElem_cons_succ, List.setIfInBounds_toArray, List.set_cons_zero, List.set_cons_succ]
  refine wpAnyH_done (by kernel_rfl) ?_ _
  rcases answer with _ | _
  · go_wp2_with fail
    go_wp2_with fail
    with_reducible refine (ltick_4go _ hT (by have h0_ := HS60.out; have h1_ := HS5.out; have h2_ := HA0.out; have h3_ := HA1.out; have h4_ := HHF.out; have h5_ := HS8.out; have h6_ := HU1.out; have h7_ := HHM.out; have h8_ := HUE.out; omega) (by have h0_ := HS60.out; have h1_ := HS5.out; have h2_ := HA0.out; have h3_ := HA1.out; have h4_ := HHF.out; have h5_ := HS8.out; have h6_ := HU1.out; have h7_ := HHM.out; have h8_ := HUE.out; omega) (decide_eq_false (by have h0_ := HS60.out; have h1_ := HS5.out; have h2_ := HA0.out; have h3_ := HA1.out; have h4_ := HHF.out; have h5_ := HS8.out; have h6_ := HU1.out; have h7_ := HHM.out; have h8_ := HUE.out; omega)) (by have h0_ := HS60.out; have h1_ := HS5.out; have h2_ := HA0.out; have h3_ := HA1.out; have h4_ := HHF.out; have h5_ := HS8.out; have h6_ := HU1.out; have h7_ := HHM.out; have h8_ := HUE.out; omega)).mono ?_
    rintro e w17 ⟨g_lz, rfl, hm_, hT_, k_, bb⟩
    replace hya := Kt.blk k_ hya (by decide)
    replace hlb := Kt.blk k_ hlb (by decide)
    replace hPlb := hPlb.kt k_
    clear hT
    have hT := hT_
    replace bel := bel.trans bb
    clear bb k_ hT_
    obtain ⟨A_lz, n_lz, c_lz, hs_lz, L_lz, hlz, hPlz, ht_⟩ := hm_
    have HTlz := Lib.hid ht_
    clear ht_
    replace hlz : w17.heap[g_lz]? = some (.cells #[.int .i64 1, .int .i64 0, .int .u32 9, .int .i64 0, .int .i64 0, .int .u8 10, .int .u8 0, .int .u8 0, .int .u8 5, .int .u8 0, .int .u8 0, .int .u8 0, .int .u8 0, .int .u8 0, .int .u8 0, .int .u8 0, .int .u8 0, .int .u8 0, .int .u8 0, .int .u8 0, .int .u8 0, .int .u8 2, .int .u8 0, .int .u8 0, .int .u8 0, .int .u8 0, .int .u8 2, .slice A_lz n_lz c_lz] 37 (0, 0)) := hlz
    go_wp2_with fail
    with_reducible refine (lstate _ hT).mono ?_
    rintro e _ ⟨rfl, rfl⟩
    have R152 := cell_lit hlz 2 _ rfl
    go_wp2_with fail
    clear R152
    go_ret
    exact ⟨rfl, bel⟩
  obtain ⟨x1, hx1_⟩ : ∃ x, IntKind.i64.wrap (hf + secs / 2) = x := ⟨_, rfl⟩
  obtain ⟨x2, hx2_⟩ : ∃ x, IntKind.i64.wrap (hf + secs * 7 / 8) = x := ⟨_, rfl⟩
  have HX1 := Lib.hid hx1_
  have HX2 := Lib.hid hx2_
  clear hx1_ hx2_
  have R101 := Lib.hid (range_lit hya 0 4 [.int .u8 10, .int .u8 0, .int .u8 0, .int .u8 5] rfl)
  go_wp2_with (first | ((with_reducible show wpList _ _ _ (⟨some 101, _, _, _, _, _⟩ :: _) _ _); refine wpList_load_rng 34 (.tmp 8) rfl (by kernel_rfl) _ _ rfl _ R101.out _ Try.underlying34 rfl (by kernel_rfl) ?_))
  try clear R101
  with_reducible refine (lword (kb := 5) _ rfl).mono ?_
  rintro e w17 ⟨Ao, co, rfl, hw_, b17⟩
  replace hya := blk_u hya b17
  replace hlb := blk_u hlb b17
  replace hT := hT.below b17
  replace hPlb := hPlb.below b17
  replace bel := bel.trans (b17.mono bel.size)
  clear b17
  obtain ⟨hso, ho⟩ := hw_
  go_wp2_with fail
  go_wp2_with fail
  with_reducible refine (lget_ack_4 (nu := ue) (n1 := x1) (n2 := x2) _ hT (by have h0_ := HS60.out; have h1_ := HS5.out; have h2_ := HA0.out; have h3_ := HA1.out; have h4_ := HHF.out; have h5_ := HS8.out; have h6_ := HU1.out; have h7_ := HHM.out; have h8_ := HUE.out; omega) (by have h0_ := HS60.out; have h1_ := HS5.out; have h2_ := HA0.out; have h3_ := HA1.out; have h4_ := HHF.out; have h5_ := HS8.out; have h6_ := HU1.out; have h7_ := HHM.out; have h8_ := HUE.out; omega) ho (fun W => by kernel_rfl) (wl_5 _) (wl_54 _ _) (fun W => by kernel_rfl) (fun W => by kernel_rfl) (fun W => by kernel_rfl) (wl_51 _ (by have h0_ := HS60.out; have h1_ := HS5.out; have h2_ := HA0.out; have h3_ := HA1.out; have h4_ := HHF.out; have h5_ := HS8.out; have h6_ := HU1.out; have h7_ := HHM.out; have h8_ := HUE.out; omega) (by have h0_ := HS60.out; have h1_ := HS5.out; have h2_ := HA0.out; have h3_ := HA1.out; have h4_ := HHF.out; have h5_ := HS8.out; have h6_ := HU1.out; have h7_ := HHM.out; have h8_ := HUE.out; omega)) (by have h0_ := HS60.out; have h1_ := HS5.out; have h2_ := HA0.out; have h3_ := HA1.out; have h4_ := HHF.out; have h5_ := HS8.out; have h6_ := HU1.out; have h7_ := HHM.out; have h8_ := HUE.out; omega) (by have h0_ := HS60.out; have h1_ := HS5.out; have h2_ := HA0.out; have h3_ := HA1.out; have h4_ := HHF.out; have h5_ := HS8.out; have h6_ := HU1.out; have h7_ := HHM.out; have h8_ := HUE.out; omega) (wl_1 _ _) (wl_3 _ _) WUE.out HX1.out HX2.out).mono ?_
  rintro e w18 ⟨rfl, hT_, k_, bb⟩
  replace hya := Kt.blk k_ hya (by decide)
  replace hlb := Kt.blk k_ hlb (by decide)
  replace hPlb := hPlb.kt k_
  replace ho := ho.kt k_
  clear hT
  have hT := hT_
  replace bel := bel.trans bb
  clear bb k_ hT_
  clear ho
  go_wp2_with fail
  with_reducible refine (lbound_yes _ hT (by decide)).mono ?_
  rintro e w19 ⟨rfl, b19⟩
  replace hya := blk_u hya b19
  replace hlb := blk_u hlb b19
  replace hT := hT.below b19
  replace hPlb := hPlb.below b19
  replace bel := bel.trans (b19.mono bel.size)
  clear b19
  go_wp2_with (first | ((with_reducible show wpList _ _ _ (⟨some 14, _, _, _, _, _⟩ :: _) _ _); refine wpList_new_a rfl 41 rfl #[.int .u8 0, .int .u8 0, .int .u8 0, .int .u8 0, .int .u8 0, .int .u8 0, .int .u8 0, .int .u8 0, .int .u8 0, .int .u8 0, .int .u8 0, .int .u8 0, .int .u8 0, .int .u8 0, .int .u8 0, .int .u8 0, .int .i64 0] (by kernel_rfl) ?_; intro g14 w20 ge hh bb; have d_ya_hb := ne_new (hlt hya) ge; have d_lb_hb := ne_new (hlt hlb) ge; have ohb := Nat.le_trans bel.size ge; have oahPlb_hb := hPlb.oa ge; replace hya := blk_u hya bb; replace hlb := blk_u hlb bb; replace hT := hT.below bb; replace hPlb := hPlb.below bb; replace bel := bel.trans (bb.mono bel.size); have hhb := hh; clear hh ge bb) | ((with_reducible show wpList _ _ _ (⟨none, Op.store _ (.tmp 14) _, _, _, _, _⟩ :: _) _ _); refine wpList_store_blk rfl 41 (.tmp 14) (.tmp 111) rfl g14 rfl _ rfl _ 41 hhb (by rfl) (by kernel_rfl) (by kernel_rfl) ?_; intro w21 hq gr; replace hya := blk_a hya gr d_ya_hb; replace hlb := blk_a hlb gr d_lb_hb; replace hT := hT.grown gr hhb (by decide); replace hPlb := hPlb.away oahPlb_hb gr; replace bel := below_grown bel gr ohb bel.size; clear hhb; have hhb := hq; clear hq gr))
  with_reducible refine (lstate _ hT).mono ?_
  rintro e _ ⟨rfl, rfl⟩
  have R125 := cell_lit hhb 16 _ rfl
  go_wp2_with fail
  clear R125
  go_ret
  exact ⟨rfl, bel⟩
end Go.Proofs.Ytjfboofnffghjaa
