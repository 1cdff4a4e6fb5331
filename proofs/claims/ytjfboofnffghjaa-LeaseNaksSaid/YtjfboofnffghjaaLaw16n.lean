/- LeaseNaks. -/
import Derived.Test.YtjfboofnffghjaaLaw16
namespace Go.Proofs.Ytjfboofnffghjaa
open Go.RowKit

set_option linter.unusedVariables false in
set_option linter.unusedSimpArgs false in
set_option maxRecDepth 100000 in
set_option maxHeartbeats 16000000 in
theorem leaseNaks_walk (when_ secs : Int) (w : World) : Calls Try.prog 8 #[.int .i64 when_, .int .u32 secs] w fun e w' => e = .returned (.bool true) ∧ Below w.heap.size w w' := by
  have bel := Below.refl w.heap.size w
  go_enter Try.func8, Try.ntmps8
  go_wp2_with fail
  with_reducible refine (lawake _).mono ?_
  rintro e w1 ⟨rfl, b1⟩
  replace bel := bel.trans (b1.mono bel.size)
  clear b1
  by_cases c0 : when_ < 0
  · go_wp2_with fail
    go_ret
    exact ⟨rfl, bel⟩
  have Hc0 : Hid (0 ≤ when_) := Lib.hid (by omega)
  replace c0 : decide (when_ < 0) = false := decide_eq_false c0
  by_cases c1 : 2 < when_
  · go_wp2_with fail
    go_ret
    exact ⟨rfl, bel⟩
  have Hc1 : Hid (when_ ≤ 2) := Lib.hid (by omega)
  replace c1 : decide (2 < when_) = false := decide_eq_false c1
  by_cases c2 : secs < 100
  · go_wp2_with fail
    go_ret
    exact ⟨rfl, bel⟩
  have Hc2 : Hid (100 ≤ secs) := Lib.hid (by omega)
  replace c2 : decide (secs < 100) = false := decide_eq_false c2
  by_cases c3 : 1000 < secs
  · go_wp2_with fail
    go_ret
    exact ⟨rfl, bel⟩
  have Hc3 : Hid (secs ≤ 1000) := Lib.hid (by omega)
  replace c3 : decide (1000 < secs) = false := decide_eq_false c3
  have := Hc0.out
  have := Hc1.out
  have := Hc2.out
  have := Hc3.out
  have HW : Hid (when_ = 0 ∨ when_ = 1 ∨ when_ = 2) := Lib.hid (by omega)
  have HS1 : Hid (100 ≤ secs) := Lib.hid (by omega)
  have HS5 : Hid (secs ≤ 1000) := Lib.hid (by omega)
  obtain ⟨hf, hhf_⟩ : ∃ x, x = secs / 2 := ⟨_, rfl⟩
  obtain ⟨s8, hs8_⟩ : ∃ x, x = secs * 7 / 8 := ⟨_, rfl⟩
  obtain ⟨u1, hu1_⟩ : ∃ x, x = secs := ⟨_, rfl⟩
  have HHF := Lib.hid hhf_
  have HS8 := Lib.hid hs8_
  have HU1 := Lib.hid hu1_
  have hws : IntKind.i64.wrap secs = secs := IntWalk.i64_in _ (by omega)
  have hw7 : IntKind.i64.wrap (secs * 7) = secs * 7 := IntWalk.i64_in _ (by omega)
  have hq2 : Int.tdiv secs 2 = secs / 2 := Int.tdiv_eq_ediv_of_nonneg (by omega)
  have hq8 : Int.tdiv (secs * 7) 8 = secs * 7 / 8 := Int.tdiv_eq_ediv_of_nonneg (by omega)
  have hwh : IntKind.i64.wrap (secs / 2) = hf := by rw [hhf_]; exact IntWalk.i64_in _ (by omega)
  have hwe : IntKind.i64.wrap (secs * 7 / 8) = s8 := by rw [hs8_]; exact IntWalk.i64_in _ (by omega)
  have WU1 : Hid (IntKind.i64.wrap (0 + secs) = u1) := Lib.hid (by rw [hu1_, Int.zero_add]; exact hws)
  have WHF : Hid (IntKind.i64.wrap (0 + secs / 2) = hf) := Lib.hid (by rw [Int.zero_add]; exact hwh)
  have WS8 : Hid (IntKind.i64.wrap (0 + secs * 7 / 8) = s8) := Lib.hid (by rw [Int.zero_add]; exact hwe)
  have s0_ : 0 ≤ secs := by omega
  clear hhf_ hs8_ hu1_
  try clear c0
  try clear c1
  try clear c2
  try clear c3
  go_wp2_with fail
  with_reducible refine (lmac _).mono ?_
  rintro e w2 ⟨rfl, b2⟩
  replace bel := bel.trans (b2.mono bel.size)
  clear b2
  go_wp2_with fail
  have HLO_ := bel.size
  with_reducible refine (lnew _).mono ?_
  rintro e w3 ⟨gc, rfl, hT, b3⟩
  replace bel := bel.trans (b3.mono bel.size)
  clear b3
  replace hT : Cl w.heap.size gc w3 #[.int .u8 2, .int .u8 0, .int .u8 0, .int .u8 0, .int .u8 0, .int .u8 2, .int .i64 0, .int .i64 0, .int .u32 0, .int .i64 0, .int .i64 0, .int .i64 0, .int .u8 0, .int .u8 0, .int .u8 0, .int .u8 0, .int .u8 0, .int .u8 0, .int .u8 0, .int .u8 0, .int .u8 0, .int .u8 0, .int .u8 0, .int .u8 0, .int .u8 0, .int .u8 0, .int .u8 0, .int .u8 0, .int .i64 0, .int .i64 0, .int .i64 0] := hT.lo_mono HLO_
  clear HLO_
  go_wp2_with fail
  go_wp2_with fail
  with_reducible refine (ltick_new _ hT (by decide) (by decide)).mono ?_
  rintro e w4 ⟨g_x, rfl, _, hT_, k_, bb⟩
  clear hT
  have hT := hT_
  replace bel := bel.trans bb
  clear bb k_ hT_
  go_wp2_with fail
  with_reducible refine (lword (kb := 2) _ rfl).mono ?_
  rintro e w5 ⟨Ao, co, rfl, hw_, b5⟩
  replace hT := hT.below b5
  replace bel := bel.trans (b5.mono bel.size)
  clear b5
  obtain ⟨hso, ho⟩ := hw_
  go_wp2_with fail
  go_wp2_with fail
  with_reducible refine (lget_off _ hT (by decide) (by decide) ho (fun W => by kernel_rfl) (wl_2 _) (wl_54 _ _) (fun W => by kernel_rfl) by_5).mono ?_
  rintro e w6 ⟨g_x, rfl, _, hT_, k_, bb⟩
  replace ho := ho.kt k_
  clear hT
  have hT := hT_
  replace bel := bel.trans bb
  clear bb k_ hT_
  clear ho
  rcases HW.out with rfl | hw_
  · clear HW
    go_wp2_with fail
    with_reducible refine (lword (kb := 6) _ rfl).mono ?_
    rintro e w7 ⟨Ao, co, rfl, hw_, b7⟩
    replace hT := hT.below b7
    replace bel := bel.trans (b7.mono bel.size)
    clear b7
    obtain ⟨hso, ho⟩ := hw_
    go_wp2_with fail
    go_wp2_with fail
    with_reducible refine (lget_nak_2 _ hT (by have h0_ := HS1.out; have h1_ := HS5.out; have h2_ := HHF.out; have h3_ := HS8.out; have h4_ := HU1.out; omega) (by have h0_ := HS1.out; have h1_ := HS5.out; have h2_ := HHF.out; have h3_ := HS8.out; have h4_ := HU1.out; omega) ho (fun W => by kernel_rfl) (wl_6 _) (wl_54 _ _) (fun W => by kernel_rfl)).mono ?_
    rintro e w8 ⟨rfl, hT_, k_, bb⟩
    replace ho := ho.kt k_
    clear hT
    have hT := hT_
    replace bel := bel.trans bb
    clear bb k_ hT_
    clear ho
    go_wp2_with fail
    with_reducible refine (lbound_no _ hT (by decide)).mono ?_
    rintro e w9 ⟨rfl, b9⟩
    replace hT := hT.below b9
    replace bel := bel.trans (b9.mono bel.size)
    clear b9
    go_wp2_with (first | ((with_reducible show wpList _ _ _ (⟨some 10, _, _, _, _, _⟩ :: _) _ _); refine wpList_new_a rfl 41 rfl #[.int .u8 0, .int .u8 0, .int .u8 0, .int .u8 0, .int .u8 0, .int .u8 0, .int .u8 0, .int .u8 0, .int .u8 0, .int .u8 0, .int .u8 0, .int .u8 0, .int .u8 0, .int .u8 0, .int .u8 0, .int .u8 0, .int .i64 0] (by kernel_rfl) ?_; intro g10 w10 ge hh bb; have ohb := Nat.le_trans bel.size ge; replace hT := hT.below bb; replace bel := bel.trans (bb.mono bel.size); have hhb := hh; clear hh ge bb) | ((with_reducible show wpList _ _ _ (⟨none, Op.store _ (.tmp 10) _, _, _, _, _⟩ :: _) _ _); refine wpList_store_blk rfl 41 (.tmp 10) (.tmp 73) rfl g10 rfl _ rfl _ 41 hhb (by rfl) (by kernel_rfl) (by kernel_rfl) ?_; intro w11 hq gr; replace hT := hT.grown gr hhb (by decide); replace bel := below_grown bel gr ohb bel.size; clear hhb; have hhb := hq; clear hq gr))
    go_wp2_with fail
    with_reducible refine (ltick_new _ hT (by have h0_ := HS1.out; have h1_ := HS5.out; have h2_ := HHF.out; have h3_ := HS8.out; have h4_ := HU1.out; omega) (by have h0_ := HS1.out; have h1_ := HS5.out; have h2_ := HHF.out; have h3_ := HS8.out; have h4_ := HU1.out; omega)).mono ?_
    rintro e w12 ⟨g_x, rfl, _, hT_, k_, bb⟩
    replace hhb := Kt.blk k_ hhb (by decide)
    clear hT
    have hT := hT_
    replace bel := bel.trans bb
    clear bb k_ hT_
    go_wp2_with fail
    with_reducible refine (lstate _ hT).mono ?_
    rintro e _ ⟨rfl, rfl⟩
    go_wp2_with fail
    go_ret
    exact ⟨rfl, bel⟩
  clear HW
  rcases hw_ with rfl | rfl
  skip
  rotate_left
  · go_wp2_with fail
    with_reducible refine (lword (kb := 5) _ rfl).mono ?_
    rintro e w7 ⟨Ao, co, rfl, hw_, b7⟩
    replace hT := hT.below b7
    replace bel := bel.trans (b7.mono bel.size)
    clear b7
    obtain ⟨hso, ho⟩ := hw_
    go_wp2_with fail
    go_wp2_with fail
    with_reducible refine (lget_ack_2 (nu := u1) (n1 := hf) (n2 := s8) _ hT (by decide) (by decide) ho (fun W => by kernel_rfl) (wl_5 _) (wl_54 _ _) (fun W => by kernel_rfl) (fun W => by kernel_rfl) (wl_51 _ (by have h0_ := HS1.out; have h1_ := HS5.out; have h2_ := HHF.out; have h3_ := HS8.out; have h4_ := HU1.out; omega) (by have h0_ := HS1.out; have h1_ := HS5.out; have h2_ := HHF.out; have h3_ := HS8.out; have h4_ := HU1.out; omega)) (by have h0_ := HS1.out; have h1_ := HS5.out; have h2_ := HHF.out; have h3_ := HS8.out; have h4_ := HU1.out; omega) (by have h0_ := HS1.out; have h1_ := HS5.out; have h2_ := HHF.out; have h3_ := HS8.out; have h4_ := HU1.out; omega) (wl_1 _ _) (wl_3 _ _) WU1.out WHF.out WS8.out).mono ?_
    rintro e w8 ⟨rfl, hT_, k_, bb⟩
    replace ho := ho.kt k_
    clear hT
    have hT := hT_
    replace bel := bel.trans bb
    clear bb k_ hT_
    clear ho
    go_wp2_with fail
    go_wp2_with fail
    with_reducible refine (ltick_3yes _ hT (by have h0_ := HS1.out; have h1_ := HS5.out; have h2_ := HHF.out; have h3_ := HS8.out; have h4_ := HU1.out; omega) (by have h0_ := HS1.out; have h1_ := HS5.out; have h2_ := HHF.out; have h3_ := HS8.out; have h4_ := HU1.out; omega) (decide_eq_false (by have h0_ := HS1.out; have h1_ := HS5.out; have h2_ := HHF.out; have h3_ := HS8.out; have h4_ := HU1.out; omega)) (by simp)).mono ?_
    rintro e w9 ⟨g_x, rfl, _, hT_, k_, bb⟩
    clear hT
    have hT := hT_
    replace bel := bel.trans bb
    clear bb k_ hT_
    go_wp2_with fail
    go_wp2_with fail
    with_reducible refine (ltick_4go _ hT (by have h0_ := HS1.out; have h1_ := HS5.out; have h2_ := HHF.out; have h3_ := HS8.out; have h4_ := HU1.out; omega) (by have h0_ := HS1.out; have h1_ := HS5.out; have h2_ := HHF.out; have h3_ := HS8.out; have h4_ := HU1.out; omega) (decide_eq_false (by have h0_ := HS1.out; have h1_ := HS5.out; have h2_ := HHF.out; have h3_ := HS8.out; have h4_ := HU1.out; omega)) (Int.le_refl _)).mono ?_
    rintro e w10 ⟨g_x, rfl, _, hT_, k_, bb⟩
    clear hT
    have hT := hT_
    replace bel := bel.trans bb
    clear bb k_ hT_
    go_wp2_with fail
    with_reducible refine (lword (kb := 6) _ rfl).mono ?_
    rintro e w11 ⟨Ao, co, rfl, hw_, b11⟩
    replace hT := hT.below b11
    replace bel := bel.trans (b11.mono bel.size)
    clear b11
    obtain ⟨hso, ho⟩ := hw_
    go_wp2_with fail
    go_wp2_with fail
    with_reducible refine (lget_nak_5 _ hT (by have h0_ := HS1.out; have h1_ := HS5.out; have h2_ := HHF.out; have h3_ := HS8.out; have h4_ := HU1.out; omega) (by have h0_ := HS1.out; have h1_ := HS5.out; have h2_ := HHF.out; have h3_ := HS8.out; have h4_ := HU1.out; omega) ho (fun W => by kernel_rfl) (wl_6 _) (wl_54 _ _)).mono ?_
    rintro e w12 ⟨rfl, hT_, k_, bb⟩
    replace ho := ho.kt k_
    clear hT
    have hT := hT_
    replace bel := bel.trans bb
    clear bb k_ hT_
    clear ho
    go_wp2_with fail
    with_reducible refine (lbound_no _ hT (by decide)).mono ?_
    rintro e w13 ⟨rfl, b13⟩
    replace hT := hT.below b13
    replace bel := bel.trans (b13.mono bel.size)
    clear b13
    go_wp2_with (first | ((with_reducible show wpList _ _ _ (⟨some 10, _, _, _, _, _⟩ :: _) _ _); refine wpList_new_a rfl 41 rfl #[.int .u8 0, .int .u8 0, .int .u8 0, .int .u8 0, .int .u8 0, .int .u8 0, .int .u8 0, .int .u8 0, .int .u8 0, .int .u8 0, .int .u8 0, .int .u8 0, .int .u8 0, .int .u8 0, .int .u8 0, .int .u8 0, .int .i64 0] (by kernel_rfl) ?_; intro g10 w14 ge hh bb; have ohb := Nat.le_trans bel.size ge; replace hT := hT.below bb; replace bel := bel.trans (bb.mono bel.size); have hhb := hh; clear hh ge bb) | ((with_reducible show wpList _ _ _ (⟨none, Op.store _ (.tmp 10) _, _, _, _, _⟩ :: _) _ _); refine wpList_store_blk rfl 41 (.tmp 10) (.tmp 73) rfl g10 rfl _ rfl _ 41 hhb (by rfl) (by kernel_rfl) (by kernel_rfl) ?_; intro w15 hq gr; replace hT := hT.grown gr hhb (by decide); replace bel := below_grown bel gr ohb bel.size; clear hhb; have hhb := hq; clear hq gr))
    go_wp2_with fail
    with_reducible refine (ltick_new _ hT (by have h0_ := HS1.out; have h1_ := HS5.out; have h2_ := HHF.out; have h3_ := HS8.out; have h4_ := HU1.out; omega) (by have h0_ := HS1.out; have h1_ := HS5.out; have h2_ := HHF.out; have h3_ := HS8.out; have h4_ := HU1.out; omega)).mono ?_
    rintro e w16 ⟨g_x, rfl, _, hT_, k_, bb⟩
    replace hhb := Kt.blk k_ hhb (by decide)
    clear hT
    have hT := hT_
    replace bel := bel.trans bb
    clear bb k_ hT_
    go_wp2_with fail
    with_reducible refine (lstate _ hT).mono ?_
    rintro e _ ⟨rfl, rfl⟩
    go_wp2_with fail
    go_ret
    exact ⟨rfl, bel⟩
  go_wp2_with fail
  with_reducible refine (lword (kb := 5) _ rfl).mono ?_
  rintro e w7 ⟨Ao, co, rfl, hw_, b7⟩
  replace hT := hT.below b7
  replace bel := bel.trans (b7.mono bel.size)
  clear b7
  obtain ⟨hso, ho⟩ := hw_
  go_wp2_with fail
  go_wp2_with fail
  with_reducible refine (lget_ack_2 (nu := u1) (n1 := hf) (n2 := s8) _ hT (by decide) (by decide) ho (fun W => by kernel_rfl) (wl_5 _) (wl_54 _ _) (fun W => by kernel_rfl) (fun W => by kernel_rfl) (wl_51 _ (by have h0_ := HS1.out; have h1_ := HS5.out; have h2_ := HHF.out; have h3_ := HS8.out; have h4_ := HU1.out; omega) (by have h0_ := HS1.out; have h1_ := HS5.out; have h2_ := HHF.out; have h3_ := HS8.out; have h4_ := HU1.out; omega)) (by have h0_ := HS1.out; have h1_ := HS5.out; have h2_ := HHF.out; have h3_ := HS8.out; have h4_ := HU1.out; omega) (by have h0_ := HS1.out; have h1_ := HS5.out; have h2_ := HHF.out; have h3_ := HS8.out; have h4_ := HU1.out; omega) (wl_1 _ _) (wl_3 _ _) WU1.out WHF.out WS8.out).mono ?_
  rintro e w8 ⟨rfl, hT_, k_, bb⟩
  replace ho := ho.kt k_
  clear hT
  have hT := hT_
  replace bel := bel.trans bb
  clear bb k_ hT_
  clear ho
  go_wp2_with fail
  go_wp2_with fail
  with_reducible refine (ltick_3yes _ hT (by have h0_ := HS1.out; have h1_ := HS5.out; have h2_ := HHF.out; have h3_ := HS8.out; have h4_ := HU1.out; omega) (by have h0_ := HS1.out; have h1_ := HS5.out; have h2_ := HHF.out; have h3_ := HS8.out; have h4_ := HU1.out; omega) (decide_eq_false (by have h0_ := HS1.out; have h1_ := HS5.out; have h2_ := HHF.out; have h3_ := HS8.out; have h4_ := HU1.out; omega)) (by simp)).mono ?_
  rintro e w9 ⟨g_x, rfl, _, hT_, k_, bb⟩
  clear hT
  have hT := hT_
  replace bel := bel.trans bb
  clear bb k_ hT_
  go_wp2_with fail
  go_wp2_with fail
  with_reducible refine (ltick_4no _ hT (by have h0_ := HS1.out; have h1_ := HS5.out; have h2_ := HHF.out; have h3_ := HS8.out; have h4_ := HU1.out; omega) (by have h0_ := HS1.out; have h1_ := HS5.out; have h2_ := HHF.out; have h3_ := HS8.out; have h4_ := HU1.out; omega) (decide_eq_false (by have h0_ := HS1.out; have h1_ := HS5.out; have h2_ := HHF.out; have h3_ := HS8.out; have h4_ := HU1.out; omega)) (decide_eq_false (by have h0_ := HS1.out; have h1_ := HS5.out; have h2_ := HHF.out; have h3_ := HS8.out; have h4_ := HU1.out; omega)) (by rw [Int.sub_self]) (by decide)).mono ?_
  rintro e w10 ⟨rfl, hT_, k_, bb⟩
  clear hT
  have hT := hT_
  replace bel := bel.trans bb
  clear bb k_ hT_
  go_wp2_with fail
  with_reducible refine (lword (kb := 6) _ rfl).mono ?_
  rintro e w11 ⟨Ao, co, rfl, hw_, b11⟩
  replace hT := hT.below b11
  replace bel := bel.trans (b11.mono bel.size)
  clear b11
  obtain ⟨hso, ho⟩ := hw_
  go_wp2_with fail
  go_wp2_with fail
  with_reducible refine (lget_nak_4 _ hT (by have h0_ := HS1.out; have h1_ := HS5.out; have h2_ := HHF.out; have h3_ := HS8.out; have h4_ := HU1.out; omega) (by have h0_ := HS1.out; have h1_ := HS5.out; have h2_ := HHF.out; have h3_ := HS8.out; have h4_ := HU1.out; omega) ho (fun W => by kernel_rfl) (wl_6 _) (wl_54 _ _)).mono ?_
  rintro e w12 ⟨rfl, hT_, k_, bb⟩
  replace ho := ho.kt k_
  clear hT
  have hT := hT_
  replace bel := bel.trans bb
  clear bb k_ hT_
  clear ho
  go_wp2_with fail
  with_reducible refine (lbound_no _ hT (by decide)).mono ?_
  rintro e w13 ⟨rfl, b13⟩
  replace hT := hT.below b13
  replace bel := bel.trans (b13.mono bel.size)
  clear b13
  go_wp2_with (first | ((with_reducible show wpList _ _ _ (⟨some 10, _, _, _, _, _⟩ :: _) _ _); refine wpList_new_a rfl 41 rfl #[.int .u8 0, .int .u8 0, .int .u8 0, .int .u8 0, .int .u8 0, .int .u8 0, .int .u8 0, .int .u8 0, .int .u8 0, .int .u8 0, .int .u8 0, .int .u8 0, .int .u8 0, .int .u8 0, .int .u8 0, .int .u8 0, .int .i64 0] (by kernel_rfl) ?_; intro g10 w14 ge hh bb; have ohb := Nat.le_trans bel.size ge; replace hT := hT.below bb; replace bel := bel.trans (bb.mono bel.size); have hhb := hh; clear hh ge bb) | ((with_reducible show wpList _ _ _ (⟨none, Op.store _ (.tmp 10) _, _, _, _, _⟩ :: _) _ _); refine wpList_store_blk rfl 41 (.tmp 10) (.tmp 73) rfl g10 rfl _ rfl _ 41 hhb (by rfl) (by kernel_rfl) (by kernel_rfl) ?_; intro w15 hq gr; replace hT := hT.grown gr hhb (by decide); replace bel := below_grown bel gr ohb bel.size; clear hhb; have hhb := hq; clear hq gr))
  go_wp2_with fail
  with_reducible refine (ltick_new _ hT (by have h0_ := HS1.out; have h1_ := HS5.out; have h2_ := HHF.out; have h3_ := HS8.out; have h4_ := HU1.out; omega) (by have h0_ := HS1.out; have h1_ := HS5.out; have h2_ := HHF.out; have h3_ := HS8.out; have h4_ := HU1.out; omega)).mono ?_
  rintro e w16 ⟨g_x, rfl, _, hT_, k_, bb⟩
  replace hhb := Kt.blk k_ hhb (by decide)
  clear hT
  have hT := hT_
  replace bel := bel.trans bb
  clear bb k_ hT_
  go_wp2_with fail
  with_reducible refine (lstate _ hT).mono ?_
  rintro e _ ⟨rfl, rfl⟩
  go_wp2_with fail
  go_ret
  exact ⟨rfl, bel⟩
end Go.Proofs.Ytjfboofnffghjaa
