/- Texts put together: Ctr. -/
import Derived.Test.YtdfobilagidmfaaDoorQ15
namespace Go.Proofs.YtdfobilagidmfaaDoor
open Go.RowKit

theorem rtext_l (n : Int) (h0 : 0 ≤ n) (h1 : n ≤ 99999) (w : World) : Calls Tryd.prog 16 #[.int .i64 n] w fun e w' => e = .returned (.string ⟨(tN n).toArray⟩) ∧ Below w.heap.size w w' := by
  obtain ⟨m, rfl⟩ : ∃ m : Nat, n = (m : Int) := ⟨n.toNat, by omega⟩
  exact rtext_v rfl (by omega) w
theorem raddr_l (x : Ad4) (w : World) : Calls Tryd.prog 44 #[.agg #[.int .u8 (x.a.toNat : Int), .int .u8 (x.b.toNat : Int), .int .u8 (x.c.toNat : Int), .int .u8 (x.d.toNat : Int)]] w fun e w' => e = .returned (.string ⟨(tA x).toArray⟩) ∧ Below w.heap.size w w' := raddrtext_any _ _ _ _ w
theorem rmact_l (x : Mc6) (w : World) : Calls Tryd.prog 45 #[.agg #[.int .u8 (x.a.toNat : Int), .int .u8 (x.b.toNat : Int), .int .u8 (x.c.toNat : Int), .int .u8 (x.d.toNat : Int), .int .u8 (x.e.toNat : Int), .int .u8 (x.f.toNat : Int)]] w fun e w' => e = .returned (.string ⟨(tM x).toArray⟩) ∧ Below w.heap.size w w' := rmactext_any _ _ _ _ _ _ w
theorem rline_l (nm v : List UInt8) {z : List UInt8} (w : World) (hz : Hid (nm ++ [32, 61, 32] ++ v ++ [10] = z)) (h1 : nm.length ≤ 100) (h2 : v.length ≤ 100) : Calls Tryd.prog 43 #[.string ⟨nm.toArray⟩, .string ⟨v.toArray⟩] w fun e w' => e = .returned (.string ⟨z.toArray⟩) ∧ w = w' := by
  have k := line_any nm v w (by omega) (by omega)
  rw [hz.out] at k
  exact k
set_option linter.unusedVariables false in
set_option linter.unusedSimpArgs false in
set_option maxRecDepth 100000 in
set_option maxHeartbeats 16000000 in
theorem rnum_t (nm : List UInt8) (n : Int) {v z : List UInt8} (w : World) (HV : Hid (tN n = v)) (hz : Hid (nm ++ [32, 61, 32] ++ v ++ [10] = z)) (h1 : nm.length ≤ 100) (h2 : v.length ≤ 100) (hn : 0 ≤ n ∧ n ≤ 99999) : Calls Tryd.prog 46 #[.string ⟨nm.toArray⟩, .int .i64 n] w fun e w' => e = .returned (.string ⟨z.toArray⟩) ∧ Below w.heap.size w w' := by
  have bel := Below.refl w.heap.size w
  go_enter Tryd.func46, Tryd.ntmps46
  go_wp2_with fail
  with_reducible refine (rtext_l n hn.1 hn.2 _).mono ?_
  rintro e w1 ⟨rfl, b1⟩
  replace bel := bel.trans (b1.mono bel.size)
  clear b1
  rw [HV.out]
  go_wp2_with fail
  with_reducible refine (rline_l nm v _ hz h1 h2).mono ?_
  rintro e _ ⟨rfl, rfl⟩
  go_wp2_with fail
  go_ret
  exact ⟨rfl, bel⟩
set_option linter.unusedVariables false in
set_option linter.unusedSimpArgs false in
set_option maxRecDepth 100000 in
set_option maxHeartbeats 16000000 in
theorem rtext_c (c : Cf) (Fx : Option Addr) (nf cf : Nat) (Ox : Option Addr) (nx cx : Nat) (w : World) (hc : Hid (c.check = true)) (sF : Sle fxf 10 w Fx nf cf c.fixed) (sO : Sle opf 7 w Ox nx cx c.opens) : Calls Tryd.prog 14 #[.agg (cfl c Fx nf cf Ox nx cx).toArray] w fun e w' => e = .returned (.string ⟨(textS c).toArray⟩) ∧ Below w.heap.size w w' := by
  have HR := Lib.hid (check_rng hc.out)
  have nf32 : nf ≤ 32 := by have := sF.1; have := HR.out.fixed; omega
  have nx32 : nx ≤ 32 := by have := sO.1; have := HR.out.opens; omega
  obtain ⟨v0, v1, v2, v3, v4, v5, v6, v7, v8, v9, v10, l1, l2, l3, l4, l5, l6, l7, l8, l9, l10, l11, HV0, e0, HV1, e1, HV2, e2, HV3, e3, HV4, e4, HV5, e5, HV6, e6, HV7, e7, HV8, e8, HV9, e9, HV10, e10, HL1, k1, HL2, k2, HL3, k3, HL4, k4, HL5, k5, HL6, k6, HL7, k7, HL8, k8, HL9, k9, HL10, k10, HL11, k11, HHD⟩ := hd_parts HR.out
  have kz : (txt []).length = 0 := rfl
  obtain ⟨z0, h_⟩ : ∃ z, [108, 97, 110] ++ [32, 61, 32] ++ v0 ++ [10] = z := ⟨_, rfl⟩
  have HZ0 := Lib.hid h_
  have HT0 : Hid (txt ([] : List (List UInt8)) ++ z0 = txt l1) := Lib.hid (by rw [← h_]; exact (ln_snoc HL1.out).1.symm)
  have BT0 : Hid ((txt ([] : List (List UInt8))).length + z0.length ≤ 8388608) := Lib.hid (by have h2_ := congrArg List.length HT0.out; rw [List.length_append] at h2_; omega)
  clear h_
  obtain ⟨z1, h_⟩ : ∃ z, [108, 97, 110, 109, 97, 99] ++ [32, 61, 32] ++ v1 ++ [10] = z := ⟨_, rfl⟩
  have HZ1 := Lib.hid h_
  have HT1 : Hid (txt l1 ++ z1 = txt l2) := Lib.hid (by rw [← h_]; exact (ln_snoc HL2.out).1.symm)
  have BT1 : Hid ((txt l1).length + z1.length ≤ 8388608) := Lib.hid (by have h2_ := congrArg List.length HT1.out; rw [List.length_append] at h2_; omega)
  clear h_
  obtain ⟨z2, h_⟩ : ∃ z, [119, 97, 110, 109, 97, 99] ++ [32, 61, 32] ++ v2 ++ [10] = z := ⟨_, rfl⟩
  have HZ2 := Lib.hid h_
  have HT2 : Hid (txt l2 ++ z2 = txt l3) := Lib.hid (by rw [← h_]; exact (ln_snoc HL3.out).1.symm)
  have BT2 : Hid ((txt l2).length + z2.length ≤ 8388608) := Lib.hid (by have h2_ := congrArg List.length HT2.out; rw [List.length_append] at h2_; omega)
  clear h_
  obtain ⟨z3, h_⟩ : ∃ z, [102, 105, 114, 115, 116] ++ [32, 61, 32] ++ v3 ++ [10] = z := ⟨_, rfl⟩
  have HZ3 := Lib.hid h_
  have HT3 : Hid (txt l3 ++ z3 = txt l4) := Lib.hid (by rw [← h_]; exact (ln_snoc HL4.out).1.symm)
  have BT3 : Hid ((txt l3).length + z3.length ≤ 8388608) := Lib.hid (by have h2_ := congrArg List.length HT3.out; rw [List.length_append] at h2_; omega)
  clear h_
  obtain ⟨z4, h_⟩ : ∃ z, [108, 97, 115, 116] ++ [32, 61, 32] ++ v4 ++ [10] = z := ⟨_, rfl⟩
  have HZ4 := Lib.hid h_
  have HT4 : Hid (txt l4 ++ z4 = txt l5) := Lib.hid (by rw [← h_]; exact (ln_snoc HL5.out).1.symm)
  have BT4 : Hid ((txt l4).length + z4.length ≤ 8388608) := Lib.hid (by have h2_ := congrArg List.length HT4.out; rw [List.length_append] at h2_; omega)
  clear h_
  obtain ⟨z5, h_⟩ : ∃ z, [116, 105, 109, 101] ++ [32, 61, 32] ++ v5 ++ [10] = z := ⟨_, rfl⟩
  have HZ5 := Lib.hid h_
  have HT5 : Hid (txt l5 ++ z5 = txt l6) := Lib.hid (by rw [← h_]; exact (ln_snoc HL6.out).1.symm)
  have BT5 : Hid ((txt l5).length + z5.length ≤ 8388608) := Lib.hid (by have h2_ := congrArg List.length HT5.out; rw [List.length_append] at h2_; omega)
  clear h_
  obtain ⟨z6, h_⟩ : ∃ z, [100, 110, 115] ++ [32, 61, 32] ++ v6 ++ [10] = z := ⟨_, rfl⟩
  have HZ6 := Lib.hid h_
  have HT6 : Hid (txt l6 ++ z6 = txt l7) := Lib.hid (by rw [← h_]; exact (ln_snoc HL7.out).1.symm)
  have BT6 : Hid ((txt l6).length + z6.length ≤ 8388608) := Lib.hid (by have h2_ := congrArg List.length HT6.out; rw [List.length_append] at h2_; omega)
  clear h_
  obtain ⟨z7, h_⟩ : ∃ z, [117, 100, 112, 116, 105, 109, 101] ++ [32, 61, 32] ++ v7 ++ [10] = z := ⟨_, rfl⟩
  have HZ7 := Lib.hid h_
  have HT7 : Hid (txt l7 ++ z7 = txt l8) := Lib.hid (by rw [← h_]; exact (ln_snoc HL8.out).1.symm)
  have BT7 : Hid ((txt l7).length + z7.length ≤ 8388608) := Lib.hid (by have h2_ := congrArg List.length HT7.out; rw [List.length_append] at h2_; omega)
  clear h_
  obtain ⟨z8, h_⟩ : ∃ z, [116, 99, 112, 116, 105, 109, 101] ++ [32, 61, 32] ++ v8 ++ [10] = z := ⟨_, rfl⟩
  have HZ8 := Lib.hid h_
  have HT8 : Hid (txt l8 ++ z8 = txt l9) := Lib.hid (by rw [← h_]; exact (ln_snoc HL9.out).1.symm)
  have BT8 : Hid ((txt l8).length + z8.length ≤ 8388608) := Lib.hid (by have h2_ := congrArg List.length HT8.out; rw [List.length_append] at h2_; omega)
  clear h_
  obtain ⟨z9, h_⟩ : ∃ z, [105, 99, 109, 112, 116, 105, 109, 101] ++ [32, 61, 32] ++ v9 ++ [10] = z := ⟨_, rfl⟩
  have HZ9 := Lib.hid h_
  have HT9 : Hid (txt l9 ++ z9 = txt l10) := Lib.hid (by rw [← h_]; exact (ln_snoc HL10.out).1.symm)
  have BT9 : Hid ((txt l9).length + z9.length ≤ 8388608) := Lib.hid (by have h2_ := congrArg List.length HT9.out; rw [List.length_append] at h2_; omega)
  clear h_
  obtain ⟨z10, h_⟩ : ∃ z, [108, 111, 119] ++ [32, 61, 32] ++ v10 ++ [10] = z := ⟨_, rfl⟩
  have HZ10 := Lib.hid h_
  have HT10 : Hid (txt l10 ++ z10 = txt l11) := Lib.hid (by rw [← h_]; exact (ln_snoc HL11.out).1.symm)
  have BT10 : Hid ((txt l10).length + z10.length ≤ 8388608) := Lib.hid (by have h2_ := congrArg List.length HT10.out; rw [List.length_append] at h2_; omega)
  clear h_
  have HZA : Hid ([108, 97, 110] ++ [32, 61, 32] ++ v0 ++ [10] = txt l1) := Lib.hid (HZ0.out.trans HT0.out)
  have oal_ := tA_len c.own
  have obl_ := tN_len (n := c.bits) (by have := HR.out.bits; omega)
  obtain ⟨oa, h_⟩ : ∃ z, tA c.own = z := ⟨_, rfl⟩
  have HOA := Lib.hid h_
  rw [h_] at oal_
  clear h_
  obtain ⟨ob, h_⟩ : ∃ z, tN c.bits = z := ⟨_, rfl⟩
  have HOB := Lib.hid h_
  rw [h_] at obl_
  clear h_
  have s47 : ([47] : List UInt8).length = 1 := rfl
  obtain ⟨o1, ho1⟩ : ∃ z, oa ++ ([47] : List UInt8) = z := ⟨_, rfl⟩
  have HO1 := Lib.hid ho1
  have BO1 : Hid (oa.length + ([47] : List UInt8).length ≤ 8388608) := Lib.hid (by omega)
  have o1l : o1.length = oa.length + ([47] : List UInt8).length := by rw [← ho1, List.length_append]
  clear ho1
  have HO2 : Hid (o1 ++ ob = v0) := Lib.hid (by rw [← HO1.out, ← HV0.out, ← HOA.out, ← HOB.out, List.append_assoc]; rfl)
  have BO2 : Hid (o1.length + ob.length ≤ 8388608) := Lib.hid (by omega)
  have F11 := fun W => st_cat HO1.out BO1.out W
  have F16 := fun W => st_cat HO2.out BO2.out W
  have F23 := fun W => st_cat HT1.out BT1.out W
  have F28 := fun W => st_cat HT2.out BT2.out W
  have F34 := fun W => st_cat HT3.out BT3.out W
  have F39 := fun W => st_cat HT4.out BT4.out W
  have F44 := fun W => st_cat HT5.out BT5.out W
  have F49 := fun W => st_cat HT6.out BT6.out W
  have F54 := fun W => st_cat HT7.out BT7.out W
  have F58 := fun W => st_cat HT8.out BT8.out W
  have F62 := fun W => st_cat HT9.out BT9.out W
  have F66 := fun W => st_cat HT10.out BT10.out W
  have bel := Below.refl w.heap.size w
  go_enter Tryd.func14, Tryd.ntmps14
  go_wp2_with (first | ((with_reducible show wpList _ _ _ (⟨some 1, _, _, _, _, _⟩ :: _) _ _); refine wpList_box_n rfl 44 (.tmp 0) rfl (cfl c Fx nf cf Ox nx cx).toArray rfl ?_; intro g1 w1 ge lt hh bb; have av_sF_cc := sF.av_new ge; have av_sO_cc := sO.av_new ge; have occ := Nat.le_trans bel.size ge; replace sF := sF.below bb; replace sO := sO.below bb; replace bel := bel.trans (bb.mono bel.size); have hcc := hh; clear hh lt ge bb))
  replace bel := bel.drew
  replace hcc : w1.drew.heap[g1]? = _ := hcc
  replace sF := sF.drew
  replace sO := sO.drew
  refine wp_region_held_drew (S := fun W => W.heap[g1]? = some (.cells (cfl c Fx nf cf Ox nx cx).toArray 44 (0, 0))) (by kernel_rfl) hcc (fun hH => ?_)
  generalize w1.drew = w2 at bel hcc sF sO hH ⊢
  refine wpAnyH_take (i := 0) (v := ?_) rfl (by kernel_rfl) (by kernel_rfl) (by kernel_rfl) (fun _ _ _ h => h) (Or.inl ⟨by rfl, ?_⟩) hH ?_
  rotate_left
  · ((intro W hW; clear hW; go_simp) <;> with_reducible rfl)
  simp only [Act.put, List.getElem_toArray, List.getElem_cons_zero, List.setIfInBounds_toArray, List.set_cons_zero, List.set_cons_succ]
  refine wpAnyH_take (i := 1) (v := .agg #[.int .u8 (c.own.a.toNat : Int), .int .u8 (c.own.b.toNat : Int), .int .u8 (c.own.c.toNat : Int), .int .u8 (c.own.d.toNat : Int)]) rfl (by kernel_rfl) (by kernel_rfl) (by kernel_rfl) (fun _ _ _ h => h) (yieldsIf_load_part (by kernel_rfl) 24 _ rfl g1 0 4 rfl _ 44 (0, 0) (fun W hW => hW) _ rfl _ Tryd.underlying24 rfl (by kernel_rfl)) hH ?_
  simp only [Act.put, List.getElem_toArray, List.getElem_cons_zero, List.getElem_cons_succ, List.setIfInBounds_toArray, List.set_cons_zero, List.set_cons_succ]
  refine wpAnyH_take (i := 4) (v := ?_) rfl (by kernel_rfl) (by kernel_rfl) (by kernel_rfl) (fun _ _ _ h => h) (Or.inl ⟨by rfl, ?_⟩) hH ?_
  rotate_left
  · ((intro W hW; clear hW; go_simp) <;> with_reducible rfl)
  simp only [Act.put, List.getElem_toArray, List.getElem_cons_zero, List.getElem_cons_succ, List.setIfInBounds_toArray, List.set_cons_zero, List.set_cons_succ]
  refine wpAnyH_take (i := 5) (v := ?_) rfl (by kernel_rfl) (by kernel_rfl) (by kernel_rfl) (fun _ _ _ h => h) (Or.inl ⟨by rfl, ?_⟩) hH ?_
  rotate_left
  · ((intro W hW; clear hW; go_simp) <;> with_reducible rfl)
  simp only [Act.put, List.getElem_toArray, List.getElem_cons_zero, List.getElem_cons_succ, List.setIfInBounds_toArray, List.set_cons_zero, List.set_cons_succ]
  refine wpAnyH_take (i := 6) (v := ?_) rfl (by kernel_rfl) (by kernel_rfl) (by kernel_rfl) (fun _ _ _ h => h) (Or.inl ⟨by rfl, ?_⟩) hH ?_
  rotate_left
  · ((intro W hW; have hk := cell_lit (hW) 8 _ rfl; clear hW; go_simp) <;> with_reducible rfl)
  simp only [Act.put, List.getElem_toArray, List.getElem_cons_zero, List.getElem_cons_succ, List.setIfInBounds_toArray, List.set_cons_zero, List.set_cons_succ]
  refine wpAnyH_ready (rs := [2]) (by kernel_rfl) (by simp) ?_
  refine AllReadyH.cons (o := _) rfl (fun K hK => ?_) AllReadyH.nil
  simp only [List.getElem_toArray, List.getElem_cons_zero, List.getElem_cons_succ]
  go_simp
  with_reducible refine (raddr_l c.own _).mono ?_
  rintro e w3 ⟨rfl, b3⟩
  dsimp only
  replace hcc := blk_u hcc b3
  replace sF := sF.below b3
  replace sO := sO.below b3
  replace bel := bel.trans (b3.mono bel.size)
  clear b3
  rw [HOA.out]
  refine hK.out _ _ hcc (fun hH4 => ?_)
  clear hK K
  refine wpAnyH_take (i := 3) (v := ?_) rfl (by kernel_rfl) (by kernel_rfl) (by kernel_rfl) (fun _ _ _ h => h) (Or.inl ⟨by rfl, ?_⟩) hH4 ?_
  rotate_left
  · ((intro W hW; clear hW; go_simp) <;> with_reducible rfl)
  simp only [Act.put, List.getElem_toArray, List.getElem_cons_zero, List.getElem_cons_succ, List.setIfInBounds_toArray, List.set_cons_zero, List.set_cons_succ]
  refine wpAnyH_ready (rs := [7]) (by kernel_rfl) (by simp) ?_
  refine AllReadyH.cons (o := _) rfl (fun K hK => ?_) AllReadyH.nil
  simp only [List.getElem_toArray, List.getElem_cons_zero, List.getElem_cons_succ]
  go_simp
  with_reducible refine (rtext_l c.bits (by have := HR.out.bits; omega) (by have := HR.out.bits; omega) _).mono ?_
  rintro e w5 ⟨rfl, b5⟩
  dsimp only
  replace hcc := blk_u hcc b5
  replace sF := sF.below b5
  replace sO := sO.below b5
  replace bel := bel.trans (b5.mono bel.size)
  clear b5
  rw [HOB.out]
  refine hK.out _ _ hcc (fun hH6 => ?_)
  clear hK K
  refine wpAnyH_take (i := 8) (v := ?_) rfl (by kernel_rfl) (by kernel_rfl) (by kernel_rfl) (fun _ _ _ h => h) (Or.inl ⟨by rfl, ?_⟩) hH6 ?_
  rotate_left
  · ((intro W hW; clear hW; go_simp) <;> with_reducible rfl)
  simp only [Act.put, List.getElem_toArray, List.getElem_cons_zero, List.getElem_cons_succ, List.setIfInBounds_toArray, List.set_cons_zero, List.set_cons_succ]
  refine wpAnyH_ready (rs := [9]) (by kernel_rfl) (by simp) ?_
  refine AllReadyH.cons (o := _) rfl (fun K hK => ?_) AllReadyH.nil
  simp only [List.getElem_toArray, List.getElem_cons_zero, List.getElem_cons_succ]
  go_simp
  with_reducible refine (rline_l [108, 97, 110] v0 _ HZA (by decide) (by omega)).mono ?_
  rintro e _ ⟨rfl, rfl⟩
  dsimp only
  refine hK.out _ _ hcc (fun hH7 => ?_)
  clear hK K
  refine wpAnyH_take (i := 10) (v := ?_) rfl (by kernel_rfl) (by kernel_rfl) (by kernel_rfl) (fun _ _ _ h => h) (Or.inl ⟨by rfl, ?_⟩) hH7 ?_
  rotate_left
  · ((intro W hW; clear hW; go_simp) <;> with_reducible rfl)
  simp only [Act.put, List.getElem_toArray, List.getElem_cons_zero, List.getElem_cons_succ, List.setIfInBounds_toArray, List.set_cons_zero, List.set_cons_succ]
  refine wpAnyH_done (by kernel_rfl) ?_ _
  go_wp2_with fail
  replace bel := bel.drew
  replace hcc : w5.drew.heap[g1]? = _ := hcc
  replace sF := sF.drew
  replace sO := sO.drew
  refine wp_region_held_drew (S := fun W => W.heap[g1]? = some (.cells (cfl c Fx nf cf Ox nx cx).toArray 44 (0, 0))) (by kernel_rfl) hcc (fun hH => ?_)
  generalize w5.drew = w8 at bel hcc sF sO hH ⊢
  refine wpAnyH_take (i := 0) (v := ?_) rfl (by kernel_rfl) (by kernel_rfl) (by kernel_rfl) (fun _ _ _ h => h) (Or.inl ⟨by rfl, ?_⟩) hH ?_
  rotate_left
  · ((intro W hW; clear hW; go_simp) <;> with_reducible rfl)
  simp only [Act.put, List.getElem_toArray, List.getElem_cons_zero, List.setIfInBounds_toArray, List.set_cons_zero, List.set_cons_succ]
  refine wpAnyH_take (i := 1) (v := ?_) rfl (by kernel_rfl) (by kernel_rfl) (by kernel_rfl) (fun _ _ _ h => h) (Or.inl ⟨by rfl, ?_⟩) hH ?_
  rotate_left
  · ((intro W hW; clear hW; go_simp) <;> with_reducible rfl)
  simp only [Act.put, List.getElem_toArray, List.getElem_cons_zero, List.getElem_cons_succ, List.setIfInBounds_toArray, List.set_cons_zero, List.set_cons_succ]
  refine wpAnyH_take (i := 2) (v := .agg #[.int .u8 (c.lanmac.a.toNat : Int), .int .u8 (c.lanmac.b.toNat : Int), .int .u8 (c.lanmac.c.toNat : Int), .int .u8 (c.lanmac.d.toNat : Int), .int .u8 (c.lanmac.e.toNat : Int), .int .u8 (c.lanmac.f.toNat : Int)]) rfl (by kernel_rfl) (by kernel_rfl) (by kernel_rfl) (fun _ _ _ h => h) (yieldsIf_load_part (by kernel_rfl) 28 _ rfl g1 9 6 rfl _ 44 (0, 0) (fun W hW => hW) _ rfl _ Tryd.underlying28 rfl (by kernel_rfl)) hH ?_
  simp only [Act.put, List.getElem_toArray, List.getElem_cons_zero, List.getElem_cons_succ, List.setIfInBounds_toArray, List.set_cons_zero, List.set_cons_succ]
  refine wpAnyH_take (i := 6) (v := ?_) rfl (by kernel_rfl) (by kernel_rfl) (by kernel_rfl) (fun _ _ _ h => h) (Or.inl ⟨by rfl, ?_⟩) hH ?_
  rotate_left
  · ((intro W hW; clear hW; go_simp) <;> with_reducible rfl)
  simp only [Act.put, List.getElem_toArray, List.getElem_cons_zero, List.getElem_cons_succ, List.setIfInBounds_toArray, List.set_cons_zero, List.set_cons_succ]
  refine wpAnyH_take (i := 7) (v := .agg #[.int .u8 (c.wanmac.a.toNat : Int), .int .u8 (c.wanmac.b.toNat : Int), .int .u8 (c.wanmac.c.toNat : Int), .int .u8 (c.wanmac.d.toNat : Int), .int .u8 (c.wanmac.e.toNat : Int), .int .u8 (c.wanmac.f.toNat : Int)]) rfl (by kernel_rfl) (by kernel_rfl) (by kernel_rfl) (fun _ _ _ h => h) (yieldsIf_load_part (by kernel_rfl) 28 _ rfl g1 15 6 rfl _ 44 (0, 0) (fun W hW => hW) _ rfl _ Tryd.underlying28 rfl (by kernel_rfl)) hH ?_
  simp only [Act.put, List.getElem_toArray, List.getElem_cons_zero, List.getElem_cons_succ, List.setIfInBounds_toArray, List.set_cons_zero, List.set_cons_succ]
  refine wpAnyH_ready (rs := [3]) (by kernel_rfl) (by simp) ?_
  refine AllReadyH.cons (o := _) rfl (fun K hK => ?_) AllReadyH.nil
  simp only [List.getElem_toArray, List.getElem_cons_zero, List.getElem_cons_succ]
  go_simp
  with_reducible refine (rmact_l c.lanmac _).mono ?_
  rintro e w9 ⟨rfl, b9⟩
  dsimp only
  replace hcc := blk_u hcc b9
  replace sF := sF.below b9
  replace sO := sO.below b9
  replace bel := bel.trans (b9.mono bel.size)
  clear b9
  rw [HV1.out]
  refine hK.out _ _ hcc (fun hH10 => ?_)
  clear hK K
  refine wpAnyH_ready (rs := [4]) (by kernel_rfl) (by simp) ?_
  refine AllReadyH.cons (o := _) rfl (fun K hK => ?_) AllReadyH.nil
  simp only [List.getElem_toArray, List.getElem_cons_zero, List.getElem_cons_succ]
  go_simp
  with_reducible refine (rline_l [108, 97, 110, 109, 97, 99] v1 _ HZ1 (by decide) (by omega)).mono ?_
  rintro e _ ⟨rfl, rfl⟩
  dsimp only
  refine hK.out _ _ hcc (fun hH11 => ?_)
  clear hK K
  refine wpAnyH_take (i := 5) (v := ?_) rfl (by kernel_rfl) (by kernel_rfl) (by kernel_rfl) (fun _ _ _ h => h) (Or.inl ⟨by rfl, ?_⟩) hH11 ?_
  rotate_left
  · ((intro W hW; clear hW; go_simp) <;> with_reducible rfl)
  simp only [Act.put, List.getElem_toArray, List.getElem_cons_zero, List.getElem_cons_succ, List.setIfInBounds_toArray, List.set_cons_zero, List.set_cons_succ]
  refine wpAnyH_ready (rs := [8]) (by kernel_rfl) (by simp) ?_
  refine AllReadyH.cons (o := _) rfl (fun K hK => ?_) AllReadyH.nil
  simp only [List.getElem_toArray, List.getElem_cons_zero, List.getElem_cons_succ]
  go_simp
  with_reducible refine (rmact_l c.wanmac _).mono ?_
  rintro e w12 ⟨rfl, b12⟩
  dsimp only
  replace hcc := blk_u hcc b12
  replace sF := sF.below b12
  replace sO := sO.below b12
  replace bel := bel.trans (b12.mono bel.size)
  clear b12
  rw [HV2.out]
  refine hK.out _ _ hcc (fun hH13 => ?_)
  clear hK K
  refine wpAnyH_ready (rs := [9]) (by kernel_rfl) (by simp) ?_
  refine AllReadyH.cons (o := _) rfl (fun K hK => ?_) AllReadyH.nil
  simp only [List.getElem_toArray, List.getElem_cons_zero, List.getElem_cons_succ]
  go_simp
  with_reducible refine (rline_l [119, 97, 110, 109, 97, 99] v2 _ HZ2 (by decide) (by omega)).mono ?_
  rintro e _ ⟨rfl, rfl⟩
  dsimp only
  refine hK.out _ _ hcc (fun hH14 => ?_)
  clear hK K
  refine wpAnyH_take (i := 10) (v := ?_) rfl (by kernel_rfl) (by kernel_rfl) (by kernel_rfl) (fun _ _ _ h => h) (Or.inl ⟨by rfl, ?_⟩) hH14 ?_
  rotate_left
  · ((intro W hW; clear hW; go_simp) <;> with_reducible rfl)
  simp only [Act.put, List.getElem_toArray, List.getElem_cons_zero, List.getElem_cons_succ, List.setIfInBounds_toArray, List.set_cons_zero, List.set_cons_succ]
  refine wpAnyH_take (i := 11) (v := ?_) rfl (by kernel_rfl) (by kernel_rfl) (by kernel_rfl) (fun _ _ _ h => h) (Or.inl ⟨by rfl, ?_⟩) hH14 ?_
  rotate_left
  · ((intro W hW; clear hW; go_simp) <;> with_reducible rfl)
  simp only [Act.put, List.getElem_toArray, List.getElem_cons_zero, List.getElem_cons_succ, List.setIfInBounds_toArray, List.set_cons_zero, List.set_cons_succ]
  refine wpAnyH_done (by kernel_rfl) ?_ _
  go_wp2_with fail
  replace bel := bel.drew
  replace hcc : w12.drew.heap[g1]? = _ := hcc
  replace sF := sF.drew
  replace sO := sO.drew
  refine wp_region_held_drew (S := fun W => W.heap[g1]? = some (.cells (cfl c Fx nf cf Ox nx cx).toArray 44 (0, 0))) (by kernel_rfl) hcc (fun hH => ?_)
  generalize w12.drew = w15 at bel hcc sF sO hH ⊢
  refine wpAnyH_take (i := 0) (v := ?_) rfl (by kernel_rfl) (by kernel_rfl) (by kernel_rfl) (fun _ _ _ h => h) (Or.inl ⟨by rfl, ?_⟩) hH ?_
  rotate_left
  · ((intro W hW; clear hW; go_simp) <;> with_reducible rfl)
  simp only [Act.put, List.getElem_toArray, List.getElem_cons_zero, List.setIfInBounds_toArray, List.set_cons_zero, List.set_cons_succ]
  refine wpAnyH_take (i := 1) (v := ?_) rfl (by kernel_rfl) (by kernel_rfl) (by kernel_rfl) (fun _ _ _ h => h) (Or.inl ⟨by rfl, ?_⟩) hH ?_
  rotate_left
  · ((intro W hW; clear hW; go_simp) <;> with_reducible rfl)
  simp only [Act.put, List.getElem_toArray, List.getElem_cons_zero, List.getElem_cons_succ, List.setIfInBounds_toArray, List.set_cons_zero, List.set_cons_succ]
  refine wpAnyH_take (i := 2) (v := .agg #[.int .u8 (c.first.a.toNat : Int), .int .u8 (c.first.b.toNat : Int), .int .u8 (c.first.c.toNat : Int), .int .u8 (c.first.d.toNat : Int)]) rfl (by kernel_rfl) (by kernel_rfl) (by kernel_rfl) (fun _ _ _ h => h) (yieldsIf_load_part (by kernel_rfl) 24 _ rfl g1 21 4 rfl _ 44 (0, 0) (fun W hW => hW) _ rfl _ Tryd.underlying24 rfl (by kernel_rfl)) hH ?_
  simp only [Act.put, List.getElem_toArray, List.getElem_cons_zero, List.getElem_cons_succ, List.setIfInBounds_toArray, List.set_cons_zero, List.set_cons_succ]
  refine wpAnyH_take (i := 6) (v := ?_) rfl (by kernel_rfl) (by kernel_rfl) (by kernel_rfl) (fun _ _ _ h => h) (Or.inl ⟨by rfl, ?_⟩) hH ?_
  rotate_left
  · ((intro W hW; clear hW; go_simp) <;> with_reducible rfl)
  simp only [Act.put, List.getElem_toArray, List.getElem_cons_zero, List.getElem_cons_succ, List.setIfInBounds_toArray, List.set_cons_zero, List.set_cons_succ]
  refine wpAnyH_take (i := 7) (v := .agg #[.int .u8 (c.last.a.toNat : Int), .int .u8 (c.last.b.toNat : Int), .int .u8 (c.last.c.toNat : Int), .int .u8 (c.last.d.toNat : Int)]) rfl (by kernel_rfl) (by kernel_rfl) (by kernel_rfl) (fun _ _ _ h => h) (yieldsIf_load_part (by kernel_rfl) 24 _ rfl g1 25 4 rfl _ 44 (0, 0) (fun W hW => hW) _ rfl _ Tryd.underlying24 rfl (by kernel_rfl)) hH ?_
  simp only [Act.put, List.getElem_toArray, List.getElem_cons_zero, List.getElem_cons_succ, List.setIfInBounds_toArray, List.set_cons_zero, List.set_cons_succ]
  refine wpAnyH_ready (rs := [3]) (by kernel_rfl) (by simp) ?_
  refine AllReadyH.cons (o := _) rfl (fun K hK => ?_) AllReadyH.nil
  simp only [List.getElem_toArray, List.getElem_cons_zero, List.getElem_cons_succ]
  go_simp
  with_reducible refine (raddr_l c.first _).mono ?_
  rintro e w16 ⟨rfl, b16⟩
  dsimp only
  replace hcc := blk_u hcc b16
  replace sF := sF.below b16
  replace sO := sO.below b16
  replace bel := bel.trans (b16.mono bel.size)
  clear b16
  rw [HV3.out]
  refine hK.out _ _ hcc (fun hH17 => ?_)
  clear hK K
  refine wpAnyH_ready (rs := [4]) (by kernel_rfl) (by simp) ?_
  refine AllReadyH.cons (o := _) rfl (fun K hK => ?_) AllReadyH.nil
  simp only [List.getElem_toArray, List.getElem_cons_zero, List.getElem_cons_succ]
  go_simp
  with_reducible refine (rline_l [102, 105, 114, 115, 116] v3 _ HZ3 (by decide) (by omega)).mono ?_
  rintro e _ ⟨rfl, rfl⟩
  dsimp only
  refine hK.out _ _ hcc (fun hH18 => ?_)
  clear hK K
  refine wpAnyH_take (i := 5) (v := ?_) rfl (by kernel_rfl) (by kernel_rfl) (by kernel_rfl) (fun _ _ _ h => h) (Or.inl ⟨by rfl, ?_⟩) hH18 ?_
  rotate_left
  · ((intro W hW; clear hW; go_simp) <;> with_reducible rfl)
  simp only [Act.put, List.getElem_toArray, List.getElem_cons_zero, List.getElem_cons_succ, List.setIfInBounds_toArray, List.set_cons_zero, List.set_cons_succ]
  refine wpAnyH_ready (rs := [8]) (by kernel_rfl) (by simp) ?_
  refine AllReadyH.cons (o := _) rfl (fun K hK => ?_) AllReadyH.nil
  simp only [List.getElem_toArray, List.getElem_cons_zero, List.getElem_cons_succ]
  go_simp
  with_reducible refine (raddr_l c.last _).mono ?_
  rintro e w19 ⟨rfl, b19⟩
  dsimp only
  replace hcc := blk_u hcc b19
  replace sF := sF.below b19
  replace sO := sO.below b19
  replace bel := bel.trans (b19.mono bel.size)
  clear b19
  rw [HV4.out]
  refine hK.out _ _ hcc (fun hH20 => ?_)
  clear hK K
  refine wpAnyH_ready (rs := [9]) (by kernel_rfl) (by simp) ?_
  refine AllReadyH.cons (o := _) rfl (fun K hK => ?_) AllReadyH.nil
  simp only [List.getElem_toArray, List.getElem_cons_zero, List.getElem_cons_succ]
  go_simp
  with_reducible refine (rline_l [108, 97, 115, 116] v4 _ HZ4 (by decide) (by omega)).mono ?_
  rintro e _ ⟨rfl, rfl⟩
  dsimp only
  refine hK.out _ _ hcc (fun hH21 => ?_)
  clear hK K
  refine wpAnyH_take (i := 10) (v := ?_) rfl (by kernel_rfl) (by kernel_rfl) (by kernel_rfl) (fun _ _ _ h => h) (Or.inl ⟨by rfl, ?_⟩) hH21 ?_
  rotate_left
  · ((intro W hW; clear hW; go_simp) <;> with_reducible rfl)
  simp only [Act.put, List.getElem_toArray, List.getElem_cons_zero, List.getElem_cons_succ, List.setIfInBounds_toArray, List.set_cons_zero, List.set_cons_succ]
  refine wpAnyH_take (i := 11) (v := ?_) rfl (by kernel_rfl) (by kernel_rfl) (by kernel_rfl) (fun _ _ _ h => h) (Or.inl ⟨by rfl, ?_⟩) hH21 ?_
  rotate_left
  · ((intro W hW; clear hW; go_simp) <;> with_reducible rfl)
  simp only [Act.put, List.getElem_toArray, List.getElem_cons_zero, List.getElem_cons_succ, List.setIfInBounds_toArray, List.set_cons_zero, List.set_cons_succ]
  refine wpAnyH_done (by kernel_rfl) ?_ _
  go_wp2_with fail
  replace bel := bel.drew
  replace hcc : w19.drew.heap[g1]? = _ := hcc
  replace sF := sF.drew
  replace sO := sO.drew
  refine wp_region_held_drew (S := fun W => W.heap[g1]? = some (.cells (cfl c Fx nf cf Ox nx cx).toArray 44 (0, 0))) (by kernel_rfl) hcc (fun hH => ?_)
  generalize w19.drew = w22 at bel hcc sF sO hH ⊢
  refine wpAnyH_take (i := 0) (v := ?_) rfl (by kernel_rfl) (by kernel_rfl) (by kernel_rfl) (fun _ _ _ h => h) (Or.inl ⟨by rfl, ?_⟩) hH ?_
  rotate_left
  · ((intro W hW; clear hW; go_simp) <;> with_reducible rfl)
  simp only [Act.put, List.getElem_toArray, List.getElem_cons_zero, List.setIfInBounds_toArray, List.set_cons_zero, List.set_cons_succ]
  refine wpAnyH_take (i := 1) (v := ?_) rfl (by kernel_rfl) (by kernel_rfl) (by kernel_rfl) (fun _ _ _ h => h) (Or.inl ⟨by rfl, ?_⟩) hH ?_
  rotate_left
  · ((intro W hW; clear hW; go_simp) <;> with_reducible rfl)
  simp only [Act.put, List.getElem_toArray, List.getElem_cons_zero, List.getElem_cons_succ, List.setIfInBounds_toArray, List.set_cons_zero, List.set_cons_succ]
  refine wpAnyH_take (i := 2) (v := ?_) rfl (by kernel_rfl) (by kernel_rfl) (by kernel_rfl) (fun _ _ _ h => h) (Or.inl ⟨by rfl, ?_⟩) hH ?_
  rotate_left
  · ((intro W hW; have hk := cell_lit (hW) 29 _ rfl; clear hW; go_simp) <;> with_reducible rfl)
  simp only [Act.put, List.getElem_toArray, List.getElem_cons_zero, List.getElem_cons_succ, List.setIfInBounds_toArray, List.set_cons_zero, List.set_cons_succ]
  refine wpAnyH_take (i := 5) (v := ?_) rfl (by kernel_rfl) (by kernel_rfl) (by kernel_rfl) (fun _ _ _ h => h) (Or.inl ⟨by rfl, ?_⟩) hH ?_
  rotate_left
  · ((intro W hW; clear hW; go_simp) <;> with_reducible rfl)
  simp only [Act.put, List.getElem_toArray, List.getElem_cons_zero, List.getElem_cons_succ, List.setIfInBounds_toArray, List.set_cons_zero, List.set_cons_succ]
  refine wpAnyH_take (i := 6) (v := .agg #[.int .u8 (c.dns.a.toNat : Int), .int .u8 (c.dns.b.toNat : Int), .int .u8 (c.dns.c.toNat : Int), .int .u8 (c.dns.d.toNat : Int)]) rfl (by kernel_rfl) (by kernel_rfl) (by kernel_rfl) (fun _ _ _ h => h) (yieldsIf_load_part (by kernel_rfl) 24 _ rfl g1 30 4 rfl _ 44 (0, 0) (fun W hW => hW) _ rfl _ Tryd.underlying24 rfl (by kernel_rfl)) hH ?_
  simp only [Act.put, List.getElem_toArray, List.getElem_cons_zero, List.getElem_cons_succ, List.setIfInBounds_toArray, List.set_cons_zero, List.set_cons_succ]
  refine wpAnyH_ready (rs := [3]) (by kernel_rfl) (by simp) ?_
  refine AllReadyH.cons (o := _) rfl (fun K hK => ?_) AllReadyH.nil
  simp only [List.getElem_toArray, List.getElem_cons_zero, List.getElem_cons_succ]
  go_simp
  with_reducible refine (rnum_t [116, 105, 109, 101] c.time _ HV5 HZ5 (by decide) (by omega) (by have := HR.out.time; omega)).mono ?_
  rintro e w23 ⟨rfl, b23⟩
  dsimp only
  replace hcc := blk_u hcc b23
  replace sF := sF.below b23
  replace sO := sO.below b23
  replace bel := bel.trans (b23.mono bel.size)
  clear b23
  refine hK.out _ _ hcc (fun hH24 => ?_)
  clear hK K
  refine wpAnyH_take (i := 4) (v := ?_) rfl (by kernel_rfl) (by kernel_rfl) (by kernel_rfl) (fun _ _ _ h => h) (Or.inl ⟨by rfl, ?_⟩) hH24 ?_
  rotate_left
  · ((intro W hW; clear hW; go_simp) <;> with_reducible rfl)
  simp only [Act.put, List.getElem_toArray, List.getElem_cons_zero, List.getElem_cons_succ, List.setIfInBounds_toArray, List.set_cons_zero, List.set_cons_succ]
  refine wpAnyH_ready (rs := [7]) (by kernel_rfl) (by simp) ?_
  refine AllReadyH.cons (o := _) rfl (fun K hK => ?_) AllReadyH.nil
  simp only [List.getElem_toArray, List.getElem_cons_zero, List.getElem_cons_succ]
  go_simp
  with_reducible refine (raddr_l c.dns _).mono ?_
  rintro e w25 ⟨rfl, b25⟩
  dsimp only
  replace hcc := blk_u hcc b25
  replace sF := sF.below b25
  replace sO := sO.below b25
  replace bel := bel.trans (b25.mono bel.size)
  clear b25
  rw [HV6.out]
  refine hK.out _ _ hcc (fun hH26 => ?_)
  clear hK K
  refine wpAnyH_ready (rs := [8]) (by kernel_rfl) (by simp) ?_
  refine AllReadyH.cons (o := _) rfl (fun K hK => ?_) AllReadyH.nil
  simp only [List.getElem_toArray, List.getElem_cons_zero, List.getElem_cons_succ]
  go_simp
  with_reducible refine (rline_l [100, 110, 115] v6 _ HZ6 (by decide) (by omega)).mono ?_
  rintro e _ ⟨rfl, rfl⟩
  dsimp only
  refine hK.out _ _ hcc (fun hH27 => ?_)
  clear hK K
  refine wpAnyH_take (i := 9) (v := ?_) rfl (by kernel_rfl) (by kernel_rfl) (by kernel_rfl) (fun _ _ _ h => h) (Or.inl ⟨by rfl, ?_⟩) hH27 ?_
  rotate_left
  · ((intro W hW; clear hW; go_simp) <;> with_reducible rfl)
  simp only [Act.put, List.getElem_toArray, List.getElem_cons_zero, List.getElem_cons_succ, List.setIfInBounds_toArray, List.set_cons_zero, List.set_cons_succ]
  refine wpAnyH_take (i := 10) (v := ?_) rfl (by kernel_rfl) (by kernel_rfl) (by kernel_rfl) (fun _ _ _ h => h) (Or.inl ⟨by rfl, ?_⟩) hH27 ?_
  rotate_left
  · ((intro W hW; clear hW; go_simp) <;> with_reducible rfl)
  simp only [Act.put, List.getElem_toArray, List.getElem_cons_zero, List.getElem_cons_succ, List.setIfInBounds_toArray, List.set_cons_zero, List.set_cons_succ]
  refine wpAnyH_done (by kernel_rfl) ?_ _
  go_wp2_with fail
  replace bel := bel.drew
  replace hcc : w25.drew.heap[g1]? = _ := hcc
  replace sF := sF.drew
  replace sO := sO.drew
  refine wp_region_held_drew (S := fun W => W.heap[g1]? = some (.cells (cfl c Fx nf cf Ox nx cx).toArray 44 (0, 0))) (by kernel_rfl) hcc (fun hH => ?_)
  generalize w25.drew = w28 at bel hcc sF sO hH ⊢
  refine wpAnyH_take (i := 0) (v := ?_) rfl (by kernel_rfl) (by kernel_rfl) (by kernel_rfl) (fun _ _ _ h => h) (Or.inl ⟨by rfl, ?_⟩) hH ?_
  rotate_left
  · ((intro W hW; clear hW; go_simp) <;> with_reducible rfl)
  simp only [Act.put, List.getElem_toArray, List.getElem_cons_zero, List.setIfInBounds_toArray, List.set_cons_zero, List.set_cons_succ]
  refine wpAnyH_take (i := 1) (v := ?_) rfl (by kernel_rfl) (by kernel_rfl) (by kernel_rfl) (fun _ _ _ h => h) (Or.inl ⟨by rfl, ?_⟩) hH ?_
  rotate_left
  · ((intro W hW; clear hW; go_simp) <;> with_reducible rfl)
  simp only [Act.put, List.getElem_toArray, List.getElem_cons_zero, List.getElem_cons_succ, List.setIfInBounds_toArray, List.set_cons_zero, List.set_cons_succ]
  refine wpAnyH_take (i := 2) (v := ?_) rfl (by kernel_rfl) (by kernel_rfl) (by kernel_rfl) (fun _ _ _ h => h) (Or.inl ⟨by rfl, ?_⟩) hH ?_
  rotate_left
  · ((intro W hW; have hk := cell_lit (hW) 34 _ rfl; clear hW; go_simp) <;> with_reducible rfl)
  simp only [Act.put, List.getElem_toArray, List.getElem_cons_zero, List.getElem_cons_succ, List.setIfInBounds_toArray, List.set_cons_zero, List.set_cons_succ]
  refine wpAnyH_take (i := 5) (v := ?_) rfl (by kernel_rfl) (by kernel_rfl) (by kernel_rfl) (fun _ _ _ h => h) (Or.inl ⟨by rfl, ?_⟩) hH ?_
  rotate_left
  · ((intro W hW; clear hW; go_simp) <;> with_reducible rfl)
  simp only [Act.put, List.getElem_toArray, List.getElem_cons_zero, List.getElem_cons_succ, List.setIfInBounds_toArray, List.set_cons_zero, List.set_cons_succ]
  refine wpAnyH_take (i := 6) (v := ?_) rfl (by kernel_rfl) (by kernel_rfl) (by kernel_rfl) (fun _ _ _ h => h) (Or.inl ⟨by rfl, ?_⟩) hH ?_
  rotate_left
  · ((intro W hW; have hk := cell_lit (hW) 35 _ rfl; clear hW; go_simp) <;> with_reducible rfl)
  simp only [Act.put, List.getElem_toArray, List.getElem_cons_zero, List.getElem_cons_succ, List.setIfInBounds_toArray, List.set_cons_zero, List.set_cons_succ]
  refine wpAnyH_take (i := 9) (v := ?_) rfl (by kernel_rfl) (by kernel_rfl) (by kernel_rfl) (fun _ _ _ h => h) (Or.inl ⟨by rfl, ?_⟩) hH ?_
  rotate_left
  · ((intro W hW; clear hW; go_simp) <;> with_reducible rfl)
  simp only [Act.put, List.getElem_toArray, List.getElem_cons_zero, List.getElem_cons_succ, List.setIfInBounds_toArray, List.set_cons_zero, List.set_cons_succ]
  refine wpAnyH_take (i := 10) (v := ?_) rfl (by kernel_rfl) (by kernel_rfl) (by kernel_rfl) (fun _ _ _ h => h) (Or.inl ⟨by rfl, ?_⟩) hH ?_
  rotate_left
  · ((intro W hW; have hk := cell_lit (hW) 36 _ rfl; clear hW; go_simp) <;> with_reducible rfl)
  simp only [Act.put, List.getElem_toArray, List.getElem_cons_zero, List.getElem_cons_succ, List.setIfInBounds_toArray, List.set_cons_zero, List.set_cons_succ]
  refine wpAnyH_take (i := 13) (v := ?_) rfl (by kernel_rfl) (by kernel_rfl) (by kernel_rfl) (fun _ _ _ h => h) (Or.inl ⟨by rfl, ?_⟩) hH ?_
  rotate_left
  · ((intro W hW; clear hW; go_simp) <;> with_reducible rfl)
  simp only [Act.put, List.getElem_toArray, List.getElem_cons_zero, List.getElem_cons_succ, List.setIfInBounds_toArray, List.set_cons_zero, List.set_cons_succ]
  refine wpAnyH_take (i := 14) (v := ?_) rfl (by kernel_rfl) (by kernel_rfl) (by kernel_rfl) (fun _ _ _ h => h) (Or.inl ⟨by rfl, ?_⟩) hH ?_
  rotate_left
  · ((intro W hW; have hk := cell_lit (hW) 37 _ rfl; clear hW; go_simp) <;> with_reducible rfl)
  simp only [Act.put, List.getElem_toArray, List.getElem_cons_zero, List.getElem_cons_succ, List.setIfInBounds_toArray, List.set_cons_zero, List.set_cons_succ]
  refine wpAnyH_ready (rs := [3]) (by kernel_rfl) (by simp) ?_
  refine AllReadyH.cons (o := _) rfl (fun K hK => ?_) AllReadyH.nil
  simp only [List.getElem_toArray, List.getElem_cons_zero, List.getElem_cons_succ]
  go_simp
  with_reducible refine (rnum_t [117, 100, 112, 116, 105, 109, 101] c.udp _ HV7 HZ7 (by decide) (by omega) (by have := HR.out.udp; omega)).mono ?_
  rintro e w29 ⟨rfl, b29⟩
  dsimp only
  replace hcc := blk_u hcc b29
  replace sF := sF.below b29
  replace sO := sO.below b29
  replace bel := bel.trans (b29.mono bel.size)
  clear b29
  refine hK.out _ _ hcc (fun hH30 => ?_)
  clear hK K
  refine wpAnyH_take (i := 4) (v := ?_) rfl (by kernel_rfl) (by kernel_rfl) (by kernel_rfl) (fun _ _ _ h => h) (Or.inl ⟨by rfl, ?_⟩) hH30 ?_
  rotate_left
  · ((intro W hW; clear hW; go_simp) <;> with_reducible rfl)
  simp only [Act.put, List.getElem_toArray, List.getElem_cons_zero, List.getElem_cons_succ, List.setIfInBounds_toArray, List.set_cons_zero, List.set_cons_succ]
  refine wpAnyH_ready (rs := [7]) (by kernel_rfl) (by simp) ?_
  refine AllReadyH.cons (o := _) rfl (fun K hK => ?_) AllReadyH.nil
  simp only [List.getElem_toArray, List.getElem_cons_zero, List.getElem_cons_succ]
  go_simp
  with_reducible refine (rnum_t [116, 99, 112, 116, 105, 109, 101] c.tcp _ HV8 HZ8 (by decide) (by omega) (by have := HR.out.tcp; omega)).mono ?_
  rintro e w31 ⟨rfl, b31⟩
  dsimp only
  replace hcc := blk_u hcc b31
  replace sF := sF.below b31
  replace sO := sO.below b31
  replace bel := bel.trans (b31.mono bel.size)
  clear b31
  refine hK.out _ _ hcc (fun hH32 => ?_)
  clear hK K
  refine wpAnyH_take (i := 8) (v := ?_) rfl (by kernel_rfl) (by kernel_rfl) (by kernel_rfl) (fun _ _ _ h => h) (Or.inl ⟨by rfl, ?_⟩) hH32 ?_
  rotate_left
  · ((intro W hW; clear hW; go_simp) <;> with_reducible rfl)
  simp only [Act.put, List.getElem_toArray, List.getElem_cons_zero, List.getElem_cons_succ, List.setIfInBounds_toArray, List.set_cons_zero, List.set_cons_succ]
  refine wpAnyH_ready (rs := [11]) (by kernel_rfl) (by simp) ?_
  refine AllReadyH.cons (o := _) rfl (fun K hK => ?_) AllReadyH.nil
  simp only [List.getElem_toArray, List.getElem_cons_zero, List.getElem_cons_succ]
  go_simp
  with_reducible refine (rnum_t [105, 99, 109, 112, 116, 105, 109, 101] c.icmp _ HV9 HZ9 (by decide) (by omega) (by have := HR.out.icmp; omega)).mono ?_
  rintro e w33 ⟨rfl, b33⟩
  dsimp only
  replace hcc := blk_u hcc b33
  replace sF := sF.below b33
  replace sO := sO.below b33
  replace bel := bel.trans (b33.mono bel.size)
  clear b33
  refine hK.out _ _ hcc (fun hH34 => ?_)
  clear hK K
  refine wpAnyH_take (i := 12) (v := ?_) rfl (by kernel_rfl) (by kernel_rfl) (by kernel_rfl) (fun _ _ _ h => h) (Or.inl ⟨by rfl, ?_⟩) hH34 ?_
  rotate_left
  · ((intro W hW; clear hW; go_simp) <;> with_reducible rfl)
  simp only [Act.put, List.getElem_toArray, List.getElem_cons_zero, List.getElem_cons_succ, List.setIfInBounds_toArray, List.set_cons_zero, List.set_cons_succ]
  refine wpAnyH_ready (rs := [15]) (by kernel_rfl) (by simp) ?_
  refine AllReadyH.cons (o := _) rfl (fun K hK => ?_) AllReadyH.nil
  simp only [List.getElem_toArray, List.getElem_cons_zero, List.getElem_cons_succ]
  go_simp
  with_reducible refine (rnum_t [108, 111, 119] c.low _ HV10 HZ10 (by decide) (by omega) (by have := HR.out.low; omega)).mono ?_
  rintro e w35 ⟨rfl, b35⟩
  dsimp only
  replace hcc := blk_u hcc b35
  replace sF := sF.below b35
  replace sO := sO.below b35
  replace bel := bel.trans (b35.mono bel.size)
  clear b35
  refine hK.out _ _ hcc (fun hH36 => ?_)
  clear hK K
  refine wpAnyH_take (i := 16) (v := ?_) rfl (by kernel_rfl) (by kernel_rfl) (by kernel_rfl) (fun _ _ _ h => h) (Or.inl ⟨by rfl, ?_⟩) hH36 ?_
  rotate_left
  · ((intro W hW; clear hW; go_simp) <;> with_reducible rfl)
  simp only [Act.put, List.getElem_toArray, List.getElem_cons_zero, List.getElem_cons_succ, List.setIfInBounds_toArray, List.set_cons_zero, List.set_cons_succ]
  refine wpAnyH_take (i := 17) (v := ?_) rfl (by kernel_rfl) (by kernel_rfl) (by kernel_rfl) (fun _ _ _ h => h) (Or.inl ⟨by rfl, ?_⟩) hH36 ?_
  rotate_left
  · ((intro W hW; clear hW; go_simp) <;> with_reducible rfl)
  simp only [Act.put, List.getElem_toArray, List.getElem_cons_zero, List.getElem_cons_succ, List.setIfInBounds_toArray, List.set_cons_zero, List.set_cons_succ]
  refine wpAnyH_done (by kernel_rfl) ?_ _
  go_wp2_with fail
  go_loopg [3, 4] (nf + 1) (fun gk s3 s4 wr => ∃ j : Nat, ∃ ls : List (List UInt8), gk = nf + 1 - j ∧ j ≤ nf ∧ Hid (ls = hdL c ++ (c.fixed.take j).map fxL) ∧ (txt ls).length ≤ 550 + 60 * j ∧ s3 = .string ⟨((txt ls)).toArray⟩ ∧ s4 = .int .i64 (j : Int) ∧ wr.heap[g1]? = some (.cells (cfl c Fx nf cf Ox nx cx).toArray 44 (0, 0)) ∧ Sle fxf 10 wr (Fx) (nf) (cf) (c.fixed) ∧ Sle opf 7 wr (Ox) (nx) (cx) (c.opens) ∧ Below w.heap.size w wr)
  case atStart => exact ⟨0, l11, rfl, Nat.zero_le _, Lib.hid (by rw [HHD.out]; simp), by omega, rfl, rfl, hcc, sF, sO, bel⟩
  case round =>
    clear hcc sF sO bel
    obtain ⟨j, ls, HGK, hj, HLS, hll, rfl, rfl, hcc, sF, sO, bel⟩ := hrel
    have HGK_ := Lib.hid HGK
    clear HGK
    have j0 : (0 : Int) ≤ j := by omega
    have j1 : (j : Int) ≤ 32 := by omega
    by_cases hjn : j < nf
    · obtain ⟨gW, oW, hWp⟩ := sF.place (by omega)
      subst hWp
      obtain ⟨x, hx⟩ : ∃ x, c.fixed[j]? = some x := ⟨_, List.getElem?_eq_getElem (by have := sF.1; omega)⟩
      have HX := Lib.hid hx
      clear hx
      have tml_ := tM_len x.1
      have tal_ := tA_len x.2
      obtain ⟨tm, h_⟩ : ∃ z, tM x.1 = z := ⟨_, rfl⟩
      have HTM := Lib.hid h_
      rw [h_] at tml_
      clear h_
      obtain ⟨ta, h_⟩ : ∃ z, tA x.2 = z := ⟨_, rfl⟩
      have HTA := Lib.hid h_
      rw [h_] at tal_
      clear h_
      have s32 : ([32] : List UInt8).length = 1 := rfl
      obtain ⟨y1, hy1⟩ : ∃ z, tm ++ ([32] : List UInt8) = z := ⟨_, rfl⟩
      have HY1 := Lib.hid hy1
      have BY1 : Hid (tm.length + ([32] : List UInt8).length ≤ 8388608) := Lib.hid (by omega)
      have y1l : y1.length = tm.length + ([32] : List UInt8).length := by rw [← hy1, List.length_append]
      clear hy1
      obtain ⟨y2, hy2⟩ : ∃ z, y1 ++ ta = z := ⟨_, rfl⟩
      have HY2 := Lib.hid hy2
      have BY2 : Hid (y1.length + ta.length ≤ 8388608) := Lib.hid (by omega)
      have y2l : y2.length = y1.length + ta.length := by rw [← hy2, List.length_append]
      clear hy2
      obtain ⟨ms, h_⟩ : ∃ z, ls ++ [lnL [102, 105, 120, 101, 100] y2] = z := ⟨_, rfl⟩
      have HMS := Lib.hid h_
      have hml : (txt ms).length ≤ (txt ls).length + 60 := by have := (ln_snoc h_).2; simp only [List.length_cons, List.length_nil] at this; omega
      clear h_
      obtain ⟨z, h_⟩ : ∃ z, [102, 105, 120, 101, 100] ++ [32, 61, 32] ++ y2 ++ [10] = z := ⟨_, rfl⟩
      have HZ := Lib.hid h_
      have HT : Hid (txt ls ++ z = txt ms) := Lib.hid (by rw [← h_]; exact (ln_snoc HMS.out).1.symm)
      have BT : Hid ((txt ls).length + z.length ≤ 8388608) := Lib.hid (by have h2_ := congrArg List.length HT.out; rw [List.length_append] at h2_; omega)
      clear h_
      have HLS2 : Hid (ms = hdL c ++ (c.fixed.take (j + 1)).map fxL) := Lib.hid (by rw [take_snoc HX.out, List.map_append, ← List.append_assoc, ← HLS.out, ← HMS.out, ← HY2.out, ← HY1.out, ← HTM.out, ← HTA.out]; rfl)
      have F82 := fun W => st_cat HY1.out BY1.out W
      have F90 := fun W => st_cat HY2.out BY2.out W
      have F92 := fun W => st_cat HT.out BT.out W
      have R69 := cell_lit hcc 38 _ rfl
      go_wp2_with fail
      clear R69
      replace bel := bel.drew
      replace hcc : wr.drew.heap[g1]? = _ := hcc
      replace sF := sF.drew
      replace sO := sO.drew
      refine wp_region_held_drew (S := fun W => W.heap[g1]? = some (.cells #[.int .u8 (c.own.a.toNat : Int), .int .u8 (c.own.b.toNat : Int), .int .u8 (c.own.c.toNat : Int), .int .u8 (c.own.d.toNat : Int), .int .u8 (c.lan.a.toNat : Int), .int .u8 (c.lan.b.toNat : Int), .int .u8 (c.lan.c.toNat : Int), .int .u8 (c.lan.d.toNat : Int), .int .i64 c.bits, .int .u8 (c.lanmac.a.toNat : Int), .int .u8 (c.lanmac.b.toNat : Int), .int .u8 (c.lanmac.c.toNat : Int), .int .u8 (c.lanmac.d.toNat : Int), .int .u8 (c.lanmac.e.toNat : Int), .int .u8 (c.lanmac.f.toNat : Int), .int .u8 (c.wanmac.a.toNat : Int), .int .u8 (c.wanmac.b.toNat : Int), .int .u8 (c.wanmac.c.toNat : Int), .int .u8 (c.wanmac.d.toNat : Int), .int .u8 (c.wanmac.e.toNat : Int), .int .u8 (c.wanmac.f.toNat : Int), .int .u8 (c.first.a.toNat : Int), .int .u8 (c.first.b.toNat : Int), .int .u8 (c.first.c.toNat : Int), .int .u8 (c.first.d.toNat : Int), .int .u8 (c.last.a.toNat : Int), .int .u8 (c.last.b.toNat : Int), .int .u8 (c.last.c.toNat : Int), .int .u8 (c.last.d.toNat : Int), .int .i64 c.time, .int .u8 (c.dns.a.toNat : Int), .int .u8 (c.dns.b.toNat : Int), .int .u8 (c.dns.c.toNat : Int), .int .u8 (c.dns.d.toNat : Int), .int .i64 c.udp, .int .i64 c.tcp, .int .i64 c.icmp, .int .i64 c.low, .slice (some ⟨gW, oW, none⟩) nf cf, .slice Ox nx cx] 44 (0, 0)) ∧ Sle fxf 10 W (some ⟨gW, oW, none⟩) (nf) (cf) (c.fixed)) (by kernel_rfl) ⟨hcc, sF⟩ (fun hH => ?_)
      generalize wr.drew = w37 at bel hcc sF sO hH ⊢
      refine wpAnyH_take (i := 0) (v := ?_) rfl (by kernel_rfl) (by kernel_rfl) (by kernel_rfl) (fun _ _ _ h => h) (Or.inl ⟨by rfl, ?_⟩) hH ?_
      rotate_left
      · ((intro W hW; clear hW; go_simp) <;> with_reducible rfl)
      simp only [Act.put, List.getElem_toArray, List.getElem_cons_zero, List.setIfInBounds_toArray, List.set_cons_zero, List.set_cons_succ]
      refine wpAnyH_take (i := 1) (v := ?_) rfl (by kernel_rfl) (by kernel_rfl) (by kernel_rfl) (fun _ _ _ h => h) (Or.inl ⟨by rfl, ?_⟩) hH ?_
      rotate_left
      · ((intro W hW; clear hW; go_simp) <;> with_reducible rfl)
      simp only [Act.put, List.getElem_toArray, List.getElem_cons_zero, List.getElem_cons_succ, List.setIfInBounds_toArray, List.set_cons_zero, List.set_cons_succ]
      refine wpAnyH_take (i := 2) (v := ?_) rfl (by kernel_rfl) (by kernel_rfl) (by kernel_rfl) (fun _ _ _ h => h) (Or.inl ⟨by rfl, ?_⟩) hH ?_
      rotate_left
      · ((intro W hW; have hk := cell_lit (hW.1) 38 _ rfl; clear hW; go_simp) <;> with_reducible rfl)
      simp only [Act.put, List.getElem_toArray, List.getElem_cons_zero, List.getElem_cons_succ, List.setIfInBounds_toArray, List.set_cons_zero, List.set_cons_succ]
      refine wpAnyH_take (i := 3) (v := ?_) rfl (by kernel_rfl) (by kernel_rfl) (by kernel_rfl) (fun _ _ _ h => h) (Or.inl ⟨by rfl, ?_⟩) hH ?_
      rotate_left
      · ((intro W hW; clear hW; go_simp) <;> with_reducible rfl)
      simp only [Act.put, List.getElem_toArray, List.getElem_cons_zero, List.getElem_cons_succ, List.setIfInBounds_toArray, List.set_cons_zero, List.set_cons_succ]
      refine wpAnyH_take (i := 4) (v := ?_) rfl (by kernel_rfl) (by kernel_rfl) (by kernel_rfl) (fun _ _ _ h => h) (Or.inl ⟨by rfl, ?_⟩) hH ?_
      rotate_left
      · ((intro W hW; clear hW; go_simp) <;> with_reducible rfl)
      simp only [Act.put, List.getElem_toArray, List.getElem_cons_zero, List.getElem_cons_succ, List.setIfInBounds_toArray, List.set_cons_zero, List.set_cons_succ]
      refine wpAnyH_take (i := 5) (v := ?_) rfl (by kernel_rfl) (by kernel_rfl) (by kernel_rfl) (fun _ _ _ h => h) (Or.inl ⟨by rfl, ?_⟩) hH ?_
      rotate_left
      · ((intro W hW; clear hW; go_simp) <;> with_reducible rfl)
      simp only [Act.put, List.getElem_toArray, List.getElem_cons_zero, List.getElem_cons_succ, List.setIfInBounds_toArray, List.set_cons_zero, List.set_cons_succ]
      refine wpAnyH_take (i := 6) (v := .agg #[.int .u8 (x.1.a.toNat : Int), .int .u8 (x.1.b.toNat : Int), .int .u8 (x.1.c.toNat : Int), .int .u8 (x.1.d.toNat : Int), .int .u8 (x.1.e.toNat : Int), .int .u8 (x.1.f.toNat : Int)]) rfl (by kernel_rfl) (by kernel_rfl) (by kernel_rfl) (fun _ _ _ h => h) (yieldsIf_load_mid (by kernel_rfl) 28 _ rfl gW (oW + j * 10) rfl [.int .u8 (x.1.a.toNat : Int), .int .u8 (x.1.b.toNat : Int), .int .u8 (x.1.c.toNat : Int), .int .u8 (x.1.d.toNat : Int), .int .u8 (x.1.e.toNat : Int), .int .u8 (x.1.f.toNat : Int)] _ (fun W hW => Sle.range0 (hW.2) HX.out 6 [.int .u8 (x.1.a.toNat : Int), .int .u8 (x.1.b.toNat : Int), .int .u8 (x.1.c.toNat : Int), .int .u8 (x.1.d.toNat : Int), .int .u8 (x.1.e.toNat : Int), .int .u8 (x.1.f.toNat : Int)] rfl) Tryd.underlying28 rfl (by kernel_rfl)) hH ?_
      simp only [Act.put, List.getElem_toArray, List.getElem_cons_zero, List.getElem_cons_succ, List.setIfInBounds_toArray, List.set_cons_zero, List.set_cons_succ]
      refine wpAnyH_take (i := 9) (v := ?_) rfl (by kernel_rfl) (by kernel_rfl) (by kernel_rfl) (fun _ _ _ h => h) (Or.inl ⟨by rfl, ?_⟩) hH ?_
      rotate_left
      · ((intro W hW; clear hW; go_simp) <;> with_reducible rfl)
      simp only [Act.put, List.getElem_toArray, List.getElem_cons_zero, List.getElem_cons_succ, List.setIfInBounds_toArray, List.set_cons_zero, List.set_cons_succ]
      refine wpAnyH_take (i := 10) (v := ?_) rfl (by kernel_rfl) (by kernel_rfl) (by kernel_rfl) (fun _ _ _ h => h) (Or.inl ⟨by rfl, ?_⟩) hH ?_
      rotate_left
      · ((intro W hW; have hk := cell_lit (hW.1) 38 _ rfl; clear hW; go_simp) <;> with_reducible rfl)
      simp only [Act.put, List.getElem_toArray, List.getElem_cons_zero, List.getElem_cons_succ, List.setIfInBounds_toArray, List.set_cons_zero, List.set_cons_succ]
      refine wpAnyH_take (i := 11) (v := ?_) rfl (by kernel_rfl) (by kernel_rfl) (by kernel_rfl) (fun _ _ _ h => h) (Or.inl ⟨by rfl, ?_⟩) hH ?_
      rotate_left
      · ((intro W hW; clear hW; go_simp) <;> with_reducible rfl)
      simp only [Act.put, List.getElem_toArray, List.getElem_cons_zero, List.getElem_cons_succ, List.setIfInBounds_toArray, List.set_cons_zero, List.set_cons_succ]
      refine wpAnyH_take (i := 12) (v := ?_) rfl (by kernel_rfl) (by kernel_rfl) (by kernel_rfl) (fun _ _ _ h => h) (Or.inl ⟨by rfl, ?_⟩) hH ?_
      rotate_left
      · ((intro W hW; clear hW; go_simp) <;> with_reducible rfl)
      simp only [Act.put, List.getElem_toArray, List.getElem_cons_zero, List.getElem_cons_succ, List.setIfInBounds_toArray, List.set_cons_zero, List.set_cons_succ]
      refine wpAnyH_take (i := 13) (v := ?_) rfl (by kernel_rfl) (by kernel_rfl) (by kernel_rfl) (fun _ _ _ h => h) (Or.inl ⟨by rfl, ?_⟩) hH ?_
      rotate_left
      · ((intro W hW; clear hW; go_simp) <;> with_reducible rfl)
      simp only [Act.put, List.getElem_toArray, List.getElem_cons_zero, List.getElem_cons_succ, List.setIfInBounds_toArray, List.set_cons_zero, List.set_cons_succ]
      refine wpAnyH_take (i := 14) (v := .agg #[.int .u8 (x.2.a.toNat : Int), .int .u8 (x.2.b.toNat : Int), .int .u8 (x.2.c.toNat : Int), .int .u8 (x.2.d.toNat : Int)]) rfl (by kernel_rfl) (by kernel_rfl) (by kernel_rfl) (fun _ _ _ h => h) (yieldsIf_load_mid (by kernel_rfl) 24 _ rfl gW (oW + j * 10 + 6) rfl [.int .u8 (x.2.a.toNat : Int), .int .u8 (x.2.b.toNat : Int), .int .u8 (x.2.c.toNat : Int), .int .u8 (x.2.d.toNat : Int)] _ (fun W hW => Sle.range (hW.2) HX.out 6 4 [.int .u8 (x.2.a.toNat : Int), .int .u8 (x.2.b.toNat : Int), .int .u8 (x.2.c.toNat : Int), .int .u8 (x.2.d.toNat : Int)] rfl) Tryd.underlying24 rfl (by kernel_rfl)) hH ?_
      simp only [Act.put, List.getElem_toArray, List.getElem_cons_zero, List.getElem_cons_succ, List.setIfInBounds_toArray, List.set_cons_zero, List.set_cons_succ]
      refine wpAnyH_ready (rs := [7]) (by kernel_rfl) (by simp) ?_
      refine AllReadyH.cons (o := _) rfl (fun K hK => ?_) AllReadyH.nil
      simp only [List.getElem_toArray, List.getElem_cons_zero, List.getElem_cons_succ]
      go_simp
      with_reducible refine (rmact_l x.1 _).mono ?_
      rintro e w38 ⟨rfl, b38⟩
      dsimp only
      replace hcc := blk_u hcc b38
      replace sF := sF.below b38
      replace sO := sO.below b38
      replace bel := bel.trans (b38.mono bel.size)
      clear b38
      rw [HTM.out]
      refine hK.out _ _ ⟨hcc, sF⟩ (fun hH39 => ?_)
      clear hK K
      refine wpAnyH_take (i := 8) (v := ?_) rfl (by kernel_rfl) (by kernel_rfl) (by kernel_rfl) (fun _ _ _ h => h) (Or.inl ⟨by rfl, ?_⟩) hH39 ?_
      rotate_left
      · ((intro W hW; clear hW; go_simp) <;> with_reducible rfl)
      simp only [Act.put, List.getElem_toArray, List.getElem_cons_zero, List.getElem_cons_succ, List.setIfInBounds_toArray, List.set_cons_zero, List.set_cons_succ]
      refine wpAnyH_ready (rs := [15]) (by kernel_rfl) (by simp) ?_
      refine AllReadyH.cons (o := _) rfl (fun K hK => ?_) AllReadyH.nil
      simp only [List.getElem_toArray, List.getElem_cons_zero, List.getElem_cons_succ]
      go_simp
      with_reducible refine (raddr_l x.2 _).mono ?_
      rintro e w40 ⟨rfl, b40⟩
      dsimp only
      replace hcc := blk_u hcc b40
      replace sF := sF.below b40
      replace sO := sO.below b40
      replace bel := bel.trans (b40.mono bel.size)
      clear b40
      rw [HTA.out]
      refine hK.out _ _ ⟨hcc, sF⟩ (fun hH41 => ?_)
      clear hK K
      refine wpAnyH_take (i := 16) (v := ?_) rfl (by kernel_rfl) (by kernel_rfl) (by kernel_rfl) (fun _ _ _ h => h) (Or.inl ⟨by rfl, ?_⟩) hH41 ?_
      rotate_left
      · ((intro W hW; clear hW; go_simp) <;> with_reducible rfl)
      simp only [Act.put, List.getElem_toArray, List.getElem_cons_zero, List.getElem_cons_succ, List.setIfInBounds_toArray, List.set_cons_zero, List.set_cons_succ]
      refine wpAnyH_ready (rs := [17]) (by kernel_rfl) (by simp) ?_
      refine AllReadyH.cons (o := _) rfl (fun K hK => ?_) AllReadyH.nil
      simp only [List.getElem_toArray, List.getElem_cons_zero, List.getElem_cons_succ]
      go_simp
      with_reducible refine (rline_l [102, 105, 120, 101, 100] y2 _ HZ (by decide) (by omega)).mono ?_
      rintro e _ ⟨rfl, rfl⟩
      dsimp only
      refine hK.out _ _ ⟨hcc, sF⟩ (fun hH42 => ?_)
      clear hK K
      refine wpAnyH_take (i := 18) (v := ?_) rfl (by kernel_rfl) (by kernel_rfl) (by kernel_rfl) (fun _ _ _ h => h) (Or.inl ⟨by rfl, ?_⟩) hH42 ?_
      rotate_left
      · ((intro W hW; clear hW; go_simp) <;> with_reducible rfl)
      simp only [Act.put, List.getElem_toArray, List.getElem_cons_zero, List.getElem_cons_succ, List.setIfInBounds_toArray, List.set_cons_zero, List.set_cons_succ]
      refine wpAnyH_take (i := 19) (v := ?_) rfl (by kernel_rfl) (by kernel_rfl) (by kernel_rfl) (fun _ _ _ h => h) (Or.inl ⟨by rfl, ?_⟩) hH42 ?_
      rotate_left
      · ((intro W hW; clear hW; go_simp) <;> with_reducible rfl)
      simp only [Act.put, List.getElem_toArray, List.getElem_cons_zero, List.getElem_cons_succ, List.setIfInBounds_toArray, List.set_cons_zero, List.set_cons_succ]
      refine wpAnyH_done (by kernel_rfl) ?_ _
      go_wp2_with fail
      go_roundg (nf + 1 - (j + 1))
      case measure => have := HGK_.out; omega
      case rel => exact ⟨j + 1, ms, rfl, by omega, HLS2, by omega, by go_num, by go_num, hcc, sF, sO, bel⟩
    have hjk : decide (j < nf) = false := decide_eq_false hjn
    obtain ⟨ls1, h1_⟩ : ∃ z, ls = z := ⟨_, rfl⟩
    rw [h1_] at hll HLS
    rw [h1_]
    have HL1_ : Hid (ls1 = hdL c ++ c.fixed.map fxL) := Lib.hid (by have h_ := HLS.out; rwa [List.take_of_length_le (by have := sF.1; omega)] at h_)
    have hl2 : (txt ls1).length ≤ 2600 := by omega
    clear HLS h1_ hjn hj j0 j1 HGK_ hll
    have R69 := cell_lit hcc 38 _ rfl
    go_wp2_with fail
    clear R69
    go_loopg [3, 5] (nx + 1) (fun gk s3 s5 wr => ∃ j : Nat, ∃ ls : List (List UInt8), gk = nx + 1 - j ∧ j ≤ nx ∧ Hid (ls = (hdL c ++ c.fixed.map fxL) ++ (c.opens.take j).map opL) ∧ (txt ls).length ≤ 2600 + 60 * j ∧ s3 = .string ⟨((txt ls)).toArray⟩ ∧ s5 = .int .i64 (j : Int) ∧ wr.heap[g1]? = some (.cells (cfl c Fx nf cf Ox nx cx).toArray 44 (0, 0)) ∧ Sle fxf 10 wr (Fx) (nf) (cf) (c.fixed) ∧ Sle opf 7 wr (Ox) (nx) (cx) (c.opens) ∧ Below w.heap.size w wr)
    case atStart => exact ⟨0, ls1, rfl, Nat.zero_le _, Lib.hid (by rw [HL1_.out]; simp), by omega, rfl, rfl, hcc, sF, sO, bel⟩
    case round =>
      clear hcc sF sO bel
      obtain ⟨j, ls, HGK, hj, HLS, hll, rfl, rfl, hcc, sF, sO, bel⟩ := hrel
      have HGK_ := Lib.hid HGK
      clear HGK
      have j0 : (0 : Int) ≤ j := by omega
      have j1 : (j : Int) ≤ 32 := by omega
      by_cases hjm : j < nx
      rotate_left
      · have hjk2 : decide (j < nx) = false := decide_eq_false hjm
        have HP : Hid (textS c = txt ls) := Lib.hid (by unfold textS linesC; rw [if_pos hc.out, HLS.out, List.take_of_length_le (by have := sO.1; omega)])
        clear HLS hjm hj j0 j1
        have R95 := cell_lit hcc 39 _ rfl
        go_wp2_with fail
        clear R95
        go_ret
        exact ⟨(by rw [HP.out] <;> rfl), bel⟩
      obtain ⟨gW, oW, hWp⟩ := sO.place (by omega)
      subst hWp
      obtain ⟨x, hx⟩ : ∃ x, c.opens[j]? = some x := ⟨_, List.getElem?_eq_getElem (by have := sO.1; omega)⟩
      have HX := Lib.hid hx
      clear hx
      obtain ⟨hp_, ⟨r1, r2⟩, r3, r4⟩ := HR.out.op x (List.mem_of_getElem? HX.out)
      have tal_ := tA_len x.2.2.1
      have tnl_ := tN_len (n := x.2.1) (by omega)
      have tol_ := tN_len (n := x.2.2.2) (by omega)
      obtain ⟨ta, h_⟩ : ∃ z, tA x.2.2.1 = z := ⟨_, rfl⟩
      have HTA := Lib.hid h_
      rw [h_] at tal_
      clear h_
      obtain ⟨tn, h_⟩ : ∃ z, tN x.2.1 = z := ⟨_, rfl⟩
      have HTN := Lib.hid h_
      rw [h_] at tnl_
      clear h_
      obtain ⟨tq, h_⟩ : ∃ z, tN x.2.2.2 = z := ⟨_, rfl⟩
      have HTO := Lib.hid h_
      rw [h_] at tol_
      clear h_
      have s32 : ([32] : List UInt8).length = 1 := rfl
      rcases hp_ with hp | hp
      rotate_left
      · have e6 : (x.1 == 6) = true := beq_iff_eq.2 hp
        have HP_ : Hid (opP x.1 ++ [32] = [116, 99, 112, 32]) := Lib.hid (by unfold opP; rw [if_pos hp]; rfl)
        clear hp
        have s4 : ([116, 99, 112, 32] : List UInt8).length = 4 := rfl
        obtain ⟨y1, hy1⟩ : ∃ z, ([116, 99, 112, 32] : List UInt8) ++ tn = z := ⟨_, rfl⟩
        have HY1 := Lib.hid hy1
        have BY1 : Hid (([116, 99, 112, 32] : List UInt8).length + tn.length ≤ 8388608) := Lib.hid (by omega)
        have y1l : y1.length = ([116, 99, 112, 32] : List UInt8).length + tn.length := by rw [← hy1, List.length_append]
        clear hy1
        obtain ⟨y2, hy2⟩ : ∃ z, y1 ++ ([32] : List UInt8) = z := ⟨_, rfl⟩
        have HY2 := Lib.hid hy2
        have BY2 : Hid (y1.length + ([32] : List UInt8).length ≤ 8388608) := Lib.hid (by omega)
        have y2l : y2.length = y1.length + ([32] : List UInt8).length := by rw [← hy2, List.length_append]
        clear hy2
        obtain ⟨y3, hy3⟩ : ∃ z, y2 ++ ta = z := ⟨_, rfl⟩
        have HY3 := Lib.hid hy3
        have BY3 : Hid (y2.length + ta.length ≤ 8388608) := Lib.hid (by omega)
        have y3l : y3.length = y2.length + ta.length := by rw [← hy3, List.length_append]
        clear hy3
        obtain ⟨y4, hy4⟩ : ∃ z, y3 ++ ([32] : List UInt8) = z := ⟨_, rfl⟩
        have HY4 := Lib.hid hy4
        have BY4 : Hid (y3.length + ([32] : List UInt8).length ≤ 8388608) := Lib.hid (by omega)
        have y4l : y4.length = y3.length + ([32] : List UInt8).length := by rw [← hy4, List.length_append]
        clear hy4
        obtain ⟨y5, hy5⟩ : ∃ z, y4 ++ tq = z := ⟨_, rfl⟩
        have HY5 := Lib.hid hy5
        have BY5 : Hid (y4.length + tq.length ≤ 8388608) := Lib.hid (by omega)
        have y5l : y5.length = y4.length + tq.length := by rw [← hy5, List.length_append]
        clear hy5
        have HOV : Hid (opV x = y5) := Lib.hid (by rw [← HY5.out, ← HY4.out, ← HY3.out, ← HY2.out, ← HY1.out, ← HP_.out, ← HTN.out, ← HTA.out, ← HTO.out]; unfold opV; simp only [List.append_assoc])
        obtain ⟨ms, h_⟩ : ∃ z, ls ++ [lnL [111, 112, 101, 110] y5] = z := ⟨_, rfl⟩
        have HMS := Lib.hid h_
        have hml : (txt ms).length ≤ (txt ls).length + 60 := by have := (ln_snoc h_).2; simp only [List.length_cons, List.length_nil] at this; omega
        clear h_
        obtain ⟨z, h_⟩ : ∃ z, [111, 112, 101, 110] ++ [32, 61, 32] ++ y5 ++ [10] = z := ⟨_, rfl⟩
        have HZ := Lib.hid h_
        have HT : Hid (txt ls ++ z = txt ms) := Lib.hid (by rw [← h_]; exact (ln_snoc HMS.out).1.symm)
        have BT : Hid ((txt ls).length + z.length ≤ 8388608) := Lib.hid (by have h2_ := congrArg List.length HT.out; rw [List.length_append] at h2_; omega)
        clear h_
        have HLS2 : Hid (ms = hdL c ++ c.fixed.map fxL ++ (c.opens.take (j + 1)).map opL) := Lib.hid (by rw [take_snoc HX.out, List.map_append, ← List.append_assoc, ← HLS.out, ← HMS.out, ← HOV.out]; rfl)
        have F113 := fun W => st_cat HY1.out BY1.out W
        have F114 := fun W => st_cat HY2.out BY2.out W
        have F118 := fun W => st_cat HY3.out BY3.out W
        have F119 := fun W => st_cat HY4.out BY4.out W
        have F123 := fun W => st_cat HY5.out BY5.out W
        have F125 := fun W => st_cat HT.out BT.out W
        have R95 := cell_lit hcc 39 _ rfl
        have R101 := cell_lit hcc 39 _ rfl
        have R104 := Lib.hid (Sle.range0 sO HX.out 7 [.int .i64 x.1, .int .i64 x.2.1, .int .u8 (x.2.2.1.a.toNat : Int), .int .u8 (x.2.2.1.b.toNat : Int), .int .u8 (x.2.2.1.c.toNat : Int), .int .u8 (x.2.2.1.d.toNat : Int), .int .i64 x.2.2.2] rfl)
        go_wp2_with (first | ((with_reducible show wpList _ _ _ (⟨some 104, _, _, _, _, _⟩ :: _) _ _); refine wpList_load_rng 82 (.tmp 103) rfl (by kernel_rfl) _ _ rfl _ R104.out _ Tryd.underlying82 rfl (by kernel_rfl) ?_) | ((with_reducible show wpList _ _ _ (⟨some 6, _, _, _, _, _⟩ :: _) _ _); refine wpList_new_a rfl 82 rfl #[.int .i64 0, .int .i64 0, .int .u8 0, .int .u8 0, .int .u8 0, .int .u8 0, .int .i64 0] (by kernel_rfl) ?_; intro g6 w37 ge hh bb; have d_cc_ov := ne_new (hlt hcc) ge; have av_sF_ov := sF.av_new ge; have av_sO_ov := sO.av_new ge; have oov := Nat.le_trans bel.size ge; replace hcc := blk_u hcc bb; replace sF := sF.below bb; replace sO := sO.below bb; replace bel := bel.trans (bb.mono bel.size); have hov := hh; clear hh ge bb) | ((with_reducible show wpList _ _ _ (⟨none, Op.store _ (.tmp 6) _, _, _, _, _⟩ :: _) _ _); refine wpList_store_blk rfl 82 (.tmp 6) (.tmp 104) rfl g6 rfl _ rfl _ 82 hov (by rfl) (by kernel_rfl) (by kernel_rfl) ?_; intro w38 hq gr; replace sF := sF.away av_sF_ov gr; replace sO := sO.away av_sO_ov gr; replace hcc := blk_a hcc gr d_cc_ov; replace bel := below_grown bel gr oov bel.size; clear hov; have hov := hq; clear hq gr; have R106 := cell_lit hov 0 _ rfl))
        try clear R95
        try clear R101
        try clear R104
        try clear R106
        replace bel := bel.drew
        replace hcc : w38.drew.heap[g1]? = _ := hcc
        replace hov : w38.drew.heap[g6]? = _ := hov
        replace sF := sF.drew
        replace sO := sO.drew
        refine wp_region_held_drew (S := fun W => W.heap[g6]? = some (.cells #[.int .i64 x.1, .int .i64 x.2.1, .int .u8 (x.2.2.1.a.toNat : Int), .int .u8 (x.2.2.1.b.toNat : Int), .int .u8 (x.2.2.1.c.toNat : Int), .int .u8 (x.2.2.1.d.toNat : Int), .int .i64 x.2.2.2] 82 (0, 0))) (by kernel_rfl) hov (fun hH => ?_)
        generalize w38.drew = w39 at bel hcc hov sF sO hH ⊢
        refine wpAnyH_take (i := 0) (v := ?_) rfl (by kernel_rfl) (by kernel_rfl) (by kernel_rfl) (fun _ _ _ h => h) (Or.inl ⟨by rfl, ?_⟩) hH ?_
        rotate_left
        · ((intro W hW; clear hW; go_simp) <;> with_reducible rfl)
        simp only [Act.put, List.getElem_toArray, List.getElem_cons_zero, List.setIfInBounds_toArray, List.set_cons_zero, List.set_cons_succ]
        refine wpAnyH_take (i := 1) (v := ?_) rfl (by kernel_rfl) (by kernel_rfl) (by kernel_rfl) (fun _ _ _ h => h) (Or.inl ⟨by rfl, ?_⟩) hH ?_
        rotate_left
        · ((intro W hW; clear hW; go_simp) <;> with_reducible rfl)
        simp only [Act.put, List.getElem_toArray, List.getElem_cons_zero, List.getElem_cons_succ, List.setIfInBounds_toArray, List.set_cons_zero, List.set_cons_succ]
        refine wpAnyH_take (i := 2) (v := ?_) rfl (by kernel_rfl) (by kernel_rfl) (by kernel_rfl) (fun _ _ _ h => h) (Or.inl ⟨by rfl, ?_⟩) hH ?_
        rotate_left
        · ((intro W hW; clear hW; go_simp) <;> with_reducible rfl)
        simp only [Act.put, List.getElem_toArray, List.getElem_cons_zero, List.getElem_cons_succ, List.setIfInBounds_toArray, List.set_cons_zero, List.set_cons_succ]
        refine wpAnyH_take (i := 3) (v := ?_) rfl (by kernel_rfl) (by kernel_rfl) (by kernel_rfl) (fun _ _ _ h => h) (Or.inl ⟨by rfl, ?_⟩) hH ?_
        rotate_left
        · ((intro W hW; have hk := cell_lit (hW) 1 _ rfl; clear hW; go_simp) <;> with_reducible rfl)
        simp only [Act.put, List.getElem_toArray, List.getElem_cons_zero, List.getElem_cons_succ, List.setIfInBounds_toArray, List.set_cons_zero, List.set_cons_succ]
        refine wpAnyH_take (i := 7) (v := ?_) rfl (by kernel_rfl) (by kernel_rfl) (by kernel_rfl) (fun _ _ _ h => h) (Or.inl ⟨by rfl, ?_⟩) hH ?_
        rotate_left
        · ((intro W hW; clear hW; go_simp) <;> with_reducible rfl)
        simp only [Act.put, List.getElem_toArray, List.getElem_cons_zero, List.getElem_cons_succ, List.setIfInBounds_toArray, List.set_cons_zero, List.set_cons_succ]
        refine wpAnyH_take (i := 8) (v := .agg #[.int .u8 (x.2.2.1.a.toNat : Int), .int .u8 (x.2.2.1.b.toNat : Int), .int .u8 (x.2.2.1.c.toNat : Int), .int .u8 (x.2.2.1.d.toNat : Int)]) rfl (by kernel_rfl) (by kernel_rfl) (by kernel_rfl) (fun _ _ _ h => h) (yieldsIf_load_part (by kernel_rfl) 24 _ rfl g6 2 4 rfl _ 82 (0, 0) (fun W hW => hW) _ rfl _ Tryd.underlying24 rfl (by kernel_rfl)) hH ?_
        simp only [Act.put, List.getElem_toArray, List.getElem_cons_zero, List.getElem_cons_succ, List.setIfInBounds_toArray, List.set_cons_zero, List.set_cons_succ]
        refine wpAnyH_take (i := 12) (v := ?_) rfl (by kernel_rfl) (by kernel_rfl) (by kernel_rfl) (fun _ _ _ h => h) (Or.inl ⟨by rfl, ?_⟩) hH ?_
        rotate_left
        · ((intro W hW; clear hW; go_simp) <;> with_reducible rfl)
        simp only [Act.put, List.getElem_toArray, List.getElem_cons_zero, List.getElem_cons_succ, List.setIfInBounds_toArray, List.set_cons_zero, List.set_cons_succ]
        refine wpAnyH_take (i := 13) (v := ?_) rfl (by kernel_rfl) (by kernel_rfl) (by kernel_rfl) (fun _ _ _ h => h) (Or.inl ⟨by rfl, ?_⟩) hH ?_
        rotate_left
        · ((intro W hW; have hk := cell_lit (hW) 6 _ rfl; clear hW; go_simp) <;> with_reducible rfl)
        simp only [Act.put, List.getElem_toArray, List.getElem_cons_zero, List.getElem_cons_succ, List.setIfInBounds_toArray, List.set_cons_zero, List.set_cons_succ]
        refine wpAnyH_ready (rs := [4]) (by kernel_rfl) (by simp) ?_
        refine AllReadyH.cons (o := _) rfl (fun K hK => ?_) AllReadyH.nil
        simp only [List.getElem_toArray, List.getElem_cons_zero, List.getElem_cons_succ]
        go_simp
        with_reducible refine (rtext_l x.2.1 (by omega) (by omega) _).mono ?_
        rintro e w40 ⟨rfl, b40⟩
        dsimp only
        replace hcc := blk_u hcc b40
        replace hov := blk_u hov b40
        replace sF := sF.below b40
        replace sO := sO.below b40
        replace bel := bel.trans (b40.mono bel.size)
        clear b40
        rw [HTN.out]
        refine hK.out _ _ hov (fun hH41 => ?_)
        clear hK K
        refine wpAnyH_take (i := 5) (v := ?_) rfl (by kernel_rfl) (by kernel_rfl) (by kernel_rfl) (fun _ _ _ h => h) (Or.inl ⟨by rfl, ?_⟩) hH41 ?_
        rotate_left
        · ((intro W hW; clear hW; go_simp) <;> with_reducible rfl)
        simp only [Act.put, List.getElem_toArray, List.getElem_cons_zero, List.getElem_cons_succ, List.setIfInBounds_toArray, List.set_cons_zero, List.set_cons_succ]
        refine wpAnyH_take (i := 6) (v := ?_) rfl (by kernel_rfl) (by kernel_rfl) (by kernel_rfl) (fun _ _ _ h => h) (Or.inl ⟨by rfl, ?_⟩) hH41 ?_
        rotate_left
        · ((intro W hW; clear hW; go_simp) <;> with_reducible rfl)
        simp only [Act.put, List.getElem_toArray, List.getElem_cons_zero, List.getElem_cons_succ, List.setIfInBounds_toArray, List.set_cons_zero, List.set_cons_succ]
        refine wpAnyH_ready (rs := [9]) (by kernel_rfl) (by simp) ?_
        refine AllReadyH.cons (o := _) rfl (fun K hK => ?_) AllReadyH.nil
        simp only [List.getElem_toArray, List.getElem_cons_zero, List.getElem_cons_succ]
        go_simp
        with_reducible refine (raddr_l x.2.2.1 _).mono ?_
        rintro e w42 ⟨rfl, b42⟩
        dsimp only
        replace hcc := blk_u hcc b42
        replace hov := blk_u hov b42
        replace sF := sF.below b42
        replace sO := sO.below b42
        replace bel := bel.trans (b42.mono bel.size)
        clear b42
        rw [HTA.out]
        refine hK.out _ _ hov (fun hH43 => ?_)
        clear hK K
        refine wpAnyH_take (i := 10) (v := ?_) rfl (by kernel_rfl) (by kernel_rfl) (by kernel_rfl) (fun _ _ _ h => h) (Or.inl ⟨by rfl, ?_⟩) hH43 ?_
        rotate_left
        · ((intro W hW; clear hW; go_simp) <;> with_reducible rfl)
        simp only [Act.put, List.getElem_toArray, List.getElem_cons_zero, List.getElem_cons_succ, List.setIfInBounds_toArray, List.set_cons_zero, List.set_cons_succ]
        refine wpAnyH_take (i := 11) (v := ?_) rfl (by kernel_rfl) (by kernel_rfl) (by kernel_rfl) (fun _ _ _ h => h) (Or.inl ⟨by rfl, ?_⟩) hH43 ?_
        rotate_left
        · ((intro W hW; clear hW; go_simp) <;> with_reducible rfl)
        simp only [Act.put, List.getElem_toArray, List.getElem_cons_zero, List.getElem_cons_succ, List.setIfInBounds_toArray, List.set_cons_zero, List.set_cons_succ]
        refine wpAnyH_ready (rs := [14]) (by kernel_rfl) (by simp) ?_
        refine AllReadyH.cons (o := _) rfl (fun K hK => ?_) AllReadyH.nil
        simp only [List.getElem_toArray, List.getElem_cons_zero, List.getElem_cons_succ]
        go_simp
        with_reducible refine (rtext_l x.2.2.2 (by omega) (by omega) _).mono ?_
        rintro e w44 ⟨rfl, b44⟩
        dsimp only
        replace hcc := blk_u hcc b44
        replace hov := blk_u hov b44
        replace sF := sF.below b44
        replace sO := sO.below b44
        replace bel := bel.trans (b44.mono bel.size)
        clear b44
        rw [HTO.out]
        refine hK.out _ _ hov (fun hH45 => ?_)
        clear hK K
        refine wpAnyH_take (i := 15) (v := ?_) rfl (by kernel_rfl) (by kernel_rfl) (by kernel_rfl) (fun _ _ _ h => h) (Or.inl ⟨by rfl, ?_⟩) hH45 ?_
        rotate_left
        · ((intro W hW; clear hW; go_simp) <;> with_reducible rfl)
        simp only [Act.put, List.getElem_toArray, List.getElem_cons_zero, List.getElem_cons_succ, List.setIfInBounds_toArray, List.set_cons_zero, List.set_cons_succ]
        refine wpAnyH_ready (rs := [16]) (by kernel_rfl) (by simp) ?_
        refine AllReadyH.cons (o := _) rfl (fun K hK => ?_) AllReadyH.nil
        simp only [List.getElem_toArray, List.getElem_cons_zero, List.getElem_cons_succ]
        go_simp
        with_reducible refine (rline_l [111, 112, 101, 110] y5 _ HZ (by decide) (by omega)).mono ?_
        rintro e _ ⟨rfl, rfl⟩
        dsimp only
        refine hK.out _ _ hov (fun hH46 => ?_)
        clear hK K
        refine wpAnyH_take (i := 17) (v := ?_) rfl (by kernel_rfl) (by kernel_rfl) (by kernel_rfl) (fun _ _ _ h => h) (Or.inl ⟨by rfl, ?_⟩) hH46 ?_
        rotate_left
        · ((intro W hW; clear hW; go_simp) <;> with_reducible rfl)
        simp only [Act.put, List.getElem_toArray, List.getElem_cons_zero, List.getElem_cons_succ, List.setIfInBounds_toArray, List.set_cons_zero, List.set_cons_succ]
        refine wpAnyH_take (i := 18) (v := ?_) rfl (by kernel_rfl) (by kernel_rfl) (by kernel_rfl) (fun _ _ _ h => h) (Or.inl ⟨by rfl, ?_⟩) hH46 ?_
        rotate_left
        · ((intro W hW; clear hW; go_simp) <;> with_reducible rfl)
        simp only [Act.put, List.getElem_toArray, List.getElem_cons_zero, List.getElem_cons_succ, List.setIfInBounds_toArray, List.set_cons_zero, List.set_cons_succ]
        refine wpAnyH_done (by kernel_rfl) ?_ _
        go_wp2_with fail
        go_roundg (nx + 1 - (j + 1))
        case measure => have := HGK_.out; omega
        case rel => exact ⟨j + 1, ms, rfl, by omega, HLS2, by omega, by go_num, by go_num, hcc, sF, sO, bel⟩
      have e6 : (x.1 == 6) = false := beq_eq_false_iff_ne.2 (by omega)
      have HP_ : Hid (opP x.1 ++ [32] = [117, 100, 112, 32]) := Lib.hid (by unfold opP; rw [if_neg (by omega)]; rfl)
      clear hp
      have s4 : ([117, 100, 112, 32] : List UInt8).length = 4 := rfl
      obtain ⟨y1, hy1⟩ : ∃ z, ([117, 100, 112, 32] : List UInt8) ++ tn = z := ⟨_, rfl⟩
      have HY1 := Lib.hid hy1
      have BY1 : Hid (([117, 100, 112, 32] : List UInt8).length + tn.length ≤ 8388608) := Lib.hid (by omega)
      have y1l : y1.length = ([117, 100, 112, 32] : List UInt8).length + tn.length := by rw [← hy1, List.length_append]
      clear hy1
      obtain ⟨y2, hy2⟩ : ∃ z, y1 ++ ([32] : List UInt8) = z := ⟨_, rfl⟩
      have HY2 := Lib.hid hy2
      have BY2 : Hid (y1.length + ([32] : List UInt8).length ≤ 8388608) := Lib.hid (by omega)
      have y2l : y2.length = y1.length + ([32] : List UInt8).length := by rw [← hy2, List.length_append]
      clear hy2
      obtain ⟨y3, hy3⟩ : ∃ z, y2 ++ ta = z := ⟨_, rfl⟩
      have HY3 := Lib.hid hy3
      have BY3 : Hid (y2.length + ta.length ≤ 8388608) := Lib.hid (by omega)
      have y3l : y3.length = y2.length + ta.length := by rw [← hy3, List.length_append]
      clear hy3
      obtain ⟨y4, hy4⟩ : ∃ z, y3 ++ ([32] : List UInt8) = z := ⟨_, rfl⟩
      have HY4 := Lib.hid hy4
      have BY4 : Hid (y3.length + ([32] : List UInt8).length ≤ 8388608) := Lib.hid (by omega)
      have y4l : y4.length = y3.length + ([32] : List UInt8).length := by rw [← hy4, List.length_append]
      clear hy4
      obtain ⟨y5, hy5⟩ : ∃ z, y4 ++ tq = z := ⟨_, rfl⟩
      have HY5 := Lib.hid hy5
      have BY5 : Hid (y4.length + tq.length ≤ 8388608) := Lib.hid (by omega)
      have y5l : y5.length = y4.length + tq.length := by rw [← hy5, List.length_append]
      clear hy5
      have HOV : Hid (opV x = y5) := Lib.hid (by rw [← HY5.out, ← HY4.out, ← HY3.out, ← HY2.out, ← HY1.out, ← HP_.out, ← HTN.out, ← HTA.out, ← HTO.out]; unfold opV; simp only [List.append_assoc])
      obtain ⟨ms, h_⟩ : ∃ z, ls ++ [lnL [111, 112, 101, 110] y5] = z := ⟨_, rfl⟩
      have HMS := Lib.hid h_
      have hml : (txt ms).length ≤ (txt ls).length + 60 := by have := (ln_snoc h_).2; simp only [List.length_cons, List.length_nil] at this; omega
      clear h_
      obtain ⟨z, h_⟩ : ∃ z, [111, 112, 101, 110] ++ [32, 61, 32] ++ y5 ++ [10] = z := ⟨_, rfl⟩
      have HZ := Lib.hid h_
      have HT : Hid (txt ls ++ z = txt ms) := Lib.hid (by rw [← h_]; exact (ln_snoc HMS.out).1.symm)
      have BT : Hid ((txt ls).length + z.length ≤ 8388608) := Lib.hid (by have h2_ := congrArg List.length HT.out; rw [List.length_append] at h2_; omega)
      clear h_
      have HLS2 : Hid (ms = hdL c ++ c.fixed.map fxL ++ (c.opens.take (j + 1)).map opL) := Lib.hid (by rw [take_snoc HX.out, List.map_append, ← List.append_assoc, ← HLS.out, ← HMS.out, ← HOV.out]; rfl)
      have F113 := fun W => st_cat HY1.out BY1.out W
      have F114 := fun W => st_cat HY2.out BY2.out W
      have F118 := fun W => st_cat HY3.out BY3.out W
      have F119 := fun W => st_cat HY4.out BY4.out W
      have F123 := fun W => st_cat HY5.out BY5.out W
      have F125 := fun W => st_cat HT.out BT.out W
      have R95 := cell_lit hcc 39 _ rfl
      have R101 := cell_lit hcc 39 _ rfl
      have R104 := Lib.hid (Sle.range0 sO HX.out 7 [.int .i64 x.1, .int .i64 x.2.1, .int .u8 (x.2.2.1.a.toNat : Int), .int .u8 (x.2.2.1.b.toNat : Int), .int .u8 (x.2.2.1.c.toNat : Int), .int .u8 (x.2.2.1.d.toNat : Int), .int .i64 x.2.2.2] rfl)
      go_wp2_with (first | ((with_reducible show wpList _ _ _ (⟨some 104, _, _, _, _, _⟩ :: _) _ _); refine wpList_load_rng 82 (.tmp 103) rfl (by kernel_rfl) _ _ rfl _ R104.out _ Tryd.underlying82 rfl (by kernel_rfl) ?_) | ((with_reducible show wpList _ _ _ (⟨some 6, _, _, _, _, _⟩ :: _) _ _); refine wpList_new_a rfl 82 rfl #[.int .i64 0, .int .i64 0, .int .u8 0, .int .u8 0, .int .u8 0, .int .u8 0, .int .i64 0] (by kernel_rfl) ?_; intro g6 w37 ge hh bb; have d_cc_ov := ne_new (hlt hcc) ge; have av_sF_ov := sF.av_new ge; have av_sO_ov := sO.av_new ge; have oov := Nat.le_trans bel.size ge; replace hcc := blk_u hcc bb; replace sF := sF.below bb; replace sO := sO.below bb; replace bel := bel.trans (bb.mono bel.size); have hov := hh; clear hh ge bb) | ((with_reducible show wpList _ _ _ (⟨none, Op.store _ (.tmp 6) _, _, _, _, _⟩ :: _) _ _); refine wpList_store_blk rfl 82 (.tmp 6) (.tmp 104) rfl g6 rfl _ rfl _ 82 hov (by rfl) (by kernel_rfl) (by kernel_rfl) ?_; intro w38 hq gr; replace sF := sF.away av_sF_ov gr; replace sO := sO.away av_sO_ov gr; replace hcc := blk_a hcc gr d_cc_ov; replace bel := below_grown bel gr oov bel.size; clear hov; have hov := hq; clear hq gr; have R106 := cell_lit hov 0 _ rfl))
      try clear R95
      try clear R101
      try clear R104
      try clear R106
      replace bel := bel.drew
      replace hcc : w38.drew.heap[g1]? = _ := hcc
      replace hov : w38.drew.heap[g6]? = _ := hov
      replace sF := sF.drew
      replace sO := sO.drew
      refine wp_region_held_drew (S := fun W => W.heap[g6]? = some (.cells #[.int .i64 x.1, .int .i64 x.2.1, .int .u8 (x.2.2.1.a.toNat : Int), .int .u8 (x.2.2.1.b.toNat : Int), .int .u8 (x.2.2.1.c.toNat : Int), .int .u8 (x.2.2.1.d.toNat : Int), .int .i64 x.2.2.2] 82 (0, 0))) (by kernel_rfl) hov (fun hH => ?_)
      generalize w38.drew = w39 at bel hcc hov sF sO hH ⊢
      refine wpAnyH_take (i := 0) (v := ?_) rfl (by kernel_rfl) (by kernel_rfl) (by kernel_rfl) (fun _ _ _ h => h) (Or.inl ⟨by rfl, ?_⟩) hH ?_
      rotate_left
      · ((intro W hW; clear hW; go_simp) <;> with_reducible rfl)
      simp only [Act.put, List.getElem_toArray, List.getElem_cons_zero, List.setIfInBounds_toArray, List.set_cons_zero, List.set_cons_succ]
      refine wpAnyH_take (i := 1) (v := ?_) rfl (by kernel_rfl) (by kernel_rfl) (by kernel_rfl) (fun _ _ _ h => h) (Or.inl ⟨by rfl, ?_⟩) hH ?_
      rotate_left
      · ((intro W hW; clear hW; go_simp) <;> with_reducible rfl)
      simp only [Act.put, List.getElem_toArray, List.getElem_cons_zero, List.getElem_cons_succ, List.setIfInBounds_toArray, List.set_cons_zero, List.set_cons_succ]
      refine wpAnyH_take (i := 2) (v := ?_) rfl (by kernel_rfl) (by kernel_rfl) (by kernel_rfl) (fun _ _ _ h => h) (Or.inl ⟨by rfl, ?_⟩) hH ?_
      rotate_left
      · ((intro W hW; clear hW; go_simp) <;> with_reducible rfl)
      simp only [Act.put, List.getElem_toArray, List.getElem_cons_zero, List.getElem_cons_succ, List.setIfInBounds_toArray, List.set_cons_zero, List.set_cons_succ]
      refine wpAnyH_take (i := 3) (v := ?_) rfl (by kernel_rfl) (by kernel_rfl) (by kernel_rfl) (fun _ _ _ h => h) (Or.inl ⟨by rfl, ?_⟩) hH ?_
      rotate_left
      · ((intro W hW; have hk := cell_lit (hW) 1 _ rfl; clear hW; go_simp) <;> with_reducible rfl)
      simp only [Act.put, List.getElem_toArray, List.getElem_cons_zero, List.getElem_cons_succ, List.setIfInBounds_toArray, List.set_cons_zero, List.set_cons_succ]
      refine wpAnyH_take (i := 7) (v := ?_) rfl (by kernel_rfl) (by kernel_rfl) (by kernel_rfl) (fun _ _ _ h => h) (Or.inl ⟨by rfl, ?_⟩) hH ?_
      rotate_left
      · ((intro W hW; clear hW; go_simp) <;> with_reducible rfl)
      simp only [Act.put, List.getElem_toArray, List.getElem_cons_zero, List.getElem_cons_succ, List.setIfInBounds_toArray, List.set_cons_zero, List.set_cons_succ]
      refine wpAnyH_take (i := 8) (v := .agg #[.int .u8 (x.2.2.1.a.toNat : Int), .int .u8 (x.2.2.1.b.toNat : Int), .int .u8 (x.2.2.1.c.toNat : Int), .int .u8 (x.2.2.1.d.toNat : Int)]) rfl (by kernel_rfl) (by kernel_rfl) (by kernel_rfl) (fun _ _ _ h => h) (yieldsIf_load_part (by kernel_rfl) 24 _ rfl g6 2 4 rfl _ 82 (0, 0) (fun W hW => hW) _ rfl _ Tryd.underlying24 rfl (by kernel_rfl)) hH ?_
      simp only [Act.put, List.getElem_toArray, List.getElem_cons_zero, List.getElem_cons_succ, List.setIfInBounds_toArray, List.set_cons_zero, List.set_cons_succ]
      refine wpAnyH_take (i := 12) (v := ?_) rfl (by kernel_rfl) (by kernel_rfl) (by kernel_rfl) (fun _ _ _ h => h) (Or.inl ⟨by rfl, ?_⟩) hH ?_
      rotate_left
      · ((intro W hW; clear hW; go_simp) <;> with_reducible rfl)
      simp only [Act.put, List.getElem_toArray, List.getElem_cons_zero, List.getElem_cons_succ, List.setIfInBounds_toArray, List.set_cons_zero, List.set_cons_succ]
      refine wpAnyH_take (i := 13) (v := ?_) rfl (by kernel_rfl) (by kernel_rfl) (by kernel_rfl) (fun _ _ _ h => h) (Or.inl ⟨by rfl, ?_⟩) hH ?_
      rotate_left
      · ((intro W hW; have hk := cell_lit (hW) 6 _ rfl; clear hW; go_simp) <;> with_reducible rfl)
      simp only [Act.put, List.getElem_toArray, List.getElem_cons_zero, List.getElem_cons_succ, List.setIfInBounds_toArray, List.set_cons_zero, List.set_cons_succ]
      refine wpAnyH_ready (rs := [4]) (by kernel_rfl) (by simp) ?_
      refine AllReadyH.cons (o := _) rfl (fun K hK => ?_) AllReadyH.nil
      simp only [List.getElem_toArray, List.getElem_cons_zero, List.getElem_cons_succ]
      go_simp
      with_reducible refine (rtext_l x.2.1 (by omega) (by omega) _).mono ?_
      rintro e w40 ⟨rfl, b40⟩
      dsimp only
      replace hcc := blk_u hcc b40
      replace hov := blk_u hov b40
      replace sF := sF.below b40
      replace sO := sO.below b40
      replace bel := bel.trans (b40.mono bel.size)
      clear b40
      rw [HTN.out]
      refine hK.out _ _ hov (fun hH41 => ?_)
      clear hK K
      refine wpAnyH_take (i := 5) (v := ?_) rfl (by kernel_rfl) (by kernel_rfl) (by kernel_rfl) (fun _ _ _ h => h) (Or.inl ⟨by rfl, ?_⟩) hH41 ?_
      rotate_left
      · ((intro W hW; clear hW; go_simp) <;> with_reducible rfl)
      simp only [Act.put, List.getElem_toArray, List.getElem_cons_zero, List.getElem_cons_succ, List.setIfInBounds_toArray, List.set_cons_zero, List.set_cons_succ]
      refine wpAnyH_take (i := 6) (v := ?_) rfl (by kernel_rfl) (by kernel_rfl) (by kernel_rfl) (fun _ _ _ h => h) (Or.inl ⟨by rfl, ?_⟩) hH41 ?_
      rotate_left
      · ((intro W hW; clear hW; go_simp) <;> with_reducible rfl)
      simp only [Act.put, List.getElem_toArray, List.getElem_cons_zero, List.getElem_cons_succ, List.setIfInBounds_toArray, List.set_cons_zero, List.set_cons_succ]
      refine wpAnyH_ready (rs := [9]) (by kernel_rfl) (by simp) ?_
      refine AllReadyH.cons (o := _) rfl (fun K hK => ?_) AllReadyH.nil
      simp only [List.getElem_toArray, List.getElem_cons_zero, List.getElem_cons_succ]
      go_simp
      with_reducible refine (raddr_l x.2.2.1 _).mono ?_
      rintro e w42 ⟨rfl, b42⟩
      dsimp only
      replace hcc := blk_u hcc b42
      replace hov := blk_u hov b42
      replace sF := sF.below b42
      replace sO := sO.below b42
      replace bel := bel.trans (b42.mono bel.size)
      clear b42
      rw [HTA.out]
      refine hK.out _ _ hov (fun hH43 => ?_)
      clear hK K
      refine wpAnyH_take (i := 10) (v := ?_) rfl (by kernel_rfl) (by kernel_rfl) (by kernel_rfl) (fun _ _ _ h => h) (Or.inl ⟨by rfl, ?_⟩) hH43 ?_
      rotate_left
      · ((intro W hW; clear hW; go_simp) <;> with_reducible rfl)
      simp only [Act.put, List.getElem_toArray, List.getElem_cons_zero, List.getElem_cons_succ, List.setIfInBounds_toArray, List.set_cons_zero, List.set_cons_succ]
      refine wpAnyH_take (i := 11) (v := ?_) rfl (by kernel_rfl) (by kernel_rfl) (by kernel_rfl) (fun _ _ _ h => h) (Or.inl ⟨by rfl, ?_⟩) hH43 ?_
      rotate_left
      · ((intro W hW; clear hW; go_simp) <;> with_reducible rfl)
      simp only [Act.put, List.getElem_toArray, List.getElem_cons_zero, List.getElem_cons_succ, List.setIfInBounds_toArray, List.set_cons_zero, List.set_cons_succ]
      refine wpAnyH_ready (rs := [14]) (by kernel_rfl) (by simp) ?_
      refine AllReadyH.cons (o := _) rfl (fun K hK => ?_) AllReadyH.nil
      simp only [List.getElem_toArray, List.getElem_cons_zero, List.getElem_cons_succ]
      go_simp
      with_reducible refine (rtext_l x.2.2.2 (by omega) (by omega) _).mono ?_
      rintro e w44 ⟨rfl, b44⟩
      dsimp only
      replace hcc := blk_u hcc b44
      replace hov := blk_u hov b44
      replace sF := sF.below b44
      replace sO := sO.below b44
      replace bel := bel.trans (b44.mono bel.size)
      clear b44
      rw [HTO.out]
      refine hK.out _ _ hov (fun hH45 => ?_)
      clear hK K
      refine wpAnyH_take (i := 15) (v := ?_) rfl (by kernel_rfl) (by kernel_rfl) (by kernel_rfl) (fun _ _ _ h => h) (Or.inl ⟨by rfl, ?_⟩) hH45 ?_
      rotate_left
      · ((intro W hW; clear hW; go_simp) <;> with_reducible rfl)
      simp only [Act.put, List.getElem_toArray, List.getElem_cons_zero, List.getElem_cons_succ, List.setIfInBounds_toArray, List.set_cons_zero, List.set_cons_succ]
      refine wpAnyH_ready (rs := [16]) (by kernel_rfl) (by simp) ?_
      refine AllReadyH.cons (o := _) rfl (fun K hK => ?_) AllReadyH.nil
      simp only [List.getElem_toArray, List.getElem_cons_zero, List.getElem_cons_succ]
      go_simp
      with_reducible refine (rline_l [111, 112, 101, 110] y5 _ HZ (by decide) (by omega)).mono ?_
      rintro e _ ⟨rfl, rfl⟩
      dsimp only
      refine hK.out _ _ hov (fun hH46 => ?_)
      clear hK K
      refine wpAnyH_take (i := 17) (v := ?_) rfl (by kernel_rfl) (by kernel_rfl) (by kernel_rfl) (fun _ _ _ h => h) (Or.inl ⟨by rfl, ?_⟩) hH46 ?_
      rotate_left
      · ((intro W hW; clear hW; go_simp) <;> with_reducible rfl)
      simp only [Act.put, List.getElem_toArray, List.getElem_cons_zero, List.getElem_cons_succ, List.setIfInBounds_toArray, List.set_cons_zero, List.set_cons_succ]
      refine wpAnyH_take (i := 18) (v := ?_) rfl (by kernel_rfl) (by kernel_rfl) (by kernel_rfl) (fun _ _ _ h => h) (Or.inl ⟨by rfl, ?_⟩) hH46 ?_
      rotate_left
      · ((intro W hW; clear hW; go_simp) <;> with_reducible rfl)
      simp only [Act.put, List.getElem_toArray, List.getElem_cons_zero, List.getElem_cons_succ, List.setIfInBounds_toArray, List.set_cons_zero, List.set_cons_succ]
      refine wpAnyH_done (by kernel_rfl) ?_ _
      go_wp2_with fail
      go_roundg (nx + 1 - (j + 1))
      case measure => have := HGK_.out; omega
      case rel => exact ⟨j + 1, ms, rfl, by omega, HLS2, by omega, by go_num, by go_num, hcc, sF, sO, bel⟩
end Go.Proofs.YtdfobilagidmfaaDoor
