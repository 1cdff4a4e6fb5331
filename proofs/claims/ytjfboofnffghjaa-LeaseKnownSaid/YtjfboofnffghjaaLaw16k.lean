/- LeaseKnown. -/
import Derived.Test.YtjfboofnffghjaaLaw16
namespace Go.Proofs.Ytjfboofnffghjaa
open Go.RowKit

theorem Cl.under {lo g n : Nat} {w w' : World} {c : Array Value} (h : Cl lo g w c) (b : Below n w w') (hg : g < n) : Cl lo g w' c := ⟨blk_under h.1 b hg, h.2⟩
set_option linter.unusedVariables false in
set_option linter.unusedSimpArgs false in
set_option maxRecDepth 100000 in
set_option maxHeartbeats 16000000 in
theorem leaseKnown_walk (w : World) : Calls Try.prog 3 #[] w fun e w' => e = .returned (.bool true) ∧ Below w.heap.size w w' := by
  have e89 : ∀ W, (binOp .eql 34 (.agg #[.int .u8 10, .int .u8 0, .int .u8 0, .int .u8 5]) (.agg #[.int .u8 10, .int .u8 0, .int .u8 0, .int .u8 5])).run Try.prog W = .ok (.bool true) W := fun W => by kernel_rfl
  have bel := Below.refl w.heap.size w
  go_enter Try.func3, Try.ntmps3
  go_wp2_with fail
  with_reducible refine (lawake _).mono ?_
  rintro e w1 ⟨rfl, b1⟩
  replace bel := bel.trans (b1.mono bel.size)
  clear b1
  go_wp2_with fail
  with_reducible refine (lmac _).mono ?_
  rintro e w2 ⟨rfl, b2⟩
  replace bel := bel.trans (b2.mono bel.size)
  clear b2
  go_wp2_with fail
  have HLO_ := bel.size
  with_reducible refine (lnew _).mono ?_
  rintro e w3 ⟨gc, rfl, hT, b3⟩
  replace bel := bel.trans (b3.mono bel.size)
  clear b3
  replace hT : Cl w.heap.size gc w3 #[.int .u8 2, .int .u8 0, .int .u8 0, .int .u8 0, .int .u8 0, .int .u8 2, .int .i64 0, .int .i64 0, .int .u32 0, .int .i64 0, .int .i64 0, .int .i64 0, .int .u8 0, .int .u8 0, .int .u8 0, .int .u8 0, .int .u8 0, .int .u8 0, .int .u8 0, .int .u8 0, .int .u8 0, .int .u8 0, .int .u8 0, .int .u8 0, .int .u8 0, .int .u8 0, .int .u8 0, .int .u8 0, .int .i64 0, .int .i64 0, .int .i64 0] := hT.lo_mono HLO_
  clear HLO_
  go_wp2_with fail
  go_wp2_with fail
  with_reducible refine (ltick_new _ hT (by decide) (by decide)).mono ?_
  rintro e w4 ⟨g_x, rfl, _, hT_, k_, bb⟩
  clear hT
  have hT := hT_
  replace bel := bel.trans bb
  clear bb k_ hT_
  go_wp2_with fail
  with_reducible refine (lword (kb := 2) _ rfl).mono ?_
  rintro e w5 ⟨Ao, co, rfl, hw_, b5⟩
  replace hT := hT.below b5
  replace bel := bel.trans (b5.mono bel.size)
  clear b5
  obtain ⟨hso, ho⟩ := hw_
  go_wp2_with fail
  go_wp2_with fail
  with_reducible refine (lget_off _ hT (by decide) (by decide) ho (fun W => by kernel_rfl) (wl_2 _) (wl_54 _ _) (fun W => by kernel_rfl) by_5).mono ?_
  rintro e w6 ⟨g_x, rfl, _, hT_, k_, bb⟩
  replace ho := ho.kt k_
  clear hT
  have hT := hT_
  replace bel := bel.trans bb
  clear bb k_ hT_
  clear ho
  go_wp2_with fail
  with_reducible refine (lword (kb := 5) _ rfl).mono ?_
  rintro e w7 ⟨Ao, co, rfl, hw_, b7⟩
  replace hT := hT.below b7
  replace bel := bel.trans (b7.mono bel.size)
  clear b7
  obtain ⟨hso, ho⟩ := hw_
  go_wp2_with fail
  go_wp2_with fail
  with_reducible refine (lget_ack_2 (nu := 600) (n1 := 300) (n2 := 525) _ hT (by decide) (by decide) ho (fun W => by kernel_rfl) (wl_5 _) (wl_54 _ _) (fun W => by kernel_rfl) (fun W => by kernel_rfl) (wl_51 _ (by decide) (by decide)) (by decide) (by decide) (wl_1 _ _) (wl_3 _ _) (by decide) (by decide) (by decide)).mono ?_
  rintro e w8 ⟨rfl, hT_, k_, bb⟩
  replace ho := ho.kt k_
  clear hT
  have hT := hT_
  replace bel := bel.trans bb
  clear bb k_ hT_
  clear ho
  go_wp2_with fail
  go_wp2_with fail
  with_reducible refine (ltick_3no _ hT (by decide) (by decide) (by decide) (by decide)).mono ?_
  rintro e w9 ⟨rfl, hT_, k_, bb⟩
  clear hT
  have hT := hT_
  replace bel := bel.trans bb
  clear bb k_ hT_
  go_wp2_with fail
  go_wp2_with fail
  with_reducible refine (ltick_3yes _ hT (by decide) (by decide) (by decide) (by decide)).mono ?_
  rintro e w10 ⟨g_lb, rfl, hm_, hT_, k_, bb⟩
  clear hT
  have hT := hT_
  replace bel := bel.trans bb
  clear bb k_ hT_
  obtain ⟨A_lb, n_lb, c_lb, hs_lb, L_lb, hlb, hPlb, ht_⟩ := hm_
  have HTlb := Lib.hid ht_
  clear ht_
  replace hlb : w10.heap[g_lb]? = some (.cells #[.int .i64 1, .int .i64 0, .int .u32 9, .int .i64 0, .int .i64 0, .int .u8 10, .int .u8 0, .int .u8 0, .int .u8 5, .int .u8 0, .int .u8 0, .int .u8 0, .int .u8 0, .int .u8 0, .int .u8 0, .int .u8 0, .int .u8 0, .int .u8 0, .int .u8 0, .int .u8 0, .int .u8 0, .int .u8 2, .int .u8 0, .int .u8 0, .int .u8 0, .int .u8 0, .int .u8 2, .slice A_lb n_lb c_lb] 37 (0, 0)) := hlb
  go_wp2_with fail
  with_reducible refine (lstate _ hT).mono ?_
  rintro e _ ⟨rfl, rfl⟩
  go_wp2_with fail
  go_wp2_with fail
  with_reducible refine (ltick_4go _ hT (by decide) (by decide) (by decide) (by decide)).mono ?_
  rintro e w11 ⟨g_x, rfl, _, hT_, k_, bb⟩
  replace hlb := Kt.blk k_ hlb (by decide)
  replace hPlb := hPlb.kt k_
  clear hT
  have hT := hT_
  replace bel := bel.trans bb
  clear bb k_ hT_
  go_wp2_with fail
  with_reducible refine (lstate _ hT).mono ?_
  rintro e _ ⟨rfl, rfl⟩
  go_wp2_with fail
  with_reducible refine (lword (kb := 5) _ rfl).mono ?_
  rintro e w12 ⟨Ao, co, rfl, hw_, b12⟩
  replace hlb := blk_u hlb b12
  replace hT := hT.below b12
  replace hPlb := hPlb.below b12
  replace bel := bel.trans (b12.mono bel.size)
  clear b12
  obtain ⟨hso, ho⟩ := hw_
  go_wp2_with fail
  go_wp2_with fail
  with_reducible refine (lget_ack_5 (nu := 1126) (n1 := 826) (n2 := 1051) _ hT (by decide) (by decide) ho (fun W => by kernel_rfl) (wl_5 _) (wl_54 _ _) (fun W => by kernel_rfl) (fun W => by kernel_rfl) (wl_51 _ (by decide) (by decide)) (by decide) (by decide) (wl_1 _ _) (wl_3 _ _) (by decide) (by decide) (by decide)).mono ?_
  rintro e w13 ⟨rfl, hT_, k_, bb⟩
  replace hlb := Kt.blk k_ hlb (by decide)
  replace hPlb := hPlb.kt k_
  replace ho := ho.kt k_
  clear hT
  have hT := hT_
  replace bel := bel.trans bb
  clear bb k_ hT_
  clear ho
  go_wp2_with fail
  with_reducible refine (lstate _ hT).mono ?_
  rintro e _ ⟨rfl, rfl⟩
  go_wp2_with fail
  go_wp2_with fail
  with_reducible refine (ltick_3yes _ hT (by decide) (by decide) (by decide) (by decide)).mono ?_
  rintro e w14 ⟨g_x, rfl, _, hT_, k_, bb⟩
  replace hlb := Kt.blk k_ hlb (by decide)
  replace hPlb := hPlb.kt k_
  clear hT
  have hT := hT_
  replace bel := bel.trans bb
  clear bb k_ hT_
  go_wp2_with fail
  with_reducible refine (lword (kb := 6) _ rfl).mono ?_
  rintro e w15 ⟨Ao, co, rfl, hw_, b15⟩
  replace hlb := blk_u hlb b15
  replace hT := hT.below b15
  replace hPlb := hPlb.below b15
  replace bel := bel.trans (b15.mono bel.size)
  clear b15
  obtain ⟨hso, ho⟩ := hw_
  go_wp2_with fail
  go_wp2_with fail
  with_reducible refine (lget_nak_4 _ hT (by decide) (by decide) ho (fun W => by kernel_rfl) (wl_6 _) (wl_54 _ _)).mono ?_
  rintro e w16 ⟨rfl, hT_, k_, bb⟩
  replace hlb := Kt.blk k_ hlb (by decide)
  replace hPlb := hPlb.kt k_
  replace ho := ho.kt k_
  clear hT
  have hT := hT_
  replace bel := bel.trans bb
  clear bb k_ hT_
  clear ho
  go_wp2_with fail
  with_reducible refine (lbound_no _ hT (by decide)).mono ?_
  rintro e w17 ⟨rfl, b17⟩
  replace hlb := blk_u hlb b17
  replace hT := hT.below b17
  replace hPlb := hPlb.below b17
  replace bel := bel.trans (b17.mono bel.size)
  clear b17
  go_wp2_with (first | ((with_reducible show wpList _ _ _ (⟨some 12, _, _, _, _, _⟩ :: _) _ _); refine wpList_new_a rfl 41 rfl #[.int .u8 0, .int .u8 0, .int .u8 0, .int .u8 0, .int .u8 0, .int .u8 0, .int .u8 0, .int .u8 0, .int .u8 0, .int .u8 0, .int .u8 0, .int .u8 0, .int .u8 0, .int .u8 0, .int .u8 0, .int .u8 0, .int .i64 0] (by kernel_rfl) ?_; intro g12 w18 ge hh bb; have d_lb_hb := ne_new (hlt hlb) ge; have ohb := Nat.le_trans bel.size ge; have oahPlb_hb := hPlb.oa ge; replace hlb := blk_u hlb bb; replace hT := hT.below bb; replace hPlb := hPlb.below bb; replace bel := bel.trans (bb.mono bel.size); have hhb := hh; clear hh ge bb) | ((with_reducible show wpList _ _ _ (⟨none, Op.store _ (.tmp 12) _, _, _, _, _⟩ :: _) _ _); refine wpList_store_blk rfl 41 (.tmp 12) (.tmp 62) rfl g12 rfl _ rfl _ 41 hhb (by rfl) (by kernel_rfl) (by kernel_rfl) ?_; intro w19 hq gr; replace hlb := blk_a hlb gr d_lb_hb; replace hT := hT.grown gr hhb (by decide); replace hPlb := hPlb.away oahPlb_hb gr; replace bel := below_grown bel gr ohb bel.size; clear hhb; have hhb := hq; clear hq gr))
  with_reducible refine (lmac _).mono ?_
  rintro e w20 ⟨rfl, b20⟩
  replace hlb := blk_u hlb b20
  replace hhb := blk_u hhb b20
  replace hT := hT.below b20
  replace hPlb := hPlb.below b20
  replace bel := bel.trans (b20.mono bel.size)
  clear b20
  go_wp2_with fail
  have LTC := Lib.hid (hlt hT.1)
  have LEN := Lib.hid bel.size
  obtain ⟨ne_, hne_⟩ : ∃ n, w20.heap.size = n := ⟨_, rfl⟩
  with_reducible refine (lnew _).mono ?_
  rintro e w21 ⟨ge_, rfl, hTe, b21⟩
  replace hlb := blk_u hlb b21
  replace hhb := blk_u hhb b21
  replace hT := hT.below b21
  replace hPlb := hPlb.below b21
  replace bel := bel.trans (b21.mono bel.size)
  clear b21
  rw [hne_] at hTe LTC LEN
  clear hne_
  go_wp2_with fail
  with_reducible refine (ltick_new _ hTe (by decide) (by decide)).mono ?_
  rintro e w22 ⟨g_y, rfl, _, hT_, k_, bb⟩
  replace hlb := Kt.blk k_ hlb (by decide)
  replace hhb := Kt.blk k_ hhb (by decide)
  replace hT := hT.under bb LTC.out
  replace hPlb := hPlb.kt k_
  clear hTe
  have hTe := hT_
  replace bel := bel.trans (bb.mono LEN.out)
  clear bb k_ hT_
  go_wp2_with fail
  with_reducible refine (lword (kb := 5) _ rfl).mono ?_
  rintro e w23 ⟨Ao, co, rfl, hw_, b23⟩
  replace hlb := blk_u hlb b23
  replace hhb := blk_u hhb b23
  replace hT := hT.below b23
  replace hPlb := hPlb.below b23
  replace hTe := hTe.below b23
  replace bel := bel.trans (b23.mono bel.size)
  clear b23
  obtain ⟨hso, ho⟩ := hw_
  go_wp2_with fail
  with_reducible refine (lget_offno _ hTe (by decide) (by decide) ho (fun W => by kernel_rfl) (wl_5 _) (wl_54 _ _) (by decide)).mono ?_
  rintro e w24 ⟨rfl, hT_, k_, bb⟩
  replace hlb := Kt.blk k_ hlb (by decide)
  replace hhb := Kt.blk k_ hhb (by decide)
  replace hT := hT.under bb LTC.out
  replace hPlb := hPlb.kt k_
  replace ho := ho.kt k_
  clear hTe
  have hTe := hT_
  replace bel := bel.trans (bb.mono LEN.out)
  clear bb k_ hT_
  clear ho
  have R87 := Lib.hid (range_lit hlb 5 4 [.int .u8 10, .int .u8 0, .int .u8 0, .int .u8 5] rfl)
  go_wp2_with (first | ((with_reducible show wpList _ _ _ (⟨some 87, _, _, _, _, _⟩ :: _) _ _); refine wpList_load_rng 34 (.tmp 86) rfl (by kernel_rfl) _ _ rfl _ R87.out _ Try.underlying34 rfl (by kernel_rfl) ?_))
  try clear R87
  with_reducible refine (lstate _ hT).mono ?_
  rintro e _ ⟨rfl, rfl⟩
  go_wp2_with fail
  with_reducible refine (lstate _ hTe).mono ?_
  rintro e _ ⟨rfl, rfl⟩
  go_wp2_with fail
  go_ret
  exact ⟨rfl, bel⟩
end Go.Proofs.Ytjfboofnffghjaa
