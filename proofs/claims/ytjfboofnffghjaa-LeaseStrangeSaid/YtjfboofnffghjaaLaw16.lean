/- Layer 16's awake. -/
import Derived.Test.YtjfboofnffghjaaLc3
import Derived.Test.YtjfboofnffghjaaLc5
import Derived.Test.YtjfboofnffghjaaLcw
namespace Go.Proofs.Ytjfboofnffghjaa
open Go.RowKit

theorem by_5 : By4 10 0 0 5 := ⟨10, 0, 0, 5, rfl, rfl, rfl, rfl⟩
set_option linter.unusedVariables false in
set_option linter.unusedSimpArgs false in
set_option maxRecDepth 100000 in
set_option maxHeartbeats 16000000 in
theorem lawake (w : World) : Calls Try.prog 9 #[] w fun e w' => e = .returned (.bool true) ∧ Below w.heap.size w w' := by
  have e85 : ∀ W, (binOp .eql 41 (.agg #[.int .u8 10, .int .u8 0, .int .u8 0, .int .u8 5, .int .u8 255, .int .u8 0, .int .u8 0, .int .u8 0, .int .u8 10, .int .u8 0, .int .u8 0, .int .u8 253, .int .u8 10, .int .u8 0, .int .u8 0, .int .u8 254, .int .i64 601]) (.agg #[.int .u8 10, .int .u8 0, .int .u8 0, .int .u8 5, .int .u8 255, .int .u8 0, .int .u8 0, .int .u8 0, .int .u8 10, .int .u8 0, .int .u8 0, .int .u8 253, .int .u8 10, .int .u8 0, .int .u8 0, .int .u8 254, .int .i64 601])).run Try.prog W = .ok (.bool true) W := fun W => by kernel_rfl
  have bel := Below.refl w.heap.size w
  go_enter Try.func9, Try.ntmps9
  go_wp2_with fail
  with_reducible refine (lmac _).mono ?_
  rintro e w1 ⟨rfl, b1⟩
  replace bel := bel.trans (b1.mono bel.size)
  clear b1
  go_wp2_with fail
  have HLO_ := bel.size
  with_reducible refine (lnew _).mono ?_
  rintro e w2 ⟨gc, rfl, hT, b2⟩
  replace bel := bel.trans (b2.mono bel.size)
  clear b2
  replace hT : Cl w.heap.size gc w2 #[.int .u8 2, .int .u8 0, .int .u8 0, .int .u8 0, .int .u8 0, .int .u8 2, .int .i64 0, .int .i64 0, .int .u32 0, .int .i64 0, .int .i64 0, .int .i64 0, .int .u8 0, .int .u8 0, .int .u8 0, .int .u8 0, .int .u8 0, .int .u8 0, .int .u8 0, .int .u8 0, .int .u8 0, .int .u8 0, .int .u8 0, .int .u8 0, .int .u8 0, .int .u8 0, .int .u8 0, .int .u8 0, .int .i64 0, .int .i64 0, .int .i64 0] := hT.lo_mono HLO_
  clear HLO_
  go_wp2_with fail
  go_wp2_with fail
  with_reducible refine (ltick_new _ hT (by decide) (by decide)).mono ?_
  rintro e w3 ⟨g_la, rfl, hm_, hT_, k_, bb⟩
  clear hT
  have hT := hT_
  replace bel := bel.trans bb
  clear bb k_ hT_
  obtain ⟨A_la, n_la, c_la, hs_la, L_la, hla, hPla, ht_⟩ := hm_
  have HTla := Lib.hid ht_
  clear ht_
  replace hla : w3.heap[g_la]? = some (.cells #[.int .i64 1, .int .i64 0, .int .u32 7, .int .i64 0, .int .i64 32768, .int .u8 0, .int .u8 0, .int .u8 0, .int .u8 0, .int .u8 0, .int .u8 0, .int .u8 0, .int .u8 0, .int .u8 0, .int .u8 0, .int .u8 0, .int .u8 0, .int .u8 0, .int .u8 0, .int .u8 0, .int .u8 0, .int .u8 2, .int .u8 0, .int .u8 0, .int .u8 0, .int .u8 0, .int .u8 2, .slice A_la n_la c_la] 37 (0, 0)) := hla
  go_wp2_with fail
  with_reducible refine (lword (kb := 2) _ rfl).mono ?_
  rintro e w4 ⟨Ao, co, rfl, hw_, b4⟩
  replace hla := blk_u hla b4
  replace hT := hT.below b4
  replace hPla := hPla.below b4
  replace bel := bel.trans (b4.mono bel.size)
  clear b4
  obtain ⟨hso, ho⟩ := hw_
  go_wp2_with fail
  go_wp2_with fail
  with_reducible refine (lget_off _ hT (by decide) (by decide) ho (fun W => by kernel_rfl) (wl_2 _) (wl_54 _ _) (fun W => by kernel_rfl) by_5).mono ?_
  rintro e w5 ⟨g_lb, rfl, hm_, hT_, k_, bb⟩
  replace hla := Kt.blk k_ hla (by decide)
  replace hPla := hPla.kt k_
  replace ho := ho.kt k_
  clear hT
  have hT := hT_
  replace bel := bel.trans bb
  clear bb k_ hT_
  clear ho
  obtain ⟨A_lb, n_lb, c_lb, hs_lb, L_lb, hlb, hPlb, ht_⟩ := hm_
  have HTlb := Lib.hid ht_
  clear ht_
  replace hlb : w5.heap[g_lb]? = some (.cells #[.int .i64 1, .int .i64 0, .int .u32 7, .int .i64 0, .int .i64 32768, .int .u8 0, .int .u8 0, .int .u8 0, .int .u8 0, .int .u8 0, .int .u8 0, .int .u8 0, .int .u8 0, .int .u8 0, .int .u8 0, .int .u8 0, .int .u8 0, .int .u8 0, .int .u8 0, .int .u8 0, .int .u8 0, .int .u8 2, .int .u8 0, .int .u8 0, .int .u8 0, .int .u8 0, .int .u8 2, .slice A_lb n_lb c_lb] 37 (0, 0)) := hlb
  go_wp2_with fail
  with_reducible refine (lword (kb := 5) _ rfl).mono ?_
  rintro e w6 ⟨Ao, co, rfl, hw_, b6⟩
  replace hla := blk_u hla b6
  replace hlb := blk_u hlb b6
  replace hT := hT.below b6
  replace hPla := hPla.below b6
  replace hPlb := hPlb.below b6
  replace bel := bel.trans (b6.mono bel.size)
  clear b6
  obtain ⟨hso, ho⟩ := hw_
  go_wp2_with fail
  go_wp2_with fail
  with_reducible refine (lget_ack_2 (nu := 601) (n1 := 301) (n2 := 526) _ hT (by decide) (by decide) ho (fun W => by kernel_rfl) (wl_5 _) (wl_54 _ _) (fun W => by kernel_rfl) (fun W => by kernel_rfl) (wl_51 _ (by decide) (by decide)) (by decide) (by decide) (wl_1 _ _) (wl_3 _ _) (by decide) (by decide) (by decide)).mono ?_
  rintro e w7 ⟨rfl, hT_, k_, bb⟩
  replace hla := Kt.blk k_ hla (by decide)
  replace hlb := Kt.blk k_ hlb (by decide)
  replace hPla := hPla.kt k_
  replace hPlb := hPlb.kt k_
  replace ho := ho.kt k_
  clear hT
  have hT := hT_
  replace bel := bel.trans bb
  clear bb k_ hT_
  clear ho
  go_wp2_with fail
  with_reducible refine (lbound_yes _ hT (by decide)).mono ?_
  rintro e w8 ⟨rfl, b8⟩
  replace hla := blk_u hla b8
  replace hlb := blk_u hlb b8
  replace hT := hT.below b8
  replace hPla := hPla.below b8
  replace hPlb := hPlb.below b8
  replace bel := bel.trans (b8.mono bel.size)
  clear b8
  go_wp2_with (first | ((with_reducible show wpList _ _ _ (⟨some 7, _, _, _, _, _⟩ :: _) _ _); refine wpList_new_a rfl 41 rfl #[.int .u8 0, .int .u8 0, .int .u8 0, .int .u8 0, .int .u8 0, .int .u8 0, .int .u8 0, .int .u8 0, .int .u8 0, .int .u8 0, .int .u8 0, .int .u8 0, .int .u8 0, .int .u8 0, .int .u8 0, .int .u8 0, .int .i64 0] (by kernel_rfl) ?_; intro g7 w9 ge hh bb; have d_la_hb := ne_new (hlt hla) ge; have d_lb_hb := ne_new (hlt hlb) ge; have ohb := Nat.le_trans bel.size ge; have oahPla_hb := hPla.oa ge; have oahPlb_hb := hPlb.oa ge; replace hla := blk_u hla bb; replace hlb := blk_u hlb bb; replace hT := hT.below bb; replace hPla := hPla.below bb; replace hPlb := hPlb.below bb; replace bel := bel.trans (bb.mono bel.size); have hhb := hh; clear hh ge bb) | ((with_reducible show wpList _ _ _ (⟨none, Op.store _ (.tmp 7) _, _, _, _, _⟩ :: _) _ _); refine wpList_store_blk rfl 41 (.tmp 7) (.tmp 32) rfl g7 rfl _ rfl _ 41 hhb (by rfl) (by kernel_rfl) (by kernel_rfl) ?_; intro w10 hq gr; replace hla := blk_a hla gr d_la_hb; replace hlb := blk_a hlb gr d_lb_hb; replace hT := hT.grown gr hhb (by decide); replace hPla := hPla.away oahPla_hb gr; replace hPlb := hPlb.away oahPlb_hb gr; replace bel := below_grown bel gr ohb bel.size; clear hhb; have hhb := hq; clear hq gr; have R40 := Lib.hid (range_lit hla 0 28 [.int .i64 1, .int .i64 0, .int .u32 7, .int .i64 0, .int .i64 32768, .int .u8 0, .int .u8 0, .int .u8 0, .int .u8 0, .int .u8 0, .int .u8 0, .int .u8 0, .int .u8 0, .int .u8 0, .int .u8 0, .int .u8 0, .int .u8 0, .int .u8 0, .int .u8 0, .int .u8 0, .int .u8 0, .int .u8 2, .int .u8 0, .int .u8 0, .int .u8 0, .int .u8 0, .int .u8 2, .slice A_la n_la c_la] rfl)) | ((with_reducible show wpList _ _ _ (⟨some 40, _, _, _, _, _⟩ :: _) _ _); refine wpList_load_rng 37 (.tmp 39) rfl (by kernel_rfl) _ _ rfl _ R40.out _ Try.underlying37 rfl (by kernel_rfl) ?_))
  try clear R40
  with_reducible refine (ltype_a (k := 1) _ hPla (by rw [HTla.out]; kernel_rfl)).mono ?_
  rintro e w11 ⟨rfl, b11⟩
  replace hla := blk_u hla b11
  replace hlb := blk_u hlb b11
  replace hhb := blk_u hhb b11
  replace hT := hT.below b11
  replace hPla := hPla.below b11
  replace hPlb := hPlb.below b11
  replace bel := bel.trans (b11.mono bel.size)
  clear b11
  have R48 := cell_lit hla 2 _ rfl
  have R59 := Lib.hid (range_lit hlb 0 28 [.int .i64 1, .int .i64 0, .int .u32 7, .int .i64 0, .int .i64 32768, .int .u8 0, .int .u8 0, .int .u8 0, .int .u8 0, .int .u8 0, .int .u8 0, .int .u8 0, .int .u8 0, .int .u8 0, .int .u8 0, .int .u8 0, .int .u8 0, .int .u8 0, .int .u8 0, .int .u8 0, .int .u8 0, .int .u8 2, .int .u8 0, .int .u8 0, .int .u8 0, .int .u8 0, .int .u8 2, .slice A_lb n_lb c_lb] rfl)
  go_wp2_with (first | ((with_reducible show wpList _ _ _ (⟨some 59, _, _, _, _, _⟩ :: _) _ _); refine wpList_load_rng 37 (.tmp 58) rfl (by kernel_rfl) _ _ rfl _ R59.out _ Try.underlying37 rfl (by kernel_rfl) ?_))
  try clear R48
  try clear R59
  with_reducible refine (ltype_a (k := 3) _ hPlb (by rw [HTlb.out]; kernel_rfl)).mono ?_
  rintro e w12 ⟨rfl, b12⟩
  replace hla := blk_u hla b12
  replace hlb := blk_u hlb b12
  replace hhb := blk_u hhb b12
  replace hT := hT.below b12
  replace hPla := hPla.below b12
  replace hPlb := hPlb.below b12
  replace bel := bel.trans (b12.mono bel.size)
  clear b12
  have R79 := Lib.hid (range_lit hhb 0 17 [.int .u8 10, .int .u8 0, .int .u8 0, .int .u8 5, .int .u8 255, .int .u8 0, .int .u8 0, .int .u8 0, .int .u8 10, .int .u8 0, .int .u8 0, .int .u8 253, .int .u8 10, .int .u8 0, .int .u8 0, .int .u8 254, .int .i64 601] rfl)
  go_wp2_with (first | ((with_reducible show wpList _ _ _ (⟨some 79, _, _, _, _, _⟩ :: _) _ _); refine wpList_load_rng 41 (.tmp 7) rfl (by kernel_rfl) _ _ rfl _ R79.out _ Try.underlying41 rfl (by kernel_rfl) ?_))
  try clear R79
  with_reducible refine (lstate _ hT).mono ?_
  rintro e _ ⟨rfl, rfl⟩
  go_wp2_with fail
  go_ret
  exact ⟨rfl, bel⟩
end Go.Proofs.Ytjfboofnffghjaa
