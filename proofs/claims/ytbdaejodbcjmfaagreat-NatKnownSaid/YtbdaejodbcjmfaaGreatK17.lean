/- Texts put together: Law19k. -/
import Derived.Test.YtbdaejodbcjmfaaGreatK1
import Derived.Test.YtbdaejodbcjmfaaGreatK16
namespace Go.Proofs.YtbdaejodbcjmfaaGreat
open Go.RowKit
set_option linter.unusedVariables false
set_option linter.unusedSimpArgs false
set_option maxRecDepth 100000
set_option maxHeartbeats 16000000

theorem natKnown_walk (w : World) : Calls Tryz.prog 3 #[] w fun e w' => e = .returned (.bool true) ∧ Below w.heap.size w w' := by
 have e1 : ∀ W, (binOp .eql 35 (.agg #[.int .u8 10, .int .u8 0, .int .u8 0, .int .u8 ((byteOf 5).toNat : Int)]) (.agg #[.int .u8 10, .int .u8 0, .int .u8 0, .int .u8 ((byteOf 5).toNat : Int)])).run Tryz.prog W = .ok (.bool true) W := fun W => by have h_ := eqa_b ⟨10, 0, 0, (byteOf 5)⟩ ⟨10, 0, 0, (byteOf 5)⟩ W; rw [Ad4.eqB_self] at h_; exact h_
 have bel := Below.refl w.heap.size w
 go_enter Tryz.func3, Tryz.ntmps3
 go_wp2_with fail
 with_reducible refine (awake19 _).mono ?_
 rintro e w1 ⟨rfl, b1⟩
 replace bel := bel.trans (b1.mono bel.size)
 clear b1
 go_wp2_with fail
 with_reducible refine (tnew_any (lw := 40000) (rm := 9) _ (by decide) (by decide) (by decide) (by decide)).mono ?_
 rintro e w2 ⟨gt9, rfl, hP9, b2⟩
 replace bel := bel.trans (b2.mono bel.size)
 clear b2
 clear hP9
 go_wp2_with fail
 with_reducible refine (nnew_no _).mono ?_
 rintro e w3 ⟨rfl, b3⟩
 replace bel := bel.trans (b3.mono bel.size)
 clear b3
 go_wp2_with fail
 have HLO_ := bel.size
 with_reducible refine (begun19 _).mono ?_
 rintro e w4 ⟨gn, gt, gk, rfl, hT, b4⟩
 replace bel := bel.trans (b4.mono bel.size)
 clear b4
 replace hT : Np w.heap.size gn gt gk w4 nS0 nK0 := hT.lo_mono HLO_
 clear HLO_
 go_wp2_with fail
 with_reducible refine (far19 _).mono ?_
 rintro e w5 ⟨rfl, b5⟩
 replace hT := hT.below b5
 replace bel := bel.trans (b5.mono bel.size)
 clear b5
 go_wp2_with fail
 with_reducible refine (wan19 _).mono ?_
 rintro e w6 ⟨rfl, b6⟩
 replace hT := hT.below b6
 replace bel := bel.trans (b6.mono bel.size)
 clear b6
 go_wp2_with fail
 with_reducible refine (dg_in 40000 _ (by decide)).mono ?_
 rintro e w7 ⟨Auo, cuo, Aub, cub, rfl, uo, ub, fuo, fub, b7⟩
 have q_uo := hT.an fuo
 have q_ub := hT.an fub
 replace hT := hT.below b7
 replace q_uo := q_uo.below b7
 replace q_ub := q_ub.below b7
 replace bel := bel.trans (b7.mono bel.size)
 clear b7
 replace uo : Sl w7 (Auo) (0) (cuo) ([]) := uo
 replace ub : Sl w7 (Aub) (9) (cub) (udBytes 8 8 8 8 203 0 113 7 53 40000 [120]) := ub
 go_wp2_with fail
 with_reducible refine (wan19 _).mono ?_
 rintro e w8 ⟨rfl, b8⟩
 replace uo := uo.below b8
 replace ub := ub.below b8
 replace hT := hT.below b8
 replace q_uo := q_uo.below b8
 replace q_ub := q_ub.below b8
 replace bel := bel.trans (b8.mono bel.size)
 clear b8
 go_wp2_with fail
 with_reducible refine (k_i0 _ hT uo ub).mono ?_
 rintro e w9 ⟨rfl, hT_, f_, bb⟩
 have x_ := f_.sl uo q_uo
 replace uo := x_.1
 replace q_uo := x_.2
 clear x_
 have x_ := f_.sl ub q_ub
 replace ub := x_.1
 replace q_ub := x_.2
 clear x_
 clear hT
 have hT := hT_
 replace bel := bel.trans bb
 clear bb f_ hT_
 go_wp2_with (first | ((with_reducible show wpList _ _ _ (⟨some 7, _, _, _, _, _⟩ :: _) _ _); refine wpList_new_a rfl 38 rfl #[.int .i64 0, .int .i64 0, .int .i64 0, .int .i64 0, .int .i64 0, .int .i64 0, .int .u8 0, .int .u8 0, .int .u8 0, .int .u8 0, .int .u8 0, .int .u8 0, .int .u8 0, .int .u8 0, .slice none 0 0, .slice none 0 0] (by kernel_rfl) ?_; intro g7 w10 ge hh bb; have p_b7 := hT.ap ge; have v_uo_b7 := uo.av_new ge; have v_ub_b7 := ub.av_new ge; have ob7 := Nat.le_trans bel.size ge; replace uo := uo.below bb; replace ub := ub.below bb; replace hT := hT.below bb; replace q_uo := q_uo.below bb; replace q_ub := q_ub.below bb; replace p_b7 := p_b7.below bb; replace bel := bel.trans (bb.mono bel.size); have hb7 := hh; clear hh ge bb) | ((with_reducible show wpList _ _ _ (⟨none, Op.store _ (.tmp 7) _, _, _, _, _⟩ :: _) _ _); refine wpList_store_blk rfl 38 (.tmp 7) (.tmp 55) rfl g7 rfl _ rfl _ 38 hb7 (by rfl) (by kernel_rfl) (by kernel_rfl) ?_; intro w11 hq gr; replace uo := uo.away v_uo_b7 gr; replace ub := ub.away v_ub_b7 gr; replace hT := hT.away p_b7 gr hb7; replace q_uo := q_uo.grown p_b7 gr; replace q_ub := q_ub.grown p_b7 gr; replace p_b7 := p_b7.grown p_b7 gr; replace bel := below_grown bel gr ob7 bel.size; clear hb7; have hb7 := hq; clear hq gr; clear q_uo; clear uo; clear q_ub; clear ub; clear p_b7; clear hb7; try clear v_uo_b7; try clear fuo; try clear v_ub_b7; try clear fub; try clear ob7))
 with_reducible refine (far19 _).mono ?_
 rintro e w12 ⟨rfl, b12⟩
 replace hT := hT.below b12
 replace bel := bel.trans (b12.mono bel.size)
 clear b12
 go_wp2_with fail
 with_reducible refine (at19 1 _).mono ?_
 rintro e w13 ⟨rfl, b13⟩
 replace hT := hT.below b13
 replace bel := bel.trans (b13.mono bel.size)
 clear b13
 go_wp2_with fail
 with_reducible refine (dg_1 _).mono ?_
 rintro e w14 ⟨Avo, cvo, Avb, cvb, rfl, vo, vb, fvo, fvb, b14⟩
 have q_vo := hT.an fvo
 have q_vb := hT.an fvb
 replace hT := hT.below b14
 replace q_vo := q_vo.below b14
 replace q_vb := q_vb.below b14
 replace bel := bel.trans (b14.mono bel.size)
 clear b14
 replace vo : Sl w14 (Avo) (0) (cvo) ([]) := vo
 replace vb : Sl w14 (Avb) (9) (cvb) (udBytes 8 8 8 8 10 0 0 (byteOf 1) 53 40000 [120]) := vb
 go_wp2_with fail
 with_reducible refine (wan19 _).mono ?_
 rintro e w15 ⟨rfl, b15⟩
 replace vo := vo.below b15
 replace vb := vb.below b15
 replace hT := hT.below b15
 replace q_vo := q_vo.below b15
 replace q_vb := q_vb.below b15
 replace bel := bel.trans (b15.mono bel.size)
 clear b15
 go_wp2_with fail
 with_reducible refine (k_i1 _ hT vo vb).mono ?_
 rintro e w16 ⟨rfl, hT_, f_, bb⟩
 have x_ := f_.sl vo q_vo
 replace vo := x_.1
 replace q_vo := x_.2
 clear x_
 have x_ := f_.sl vb q_vb
 replace vb := x_.1
 replace q_vb := x_.2
 clear x_
 clear hT
 have hT := hT_
 replace bel := bel.trans bb
 clear bb f_ hT_
 go_wp2_with (first | ((with_reducible show wpList _ _ _ (⟨some 9, _, _, _, _, _⟩ :: _) _ _); refine wpList_new_a rfl 38 rfl #[.int .i64 0, .int .i64 0, .int .i64 0, .int .i64 0, .int .i64 0, .int .i64 0, .int .u8 0, .int .u8 0, .int .u8 0, .int .u8 0, .int .u8 0, .int .u8 0, .int .u8 0, .int .u8 0, .slice none 0 0, .slice none 0 0] (by kernel_rfl) ?_; intro g9 w17 ge hh bb; have p_b9 := hT.ap ge; have v_vo_b9 := vo.av_new ge; have v_vb_b9 := vb.av_new ge; have ob9 := Nat.le_trans bel.size ge; replace vo := vo.below bb; replace vb := vb.below bb; replace hT := hT.below bb; replace q_vo := q_vo.below bb; replace q_vb := q_vb.below bb; replace p_b9 := p_b9.below bb; replace bel := bel.trans (bb.mono bel.size); have hb9 := hh; clear hh ge bb) | ((with_reducible show wpList _ _ _ (⟨none, Op.store _ (.tmp 9) _, _, _, _, _⟩ :: _) _ _); refine wpList_store_blk rfl 38 (.tmp 9) (.tmp 64) rfl g9 rfl _ rfl _ 38 hb9 (by rfl) (by kernel_rfl) (by kernel_rfl) ?_; intro w18 hq gr; replace vo := vo.away v_vo_b9 gr; replace vb := vb.away v_vb_b9 gr; replace hT := hT.away p_b9 gr hb9; replace q_vo := q_vo.grown p_b9 gr; replace q_vb := q_vb.grown p_b9 gr; replace p_b9 := p_b9.grown p_b9 gr; replace bel := below_grown bel gr ob9 bel.size; clear hb9; have hb9 := hq; clear hq gr; clear q_vo; clear vo; clear q_vb; clear vb; clear p_b9; clear hb9; try clear v_vo_b9; try clear fvo; try clear v_vb_b9; try clear fvb; try clear ob9))
 with_reducible refine (at19 5 _).mono ?_
 rintro e w19 ⟨rfl, b19⟩
 replace hT := hT.below b19
 replace bel := bel.trans (b19.mono bel.size)
 clear b19
 go_wp2_with fail
 with_reducible refine (far19 _).mono ?_
 rintro e w20 ⟨rfl, b20⟩
 replace hT := hT.below b20
 replace bel := bel.trans (b20.mono bel.size)
 clear b20
 go_wp2_with fail
 with_reducible refine (dg_out 5 777 _ (by decide)).mono ?_
 rintro e w21 ⟨Axo, cxo, Axb, cxb, rfl, xo, xb, fxo, fxb, b21⟩
 have q_xo := hT.an fxo
 have q_xb := hT.an fxb
 replace hT := hT.below b21
 replace q_xo := q_xo.below b21
 replace q_xb := q_xb.below b21
 replace bel := bel.trans (b21.mono bel.size)
 clear b21
 replace xo : Sl w21 (Axo) (0) (cxo) ([]) := xo
 replace xb : Sl w21 (Axb) (9) (cxb) (udBytes 10 0 0 (byteOf 5) 8 8 8 8 777 53 [120]) := xb
 go_wp2_with (first | ((with_reducible show wpList _ _ _ (⟨some 11, _, _, _, _, _⟩ :: _) _ _); refine wpList_new_a rfl 38 rfl #[.int .i64 0, .int .i64 0, .int .i64 0, .int .i64 0, .int .i64 0, .int .i64 0, .int .u8 0, .int .u8 0, .int .u8 0, .int .u8 0, .int .u8 0, .int .u8 0, .int .u8 0, .int .u8 0, .slice none 0 0, .slice none 0 0] (by kernel_rfl) ?_; intro g11 w22 ge hh bb; have p_b11 := hT.ap ge; have v_xo_b11 := xo.av_new ge; have v_xb_b11 := xb.av_new ge; have ob11 := Nat.le_trans bel.size ge; replace xo := xo.below bb; replace xb := xb.below bb; replace hT := hT.below bb; replace q_xo := q_xo.below bb; replace q_xb := q_xb.below bb; replace p_b11 := p_b11.below bb; replace bel := bel.trans (bb.mono bel.size); have hb11 := hh; clear hh ge bb) | ((with_reducible show wpList _ _ _ (⟨none, Op.store _ (.tmp 11) _, _, _, _, _⟩ :: _) _ _); refine wpList_store_blk rfl 38 (.tmp 11) (.tmp 68) rfl g11 rfl _ rfl _ 38 hb11 (by rfl) (by kernel_rfl) (by kernel_rfl) ?_; intro w23 hq gr; replace xo := xo.away v_xo_b11 gr; replace xb := xb.away v_xb_b11 gr; replace hT := hT.away p_b11 gr hb11; replace q_xo := q_xo.grown p_b11 gr; replace q_xb := q_xb.grown p_b11 gr; replace p_b11 := p_b11.grown p_b11 gr; replace bel := below_grown bel gr ob11 bel.size; clear hb11; have hb11 := hq; clear hq gr) | ((with_reducible show wpList _ _ _ (⟨none, Op.store _ (.tmp 69) _, _, _, _, _⟩ :: _) _ _); refine wpList_store_part rfl 3 (.tmp 69) (.const (.int .i64 1)) rfl g11 2 rfl [.int .i64 1] rfl [.int .i64 0, .int .i64 0, .int .i64 0, .int .i64 0, .int .i64 64, .int .i64 17, .int .u8 10, .int .u8 0, .int .u8 0, .int .u8 ((byteOf 5).toNat : Int), .int .u8 8, .int .u8 8, .int .u8 8, .int .u8 8, .slice Axo 0 cxo, .slice Axb 9 cxb] 38 hb11 (by simp) [.int .i64 0, .int .i64 0, .int .i64 1, .int .i64 0, .int .i64 64, .int .i64 17, .int .u8 10, .int .u8 0, .int .u8 0, .int .u8 ((byteOf 5).toNat : Int), .int .u8 8, .int .u8 8, .int .u8 8, .int .u8 8, .slice Axo 0 cxo, .slice Axb 9 cxb] rfl (by kernel_rfl) (by rfl) ?_; intro w24 hq gr; replace xo := xo.away v_xo_b11 gr; replace xb := xb.away v_xb_b11 gr; replace hT := hT.away p_b11 gr hb11; replace q_xo := q_xo.grown p_b11 gr; replace q_xb := q_xb.grown p_b11 gr; replace p_b11 := p_b11.grown p_b11 gr; replace bel := below_grown bel gr ob11 bel.size; clear hb11; have hb11 := hq; clear hq gr))
 simp only [sq4]
 go_cut [13] from 9999 (fun s13 W => ∃ g12 : Nat, s13 = .int .i64 10 ∧ W.heap[g11]? = some (.cells #[.int .i64 0, .int .i64 0, .int .i64 1, .int .i64 0, .int .i64 64, .int .i64 17, .int .u8 10, .int .u8 0, .int .u8 0, .int .u8 ((byteOf 5).toNat : Int), .int .u8 8, .int .u8 8, .int .u8 8, .int .u8 8, .slice Axo 0 cxo, .slice Axb 9 cxb] 38 (0, 0)) ∧ W.heap[g12]? = some (.cells #[.int .i64 0, .int .i64 0, .int .i64 0, .int .i64 0, .int .i64 0, .int .i64 0, .int .u8 0, .int .u8 0, .int .u8 0, .int .u8 0, .int .u8 0, .int .u8 0, .int .u8 0, .int .u8 0, .slice none 0 0, .slice none 0 0] 38 (0, 0)) ∧ w.heap.size ≤ g12 ∧ Hid (g11 ≠ g12) ∧ Sl W (Axo) (0) (cxo) ([]) ∧ Av (Axo) (0) g11 ∧ Av (Axo) (0) g12 ∧ Sl W (Axb) (9) (cxb) (udBytes 10 0 0 (byteOf 5) 8 8 8 8 777 53 [120]) ∧ Av (Axb) (9) g11 ∧ Av (Axb) (9) g12 ∧ Np w.heap.size gn gt gk W nS0 nK0 ∧ An gn gt gk W (Axo) (0) ∧ An gn gt gk W (Axb) (9) ∧ Anp gn gt gk W g11 ∧ Anp gn gt gk W g12 ∧ Below w.heap.size w W)
 case first =>
  replace bel := bel.drew
  replace hb11 : w24.drew.heap[g11]? = _ := hb11
  replace xo := xo.drew
  replace xb := xb.drew
  replace hT := np_drew hT
  replace q_xo := an_drew q_xo
  replace q_xb := an_drew q_xb
  replace p_b11 := anp_drew p_b11
  refine wp_region_held_drew (S := fun W => W.heap[g11]? = some (.cells #[.int .i64 0, .int .i64 0, .int .i64 1, .int .i64 0, .int .i64 64, .int .i64 17, .int .u8 10, .int .u8 0, .int .u8 0, .int .u8 ((byteOf 5).toNat : Int), .int .u8 8, .int .u8 8, .int .u8 8, .int .u8 8, .slice Axo 0 cxo, .slice Axb 9 cxb] 38 (0, 0))) (by kernel_rfl) hb11 (fun hH => ?_)
  generalize w24.drew = w25 at bel hb11 xo xb hT q_xo q_xb p_b11 hH ⊢
  refine wpAnyH_take (i := 0) (v := ?_) rfl (by kernel_rfl) (by kernel_rfl) (by kernel_rfl) (fun _ _ _ h => h) (Or.inl ⟨by rfl, ?_⟩) hH ?_
  rotate_left
  ·((intro W hW; clear hW; go_simp) <;> with_reducible rfl)
  simp only [Act.put, List.getElem_toArray, List.getElem_cons_zero, List.setIfInBounds_toArray, List.set_cons_zero, List.set_cons_succ]
  refine wpAnyH_take (i := 1) (v := .agg #[.int .i64 0, .int .i64 0, .int .i64 1, .int .i64 0, .int .i64 64, .int .i64 17, .int .u8 10, .int .u8 0, .int .u8 0, .int .u8 ((byteOf 5).toNat : Int), .int .u8 8, .int .u8 8, .int .u8 8, .int .u8 8, .slice Axo 0 cxo, .slice Axb 9 cxb]) rfl (by kernel_rfl) (by kernel_rfl) (by kernel_rfl) (fun _ _ _ h => h) (yieldsIf_load_part (by kernel_rfl) 38 _ rfl g11 0 16 rfl _ 38 (0, 0) (fun W hW => hW) _ rfl _ Tryz.underlying38 rfl (by kernel_rfl)) hH ?_
  simp only [sq3, sq4]
  refine wpAnyH_ready (rs := [2, 7]) (by kernel_rfl) (by simp) ?_
  refine AllReadyH.cons (o := _) rfl (fun K hK => ?_) (AllReadyH.cons (o := _) rfl (fun K hK => ?_) AllReadyH.nil)
  rotate_left
  ·simp only [sq3]
   rw [if_pos (by rfl)]
   refine wp_new_a 38 rfl #[.int .i64 0, .int .i64 0, .int .i64 0, .int .i64 0, .int .i64 0, .int .i64 0, .int .u8 0, .int .u8 0, .int .u8 0, .int .u8 0, .int .u8 0, .int .u8 0, .int .u8 0, .int .u8 0, .slice none 0 0, .slice none 0 0] (by kernel_rfl) ?_
   intro g12 w26 ge hh bb
   have p_b12 := hT.ap ge
   have d_b11_b12 := ne_new (hlt hb11) ge
   have v_xo_b12 := xo.av_new ge
   have v_xb_b12 := xb.av_new ge
   have ob12 := Nat.le_trans bel.size ge
   replace hb11 := blk_u hb11 bb
   replace xo := xo.below bb
   replace xb := xb.below bb
   replace hT := hT.below bb
   replace q_xo := q_xo.below bb
   replace q_xb := q_xb.below bb
   replace p_b11 := p_b11.below bb
   replace p_b12 := p_b12.below bb
   replace bel := bel.trans (bb.mono bel.size)
   have hb12 := hh
   clear hh ge bb
   refine hK.out _ _ hb11 (fun hH27 => ?_)
   clear hK K
   simp only [sq4]
   refine wpAnyH_ready (rs := [2]) (by kernel_rfl) (by simp) ?_
   refine AllReadyH.cons (o := _) rfl (fun K hK => ?_) AllReadyH.nil
   simp only [sq3]
   go_simp
   with_reducible refine (wan19 _).mono ?_
   rintro e w28 ⟨rfl, b28⟩
   dsimp only
   replace hb11 := blk_u hb11 b28
   replace hb12 := blk_u hb12 b28
   replace xo := xo.below b28
   replace xb := xb.below b28
   replace hT := hT.below b28
   replace q_xo := q_xo.below b28
   replace q_xb := q_xb.below b28
   replace p_b11 := p_b11.below b28
   replace p_b12 := p_b12.below b28
   replace bel := bel.trans (b28.mono bel.size)
   clear b28
   refine hK.out _ _ hb11 (fun hH29 => ?_)
   clear hK K
   refine wpAnyH_ready (rs := [3]) (by kernel_rfl) (by simp) ?_
   refine AllReadyH.cons (o := _) rfl (fun K hK => ?_) AllReadyH.nil
   simp only [sq3]
   go_simp
   with_reducible refine (k_o1 _ hT xo xb).mono ?_
   rintro e w30 ⟨rfl, hT_, f_, bb⟩
   dsimp only
   have x_ := f_ _ _ _ _ hb11 p_b11
   replace hb11 := x_.1
   replace p_b11 := x_.2
   clear x_
   have x_ := f_ _ _ _ _ hb12 p_b12
   replace hb12 := x_.1
   replace p_b12 := x_.2
   clear x_
   have x_ := f_.sl xo q_xo
   replace xo := x_.1
   replace q_xo := x_.2
   clear x_
   have x_ := f_.sl xb q_xb
   replace xb := x_.1
   replace q_xb := x_.2
   clear x_
   clear hT
   have hT := hT_
   replace bel := bel.trans bb
   clear bb f_ hT_
   refine hK.out _ _ hb11 (fun hH31 => ?_)
   clear hK K
   refine wpAnyH_take (i := 4) (v := ?_) rfl (by kernel_rfl) (by kernel_rfl) (by kernel_rfl) (fun _ _ _ h => h) (Or.inl ⟨by rfl, ?_⟩) hH31 ?_
   rotate_left
   ·((intro W hW; clear hW; go_simp) <;> with_reducible rfl)
   simp only [sq3, sq4]
   refine wpAnyH_take (i := 5) (v := ?_) rfl (by kernel_rfl) (by kernel_rfl) (by kernel_rfl) (fun _ _ _ h => h) (Or.inl ⟨by rfl, ?_⟩) hH31 ?_
   rotate_left
   ·((intro W hW; clear hW; go_simp) <;> with_reducible rfl)
   simp only [sq3, sq4]
   refine wpAnyH_take (i := 6) (v := ?_) rfl (by kernel_rfl) (by kernel_rfl) (by kernel_rfl) (fun _ _ _ h => h) (Or.inl ⟨by rfl, ?_⟩) hH31 ?_
   rotate_left
   ·((intro W hW; clear hW; go_simp) <;> with_reducible rfl)
   simp only [sq3, sq4]
   refine wpAnyH_ready (rs := [8]) (by kernel_rfl) (by simp) ?_
   refine AllReadyH.cons (o := _) rfl (fun K hK => ?_) AllReadyH.nil
   simp only [sq3]
   rw [if_pos (by rfl)]
   refine wp_store_blk 38 (.tmp 12) (.tmp 75) rfl g12 rfl _ rfl _ 38 hb12 (by rfl) (by kernel_rfl) (by kernel_rfl) ?_
   intro w32 hq gr
   replace xo := xo.away v_xo_b12 gr
   replace xb := xb.away v_xb_b12 gr
   replace hb11 := blk_a hb11 gr d_b11_b12
   replace hT := hT.away p_b12 gr hb12
   replace q_xo := q_xo.grown p_b12 gr
   replace q_xb := q_xb.grown p_b12 gr
   replace p_b11 := p_b11.grown p_b12 gr
   replace p_b12 := p_b12.grown p_b12 gr
   replace bel := below_grown bel gr ob12 bel.size
   clear hb12
   have hb12 := hq
   clear hq gr
   refine hK.out _ _ hb11 (fun hH33 => ?_)
   clear hK K
   simp only [Act.put]
   refine wpAnyH_take (i := 9) (v := ?_) rfl (by kernel_rfl) (by kernel_rfl) (by kernel_rfl) (fun _ _ _ h => h) (Or.inl ⟨by rfl, ?_⟩) hH33 ?_
   rotate_left
   ·((intro W hW; clear hW; go_simp) <;> with_reducible rfl)
   simp only [sq3, sq4]
   refine wpAnyH_done (by kernel_rfl) ?_ _
   go_wp2_with fail
   go_meet
   case rel => exact ⟨g12, rfl, hb11, hb12, ob12, d_b11_b12, xo, v_xo_b11, v_xo_b12, xb, v_xb_b11, v_xb_b12, hT, q_xo, q_xb, p_b11, p_b12, bel⟩
  simp only [sq3]
  go_simp
  with_reducible refine (wan19 _).mono ?_
  rintro e w26 ⟨rfl, b26⟩
  dsimp only
  replace hb11 := blk_u hb11 b26
  replace xo := xo.below b26
  replace xb := xb.below b26
  replace hT := hT.below b26
  replace q_xo := q_xo.below b26
  replace q_xb := q_xb.below b26
  replace p_b11 := p_b11.below b26
  replace bel := bel.trans (b26.mono bel.size)
  clear b26
  refine hK.out _ _ hb11 (fun hH27 => ?_)
  clear hK K
  refine wpAnyH_ready (rs := [3, 7]) (by kernel_rfl) (by simp) ?_
  refine AllReadyH.cons (o := _) rfl (fun K hK => ?_) (AllReadyH.cons (o := _) rfl (fun K hK => ?_) AllReadyH.nil)
  ·simp only [sq3]
   go_simp
   with_reducible refine (k_o1 _ hT xo xb).mono ?_
   rintro e w28 ⟨rfl, hT_, f_, bb⟩
   dsimp only
   have x_ := f_ _ _ _ _ hb11 p_b11
   replace hb11 := x_.1
   replace p_b11 := x_.2
   clear x_
   have x_ := f_.sl xo q_xo
   replace xo := x_.1
   replace q_xo := x_.2
   clear x_
   have x_ := f_.sl xb q_xb
   replace xb := x_.1
   replace q_xb := x_.2
   clear x_
   clear hT
   have hT := hT_
   replace bel := bel.trans bb
   clear bb f_ hT_
   refine hK.out _ _ hb11 (fun hH29 => ?_)
   clear hK K
   refine wpAnyH_take (i := 4) (v := ?_) rfl (by kernel_rfl) (by kernel_rfl) (by kernel_rfl) (fun _ _ _ h => h) (Or.inl ⟨by rfl, ?_⟩) hH29 ?_
   rotate_left
   ·((intro W hW; clear hW; go_simp) <;> with_reducible rfl)
   simp only [sq3, sq4]
   refine wpAnyH_take (i := 5) (v := ?_) rfl (by kernel_rfl) (by kernel_rfl) (by kernel_rfl) (fun _ _ _ h => h) (Or.inl ⟨by rfl, ?_⟩) hH29 ?_
   rotate_left
   ·((intro W hW; clear hW; go_simp) <;> with_reducible rfl)
   simp only [sq3, sq4]
   refine wpAnyH_take (i := 6) (v := ?_) rfl (by kernel_rfl) (by kernel_rfl) (by kernel_rfl) (fun _ _ _ h => h) (Or.inl ⟨by rfl, ?_⟩) hH29 ?_
   rotate_left
   ·((intro W hW; clear hW; go_simp) <;> with_reducible rfl)
   simp only [sq3, sq4]
   refine wpAnyH_ready (rs := [7]) (by kernel_rfl) (by simp) ?_
   refine AllReadyH.cons (o := _) rfl (fun K hK => ?_) AllReadyH.nil
   simp only [sq3]
   rw [if_pos (by rfl)]
   refine wp_new_a 38 rfl #[.int .i64 0, .int .i64 0, .int .i64 0, .int .i64 0, .int .i64 0, .int .i64 0, .int .u8 0, .int .u8 0, .int .u8 0, .int .u8 0, .int .u8 0, .int .u8 0, .int .u8 0, .int .u8 0, .slice none 0 0, .slice none 0 0] (by kernel_rfl) ?_
   intro g12 w30 ge hh bb
   have p_b12 := hT.ap ge
   have d_b11_b12 := ne_new (hlt hb11) ge
   have v_xo_b12 := xo.av_new ge
   have v_xb_b12 := xb.av_new ge
   have ob12 := Nat.le_trans bel.size ge
   replace hb11 := blk_u hb11 bb
   replace xo := xo.below bb
   replace xb := xb.below bb
   replace hT := hT.below bb
   replace q_xo := q_xo.below bb
   replace q_xb := q_xb.below bb
   replace p_b11 := p_b11.below bb
   replace p_b12 := p_b12.below bb
   replace bel := bel.trans (bb.mono bel.size)
   have hb12 := hh
   clear hh ge bb
   refine hK.out _ _ hb11 (fun hH31 => ?_)
   clear hK K
   simp only [sq4]
   refine wpAnyH_ready (rs := [8]) (by kernel_rfl) (by simp) ?_
   refine AllReadyH.cons (o := _) rfl (fun K hK => ?_) AllReadyH.nil
   simp only [sq3]
   rw [if_pos (by rfl)]
   refine wp_store_blk 38 (.tmp 12) (.tmp 75) rfl g12 rfl _ rfl _ 38 hb12 (by rfl) (by kernel_rfl) (by kernel_rfl) ?_
   intro w32 hq gr
   replace xo := xo.away v_xo_b12 gr
   replace xb := xb.away v_xb_b12 gr
   replace hb11 := blk_a hb11 gr d_b11_b12
   replace hT := hT.away p_b12 gr hb12
   replace q_xo := q_xo.grown p_b12 gr
   replace q_xb := q_xb.grown p_b12 gr
   replace p_b11 := p_b11.grown p_b12 gr
   replace p_b12 := p_b12.grown p_b12 gr
   replace bel := below_grown bel gr ob12 bel.size
   clear hb12
   have hb12 := hq
   clear hq gr
   refine hK.out _ _ hb11 (fun hH33 => ?_)
   clear hK K
   simp only [Act.put]
   refine wpAnyH_take (i := 9) (v := ?_) rfl (by kernel_rfl) (by kernel_rfl) (by kernel_rfl) (fun _ _ _ h => h) (Or.inl ⟨by rfl, ?_⟩) hH33 ?_
   rotate_left
   ·((intro W hW; clear hW; go_simp) <;> with_reducible rfl)
   simp only [sq3, sq4]
   refine wpAnyH_done (by kernel_rfl) ?_ _
   go_wp2_with fail
   go_meet
   case rel => exact ⟨g12, rfl, hb11, hb12, ob12, d_b11_b12, xo, v_xo_b11, v_xo_b12, xb, v_xb_b11, v_xb_b12, hT, q_xo, q_xb, p_b11, p_b12, bel⟩
  simp only [sq3]
  rw [if_pos (by rfl)]
  refine wp_new_a 38 rfl #[.int .i64 0, .int .i64 0, .int .i64 0, .int .i64 0, .int .i64 0, .int .i64 0, .int .u8 0, .int .u8 0, .int .u8 0, .int .u8 0, .int .u8 0, .int .u8 0, .int .u8 0, .int .u8 0, .slice none 0 0, .slice none 0 0] (by kernel_rfl) ?_
  intro g12 w28 ge hh bb
  have p_b12 := hT.ap ge
  have d_b11_b12 := ne_new (hlt hb11) ge
  have v_xo_b12 := xo.av_new ge
  have v_xb_b12 := xb.av_new ge
  have ob12 := Nat.le_trans bel.size ge
  replace hb11 := blk_u hb11 bb
  replace xo := xo.below bb
  replace xb := xb.below bb
  replace hT := hT.below bb
  replace q_xo := q_xo.below bb
  replace q_xb := q_xb.below bb
  replace p_b11 := p_b11.below bb
  replace p_b12 := p_b12.below bb
  replace bel := bel.trans (bb.mono bel.size)
  have hb12 := hh
  clear hh ge bb
  refine hK.out _ _ hb11 (fun hH29 => ?_)
  clear hK K
  simp only [sq4]
  refine wpAnyH_ready (rs := [3]) (by kernel_rfl) (by simp) ?_
  refine AllReadyH.cons (o := _) rfl (fun K hK => ?_) AllReadyH.nil
  simp only [sq3]
  go_simp
  with_reducible refine (k_o1 _ hT xo xb).mono ?_
  rintro e w30 ⟨rfl, hT_, f_, bb⟩
  dsimp only
  have x_ := f_ _ _ _ _ hb11 p_b11
  replace hb11 := x_.1
  replace p_b11 := x_.2
  clear x_
  have x_ := f_ _ _ _ _ hb12 p_b12
  replace hb12 := x_.1
  replace p_b12 := x_.2
  clear x_
  have x_ := f_.sl xo q_xo
  replace xo := x_.1
  replace q_xo := x_.2
  clear x_
  have x_ := f_.sl xb q_xb
  replace xb := x_.1
  replace q_xb := x_.2
  clear x_
  clear hT
  have hT := hT_
  replace bel := bel.trans bb
  clear bb f_ hT_
  refine hK.out _ _ hb11 (fun hH31 => ?_)
  clear hK K
  refine wpAnyH_take (i := 4) (v := ?_) rfl (by kernel_rfl) (by kernel_rfl) (by kernel_rfl) (fun _ _ _ h => h) (Or.inl ⟨by rfl, ?_⟩) hH31 ?_
  rotate_left
  ·((intro W hW; clear hW; go_simp) <;> with_reducible rfl)
  simp only [sq3, sq4]
  refine wpAnyH_take (i := 5) (v := ?_) rfl (by kernel_rfl) (by kernel_rfl) (by kernel_rfl) (fun _ _ _ h => h) (Or.inl ⟨by rfl, ?_⟩) hH31 ?_
  rotate_left
  ·((intro W hW; clear hW; go_simp) <;> with_reducible rfl)
  simp only [sq3, sq4]
  refine wpAnyH_take (i := 6) (v := ?_) rfl (by kernel_rfl) (by kernel_rfl) (by kernel_rfl) (fun _ _ _ h => h) (Or.inl ⟨by rfl, ?_⟩) hH31 ?_
  rotate_left
  ·((intro W hW; clear hW; go_simp) <;> with_reducible rfl)
  simp only [sq3, sq4]
  refine wpAnyH_ready (rs := [8]) (by kernel_rfl) (by simp) ?_
  refine AllReadyH.cons (o := _) rfl (fun K hK => ?_) AllReadyH.nil
  simp only [sq3]
  rw [if_pos (by rfl)]
  refine wp_store_blk 38 (.tmp 12) (.tmp 75) rfl g12 rfl _ rfl _ 38 hb12 (by rfl) (by kernel_rfl) (by kernel_rfl) ?_
  intro w32 hq gr
  replace xo := xo.away v_xo_b12 gr
  replace xb := xb.away v_xb_b12 gr
  replace hb11 := blk_a hb11 gr d_b11_b12
  replace hT := hT.away p_b12 gr hb12
  replace q_xo := q_xo.grown p_b12 gr
  replace q_xb := q_xb.grown p_b12 gr
  replace p_b11 := p_b11.grown p_b12 gr
  replace p_b12 := p_b12.grown p_b12 gr
  replace bel := below_grown bel gr ob12 bel.size
  clear hb12
  have hb12 := hq
  clear hq gr
  refine hK.out _ _ hb11 (fun hH33 => ?_)
  clear hK K
  simp only [Act.put]
  refine wpAnyH_take (i := 9) (v := ?_) rfl (by kernel_rfl) (by kernel_rfl) (by kernel_rfl) (fun _ _ _ h => h) (Or.inl ⟨by rfl, ?_⟩) hH33 ?_
  rotate_left
  ·((intro W hW; clear hW; go_simp) <;> with_reducible rfl)
  simp only [sq3, sq4]
  refine wpAnyH_done (by kernel_rfl) ?_ _
  go_wp2_with fail
  go_meet
  case rel => exact ⟨g12, rfl, hb11, hb12, ob12, d_b11_b12, xo, v_xo_b11, v_xo_b12, xb, v_xb_b11, v_xb_b12, hT, q_xo, q_xb, p_b11, p_b12, bel⟩
 obtain ⟨w34, hw_⟩ : ∃ x, x = wc := ⟨_, rfl⟩
 subst hw_
 obtain ⟨g12, rfl, hb11, hb12, ob12, d_b11_b12, xo, v_xo_b11, v_xo_b12, xb, v_xb_b11, v_xb_b12, hT, q_xo, q_xb, p_b11, p_b12, bel⟩ := hcut
 clear q_xo
 clear xo
 clear q_xb
 clear xb
 clear p_b11
 clear hb11
 clear p_b12
 clear hb12
 try clear v_xo_b11
 try clear v_xo_b12
 try clear fxo
 try clear v_xb_b11
 try clear v_xb_b12
 try clear fxb
 try clear d_b11_b12
 try clear ob11
 try clear ob12
 go_wp2_with fail
 with_reducible refine (at19 5 _).mono ?_
 rintro e w35 ⟨rfl, b35⟩
 replace hT := hT.below b35
 replace bel := bel.trans (b35.mono bel.size)
 clear b35
 go_wp2_with fail
 with_reducible refine (far19 _).mono ?_
 rintro e w36 ⟨rfl, b36⟩
 replace hT := hT.below b36
 replace bel := bel.trans (b36.mono bel.size)
 clear b36
 go_wp2_with fail
 with_reducible refine (dg_out 5 0 _ (by decide)).mono ?_
 rintro e w37 ⟨Azo, czo, Azb, czb, rfl, zo, zb, fzo, fzb, b37⟩
 have q_zo := hT.an fzo
 have q_zb := hT.an fzb
 replace hT := hT.below b37
 replace q_zo := q_zo.below b37
 replace q_zb := q_zb.below b37
 replace bel := bel.trans (b37.mono bel.size)
 clear b37
 replace zo : Sl w37 (Azo) (0) (czo) ([]) := zo
 replace zb : Sl w37 (Azb) (9) (czb) (udBytes 10 0 0 (byteOf 5) 8 8 8 8 0 53 [120]) := zb
 go_wp2_with fail
 with_reducible refine (wan19 _).mono ?_
 rintro e w38 ⟨rfl, b38⟩
 replace zo := zo.below b38
 replace zb := zb.below b38
 replace hT := hT.below b38
 replace q_zo := q_zo.below b38
 replace q_zb := q_zb.below b38
 replace bel := bel.trans (b38.mono bel.size)
 clear b38
 go_wp2_with fail
 with_reducible refine (k_o0 _ hT zo zb).mono ?_
 rintro e w39 ⟨rfl, hT_, f_, bb⟩
 have x_ := f_.sl zo q_zo
 replace zo := x_.1
 replace q_zo := x_.2
 clear x_
 have x_ := f_.sl zb q_zb
 replace zb := x_.1
 replace q_zb := x_.2
 clear x_
 clear hT
 have hT := hT_
 replace bel := bel.trans bb
 clear bb f_ hT_
 go_wp2_with (first | ((with_reducible show wpList _ _ _ (⟨some 14, _, _, _, _, _⟩ :: _) _ _); refine wpList_new_a rfl 38 rfl #[.int .i64 0, .int .i64 0, .int .i64 0, .int .i64 0, .int .i64 0, .int .i64 0, .int .u8 0, .int .u8 0, .int .u8 0, .int .u8 0, .int .u8 0, .int .u8 0, .int .u8 0, .int .u8 0, .slice none 0 0, .slice none 0 0] (by kernel_rfl) ?_; intro g14 w40 ge hh bb; have p_b14 := hT.ap ge; have v_zo_b14 := zo.av_new ge; have v_zb_b14 := zb.av_new ge; have ob14 := Nat.le_trans bel.size ge; replace zo := zo.below bb; replace zb := zb.below bb; replace hT := hT.below bb; replace q_zo := q_zo.below bb; replace q_zb := q_zb.below bb; replace p_b14 := p_b14.below bb; replace bel := bel.trans (bb.mono bel.size); have hb14 := hh; clear hh ge bb) | ((with_reducible show wpList _ _ _ (⟨none, Op.store _ (.tmp 14) _, _, _, _, _⟩ :: _) _ _); refine wpList_store_blk rfl 38 (.tmp 14) (.tmp 84) rfl g14 rfl _ rfl _ 38 hb14 (by rfl) (by kernel_rfl) (by kernel_rfl) ?_; intro w41 hq gr; replace zo := zo.away v_zo_b14 gr; replace zb := zb.away v_zb_b14 gr; replace hT := hT.away p_b14 gr hb14; replace q_zo := q_zo.grown p_b14 gr; replace q_zb := q_zb.grown p_b14 gr; replace p_b14 := p_b14.grown p_b14 gr; replace bel := below_grown bel gr ob14 bel.size; clear hb14; have hb14 := hq; clear hq gr; clear q_zo; clear zo; clear q_zb; clear zb; clear p_b14; clear hb14; try clear v_zo_b14; try clear fzo; try clear v_zb_b14; try clear fzb; try clear ob14))
 with_reducible refine (at19 5 _).mono ?_
 rintro e w42 ⟨rfl, b42⟩
 replace hT := hT.below b42
 replace bel := bel.trans (b42.mono bel.size)
 clear b42
 go_wp2_with fail
 with_reducible refine (far19 _).mono ?_
 rintro e w43 ⟨rfl, b43⟩
 replace hT := hT.below b43
 replace bel := bel.trans (b43.mono bel.size)
 clear b43
 go_wp2_with fail
 with_reducible refine (k_put _).mono ?_
 rintro e w44 ⟨Aqo, cqo, Aqb, cqb, rfl, qo, qb, fqo, fqb, b44⟩
 have q_qo := hT.an fqo
 have q_qb := hT.an fqb
 replace hT := hT.below b44
 replace q_qo := q_qo.below b44
 replace q_qb := q_qb.below b44
 replace bel := bel.trans (b44.mono bel.size)
 clear b44
 replace qo : Sl w44 (Aqo) (0) (cqo) ([]) := qo
 replace qb : Sl w44 (Aqb) (8) (cqb) (icBytes 8 0 458755 []) := qb
 go_wp2_with (first | ((with_reducible show wpList _ _ _ (⟨some 16, _, _, _, _, _⟩ :: _) _ _); refine wpList_new_a rfl 38 rfl #[.int .i64 0, .int .i64 0, .int .i64 0, .int .i64 0, .int .i64 0, .int .i64 0, .int .u8 0, .int .u8 0, .int .u8 0, .int .u8 0, .int .u8 0, .int .u8 0, .int .u8 0, .int .u8 0, .slice none 0 0, .slice none 0 0] (by kernel_rfl) ?_; intro g16 w45 ge hh bb; have p_b16 := hT.ap ge; have v_qo_b16 := qo.av_new ge; have v_qb_b16 := qb.av_new ge; have ob16 := Nat.le_trans bel.size ge; replace qo := qo.below bb; replace qb := qb.below bb; replace hT := hT.below bb; replace q_qo := q_qo.below bb; replace q_qb := q_qb.below bb; replace p_b16 := p_b16.below bb; replace bel := bel.trans (bb.mono bel.size); have hb16 := hh; clear hh ge bb) | ((with_reducible show wpList _ _ _ (⟨none, Op.store _ (.tmp 16) _, _, _, _, _⟩ :: _) _ _); refine wpList_store_blk rfl 38 (.tmp 16) (.tmp 92) rfl g16 rfl _ rfl _ 38 hb16 (by rfl) (by kernel_rfl) (by kernel_rfl) ?_; intro w46 hq gr; replace qo := qo.away v_qo_b16 gr; replace qb := qb.away v_qb_b16 gr; replace hT := hT.away p_b16 gr hb16; replace q_qo := q_qo.grown p_b16 gr; replace q_qb := q_qb.grown p_b16 gr; replace p_b16 := p_b16.grown p_b16 gr; replace bel := below_grown bel gr ob16 bel.size; clear hb16; have hb16 := hq; clear hq gr))
 go_cut [18, 19] from 9999 (fun s18 s19 W => ∃ g18 : Nat, ∃ Aro : Option Addr, ∃ cro : Nat, ∃ Arb : Option Addr, ∃ crb : Nat, s18 = .pointer (some ⟨g18, 0, none⟩) ∧ s19 = .int .i64 0 ∧ W.heap[g16]? = some (.cells #[.int .i64 0, .int .i64 0, .int .i64 0, .int .i64 0, .int .i64 64, .int .i64 1, .int .u8 10, .int .u8 0, .int .u8 0, .int .u8 ((byteOf 5).toNat : Int), .int .u8 8, .int .u8 8, .int .u8 8, .int .u8 8, .slice Aqo 0 cqo, .slice Aqb 8 cqb] 38 (0, 0)) ∧ W.heap[g18]? = some (.cells #[.int .i64 0, .int .i64 0, .int .i64 0, .int .i64 0, .int .i64 64, .int .i64 1, .int .u8 203, .int .u8 0, .int .u8 113, .int .u8 7, .int .u8 8, .int .u8 8, .int .u8 8, .int .u8 8, .slice Aro 0 cro, .slice Arb 8 crb] 38 (0, 0)) ∧ w.heap.size ≤ g18 ∧ Hid (g16 ≠ g18) ∧ Sl W (Aqo) (0) (cqo) ([]) ∧ Av (Aqo) (0) g16 ∧ Av (Aqo) (0) g18 ∧ Sl W (Aqb) (8) (cqb) (icBytes 8 0 458755 []) ∧ Av (Aqb) (8) g16 ∧ Av (Aqb) (8) g18 ∧ Sl W (Aro) (0) (cro) ([]) ∧ Av (Aro) (0) g16 ∧ Av (Aro) (0) g18 ∧ Sl W (Arb) (8) (crb) (icBytes 8 0 2621440003 []) ∧ Av (Arb) (8) g16 ∧ Av (Arb) (8) g18 ∧ Np w.heap.size gn gt gk W (qS 0) nK0 ∧ An gn gt gk W (Aqo) (0) ∧ An gn gt gk W (Aqb) (8) ∧ Anp gn gt gk W g16 ∧ An gn gt gk W (Aro) (0) ∧ An gn gt gk W (Arb) (8) ∧ Anp gn gt gk W g18 ∧ Below w.heap.size w W)
 case first =>
  replace bel := bel.drew
  replace hb16 : w46.drew.heap[g16]? = _ := hb16
  replace qo := qo.drew
  replace qb := qb.drew
  replace hT := np_drew hT
  replace q_qo := an_drew q_qo
  replace q_qb := an_drew q_qb
  replace p_b16 := anp_drew p_b16
  refine wp_region_held_drew (S := fun W => W.heap[g16]? = some (.cells #[.int .i64 0, .int .i64 0, .int .i64 0, .int .i64 0, .int .i64 64, .int .i64 1, .int .u8 10, .int .u8 0, .int .u8 0, .int .u8 ((byteOf 5).toNat : Int), .int .u8 8, .int .u8 8, .int .u8 8, .int .u8 8, .slice Aqo 0 cqo, .slice Aqb 8 cqb] 38 (0, 0))) (by kernel_rfl) hb16 (fun hH => ?_)
  generalize w46.drew = w47 at bel hb16 qo qb hT q_qo q_qb p_b16 hH ⊢
  refine wpAnyH_take (i := 0) (v := ?_) rfl (by kernel_rfl) (by kernel_rfl) (by kernel_rfl) (fun _ _ _ h => h) (Or.inl ⟨by rfl, ?_⟩) hH ?_
  rotate_left
  ·((intro W hW; clear hW; go_simp) <;> with_reducible rfl)
  simp only [Act.put, List.getElem_toArray, List.getElem_cons_zero, List.setIfInBounds_toArray, List.set_cons_zero, List.set_cons_succ]
  refine wpAnyH_take (i := 1) (v := .agg #[.int .i64 0, .int .i64 0, .int .i64 0, .int .i64 0, .int .i64 64, .int .i64 1, .int .u8 10, .int .u8 0, .int .u8 0, .int .u8 ((byteOf 5).toNat : Int), .int .u8 8, .int .u8 8, .int .u8 8, .int .u8 8, .slice Aqo 0 cqo, .slice Aqb 8 cqb]) rfl (by kernel_rfl) (by kernel_rfl) (by kernel_rfl) (fun _ _ _ h => h) (yieldsIf_load_part (by kernel_rfl) 38 _ rfl g16 0 16 rfl _ 38 (0, 0) (fun W hW => hW) _ rfl _ Tryz.underlying38 rfl (by kernel_rfl)) hH ?_
  simp only [sq3, sq4]
  refine wpAnyH_ready (rs := [2, 7]) (by kernel_rfl) (by simp) ?_
  refine AllReadyH.cons (o := _) rfl (fun K hK => ?_) (AllReadyH.cons (o := _) rfl (fun K hK => ?_) AllReadyH.nil)
  rotate_left
  ·simp only [sq3]
   rw [if_pos (by rfl)]
   refine wp_new_a 38 rfl #[.int .i64 0, .int .i64 0, .int .i64 0, .int .i64 0, .int .i64 0, .int .i64 0, .int .u8 0, .int .u8 0, .int .u8 0, .int .u8 0, .int .u8 0, .int .u8 0, .int .u8 0, .int .u8 0, .slice none 0 0, .slice none 0 0] (by kernel_rfl) ?_
   intro g18 w48 ge hh bb
   have p_b18 := hT.ap ge
   have d_b16_b18 := ne_new (hlt hb16) ge
   have v_qo_b18 := qo.av_new ge
   have v_qb_b18 := qb.av_new ge
   have ob18 := Nat.le_trans bel.size ge
   replace hb16 := blk_u hb16 bb
   replace qo := qo.below bb
   replace qb := qb.below bb
   replace hT := hT.below bb
   replace q_qo := q_qo.below bb
   replace q_qb := q_qb.below bb
   replace p_b16 := p_b16.below bb
   replace p_b18 := p_b18.below bb
   replace bel := bel.trans (bb.mono bel.size)
   have hb18 := hh
   clear hh ge bb
   refine hK.out _ _ hb16 (fun hH49 => ?_)
   clear hK K
   simp only [sq4]
   refine wpAnyH_ready (rs := [2]) (by kernel_rfl) (by simp) ?_
   refine AllReadyH.cons (o := _) rfl (fun K hK => ?_) AllReadyH.nil
   simp only [sq3]
   go_simp
   with_reducible refine (wan19 _).mono ?_
   rintro e w50 ⟨rfl, b50⟩
   dsimp only
   replace hb16 := blk_u hb16 b50
   replace hb18 := blk_u hb18 b50
   replace qo := qo.below b50
   replace qb := qb.below b50
   replace hT := hT.below b50
   replace q_qo := q_qo.below b50
   replace q_qb := q_qb.below b50
   replace p_b16 := p_b16.below b50
   replace p_b18 := p_b18.below b50
   replace bel := bel.trans (b50.mono bel.size)
   clear b50
   refine hK.out _ _ hb16 (fun hH51 => ?_)
   clear hK K
   refine wpAnyH_ready (rs := [3]) (by kernel_rfl) (by simp) ?_
   refine AllReadyH.cons (o := _) rfl (fun K hK => ?_) AllReadyH.nil
   simp only [sq3]
   go_simp
   have lt_b16 := hlt hb16
   have lt_b18 := hlt hb18
   with_reducible refine (k_oq _ hT qo qb).mono ?_
   rintro e w52 ⟨Aro, cro, Arb, crb, rfl, hT_, f_, bb, ro, rb, q_ro, q_rb, fro, frb⟩
   dsimp only
   have x_ := f_ _ _ _ _ hb16 p_b16
   replace hb16 := x_.1
   replace p_b16 := x_.2
   clear x_
   have x_ := f_ _ _ _ _ hb18 p_b18
   replace hb18 := x_.1
   replace p_b18 := x_.2
   clear x_
   have x_ := f_.sl qo q_qo
   replace qo := x_.1
   replace q_qo := x_.2
   clear x_
   have x_ := f_.sl qb q_qb
   replace qb := x_.1
   replace q_qb := x_.2
   clear x_
   clear hT
   have hT := hT_
   replace bel := bel.trans bb
   clear bb f_ hT_
   have v_ro_b16 := fro.av lt_b16
   have v_ro_b18 := fro.av lt_b18
   have v_rb_b16 := frb.av lt_b16
   have v_rb_b18 := frb.av lt_b18
   clear lt_b16 lt_b18
   clear fro frb
   refine hK.out _ _ hb16 (fun hH53 => ?_)
   clear hK K
   refine wpAnyH_take (i := 4) (v := ?_) rfl (by kernel_rfl) (by kernel_rfl) (by kernel_rfl) (fun _ _ _ h => h) (Or.inl ⟨by rfl, ?_⟩) hH53 ?_
   rotate_left
   ·((intro W hW; clear hW; go_simp) <;> with_reducible rfl)
   simp only [sq3, sq4]
   refine wpAnyH_take (i := 5) (v := ?_) rfl (by kernel_rfl) (by kernel_rfl) (by kernel_rfl) (fun _ _ _ h => h) (Or.inl ⟨by rfl, ?_⟩) hH53 ?_
   rotate_left
   ·((intro W hW; clear hW; go_simp) <;> with_reducible rfl)
   simp only [sq3, sq4]
   refine wpAnyH_take (i := 6) (v := ?_) rfl (by kernel_rfl) (by kernel_rfl) (by kernel_rfl) (fun _ _ _ h => h) (Or.inl ⟨by rfl, ?_⟩) hH53 ?_
   rotate_left
   ·((intro W hW; clear hW; go_simp) <;> with_reducible rfl)
   simp only [sq3, sq4]
   refine wpAnyH_ready (rs := [8]) (by kernel_rfl) (by simp) ?_
   refine AllReadyH.cons (o := _) rfl (fun K hK => ?_) AllReadyH.nil
   simp only [sq3]
   rw [if_pos (by rfl)]
   refine wp_store_blk 38 (.tmp 18) (.tmp 99) rfl g18 rfl _ rfl _ 38 hb18 (by rfl) (by kernel_rfl) (by kernel_rfl) ?_
   intro w54 hq gr
   replace qo := qo.away v_qo_b18 gr
   replace qb := qb.away v_qb_b18 gr
   replace ro := ro.away v_ro_b18 gr
   replace rb := rb.away v_rb_b18 gr
   replace hb16 := blk_a hb16 gr d_b16_b18
   replace hT := hT.away p_b18 gr hb18
   replace q_qo := q_qo.grown p_b18 gr
   replace q_qb := q_qb.grown p_b18 gr
   replace p_b16 := p_b16.grown p_b18 gr
   replace p_b18 := p_b18.grown p_b18 gr
   replace q_ro := q_ro.grown p_b18 gr
   replace q_rb := q_rb.grown p_b18 gr
   replace bel := below_grown bel gr ob18 bel.size
   clear hb18
   have hb18 := hq
   clear hq gr
   refine hK.out _ _ hb16 (fun hH55 => ?_)
   clear hK K
   simp only [Act.put]
   refine wpAnyH_take (i := 9) (v := ?_) rfl (by kernel_rfl) (by kernel_rfl) (by kernel_rfl) (fun _ _ _ h => h) (Or.inl ⟨by rfl, ?_⟩) hH55 ?_
   rotate_left
   ·((intro W hW; clear hW; go_simp) <;> with_reducible rfl)
   simp only [sq3, sq4]
   refine wpAnyH_done (by kernel_rfl) ?_ _
   go_wp2_with fail
   go_meet
   case rel => exact ⟨g18, Aro, cro, Arb, crb, rfl, rfl, hb16, hb18, ob18, d_b16_b18, qo, v_qo_b16, v_qo_b18, qb, v_qb_b16, v_qb_b18, ro, v_ro_b16, v_ro_b18, rb, v_rb_b16, v_rb_b18, hT, q_qo, q_qb, p_b16, q_ro, q_rb, p_b18, bel⟩
  simp only [sq3]
  go_simp
  with_reducible refine (wan19 _).mono ?_
  rintro e w48 ⟨rfl, b48⟩
  dsimp only
  replace hb16 := blk_u hb16 b48
  replace qo := qo.below b48
  replace qb := qb.below b48
  replace hT := hT.below b48
  replace q_qo := q_qo.below b48
  replace q_qb := q_qb.below b48
  replace p_b16 := p_b16.below b48
  replace bel := bel.trans (b48.mono bel.size)
  clear b48
  refine hK.out _ _ hb16 (fun hH49 => ?_)
  clear hK K
  refine wpAnyH_ready (rs := [3, 7]) (by kernel_rfl) (by simp) ?_
  refine AllReadyH.cons (o := _) rfl (fun K hK => ?_) (AllReadyH.cons (o := _) rfl (fun K hK => ?_) AllReadyH.nil)
  ·simp only [sq3]
   go_simp
   have lt_b16 := hlt hb16
   with_reducible refine (k_oq _ hT qo qb).mono ?_
   rintro e w50 ⟨Aro, cro, Arb, crb, rfl, hT_, f_, bb, ro, rb, q_ro, q_rb, fro, frb⟩
   dsimp only
   have x_ := f_ _ _ _ _ hb16 p_b16
   replace hb16 := x_.1
   replace p_b16 := x_.2
   clear x_
   have x_ := f_.sl qo q_qo
   replace qo := x_.1
   replace q_qo := x_.2
   clear x_
   have x_ := f_.sl qb q_qb
   replace qb := x_.1
   replace q_qb := x_.2
   clear x_
   clear hT
   have hT := hT_
   replace bel := bel.trans bb
   clear bb f_ hT_
   have v_ro_b16 := fro.av lt_b16
   have v_rb_b16 := frb.av lt_b16
   clear lt_b16
   clear fro frb
   refine hK.out _ _ hb16 (fun hH51 => ?_)
   clear hK K
   refine wpAnyH_take (i := 4) (v := ?_) rfl (by kernel_rfl) (by kernel_rfl) (by kernel_rfl) (fun _ _ _ h => h) (Or.inl ⟨by rfl, ?_⟩) hH51 ?_
   rotate_left
   ·((intro W hW; clear hW; go_simp) <;> with_reducible rfl)
   simp only [sq3, sq4]
   refine wpAnyH_take (i := 5) (v := ?_) rfl (by kernel_rfl) (by kernel_rfl) (by kernel_rfl) (fun _ _ _ h => h) (Or.inl ⟨by rfl, ?_⟩) hH51 ?_
   rotate_left
   ·((intro W hW; clear hW; go_simp) <;> with_reducible rfl)
   simp only [sq3, sq4]
   refine wpAnyH_take (i := 6) (v := ?_) rfl (by kernel_rfl) (by kernel_rfl) (by kernel_rfl) (fun _ _ _ h => h) (Or.inl ⟨by rfl, ?_⟩) hH51 ?_
   rotate_left
   ·((intro W hW; clear hW; go_simp) <;> with_reducible rfl)
   simp only [sq3, sq4]
   refine wpAnyH_ready (rs := [7]) (by kernel_rfl) (by simp) ?_
   refine AllReadyH.cons (o := _) rfl (fun K hK => ?_) AllReadyH.nil
   simp only [sq3]
   rw [if_pos (by rfl)]
   refine wp_new_a 38 rfl #[.int .i64 0, .int .i64 0, .int .i64 0, .int .i64 0, .int .i64 0, .int .i64 0, .int .u8 0, .int .u8 0, .int .u8 0, .int .u8 0, .int .u8 0, .int .u8 0, .int .u8 0, .int .u8 0, .slice none 0 0, .slice none 0 0] (by kernel_rfl) ?_
   intro g18 w52 ge hh bb
   have p_b18 := hT.ap ge
   have d_b16_b18 := ne_new (hlt hb16) ge
   have v_qo_b18 := qo.av_new ge
   have v_qb_b18 := qb.av_new ge
   have v_ro_b18 := ro.av_new ge
   have v_rb_b18 := rb.av_new ge
   have ob18 := Nat.le_trans bel.size ge
   replace hb16 := blk_u hb16 bb
   replace qo := qo.below bb
   replace qb := qb.below bb
   replace ro := ro.below bb
   replace rb := rb.below bb
   replace hT := hT.below bb
   replace q_qo := q_qo.below bb
   replace q_qb := q_qb.below bb
   replace p_b16 := p_b16.below bb
   replace q_ro := q_ro.below bb
   replace q_rb := q_rb.below bb
   replace p_b18 := p_b18.below bb
   replace bel := bel.trans (bb.mono bel.size)
   have hb18 := hh
   clear hh ge bb
   refine hK.out _ _ hb16 (fun hH53 => ?_)
   clear hK K
   simp only [sq4]
   refine wpAnyH_ready (rs := [8]) (by kernel_rfl) (by simp) ?_
   refine AllReadyH.cons (o := _) rfl (fun K hK => ?_) AllReadyH.nil
   simp only [sq3]
   rw [if_pos (by rfl)]
   refine wp_store_blk 38 (.tmp 18) (.tmp 99) rfl g18 rfl _ rfl _ 38 hb18 (by rfl) (by kernel_rfl) (by kernel_rfl) ?_
   intro w54 hq gr
   replace qo := qo.away v_qo_b18 gr
   replace qb := qb.away v_qb_b18 gr
   replace ro := ro.away v_ro_b18 gr
   replace rb := rb.away v_rb_b18 gr
   replace hb16 := blk_a hb16 gr d_b16_b18
   replace hT := hT.away p_b18 gr hb18
   replace q_qo := q_qo.grown p_b18 gr
   replace q_qb := q_qb.grown p_b18 gr
   replace p_b16 := p_b16.grown p_b18 gr
   replace q_ro := q_ro.grown p_b18 gr
   replace q_rb := q_rb.grown p_b18 gr
   replace p_b18 := p_b18.grown p_b18 gr
   replace bel := below_grown bel gr ob18 bel.size
   clear hb18
   have hb18 := hq
   clear hq gr
   refine hK.out _ _ hb16 (fun hH55 => ?_)
   clear hK K
   simp only [Act.put]
   refine wpAnyH_take (i := 9) (v := ?_) rfl (by kernel_rfl) (by kernel_rfl) (by kernel_rfl) (fun _ _ _ h => h) (Or.inl ⟨by rfl, ?_⟩) hH55 ?_
   rotate_left
   ·((intro W hW; clear hW; go_simp) <;> with_reducible rfl)
   simp only [sq3, sq4]
   refine wpAnyH_done (by kernel_rfl) ?_ _
   go_wp2_with fail
   go_meet
   case rel => exact ⟨g18, Aro, cro, Arb, crb, rfl, rfl, hb16, hb18, ob18, d_b16_b18, qo, v_qo_b16, v_qo_b18, qb, v_qb_b16, v_qb_b18, ro, v_ro_b16, v_ro_b18, rb, v_rb_b16, v_rb_b18, hT, q_qo, q_qb, p_b16, q_ro, q_rb, p_b18, bel⟩
  simp only [sq3]
  rw [if_pos (by rfl)]
  refine wp_new_a 38 rfl #[.int .i64 0, .int .i64 0, .int .i64 0, .int .i64 0, .int .i64 0, .int .i64 0, .int .u8 0, .int .u8 0, .int .u8 0, .int .u8 0, .int .u8 0, .int .u8 0, .int .u8 0, .int .u8 0, .slice none 0 0, .slice none 0 0] (by kernel_rfl) ?_
  intro g18 w50 ge hh bb
  have p_b18 := hT.ap ge
  have d_b16_b18 := ne_new (hlt hb16) ge
  have v_qo_b18 := qo.av_new ge
  have v_qb_b18 := qb.av_new ge
  have ob18 := Nat.le_trans bel.size ge
  replace hb16 := blk_u hb16 bb
  replace qo := qo.below bb
  replace qb := qb.below bb
  replace hT := hT.below bb
  replace q_qo := q_qo.below bb
  replace q_qb := q_qb.below bb
  replace p_b16 := p_b16.below bb
  replace p_b18 := p_b18.below bb
  replace bel := bel.trans (bb.mono bel.size)
  have hb18 := hh
  clear hh ge bb
  refine hK.out _ _ hb16 (fun hH51 => ?_)
  clear hK K
  simp only [sq4]
  refine wpAnyH_ready (rs := [3]) (by kernel_rfl) (by simp) ?_
  refine AllReadyH.cons (o := _) rfl (fun K hK => ?_) AllReadyH.nil
  simp only [sq3]
  go_simp
  have lt_b16 := hlt hb16
  have lt_b18 := hlt hb18
  with_reducible refine (k_oq _ hT qo qb).mono ?_
  rintro e w52 ⟨Aro, cro, Arb, crb, rfl, hT_, f_, bb, ro, rb, q_ro, q_rb, fro, frb⟩
  dsimp only
  have x_ := f_ _ _ _ _ hb16 p_b16
  replace hb16 := x_.1
  replace p_b16 := x_.2
  clear x_
  have x_ := f_ _ _ _ _ hb18 p_b18
  replace hb18 := x_.1
  replace p_b18 := x_.2
  clear x_
  have x_ := f_.sl qo q_qo
  replace qo := x_.1
  replace q_qo := x_.2
  clear x_
  have x_ := f_.sl qb q_qb
  replace qb := x_.1
  replace q_qb := x_.2
  clear x_
  clear hT
  have hT := hT_
  replace bel := bel.trans bb
  clear bb f_ hT_
  have v_ro_b16 := fro.av lt_b16
  have v_ro_b18 := fro.av lt_b18
  have v_rb_b16 := frb.av lt_b16
  have v_rb_b18 := frb.av lt_b18
  clear lt_b16 lt_b18
  clear fro frb
  refine hK.out _ _ hb16 (fun hH53 => ?_)
  clear hK K
  refine wpAnyH_take (i := 4) (v := ?_) rfl (by kernel_rfl) (by kernel_rfl) (by kernel_rfl) (fun _ _ _ h => h) (Or.inl ⟨by rfl, ?_⟩) hH53 ?_
  rotate_left
  ·((intro W hW; clear hW; go_simp) <;> with_reducible rfl)
  simp only [sq3, sq4]
  refine wpAnyH_take (i := 5) (v := ?_) rfl (by kernel_rfl) (by kernel_rfl) (by kernel_rfl) (fun _ _ _ h => h) (Or.inl ⟨by rfl, ?_⟩) hH53 ?_
  rotate_left
  ·((intro W hW; clear hW; go_simp) <;> with_reducible rfl)
  simp only [sq3, sq4]
  refine wpAnyH_take (i := 6) (v := ?_) rfl (by kernel_rfl) (by kernel_rfl) (by kernel_rfl) (fun _ _ _ h => h) (Or.inl ⟨by rfl, ?_⟩) hH53 ?_
  rotate_left
  ·((intro W hW; clear hW; go_simp) <;> with_reducible rfl)
  simp only [sq3, sq4]
  refine wpAnyH_ready (rs := [8]) (by kernel_rfl) (by simp) ?_
  refine AllReadyH.cons (o := _) rfl (fun K hK => ?_) AllReadyH.nil
  simp only [sq3]
  rw [if_pos (by rfl)]
  refine wp_store_blk 38 (.tmp 18) (.tmp 99) rfl g18 rfl _ rfl _ 38 hb18 (by rfl) (by kernel_rfl) (by kernel_rfl) ?_
  intro w54 hq gr
  replace qo := qo.away v_qo_b18 gr
  replace qb := qb.away v_qb_b18 gr
  replace ro := ro.away v_ro_b18 gr
  replace rb := rb.away v_rb_b18 gr
  replace hb16 := blk_a hb16 gr d_b16_b18
  replace hT := hT.away p_b18 gr hb18
  replace q_qo := q_qo.grown p_b18 gr
  replace q_qb := q_qb.grown p_b18 gr
  replace p_b16 := p_b16.grown p_b18 gr
  replace p_b18 := p_b18.grown p_b18 gr
  replace q_ro := q_ro.grown p_b18 gr
  replace q_rb := q_rb.grown p_b18 gr
  replace bel := below_grown bel gr ob18 bel.size
  clear hb18
  have hb18 := hq
  clear hq gr
  refine hK.out _ _ hb16 (fun hH55 => ?_)
  clear hK K
  simp only [Act.put]
  refine wpAnyH_take (i := 9) (v := ?_) rfl (by kernel_rfl) (by kernel_rfl) (by kernel_rfl) (fun _ _ _ h => h) (Or.inl ⟨by rfl, ?_⟩) hH55 ?_
  rotate_left
  ·((intro W hW; clear hW; go_simp) <;> with_reducible rfl)
  simp only [sq3, sq4]
  refine wpAnyH_done (by kernel_rfl) ?_ _
  go_wp2_with fail
  go_meet
  case rel => exact ⟨g18, Aro, cro, Arb, crb, rfl, rfl, hb16, hb18, ob18, d_b16_b18, qo, v_qo_b16, v_qo_b18, qb, v_qb_b16, v_qb_b18, ro, v_ro_b16, v_ro_b18, rb, v_rb_b16, v_rb_b18, hT, q_qo, q_qb, p_b16, q_ro, q_rb, p_b18, bel⟩
 obtain ⟨w56, hw_⟩ : ∃ x, x = wc := ⟨_, rfl⟩
 subst hw_
 obtain ⟨g18, Aro, cro, Arb, crb, rfl, rfl, hb16, hb18, ob18, d_b16_b18, qo, v_qo_b16, v_qo_b18, qb, v_qb_b16, v_qb_b18, ro, v_ro_b16, v_ro_b18, rb, v_rb_b16, v_rb_b18, hT, q_qo, q_qb, p_b16, q_ro, q_rb, p_b18, bel⟩ := hcut
 clear q_qo
 clear qo
 clear q_qb
 clear qb
 clear p_b16
 clear hb16
 try clear v_qo_b16
 try clear v_qo_b18
 try clear fqo
 try clear v_qb_b16
 try clear v_qb_b18
 try clear fqb
 try clear v_ro_b16
 try clear v_rb_b16
 try clear d_b16_b18
 try clear ob16
 have R102 := Lib.hid (range_lit hb18 0 16 [.int .i64 0, .int .i64 0, .int .i64 0, .int .i64 0, .int .i64 64, .int .i64 1, .int .u8 203, .int .u8 0, .int .u8 113, .int .u8 7, .int .u8 8, .int .u8 8, .int .u8 8, .int .u8 8, .slice Aro 0 cro, .slice Arb 8 crb] rfl)
 go_wp2_with (first | ((with_reducible show wpList _ _ _ (⟨some 102, _, _, _, _, _⟩ :: _) _ _); refine wpList_load_rng 38 (.tmp 18) rfl (by kernel_rfl) _ _ rfl _ R102.out _ Tryz.underlying38 rfl (by kernel_rfl) ?_))
 try clear R102
 with_reducible refine (k_g1 _ rb).mono ?_
 rintro e w57 ⟨Agm, cgm, rfl, gm, fgm, b57⟩
 have v_gm_b18 := fgm.av (hlt hb18)
 have q_gm := hT.an fgm
 replace hb18 := blk_u hb18 b57
 replace ro := ro.below b57
 replace rb := rb.below b57
 replace hT := hT.below b57
 replace q_ro := q_ro.below b57
 replace q_rb := q_rb.below b57
 replace p_b18 := p_b18.below b57
 replace q_gm := q_gm.below b57
 replace bel := bel.trans (b57.mono bel.size)
 clear b57
 replace gm : Sl w57 (Agm) (0) (cgm) ([]) := gm
 go_wp2_with (first | ((with_reducible show wpList _ _ _ (⟨some 20, _, _, _, _, _⟩ :: _) _ _); refine wpList_new_a rfl 47 rfl #[.int .i64 0, .int .i64 0, .int .u32 0, .slice none 0 0] (by kernel_rfl) ?_; intro g20 w58 ge hh bb; have p_b20 := hT.ap ge; have d_b18_b20 := ne_new (hlt hb18) ge; have v_ro_b20 := ro.av_new ge; have v_rb_b20 := rb.av_new ge; have v_gm_b20 := gm.av_new ge; have ob20 := Nat.le_trans bel.size ge; replace hb18 := blk_u hb18 bb; replace ro := ro.below bb; replace rb := rb.below bb; replace gm := gm.below bb; replace hT := hT.below bb; replace q_ro := q_ro.below bb; replace q_rb := q_rb.below bb; replace p_b18 := p_b18.below bb; replace q_gm := q_gm.below bb; replace p_b20 := p_b20.below bb; replace bel := bel.trans (bb.mono bel.size); have hb20 := hh; clear hh ge bb) | ((with_reducible show wpList _ _ _ (⟨none, Op.store _ (.tmp 20) _, _, _, _, _⟩ :: _) _ _); refine wpList_store_blk rfl 47 (.tmp 20) (.tmp 104) rfl g20 rfl _ rfl _ 47 hb20 (by rfl) (by kernel_rfl) (by kernel_rfl) ?_; intro w59 hq gr; replace ro := ro.away v_ro_b20 gr; replace rb := rb.away v_rb_b20 gr; replace gm := gm.away v_gm_b20 gr; replace hb18 := blk_a hb18 gr d_b18_b20; replace hT := hT.away p_b20 gr hb20; replace q_ro := q_ro.grown p_b20 gr; replace q_rb := q_rb.grown p_b20 gr; replace p_b18 := p_b18.grown p_b20 gr; replace q_gm := q_gm.grown p_b20 gr; replace p_b20 := p_b20.grown p_b20 gr; replace bel := below_grown bel gr ob20 bel.size; clear hb20; have hb20 := hq; clear hq gr; clear q_gm; clear gm; try clear v_gm_b18; try clear v_gm_b20; try clear fgm; have R107 := Lib.hid (range_lit hb18 0 16 [.int .i64 0, .int .i64 0, .int .i64 0, .int .i64 0, .int .i64 64, .int .i64 1, .int .u8 203, .int .u8 0, .int .u8 113, .int .u8 7, .int .u8 8, .int .u8 8, .int .u8 8, .int .u8 8, .slice Aro 0 cro, .slice Arb 8 crb] rfl)) | ((with_reducible show wpList _ _ _ (⟨some 107, _, _, _, _, _⟩ :: _) _ _); refine wpList_load_rng 38 (.tmp 18) rfl (by kernel_rfl) _ _ rfl _ R107.out _ Tryz.underlying38 rfl (by kernel_rfl) ?_))
 try clear R107
 with_reducible refine (k_ip _ ro rb).mono ?_
 rintro e w60 ⟨Akb, ckb, rfl, kb, fkb, b60⟩
 have v_kb_b18 := fkb.av (hlt hb18)
 have v_kb_b20 := fkb.av (hlt hb20)
 have q_kb := hT.an fkb
 replace hb18 := blk_u hb18 b60
 replace hb20 := blk_u hb20 b60
 replace ro := ro.below b60
 replace rb := rb.below b60
 replace hT := hT.below b60
 replace q_ro := q_ro.below b60
 replace q_rb := q_rb.below b60
 replace p_b18 := p_b18.below b60
 replace p_b20 := p_b20.below b60
 replace q_kb := q_kb.below b60
 replace bel := bel.trans (b60.mono bel.size)
 clear b60
 replace kb : Sl w60 (Akb) (28) (ckb) (kB) := kb
 clear q_ro
 clear ro
 clear q_rb
 clear rb
 clear p_b18
 clear hb18
 try clear v_ro_b18
 try clear v_ro_b20
 try clear v_rb_b18
 try clear v_rb_b20
 try clear v_kb_b18
 try clear d_b18_b20
 try clear ob18
 go_wp2_with fail
 with_reducible refine (far19 _).mono ?_
 rintro e w61 ⟨rfl, b61⟩
 replace hb20 := blk_u hb20 b61
 replace kb := kb.below b61
 replace hT := hT.below b61
 replace p_b20 := p_b20.below b61
 replace q_kb := q_kb.below b61
 replace bel := bel.trans (b61.mono bel.size)
 clear b61
 go_wp2_with fail
 with_reducible refine (k_ab _ kb).mono ?_
 rintro e w62 ⟨Aao, cao, Aab, cab, rfl, ao, ab, fao, fab, b62⟩
 have v_ao_b20 := fao.av (hlt hb20)
 have v_ab_b20 := fab.av (hlt hb20)
 have q_ao := hT.an fao
 have q_ab := hT.an fab
 replace hb20 := blk_u hb20 b62
 replace kb := kb.below b62
 replace hT := hT.below b62
 replace p_b20 := p_b20.below b62
 replace q_kb := q_kb.below b62
 replace q_ao := q_ao.below b62
 replace q_ab := q_ab.below b62
 replace bel := bel.trans (b62.mono bel.size)
 clear b62
 replace ao : Sl w62 (Aao) (0) (cao) ([]) := ao
 replace ab : Sl w62 (Aab) (36) (cab) (icBytes 11 0 0 kB) := ab
 go_wp2_with (first | ((with_reducible show wpList _ _ _ (⟨some 24, _, _, _, _, _⟩ :: _) _ _); refine wpList_new_a rfl 38 rfl #[.int .i64 0, .int .i64 0, .int .i64 0, .int .i64 0, .int .i64 0, .int .i64 0, .int .u8 0, .int .u8 0, .int .u8 0, .int .u8 0, .int .u8 0, .int .u8 0, .int .u8 0, .int .u8 0, .slice none 0 0, .slice none 0 0] (by kernel_rfl) ?_; intro g24 w63 ge hh bb; have p_b24 := hT.ap ge; have d_b20_b24 := ne_new (hlt hb20) ge; have v_kb_b24 := kb.av_new ge; have v_ao_b24 := ao.av_new ge; have v_ab_b24 := ab.av_new ge; have ob24 := Nat.le_trans bel.size ge; replace hb20 := blk_u hb20 bb; replace kb := kb.below bb; replace ao := ao.below bb; replace ab := ab.below bb; replace hT := hT.below bb; replace p_b20 := p_b20.below bb; replace q_kb := q_kb.below bb; replace q_ao := q_ao.below bb; replace q_ab := q_ab.below bb; replace p_b24 := p_b24.below bb; replace bel := bel.trans (bb.mono bel.size); have hb24 := hh; clear hh ge bb) | ((with_reducible show wpList _ _ _ (⟨none, Op.store _ (.tmp 24) _, _, _, _, _⟩ :: _) _ _); refine wpList_store_blk rfl 38 (.tmp 24) (.tmp 115) rfl g24 rfl _ rfl _ 38 hb24 (by rfl) (by kernel_rfl) (by kernel_rfl) ?_; intro w64 hq gr; replace kb := kb.away v_kb_b24 gr; replace ao := ao.away v_ao_b24 gr; replace ab := ab.away v_ab_b24 gr; replace hb20 := blk_a hb20 gr d_b20_b24; replace hT := hT.away p_b24 gr hb24; replace p_b20 := p_b20.grown p_b24 gr; replace q_kb := q_kb.grown p_b24 gr; replace q_ao := q_ao.grown p_b24 gr; replace q_ab := q_ab.grown p_b24 gr; replace p_b24 := p_b24.grown p_b24 gr; replace bel := below_grown bel gr ob24 bel.size; clear hb24; have hb24 := hq; clear hq gr; clear q_kb; clear kb; try clear v_kb_b20; try clear v_kb_b24; try clear fkb))
 go_cut [26, 27] from 9999 (fun s26 s27 W => ∃ g26 : Nat, ∃ Ayo : Option Addr, ∃ cyo : Nat, ∃ Ayb : Option Addr, ∃ cyb : Nat, s26 = .pointer (some ⟨g26, 0, none⟩) ∧ s27 = .int .i64 0 ∧ W.heap[g20]? = some (.cells #[.int .i64 8, .int .i64 0, .int .u32 2621440003, .slice Agm 0 cgm] 47 (0, 0)) ∧ W.heap[g24]? = some (.cells #[.int .i64 0, .int .i64 0, .int .i64 0, .int .i64 0, .int .i64 64, .int .i64 1, .int .u8 8, .int .u8 8, .int .u8 8, .int .u8 8, .int .u8 203, .int .u8 0, .int .u8 113, .int .u8 7, .slice Aao 0 cao, .slice Aab 36 cab] 38 (0, 0)) ∧ W.heap[g26]? = some (.cells #[.int .i64 0, .int .i64 0, .int .i64 0, .int .i64 0, .int .i64 64, .int .i64 1, .int .u8 8, .int .u8 8, .int .u8 8, .int .u8 8, .int .u8 10, .int .u8 0, .int .u8 0, .int .u8 ((byteOf 5).toNat : Int), .slice Ayo 0 cyo, .slice Ayb 36 cyb] 38 (0, 0)) ∧ w.heap.size ≤ g26 ∧ Hid (g20 ≠ g24) ∧ Hid (g20 ≠ g26) ∧ Hid (g24 ≠ g26) ∧ Sl W (Aao) (0) (cao) ([]) ∧ Av (Aao) (0) g20 ∧ Av (Aao) (0) g24 ∧ Av (Aao) (0) g26 ∧ Sl W (Aab) (36) (cab) (icBytes 11 0 0 kB) ∧ Av (Aab) (36) g20 ∧ Av (Aab) (36) g24 ∧ Av (Aab) (36) g26 ∧ Sl W (Ayo) (0) (cyo) ([]) ∧ Av (Ayo) (0) g20 ∧ Av (Ayo) (0) g24 ∧ Av (Ayo) (0) g26 ∧ Sl W (Ayb) (36) (cyb) (icBytes 11 0 0 kW) ∧ Av (Ayb) (36) g20 ∧ Av (Ayb) (36) g24 ∧ Av (Ayb) (36) g26 ∧ Np w.heap.size gn gt gk W (qS 1) nK0 ∧ Anp gn gt gk W g20 ∧ An gn gt gk W (Aao) (0) ∧ An gn gt gk W (Aab) (36) ∧ Anp gn gt gk W g24 ∧ An gn gt gk W (Ayo) (0) ∧ An gn gt gk W (Ayb) (36) ∧ Anp gn gt gk W g26 ∧ Below w.heap.size w W)
 case first =>
  replace bel := bel.drew
  replace hb20 : w64.drew.heap[g20]? = _ := hb20
  replace hb24 : w64.drew.heap[g24]? = _ := hb24
  replace ao := ao.drew
  replace ab := ab.drew
  replace hT := np_drew hT
  replace p_b20 := anp_drew p_b20
  replace q_ao := an_drew q_ao
  replace q_ab := an_drew q_ab
  replace p_b24 := anp_drew p_b24
  refine wp_region_held_drew (S := fun W => W.heap[g24]? = some (.cells #[.int .i64 0, .int .i64 0, .int .i64 0, .int .i64 0, .int .i64 64, .int .i64 1, .int .u8 8, .int .u8 8, .int .u8 8, .int .u8 8, .int .u8 203, .int .u8 0, .int .u8 113, .int .u8 7, .slice Aao 0 cao, .slice Aab 36 cab] 38 (0, 0))) (by kernel_rfl) hb24 (fun hH => ?_)
  generalize w64.drew = w65 at bel hb20 hb24 ao ab hT p_b20 q_ao q_ab p_b24 hH ⊢
  refine wpAnyH_take (i := 0) (v := ?_) rfl (by kernel_rfl) (by kernel_rfl) (by kernel_rfl) (fun _ _ _ h => h) (Or.inl ⟨by rfl, ?_⟩) hH ?_
  rotate_left
  ·((intro W hW; clear hW; go_simp) <;> with_reducible rfl)
  simp only [Act.put, List.getElem_toArray, List.getElem_cons_zero, List.setIfInBounds_toArray, List.set_cons_zero, List.set_cons_succ]
  refine wpAnyH_take (i := 1) (v := .agg #[.int .i64 0, .int .i64 0, .int .i64 0, .int .i64 0, .int .i64 64, .int .i64 1, .int .u8 8, .int .u8 8, .int .u8 8, .int .u8 8, .int .u8 203, .int .u8 0, .int .u8 113, .int .u8 7, .slice Aao 0 cao, .slice Aab 36 cab]) rfl (by kernel_rfl) (by kernel_rfl) (by kernel_rfl) (fun _ _ _ h => h) (yieldsIf_load_part (by kernel_rfl) 38 _ rfl g24 0 16 rfl _ 38 (0, 0) (fun W hW => hW) _ rfl _ Tryz.underlying38 rfl (by kernel_rfl)) hH ?_
  simp only [sq3, sq4]
  refine wpAnyH_ready (rs := [2, 7]) (by kernel_rfl) (by simp) ?_
  refine AllReadyH.cons (o := _) rfl (fun K hK => ?_) (AllReadyH.cons (o := _) rfl (fun K hK => ?_) AllReadyH.nil)
  rotate_left
  ·simp only [sq3]
   rw [if_pos (by rfl)]
   refine wp_new_a 38 rfl #[.int .i64 0, .int .i64 0, .int .i64 0, .int .i64 0, .int .i64 0, .int .i64 0, .int .u8 0, .int .u8 0, .int .u8 0, .int .u8 0, .int .u8 0, .int .u8 0, .int .u8 0, .int .u8 0, .slice none 0 0, .slice none 0 0] (by kernel_rfl) ?_
   intro g26 w66 ge hh bb
   have p_b26 := hT.ap ge
   have d_b20_b26 := ne_new (hlt hb20) ge
   have d_b24_b26 := ne_new (hlt hb24) ge
   have v_ao_b26 := ao.av_new ge
   have v_ab_b26 := ab.av_new ge
   have ob26 := Nat.le_trans bel.size ge
   replace hb20 := blk_u hb20 bb
   replace hb24 := blk_u hb24 bb
   replace ao := ao.below bb
   replace ab := ab.below bb
   replace hT := hT.below bb
   replace p_b20 := p_b20.below bb
   replace q_ao := q_ao.below bb
   replace q_ab := q_ab.below bb
   replace p_b24 := p_b24.below bb
   replace p_b26 := p_b26.below bb
   replace bel := bel.trans (bb.mono bel.size)
   have hb26 := hh
   clear hh ge bb
   refine hK.out _ _ hb24 (fun hH67 => ?_)
   clear hK K
   simp only [sq4]
   refine wpAnyH_ready (rs := [2]) (by kernel_rfl) (by simp) ?_
   refine AllReadyH.cons (o := _) rfl (fun K hK => ?_) AllReadyH.nil
   simp only [sq3]
   go_simp
   with_reducible refine (wan19 _).mono ?_
   rintro e w68 ⟨rfl, b68⟩
   dsimp only
   replace hb20 := blk_u hb20 b68
   replace hb24 := blk_u hb24 b68
   replace hb26 := blk_u hb26 b68
   replace ao := ao.below b68
   replace ab := ab.below b68
   replace hT := hT.below b68
   replace p_b20 := p_b20.below b68
   replace q_ao := q_ao.below b68
   replace q_ab := q_ab.below b68
   replace p_b24 := p_b24.below b68
   replace p_b26 := p_b26.below b68
   replace bel := bel.trans (b68.mono bel.size)
   clear b68
   refine hK.out _ _ hb24 (fun hH69 => ?_)
   clear hK K
   refine wpAnyH_ready (rs := [3]) (by kernel_rfl) (by simp) ?_
   refine AllReadyH.cons (o := _) rfl (fun K hK => ?_) AllReadyH.nil
   simp only [sq3]
   go_simp
   have lt_b20 := hlt hb20
   have lt_b24 := hlt hb24
   have lt_b26 := hlt hb26
   with_reducible refine (k_if _ hT ao ab).mono ?_
   rintro e w70 ⟨Ayo, cyo, Ayb, cyb, rfl, hT_, f_, bb, yo, yb, q_yo, q_yb, fyo, fyb⟩
   dsimp only
   have x_ := f_ _ _ _ _ hb20 p_b20
   replace hb20 := x_.1
   replace p_b20 := x_.2
   clear x_
   have x_ := f_ _ _ _ _ hb24 p_b24
   replace hb24 := x_.1
   replace p_b24 := x_.2
   clear x_
   have x_ := f_ _ _ _ _ hb26 p_b26
   replace hb26 := x_.1
   replace p_b26 := x_.2
   clear x_
   have x_ := f_.sl ao q_ao
   replace ao := x_.1
   replace q_ao := x_.2
   clear x_
   have x_ := f_.sl ab q_ab
   replace ab := x_.1
   replace q_ab := x_.2
   clear x_
   clear hT
   have hT := hT_
   replace bel := bel.trans bb
   clear bb f_ hT_
   have v_yo_b20 := fyo.av lt_b20
   have v_yo_b24 := fyo.av lt_b24
   have v_yo_b26 := fyo.av lt_b26
   have v_yb_b20 := fyb.av lt_b20
   have v_yb_b24 := fyb.av lt_b24
   have v_yb_b26 := fyb.av lt_b26
   clear lt_b20 lt_b24 lt_b26
   clear fyo fyb
   refine hK.out _ _ hb24 (fun hH71 => ?_)
   clear hK K
   refine wpAnyH_take (i := 4) (v := ?_) rfl (by kernel_rfl) (by kernel_rfl) (by kernel_rfl) (fun _ _ _ h => h) (Or.inl ⟨by rfl, ?_⟩) hH71 ?_
   rotate_left
   ·((intro W hW; clear hW; go_simp) <;> with_reducible rfl)
   simp only [sq3, sq4]
   refine wpAnyH_take (i := 5) (v := ?_) rfl (by kernel_rfl) (by kernel_rfl) (by kernel_rfl) (fun _ _ _ h => h) (Or.inl ⟨by rfl, ?_⟩) hH71 ?_
   rotate_left
   ·((intro W hW; clear hW; go_simp) <;> with_reducible rfl)
   simp only [sq3, sq4]
   refine wpAnyH_take (i := 6) (v := ?_) rfl (by kernel_rfl) (by kernel_rfl) (by kernel_rfl) (fun _ _ _ h => h) (Or.inl ⟨by rfl, ?_⟩) hH71 ?_
   rotate_left
   ·((intro W hW; clear hW; go_simp) <;> with_reducible rfl)
   simp only [sq3, sq4]
   refine wpAnyH_ready (rs := [8]) (by kernel_rfl) (by simp) ?_
   refine AllReadyH.cons (o := _) rfl (fun K hK => ?_) AllReadyH.nil
   simp only [sq3]
   rw [if_pos (by rfl)]
   refine wp_store_blk 38 (.tmp 26) (.tmp 122) rfl g26 rfl _ rfl _ 38 hb26 (by rfl) (by kernel_rfl) (by kernel_rfl) ?_
   intro w72 hq gr
   replace ao := ao.away v_ao_b26 gr
   replace ab := ab.away v_ab_b26 gr
   replace yo := yo.away v_yo_b26 gr
   replace yb := yb.away v_yb_b26 gr
   replace hb20 := blk_a hb20 gr d_b20_b26
   replace hb24 := blk_a hb24 gr d_b24_b26
   replace hT := hT.away p_b26 gr hb26
   replace p_b20 := p_b20.grown p_b26 gr
   replace q_ao := q_ao.grown p_b26 gr
   replace q_ab := q_ab.grown p_b26 gr
   replace p_b24 := p_b24.grown p_b26 gr
   replace p_b26 := p_b26.grown p_b26 gr
   replace q_yo := q_yo.grown p_b26 gr
   replace q_yb := q_yb.grown p_b26 gr
   replace bel := below_grown bel gr ob26 bel.size
   clear hb26
   have hb26 := hq
   clear hq gr
   refine hK.out _ _ hb24 (fun hH73 => ?_)
   clear hK K
   simp only [Act.put]
   refine wpAnyH_take (i := 9) (v := ?_) rfl (by kernel_rfl) (by kernel_rfl) (by kernel_rfl) (fun _ _ _ h => h) (Or.inl ⟨by rfl, ?_⟩) hH73 ?_
   rotate_left
   ·((intro W hW; clear hW; go_simp) <;> with_reducible rfl)
   simp only [sq3, sq4]
   refine wpAnyH_done (by kernel_rfl) ?_ _
   go_wp2_with fail
   go_meet
   case rel => exact ⟨g26, Ayo, cyo, Ayb, cyb, rfl, rfl, hb20, hb24, hb26, ob26, d_b20_b24, d_b20_b26, d_b24_b26, ao, v_ao_b20, v_ao_b24, v_ao_b26, ab, v_ab_b20, v_ab_b24, v_ab_b26, yo, v_yo_b20, v_yo_b24, v_yo_b26, yb, v_yb_b20, v_yb_b24, v_yb_b26, hT, p_b20, q_ao, q_ab, p_b24, q_yo, q_yb, p_b26, bel⟩
  simp only [sq3]
  go_simp
  with_reducible refine (wan19 _).mono ?_
  rintro e w66 ⟨rfl, b66⟩
  dsimp only
  replace hb20 := blk_u hb20 b66
  replace hb24 := blk_u hb24 b66
  replace ao := ao.below b66
  replace ab := ab.below b66
  replace hT := hT.below b66
  replace p_b20 := p_b20.below b66
  replace q_ao := q_ao.below b66
  replace q_ab := q_ab.below b66
  replace p_b24 := p_b24.below b66
  replace bel := bel.trans (b66.mono bel.size)
  clear b66
  refine hK.out _ _ hb24 (fun hH67 => ?_)
  clear hK K
  refine wpAnyH_ready (rs := [3, 7]) (by kernel_rfl) (by simp) ?_
  refine AllReadyH.cons (o := _) rfl (fun K hK => ?_) (AllReadyH.cons (o := _) rfl (fun K hK => ?_) AllReadyH.nil)
  ·simp only [sq3]
   go_simp
   have lt_b20 := hlt hb20
   have lt_b24 := hlt hb24
   with_reducible refine (k_if _ hT ao ab).mono ?_
   rintro e w68 ⟨Ayo, cyo, Ayb, cyb, rfl, hT_, f_, bb, yo, yb, q_yo, q_yb, fyo, fyb⟩
   dsimp only
   have x_ := f_ _ _ _ _ hb20 p_b20
   replace hb20 := x_.1
   replace p_b20 := x_.2
   clear x_
   have x_ := f_ _ _ _ _ hb24 p_b24
   replace hb24 := x_.1
   replace p_b24 := x_.2
   clear x_
   have x_ := f_.sl ao q_ao
   replace ao := x_.1
   replace q_ao := x_.2
   clear x_
   have x_ := f_.sl ab q_ab
   replace ab := x_.1
   replace q_ab := x_.2
   clear x_
   clear hT
   have hT := hT_
   replace bel := bel.trans bb
   clear bb f_ hT_
   have v_yo_b20 := fyo.av lt_b20
   have v_yo_b24 := fyo.av lt_b24
   have v_yb_b20 := fyb.av lt_b20
   have v_yb_b24 := fyb.av lt_b24
   clear lt_b20 lt_b24
   clear fyo fyb
   refine hK.out _ _ hb24 (fun hH69 => ?_)
   clear hK K
   refine wpAnyH_take (i := 4) (v := ?_) rfl (by kernel_rfl) (by kernel_rfl) (by kernel_rfl) (fun _ _ _ h => h) (Or.inl ⟨by rfl, ?_⟩) hH69 ?_
   rotate_left
   ·((intro W hW; clear hW; go_simp) <;> with_reducible rfl)
   simp only [sq3, sq4]
   refine wpAnyH_take (i := 5) (v := ?_) rfl (by kernel_rfl) (by kernel_rfl) (by kernel_rfl) (fun _ _ _ h => h) (Or.inl ⟨by rfl, ?_⟩) hH69 ?_
   rotate_left
   ·((intro W hW; clear hW; go_simp) <;> with_reducible rfl)
   simp only [sq3, sq4]
   refine wpAnyH_take (i := 6) (v := ?_) rfl (by kernel_rfl) (by kernel_rfl) (by kernel_rfl) (fun _ _ _ h => h) (Or.inl ⟨by rfl, ?_⟩) hH69 ?_
   rotate_left
   ·((intro W hW; clear hW; go_simp) <;> with_reducible rfl)
   simp only [sq3, sq4]
   refine wpAnyH_ready (rs := [7]) (by kernel_rfl) (by simp) ?_
   refine AllReadyH.cons (o := _) rfl (fun K hK => ?_) AllReadyH.nil
   simp only [sq3]
   rw [if_pos (by rfl)]
   refine wp_new_a 38 rfl #[.int .i64 0, .int .i64 0, .int .i64 0, .int .i64 0, .int .i64 0, .int .i64 0, .int .u8 0, .int .u8 0, .int .u8 0, .int .u8 0, .int .u8 0, .int .u8 0, .int .u8 0, .int .u8 0, .slice none 0 0, .slice none 0 0] (by kernel_rfl) ?_
   intro g26 w70 ge hh bb
   have p_b26 := hT.ap ge
   have d_b20_b26 := ne_new (hlt hb20) ge
   have d_b24_b26 := ne_new (hlt hb24) ge
   have v_ao_b26 := ao.av_new ge
   have v_ab_b26 := ab.av_new ge
   have v_yo_b26 := yo.av_new ge
   have v_yb_b26 := yb.av_new ge
   have ob26 := Nat.le_trans bel.size ge
   replace hb20 := blk_u hb20 bb
   replace hb24 := blk_u hb24 bb
   replace ao := ao.below bb
   replace ab := ab.below bb
   replace yo := yo.below bb
   replace yb := yb.below bb
   replace hT := hT.below bb
   replace p_b20 := p_b20.below bb
   replace q_ao := q_ao.below bb
   replace q_ab := q_ab.below bb
   replace p_b24 := p_b24.below bb
   replace q_yo := q_yo.below bb
   replace q_yb := q_yb.below bb
   replace p_b26 := p_b26.below bb
   replace bel := bel.trans (bb.mono bel.size)
   have hb26 := hh
   clear hh ge bb
   refine hK.out _ _ hb24 (fun hH71 => ?_)
   clear hK K
   simp only [sq4]
   refine wpAnyH_ready (rs := [8]) (by kernel_rfl) (by simp) ?_
   refine AllReadyH.cons (o := _) rfl (fun K hK => ?_) AllReadyH.nil
   simp only [sq3]
   rw [if_pos (by rfl)]
   refine wp_store_blk 38 (.tmp 26) (.tmp 122) rfl g26 rfl _ rfl _ 38 hb26 (by rfl) (by kernel_rfl) (by kernel_rfl) ?_
   intro w72 hq gr
   replace ao := ao.away v_ao_b26 gr
   replace ab := ab.away v_ab_b26 gr
   replace yo := yo.away v_yo_b26 gr
   replace yb := yb.away v_yb_b26 gr
   replace hb20 := blk_a hb20 gr d_b20_b26
   replace hb24 := blk_a hb24 gr d_b24_b26
   replace hT := hT.away p_b26 gr hb26
   replace p_b20 := p_b20.grown p_b26 gr
   replace q_ao := q_ao.grown p_b26 gr
   replace q_ab := q_ab.grown p_b26 gr
   replace p_b24 := p_b24.grown p_b26 gr
   replace q_yo := q_yo.grown p_b26 gr
   replace q_yb := q_yb.grown p_b26 gr
   replace p_b26 := p_b26.grown p_b26 gr
   replace bel := below_grown bel gr ob26 bel.size
   clear hb26
   have hb26 := hq
   clear hq gr
   refine hK.out _ _ hb24 (fun hH73 => ?_)
   clear hK K
   simp only [Act.put]
   refine wpAnyH_take (i := 9) (v := ?_) rfl (by kernel_rfl) (by kernel_rfl) (by kernel_rfl) (fun _ _ _ h => h) (Or.inl ⟨by rfl, ?_⟩) hH73 ?_
   rotate_left
   ·((intro W hW; clear hW; go_simp) <;> with_reducible rfl)
   simp only [sq3, sq4]
   refine wpAnyH_done (by kernel_rfl) ?_ _
   go_wp2_with fail
   go_meet
   case rel => exact ⟨g26, Ayo, cyo, Ayb, cyb, rfl, rfl, hb20, hb24, hb26, ob26, d_b20_b24, d_b20_b26, d_b24_b26, ao, v_ao_b20, v_ao_b24, v_ao_b26, ab, v_ab_b20, v_ab_b24, v_ab_b26, yo, v_yo_b20, v_yo_b24, v_yo_b26, yb, v_yb_b20, v_yb_b24, v_yb_b26, hT, p_b20, q_ao, q_ab, p_b24, q_yo, q_yb, p_b26, bel⟩
  simp only [sq3]
  rw [if_pos (by rfl)]
  refine wp_new_a 38 rfl #[.int .i64 0, .int .i64 0, .int .i64 0, .int .i64 0, .int .i64 0, .int .i64 0, .int .u8 0, .int .u8 0, .int .u8 0, .int .u8 0, .int .u8 0, .int .u8 0, .int .u8 0, .int .u8 0, .slice none 0 0, .slice none 0 0] (by kernel_rfl) ?_
  intro g26 w68 ge hh bb
  have p_b26 := hT.ap ge
  have d_b20_b26 := ne_new (hlt hb20) ge
  have d_b24_b26 := ne_new (hlt hb24) ge
  have v_ao_b26 := ao.av_new ge
  have v_ab_b26 := ab.av_new ge
  have ob26 := Nat.le_trans bel.size ge
  replace hb20 := blk_u hb20 bb
  replace hb24 := blk_u hb24 bb
  replace ao := ao.below bb
  replace ab := ab.below bb
  replace hT := hT.below bb
  replace p_b20 := p_b20.below bb
  replace q_ao := q_ao.below bb
  replace q_ab := q_ab.below bb
  replace p_b24 := p_b24.below bb
  replace p_b26 := p_b26.below bb
  replace bel := bel.trans (bb.mono bel.size)
  have hb26 := hh
  clear hh ge bb
  refine hK.out _ _ hb24 (fun hH69 => ?_)
  clear hK K
  simp only [sq4]
  refine wpAnyH_ready (rs := [3]) (by kernel_rfl) (by simp) ?_
  refine AllReadyH.cons (o := _) rfl (fun K hK => ?_) AllReadyH.nil
  simp only [sq3]
  go_simp
  have lt_b20 := hlt hb20
  have lt_b24 := hlt hb24
  have lt_b26 := hlt hb26
  with_reducible refine (k_if _ hT ao ab).mono ?_
  rintro e w70 ⟨Ayo, cyo, Ayb, cyb, rfl, hT_, f_, bb, yo, yb, q_yo, q_yb, fyo, fyb⟩
  dsimp only
  have x_ := f_ _ _ _ _ hb20 p_b20
  replace hb20 := x_.1
  replace p_b20 := x_.2
  clear x_
  have x_ := f_ _ _ _ _ hb24 p_b24
  replace hb24 := x_.1
  replace p_b24 := x_.2
  clear x_
  have x_ := f_ _ _ _ _ hb26 p_b26
  replace hb26 := x_.1
  replace p_b26 := x_.2
  clear x_
  have x_ := f_.sl ao q_ao
  replace ao := x_.1
  replace q_ao := x_.2
  clear x_
  have x_ := f_.sl ab q_ab
  replace ab := x_.1
  replace q_ab := x_.2
  clear x_
  clear hT
  have hT := hT_
  replace bel := bel.trans bb
  clear bb f_ hT_
  have v_yo_b20 := fyo.av lt_b20
  have v_yo_b24 := fyo.av lt_b24
  have v_yo_b26 := fyo.av lt_b26
  have v_yb_b20 := fyb.av lt_b20
  have v_yb_b24 := fyb.av lt_b24
  have v_yb_b26 := fyb.av lt_b26
  clear lt_b20 lt_b24 lt_b26
  clear fyo fyb
  refine hK.out _ _ hb24 (fun hH71 => ?_)
  clear hK K
  refine wpAnyH_take (i := 4) (v := ?_) rfl (by kernel_rfl) (by kernel_rfl) (by kernel_rfl) (fun _ _ _ h => h) (Or.inl ⟨by rfl, ?_⟩) hH71 ?_
  rotate_left
  ·((intro W hW; clear hW; go_simp) <;> with_reducible rfl)
  simp only [sq3, sq4]
  refine wpAnyH_take (i := 5) (v := ?_) rfl (by kernel_rfl) (by kernel_rfl) (by kernel_rfl) (fun _ _ _ h => h) (Or.inl ⟨by rfl, ?_⟩) hH71 ?_
  rotate_left
  ·((intro W hW; clear hW; go_simp) <;> with_reducible rfl)
  simp only [sq3, sq4]
  refine wpAnyH_take (i := 6) (v := ?_) rfl (by kernel_rfl) (by kernel_rfl) (by kernel_rfl) (fun _ _ _ h => h) (Or.inl ⟨by rfl, ?_⟩) hH71 ?_
  rotate_left
  ·((intro W hW; clear hW; go_simp) <;> with_reducible rfl)
  simp only [sq3, sq4]
  refine wpAnyH_ready (rs := [8]) (by kernel_rfl) (by simp) ?_
  refine AllReadyH.cons (o := _) rfl (fun K hK => ?_) AllReadyH.nil
  simp only [sq3]
  rw [if_pos (by rfl)]
  refine wp_store_blk 38 (.tmp 26) (.tmp 122) rfl g26 rfl _ rfl _ 38 hb26 (by rfl) (by kernel_rfl) (by kernel_rfl) ?_
  intro w72 hq gr
  replace ao := ao.away v_ao_b26 gr
  replace ab := ab.away v_ab_b26 gr
  replace yo := yo.away v_yo_b26 gr
  replace yb := yb.away v_yb_b26 gr
  replace hb20 := blk_a hb20 gr d_b20_b26
  replace hb24 := blk_a hb24 gr d_b24_b26
  replace hT := hT.away p_b26 gr hb26
  replace p_b20 := p_b20.grown p_b26 gr
  replace q_ao := q_ao.grown p_b26 gr
  replace q_ab := q_ab.grown p_b26 gr
  replace p_b24 := p_b24.grown p_b26 gr
  replace p_b26 := p_b26.grown p_b26 gr
  replace q_yo := q_yo.grown p_b26 gr
  replace q_yb := q_yb.grown p_b26 gr
  replace bel := below_grown bel gr ob26 bel.size
  clear hb26
  have hb26 := hq
  clear hq gr
  refine hK.out _ _ hb24 (fun hH73 => ?_)
  clear hK K
  simp only [Act.put]
  refine wpAnyH_take (i := 9) (v := ?_) rfl (by kernel_rfl) (by kernel_rfl) (by kernel_rfl) (fun _ _ _ h => h) (Or.inl ⟨by rfl, ?_⟩) hH73 ?_
  rotate_left
  ·((intro W hW; clear hW; go_simp) <;> with_reducible rfl)
  simp only [sq3, sq4]
  refine wpAnyH_done (by kernel_rfl) ?_ _
  go_wp2_with fail
  go_meet
  case rel => exact ⟨g26, Ayo, cyo, Ayb, cyb, rfl, rfl, hb20, hb24, hb26, ob26, d_b20_b24, d_b20_b26, d_b24_b26, ao, v_ao_b20, v_ao_b24, v_ao_b26, ab, v_ab_b20, v_ab_b24, v_ab_b26, yo, v_yo_b20, v_yo_b24, v_yo_b26, yb, v_yb_b20, v_yb_b24, v_yb_b26, hT, p_b20, q_ao, q_ab, p_b24, q_yo, q_yb, p_b26, bel⟩
 obtain ⟨w74, hw_⟩ : ∃ x, x = wc := ⟨_, rfl⟩
 subst hw_
 obtain ⟨g26, Ayo, cyo, Ayb, cyb, rfl, rfl, hb20, hb24, hb26, ob26, d_b20_b24, d_b20_b26, d_b24_b26, ao, v_ao_b20, v_ao_b24, v_ao_b26, ab, v_ab_b20, v_ab_b24, v_ab_b26, yo, v_yo_b20, v_yo_b24, v_yo_b26, yb, v_yb_b20, v_yb_b24, v_yb_b26, hT, p_b20, q_ao, q_ab, p_b24, q_yo, q_yb, p_b26, bel⟩ := hcut
 clear q_ao
 clear ao
 clear q_ab
 clear ab
 clear p_b24
 clear hb24
 try clear v_ao_b20
 try clear v_ao_b24
 try clear v_ao_b26
 try clear fao
 try clear v_ab_b20
 try clear v_ab_b24
 try clear v_ab_b26
 try clear fab
 try clear v_yo_b24
 try clear v_yb_b24
 try clear d_b20_b24
 try clear d_b24_b26
 try clear ob24
 have R125 := Lib.hid (range_lit hb26 0 16 [.int .i64 0, .int .i64 0, .int .i64 0, .int .i64 0, .int .i64 64, .int .i64 1, .int .u8 8, .int .u8 8, .int .u8 8, .int .u8 8, .int .u8 10, .int .u8 0, .int .u8 0, .int .u8 ((byteOf 5).toNat : Int), .slice Ayo 0 cyo, .slice Ayb 36 cyb] rfl)
 go_wp2_with (first | ((with_reducible show wpList _ _ _ (⟨some 125, _, _, _, _, _⟩ :: _) _ _); refine wpList_load_rng 38 (.tmp 26) rfl (by kernel_rfl) _ _ rfl _ R125.out _ Tryz.underlying38 rfl (by kernel_rfl) ?_))
 try clear R125
 with_reducible refine (k_g2 _ yb).mono ?_
 rintro e w75 ⟨gB, oB, cgw, rfl, gw, fgw, b75⟩
 have v_gw_b20 := fgw.av (hlt hb20)
 have v_gw_b26 := fgw.av (hlt hb26)
 have q_gw := hT.an fgw
 replace hb20 := blk_u hb20 b75
 replace hb26 := blk_u hb26 b75
 replace yo := yo.below b75
 replace yb := yb.below b75
 replace hT := hT.below b75
 replace p_b20 := p_b20.below b75
 replace q_yo := q_yo.below b75
 replace q_yb := q_yb.below b75
 replace p_b26 := p_b26.below b75
 replace q_gw := q_gw.below b75
 replace bel := bel.trans (b75.mono bel.size)
 clear b75
 replace gw : Sl w75 (some ⟨gB, oB, none⟩) (28) (cgw) (kW) := gw
 go_wp2_with (first | ((with_reducible show wpList _ _ _ (⟨some 28, _, _, _, _, _⟩ :: _) _ _); refine wpList_new_a rfl 47 rfl #[.int .i64 0, .int .i64 0, .int .u32 0, .slice none 0 0] (by kernel_rfl) ?_; intro g28 w76 ge hh bb; have p_b28 := hT.ap ge; have d_b20_b28 := ne_new (hlt hb20) ge; have d_b26_b28 := ne_new (hlt hb26) ge; have v_yo_b28 := yo.av_new ge; have v_yb_b28 := yb.av_new ge; have v_gw_b28 := gw.av_new ge; have ob28 := Nat.le_trans bel.size ge; replace hb20 := blk_u hb20 bb; replace hb26 := blk_u hb26 bb; replace yo := yo.below bb; replace yb := yb.below bb; replace gw := gw.below bb; replace hT := hT.below bb; replace p_b20 := p_b20.below bb; replace q_yo := q_yo.below bb; replace q_yb := q_yb.below bb; replace p_b26 := p_b26.below bb; replace q_gw := q_gw.below bb; replace p_b28 := p_b28.below bb; replace bel := bel.trans (bb.mono bel.size); have hb28 := hh; clear hh ge bb) | ((with_reducible show wpList _ _ _ (⟨none, Op.store _ (.tmp 28) _, _, _, _, _⟩ :: _) _ _); refine wpList_store_blk rfl 47 (.tmp 28) (.tmp 127) rfl g28 rfl _ rfl _ 47 hb28 (by rfl) (by kernel_rfl) (by kernel_rfl) ?_; intro w77 hq gr; replace yo := yo.away v_yo_b28 gr; replace yb := yb.away v_yb_b28 gr; replace gw := gw.away v_gw_b28 gr; replace hb20 := blk_a hb20 gr d_b20_b28; replace hb26 := blk_a hb26 gr d_b26_b28; replace hT := hT.away p_b28 gr hb28; replace p_b20 := p_b20.grown p_b28 gr; replace q_yo := q_yo.grown p_b28 gr; replace q_yb := q_yb.grown p_b28 gr; replace p_b26 := p_b26.grown p_b28 gr; replace q_gw := q_gw.grown p_b28 gr; replace p_b28 := p_b28.grown p_b28 gr; replace bel := below_grown bel gr ob28 bel.size; clear hb28; have hb28 := hq; clear hq gr; clear q_yo; clear yo; clear q_yb; clear yb; try clear v_yo_b20; try clear v_yo_b26; try clear v_yo_b28; try clear v_yb_b20; try clear v_yb_b26; try clear v_yb_b28))
 with_reducible refine (at19 5 _).mono ?_
 rintro e w78 ⟨rfl, b78⟩
 replace hb20 := blk_u hb20 b78
 replace hb26 := blk_u hb26 b78
 replace hb28 := blk_u hb28 b78
 replace gw := gw.below b78
 replace hT := hT.below b78
 replace p_b20 := p_b20.below b78
 replace p_b26 := p_b26.below b78
 replace q_gw := q_gw.below b78
 replace p_b28 := p_b28.below b78
 replace bel := bel.trans (b78.mono bel.size)
 clear b78
 go_wp2_with fail
 with_reducible refine (far19 _).mono ?_
 rintro e w79 ⟨rfl, b79⟩
 replace hb20 := blk_u hb20 b79
 replace hb26 := blk_u hb26 b79
 replace hb28 := blk_u hb28 b79
 replace gw := gw.below b79
 replace hT := hT.below b79
 replace p_b20 := p_b20.below b79
 replace p_b26 := p_b26.below b79
 replace q_gw := q_gw.below b79
 replace p_b28 := p_b28.below b79
 replace bel := bel.trans (b79.mono bel.size)
 clear b79
 go_wp2_with fail
 with_reducible refine (wan19 _).mono ?_
 rintro e w80 ⟨rfl, b80⟩
 replace hb20 := blk_u hb20 b80
 replace hb26 := blk_u hb26 b80
 replace hb28 := blk_u hb28 b80
 replace gw := gw.below b80
 replace hT := hT.below b80
 replace p_b20 := p_b20.below b80
 replace p_b26 := p_b26.below b80
 replace q_gw := q_gw.below b80
 replace p_b28 := p_b28.below b80
 replace bel := bel.trans (b80.mono bel.size)
 clear b80
 go_wp2_with fail
 with_reducible refine (k_o9 _ hT).mono ?_
 rintro e w81 ⟨rfl, hT_, f_, bb⟩
 have x_ := f_ _ _ _ _ hb20 p_b20
 replace hb20 := x_.1
 replace p_b20 := x_.2
 clear x_
 have x_ := f_ _ _ _ _ hb26 p_b26
 replace hb26 := x_.1
 replace p_b26 := x_.2
 clear x_
 have x_ := f_ _ _ _ _ hb28 p_b28
 replace hb28 := x_.1
 replace p_b28 := x_.2
 clear x_
 have x_ := f_.sl gw q_gw
 replace gw := x_.1
 replace q_gw := x_.2
 clear x_
 clear hT
 have hT := hT_
 replace bel := bel.trans bb
 clear bb f_ hT_
 go_upto_region 20 with (first | ((with_reducible show wpList _ _ _ (⟨some 30, _, _, _, _, _⟩ :: _) _ _); refine wpList_new_a rfl 38 rfl #[.int .i64 0, .int .i64 0, .int .i64 0, .int .i64 0, .int .i64 0, .int .i64 0, .int .u8 0, .int .u8 0, .int .u8 0, .int .u8 0, .int .u8 0, .int .u8 0, .int .u8 0, .int .u8 0, .slice none 0 0, .slice none 0 0] (by kernel_rfl) ?_; intro g30 w82 ge hh bb; have p_b30 := hT.ap ge; have d_b20_b30 := ne_new (hlt hb20) ge; have d_b26_b30 := ne_new (hlt hb26) ge; have d_b28_b30 := ne_new (hlt hb28) ge; have v_gw_b30 := gw.av_new ge; have ob30 := Nat.le_trans bel.size ge; replace hb20 := blk_u hb20 bb; replace hb26 := blk_u hb26 bb; replace hb28 := blk_u hb28 bb; replace gw := gw.below bb; replace hT := hT.below bb; replace p_b20 := p_b20.below bb; replace p_b26 := p_b26.below bb; replace q_gw := q_gw.below bb; replace p_b28 := p_b28.below bb; replace p_b30 := p_b30.below bb; replace bel := bel.trans (bb.mono bel.size); have hb30 := hh; clear hh ge bb) | ((with_reducible show wpList _ _ _ (⟨none, Op.store _ (.tmp 30) _, _, _, _, _⟩ :: _) _ _); refine wpList_store_blk rfl 38 (.tmp 30) (.tmp 136) rfl g30 rfl _ rfl _ 38 hb30 (by rfl) (by kernel_rfl) (by kernel_rfl) ?_; intro w83 hq gr; replace gw := gw.away v_gw_b30 gr; replace hb20 := blk_a hb20 gr d_b20_b30; replace hb26 := blk_a hb26 gr d_b26_b30; replace hb28 := blk_a hb28 gr d_b28_b30; replace hT := hT.away p_b30 gr hb30; replace p_b20 := p_b20.grown p_b30 gr; replace p_b26 := p_b26.grown p_b30 gr; replace q_gw := q_gw.grown p_b30 gr; replace p_b28 := p_b28.grown p_b30 gr; replace p_b30 := p_b30.grown p_b30 gr; replace bel := below_grown bel gr ob30 bel.size; clear hb30; have hb30 := hq; clear hq gr; clear p_b30; clear hb30; try clear v_gw_b30; try clear d_b20_b30; try clear d_b26_b30; try clear d_b28_b30; try clear ob30; obtain ⟨A182, c182, r182, f182, u182⟩ := piece_mid gw (p := 12) (k := 4) (by decide); replace r182 : ∀ W, (Instr.slice 36 (.slice (some ⟨gB, oB, none⟩) 28 cgw) (some (.int .i64 12)) (some (.int .i64 16)) none).run Tryz.prog W = .ok (.slice A182 4 c182) W := r182; have sm : Sl w83 A182 4 c182 ([10, 0, 0, 5]) := (by have h_ := f182 _ gw; rw [kW_12] at h_; exact h_); have v_sm_b20 := v_gw_b20.sub u182; have v_sm_b26 := v_gw_b26.sub u182; have v_sm_b28 := v_gw_b28.sub u182; have q_sm := q_gw.sub u182; clear f182 u182))
 simp only [List.append_eq, List.cons_append, List.nil_append]
 go_wp2_with fail
 replace bel := bel.drew
 replace hb20 : w83.drew.heap[g20]? = _ := hb20
 replace hb26 : w83.drew.heap[g26]? = _ := hb26
 replace hb28 : w83.drew.heap[g28]? = _ := hb28
 replace gw := gw.drew
 replace sm := sm.drew
 replace hT := np_drew hT
 replace p_b20 := anp_drew p_b20
 replace p_b26 := anp_drew p_b26
 replace q_gw := an_drew q_gw
 replace p_b28 := anp_drew p_b28
 replace q_sm := an_drew q_sm
 refine wp_region_held_drew (S := fun W => W.heap[g20]? = some (.cells #[.int .i64 8, .int .i64 0, .int .u32 2621440003, .slice Agm 0 cgm] 47 (0, 0)) ∧ W.heap[g26]? = some (.cells #[.int .i64 0, .int .i64 0, .int .i64 0, .int .i64 0, .int .i64 64, .int .i64 1, .int .u8 8, .int .u8 8, .int .u8 8, .int .u8 8, .int .u8 10, .int .u8 0, .int .u8 0, .int .u8 ((byteOf 5).toNat : Int), .slice Ayo 0 cyo, .slice Ayb 36 cyb] 38 (0, 0)) ∧ W.heap[g28]? = some (.cells #[.int .i64 11, .int .i64 0, .int .u32 0, .slice (some ⟨gB, oB, none⟩) 28 cgw] 47 (0, 0)) ∧ Sl W (A182) (4) (c182) ([10, 0, 0, 5]) ∧ Sl W (some ⟨gB, oB, none⟩) (28) (cgw) (kW)) (by kernel_rfl) ⟨hb20, hb26, hb28, sm, gw⟩ (fun hH => ?_)
 generalize w83.drew = w84 at bel hb20 hb26 hb28 gw sm hT p_b20 p_b26 q_gw p_b28 q_sm hH ⊢
 refine wpAnyH_take (i := 0) (v := ?_) rfl (by kernel_rfl) (by kernel_rfl) (by kernel_rfl) (fun _ _ _ h => h) (Or.inl ⟨by rfl, ?_⟩) hH ?_
 rotate_left
 ·((intro W hW; clear hW; go_simp) <;> with_reducible rfl)
 simp only [Act.put, List.getElem_toArray, List.getElem_cons_zero, List.setIfInBounds_toArray, List.set_cons_zero, List.set_cons_succ]
 refine wpAnyH_take (i := 1) (v := ?_) rfl (by kernel_rfl) (by kernel_rfl) (by kernel_rfl) (fun _ _ _ h => h) (Or.inl ⟨by rfl, ?_⟩) hH ?_
 rotate_left
 ·((intro W hW; clear hW; go_simp) <;> with_reducible rfl)
 simp only [sq3, sq4]
 refine wpAnyH_take (i := 2) (v := ?_) rfl (by kernel_rfl) (by kernel_rfl) (by kernel_rfl) (fun _ _ _ h => h) (Or.inl ⟨by rfl, ?_⟩) hH ?_
 rotate_left
 ·((intro W hW; clear hW; go_simp) <;> with_reducible rfl)
 simp only [sq3, sq4]
 refine wpAnyH_take (i := 3) (v := ?_) rfl (by kernel_rfl) (by kernel_rfl) (by kernel_rfl) (fun _ _ _ h => h) (Or.inl ⟨by rfl, ?_⟩) hH ?_
 rotate_left
 ·((intro W hW; clear hW; go_simp) <;> with_reducible rfl)
 simp only [sq3, sq4]
 refine wpAnyH_take (i := 4) (v := ?_) rfl (by kernel_rfl) (by kernel_rfl) (by kernel_rfl) (fun _ _ _ h => h) (Or.inl ⟨by rfl, ?_⟩) hH ?_
 rotate_left
 ·((intro W hW; clear hW; go_simp) <;> with_reducible rfl)
 simp only [sq3, sq4]
 refine wpAnyH_take (i := 5) (v := ?_) rfl (by kernel_rfl) (by kernel_rfl) (by kernel_rfl) (fun _ _ _ h => h) (Or.inl ⟨by rfl, ?_⟩) hH ?_
 rotate_left
 ·((intro W hW; clear hW; go_simp) <;> with_reducible rfl)
 simp only [sq3, sq4]
 refine wpAnyH_take (i := 6) (v := ?_) rfl (by kernel_rfl) (by kernel_rfl) (by kernel_rfl) (fun _ _ _ h => h) (Or.inl ⟨by rfl, ?_⟩) hH ?_
 rotate_left
 ·((intro W hW; clear hW; go_simp) <;> with_reducible rfl)
 simp only [sq3, sq4]
 refine wpAnyH_take (i := 7) (v := ?_) rfl (by kernel_rfl) (by kernel_rfl) (by kernel_rfl) (fun _ _ _ h => h) (Or.inl ⟨by rfl, ?_⟩) hH ?_
 rotate_left
 ·((intro W hW; clear hW; go_simp) <;> with_reducible rfl)
 simp only [sq3, sq4]
 refine wpAnyH_take (i := 8) (v := ?_) rfl (by kernel_rfl) (by kernel_rfl) (by kernel_rfl) (fun _ _ _ h => h) (Or.inl ⟨by rfl, ?_⟩) hH ?_
 rotate_left
 ·((intro W hW; clear hW; go_simp) <;> with_reducible rfl)
 simp only [sq3, sq4]
 refine wpAnyH_take (i := 9) (v := ?_) rfl (by kernel_rfl) (by kernel_rfl) (by kernel_rfl) (fun _ _ _ h => h) (Or.inl ⟨by rfl, ?_⟩) hH ?_
 rotate_left
 ·((intro W hW; clear hW; go_simp) <;> with_reducible rfl)
 simp only [sq3, sq4]
 refine wpAnyH_take (i := 10) (v := ?_) rfl (by kernel_rfl) (by kernel_rfl) (by kernel_rfl) (fun _ _ _ h => h) (Or.inl ⟨by rfl, ?_⟩) hH ?_
 rotate_left
 ·((intro W hW; clear hW; go_simp) <;> with_reducible rfl)
 simp only [sq3, sq4]
 refine wpAnyH_take (i := 11) (v := ?_) rfl (by kernel_rfl) (by kernel_rfl) (by kernel_rfl) (fun _ _ _ h => h) (Or.inl ⟨by rfl, ?_⟩) hH ?_
 rotate_left
 ·((intro W hW; clear hW; go_simp) <;> with_reducible rfl)
 simp only [sq3, sq4]
 refine wpAnyH_take (i := 12) (v := ?_) rfl (by kernel_rfl) (by kernel_rfl) (by kernel_rfl) (fun _ _ _ h => h) (Or.inl ⟨by rfl, ?_⟩) hH ?_
 rotate_left
 ·((intro W hW; clear hW; go_simp) <;> with_reducible rfl)
 simp only [sq3, sq4]
 refine wpAnyH_take (i := 13) (v := ?_) rfl (by kernel_rfl) (by kernel_rfl) (by kernel_rfl) (fun _ _ _ h => h) (Or.inl ⟨by rfl, ?_⟩) hH ?_
 rotate_left
 ·((intro W hW; clear hW; go_simp) <;> with_reducible rfl)
 simp only [sq3, sq4]
 refine wpAnyH_take (i := 14) (v := ?_) rfl (by kernel_rfl) (by kernel_rfl) (by kernel_rfl) (fun _ _ _ h => h) (Or.inl ⟨by rfl, ?_⟩) hH ?_
 rotate_left
 ·((intro W hW; clear hW; go_simp) <;> with_reducible rfl)
 simp only [sq3, sq4]
 refine wpAnyH_take (i := 15) (v := ?_) rfl (by kernel_rfl) (by kernel_rfl) (by kernel_rfl) (fun _ _ _ h => h) (Or.inl ⟨by rfl, ?_⟩) hH ?_
 rotate_left
 ·((intro W hW; clear hW; go_simp) <;> with_reducible rfl)
 simp only [sq3, sq4]
 refine wpAnyH_take (i := 16) (v := ?_) rfl (by kernel_rfl) (by kernel_rfl) (by kernel_rfl) (fun _ _ _ h => h) (Or.inl ⟨by rfl, ?_⟩) hH ?_
 rotate_left
 ·((intro W hW; clear hW; go_simp) <;> with_reducible rfl)
 simp only [sq3, sq4]
 refine wpAnyH_take (i := 17) (v := ?_) rfl (by kernel_rfl) (by kernel_rfl) (by kernel_rfl) (fun _ _ _ h => h) (Or.inl ⟨by rfl, ?_⟩) hH ?_
 rotate_left
 ·((intro W hW; clear hW; go_simp) <;> with_reducible rfl)
 simp only [sq3, sq4]
 refine wpAnyH_take (i := 18) (v := ?_) rfl (by kernel_rfl) (by kernel_rfl) (by kernel_rfl) (fun _ _ _ h => h) (Or.inl ⟨by rfl, ?_⟩) hH ?_
 rotate_left
 ·((intro W hW; clear hW; go_simp) <;> with_reducible rfl)
 simp only [sq3, sq4]
 refine wpAnyH_take (i := 19) (v := ?_) rfl (by kernel_rfl) (by kernel_rfl) (by kernel_rfl) (fun _ _ _ h => h) (Or.inl ⟨by rfl, ?_⟩) hH ?_
 rotate_left
 ·((intro W hW; clear hW; go_simp) <;> with_reducible rfl)
 simp only [sq3, sq4]
 refine wpAnyH_take (i := 20) (v := ?_) rfl (by kernel_rfl) (by kernel_rfl) (by kernel_rfl) (fun _ _ _ h => h) (Or.inl ⟨by rfl, ?_⟩) hH ?_
 rotate_left
 ·((intro W hW; clear hW; go_simp) <;> with_reducible rfl)
 simp only [sq3, sq4]
 refine wpAnyH_take (i := 21) (v := ?_) rfl (by kernel_rfl) (by kernel_rfl) (by kernel_rfl) (fun _ _ _ h => h) (Or.inl ⟨by rfl, ?_⟩) hH ?_
 rotate_left
 ·((intro W hW; clear hW; go_simp) <;> with_reducible rfl)
 simp only [sq3, sq4]
 refine wpAnyH_take (i := 22) (v := ?_) rfl (by kernel_rfl) (by kernel_rfl) (by kernel_rfl) (fun _ _ _ h => h) (Or.inl ⟨by rfl, ?_⟩) hH ?_
 rotate_left
 ·((intro W hW; clear hW; go_simp) <;> with_reducible rfl)
 simp only [sq3, sq4]
 refine wpAnyH_take (i := 23) (v := ?_) rfl (by kernel_rfl) (by kernel_rfl) (by kernel_rfl) (fun _ _ _ h => h) (Or.inl ⟨by rfl, ?_⟩) hH ?_
 rotate_left
 ·((intro W hW; clear hW; go_simp) <;> with_reducible rfl)
 simp only [sq3, sq4]
 refine wpAnyH_take (i := 24) (v := ?_) rfl (by kernel_rfl) (by kernel_rfl) (by kernel_rfl) (fun _ _ _ h => h) (Or.inl ⟨by rfl, ?_⟩) hH ?_
 rotate_left
 ·((intro W hW; have hk := cell_lit (hW.1) 2 _ rfl; clear hW; go_simp) <;> with_reducible rfl)
 simp only [sq3, sq4]
 refine wpAnyH_take (i := 25) (v := ?_) rfl (by kernel_rfl) (by kernel_rfl) (by kernel_rfl) (fun _ _ _ h => h) (Or.inl ⟨by rfl, ?_⟩) hH ?_
 rotate_left
 ·((intro W hW; clear hW; go_simp) <;> with_reducible rfl)
 simp only [sq3, sq4]
 refine wpAnyH_take (i := 26) (v := ?_) rfl (by kernel_rfl) (by kernel_rfl) (by kernel_rfl) (fun _ _ _ h => h) (Or.inl ⟨by rfl, ?_⟩) hH ?_
 rotate_left
 ·((intro W hW; clear hW; go_simp) <;> with_reducible rfl)
 simp only [sq3, sq4]
 refine wpAnyH_take (i := 27) (v := ?_) rfl (by kernel_rfl) (by kernel_rfl) (by kernel_rfl) (fun _ _ _ h => h) (Or.inl ⟨by rfl, ?_⟩) hH ?_
 rotate_left
 ·((intro W hW; clear hW; go_simp) <;> with_reducible rfl)
 simp only [sq3, sq4]
 refine wpAnyH_take (i := 28) (v := ?_) rfl (by kernel_rfl) (by kernel_rfl) (by kernel_rfl) (fun _ _ _ h => h) (Or.inl ⟨by rfl, ?_⟩) hH ?_
 rotate_left
 ·((intro W hW; clear hW; go_simp) <;> with_reducible rfl)
 simp only [sq3, sq4]
 refine wpAnyH_take (i := 29) (v := ?_) rfl (by kernel_rfl) (by kernel_rfl) (by kernel_rfl) (fun _ _ _ h => h) (Or.inl ⟨by rfl, ?_⟩) hH ?_
 rotate_left
 ·((intro W hW; clear hW; go_simp) <;> with_reducible rfl)
 simp only [sq3, sq4]
 refine wpAnyH_take (i := 30) (v := ?_) rfl (by kernel_rfl) (by kernel_rfl) (by kernel_rfl) (fun _ _ _ h => h) (Or.inl ⟨by rfl, ?_⟩) hH ?_
 rotate_left
 ·((intro W hW; clear hW; go_simp) <;> with_reducible rfl)
 simp only [sq3, sq4]
 refine wpAnyH_take (i := 31) (v := ?_) rfl (by kernel_rfl) (by kernel_rfl) (by kernel_rfl) (fun _ _ _ h => h) (Or.inl ⟨by rfl, ?_⟩) hH ?_
 rotate_left
 ·((intro W hW; clear hW; go_simp) <;> with_reducible rfl)
 simp only [sq3, sq4]
 refine wpAnyH_take (i := 32) (v := ?_) rfl (by kernel_rfl) (by kernel_rfl) (by kernel_rfl) (fun _ _ _ h => h) (Or.inl ⟨by rfl, ?_⟩) hH ?_
 rotate_left
 ·((intro W hW; clear hW; go_simp) <;> with_reducible rfl)
 simp only [sq3, sq4]
 refine wpAnyH_take (i := 33) (v := .agg #[.int .u8 10, .int .u8 0, .int .u8 0, .int .u8 ((byteOf 5).toNat : Int)]) rfl (by kernel_rfl) (by kernel_rfl) (by kernel_rfl) (fun _ _ _ h => h) (yieldsIf_load_part (by kernel_rfl) 35 _ rfl g26 10 4 rfl _ 38 (0, 0) (fun W hW => hW.2.1) _ rfl _ Tryz.underlying35 rfl (by kernel_rfl)) hH ?_
 simp only [sq3, sq4]
 refine wpAnyH_ready (rs := [34]) (by kernel_rfl) (by simp) ?_
 refine AllReadyH.cons (o := _) rfl (fun K hK => ?_) AllReadyH.nil
 simp only [sq3]
 go_simp
 with_reducible refine (at19 5 _).mono ?_
 rintro e w85 ⟨rfl, b85⟩
 dsimp only
 replace hb20 := blk_u hb20 b85
 replace hb26 := blk_u hb26 b85
 replace hb28 := blk_u hb28 b85
 replace gw := gw.below b85
 replace sm := sm.below b85
 replace hT := hT.below b85
 replace p_b20 := p_b20.below b85
 replace p_b26 := p_b26.below b85
 replace q_gw := q_gw.below b85
 replace p_b28 := p_b28.below b85
 replace q_sm := q_sm.below b85
 replace bel := bel.trans (b85.mono bel.size)
 clear b85
 refine hK.out _ _ ⟨hb20, hb26, hb28, sm, gw⟩ (fun hH86 => ?_)
 clear hK K
 refine wpAnyH_take (i := 35) (v := ?_) rfl (by kernel_rfl) (by kernel_rfl) (by kernel_rfl) (fun _ _ _ h => h) (Or.inl ⟨by rfl, ?_⟩) hH86 ?_
 rotate_left
 ·((intro W hW; clear hW; go_simp) <;> with_reducible rfl)
 simp only [sq3, sq4]
 refine wpAnyH_take (i := 36) (v := ?_) rfl (by kernel_rfl) (by kernel_rfl) (by kernel_rfl) (fun _ _ _ h => h) (Or.inl ⟨by rfl, ?_⟩) hH86 ?_
 rotate_left
 ·((intro W hW; clear hW; go_simp) <;> with_reducible rfl)
 simp only [sq3, sq4]
 refine wpAnyH_take (i := 37) (v := ?_) rfl (by kernel_rfl) (by kernel_rfl) (by kernel_rfl) (fun _ _ _ h => h) (Or.inl ⟨by rfl, ?_⟩) hH86 ?_
 rotate_left
 ·((intro W hW; clear hW; go_simp) <;> with_reducible rfl)
 simp only [sq3, sq4]
 refine wpAnyH_take (i := 38) (v := ?_) rfl (by kernel_rfl) (by kernel_rfl) (by kernel_rfl) (fun _ _ _ h => h) (Or.inl ⟨by rfl, ?_⟩) hH86 ?_
 rotate_left
 ·((intro W hW; clear hW; go_simp) <;> with_reducible rfl)
 simp only [sq3, sq4]
 refine wpAnyH_take (i := 39) (v := ?_) rfl (by kernel_rfl) (by kernel_rfl) (by kernel_rfl) (fun _ _ _ h => h) (Or.inl ⟨by rfl, ?_⟩) hH86 ?_
 rotate_left
 ·((intro W hW; clear hW; go_simp) <;> with_reducible rfl)
 simp only [sq3, sq4]
 refine wpAnyH_take (i := 40) (v := ?_) rfl (by kernel_rfl) (by kernel_rfl) (by kernel_rfl) (fun _ _ _ h => h) (Or.inl ⟨by rfl, ?_⟩) hH86 ?_
 rotate_left
 ·((intro W hW; clear hW; go_simp) <;> with_reducible rfl)
 simp only [sq3, sq4]
 refine wpAnyH_take (i := 41) (v := ?_) rfl (by kernel_rfl) (by kernel_rfl) (by kernel_rfl) (fun _ _ _ h => h) (Or.inl ⟨by rfl, ?_⟩) hH86 ?_
 rotate_left
 ·((intro W hW; clear hW; go_simp) <;> with_reducible rfl)
 simp only [sq3, sq4]
 refine wpAnyH_take (i := 42) (v := ?_) rfl (by kernel_rfl) (by kernel_rfl) (by kernel_rfl) (fun _ _ _ h => h) (Or.inl ⟨by rfl, ?_⟩) hH86 ?_
 rotate_left
 ·((intro W hW; clear hW; go_simp) <;> with_reducible rfl)
 simp only [sq3, sq4]
 refine wpAnyH_take (i := 43) (v := ?_) rfl (by kernel_rfl) (by kernel_rfl) (by kernel_rfl) (fun _ _ _ h => h) (Or.inl ⟨by rfl, ?_⟩) hH86 ?_
 rotate_left
 ·((intro W hW; have hk := cell_lit (hW.2.2.1) 3 _ rfl; clear hW; go_simp) <;> with_reducible rfl)
 simp only [sq3, sq4]
 refine wpAnyH_take (i := 44) (v := ?_) rfl (by kernel_rfl) (by kernel_rfl) (by kernel_rfl) (fun _ _ _ h => h) (Or.inl ⟨by rfl, ?_⟩) hH86 ?_
 rotate_left
 ·((intro W hW; clear hW; go_simp) <;> with_reducible rfl)
 simp only [sq3, sq4]
 refine wpAnyH_take (i := 45) (v := ?_) rfl (by kernel_rfl) (by kernel_rfl) (by kernel_rfl) (fun _ _ _ h => h) (Or.inl ⟨by rfl, ?_⟩) hH86 ?_
 rotate_left
 ·((intro W hW; have st0 := (hW.2.2.2.1).str (P := Tryz.prog) 36 5 9 Tryz.underlying36 Tryz.underlying5 Tryz.underlying9; clear hW; go_simp) <;> with_reducible rfl)
 simp only [sq3, sq4]
 refine wpAnyH_take (i := 46) (v := ?_) rfl (by kernel_rfl) (by kernel_rfl) (by kernel_rfl) (fun _ _ _ h => h) (Or.inl ⟨by rfl, ?_⟩) hH86 ?_
 rotate_left
 ·((intro W hW; clear hW; go_simp) <;> with_reducible rfl)
 simp only [sq3, sq4]
 refine wpAnyH_take (i := 47) (v := ?_) rfl (by kernel_rfl) (by kernel_rfl) (by kernel_rfl) (fun _ _ _ h => h) (Or.inl ⟨by rfl, ?_⟩) hH86 ?_
 rotate_left
 ·((intro W hW; clear hW; go_simp) <;> with_reducible rfl)
 simp only [sq3, sq4]
 refine wpAnyH_take (i := 48) (v := ?_) rfl (by kernel_rfl) (by kernel_rfl) (by kernel_rfl) (fun _ _ _ h => h) (Or.inl ⟨by rfl, ?_⟩) hH86 ?_
 rotate_left
 ·((intro W hW; clear hW; go_simp) <;> with_reducible rfl)
 simp only [sq3, sq4]
 refine wpAnyH_take (i := 49) (v := ?_) rfl (by kernel_rfl) (by kernel_rfl) (by kernel_rfl) (fun _ _ _ h => h) (Or.inl ⟨by rfl, ?_⟩) hH86 ?_
 rotate_left
 ·((intro W hW; clear hW; go_simp) <;> with_reducible rfl)
 simp only [sq3, sq4]
 refine wpAnyH_take (i := 50) (v := ?_) rfl (by kernel_rfl) (by kernel_rfl) (by kernel_rfl) (fun _ _ _ h => h) (Or.inl ⟨by rfl, ?_⟩) hH86 ?_
 rotate_left
 ·((intro W hW; have hk := cell_lit (hW.2.2.1) 3 _ rfl; clear hW; go_simp) <;> with_reducible rfl)
 simp only [sq3, sq4]
 refine wpAnyH_take (i := 51) (v := ?_) rfl (by kernel_rfl) (by kernel_rfl) (by kernel_rfl) (fun _ _ _ h => h) (Or.inl ⟨by rfl, ?_⟩) hH86 ?_
 rotate_left
 ·((intro W hW; clear hW; go_simp) <;> with_reducible rfl)
 simp only [sq3, sq4]
 refine wpAnyH_take (i := 52) (v := ?_) rfl (by kernel_rfl) (by kernel_rfl) (by kernel_rfl) (fun _ _ _ h => h) (Or.inl ⟨by rfl, ?_⟩) hH86 ?_
 rotate_left
 ·((intro W hW; have hk := sl_at (hW.2.2.2.2) (j := 24) kW_24; clear hW; go_simp) <;> with_reducible rfl)
 simp only [sq3, sq4]
 refine wpAnyH_take (i := 53) (v := ?_) rfl (by kernel_rfl) (by kernel_rfl) (by kernel_rfl) (fun _ _ _ h => h) (Or.inl ⟨by rfl, ?_⟩) hH86 ?_
 rotate_left
 ·((intro W hW; clear hW; go_simp) <;> with_reducible rfl)
 simp only [sq3, sq4]
 refine wpAnyH_take (i := 54) (v := ?_) rfl (by kernel_rfl) (by kernel_rfl) (by kernel_rfl) (fun _ _ _ h => h) (Or.inl ⟨by rfl, ?_⟩) hH86 ?_
 rotate_left
 ·((intro W hW; clear hW; go_simp) <;> with_reducible rfl)
 simp only [sq3, sq4]
 refine wpAnyH_take (i := 55) (v := ?_) rfl (by kernel_rfl) (by kernel_rfl) (by kernel_rfl) (fun _ _ _ h => h) (Or.inl ⟨by rfl, ?_⟩) hH86 ?_
 rotate_left
 ·((intro W hW; clear hW; go_simp) <;> with_reducible rfl)
 simp only [sq3, sq4]
 refine wpAnyH_take (i := 56) (v := ?_) rfl (by kernel_rfl) (by kernel_rfl) (by kernel_rfl) (fun _ _ _ h => h) (Or.inl ⟨by rfl, ?_⟩) hH86 ?_
 rotate_left
 ·((intro W hW; clear hW; go_simp) <;> with_reducible rfl)
 simp only [sq3, sq4]
 refine wpAnyH_take (i := 57) (v := ?_) rfl (by kernel_rfl) (by kernel_rfl) (by kernel_rfl) (fun _ _ _ h => h) (Or.inl ⟨by rfl, ?_⟩) hH86 ?_
 rotate_left
 ·((intro W hW; have hk := cell_lit (hW.2.2.1) 3 _ rfl; clear hW; go_simp) <;> with_reducible rfl)
 simp only [sq3, sq4]
 refine wpAnyH_take (i := 58) (v := ?_) rfl (by kernel_rfl) (by kernel_rfl) (by kernel_rfl) (fun _ _ _ h => h) (Or.inl ⟨by rfl, ?_⟩) hH86 ?_
 rotate_left
 ·((intro W hW; clear hW; go_simp) <;> with_reducible rfl)
 simp only [sq3, sq4]
 refine wpAnyH_take (i := 59) (v := ?_) rfl (by kernel_rfl) (by kernel_rfl) (by kernel_rfl) (fun _ _ _ h => h) (Or.inl ⟨by rfl, ?_⟩) hH86 ?_
 rotate_left
 ·((intro W hW; have hk := sl_at (hW.2.2.2.2) (j := 25) kW_25; clear hW; go_simp) <;> with_reducible rfl)
 simp only [sq3, sq4]
 refine wpAnyH_take (i := 60) (v := ?_) rfl (by kernel_rfl) (by kernel_rfl) (by kernel_rfl) (fun _ _ _ h => h) (Or.inl ⟨by rfl, ?_⟩) hH86 ?_
 rotate_left
 ·((intro W hW; clear hW; go_simp) <;> with_reducible rfl)
 simp only [sq3, sq4]
 refine wpAnyH_take (i := 61) (v := ?_) rfl (by kernel_rfl) (by kernel_rfl) (by kernel_rfl) (fun _ _ _ h => h) (Or.inl ⟨by rfl, ?_⟩) hH86 ?_
 rotate_left
 ·((intro W hW; clear hW; go_simp) <;> with_reducible rfl)
 simp only [sq3, sq4]
 refine wpAnyH_take (i := 62) (v := ?_) rfl (by kernel_rfl) (by kernel_rfl) (by kernel_rfl) (fun _ _ _ h => h) (Or.inl ⟨by rfl, ?_⟩) hH86 ?_
 rotate_left
 ·((intro W hW; clear hW; go_simp) <;> with_reducible rfl)
 simp only [sq3, sq4]
 refine wpAnyH_take (i := 63) (v := ?_) rfl (by kernel_rfl) (by kernel_rfl) (by kernel_rfl) (fun _ _ _ h => h) (Or.inl ⟨by rfl, ?_⟩) hH86 ?_
 rotate_left
 ·((intro W hW; clear hW; go_simp) <;> with_reducible rfl)
 simp only [sq3, sq4]
 refine wpAnyH_take (i := 64) (v := ?_) rfl (by kernel_rfl) (by kernel_rfl) (by kernel_rfl) (fun _ _ _ h => h) (Or.inl ⟨by rfl, ?_⟩) hH86 ?_
 rotate_left
 ·((intro W hW; clear hW; go_simp) <;> with_reducible rfl)
 simp only [sq3, sq4]
 refine wpAnyH_take (i := 65) (v := ?_) rfl (by kernel_rfl) (by kernel_rfl) (by kernel_rfl) (fun _ _ _ h => h) (Or.inl ⟨by rfl, ?_⟩) hH86 ?_
 rotate_left
 ·((intro W hW; clear hW; go_simp) <;> with_reducible rfl)
 simp only [sq3, sq4]
 refine wpAnyH_take (i := 66) (v := ?_) rfl (by kernel_rfl) (by kernel_rfl) (by kernel_rfl) (fun _ _ _ h => h) (Or.inl ⟨by rfl, ?_⟩) hH86 ?_
 rotate_left
 ·((intro W hW; clear hW; go_simp) <;> with_reducible rfl)
 simp only [Act.put, List.getElem_toArray, List.getElem_cons_zero, List.getElem_cons_succ, List.setIfInBounds_toArray, List.set_cons_zero]
 refine wpAnyH_done (by kernel_rfl) ?_ _
 go_wp2_with fail
 go_ret
 exact ⟨rfl, bel⟩
end Go.Proofs.YtbdaejodbcjmfaaGreat
