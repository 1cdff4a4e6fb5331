/- PoolKnown. -/
import Derived.Test.YthcjepafcemmnaaLaw14
namespace Go.Proofs.Ythcjepafcemmnaa
open Go.RowKit

theorem Sle.zlit {α : Type} {f : α → List Value} {k : Nat} {w : World} {g n c i : Nat} {l : List α} {x : α} (h : Sle f k w (some ⟨g, 0, none⟩) n c l) (hx : l[i]? = some x) (a : Nat) (v : Value) (hv : (f x)[a]? = some v) (q : Nat) (hq : i * k + a = q) : w.cell? ⟨g, q, none⟩ = some v := h.zlit1 hx a v hv q hq
def kFl : List Le := [⟨macM 9, atA 2, 0⟩]
def kQ0 : St := ⟨0, kFl.map Le.pr, newL (kFl.map slotF) (atA 1).num ((atA 2).num - (atA 1).num + 1)⟩
def kQ1 : St := (takeS (kQ0.adv 0) (macM 9) (atA 1) 0 60).2
def kQ2 : St := (takeS kQ1 (macM 1) (atA 2) 0 60).2
def kQ3 : St := (takeS kQ2 (macM 1) (atA 1) 0 60).2
def kQ4 : St := endS (kQ3.adv 0) (macM 1) (atA 1)
def kQ5 : St := { kQ4.adv 0 with l := tickL (kQ4.adv 0).now kQ4.l }
def kQ6 : St := { kQ5.adv 0 with l := tickL (kQ5.adv 0).now kQ5.l }
def kQ7 : St := barS (kQ6.adv 0) (atA 1) 0 10
def kQ8 : St := barS ((kQ7.adv 9).adv 10) (atA 2) 10 10
theorem kq_o1 : offerS kQ0 (macM 9) (atA 1) 0 = (atA 2, 0) := by kernel_rfl
theorem kq_t1 : takeS (kQ0.adv 0) (macM 9) (atA 1) 0 60 = (8, kQ1) := by kernel_rfl
theorem kq_t2 : takeS kQ1 (macM 1) (atA 2) 0 60 = (6, kQ2) := by kernel_rfl
theorem kq_t3 : takeS kQ2 (macM 1) (atA 1) 0 60 = (0, kQ3) := by kernel_rfl
theorem kq_o2 : offerS kQ3 (macM 2) Ad4.zero 0 = (Ad4.zero, 7) := by kernel_rfl
theorem kq_e : endB (kQ3.adv 0) (macM 1) (atA 1) = true := by kernel_rfl
theorem kq_k1 : tickO (kQ4.adv 0).now kQ4.l = [⟨macM 1, atA 1, 0⟩] ∧ [(⟨macM 1, atA 1, 0⟩ : Le)].length = 1 := ⟨by kernel_rfl, rfl⟩
theorem kq_k2 : tickO (kQ5.adv 0).now kQ5.l = [] ∧ ([] : List Le).length = 0 := ⟨by kernel_rfl, rfl⟩
theorem kq_o3 : offerS kQ6 (macM 2) Ad4.zero 0 = (atA 1, 0) := by kernel_rfl
theorem kq_b : barB (kQ6.adv 0) (atA 1) 10 = true := by kernel_rfl
theorem kq_o4 : offerS kQ7 (macM 2) Ad4.zero 9 = (Ad4.zero, 7) := by kernel_rfl
theorem kq_o5 : offerS (kQ7.adv 9) (macM 2) Ad4.zero 10 = (atA 1, 0) := by kernel_rfl
theorem kq_b2 : barB ((kQ7.adv 9).adv 10) (atA 2) 10 = false := by kernel_rfl
theorem kq_t4 : takeS kQ8 (macM 1) (atA 1) 10 0 = (1, kQ8.adv 10) := by kernel_rfl
set_option linter.unusedVariables false in
set_option linter.unusedSimpArgs false in
set_option maxRecDepth 100000 in
set_option maxHeartbeats 16000000 in
theorem poolKnown_walk (w : World) : Calls Try.prog 3 #[] w fun e w' => e = .returned (.bool true) ∧ Below w.heap.size w w' := by
  have bel := Below.refl w.heap.size w
  go_enter Try.func3, Try.ntmps3
  go_wp2_with fail
  with_reducible refine (awake_any _).mono ?_
  rintro e w1 ⟨rfl, b1⟩
  replace bel := bel.trans (b1.mono bel.size)
  clear b1
  go_wp2_with fail
  with_reducible refine (at_k 5 _).mono ?_
  rintro e w2 ⟨rfl, b2⟩
  replace bel := bel.trans (b2.mono bel.size)
  clear b2
  go_wp2_with fail
  with_reducible refine (at_k 4 _).mono ?_
  rintro e w3 ⟨rfl, b3⟩
  replace bel := bel.trans (b3.mono bel.size)
  clear b3
  go_wp2_with fail
  with_reducible refine (pnew_less (x := atA 5) (y := atA 4) (A := none) (n := 0) (c := 0) _ (by decide)).mono ?_
  rintro e w4 ⟨rfl, b4⟩
  replace bel := bel.trans (b4.mono bel.size)
  clear b4
  go_wp2_with fail
  with_reducible refine (at_k 0 _).mono ?_
  rintro e w5 ⟨rfl, b5⟩
  replace bel := bel.trans (b5.mono bel.size)
  clear b5
  go_wp2_with fail
  with_reducible refine (at_k 64 _).mono ?_
  rintro e w6 ⟨rfl, b6⟩
  replace bel := bel.trans (b6.mono bel.size)
  clear b6
  go_wp2_with fail
  with_reducible refine (pnew_wide (x := atA 0) (y := atA 64) (A := none) (n := 0) (c := 0) _ (by decide) (by decide)).mono ?_
  rintro e w7 ⟨rfl, b7⟩
  replace bel := bel.trans (b7.mono bel.size)
  clear b7
  go_wp2_with fail
  with_reducible refine (at_k 1 _).mono ?_
  rintro e w8 ⟨rfl, b8⟩
  replace bel := bel.trans (b8.mono bel.size)
  clear b8
  go_wp2_with fail
  with_reducible refine (at_k 2 _).mono ?_
  rintro e w9 ⟨rfl, b9⟩
  replace bel := bel.trans (b9.mono bel.size)
  clear b9
  go_wp2_with fail
  with_reducible refine (mac_k 9 _).mono ?_
  rintro e w10 ⟨rfl, b10⟩
  replace bel := bel.trans (b10.mono bel.size)
  clear b10
  go_wp2_with fail
  with_reducible refine (at_k 2 _).mono ?_
  rintro e w11 ⟨rfl, b11⟩
  replace bel := bel.trans (b11.mono bel.size)
  clear b11
  go_wp2_with (first | ((with_reducible show wpList _ _ _ (⟨some 44, _, _, _, _, _⟩ :: _) _ _); refine wpList_lit_n rfl 35 34 1 _ rfl #[.int .u8 ((macM 9).a.toNat : Int), .int .u8 ((macM 9).b.toNat : Int), .int .u8 ((macM 9).c.toNat : Int), .int .u8 ((macM 9).d.toNat : Int), .int .u8 ((macM 9).e.toNat : Int), .int .u8 ((macM 9).f.toNat : Int), .int .u8 ((atA 2).a.toNat : Int), .int .u8 ((atA 2).b.toNat : Int), .int .u8 ((atA 2).c.toNat : Int), .int .u8 ((atA 2).d.toNat : Int), .int .i64 0] (.agg #[.int .u8 0, .int .u8 0, .int .u8 0, .int .u8 0, .int .u8 0, .int .u8 0, .int .u8 0, .int .u8 0, .int .u8 0, .int .u8 0, .int .i64 0]) Try.underlying35 (by kernel_rfl) 11 (by kernel_rfl) (by decide) (by kernel_rfl) ?_; intro g44 w12 ge lt hh bb; have ob44 := Nat.le_trans bel.size ge; replace bel := bel.trans (bb.mono bel.size); have hb44 := hh; clear hh lt ge bb; have fx : Sle leE 11 w12 (some ⟨g44, 0, none⟩) (1) (1) ([(⟨macM 9, atA 2, 0⟩ : Le)]) := sle_lit ([(⟨macM 9, atA 2, 0⟩ : Le)]) (by decide) leE_len hb44 rfl (by simp [maxLen])))
  have HLO_ := bel.size
  with_reducible refine (pnew_any (x := atA 1) (y := atA 2) (fl := kFl) _ (by decide) (by decide) fx fx.bl_new (by decide) (by decide) (by simp [kFl])).mono ?_
  rintro e w13 ⟨gt, rfl, hT, ogt_, b13⟩
  replace hb44 := blk_u hb44 b13
  replace fx := fx.below b13
  replace bel := bel.trans (b13.mono bel.size)
  clear b13
  clear ogt_
  replace hT : Pl w.heap.size gt w13 kQ0 := hT.lo_mono HLO_
  clear HLO_
  clear fx
  go_wp2_with fail
  with_reducible refine (mac_k 9 _).mono ?_
  rintro e w14 ⟨rfl, b14⟩
  replace hb44 := blk_u hb44 b14
  replace hT := hT.below b14
  replace bel := bel.trans (b14.mono bel.size)
  clear b14
  go_wp2_with fail
  with_reducible refine (at_k 1 _).mono ?_
  rintro e w15 ⟨rfl, b15⟩
  replace hb44 := blk_u hb44 b15
  replace hT := hT.below b15
  replace bel := bel.trans (b15.mono bel.size)
  clear b15
  go_wp2_with fail
  with_reducible refine (poffer_any (a := (atA 2)) (r := 0) _ _ _ _ hT kq_o1).mono ?_
  rintro e w16 ⟨rfl, hT_, k_, bb⟩
  replace hb44 := Kt.blk k_ hb44 (by decide)
  clear hT
  have hT := hT_
  replace bel := bel.trans bb
  clear bb k_ hT_
  go_wp2_with (first | ((with_reducible show wpList _ _ _ (⟨some 7, _, _, _, _, _⟩ :: _) _ _); refine wpList_new_a rfl 28 rfl #[.int .u8 0, .int .u8 0, .int .u8 0, .int .u8 0] (by kernel_rfl) ?_; intro g7 w17 ge hh bb; have d_b44_xB := ne_new (hlt hb44) ge; have oxB := Nat.le_trans bel.size ge; replace hb44 := blk_u hb44 bb; replace hT := hT.below bb; replace bel := bel.trans (bb.mono bel.size); have hxB := hh; clear hh ge bb) | ((with_reducible show wpList _ _ _ (⟨none, Op.store _ (.tmp 7) _, _, _, _, _⟩ :: _) _ _); refine wpList_store_blk rfl 28 (.tmp 7) (.tmp 53) rfl g7 rfl _ rfl _ 28 hxB (by rfl) (by kernel_rfl) (by kernel_rfl) ?_; intro w18 hq gr; replace hb44 := blk_a hb44 gr d_b44_xB; replace hT := hT.grown gr hxB (by decide) (by decide); replace bel := below_grown bel gr oxB bel.size; clear hxB; have hxB := hq; clear hq gr))
  with_reducible refine (mac_k 9 _).mono ?_
  rintro e w19 ⟨rfl, b19⟩
  replace hb44 := blk_u hb44 b19
  replace hxB := blk_u hxB b19
  replace hT := hT.below b19
  replace bel := bel.trans (b19.mono bel.size)
  clear b19
  go_wp2_with fail
  with_reducible refine (at_k 1 _).mono ?_
  rintro e w20 ⟨rfl, b20⟩
  replace hb44 := blk_u hb44 b20
  replace hxB := blk_u hxB b20
  replace hT := hT.below b20
  replace bel := bel.trans (b20.mono bel.size)
  clear b20
  go_wp2_with fail
  with_reducible refine (ptake_any (r := 8) _ _ _ _ _ hT kq_t1).mono ?_
  rintro e w21 ⟨rfl, hT_, k_, bb⟩
  replace hb44 := Kt.blk k_ hb44 (by decide)
  replace hxB := Kt.blk k_ hxB (by decide)
  clear hT
  have hT := hT_
  replace bel := bel.trans bb
  clear bb k_ hT_
  go_wp2_with fail
  with_reducible refine (mac_k 1 _).mono ?_
  rintro e w22 ⟨rfl, b22⟩
  replace hb44 := blk_u hb44 b22
  replace hxB := blk_u hxB b22
  replace hT := hT.below b22
  replace bel := bel.trans (b22.mono bel.size)
  clear b22
  go_wp2_with fail
  with_reducible refine (at_k 2 _).mono ?_
  rintro e w23 ⟨rfl, b23⟩
  replace hb44 := blk_u hb44 b23
  replace hxB := blk_u hxB b23
  replace hT := hT.below b23
  replace bel := bel.trans (b23.mono bel.size)
  clear b23
  go_wp2_with fail
  with_reducible refine (ptake_any (r := 6) _ _ _ _ _ hT kq_t2).mono ?_
  rintro e w24 ⟨rfl, hT_, k_, bb⟩
  replace hb44 := Kt.blk k_ hb44 (by decide)
  replace hxB := Kt.blk k_ hxB (by decide)
  clear hT
  have hT := hT_
  replace bel := bel.trans bb
  clear bb k_ hT_
  go_wp2_with fail
  with_reducible refine (mac_k 1 _).mono ?_
  rintro e w25 ⟨rfl, b25⟩
  replace hb44 := blk_u hb44 b25
  replace hxB := blk_u hxB b25
  replace hT := hT.below b25
  replace bel := bel.trans (b25.mono bel.size)
  clear b25
  go_wp2_with fail
  with_reducible refine (at_k 1 _).mono ?_
  rintro e w26 ⟨rfl, b26⟩
  replace hb44 := blk_u hb44 b26
  replace hxB := blk_u hxB b26
  replace hT := hT.below b26
  replace bel := bel.trans (b26.mono bel.size)
  clear b26
  go_wp2_with fail
  with_reducible refine (ptake_any (r := 0) _ _ _ _ _ hT kq_t3).mono ?_
  rintro e w27 ⟨rfl, hT_, k_, bb⟩
  replace hb44 := Kt.blk k_ hb44 (by decide)
  replace hxB := Kt.blk k_ hxB (by decide)
  clear hT
  have hT := hT_
  replace bel := bel.trans bb
  clear bb k_ hT_
  go_wp2_with fail
  with_reducible refine (mac_k 2 _).mono ?_
  rintro e w28 ⟨rfl, b28⟩
  replace hb44 := blk_u hb44 b28
  replace hxB := blk_u hxB b28
  replace hT := hT.below b28
  replace bel := bel.trans (b28.mono bel.size)
  clear b28
  go_wp2_with fail
  with_reducible refine (poffer_zf _ () hT kq_o2).mono ?_
  rintro e w29 ⟨rfl, hT_, k_, bb⟩
  replace hb44 := Kt.blk k_ hb44 (by decide)
  replace hxB := Kt.blk k_ hxB (by decide)
  clear hT
  have hT := hT_
  replace bel := bel.trans bb
  clear bb k_ hT_
  go_wp2_with (first | ((with_reducible show wpList _ _ _ (⟨some 12, _, _, _, _, _⟩ :: _) _ _); refine wpList_new_a rfl 28 rfl #[.int .u8 0, .int .u8 0, .int .u8 0, .int .u8 0] (by kernel_rfl) ?_; intro g12 w30 ge hh bb; have d_b44_yB := ne_new (hlt hb44) ge; have d_xB_yB := ne_new (hlt hxB) ge; have oyB := Nat.le_trans bel.size ge; replace hb44 := blk_u hb44 bb; replace hxB := blk_u hxB bb; replace hT := hT.below bb; replace bel := bel.trans (bb.mono bel.size); have hyB := hh; clear hh ge bb) | ((with_reducible show wpList _ _ _ (⟨none, Op.store _ (.tmp 12) _, _, _, _, _⟩ :: _) _ _); refine wpList_store_blk rfl 28 (.tmp 12) (.tmp 72) rfl g12 rfl _ rfl _ 28 hyB (by rfl) (by kernel_rfl) (by kernel_rfl) ?_; intro w31 hq gr; replace hb44 := blk_a hb44 gr d_b44_yB; replace hxB := blk_a hxB gr d_xB_yB; replace hT := hT.grown gr hyB (by decide) (by decide); replace bel := below_grown bel gr oyB bel.size; clear hyB; have hyB := hq; clear hq gr))
  with_reducible refine (mac_k 1 _).mono ?_
  rintro e w32 ⟨rfl, b32⟩
  replace hb44 := blk_u hb44 b32
  replace hxB := blk_u hxB b32
  replace hyB := blk_u hyB b32
  replace hT := hT.below b32
  replace bel := bel.trans (b32.mono bel.size)
  clear b32
  go_wp2_with fail
  with_reducible refine (at_k 1 _).mono ?_
  rintro e w33 ⟨rfl, b33⟩
  replace hb44 := blk_u hb44 b33
  replace hxB := blk_u hxB b33
  replace hyB := blk_u hyB b33
  replace hT := hT.below b33
  replace bel := bel.trans (b33.mono bel.size)
  clear b33
  go_wp2_with fail
  with_reducible refine (pend_any (b := true) _ _ _ hT kq_e).mono ?_
  rintro e w34 ⟨rfl, hT_, k_, bb⟩
  replace hb44 := Kt.blk k_ hb44 (by decide)
  replace hxB := Kt.blk k_ hxB (by decide)
  replace hyB := Kt.blk k_ hyB (by decide)
  clear hT
  have hT := hT_
  replace bel := bel.trans bb
  clear bb k_ hT_
  replace hT : Pl w.heap.size gt w34 kQ4 := hT
  go_wp2_with fail
  with_reducible refine (ptick_is _ () hT kq_k1).mono ?_
  rintro e w35 ⟨Als, cls, rfl, lsw, hT_, k_, bb⟩
  replace hb44 := Kt.blk k_ hb44 (by decide)
  replace hxB := Kt.blk k_ hxB (by decide)
  replace hyB := Kt.blk k_ hyB (by decide)
  clear hT
  have hT := hT_
  replace bel := bel.trans bb
  clear bb k_ hT_
  replace hT : Pl w.heap.size gt w35 kQ5 := hT
  go_wp2_with fail
  with_reducible refine (ptick_is _ () hT kq_k2).mono ?_
  rintro e w36 ⟨Al2, cl2, rfl, l2w, hT_, k_, bb⟩
  replace hb44 := Kt.blk k_ hb44 (by decide)
  replace hxB := Kt.blk k_ hxB (by decide)
  replace hyB := Kt.blk k_ hyB (by decide)
  replace lsw := (k_.own lsw (by decide))
  clear hT
  have hT := hT_
  replace bel := bel.trans bb
  clear bb k_ hT_
  clear l2w
  replace hT : Pl w.heap.size gt w36 kQ6 := hT
  go_wp2_with fail
  with_reducible refine (mac_k 2 _).mono ?_
  rintro e w37 ⟨rfl, b37⟩
  replace hb44 := blk_u hb44 b37
  replace hxB := blk_u hxB b37
  replace hyB := blk_u hyB b37
  replace hT := hT.below b37
  replace lsw := owk_under lsw b37
  replace bel := bel.trans (b37.mono bel.size)
  clear b37
  go_wp2_with fail
  with_reducible refine (poffer_z (a := (atA 1)) (r := 0) _ () hT kq_o3).mono ?_
  rintro e w38 ⟨rfl, hT_, k_, bb⟩
  replace hb44 := Kt.blk k_ hb44 (by decide)
  replace hxB := Kt.blk k_ hxB (by decide)
  replace hyB := Kt.blk k_ hyB (by decide)
  replace lsw := (k_.own lsw (by decide))
  clear hT
  have hT := hT_
  replace bel := bel.trans bb
  clear bb k_ hT_
  go_wp2_with (first | ((with_reducible show wpList _ _ _ (⟨some 17, _, _, _, _, _⟩ :: _) _ _); refine wpList_new_a rfl 28 rfl #[.int .u8 0, .int .u8 0, .int .u8 0, .int .u8 0] (by kernel_rfl) ?_; intro g17 w39 ge hh bb; have d_b44_zB := ne_new (hlt hb44) ge; have d_xB_zB := ne_new (hlt hxB) ge; have d_yB_zB := ne_new (hlt hyB) ge; have ozB := Nat.le_trans bel.size ge; replace hb44 := blk_u hb44 bb; replace hxB := blk_u hxB bb; replace hyB := blk_u hyB bb; replace hT := hT.below bb; replace lsw := owk_under lsw bb; replace bel := bel.trans (bb.mono bel.size); have hzB := hh; clear hh ge bb) | ((with_reducible show wpList _ _ _ (⟨none, Op.store _ (.tmp 17) _, _, _, _, _⟩ :: _) _ _); refine wpList_store_blk rfl 28 (.tmp 17) (.tmp 87) rfl g17 rfl _ rfl _ 28 hzB (by rfl) (by kernel_rfl) (by kernel_rfl) ?_; intro w40 hq gr; replace hb44 := blk_a hb44 gr d_b44_zB; replace hxB := blk_a hxB gr d_xB_zB; replace hyB := blk_a hyB gr d_yB_zB; replace hT := hT.grown gr hzB (by decide) (by decide); replace lsw := owk_off lsw (ofs_type lsw hzB (by decide)) gr; replace bel := below_grown bel gr ozB bel.size; clear hzB; have hzB := hq; clear hq gr))
  with_reducible refine (at_k 1 _).mono ?_
  rintro e w41 ⟨rfl, b41⟩
  replace hb44 := blk_u hb44 b41
  replace hxB := blk_u hxB b41
  replace hyB := blk_u hyB b41
  replace hzB := blk_u hzB b41
  replace hT := hT.below b41
  replace lsw := owk_under lsw b41
  replace bel := bel.trans (b41.mono bel.size)
  clear b41
  go_wp2_with fail
  with_reducible refine (pbar_any (b := true) _ _ _ _ hT kq_b).mono ?_
  rintro e w42 ⟨rfl, hT_, k_, bb⟩
  replace hb44 := Kt.blk k_ hb44 (by decide)
  replace hxB := Kt.blk k_ hxB (by decide)
  replace hyB := Kt.blk k_ hyB (by decide)
  replace hzB := Kt.blk k_ hzB (by decide)
  replace lsw := (k_.own lsw (by decide))
  clear hT
  have hT := hT_
  replace bel := bel.trans bb
  clear bb k_ hT_
  replace hT : Pl w.heap.size gt w42 kQ7 := hT
  go_wp2_with fail
  with_reducible refine (mac_k 2 _).mono ?_
  rintro e w43 ⟨rfl, b43⟩
  replace hb44 := blk_u hb44 b43
  replace hxB := blk_u hxB b43
  replace hyB := blk_u hyB b43
  replace hzB := blk_u hzB b43
  replace hT := hT.below b43
  replace lsw := owk_under lsw b43
  replace bel := bel.trans (b43.mono bel.size)
  clear b43
  go_wp2_with fail
  with_reducible refine (poffer_zf _ () hT kq_o4).mono ?_
  rintro e w44 ⟨rfl, hT_, k_, bb⟩
  replace hb44 := Kt.blk k_ hb44 (by decide)
  replace hxB := Kt.blk k_ hxB (by decide)
  replace hyB := Kt.blk k_ hyB (by decide)
  replace hzB := Kt.blk k_ hzB (by decide)
  replace lsw := (k_.own lsw (by decide))
  clear hT
  have hT := hT_
  replace bel := bel.trans bb
  clear bb k_ hT_
  go_wp2_with (first | ((with_reducible show wpList _ _ _ (⟨some 20, _, _, _, _, _⟩ :: _) _ _); refine wpList_new_a rfl 28 rfl #[.int .u8 0, .int .u8 0, .int .u8 0, .int .u8 0] (by kernel_rfl) ?_; intro g20 w45 ge hh bb; have d_b44_uB := ne_new (hlt hb44) ge; have d_xB_uB := ne_new (hlt hxB) ge; have d_yB_uB := ne_new (hlt hyB) ge; have d_zB_uB := ne_new (hlt hzB) ge; have ouB := Nat.le_trans bel.size ge; replace hb44 := blk_u hb44 bb; replace hxB := blk_u hxB bb; replace hyB := blk_u hyB bb; replace hzB := blk_u hzB bb; replace hT := hT.below bb; replace lsw := owk_under lsw bb; replace bel := bel.trans (bb.mono bel.size); have huB := hh; clear hh ge bb) | ((with_reducible show wpList _ _ _ (⟨none, Op.store _ (.tmp 20) _, _, _, _, _⟩ :: _) _ _); refine wpList_store_blk rfl 28 (.tmp 20) (.tmp 97) rfl g20 rfl _ rfl _ 28 huB (by rfl) (by kernel_rfl) (by kernel_rfl) ?_; intro w46 hq gr; replace hb44 := blk_a hb44 gr d_b44_uB; replace hxB := blk_a hxB gr d_xB_uB; replace hyB := blk_a hyB gr d_yB_uB; replace hzB := blk_a hzB gr d_zB_uB; replace hT := hT.grown gr huB (by decide) (by decide); replace lsw := owk_off lsw (ofs_type lsw huB (by decide)) gr; replace bel := below_grown bel gr ouB bel.size; clear huB; have huB := hq; clear hq gr))
  with_reducible refine (mac_k 2 _).mono ?_
  rintro e w47 ⟨rfl, b47⟩
  replace hb44 := blk_u hb44 b47
  replace hxB := blk_u hxB b47
  replace hyB := blk_u hyB b47
  replace hzB := blk_u hzB b47
  replace huB := blk_u huB b47
  replace hT := hT.below b47
  replace lsw := owk_under lsw b47
  replace bel := bel.trans (b47.mono bel.size)
  clear b47
  go_wp2_with fail
  with_reducible refine (poffer_z (a := (atA 1)) (r := 0) _ () hT kq_o5).mono ?_
  rintro e w48 ⟨rfl, hT_, k_, bb⟩
  replace hb44 := Kt.blk k_ hb44 (by decide)
  replace hxB := Kt.blk k_ hxB (by decide)
  replace hyB := Kt.blk k_ hyB (by decide)
  replace hzB := Kt.blk k_ hzB (by decide)
  replace huB := Kt.blk k_ huB (by decide)
  replace lsw := (k_.own lsw (by decide))
  clear hT
  have hT := hT_
  replace bel := bel.trans bb
  clear bb k_ hT_
  go_upto_region 18 with (first | ((with_reducible show wpList _ _ _ (⟨some 22, _, _, _, _, _⟩ :: _) _ _); refine wpList_new_a rfl 28 rfl #[.int .u8 0, .int .u8 0, .int .u8 0, .int .u8 0] (by kernel_rfl) ?_; intro g22 w49 ge hh bb; have d_b44_tB := ne_new (hlt hb44) ge; have d_xB_tB := ne_new (hlt hxB) ge; have d_yB_tB := ne_new (hlt hyB) ge; have d_zB_tB := ne_new (hlt hzB) ge; have d_uB_tB := ne_new (hlt huB) ge; have otB := Nat.le_trans bel.size ge; replace hb44 := blk_u hb44 bb; replace hxB := blk_u hxB bb; replace hyB := blk_u hyB bb; replace hzB := blk_u hzB bb; replace huB := blk_u huB bb; replace hT := hT.below bb; replace lsw := owk_under lsw bb; replace bel := bel.trans (bb.mono bel.size); have htB := hh; clear hh ge bb) | ((with_reducible show wpList _ _ _ (⟨none, Op.store _ (.tmp 22) _, _, _, _, _⟩ :: _) _ _); refine wpList_store_blk rfl 28 (.tmp 22) (.tmp 104) rfl g22 rfl _ rfl _ 28 htB (by rfl) (by kernel_rfl) (by kernel_rfl) ?_; intro w50 hq gr; replace hb44 := blk_a hb44 gr d_b44_tB; replace hxB := blk_a hxB gr d_xB_tB; replace hyB := blk_a hyB gr d_yB_tB; replace hzB := blk_a hzB gr d_zB_tB; replace huB := blk_a huB gr d_uB_tB; replace hT := hT.grown gr htB (by decide) (by decide); replace lsw := owk_off lsw (ofs_type lsw htB (by decide)) gr; replace bel := below_grown bel gr otB bel.size; clear htB; have htB := hq; clear hq gr))
  simp only [List.append_eq, List.cons_append, List.nil_append]
  obtain ⟨gL, rfl, _⟩ := row_at lsw (by decide)
  have ls := (owk_sle (by decide) leE_len lsw).1
  have r115 : ∀ W, (binOp .eql 28 (.agg #[.int .u8 ((atA 2).a.toNat : Int), .int .u8 ((atA 2).b.toNat : Int), .int .u8 ((atA 2).c.toNat : Int), .int .u8 ((atA 2).d.toNat : Int)]) (.agg #[.int .u8 ((atA 2).a.toNat : Int), .int .u8 ((atA 2).b.toNat : Int), .int .u8 ((atA 2).c.toNat : Int), .int .u8 ((atA 2).d.toNat : Int)])).run Try.prog W = .ok (.bool true) W := fun W => by kernel_rfl
  have r156 : ∀ W, (binOp .eql 28 (.agg #[.int .u8 ((atA 1).a.toNat : Int), .int .u8 ((atA 1).b.toNat : Int), .int .u8 ((atA 1).c.toNat : Int), .int .u8 ((atA 1).d.toNat : Int)]) (.agg #[.int .u8 ((atA 1).a.toNat : Int), .int .u8 ((atA 1).b.toNat : Int), .int .u8 ((atA 1).c.toNat : Int), .int .u8 ((atA 1).d.toNat : Int)])).run Try.prog W = .ok (.bool true) W := fun W => by kernel_rfl
  go_wp2_with fail
  replace bel := bel.drew
  replace hb44 : w50.drew.heap[g44]? = _ := hb44
  replace hxB : w50.drew.heap[g7]? = _ := hxB
  replace hyB : w50.drew.heap[g12]? = _ := hyB
  replace hzB : w50.drew.heap[g17]? = _ := hzB
  replace huB : w50.drew.heap[g20]? = _ := huB
  replace htB : w50.drew.heap[g22]? = _ := htB
  replace ls := ls.drew
  replace hT := pl_drew hT
  replace lsw := World.ownsRow.drew lsw
  refine wp_region_held_drew (S := fun W => W.heap[g7]? = some (.cells #[.int .u8 ((atA 2).a.toNat : Int), .int .u8 ((atA 2).b.toNat : Int), .int .u8 ((atA 2).c.toNat : Int), .int .u8 ((atA 2).d.toNat : Int)] 28 (0, 0)) ∧ W.heap[g17]? = some (.cells #[.int .u8 ((atA 1).a.toNat : Int), .int .u8 ((atA 1).b.toNat : Int), .int .u8 ((atA 1).c.toNat : Int), .int .u8 ((atA 1).d.toNat : Int)] 28 (0, 0)) ∧ Sle leE 11 W (some ⟨gL, 0, none⟩) (1) (cls) ([⟨macM 1, atA 1, 0⟩])) (by kernel_rfl) ⟨hxB, hzB, ls⟩ (fun hH => ?_)
  generalize w50.drew = w51 at bel hb44 hxB hyB hzB huB htB ls hT lsw hH ⊢
  refine wpAnyH_take (i := 0) (v := ?_) rfl (by kernel_rfl) (by kernel_rfl) (by kernel_rfl) (fun _ _ _ h => h) (Or.inl ⟨by rfl, ?_⟩) hH ?_
  rotate_left
  · ((intro W hW; clear hW; go_simp) <;> with_reducible rfl)
  simp only [Act.put, List.getElem_toArray, List.getElem_cons_zero, List.setIfInBounds_toArray, List.set_cons_zero, List.set_cons_succ]
  refine wpAnyH_take (i := 1) (v := ?_) rfl (by kernel_rfl) (by kernel_rfl) (by kernel_rfl) (fun _ _ _ h => h) (Or.inl ⟨by rfl, ?_⟩) hH ?_
  rotate_left
  · ((intro W hW; clear hW; go_simp) <;> with_reducible rfl)
  simp only [Act.put, List.getElem_toArray, List.getElem_cons_zero, List.getElem_cons_succ, List.setIfInBounds_toArray, List.set_cons_zero, List.set_cons_succ]
  refine wpAnyH_take (i := 2) (v := ?_) rfl (by kernel_rfl) (by kernel_rfl) (by kernel_rfl) (fun _ _ _ h => h) (Or.inl ⟨by rfl, ?_⟩) hH ?_
  rotate_left
  · ((intro W hW; clear hW; go_simp) <;> with_reducible rfl)
  simp only [Act.put, List.getElem_toArray, List.getElem_cons_zero, List.getElem_cons_succ, List.setIfInBounds_toArray, List.set_cons_zero, List.set_cons_succ]
  refine wpAnyH_take (i := 3) (v := ?_) rfl (by kernel_rfl) (by kernel_rfl) (by kernel_rfl) (fun _ _ _ h => h) (Or.inl ⟨by rfl, ?_⟩) hH ?_
  rotate_left
  · ((intro W hW; clear hW; go_simp) <;> with_reducible rfl)
  simp only [Act.put, List.getElem_toArray, List.getElem_cons_zero, List.getElem_cons_succ, List.setIfInBounds_toArray, List.set_cons_zero, List.set_cons_succ]
  refine wpAnyH_take (i := 4) (v := ?_) rfl (by kernel_rfl) (by kernel_rfl) (by kernel_rfl) (fun _ _ _ h => h) (Or.inl ⟨by rfl, ?_⟩) hH ?_
  rotate_left
  · ((intro W hW; clear hW; go_simp) <;> with_reducible rfl)
  simp only [Act.put, List.getElem_toArray, List.getElem_cons_zero, List.getElem_cons_succ, List.setIfInBounds_toArray, List.set_cons_zero, List.set_cons_succ]
  refine wpAnyH_take (i := 5) (v := ?_) rfl (by kernel_rfl) (by kernel_rfl) (by kernel_rfl) (fun _ _ _ h => h) (Or.inl ⟨by rfl, ?_⟩) hH ?_
  rotate_left
  · ((intro W hW; clear hW; go_simp) <;> with_reducible rfl)
  simp only [Act.put, List.getElem_toArray, List.getElem_cons_zero, List.getElem_cons_succ, List.setIfInBounds_toArray, List.set_cons_zero, List.set_cons_succ]
  refine wpAnyH_take (i := 6) (v := ?_) rfl (by kernel_rfl) (by kernel_rfl) (by kernel_rfl) (fun _ _ _ h => h) (Or.inl ⟨by rfl, ?_⟩) hH ?_
  rotate_left
  · ((intro W hW; clear hW; go_simp) <;> with_reducible rfl)
  simp only [Act.put, List.getElem_toArray, List.getElem_cons_zero, List.getElem_cons_succ, List.setIfInBounds_toArray, List.set_cons_zero, List.set_cons_succ]
  refine wpAnyH_take (i := 7) (v := .agg #[.int .u8 ((atA 2).a.toNat : Int), .int .u8 ((atA 2).b.toNat : Int), .int .u8 ((atA 2).c.toNat : Int), .int .u8 ((atA 2).d.toNat : Int)]) rfl (by kernel_rfl) (by kernel_rfl) (by kernel_rfl) (fun _ _ _ h => h) (yieldsIf_load_part (by kernel_rfl) 28 _ rfl g7 0 4 rfl _ 28 (0, 0) (fun W hW => hW.1) _ rfl _ Try.underlying28 rfl (by kernel_rfl)) hH ?_
  simp only [Act.put, List.getElem_toArray, List.getElem_cons_zero, List.getElem_cons_succ, List.setIfInBounds_toArray, List.set_cons_zero, List.set_cons_succ]
  refine wpAnyH_ready (rs := [8]) (by kernel_rfl) (by simp) ?_
  refine AllReadyH.cons (o := _) rfl (fun K hK => ?_) AllReadyH.nil
  simp only [List.getElem_toArray, List.getElem_cons_zero, List.getElem_cons_succ]
  go_simp
  with_reducible refine (at_k 2 _).mono ?_
  rintro e w52 ⟨rfl, b52⟩
  dsimp only
  replace hb44 := blk_u hb44 b52
  replace hxB := blk_u hxB b52
  replace hyB := blk_u hyB b52
  replace hzB := blk_u hzB b52
  replace huB := blk_u huB b52
  replace htB := blk_u htB b52
  replace ls := ls.below b52
  replace hT := hT.below b52
  replace lsw := owk_under lsw b52
  replace bel := bel.trans (b52.mono bel.size)
  clear b52
  refine hK.out _ _ ⟨hxB, hzB, ls⟩ (fun hH53 => ?_)
  clear hK K
  refine wpAnyH_take (i := 9) (v := ?_) rfl (by kernel_rfl) (by kernel_rfl) (by kernel_rfl) (fun _ _ _ h => h) (Or.inl ⟨by rfl, ?_⟩) hH53 ?_
  rotate_left
  · ((intro W hW; clear hW; go_simp) <;> with_reducible rfl)
  simp only [Act.put, List.getElem_toArray, List.getElem_cons_zero, List.getElem_cons_succ, List.setIfInBounds_toArray, List.set_cons_zero, List.set_cons_succ]
  refine wpAnyH_take (i := 10) (v := ?_) rfl (by kernel_rfl) (by kernel_rfl) (by kernel_rfl) (fun _ _ _ h => h) (Or.inl ⟨by rfl, ?_⟩) hH53 ?_
  rotate_left
  · ((intro W hW; clear hW; go_simp) <;> with_reducible rfl)
  simp only [Act.put, List.getElem_toArray, List.getElem_cons_zero, List.getElem_cons_succ, List.setIfInBounds_toArray, List.set_cons_zero, List.set_cons_succ]
  refine wpAnyH_take (i := 11) (v := ?_) rfl (by kernel_rfl) (by kernel_rfl) (by kernel_rfl) (fun _ _ _ h => h) (Or.inl ⟨by rfl, ?_⟩) hH53 ?_
  rotate_left
  · ((intro W hW; clear hW; go_simp) <;> with_reducible rfl)
  simp only [Act.put, List.getElem_toArray, List.getElem_cons_zero, List.getElem_cons_succ, List.setIfInBounds_toArray, List.set_cons_zero, List.set_cons_succ]
  refine wpAnyH_take (i := 12) (v := ?_) rfl (by kernel_rfl) (by kernel_rfl) (by kernel_rfl) (fun _ _ _ h => h) (Or.inl ⟨by rfl, ?_⟩) hH53 ?_
  rotate_left
  · ((intro W hW; clear hW; go_simp) <;> with_reducible rfl)
  simp only [Act.put, List.getElem_toArray, List.getElem_cons_zero, List.getElem_cons_succ, List.setIfInBounds_toArray, List.set_cons_zero, List.set_cons_succ]
  refine wpAnyH_take (i := 13) (v := ?_) rfl (by kernel_rfl) (by kernel_rfl) (by kernel_rfl) (fun _ _ _ h => h) (Or.inl ⟨by rfl, ?_⟩) hH53 ?_
  rotate_left
  · ((intro W hW; clear hW; go_simp) <;> with_reducible rfl)
  simp only [Act.put, List.getElem_toArray, List.getElem_cons_zero, List.getElem_cons_succ, List.setIfInBounds_toArray, List.set_cons_zero, List.set_cons_succ]
  refine wpAnyH_take (i := 14) (v := ?_) rfl (by kernel_rfl) (by kernel_rfl) (by kernel_rfl) (fun _ _ _ h => h) (Or.inl ⟨by rfl, ?_⟩) hH53 ?_
  rotate_left
  · ((intro W hW; clear hW; go_simp) <;> with_reducible rfl)
  simp only [Act.put, List.getElem_toArray, List.getElem_cons_zero, List.getElem_cons_succ, List.setIfInBounds_toArray, List.set_cons_zero, List.set_cons_succ]
  refine wpAnyH_take (i := 15) (v := ?_) rfl (by kernel_rfl) (by kernel_rfl) (by kernel_rfl) (fun _ _ _ h => h) (Or.inl ⟨by rfl, ?_⟩) hH53 ?_
  rotate_left
  · ((intro W hW; clear hW; go_simp) <;> with_reducible rfl)
  simp only [Act.put, List.getElem_toArray, List.getElem_cons_zero, List.getElem_cons_succ, List.setIfInBounds_toArray, List.set_cons_zero, List.set_cons_succ]
  refine wpAnyH_take (i := 16) (v := ?_) rfl (by kernel_rfl) (by kernel_rfl) (by kernel_rfl) (fun _ _ _ h => h) (Or.inl ⟨by rfl, ?_⟩) hH53 ?_
  rotate_left
  · ((intro W hW; clear hW; go_simp) <;> with_reducible rfl)
  simp only [Act.put, List.getElem_toArray, List.getElem_cons_zero, List.getElem_cons_succ, List.setIfInBounds_toArray, List.set_cons_zero, List.set_cons_succ]
  refine wpAnyH_take (i := 17) (v := ?_) rfl (by kernel_rfl) (by kernel_rfl) (by kernel_rfl) (fun _ _ _ h => h) (Or.inl ⟨by rfl, ?_⟩) hH53 ?_
  rotate_left
  · ((intro W hW; clear hW; go_simp) <;> with_reducible rfl)
  simp only [Act.put, List.getElem_toArray, List.getElem_cons_zero, List.getElem_cons_succ, List.setIfInBounds_toArray, List.set_cons_zero, List.set_cons_succ]
  refine wpAnyH_take (i := 18) (v := ?_) rfl (by kernel_rfl) (by kernel_rfl) (by kernel_rfl) (fun _ _ _ h => h) (Or.inl ⟨by rfl, ?_⟩) hH53 ?_
  rotate_left
  · ((intro W hW; clear hW; go_simp) <;> with_reducible rfl)
  simp only [Act.put, List.getElem_toArray, List.getElem_cons_zero, List.getElem_cons_succ, List.setIfInBounds_toArray, List.set_cons_zero, List.set_cons_succ]
  refine wpAnyH_take (i := 19) (v := ?_) rfl (by kernel_rfl) (by kernel_rfl) (by kernel_rfl) (fun _ _ _ h => h) (Or.inl ⟨by rfl, ?_⟩) hH53 ?_
  rotate_left
  · ((intro W hW; clear hW; go_simp) <;> with_reducible rfl)
  simp only [Act.put, List.getElem_toArray, List.getElem_cons_zero, List.getElem_cons_succ, List.setIfInBounds_toArray, List.set_cons_zero, List.set_cons_succ]
  refine wpAnyH_take (i := 20) (v := ?_) rfl (by kernel_rfl) (by kernel_rfl) (by kernel_rfl) (fun _ _ _ h => h) (Or.inl ⟨by rfl, ?_⟩) hH53 ?_
  rotate_left
  · ((intro W hW; clear hW; go_simp) <;> with_reducible rfl)
  simp only [Act.put, List.getElem_toArray, List.getElem_cons_zero, List.getElem_cons_succ, List.setIfInBounds_toArray, List.set_cons_zero, List.set_cons_succ]
  refine wpAnyH_take (i := 21) (v := ?_) rfl (by kernel_rfl) (by kernel_rfl) (by kernel_rfl) (fun _ _ _ h => h) (Or.inl ⟨by rfl, ?_⟩) hH53 ?_
  rotate_left
  · ((intro W hW; clear hW; go_simp) <;> with_reducible rfl)
  simp only [Act.put, List.getElem_toArray, List.getElem_cons_zero, List.getElem_cons_succ, List.setIfInBounds_toArray, List.set_cons_zero, List.set_cons_succ]
  refine wpAnyH_take (i := 22) (v := ?_) rfl (by kernel_rfl) (by kernel_rfl) (by kernel_rfl) (fun _ _ _ h => h) (Or.inl ⟨by rfl, ?_⟩) hH53 ?_
  rotate_left
  · ((intro W hW; clear hW; go_simp) <;> with_reducible rfl)
  simp only [Act.put, List.getElem_toArray, List.getElem_cons_zero, List.getElem_cons_succ, List.setIfInBounds_toArray, List.set_cons_zero, List.set_cons_succ]
  refine wpAnyH_take (i := 23) (v := ?_) rfl (by kernel_rfl) (by kernel_rfl) (by kernel_rfl) (fun _ _ _ h => h) (Or.inl ⟨by rfl, ?_⟩) hH53 ?_
  rotate_left
  · ((intro W hW; clear hW; go_simp) <;> with_reducible rfl)
  simp only [Act.put, List.getElem_toArray, List.getElem_cons_zero, List.getElem_cons_succ, List.setIfInBounds_toArray, List.set_cons_zero, List.set_cons_succ]
  refine wpAnyH_take (i := 24) (v := ?_) rfl (by kernel_rfl) (by kernel_rfl) (by kernel_rfl) (fun _ _ _ h => h) (Or.inl ⟨by rfl, ?_⟩) hH53 ?_
  rotate_left
  · ((intro W hW; clear hW; go_simp) <;> with_reducible rfl)
  simp only [Act.put, List.getElem_toArray, List.getElem_cons_zero, List.getElem_cons_succ, List.setIfInBounds_toArray, List.set_cons_zero, List.set_cons_succ]
  refine wpAnyH_take (i := 25) (v := ?_) rfl (by kernel_rfl) (by kernel_rfl) (by kernel_rfl) (fun _ _ _ h => h) (Or.inl ⟨by rfl, ?_⟩) hH53 ?_
  rotate_left
  · ((intro W hW; clear hW; go_simp) <;> with_reducible rfl)
  simp only [Act.put, List.getElem_toArray, List.getElem_cons_zero, List.getElem_cons_succ, List.setIfInBounds_toArray, List.set_cons_zero, List.set_cons_succ]
  refine wpAnyH_take (i := 26) (v := ?_) rfl (by kernel_rfl) (by kernel_rfl) (by kernel_rfl) (fun _ _ _ h => h) (Or.inl ⟨by rfl, ?_⟩) hH53 ?_
  rotate_left
  · ((intro W hW; clear hW; go_simp) <;> with_reducible rfl)
  simp only [Act.put, List.getElem_toArray, List.getElem_cons_zero, List.getElem_cons_succ, List.setIfInBounds_toArray, List.set_cons_zero, List.set_cons_succ]
  refine wpAnyH_take (i := 27) (v := ?_) rfl (by kernel_rfl) (by kernel_rfl) (by kernel_rfl) (fun _ _ _ h => h) (Or.inl ⟨by rfl, ?_⟩) hH53 ?_
  rotate_left
  · ((intro W hW; clear hW; go_simp) <;> with_reducible rfl)
  simp only [Act.put, List.getElem_toArray, List.getElem_cons_zero, List.getElem_cons_succ, List.setIfInBounds_toArray, List.set_cons_zero, List.set_cons_succ]
  refine wpAnyH_take (i := 28) (v := ?_) rfl (by kernel_rfl) (by kernel_rfl) (by kernel_rfl) (fun _ _ _ h => h) (Or.inl ⟨by rfl, ?_⟩) hH53 ?_
  rotate_left
  · ((intro W hW; clear hW; go_simp) <;> with_reducible rfl)
  simp only [Act.put, List.getElem_toArray, List.getElem_cons_zero, List.getElem_cons_succ, List.setIfInBounds_toArray, List.set_cons_zero, List.set_cons_succ]
  refine wpAnyH_take (i := 29) (v := ?_) rfl (by kernel_rfl) (by kernel_rfl) (by kernel_rfl) (fun _ _ _ h => h) (Or.inl ⟨by rfl, ?_⟩) hH53 ?_
  rotate_left
  · ((intro W hW; clear hW; go_simp) <;> with_reducible rfl)
  simp only [Act.put, List.getElem_toArray, List.getElem_cons_zero, List.getElem_cons_succ, List.setIfInBounds_toArray, List.set_cons_zero, List.set_cons_succ]
  refine wpAnyH_take (i := 30) (v := ?_) rfl (by kernel_rfl) (by kernel_rfl) (by kernel_rfl) (fun _ _ _ h => h) (Or.inl ⟨by rfl, ?_⟩) hH53 ?_
  rotate_left
  · ((intro W hW; clear hW; go_simp) <;> with_reducible rfl)
  simp only [Act.put, List.getElem_toArray, List.getElem_cons_zero, List.getElem_cons_succ, List.setIfInBounds_toArray, List.set_cons_zero, List.set_cons_succ]
  refine wpAnyH_take (i := 31) (v := ?_) rfl (by kernel_rfl) (by kernel_rfl) (by kernel_rfl) (fun _ _ _ h => h) (Or.inl ⟨by rfl, ?_⟩) hH53 ?_
  rotate_left
  · ((intro W hW; clear hW; go_simp) <;> with_reducible rfl)
  simp only [Act.put, List.getElem_toArray, List.getElem_cons_zero, List.getElem_cons_succ, List.setIfInBounds_toArray, List.set_cons_zero, List.set_cons_succ]
  refine wpAnyH_take (i := 32) (v := ?_) rfl (by kernel_rfl) (by kernel_rfl) (by kernel_rfl) (fun _ _ _ h => h) (Or.inl ⟨by rfl, ?_⟩) hH53 ?_
  rotate_left
  · ((intro W hW; clear hW; go_simp) <;> with_reducible rfl)
  simp only [Act.put, List.getElem_toArray, List.getElem_cons_zero, List.getElem_cons_succ, List.setIfInBounds_toArray, List.set_cons_zero, List.set_cons_succ]
  refine wpAnyH_take (i := 33) (v := ?_) rfl (by kernel_rfl) (by kernel_rfl) (by kernel_rfl) (fun _ _ _ h => h) (Or.inl ⟨by rfl, ?_⟩) hH53 ?_
  rotate_left
  · ((intro W hW; clear hW; go_simp) <;> with_reducible rfl)
  simp only [Act.put, List.getElem_toArray, List.getElem_cons_zero, List.getElem_cons_succ, List.setIfInBounds_toArray, List.set_cons_zero, List.set_cons_succ]
  refine wpAnyH_take (i := 34) (v := ?_) rfl (by kernel_rfl) (by kernel_rfl) (by kernel_rfl) (fun _ _ _ h => h) (Or.inl ⟨by rfl, ?_⟩) hH53 ?_
  rotate_left
  · ((intro W hW; clear hW; go_simp) <;> with_reducible rfl)
  simp only [Act.put, List.getElem_toArray, List.getElem_cons_zero, List.getElem_cons_succ, List.setIfInBounds_toArray, List.set_cons_zero, List.set_cons_succ]
  refine wpAnyH_take (i := 35) (v := ?_) rfl (by kernel_rfl) (by kernel_rfl) (by kernel_rfl) (fun _ _ _ h => h) (Or.inl ⟨by rfl, ?_⟩) hH53 ?_
  rotate_left
  · ((intro W hW; clear hW; go_simp) <;> with_reducible rfl)
  simp only [Act.put, List.getElem_toArray, List.getElem_cons_zero, List.getElem_cons_succ, List.setIfInBounds_toArray, List.set_cons_zero, List.set_cons_succ]
  refine wpAnyH_take (i := 36) (v := ?_) rfl (by kernel_rfl) (by kernel_rfl) (by kernel_rfl) (fun _ _ _ h => h) (Or.inl ⟨by rfl, ?_⟩) hH53 ?_
  rotate_left
  · ((intro W hW; clear hW; go_simp) <;> with_reducible rfl)
  simp only [Act.put, List.getElem_toArray, List.getElem_cons_zero, List.getElem_cons_succ, List.setIfInBounds_toArray, List.set_cons_zero, List.set_cons_succ]
  refine wpAnyH_take (i := 37) (v := ?_) rfl (by kernel_rfl) (by kernel_rfl) (by kernel_rfl) (fun _ _ _ h => h) (Or.inl ⟨by rfl, ?_⟩) hH53 ?_
  rotate_left
  · ((intro W hW; clear hW; go_simp) <;> with_reducible rfl)
  simp only [Act.put, List.getElem_toArray, List.getElem_cons_zero, List.getElem_cons_succ, List.setIfInBounds_toArray, List.set_cons_zero, List.set_cons_succ]
  refine wpAnyH_take (i := 38) (v := ?_) rfl (by kernel_rfl) (by kernel_rfl) (by kernel_rfl) (fun _ _ _ h => h) (Or.inl ⟨by rfl, ?_⟩) hH53 ?_
  rotate_left
  · ((intro W hW; clear hW; go_simp) <;> with_reducible rfl)
  simp only [Act.put, List.getElem_toArray, List.getElem_cons_zero, List.getElem_cons_succ, List.setIfInBounds_toArray, List.set_cons_zero, List.set_cons_succ]
  refine wpAnyH_take (i := 39) (v := ?_) rfl (by kernel_rfl) (by kernel_rfl) (by kernel_rfl) (fun _ _ _ h => h) (Or.inl ⟨by rfl, ?_⟩) hH53 ?_
  rotate_left
  · ((intro W hW; have hk := Sle.zlit (hW.2.2) (show ([⟨macM 1, atA 1, 0⟩] : List Le)[0]? = some ⟨macM 1, atA 1, 0⟩ from rfl) 10 _ rfl 10 rfl; clear hW; go_simp) <;> with_reducible rfl)
  simp only [Act.put, List.getElem_toArray, List.getElem_cons_zero, List.getElem_cons_succ, List.setIfInBounds_toArray, List.set_cons_zero, List.set_cons_succ]
  refine wpAnyH_take (i := 40) (v := ?_) rfl (by kernel_rfl) (by kernel_rfl) (by kernel_rfl) (fun _ _ _ h => h) (Or.inl ⟨by rfl, ?_⟩) hH53 ?_
  rotate_left
  · ((intro W hW; clear hW; go_simp) <;> with_reducible rfl)
  simp only [Act.put, List.getElem_toArray, List.getElem_cons_zero, List.getElem_cons_succ, List.setIfInBounds_toArray, List.set_cons_zero, List.set_cons_succ]
  refine wpAnyH_take (i := 41) (v := ?_) rfl (by kernel_rfl) (by kernel_rfl) (by kernel_rfl) (fun _ _ _ h => h) (Or.inl ⟨by rfl, ?_⟩) hH53 ?_
  rotate_left
  · ((intro W hW; clear hW; go_simp) <;> with_reducible rfl)
  simp only [Act.put, List.getElem_toArray, List.getElem_cons_zero, List.getElem_cons_succ, List.setIfInBounds_toArray, List.set_cons_zero, List.set_cons_succ]
  refine wpAnyH_take (i := 42) (v := ?_) rfl (by kernel_rfl) (by kernel_rfl) (by kernel_rfl) (fun _ _ _ h => h) (Or.inl ⟨by rfl, ?_⟩) hH53 ?_
  rotate_left
  · ((intro W hW; clear hW; go_simp) <;> with_reducible rfl)
  simp only [Act.put, List.getElem_toArray, List.getElem_cons_zero, List.getElem_cons_succ, List.setIfInBounds_toArray, List.set_cons_zero, List.set_cons_succ]
  refine wpAnyH_take (i := 43) (v := ?_) rfl (by kernel_rfl) (by kernel_rfl) (by kernel_rfl) (fun _ _ _ h => h) (Or.inl ⟨by rfl, ?_⟩) hH53 ?_
  rotate_left
  · ((intro W hW; clear hW; go_simp) <;> with_reducible rfl)
  simp only [Act.put, List.getElem_toArray, List.getElem_cons_zero, List.getElem_cons_succ, List.setIfInBounds_toArray, List.set_cons_zero, List.set_cons_succ]
  refine wpAnyH_take (i := 44) (v := ?_) rfl (by kernel_rfl) (by kernel_rfl) (by kernel_rfl) (fun _ _ _ h => h) (Or.inl ⟨by rfl, ?_⟩) hH53 ?_
  rotate_left
  · ((intro W hW; clear hW; go_simp) <;> with_reducible rfl)
  simp only [Act.put, List.getElem_toArray, List.getElem_cons_zero, List.getElem_cons_succ, List.setIfInBounds_toArray, List.set_cons_zero, List.set_cons_succ]
  refine wpAnyH_take (i := 45) (v := ?_) rfl (by kernel_rfl) (by kernel_rfl) (by kernel_rfl) (fun _ _ _ h => h) (Or.inl ⟨by rfl, ?_⟩) hH53 ?_
  rotate_left
  · ((intro W hW; clear hW; go_simp) <;> with_reducible rfl)
  simp only [Act.put, List.getElem_toArray, List.getElem_cons_zero, List.getElem_cons_succ, List.setIfInBounds_toArray, List.set_cons_zero, List.set_cons_succ]
  refine wpAnyH_take (i := 46) (v := ?_) rfl (by kernel_rfl) (by kernel_rfl) (by kernel_rfl) (fun _ _ _ h => h) (Or.inl ⟨by rfl, ?_⟩) hH53 ?_
  rotate_left
  · ((intro W hW; clear hW; go_simp) <;> with_reducible rfl)
  simp only [Act.put, List.getElem_toArray, List.getElem_cons_zero, List.getElem_cons_succ, List.setIfInBounds_toArray, List.set_cons_zero, List.set_cons_succ]
  refine wpAnyH_take (i := 47) (v := ?_) rfl (by kernel_rfl) (by kernel_rfl) (by kernel_rfl) (fun _ _ _ h => h) (Or.inl ⟨by rfl, ?_⟩) hH53 ?_
  rotate_left
  · ((intro W hW; clear hW; go_simp) <;> with_reducible rfl)
  simp only [Act.put, List.getElem_toArray, List.getElem_cons_zero, List.getElem_cons_succ, List.setIfInBounds_toArray, List.set_cons_zero, List.set_cons_succ]
  refine wpAnyH_take (i := 48) (v := .agg #[.int .u8 ((atA 1).a.toNat : Int), .int .u8 ((atA 1).b.toNat : Int), .int .u8 ((atA 1).c.toNat : Int), .int .u8 ((atA 1).d.toNat : Int)]) rfl (by kernel_rfl) (by kernel_rfl) (by kernel_rfl) (fun _ _ _ h => h) (yieldsIf_load_part (by kernel_rfl) 28 _ rfl g17 0 4 rfl _ 28 (0, 0) (fun W hW => hW.2.1) _ rfl _ Try.underlying28 rfl (by kernel_rfl)) hH53 ?_
  simp only [Act.put, List.getElem_toArray, List.getElem_cons_zero, List.getElem_cons_succ, List.setIfInBounds_toArray, List.set_cons_zero, List.set_cons_succ]
  refine wpAnyH_ready (rs := [49]) (by kernel_rfl) (by simp) ?_
  refine AllReadyH.cons (o := _) rfl (fun K hK => ?_) AllReadyH.nil
  simp only [List.getElem_toArray, List.getElem_cons_zero, List.getElem_cons_succ]
  go_simp
  with_reducible refine (at_k 1 _).mono ?_
  rintro e w54 ⟨rfl, b54⟩
  dsimp only
  replace hb44 := blk_u hb44 b54
  replace hxB := blk_u hxB b54
  replace hyB := blk_u hyB b54
  replace hzB := blk_u hzB b54
  replace huB := blk_u huB b54
  replace htB := blk_u htB b54
  replace ls := ls.below b54
  replace hT := hT.below b54
  replace lsw := owk_under lsw b54
  replace bel := bel.trans (b54.mono bel.size)
  clear b54
  refine hK.out _ _ ⟨hxB, hzB, ls⟩ (fun hH55 => ?_)
  clear hK K
  refine wpAnyH_take (i := 50) (v := ?_) rfl (by kernel_rfl) (by kernel_rfl) (by kernel_rfl) (fun _ _ _ h => h) (Or.inl ⟨by rfl, ?_⟩) hH55 ?_
  rotate_left
  · ((intro W hW; clear hW; go_simp) <;> with_reducible rfl)
  simp only [Act.put, List.getElem_toArray, List.getElem_cons_zero, List.getElem_cons_succ, List.setIfInBounds_toArray, List.set_cons_zero, List.set_cons_succ]
  refine wpAnyH_take (i := 51) (v := ?_) rfl (by kernel_rfl) (by kernel_rfl) (by kernel_rfl) (fun _ _ _ h => h) (Or.inl ⟨by rfl, ?_⟩) hH55 ?_
  rotate_left
  · ((intro W hW; clear hW; go_simp) <;> with_reducible rfl)
  simp only [Act.put, List.getElem_toArray, List.getElem_cons_zero, List.getElem_cons_succ, List.setIfInBounds_toArray, List.set_cons_zero, List.set_cons_succ]
  refine wpAnyH_take (i := 52) (v := ?_) rfl (by kernel_rfl) (by kernel_rfl) (by kernel_rfl) (fun _ _ _ h => h) (Or.inl ⟨by rfl, ?_⟩) hH55 ?_
  rotate_left
  · ((intro W hW; clear hW; go_simp) <;> with_reducible rfl)
  simp only [Act.put, List.getElem_toArray, List.getElem_cons_zero, List.getElem_cons_succ, List.setIfInBounds_toArray, List.set_cons_zero, List.set_cons_succ]
  refine wpAnyH_take (i := 53) (v := ?_) rfl (by kernel_rfl) (by kernel_rfl) (by kernel_rfl) (fun _ _ _ h => h) (Or.inl ⟨by rfl, ?_⟩) hH55 ?_
  rotate_left
  · ((intro W hW; clear hW; go_simp) <;> with_reducible rfl)
  simp only [Act.put, List.getElem_toArray, List.getElem_cons_zero, List.getElem_cons_succ, List.setIfInBounds_toArray, List.set_cons_zero, List.set_cons_succ]
  refine wpAnyH_take (i := 54) (v := ?_) rfl (by kernel_rfl) (by kernel_rfl) (by kernel_rfl) (fun _ _ _ h => h) (Or.inl ⟨by rfl, ?_⟩) hH55 ?_
  rotate_left
  · ((intro W hW; clear hW; go_simp) <;> with_reducible rfl)
  simp only [Act.put, List.getElem_toArray, List.getElem_cons_zero, List.getElem_cons_succ, List.setIfInBounds_toArray, List.set_cons_zero, List.set_cons_succ]
  refine wpAnyH_take (i := 55) (v := ?_) rfl (by kernel_rfl) (by kernel_rfl) (by kernel_rfl) (fun _ _ _ h => h) (Or.inl ⟨by rfl, ?_⟩) hH55 ?_
  rotate_left
  · ((intro W hW; clear hW; go_simp) <;> with_reducible rfl)
  simp only [Act.put, List.getElem_toArray, List.getElem_cons_zero, List.getElem_cons_succ, List.setIfInBounds_toArray, List.set_cons_zero, List.set_cons_succ]
  refine wpAnyH_take (i := 56) (v := ?_) rfl (by kernel_rfl) (by kernel_rfl) (by kernel_rfl) (fun _ _ _ h => h) (Or.inl ⟨by rfl, ?_⟩) hH55 ?_
  rotate_left
  · ((intro W hW; clear hW; go_simp) <;> with_reducible rfl)
  simp only [Act.put, List.getElem_toArray, List.getElem_cons_zero, List.getElem_cons_succ, List.setIfInBounds_toArray, List.set_cons_zero, List.set_cons_succ]
  refine wpAnyH_take (i := 57) (v := ?_) rfl (by kernel_rfl) (by kernel_rfl) (by kernel_rfl) (fun _ _ _ h => h) (Or.inl ⟨by rfl, ?_⟩) hH55 ?_
  rotate_left
  · ((intro W hW; clear hW; go_simp) <;> with_reducible rfl)
  simp only [Act.put, List.getElem_toArray, List.getElem_cons_zero, List.getElem_cons_succ, List.setIfInBounds_toArray, List.set_cons_zero, List.set_cons_succ]
  refine wpAnyH_take (i := 58) (v := ?_) rfl (by kernel_rfl) (by kernel_rfl) (by kernel_rfl) (fun _ _ _ h => h) (Or.inl ⟨by rfl, ?_⟩) hH55 ?_
  rotate_left
  · ((intro W hW; clear hW; go_simp) <;> with_reducible rfl)
  simp only [Act.put, List.getElem_toArray, List.getElem_cons_zero, List.getElem_cons_succ, List.setIfInBounds_toArray, List.set_cons_zero, List.set_cons_succ]
  refine wpAnyH_take (i := 59) (v := ?_) rfl (by kernel_rfl) (by kernel_rfl) (by kernel_rfl) (fun _ _ _ h => h) (Or.inl ⟨by rfl, ?_⟩) hH55 ?_
  rotate_left
  · ((intro W hW; clear hW; go_simp) <;> with_reducible rfl)
  simp only [Act.put, List.getElem_toArray, List.getElem_cons_zero, List.getElem_cons_succ, List.setIfInBounds_toArray, List.set_cons_zero, List.set_cons_succ]
  refine wpAnyH_take (i := 60) (v := ?_) rfl (by kernel_rfl) (by kernel_rfl) (by kernel_rfl) (fun _ _ _ h => h) (Or.inl ⟨by rfl, ?_⟩) hH55 ?_
  rotate_left
  · ((intro W hW; clear hW; go_simp) <;> with_reducible rfl)
  simp only [Act.put, List.getElem_toArray, List.getElem_cons_zero, List.getElem_cons_succ, List.setIfInBounds_toArray, List.set_cons_zero, List.set_cons_succ]
  refine wpAnyH_take (i := 61) (v := ?_) rfl (by kernel_rfl) (by kernel_rfl) (by kernel_rfl) (fun _ _ _ h => h) (Or.inl ⟨by rfl, ?_⟩) hH55 ?_
  rotate_left
  · ((intro W hW; clear hW; go_simp) <;> with_reducible rfl)
  simp only [Act.put, List.getElem_toArray, List.getElem_cons_zero, List.getElem_cons_succ, List.setIfInBounds_toArray, List.set_cons_zero, List.set_cons_succ]
  refine wpAnyH_take (i := 62) (v := ?_) rfl (by kernel_rfl) (by kernel_rfl) (by kernel_rfl) (fun _ _ _ h => h) (Or.inl ⟨by rfl, ?_⟩) hH55 ?_
  rotate_left
  · ((intro W hW; clear hW; go_simp) <;> with_reducible rfl)
  simp only [Act.put, List.getElem_toArray, List.getElem_cons_zero, List.getElem_cons_succ, List.setIfInBounds_toArray, List.set_cons_zero, List.set_cons_succ]
  refine wpAnyH_take (i := 63) (v := ?_) rfl (by kernel_rfl) (by kernel_rfl) (by kernel_rfl) (fun _ _ _ h => h) (Or.inl ⟨by rfl, ?_⟩) hH55 ?_
  rotate_left
  · ((intro W hW; clear hW; go_simp) <;> with_reducible rfl)
  simp only [Act.put, List.getElem_toArray, List.getElem_cons_zero, List.getElem_cons_succ, List.setIfInBounds_toArray, List.set_cons_zero, List.set_cons_succ]
  refine wpAnyH_take (i := 64) (v := ?_) rfl (by kernel_rfl) (by kernel_rfl) (by kernel_rfl) (fun _ _ _ h => h) (Or.inl ⟨by rfl, ?_⟩) hH55 ?_
  rotate_left
  · ((intro W hW; clear hW; go_simp) <;> with_reducible rfl)
  simp only [Act.put, List.getElem_toArray, List.getElem_cons_zero, List.getElem_cons_succ, List.setIfInBounds_toArray, List.set_cons_zero, List.set_cons_succ]
  refine wpAnyH_ready (rs := [65]) (by kernel_rfl) (by simp) ?_
  refine AllReadyH.cons (o := _) rfl (fun K hK => ?_) AllReadyH.nil
  simp only [List.getElem_toArray, List.getElem_cons_zero, List.getElem_cons_succ]
  go_simp
  with_reducible refine (at_k 2 _).mono ?_
  rintro e w56 ⟨rfl, b56⟩
  dsimp only
  replace hb44 := blk_u hb44 b56
  replace hxB := blk_u hxB b56
  replace hyB := blk_u hyB b56
  replace hzB := blk_u hzB b56
  replace huB := blk_u huB b56
  replace htB := blk_u htB b56
  replace ls := ls.below b56
  replace hT := hT.below b56
  replace lsw := owk_under lsw b56
  replace bel := bel.trans (b56.mono bel.size)
  clear b56
  refine hK.out _ _ ⟨hxB, hzB, ls⟩ (fun hH57 => ?_)
  clear hK K
  refine wpAnyH_ready (rs := [66]) (by kernel_rfl) (by simp) ?_
  refine AllReadyH.cons (o := _) rfl (fun K hK => ?_) AllReadyH.nil
  simp only [List.getElem_toArray, List.getElem_cons_zero, List.getElem_cons_succ]
  go_simp
  with_reducible refine (pbar_any (b := false) _ _ _ _ hT kq_b2).mono ?_
  rintro e w58 ⟨rfl, hT_, k_, bb⟩
  dsimp only
  replace hb44 := Kt.blk k_ hb44 (by decide)
  replace hxB := Kt.blk k_ hxB (by decide)
  replace hyB := Kt.blk k_ hyB (by decide)
  replace hzB := Kt.blk k_ hzB (by decide)
  replace huB := Kt.blk k_ huB (by decide)
  replace htB := Kt.blk k_ htB (by decide)
  clear ls
  replace lsw := (k_.own lsw (by decide))
  clear hT
  have hT := hT_
  replace bel := bel.trans bb
  clear bb k_ hT_
  replace hT : Pl w.heap.size gt w58 kQ8 := hT
  have ls := (owk_sle (by decide) leE_len lsw).1
  refine hK.out _ _ ⟨hxB, hzB, ls⟩ (fun hH59 => ?_)
  clear hK K
  refine wpAnyH_take (i := 67) (v := ?_) rfl (by kernel_rfl) (by kernel_rfl) (by kernel_rfl) (fun _ _ _ h => h) (Or.inl ⟨by rfl, ?_⟩) hH59 ?_
  rotate_left
  · ((intro W hW; clear hW; go_simp) <;> with_reducible rfl)
  simp only [Act.put, List.getElem_toArray, List.getElem_cons_zero, List.getElem_cons_succ, List.setIfInBounds_toArray, List.set_cons_zero, List.set_cons_succ]
  refine wpAnyH_take (i := 68) (v := ?_) rfl (by kernel_rfl) (by kernel_rfl) (by kernel_rfl) (fun _ _ _ h => h) (Or.inl ⟨by rfl, ?_⟩) hH59 ?_
  rotate_left
  · ((intro W hW; clear hW; go_simp) <;> with_reducible rfl)
  simp only [Act.put, List.getElem_toArray, List.getElem_cons_zero, List.getElem_cons_succ, List.setIfInBounds_toArray, List.set_cons_zero, List.set_cons_succ]
  refine wpAnyH_take (i := 69) (v := ?_) rfl (by kernel_rfl) (by kernel_rfl) (by kernel_rfl) (fun _ _ _ h => h) (Or.inl ⟨by rfl, ?_⟩) hH59 ?_
  rotate_left
  · ((intro W hW; clear hW; go_simp) <;> with_reducible rfl)
  simp only [Act.put, List.getElem_toArray, List.getElem_cons_zero, List.getElem_cons_succ, List.setIfInBounds_toArray, List.set_cons_zero, List.set_cons_succ]
  refine wpAnyH_take (i := 70) (v := ?_) rfl (by kernel_rfl) (by kernel_rfl) (by kernel_rfl) (fun _ _ _ h => h) (Or.inl ⟨by rfl, ?_⟩) hH59 ?_
  rotate_left
  · ((intro W hW; clear hW; go_simp) <;> with_reducible rfl)
  simp only [Act.put, List.getElem_toArray, List.getElem_cons_zero, List.getElem_cons_succ, List.setIfInBounds_toArray, List.set_cons_zero, List.set_cons_succ]
  refine wpAnyH_ready (rs := [71]) (by kernel_rfl) (by simp) ?_
  refine AllReadyH.cons (o := _) rfl (fun K hK => ?_) AllReadyH.nil
  simp only [List.getElem_toArray, List.getElem_cons_zero, List.getElem_cons_succ]
  go_simp
  with_reducible refine (mac_k 1 _).mono ?_
  rintro e w60 ⟨rfl, b60⟩
  dsimp only
  replace hb44 := blk_u hb44 b60
  replace hxB := blk_u hxB b60
  replace hyB := blk_u hyB b60
  replace hzB := blk_u hzB b60
  replace huB := blk_u huB b60
  replace htB := blk_u htB b60
  replace ls := ls.below b60
  replace hT := hT.below b60
  replace lsw := owk_under lsw b60
  replace bel := bel.trans (b60.mono bel.size)
  clear b60
  refine hK.out _ _ ⟨hxB, hzB, ls⟩ (fun hH61 => ?_)
  clear hK K
  refine wpAnyH_ready (rs := [72]) (by kernel_rfl) (by simp) ?_
  refine AllReadyH.cons (o := _) rfl (fun K hK => ?_) AllReadyH.nil
  simp only [List.getElem_toArray, List.getElem_cons_zero, List.getElem_cons_succ]
  go_simp
  with_reducible refine (at_k 1 _).mono ?_
  rintro e w62 ⟨rfl, b62⟩
  dsimp only
  replace hb44 := blk_u hb44 b62
  replace hxB := blk_u hxB b62
  replace hyB := blk_u hyB b62
  replace hzB := blk_u hzB b62
  replace huB := blk_u huB b62
  replace htB := blk_u htB b62
  replace ls := ls.below b62
  replace hT := hT.below b62
  replace lsw := owk_under lsw b62
  replace bel := bel.trans (b62.mono bel.size)
  clear b62
  refine hK.out _ _ ⟨hxB, hzB, ls⟩ (fun hH63 => ?_)
  clear hK K
  refine wpAnyH_ready (rs := [73]) (by kernel_rfl) (by simp) ?_
  refine AllReadyH.cons (o := _) rfl (fun K hK => ?_) AllReadyH.nil
  simp only [List.getElem_toArray, List.getElem_cons_zero, List.getElem_cons_succ]
  go_simp
  with_reducible refine (ptake_any (r := 1) _ _ _ _ _ hT kq_t4).mono ?_
  rintro e w64 ⟨rfl, hT_, k_, bb⟩
  dsimp only
  replace hb44 := Kt.blk k_ hb44 (by decide)
  replace hxB := Kt.blk k_ hxB (by decide)
  replace hyB := Kt.blk k_ hyB (by decide)
  replace hzB := Kt.blk k_ hzB (by decide)
  replace huB := Kt.blk k_ huB (by decide)
  replace htB := Kt.blk k_ htB (by decide)
  clear ls
  replace lsw := (k_.own lsw (by decide))
  clear hT
  have hT := hT_
  replace bel := bel.trans bb
  clear bb k_ hT_
  have ls := (owk_sle (by decide) leE_len lsw).1
  refine hK.out _ _ ⟨hxB, hzB, ls⟩ (fun hH65 => ?_)
  clear hK K
  refine wpAnyH_take (i := 74) (v := ?_) rfl (by kernel_rfl) (by kernel_rfl) (by kernel_rfl) (fun _ _ _ h => h) (Or.inl ⟨by rfl, ?_⟩) hH65 ?_
  rotate_left
  · ((intro W hW; clear hW; go_simp) <;> with_reducible rfl)
  simp only [Act.put, List.getElem_toArray, List.getElem_cons_zero, List.getElem_cons_succ, List.setIfInBounds_toArray, List.set_cons_zero, List.set_cons_succ]
  refine wpAnyH_take (i := 75) (v := ?_) rfl (by kernel_rfl) (by kernel_rfl) (by kernel_rfl) (fun _ _ _ h => h) (Or.inl ⟨by rfl, ?_⟩) hH65 ?_
  rotate_left
  · ((intro W hW; clear hW; go_simp) <;> with_reducible rfl)
  simp only [Act.put, List.getElem_toArray, List.getElem_cons_zero, List.getElem_cons_succ, List.setIfInBounds_toArray, List.set_cons_zero, List.set_cons_succ]
  refine wpAnyH_take (i := 76) (v := ?_) rfl (by kernel_rfl) (by kernel_rfl) (by kernel_rfl) (fun _ _ _ h => h) (Or.inl ⟨by rfl, ?_⟩) hH65 ?_
  rotate_left
  · ((intro W hW; clear hW; go_simp) <;> with_reducible rfl)
  simp only [Act.put, List.getElem_toArray, List.getElem_cons_zero, List.getElem_cons_succ, List.setIfInBounds_toArray, List.set_cons_zero]
  refine wpAnyH_done (by kernel_rfl) ?_ _
  go_wp2_with fail
  go_ret
  exact ⟨rfl, bel⟩
end Go.Proofs.Ythcjepafcemmnaa
