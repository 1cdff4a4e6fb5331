/- Layer 8: tcp's Put. -/
import Derived.Test.YtkmihoijnjdbnaaTc1
namespace Go.Proofs.Ytkmihoijnjdbnaa
open Go.RowKit

theorem tcwrite_any (tos id fl pt ttl : Int) (a0 a1 a2 a3 a4 a5 a6 a7 : UInt8) (So Sb : Option Addr) (no co nb cb : Nat) (sf st se ak fg wn ug : Int) (Q : Option Addr) (nq cq : Nat) (D : Option Addr) (nd cd : Nat) (lq ld : List UInt8) (w : World) (hv : Sl w Q nq cq lq) (hb : Sl w D nd cd ld) (hm : nd ≤ 1460) (hq : nq ≤ 40) (hq4 : nq % 4 = 0) (e0 : 0 ≤ se) (e1 : se < 4294967296) (k0 : 0 ≤ ak) (k1 : ak < 4294967296) : Calls Try.prog 19 #[.agg #[.int .i64 tos, .int .i64 id, .int .i64 fl, .int .i64 pt, .int .i64 ttl, .int .i64 6, .int .u8 (a0.toNat : Int), .int .u8 (a1.toNat : Int), .int .u8 (a2.toNat : Int), .int .u8 (a3.toNat : Int), .int .u8 (a4.toNat : Int), .int .u8 (a5.toNat : Int), .int .u8 (a6.toNat : Int), .int .u8 (a7.toNat : Int), .slice So no co, .slice Sb nb cb], .agg #[.int .i64 sf, .int .i64 st, .int .u32 se, .int .u32 ak, .int .i64 fg, .int .i64 wn, .int .i64 ug, .slice Q nq cq, .slice D nd cd]] w fun e w' => ∃ v, e = .returned v ∧ w'.ownsRow w.heap.size 5 1 v (20 + nq + nd) ((tcBytes a0 a1 a2 a3 a4 a5 a6 a7 sf st se ak fg wn ug lq ld).map u8v) ∧ Below w.heap.size w w' := by
  have hl := hb.1
  have hl2 := hv.1
  subst hl
  subst hl2
  exact tcwrite_0 tos id fl pt ttl 6 a0 a1 a2 a3 a4 a5 a6 a7 So Sb no co nb cb sf st se ak fg wn ug Q _ cq D _ cd lq ld _ w hv hb hm hq hq4 e0 e1 k0 k1 rfl
set_option linter.unusedVariables false in
set_option maxRecDepth 100000 in
set_option maxHeartbeats 16000000 in
theorem tcput_bad (tos id fl pt ttl pr : Int) (a0 a1 a2 a3 a4 a5 a6 a7 : UInt8) (So Sb : Option Addr) (no co nb cb : Nat) (sf st se ak fg wn ug : Int) (Q : Option Addr) (nq cq : Nat) (D : Option Addr) (nd cd : Nat) (lo lq ld : List UInt8) (w : World) (ho : Sl w So no co lo) (hv : Sl w Q nq cq lq) (hb : Sl w D nd cd ld) (hg : segOk sf st fg wn ug nq = false) : Calls Try.prog 8 #[.agg #[.int .i64 tos, .int .i64 id, .int .i64 fl, .int .i64 pt, .int .i64 ttl, .int .i64 pr, .int .u8 (a0.toNat : Int), .int .u8 (a1.toNat : Int), .int .u8 (a2.toNat : Int), .int .u8 (a3.toNat : Int), .int .u8 (a4.toNat : Int), .int .u8 (a5.toNat : Int), .int .u8 (a6.toNat : Int), .int .u8 (a7.toNat : Int), .slice So no co, .slice Sb nb cb], .agg #[.int .i64 sf, .int .i64 st, .int .u32 se, .int .u32 ak, .int .i64 fg, .int .i64 wn, .int .i64 ug, .slice Q nq cq, .slice D nd cd]] w (PkPost (tcPut tos id fl pt ttl a0 a1 a2 a3 a4 a5 a6 a7 lo sf st se ak fg wn ug lq ld) w) := by
  obtain ⟨ii, hii, hz0, hz1, hz2⟩ := info_parts Try.info5
  have HP : Hid (tcPut tos id fl pt ttl a0 a1 a2 a3 a4 a5 a6 a7 lo sf st se ak fg wn ug lq ld = pkNone 1) := Lib.hid (if_pos (by rw [hv.1]; exact hg))
  have HG := Lib.hid hg
  clear hg
  have bel := Below.refl w.heap.size w
  go_enter Try.func8, Try.ntmps8
  go_wp2_with (first | ((with_reducible show wpList _ _ _ (⟨some 2, _, _, _, _, _⟩ :: _) _ _); refine wpList_box_n rfl 27 (.tmp 0) rfl #[.int .i64 tos, .int .i64 id, .int .i64 fl, .int .i64 pt, .int .i64 ttl, .int .i64 pr, .int .u8 (a0.toNat : Int), .int .u8 (a1.toNat : Int), .int .u8 (a2.toNat : Int), .int .u8 (a3.toNat : Int), .int .u8 (a4.toNat : Int), .int .u8 (a5.toNat : Int), .int .u8 (a6.toNat : Int), .int .u8 (a7.toNat : Int), .slice So no co, .slice Sb nb cb] rfl ?_; intro g2 w1 ge lt hh bb; have av_ho_p := ho.av_new ge; have av_hv_p := hv.av_new ge; have av_hb_p := hb.av_new ge; have op := Nat.le_trans bel.size ge; replace ho := ho.below bb; replace hv := hv.below bb; replace hb := hb.below bb; replace bel := bel.trans (bb.mono bel.size); have hp := hh; clear hh lt ge bb) | ((with_reducible show wpList _ _ _ (⟨some 3, _, _, _, _, _⟩ :: _) _ _); refine wpList_box_n rfl 34 (.tmp 1) rfl #[.int .i64 sf, .int .i64 st, .int .u32 se, .int .u32 ak, .int .i64 fg, .int .i64 wn, .int .i64 ug, .slice Q nq cq, .slice D nd cd] rfl ?_; intro g3 w2 ge lt hh bb; have d_p_d := ne_new (hlt hp) ge; have av_ho_d := ho.av_new ge; have av_hv_d := hv.av_new ge; have av_hb_d := hb.av_new ge; have od := Nat.le_trans bel.size ge; replace hp := blk_u hp bb; replace ho := ho.below bb; replace hv := hv.below bb; replace hb := hb.below bb; replace bel := bel.trans (bb.mono bel.size); have hd := hh; clear hh lt ge bb) | ((with_reducible show wpList _ _ _ (⟨some 4, _, _, _, _, _⟩ :: _) _ _); refine wpList_new_a rfl 27 rfl #[.int .i64 0, .int .i64 0, .int .i64 0, .int .i64 0, .int .i64 0, .int .i64 0, .int .u8 0, .int .u8 0, .int .u8 0, .int .u8 0, .int .u8 0, .int .u8 0, .int .u8 0, .int .u8 0, .slice none 0 0, .slice none 0 0] (by kernel_rfl) ?_; intro g4 w3 ge hh bb; have d_p_z := ne_new (hlt hp) ge; have d_d_z := ne_new (hlt hd) ge; have av_ho_z := ho.av_new ge; have av_hv_z := hv.av_new ge; have av_hb_z := hb.av_new ge; have oz := Nat.le_trans bel.size ge; replace hp := blk_u hp bb; replace hd := blk_u hd bb; replace ho := ho.below bb; replace hv := hv.below bb; replace hb := hb.below bb; replace bel := bel.trans (bb.mono bel.size); have hz := hh; clear hh ge bb; have R6 := Lib.hid (range_lit hd 0 9 [.int .i64 sf, .int .i64 st, .int .u32 se, .int .u32 ak, .int .i64 fg, .int .i64 wn, .int .i64 ug, .slice Q nq cq, .slice D nd cd] rfl)) | ((with_reducible show wpList _ _ _ (⟨some 6, _, _, _, _, _⟩ :: _) _ _); refine wpList_load_rng 34 (.tmp 3) rfl (by kernel_rfl) _ _ rfl _ R6.out _ Try.underlying34 rfl (by kernel_rfl) ?_))
  try clear R6
  with_reducible refine (writable_any _ _ _ _ _ _ _ _ _ _ _ _ _ _ _ hv).mono ?_
  rintro e w4 ⟨rfl, b4⟩
  replace hp := blk_u hp b4
  replace hd := blk_u hd b4
  replace hz := blk_u hz b4
  replace ho := ho.below b4
  replace hv := hv.below b4
  replace hb := hb.below b4
  replace bel := bel.trans (b4.mono bel.size)
  clear b4
  rw [HG.out]
  go_wp2_with (first | ((with_reducible show wpList _ _ _ (⟨none, Op.store _ (.tmp 4) _, _, _, _, _⟩ :: _) _ _); refine wpList_store_blk rfl 27 (.tmp 4) (.tmp 9) rfl g4 rfl _ rfl _ 27 hz (by rfl) (by kernel_rfl) (by kernel_rfl) ?_; intro w5 hq gr; replace ho := ho.away av_ho_z gr; replace hv := hv.away av_hv_z gr; replace hb := hb.away av_hb_z gr; replace hp := blk_a hp gr d_p_z; replace hd := blk_a hd gr d_d_z; replace bel := below_grown bel gr oz bel.size; clear hz; have hz := hq; clear hq gr))
  exact bodyPost_ret (results_cell_tmp_row rfl _ _ _ _ _ _ _ rfl hz Try.underlying27 rfl (by kernel_rfl) _ rfl) rfl (by rw [HP.out]; exact PkPost.none bel)
set_option linter.unusedVariables false in
set_option maxRecDepth 100000 in
set_option maxHeartbeats 16000000 in
theorem tcput_long (tos id fl pt ttl pr : Int) (a0 a1 a2 a3 a4 a5 a6 a7 : UInt8) (So Sb : Option Addr) (no co nb cb : Nat) (sf st se ak fg wn ug : Int) (Q : Option Addr) (nq cq : Nat) (D : Option Addr) (nd cd : Nat) (lo lq ld : List UInt8) (w : World) (ho : Sl w So no co lo) (hv : Sl w Q nq cq lq) (hb : Sl w D nd cd ld) (hg : segOk sf st fg wn ug nq = true) (hq : nq ≤ 40) (hn : 1460 < nq + nd) (hm : nd ≤ 100000) : Calls Try.prog 8 #[.agg #[.int .i64 tos, .int .i64 id, .int .i64 fl, .int .i64 pt, .int .i64 ttl, .int .i64 pr, .int .u8 (a0.toNat : Int), .int .u8 (a1.toNat : Int), .int .u8 (a2.toNat : Int), .int .u8 (a3.toNat : Int), .int .u8 (a4.toNat : Int), .int .u8 (a5.toNat : Int), .int .u8 (a6.toNat : Int), .int .u8 (a7.toNat : Int), .slice So no co, .slice Sb nb cb], .agg #[.int .i64 sf, .int .i64 st, .int .u32 se, .int .u32 ak, .int .i64 fg, .int .i64 wn, .int .i64 ug, .slice Q nq cq, .slice D nd cd]] w (PkPost (tcPut tos id fl pt ttl a0 a1 a2 a3 a4 a5 a6 a7 lo sf st se ak fg wn ug lq ld) w) := by
  obtain ⟨ii, hii, hz0, hz1, hz2⟩ := info_parts Try.info5
  have HP : Hid (tcPut tos id fl pt ttl a0 a1 a2 a3 a4 a5 a6 a7 lo sf st se ak fg wn ug lq ld = pkNone 2) := Lib.hid (by unfold tcPut; rw [if_neg (by rw [hv.1, hg]; decide), if_pos (by rw [hv.1, hb.1]; omega)])
  have HG := Lib.hid hg
  have n1 : (nq : Int) ≤ 40 := by omega
  have n2 : (0 : Int) ≤ nq := by omega
  have n3 : (0 : Int) ≤ nd := by omega
  have n4 : (nd : Int) ≤ 100000 := by omega
  have t0 : (1480 : Int) < 20 + nq + nd := by omega
  clear hg hq hn hm
  have bel := Below.refl w.heap.size w
  go_enter Try.func8, Try.ntmps8
  go_wp2_with (first | ((with_reducible show wpList _ _ _ (⟨some 2, _, _, _, _, _⟩ :: _) _ _); refine wpList_box_n rfl 27 (.tmp 0) rfl #[.int .i64 tos, .int .i64 id, .int .i64 fl, .int .i64 pt, .int .i64 ttl, .int .i64 pr, .int .u8 (a0.toNat : Int), .int .u8 (a1.toNat : Int), .int .u8 (a2.toNat : Int), .int .u8 (a3.toNat : Int), .int .u8 (a4.toNat : Int), .int .u8 (a5.toNat : Int), .int .u8 (a6.toNat : Int), .int .u8 (a7.toNat : Int), .slice So no co, .slice Sb nb cb] rfl ?_; intro g2 w1 ge lt hh bb; have av_ho_p := ho.av_new ge; have av_hv_p := hv.av_new ge; have av_hb_p := hb.av_new ge; have op := Nat.le_trans bel.size ge; replace ho := ho.below bb; replace hv := hv.below bb; replace hb := hb.below bb; replace bel := bel.trans (bb.mono bel.size); have hp := hh; clear hh lt ge bb) | ((with_reducible show wpList _ _ _ (⟨some 3, _, _, _, _, _⟩ :: _) _ _); refine wpList_box_n rfl 34 (.tmp 1) rfl #[.int .i64 sf, .int .i64 st, .int .u32 se, .int .u32 ak, .int .i64 fg, .int .i64 wn, .int .i64 ug, .slice Q nq cq, .slice D nd cd] rfl ?_; intro g3 w2 ge lt hh bb; have d_p_d := ne_new (hlt hp) ge; have av_ho_d := ho.av_new ge; have av_hv_d := hv.av_new ge; have av_hb_d := hb.av_new ge; have od := Nat.le_trans bel.size ge; replace hp := blk_u hp bb; replace ho := ho.below bb; replace hv := hv.below bb; replace hb := hb.below bb; replace bel := bel.trans (bb.mono bel.size); have hd := hh; clear hh lt ge bb) | ((with_reducible show wpList _ _ _ (⟨some 4, _, _, _, _, _⟩ :: _) _ _); refine wpList_new_a rfl 27 rfl #[.int .i64 0, .int .i64 0, .int .i64 0, .int .i64 0, .int .i64 0, .int .i64 0, .int .u8 0, .int .u8 0, .int .u8 0, .int .u8 0, .int .u8 0, .int .u8 0, .int .u8 0, .int .u8 0, .slice none 0 0, .slice none 0 0] (by kernel_rfl) ?_; intro g4 w3 ge hh bb; have d_p_z := ne_new (hlt hp) ge; have d_d_z := ne_new (hlt hd) ge; have av_ho_z := ho.av_new ge; have av_hv_z := hv.av_new ge; have av_hb_z := hb.av_new ge; have oz := Nat.le_trans bel.size ge; replace hp := blk_u hp bb; replace hd := blk_u hd bb; replace ho := ho.below bb; replace hv := hv.below bb; replace hb := hb.below bb; replace bel := bel.trans (bb.mono bel.size); have hz := hh; clear hh ge bb; have R6 := Lib.hid (range_lit hd 0 9 [.int .i64 sf, .int .i64 st, .int .u32 se, .int .u32 ak, .int .i64 fg, .int .i64 wn, .int .i64 ug, .slice Q nq cq, .slice D nd cd] rfl)) | ((with_reducible show wpList _ _ _ (⟨some 6, _, _, _, _, _⟩ :: _) _ _); refine wpList_load_rng 34 (.tmp 3) rfl (by kernel_rfl) _ _ rfl _ R6.out _ Try.underlying34 rfl (by kernel_rfl) ?_))
  try clear R6
  with_reducible refine (writable_any _ _ _ _ _ _ _ _ _ _ _ _ _ _ _ hv).mono ?_
  rintro e w4 ⟨rfl, b4⟩
  replace hp := blk_u hp b4
  replace hd := blk_u hd b4
  replace hz := blk_u hz b4
  replace ho := ho.below b4
  replace hv := hv.below b4
  replace hb := hb.below b4
  replace bel := bel.trans (b4.mono bel.size)
  clear b4
  rw [HG.out]
  have R11 := cell_lit hd 7 _ rfl
  have R15 := cell_lit hd 8 _ rfl
  go_wp2_with (first | ((with_reducible show wpList _ _ _ (⟨none, Op.store _ (.tmp 4) _, _, _, _, _⟩ :: _) _ _); refine wpList_store_blk rfl 27 (.tmp 4) (.tmp 19) rfl g4 rfl _ rfl _ 27 hz (by rfl) (by kernel_rfl) (by kernel_rfl) ?_; intro w5 hq gr; replace ho := ho.away av_ho_z gr; replace hv := hv.away av_hv_z gr; replace hb := hb.away av_hb_z gr; replace hp := blk_a hp gr d_p_z; replace hd := blk_a hd gr d_d_z; replace bel := below_grown bel gr oz bel.size; clear hz; have hz := hq; clear hq gr))
  try clear R11
  try clear R15
  exact bodyPost_ret (results_cell_tmp_row rfl _ _ _ _ _ _ _ rfl hz Try.underlying27 rfl (by kernel_rfl) _ rfl) rfl (by rw [HP.out]; exact PkPost.none bel)
set_option linter.unusedVariables false in
set_option maxRecDepth 100000 in
set_option maxHeartbeats 16000000 in
theorem tcput_ok (tos id fl pt ttl pr : Int) (a0 a1 a2 a3 a4 a5 a6 a7 : UInt8) (So Sb : Option Addr) (no co nb cb : Nat) (sf st se ak fg wn ug : Int) (Q : Option Addr) (nq cq : Nat) (D : Option Addr) (nd cd : Nat) (lo lq ld : List UInt8) (w : World) (ho : Sl w So no co lo) (hv : Sl w Q nq cq lq) (hb : Sl w D nd cd ld) (hg : segOk sf st fg wn ug nq = true) (hq : nq ≤ 40) (hq4 : nq % 4 = 0) (hn : nq + nd ≤ 1460) (hno : no ≤ 100000) (e0 : 0 ≤ se) (e1 : se < 4294967296) (k0 : 0 ≤ ak) (k1 : ak < 4294967296) : Calls Try.prog 8 #[.agg #[.int .i64 tos, .int .i64 id, .int .i64 fl, .int .i64 pt, .int .i64 ttl, .int .i64 pr, .int .u8 (a0.toNat : Int), .int .u8 (a1.toNat : Int), .int .u8 (a2.toNat : Int), .int .u8 (a3.toNat : Int), .int .u8 (a4.toNat : Int), .int .u8 (a5.toNat : Int), .int .u8 (a6.toNat : Int), .int .u8 (a7.toNat : Int), .slice So no co, .slice Sb nb cb], .agg #[.int .i64 sf, .int .i64 st, .int .u32 se, .int .u32 ak, .int .i64 fg, .int .i64 wn, .int .i64 ug, .slice Q nq cq, .slice D nd cd]] w (PkPost (tcPut tos id fl pt ttl a0 a1 a2 a3 a4 a5 a6 a7 lo sf st se ak fg wn ug lq ld) w) := by
  obtain ⟨ii, hii, hz0, hz1, hz2⟩ := info_parts Try.info5
  have HP : Hid (tcPut tos id fl pt ttl a0 a1 a2 a3 a4 a5 a6 a7 lo sf st se ak fg wn ug lq ld = (([tos, id, fl, pt, ttl, 6], [a0, a1, a2, a3, a4, a5, a6, a7]), (lo, tcBytes a0 a1 a2 a3 a4 a5 a6 a7 sf st se ak fg wn ug lq ld), 0)) := Lib.hid (by unfold tcPut; rw [if_neg (by rw [hv.1, hg]; decide), if_neg (by rw [hv.1, hb.1]; omega)])
  have HG := Lib.hid hg
  have HL1 := Lib.hid ho.1
  have HL2 : Hid ((tcBytes a0 a1 a2 a3 a4 a5 a6 a7 sf st se ak fg wn ug lq ld).length = 20 + nq + nd) := Lib.hid (by rw [tcBytes_len, hv.1, hb.1])
  have n1 : (nq : Int) ≤ 40 := by omega
  have n2 : (0 : Int) ≤ nq := by omega
  have n3 : (0 : Int) ≤ nd := by omega
  have n4 : (nd : Int) ≤ 100000 := by omega
  have t0 : decide ((1480 : Int) < 20 + nq + nd) = false := decide_eq_false (by omega)
  have HQ := Lib.hid hq
  have HQ4 := Lib.hid hq4
  have HN := Lib.hid hn
  have HNO := Lib.hid hno
  have E0 := Lib.hid e0
  have E1 := Lib.hid e1
  have K0 := Lib.hid k0
  have K1 := Lib.hid k1
  clear hg hq hq4 hn hno e0 e1 k0 k1
  have bel := Below.refl w.heap.size w
  go_enter Try.func8, Try.ntmps8
  go_wp2_with (first | ((with_reducible show wpList _ _ _ (⟨some 2, _, _, _, _, _⟩ :: _) _ _); refine wpList_box_n rfl 27 (.tmp 0) rfl #[.int .i64 tos, .int .i64 id, .int .i64 fl, .int .i64 pt, .int .i64 ttl, .int .i64 pr, .int .u8 (a0.toNat : Int), .int .u8 (a1.toNat : Int), .int .u8 (a2.toNat : Int), .int .u8 (a3.toNat : Int), .int .u8 (a4.toNat : Int), .int .u8 (a5.toNat : Int), .int .u8 (a6.toNat : Int), .int .u8 (a7.toNat : Int), .slice So no co, .slice Sb nb cb] rfl ?_; intro g2 w1 ge lt hh bb; have av_ho_p := ho.av_new ge; have av_hv_p := hv.av_new ge; have av_hb_p := hb.av_new ge; have op := Nat.le_trans bel.size ge; replace ho := ho.below bb; replace hv := hv.below bb; replace hb := hb.below bb; replace bel := bel.trans (bb.mono bel.size); have hp := hh; clear hh lt ge bb) | ((with_reducible show wpList _ _ _ (⟨some 3, _, _, _, _, _⟩ :: _) _ _); refine wpList_box_n rfl 34 (.tmp 1) rfl #[.int .i64 sf, .int .i64 st, .int .u32 se, .int .u32 ak, .int .i64 fg, .int .i64 wn, .int .i64 ug, .slice Q nq cq, .slice D nd cd] rfl ?_; intro g3 w2 ge lt hh bb; have d_p_d := ne_new (hlt hp) ge; have av_ho_d := ho.av_new ge; have av_hv_d := hv.av_new ge; have av_hb_d := hb.av_new ge; have od := Nat.le_trans bel.size ge; replace hp := blk_u hp bb; replace ho := ho.below bb; replace hv := hv.below bb; replace hb := hb.below bb; replace bel := bel.trans (bb.mono bel.size); have hd := hh; clear hh lt ge bb) | ((with_reducible show wpList _ _ _ (⟨some 4, _, _, _, _, _⟩ :: _) _ _); refine wpList_new_a rfl 27 rfl #[.int .i64 0, .int .i64 0, .int .i64 0, .int .i64 0, .int .i64 0, .int .i64 0, .int .u8 0, .int .u8 0, .int .u8 0, .int .u8 0, .int .u8 0, .int .u8 0, .int .u8 0, .int .u8 0, .slice none 0 0, .slice none 0 0] (by kernel_rfl) ?_; intro g4 w3 ge hh bb; have d_p_z := ne_new (hlt hp) ge; have d_d_z := ne_new (hlt hd) ge; have av_ho_z := ho.av_new ge; have av_hv_z := hv.av_new ge; have av_hb_z := hb.av_new ge; have oz := Nat.le_trans bel.size ge; replace hp := blk_u hp bb; replace hd := blk_u hd bb; replace ho := ho.below bb; replace hv := hv.below bb; replace hb := hb.below bb; replace bel := bel.trans (bb.mono bel.size); have hz := hh; clear hh ge bb; have R6 := Lib.hid (range_lit hd 0 9 [.int .i64 sf, .int .i64 st, .int .u32 se, .int .u32 ak, .int .i64 fg, .int .i64 wn, .int .i64 ug, .slice Q nq cq, .slice D nd cd] rfl)) | ((with_reducible show wpList _ _ _ (⟨some 6, _, _, _, _, _⟩ :: _) _ _); refine wpList_load_rng 34 (.tmp 3) rfl (by kernel_rfl) _ _ rfl _ R6.out _ Try.underlying34 rfl (by kernel_rfl) ?_))
  try clear R6
  with_reducible refine (writable_any _ _ _ _ _ _ _ _ _ _ _ _ _ _ _ hv).mono ?_
  rintro e w4 ⟨rfl, b4⟩
  replace hp := blk_u hp b4
  replace hd := blk_u hd b4
  replace hz := blk_u hz b4
  replace ho := ho.below b4
  replace hv := hv.below b4
  replace hb := hb.below b4
  replace bel := bel.trans (b4.mono bel.size)
  clear b4
  rw [HG.out]
  have R11 := cell_lit hd 7 _ rfl
  have R15 := cell_lit hd 8 _ rfl
  go_wp2_with (first | ((with_reducible show wpList _ _ _ (⟨none, Op.store _ (.tmp 20) _, _, _, _, _⟩ :: _) _ _); refine wpList_store_part rfl 3 (.tmp 20) (.const (.int .i64 6)) rfl g2 5 rfl [.int .i64 6] rfl [.int .i64 tos, .int .i64 id, .int .i64 fl, .int .i64 pt, .int .i64 ttl, .int .i64 pr, .int .u8 (a0.toNat : Int), .int .u8 (a1.toNat : Int), .int .u8 (a2.toNat : Int), .int .u8 (a3.toNat : Int), .int .u8 (a4.toNat : Int), .int .u8 (a5.toNat : Int), .int .u8 (a6.toNat : Int), .int .u8 (a7.toNat : Int), .slice So no co, .slice Sb nb cb] 27 hp (by simp) [.int .i64 tos, .int .i64 id, .int .i64 fl, .int .i64 pt, .int .i64 ttl, .int .i64 6, .int .u8 (a0.toNat : Int), .int .u8 (a1.toNat : Int), .int .u8 (a2.toNat : Int), .int .u8 (a3.toNat : Int), .int .u8 (a4.toNat : Int), .int .u8 (a5.toNat : Int), .int .u8 (a6.toNat : Int), .int .u8 (a7.toNat : Int), .slice So no co, .slice Sb nb cb] rfl (by kernel_rfl) (by rfl) ?_; intro w5 hq gr; replace ho := ho.away av_ho_p gr; replace hv := hv.away av_hv_p gr; replace hb := hb.away av_hb_p gr; replace hd := blk_a hd gr (ne_symm d_p_d); replace hz := blk_a hz gr (ne_symm d_p_z); replace bel := below_grown bel gr op bel.size; clear hp; have hp := hq; clear hq gr) | ((with_reducible show wpList _ _ _ (⟨some 21, _, _, _, _, _⟩ :: _) _ _); refine wpList_lit_n rfl 25 5 0 _ rfl #[] (.int .u8 0) Try.underlying25 (by kernel_rfl) 1 (by kernel_rfl) (by decide) (by kernel_rfl) ?_; intro g21 w6 ge lt hh bb; have hl : w6.heap[g21]? = some (.cells (([] : List UInt8).map u8v).toArray 5 (0, 0)) := (by simpa [u8v, byteOf_val] using hh); have e0w := own_lit (B := w5.heap.size) ([]) hl ge 0 rfl (by simp [maxLen]); have e0 := (own_sl e0w).1; have e0lo := bel.size; clear hl; have e0ge := ge; have lz_e0 := bb.size; have y_e0_p := Lib.hid (hlt hp); have y_e0_d := Lib.hid (hlt hd); have y_e0_z := Lib.hid (hlt hz); have bl_ho_e0 := ho.bl_new; have bl_hv_e0 := hv.bl_new; have bl_hb_e0 := hb.bl_new; replace hp := blk_u hp bb; replace hd := blk_u hd bb; replace hz := blk_u hz bb; replace ho := ho.below bb; replace hv := hv.below bb; replace hb := hb.below bb; replace bel := bel.trans (bb.mono bel.size); clear hh lt ge bb; have av_e0_p := (own_sl e0w).2.av y_e0_p.out; have av_e0_d := (own_sl e0w).2.av y_e0_d.out; have av_e0_z := (own_sl e0w).2.av y_e0_z.out; have R23 := cell_lit hp 14 _ rfl) | ((with_reducible show wpList _ _ _ (⟨some 24, _, _, _, _, _⟩ :: _) _ _); refine wpList_append_bb _ rfl (.tmp 21) (.tmp 23) 25 rfl (w5.heap.size) 5 ii (.int .u8 0) Try.underlying25 hii hz0 hz1 hz2 rfl _ (0) ([]) rfl e0w (So) (no) (co) (lo) rfl ho (by have := HNO.out; omega) lz_e0 ?_; intro v24 w7 own_ bb; replace ho := ho.under bl_ho_e0 bb; replace hv := hv.under bl_hv_e0 bb; replace hb := hb.under bl_hb_e0 bb; replace hp := blk_under hp bb y_e0_p.out; replace hd := blk_under hd bb y_e0_d.out; replace hz := blk_under hz bb y_e0_z.out; replace bel := bel.trans (bb.mono e0lo); have lz_so := Nat.le_trans lz_e0 bb.size; clear bb; clear e0 e0w lz_e0; replace own_ : w7.ownsRow (w5.heap.size) 5 1 v24 (no) ((lo : List UInt8).map u8v) := (by simpa using own_); obtain ⟨A24, c24, rfl⟩ := own_val own_; have sow := own_; have so := (own_sl own_).1; have fr_so := (own_sl own_).2; clear own_; have av_so_p := fr_so.av y_e0_p.out; have av_so_d := fr_so.av y_e0_d.out; have av_so_z := fr_so.av y_e0_z.out) | ((with_reducible show wpList _ _ _ (⟨none, Op.store _ (.tmp 25) _, _, _, _, _⟩ :: _) _ _); refine wpList_store_part rfl 25 (.tmp 25) (.tmp 24) rfl g2 14 rfl [.slice A24 no c24] rfl [.int .i64 tos, .int .i64 id, .int .i64 fl, .int .i64 pt, .int .i64 ttl, .int .i64 6, .int .u8 (a0.toNat : Int), .int .u8 (a1.toNat : Int), .int .u8 (a2.toNat : Int), .int .u8 (a3.toNat : Int), .int .u8 (a4.toNat : Int), .int .u8 (a5.toNat : Int), .int .u8 (a6.toNat : Int), .int .u8 (a7.toNat : Int), .slice So no co, .slice Sb nb cb] 27 hp (by simp) [.int .i64 tos, .int .i64 id, .int .i64 fl, .int .i64 pt, .int .i64 ttl, .int .i64 6, .int .u8 (a0.toNat : Int), .int .u8 (a1.toNat : Int), .int .u8 (a2.toNat : Int), .int .u8 (a3.toNat : Int), .int .u8 (a4.toNat : Int), .int .u8 (a5.toNat : Int), .int .u8 (a6.toNat : Int), .int .u8 (a7.toNat : Int), .slice A24 no c24, .slice Sb nb cb] rfl (by kernel_rfl) (by rfl) ?_; intro w8 hq gr; replace ho := ho.away av_ho_p gr; replace hv := hv.away av_hv_p gr; replace hb := hb.away av_hb_p gr; replace so := so.away av_so_p gr; replace sow := own_away sow y_e0_p.out gr; replace lz_so := Nat.le_trans lz_so gr.size; replace hd := blk_a hd gr (ne_symm d_p_d); replace hz := blk_a hz gr (ne_symm d_p_z); replace bel := below_grown bel gr op bel.size; clear hp; have hp := hq; clear hq gr; have R26 := Lib.hid (range_lit hp 0 16 [.int .i64 tos, .int .i64 id, .int .i64 fl, .int .i64 pt, .int .i64 ttl, .int .i64 6, .int .u8 (a0.toNat : Int), .int .u8 (a1.toNat : Int), .int .u8 (a2.toNat : Int), .int .u8 (a3.toNat : Int), .int .u8 (a4.toNat : Int), .int .u8 (a5.toNat : Int), .int .u8 (a6.toNat : Int), .int .u8 (a7.toNat : Int), .slice A24 no c24, .slice Sb nb cb] rfl)) | ((with_reducible show wpList _ _ _ (⟨some 26, _, _, _, _, _⟩ :: _) _ _); refine wpList_load_rng 27 (.tmp 2) rfl (by kernel_rfl) _ _ rfl _ R26.out _ Try.underlying27 rfl (by kernel_rfl) ?_; have R27 := Lib.hid (range_lit hd 0 9 [.int .i64 sf, .int .i64 st, .int .u32 se, .int .u32 ak, .int .i64 fg, .int .i64 wn, .int .i64 ug, .slice Q nq cq, .slice D nd cd] rfl)) | ((with_reducible show wpList _ _ _ (⟨some 27, _, _, _, _, _⟩ :: _) _ _); refine wpList_load_rng 34 (.tmp 3) rfl (by kernel_rfl) _ _ rfl _ R27.out _ Try.underlying34 rfl (by kernel_rfl) ?_))
  try clear R11
  try clear R15
  try clear R23
  try clear R26
  try clear R27
  with_reducible refine (tcwrite_any _ _ _ _ _ _ _ _ _ _ _ _ _ _ _ _ _ _ _ _ _ _ _ _ _ _ _ _ _ _ _ _ _ _ _ hv hb (by have := HN.out; omega) HQ.out HQ4.out E0.out E1.out K0.out K1.out).mono ?_
  rintro e w9 ⟨v, rfl, sbw, b9⟩
  have y_sb_p := Lib.hid (hlt hp)
  have y_sb_d := Lib.hid (hlt hd)
  have y_sb_z := Lib.hid (hlt hz)
  have bl_ho_sb := ho.bl_new
  have bl_hv_sb := hv.bl_new
  have bl_hb_sb := hb.bl_new
  have bl_so_sb := so.bl_new
  have sblo := bel.size
  have lz_sb := b9.size
  replace hp := blk_u hp b9
  replace hd := blk_u hd b9
  replace hz := blk_u hz b9
  replace ho := ho.below b9
  replace hv := hv.below b9
  replace hb := hb.below b9
  replace so := so.below b9
  replace sow := own_under sow b9
  replace lz_so := Nat.le_trans lz_so b9.size
  replace bel := bel.trans (b9.mono bel.size)
  clear b9
  obtain ⟨Asb, csb, rfl⟩ := own_val sbw
  have sb := (own_sl sbw).1
  have fr_sb := (own_sl sbw).2
  have av_sb_p := fr_sb.av y_sb_p.out
  have av_sb_d := fr_sb.av y_sb_d.out
  have av_sb_z := fr_sb.av y_sb_z.out
  go_wp2_with (first | ((with_reducible show wpList _ _ _ (⟨none, Op.store _ (.tmp 29) _, _, _, _, _⟩ :: _) _ _); refine wpList_store_part rfl 25 (.tmp 29) (.tmp 28) rfl g2 15 rfl [.slice Asb (20 + nq + nd) csb] rfl [.int .i64 tos, .int .i64 id, .int .i64 fl, .int .i64 pt, .int .i64 ttl, .int .i64 6, .int .u8 (a0.toNat : Int), .int .u8 (a1.toNat : Int), .int .u8 (a2.toNat : Int), .int .u8 (a3.toNat : Int), .int .u8 (a4.toNat : Int), .int .u8 (a5.toNat : Int), .int .u8 (a6.toNat : Int), .int .u8 (a7.toNat : Int), .slice A24 no c24, .slice Sb nb cb] 27 hp (by simp) [.int .i64 tos, .int .i64 id, .int .i64 fl, .int .i64 pt, .int .i64 ttl, .int .i64 6, .int .u8 (a0.toNat : Int), .int .u8 (a1.toNat : Int), .int .u8 (a2.toNat : Int), .int .u8 (a3.toNat : Int), .int .u8 (a4.toNat : Int), .int .u8 (a5.toNat : Int), .int .u8 (a6.toNat : Int), .int .u8 (a7.toNat : Int), .slice A24 no c24, .slice Asb (20 + nq + nd) csb] rfl (by kernel_rfl) (by rfl) ?_; intro w10 hq gr; replace ho := ho.away av_ho_p gr; replace hv := hv.away av_hv_p gr; replace hb := hb.away av_hb_p gr; replace so := so.away av_so_p gr; replace sow := own_away sow y_e0_p.out gr; replace sb := sb.away av_sb_p gr; replace sbw := own_away sbw y_sb_p.out gr; replace lz_so := Nat.le_trans lz_so gr.size; replace lz_sb := Nat.le_trans lz_sb gr.size; replace hd := blk_a hd gr (ne_symm d_p_d); replace hz := blk_a hz gr (ne_symm d_p_z); replace bel := below_grown bel gr op bel.size; clear hp; have hp := hq; clear hq gr; have R30 := Lib.hid (range_lit hp 0 16 [.int .i64 tos, .int .i64 id, .int .i64 fl, .int .i64 pt, .int .i64 ttl, .int .i64 6, .int .u8 (a0.toNat : Int), .int .u8 (a1.toNat : Int), .int .u8 (a2.toNat : Int), .int .u8 (a3.toNat : Int), .int .u8 (a4.toNat : Int), .int .u8 (a5.toNat : Int), .int .u8 (a6.toNat : Int), .int .u8 (a7.toNat : Int), .slice A24 no c24, .slice Asb (20 + nq + nd) csb] rfl)) | ((with_reducible show wpList _ _ _ (⟨some 30, _, _, _, _, _⟩ :: _) _ _); refine wpList_load_rng 27 (.tmp 2) rfl (by kernel_rfl) _ _ rfl _ R30.out _ Try.underlying27 rfl (by kernel_rfl) ?_) | ((with_reducible show wpList _ _ _ (⟨none, Op.store _ (.tmp 4) _, _, _, _, _⟩ :: _) _ _); refine wpList_store_blk rfl 27 (.tmp 4) (.tmp 30) rfl g4 rfl _ rfl _ 27 hz (by rfl) (by kernel_rfl) (by kernel_rfl) ?_; intro w11 hq gr; replace ho := ho.away av_ho_z gr; replace hv := hv.away av_hv_z gr; replace hb := hb.away av_hb_z gr; replace so := so.away av_so_z gr; replace sow := own_away sow y_e0_z.out gr; replace sb := sb.away av_sb_z gr; replace sbw := own_away sbw y_sb_z.out gr; replace lz_so := Nat.le_trans lz_so gr.size; replace lz_sb := Nat.le_trans lz_sb gr.size; replace hp := blk_a hp gr d_p_z; replace hd := blk_a hd gr d_d_z; replace bel := below_grown bel gr oz bel.size; clear hz; have hz := hq; clear hq gr))
  try clear R30
  exact bodyPost_ret (results_cell_tmp_row rfl _ _ _ _ _ _ _ rfl hz Try.underlying27 rfl (by kernel_rfl) _ rfl) rfl ⟨tos, id, fl, pt, ttl, 6, a0, a1, a2, a3, a4, a5, a6, a7, lo, tcBytes a0 a1 a2 a3 a4 a5 a6 a7 sf st se ak fg wn ug lq ld, A24, Asb, c24, csb, 0, by rw [HL1.out, HL2.out]; rfl, by rw [HL1.out]; exact so, by rw [HL2.out]; exact sb, by rw [HL1.out]; exact fr_so.mono e0lo, by rw [HL2.out]; exact fr_sb.mono sblo, bel, HP.out.symm⟩
theorem segOk_bnd {sf st fg wn ug : Int} {nq : Nat} (h : segOk sf st fg wn ug nq = true) : nq ≤ 40 ∧ nq % 4 = 0 := by
  unfold segOk at h
  simp only [Bool.and_eq_true, decide_eq_true_eq] at h
  exact ⟨h.1.2, h.2⟩
theorem tcput_any (tos id fl pt ttl pr : Int) (a0 a1 a2 a3 a4 a5 a6 a7 : UInt8) (So Sb : Option Addr) (no co nb cb : Nat) (sf st se ak fg wn ug : Int) (Q : Option Addr) (nq cq : Nat) (D : Option Addr) (nd cd : Nat) (lo lq ld : List UInt8) (w : World) (ho : Sl w So no co lo) (hv : Sl w Q nq cq lq) (hb : Sl w D nd cd ld) (hn : nd ≤ 100000) (hno : no ≤ 100000) (e0 : 0 ≤ se) (e1 : se < 4294967296) (k0 : 0 ≤ ak) (k1 : ak < 4294967296) : Calls Try.prog 8 #[.agg #[.int .i64 tos, .int .i64 id, .int .i64 fl, .int .i64 pt, .int .i64 ttl, .int .i64 pr, .int .u8 (a0.toNat : Int), .int .u8 (a1.toNat : Int), .int .u8 (a2.toNat : Int), .int .u8 (a3.toNat : Int), .int .u8 (a4.toNat : Int), .int .u8 (a5.toNat : Int), .int .u8 (a6.toNat : Int), .int .u8 (a7.toNat : Int), .slice So no co, .slice Sb nb cb], .agg #[.int .i64 sf, .int .i64 st, .int .u32 se, .int .u32 ak, .int .i64 fg, .int .i64 wn, .int .i64 ug, .slice Q nq cq, .slice D nd cd]] w (PkPost (tcPut tos id fl pt ttl a0 a1 a2 a3 a4 a5 a6 a7 lo sf st se ak fg wn ug lq ld) w) := by
  rcases (by decide : ∀ b : Bool, b = true ∨ b = false) (segOk sf st fg wn ug nq) with hg | hg
  · obtain ⟨hq, hq4⟩ := segOk_bnd hg
    by_cases hl : nq + nd ≤ 1460
    · exact tcput_ok tos id fl pt ttl pr a0 a1 a2 a3 a4 a5 a6 a7 So Sb no co nb cb sf st se ak fg wn ug Q nq cq D nd cd lo lq ld w ho hv hb hg hq hq4 hl hno e0 e1 k0 k1
    · exact tcput_long tos id fl pt ttl pr a0 a1 a2 a3 a4 a5 a6 a7 So Sb no co nb cb sf st se ak fg wn ug Q nq cq D nd cd lo lq ld w ho hv hb hg hq (by omega) hn
  · exact tcput_bad tos id fl pt ttl pr a0 a1 a2 a3 a4 a5 a6 a7 So Sb no co nb cb sf st se ak fg wn ug Q nq cq D nd cd lo lq ld w ho hv hb hg
end Go.Proofs.Ytkmihoijnjdbnaa
