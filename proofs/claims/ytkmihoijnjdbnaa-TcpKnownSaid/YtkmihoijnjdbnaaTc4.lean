/- The reference's GetTcp. -/
import Derived.Test.YtkmihoijnjdbnaaTcl
import Derived.Test.YtkmihoijnjdbnaaRd3
import Derived.Test.YtkmihoijnjdbnaaUd3
import Derived.Deep.CutRange
namespace Go.Proofs.Ytkmihoijnjdbnaa
open Go.RowKit

set_option linter.unusedVariables false in
set_option maxRecDepth 100000 in
set_option maxHeartbeats 16000000 in
theorem rtcget_1 (tos id fl pt ttl pr : Int) (a0 a1 a2 a3 a4 a5 a6 a7 : UInt8) (So Sb : Option Addr) (no co nb cb : Nat) (lb : List UInt8) (w : World) (hp : pr ≠ 6) : Calls Try.prog 11 #[.agg #[.int .i64 tos, .int .i64 id, .int .i64 fl, .int .i64 pt, .int .i64 ttl, .int .i64 pr, .int .u8 (a0.toNat : Int), .int .u8 (a1.toNat : Int), .int .u8 (a2.toNat : Int), .int .u8 (a3.toNat : Int), .int .u8 (a4.toNat : Int), .int .u8 (a5.toNat : Int), .int .u8 (a6.toNat : Int), .int .u8 (a7.toNat : Int), .slice So no co, .slice Sb nb cb]] w (SgPost (tcGet fl pt pr a0 a1 a2 a3 a4 a5 a6 a7 (lb)) w) := by
  have HP : Hid (tcGet fl pt pr a0 a1 a2 a3 a4 a5 a6 a7 (lb) = sgNone 1) := Lib.hid (tc_err (by exact if_pos hp) (by decide))
  have t0 : (pr == 6) = false := by simpa using hp
  have t1 : (pr != 6) = true := by simpa using hp
  clear hp
  have bel := Below.refl w.heap.size w
  go_enter Try.func11, Try.ntmps11
  go_wp2_with (first | ((with_reducible show wpList _ _ _ (⟨some 1, _, _, _, _, _⟩ :: _) _ _); refine wpList_box_n rfl 40 (.tmp 0) rfl #[.int .i64 tos, .int .i64 id, .int .i64 fl, .int .i64 pt, .int .i64 ttl, .int .i64 pr, .int .u8 (a0.toNat : Int), .int .u8 (a1.toNat : Int), .int .u8 (a2.toNat : Int), .int .u8 (a3.toNat : Int), .int .u8 (a4.toNat : Int), .int .u8 (a5.toNat : Int), .int .u8 (a6.toNat : Int), .int .u8 (a7.toNat : Int), .slice So no co, .slice Sb nb cb] rfl ?_; intro g1 w1 ge lt hh bb; have op := Nat.le_trans bel.size ge; replace bel := bel.trans (bb.mono bel.size); have hp := hh; clear hh lt ge bb) | ((with_reducible show wpList _ _ _ (⟨some 2, _, _, _, _, _⟩ :: _) _ _); refine wpList_new_a rfl 37 rfl #[.int .i64 0, .int .i64 0, .int .u32 0, .int .u32 0, .int .i64 0, .int .i64 0, .int .i64 0, .slice none 0 0, .slice none 0 0] (by kernel_rfl) ?_; intro g2 w2 ge hh bb; have d_p_z := ne_new (hlt hp) ge; have oz := Nat.le_trans bel.size ge; replace hp := blk_u hp bb; replace bel := bel.trans (bb.mono bel.size); have hz := hh; clear hh ge bb; have R7 := cell_lit hp 5 _ rfl) | ((with_reducible show wpList _ _ _ (⟨none, Op.store _ (.tmp 2) _, _, _, _, _⟩ :: _) _ _); refine wpList_store_blk rfl 37 (.tmp 2) (.tmp 9) rfl g2 rfl _ rfl _ 37 hz (by rfl) (by kernel_rfl) (by kernel_rfl) ?_; intro w3 hq gr; replace hp := blk_a hp gr d_p_z; replace bel := below_grown bel gr oz bel.size; clear hz; have hz := hq; clear hq gr))
  try clear R7
  exact bodyPost_ret (results_cell_tmp_row rfl _ _ _ _ _ _ _ rfl hz Try.underlying37 rfl (by kernel_rfl) (.int .i64 1) rfl) rfl (SgPost.none HP.out.symm bel)
set_option linter.unusedVariables false in
set_option maxRecDepth 100000 in
set_option maxHeartbeats 16000000 in
theorem rtcget_2 (tos id fl pt ttl : Int) (a0 a1 a2 a3 a4 a5 a6 a7 : UInt8) (So Sb : Option Addr) (no co nb cb : Nat) (lb : List UInt8) (w : World) (hw : (decide (pt = 0) && decide (fl % 2 = 0)) = false) : Calls Try.prog 11 #[.agg #[.int .i64 tos, .int .i64 id, .int .i64 fl, .int .i64 pt, .int .i64 ttl, .int .i64 6, .int .u8 (a0.toNat : Int), .int .u8 (a1.toNat : Int), .int .u8 (a2.toNat : Int), .int .u8 (a3.toNat : Int), .int .u8 (a4.toNat : Int), .int .u8 (a5.toNat : Int), .int .u8 (a6.toNat : Int), .int .u8 (a7.toNat : Int), .slice So no co, .slice Sb nb cb]] w (SgPost (tcGet fl pt 6 a0 a1 a2 a3 a4 a5 a6 a7 (lb)) w) := by
  have HP : Hid (tcGet fl pt 6 a0 a1 a2 a3 a4 a5 a6 a7 (lb) = sgNone 10) := Lib.hid (tc_err (by unfold tcErr; rw [if_neg (by decide), if_pos (by simpa using hw)]) (by decide))
  have HW := Lib.hid hw
  clear hw
  have bel := Below.refl w.heap.size w
  go_enter Try.func11, Try.ntmps11
  go_wp2_with (first | ((with_reducible show wpList _ _ _ (⟨some 1, _, _, _, _, _⟩ :: _) _ _); refine wpList_box_n rfl 40 (.tmp 0) rfl #[.int .i64 tos, .int .i64 id, .int .i64 fl, .int .i64 pt, .int .i64 ttl, .int .i64 6, .int .u8 (a0.toNat : Int), .int .u8 (a1.toNat : Int), .int .u8 (a2.toNat : Int), .int .u8 (a3.toNat : Int), .int .u8 (a4.toNat : Int), .int .u8 (a5.toNat : Int), .int .u8 (a6.toNat : Int), .int .u8 (a7.toNat : Int), .slice So no co, .slice Sb nb cb] rfl ?_; intro g1 w1 ge lt hh bb; have op := Nat.le_trans bel.size ge; replace bel := bel.trans (bb.mono bel.size); have hp := hh; clear hh lt ge bb) | ((with_reducible show wpList _ _ _ (⟨some 2, _, _, _, _, _⟩ :: _) _ _); refine wpList_new_a rfl 37 rfl #[.int .i64 0, .int .i64 0, .int .u32 0, .int .u32 0, .int .i64 0, .int .i64 0, .int .i64 0, .slice none 0 0, .slice none 0 0] (by kernel_rfl) ?_; intro g2 w2 ge hh bb; have d_p_z := ne_new (hlt hp) ge; have oz := Nat.le_trans bel.size ge; replace hp := blk_u hp bb; replace bel := bel.trans (bb.mono bel.size); have hz := hh; clear hh ge bb; have R7 := cell_lit hp 5 _ rfl; have R10 := Lib.hid (range_lit hp 0 16 [.int .i64 tos, .int .i64 id, .int .i64 fl, .int .i64 pt, .int .i64 ttl, .int .i64 6, .int .u8 (a0.toNat : Int), .int .u8 (a1.toNat : Int), .int .u8 (a2.toNat : Int), .int .u8 (a3.toNat : Int), .int .u8 (a4.toNat : Int), .int .u8 (a5.toNat : Int), .int .u8 (a6.toNat : Int), .int .u8 (a7.toNat : Int), .slice So no co, .slice Sb nb cb] rfl)) | ((with_reducible show wpList _ _ _ (⟨some 10, _, _, _, _, _⟩ :: _) _ _); refine wpList_load_rng 40 (.tmp 1) rfl (by kernel_rfl) _ _ rfl _ R10.out _ Try.underlying40 rfl (by kernel_rfl) ?_))
  try clear R7
  try clear R10
  with_reducible refine (rwhole_any _ _ _ _ _ _ _ _ _ _ _ _ _ _ _ _ _ _ _ _ _).mono ?_
  rintro e w3 ⟨rfl, b3⟩
  replace hp := blk_u hp b3
  replace hz := blk_u hz b3
  replace bel := bel.trans (b3.mono bel.size)
  clear b3
  rw [HW.out]
  go_wp2_with (first | ((with_reducible show wpList _ _ _ (⟨none, Op.store _ (.tmp 2) _, _, _, _, _⟩ :: _) _ _); refine wpList_store_blk rfl 37 (.tmp 2) (.tmp 13) rfl g2 rfl _ rfl _ 37 hz (by rfl) (by kernel_rfl) (by kernel_rfl) ?_; intro w4 hq gr; replace hp := blk_a hp gr d_p_z; replace bel := below_grown bel gr oz bel.size; clear hz; have hz := hq; clear hq gr))
  exact bodyPost_ret (results_cell_tmp_row rfl _ _ _ _ _ _ _ rfl hz Try.underlying37 rfl (by kernel_rfl) (.int .i64 10) rfl) rfl (SgPost.none HP.out.symm bel)
set_option linter.unusedVariables false in
set_option maxRecDepth 100000 in
set_option maxHeartbeats 16000000 in
theorem rtcget_3 (tos id fl pt ttl : Int) (a0 a1 a2 a3 a4 a5 a6 a7 : UInt8) (So Sb : Option Addr) (no co nb cb : Nat) (lb : List UInt8) (w : World) (hb : Sl w Sb nb cb lb) (hw : (decide (pt = 0) && decide (fl % 2 = 0)) = true) (hn : nb < 20) : Calls Try.prog 11 #[.agg #[.int .i64 tos, .int .i64 id, .int .i64 fl, .int .i64 pt, .int .i64 ttl, .int .i64 6, .int .u8 (a0.toNat : Int), .int .u8 (a1.toNat : Int), .int .u8 (a2.toNat : Int), .int .u8 (a3.toNat : Int), .int .u8 (a4.toNat : Int), .int .u8 (a5.toNat : Int), .int .u8 (a6.toNat : Int), .int .u8 (a7.toNat : Int), .slice So no co, .slice Sb nb cb]] w (SgPost (tcGet fl pt 6 a0 a1 a2 a3 a4 a5 a6 a7 (lb)) w) := by
  have HP : Hid (tcGet fl pt 6 a0 a1 a2 a3 a4 a5 a6 a7 (lb) = sgNone 3) := Lib.hid (tc_err (by unfold tcErr; rw [if_neg (by decide), if_neg (by simpa using hw), if_pos (by rw [hb.1]; exact hn)]) (by decide))
  have HW := Lib.hid hw
  have t0 : (nb : Int) < 20 := by omega
  clear hw hn
  have bel := Below.refl w.heap.size w
  go_enter Try.func11, Try.ntmps11
  go_wp2_with (first | ((with_reducible show wpList _ _ _ (⟨some 1, _, _, _, _, _⟩ :: _) _ _); refine wpList_box_n rfl 40 (.tmp 0) rfl #[.int .i64 tos, .int .i64 id, .int .i64 fl, .int .i64 pt, .int .i64 ttl, .int .i64 6, .int .u8 (a0.toNat : Int), .int .u8 (a1.toNat : Int), .int .u8 (a2.toNat : Int), .int .u8 (a3.toNat : Int), .int .u8 (a4.toNat : Int), .int .u8 (a5.toNat : Int), .int .u8 (a6.toNat : Int), .int .u8 (a7.toNat : Int), .slice So no co, .slice Sb nb cb] rfl ?_; intro g1 w1 ge lt hh bb; have av_hb_p := hb.av_new ge; have op := Nat.le_trans bel.size ge; replace hb := hb.below bb; replace bel := bel.trans (bb.mono bel.size); have hp := hh; clear hh lt ge bb) | ((with_reducible show wpList _ _ _ (⟨some 2, _, _, _, _, _⟩ :: _) _ _); refine wpList_new_a rfl 37 rfl #[.int .i64 0, .int .i64 0, .int .u32 0, .int .u32 0, .int .i64 0, .int .i64 0, .int .i64 0, .slice none 0 0, .slice none 0 0] (by kernel_rfl) ?_; intro g2 w2 ge hh bb; have d_p_z := ne_new (hlt hp) ge; have av_hb_z := hb.av_new ge; have oz := Nat.le_trans bel.size ge; replace hp := blk_u hp bb; replace hb := hb.below bb; replace bel := bel.trans (bb.mono bel.size); have hz := hh; clear hh ge bb; have R7 := cell_lit hp 5 _ rfl; have R10 := Lib.hid (range_lit hp 0 16 [.int .i64 tos, .int .i64 id, .int .i64 fl, .int .i64 pt, .int .i64 ttl, .int .i64 6, .int .u8 (a0.toNat : Int), .int .u8 (a1.toNat : Int), .int .u8 (a2.toNat : Int), .int .u8 (a3.toNat : Int), .int .u8 (a4.toNat : Int), .int .u8 (a5.toNat : Int), .int .u8 (a6.toNat : Int), .int .u8 (a7.toNat : Int), .slice So no co, .slice Sb nb cb] rfl)) | ((with_reducible show wpList _ _ _ (⟨some 10, _, _, _, _, _⟩ :: _) _ _); refine wpList_load_rng 40 (.tmp 1) rfl (by kernel_rfl) _ _ rfl _ R10.out _ Try.underlying40 rfl (by kernel_rfl) ?_))
  try clear R7
  try clear R10
  with_reducible refine (rwhole_any _ _ _ _ _ _ _ _ _ _ _ _ _ _ _ _ _ _ _ _ _).mono ?_
  rintro e w3 ⟨rfl, b3⟩
  replace hp := blk_u hp b3
  replace hz := blk_u hz b3
  replace hb := hb.below b3
  replace bel := bel.trans (b3.mono bel.size)
  clear b3
  rw [HW.out]
  have R15 := cell_lit hp 15 _ rfl
  go_wp2_with (first | ((with_reducible show wpList _ _ _ (⟨none, Op.store _ (.tmp 2) _, _, _, _, _⟩ :: _) _ _); refine wpList_store_blk rfl 37 (.tmp 2) (.tmp 19) rfl g2 rfl _ rfl _ 37 hz (by rfl) (by kernel_rfl) (by kernel_rfl) ?_; intro w4 hq gr; replace hb := hb.away av_hb_z gr; replace hp := blk_a hp gr d_p_z; replace bel := below_grown bel gr oz bel.size; clear hz; have hz := hq; clear hq gr))
  try clear R15
  exact bodyPost_ret (results_cell_tmp_row rfl _ _ _ _ _ _ _ rfl hz Try.underlying37 rfl (by kernel_rfl) (.int .i64 3) rfl) rfl (SgPost.none HP.out.symm bel)
set_option linter.unusedVariables false in
set_option maxRecDepth 100000 in
set_option maxHeartbeats 16000000 in
theorem rtcget_4 (tos id fl pt ttl : Int) (a0 a1 a2 a3 a4 a5 a6 a7 : UInt8) (So : Option Addr) (gB oB : Nat) (no co nb cb : Nat) (h0 h1 h2 h3 h4 h5 h6 h7 h8 h9 h10 h11 h12 h13 h14 h15 h16 h17 h18 h19 : UInt8) (r : List UInt8) (hd : Nat) (fg : Int) (w : World) (hb : Sl w (some ⟨gB, oB, none⟩) nb cb (h0 :: h1 :: h2 :: h3 :: h4 :: h5 :: h6 :: h7 :: h8 :: h9 :: h10 :: h11 :: h12 :: h13 :: h14 :: h15 :: h16 :: h17 :: h18 :: h19 :: r)) (hm : nb ≤ 80000) (hhd : h12.toNat / 16 * 4 = hd) (hfg : bits .and .u8 (h13.toNat : Int) 63 = fg) (hfg2 : ((h13.toNat % 64 : Nat) : Int) = fg) (hw : (decide (pt = 0) && decide (fl % 2 = 0)) = true) (hx : hd < 20) : Calls Try.prog 11 #[.agg #[.int .i64 tos, .int .i64 id, .int .i64 fl, .int .i64 pt, .int .i64 ttl, .int .i64 6, .int .u8 (a0.toNat : Int), .int .u8 (a1.toNat : Int), .int .u8 (a2.toNat : Int), .int .u8 (a3.toNat : Int), .int .u8 (a4.toNat : Int), .int .u8 (a5.toNat : Int), .int .u8 (a6.toNat : Int), .int .u8 (a7.toNat : Int), .slice So no co, .slice (some ⟨gB, oB, none⟩) nb cb]] w (SgPost (tcGet fl pt 6 a0 a1 a2 a3 a4 a5 a6 a7 (h0 :: h1 :: h2 :: h3 :: h4 :: h5 :: h6 :: h7 :: h8 :: h9 :: h10 :: h11 :: h12 :: h13 :: h14 :: h15 :: h16 :: h17 :: h18 :: h19 :: r)) w) := by
  have HP : Hid (tcGet fl pt 6 a0 a1 a2 a3 a4 a5 a6 a7 (h0 :: h1 :: h2 :: h3 :: h4 :: h5 :: h6 :: h7 :: h8 :: h9 :: h10 :: h11 :: h12 :: h13 :: h14 :: h15 :: h16 :: h17 :: h18 :: h19 :: r) = sgNone 4) := Lib.hid (tc_err (by rw [tc_at hhd hw, hb.1, if_pos hx]) (by decide))
  have HM := Lib.hid hm
  have HW := Lib.hid hw
  have h20n : 20 ≤ nb := by have := hb.1; simp only [List.length_cons] at this; omega
  have H20 := Lib.hid h20n
  have tn : decide ((nb : Int) < 20) = false := decide_eq_false (by omega)
  have m12 : (12 : Int) < nb := by omega
  have m13 : (13 : Int) < nb := by omega
  have v0 : (0 : Int) ≤ h12.toNat := by omega
  have v1 : (h12.toNat : Int) < 256 := by have := h12.toNat_lt; omega
  have ehd : (h12.toNat : Int) / 16 * 4 = (hd : Int) := by omega
  have ehw : IntKind.i64.wrap (hd : Int) = (hd : Int) := IntWalk.i64_in _ (by omega)
  have t1 : (hd : Int) < 20 := by omega
  clear hx
  clear hhd hfg2 hm hw h20n
  have bel := Below.refl w.heap.size w
  go_enter Try.func11, Try.ntmps11
  go_wp2_with (first | ((with_reducible show wpList _ _ _ (⟨some 1, _, _, _, _, _⟩ :: _) _ _); refine wpList_box_n rfl 40 (.tmp 0) rfl #[.int .i64 tos, .int .i64 id, .int .i64 fl, .int .i64 pt, .int .i64 ttl, .int .i64 6, .int .u8 (a0.toNat : Int), .int .u8 (a1.toNat : Int), .int .u8 (a2.toNat : Int), .int .u8 (a3.toNat : Int), .int .u8 (a4.toNat : Int), .int .u8 (a5.toNat : Int), .int .u8 (a6.toNat : Int), .int .u8 (a7.toNat : Int), .slice So no co, .slice (some ⟨gB, oB, none⟩) nb cb] rfl ?_; intro g1 w1 ge lt hh bb; have av_hb_p := hb.av_new ge; have op := Nat.le_trans bel.size ge; replace hb := hb.below bb; replace bel := bel.trans (bb.mono bel.size); have hp := hh; clear hh lt ge bb) | ((with_reducible show wpList _ _ _ (⟨some 2, _, _, _, _, _⟩ :: _) _ _); refine wpList_new_a rfl 37 rfl #[.int .i64 0, .int .i64 0, .int .u32 0, .int .u32 0, .int .i64 0, .int .i64 0, .int .i64 0, .slice none 0 0, .slice none 0 0] (by kernel_rfl) ?_; intro g2 w2 ge hh bb; have d_p_z := ne_new (hlt hp) ge; have av_hb_z := hb.av_new ge; have oz := Nat.le_trans bel.size ge; replace hp := blk_u hp bb; replace hb := hb.below bb; replace bel := bel.trans (bb.mono bel.size); have hz := hh; clear hh ge bb; have R7 := cell_lit hp 5 _ rfl; have R10 := Lib.hid (range_lit hp 0 16 [.int .i64 tos, .int .i64 id, .int .i64 fl, .int .i64 pt, .int .i64 ttl, .int .i64 6, .int .u8 (a0.toNat : Int), .int .u8 (a1.toNat : Int), .int .u8 (a2.toNat : Int), .int .u8 (a3.toNat : Int), .int .u8 (a4.toNat : Int), .int .u8 (a5.toNat : Int), .int .u8 (a6.toNat : Int), .int .u8 (a7.toNat : Int), .slice So no co, .slice (some ⟨gB, oB, none⟩) nb cb] rfl)) | ((with_reducible show wpList _ _ _ (⟨some 10, _, _, _, _, _⟩ :: _) _ _); refine wpList_load_rng 40 (.tmp 1) rfl (by kernel_rfl) _ _ rfl _ R10.out _ Try.underlying40 rfl (by kernel_rfl) ?_))
  try clear R7
  try clear R10
  with_reducible refine (rwhole_any _ _ _ _ _ _ _ _ _ _ _ _ _ _ _ _ _ _ _ _ _).mono ?_
  rintro e w3 ⟨rfl, b3⟩
  replace hp := blk_u hp b3
  replace hz := blk_u hz b3
  replace hb := hb.below b3
  replace bel := bel.trans (b3.mono bel.size)
  clear b3
  rw [HW.out]
  have R15 := cell_lit hp 15 _ rfl
  have R22 := sl_at hb (j := 12) rfl
  go_wp2_with (first | ((with_reducible show wpList _ _ _ (⟨none, Op.store _ (.tmp 2) _, _, _, _, _⟩ :: _) _ _); refine wpList_store_blk rfl 37 (.tmp 2) (.tmp 28) rfl g2 rfl _ rfl _ 37 hz (by rfl) (by kernel_rfl) (by kernel_rfl) ?_; intro w4 hq gr; replace hb := hb.away av_hb_z gr; replace hp := blk_a hp gr d_p_z; replace bel := below_grown bel gr oz bel.size; clear hz; have hz := hq; clear hq gr))
  try clear R15
  try clear R22
  exact bodyPost_ret (results_cell_tmp_row rfl _ _ _ _ _ _ _ rfl hz Try.underlying37 rfl (by kernel_rfl) (.int .i64 4) rfl) rfl (SgPost.none HP.out.symm bel)
set_option linter.unusedVariables false in
set_option maxRecDepth 100000 in
set_option maxHeartbeats 16000000 in
theorem rtcget_5 (tos id fl pt ttl : Int) (a0 a1 a2 a3 a4 a5 a6 a7 : UInt8) (So : Option Addr) (gB oB : Nat) (no co nb cb : Nat) (h0 h1 h2 h3 h4 h5 h6 h7 h8 h9 h10 h11 h12 h13 h14 h15 h16 h17 h18 h19 : UInt8) (r : List UInt8) (hd : Nat) (fg : Int) (w : World) (hb : Sl w (some ⟨gB, oB, none⟩) nb cb (h0 :: h1 :: h2 :: h3 :: h4 :: h5 :: h6 :: h7 :: h8 :: h9 :: h10 :: h11 :: h12 :: h13 :: h14 :: h15 :: h16 :: h17 :: h18 :: h19 :: r)) (hm : nb ≤ 80000) (hhd : h12.toNat / 16 * 4 = hd) (hfg : bits .and .u8 (h13.toNat : Int) 63 = fg) (hfg2 : ((h13.toNat % 64 : Nat) : Int) = fg) (hw : (decide (pt = 0) && decide (fl % 2 = 0)) = true) (hx : nb < hd) (hy : 20 ≤ hd) : Calls Try.prog 11 #[.agg #[.int .i64 tos, .int .i64 id, .int .i64 fl, .int .i64 pt, .int .i64 ttl, .int .i64 6, .int .u8 (a0.toNat : Int), .int .u8 (a1.toNat : Int), .int .u8 (a2.toNat : Int), .int .u8 (a3.toNat : Int), .int .u8 (a4.toNat : Int), .int .u8 (a5.toNat : Int), .int .u8 (a6.toNat : Int), .int .u8 (a7.toNat : Int), .slice So no co, .slice (some ⟨gB, oB, none⟩) nb cb]] w (SgPost (tcGet fl pt 6 a0 a1 a2 a3 a4 a5 a6 a7 (h0 :: h1 :: h2 :: h3 :: h4 :: h5 :: h6 :: h7 :: h8 :: h9 :: h10 :: h11 :: h12 :: h13 :: h14 :: h15 :: h16 :: h17 :: h18 :: h19 :: r)) w) := by
  have HP : Hid (tcGet fl pt 6 a0 a1 a2 a3 a4 a5 a6 a7 (h0 :: h1 :: h2 :: h3 :: h4 :: h5 :: h6 :: h7 :: h8 :: h9 :: h10 :: h11 :: h12 :: h13 :: h14 :: h15 :: h16 :: h17 :: h18 :: h19 :: r) = sgNone 3) := Lib.hid (tc_err (by rw [tc_at hhd hw, hb.1, if_neg (by omega), if_pos hx]) (by decide))
  have HM := Lib.hid hm
  have HW := Lib.hid hw
  have h20n : 20 ≤ nb := by have := hb.1; simp only [List.length_cons] at this; omega
  have H20 := Lib.hid h20n
  have tn : decide ((nb : Int) < 20) = false := decide_eq_false (by omega)
  have m12 : (12 : Int) < nb := by omega
  have m13 : (13 : Int) < nb := by omega
  have v0 : (0 : Int) ≤ h12.toNat := by omega
  have v1 : (h12.toNat : Int) < 256 := by have := h12.toNat_lt; omega
  have ehd : (h12.toNat : Int) / 16 * 4 = (hd : Int) := by omega
  have ehw : IntKind.i64.wrap (hd : Int) = (hd : Int) := IntWalk.i64_in _ (by omega)
  obtain ⟨k, hk⟩ : ∃ k, hd = k + 20 := ⟨hd - 20, by omega⟩
  have t1 : decide ((hd : Int) < 20) = false := decide_eq_false (by omega)
  have t2 : nb < hd := hx
  clear hx hy hk
  clear hhd hfg2 hm hw h20n
  have bel := Below.refl w.heap.size w
  go_enter Try.func11, Try.ntmps11
  go_wp2_with (first | ((with_reducible show wpList _ _ _ (⟨some 1, _, _, _, _, _⟩ :: _) _ _); refine wpList_box_n rfl 40 (.tmp 0) rfl #[.int .i64 tos, .int .i64 id, .int .i64 fl, .int .i64 pt, .int .i64 ttl, .int .i64 6, .int .u8 (a0.toNat : Int), .int .u8 (a1.toNat : Int), .int .u8 (a2.toNat : Int), .int .u8 (a3.toNat : Int), .int .u8 (a4.toNat : Int), .int .u8 (a5.toNat : Int), .int .u8 (a6.toNat : Int), .int .u8 (a7.toNat : Int), .slice So no co, .slice (some ⟨gB, oB, none⟩) nb cb] rfl ?_; intro g1 w1 ge lt hh bb; have av_hb_p := hb.av_new ge; have op := Nat.le_trans bel.size ge; replace hb := hb.below bb; replace bel := bel.trans (bb.mono bel.size); have hp := hh; clear hh lt ge bb) | ((with_reducible show wpList _ _ _ (⟨some 2, _, _, _, _, _⟩ :: _) _ _); refine wpList_new_a rfl 37 rfl #[.int .i64 0, .int .i64 0, .int .u32 0, .int .u32 0, .int .i64 0, .int .i64 0, .int .i64 0, .slice none 0 0, .slice none 0 0] (by kernel_rfl) ?_; intro g2 w2 ge hh bb; have d_p_z := ne_new (hlt hp) ge; have av_hb_z := hb.av_new ge; have oz := Nat.le_trans bel.size ge; replace hp := blk_u hp bb; replace hb := hb.below bb; replace bel := bel.trans (bb.mono bel.size); have hz := hh; clear hh ge bb; have R7 := cell_lit hp 5 _ rfl; have R10 := Lib.hid (range_lit hp 0 16 [.int .i64 tos, .int .i64 id, .int .i64 fl, .int .i64 pt, .int .i64 ttl, .int .i64 6, .int .u8 (a0.toNat : Int), .int .u8 (a1.toNat : Int), .int .u8 (a2.toNat : Int), .int .u8 (a3.toNat : Int), .int .u8 (a4.toNat : Int), .int .u8 (a5.toNat : Int), .int .u8 (a6.toNat : Int), .int .u8 (a7.toNat : Int), .slice So no co, .slice (some ⟨gB, oB, none⟩) nb cb] rfl)) | ((with_reducible show wpList _ _ _ (⟨some 10, _, _, _, _, _⟩ :: _) _ _); refine wpList_load_rng 40 (.tmp 1) rfl (by kernel_rfl) _ _ rfl _ R10.out _ Try.underlying40 rfl (by kernel_rfl) ?_))
  try clear R7
  try clear R10
  with_reducible refine (rwhole_any _ _ _ _ _ _ _ _ _ _ _ _ _ _ _ _ _ _ _ _ _).mono ?_
  rintro e w3 ⟨rfl, b3⟩
  replace hp := blk_u hp b3
  replace hz := blk_u hz b3
  replace hb := hb.below b3
  replace bel := bel.trans (b3.mono bel.size)
  clear b3
  rw [HW.out]
  have R15 := cell_lit hp 15 _ rfl
  have R22 := sl_at hb (j := 12) rfl
  go_wp2_with (first | ((with_reducible show wpList _ _ _ (⟨none, Op.store _ (.tmp 2) _, _, _, _, _⟩ :: _) _ _); refine wpList_store_blk rfl 37 (.tmp 2) (.tmp 33) rfl g2 rfl _ rfl _ 37 hz (by rfl) (by kernel_rfl) (by kernel_rfl) ?_; intro w4 hq gr; replace hb := hb.away av_hb_z gr; replace hp := blk_a hp gr d_p_z; replace bel := below_grown bel gr oz bel.size; clear hz; have hz := hq; clear hq gr))
  try clear R15
  try clear R22
  exact bodyPost_ret (results_cell_tmp_row rfl _ _ _ _ _ _ _ rfl hz Try.underlying37 rfl (by kernel_rfl) (.int .i64 3) rfl) rfl (SgPost.none HP.out.symm bel)
set_option linter.unusedVariables false in
set_option maxRecDepth 100000 in
set_option maxHeartbeats 16000000 in
theorem rtcget_6 (tos id fl pt ttl : Int) (a0 a1 a2 a3 a4 a5 a6 a7 : UInt8) (So : Option Addr) (gB oB : Nat) (no co nb cb : Nat) (h0 h1 h2 h3 h4 h5 h6 h7 h8 h9 h10 h11 h12 h13 h14 h15 h16 h17 h18 h19 : UInt8) (r : List UInt8) (hd : Nat) (fg : Int) (w : World) (hb : Sl w (some ⟨gB, oB, none⟩) nb cb (h0 :: h1 :: h2 :: h3 :: h4 :: h5 :: h6 :: h7 :: h8 :: h9 :: h10 :: h11 :: h12 :: h13 :: h14 :: h15 :: h16 :: h17 :: h18 :: h19 :: r)) (hm : nb ≤ 80000) (hhd : h12.toNat / 16 * 4 = hd) (hfg : bits .and .u8 (h13.toNat : Int) 63 = fg) (hfg2 : ((h13.toNat % 64 : Nat) : Int) = fg) (hw : (decide (pt = 0) && decide (fl % 2 = 0)) = true) (hx : hd ≤ nb) (hy : 20 ≤ hd) (hc : ck (l4Ps a0 a1 a2 a3 a4 a5 a6 a7 6 (nb : Int) ++ (h0 :: h1 :: h2 :: h3 :: h4 :: h5 :: h6 :: h7 :: h8 :: h9 :: h10 :: h11 :: h12 :: h13 :: h14 :: h15 :: h16 :: h17 :: h18 :: h19 :: r)) ≠ 0) : Calls Try.prog 11 #[.agg #[.int .i64 tos, .int .i64 id, .int .i64 fl, .int .i64 pt, .int .i64 ttl, .int .i64 6, .int .u8 (a0.toNat : Int), .int .u8 (a1.toNat : Int), .int .u8 (a2.toNat : Int), .int .u8 (a3.toNat : Int), .int .u8 (a4.toNat : Int), .int .u8 (a5.toNat : Int), .int .u8 (a6.toNat : Int), .int .u8 (a7.toNat : Int), .slice So no co, .slice (some ⟨gB, oB, none⟩) nb cb]] w (SgPost (tcGet fl pt 6 a0 a1 a2 a3 a4 a5 a6 a7 (h0 :: h1 :: h2 :: h3 :: h4 :: h5 :: h6 :: h7 :: h8 :: h9 :: h10 :: h11 :: h12 :: h13 :: h14 :: h15 :: h16 :: h17 :: h18 :: h19 :: r)) w) := by
  have HP : Hid (tcGet fl pt 6 a0 a1 a2 a3 a4 a5 a6 a7 (h0 :: h1 :: h2 :: h3 :: h4 :: h5 :: h6 :: h7 :: h8 :: h9 :: h10 :: h11 :: h12 :: h13 :: h14 :: h15 :: h16 :: h17 :: h18 :: h19 :: r) = sgNone 5) := Lib.hid (tc_err (by rw [tc_at hhd hw, hb.1, if_neg (by omega), if_neg (by omega), if_pos hc]) (by decide))
  have HM := Lib.hid hm
  have HW := Lib.hid hw
  have h20n : 20 ≤ nb := by have := hb.1; simp only [List.length_cons] at this; omega
  have H20 := Lib.hid h20n
  have tn : decide ((nb : Int) < 20) = false := decide_eq_false (by omega)
  have m12 : (12 : Int) < nb := by omega
  have m13 : (13 : Int) < nb := by omega
  have v0 : (0 : Int) ≤ h12.toNat := by omega
  have v1 : (h12.toNat : Int) < 256 := by have := h12.toNat_lt; omega
  have ehd : (h12.toNat : Int) / 16 * 4 = (hd : Int) := by omega
  have ehw : IntKind.i64.wrap (hd : Int) = (hd : Int) := IntWalk.i64_in _ (by omega)
  obtain ⟨k, hk⟩ : ∃ k, hd = k + 20 := ⟨hd - 20, by omega⟩
  have t1 : decide ((hd : Int) < 20) = false := decide_eq_false (by omega)
  obtain ⟨cv, hcv⟩ : ∃ cv, Hid (ck (l4Ps a0 a1 a2 a3 a4 a5 a6 a7 6 (nb : Int) ++ (h0 :: h1 :: h2 :: h3 :: h4 :: h5 :: h6 :: h7 :: h8 :: h9 :: h10 :: h11 :: h12 :: h13 :: h14 :: h15 :: h16 :: h17 :: h18 :: h19 :: r)) = cv) := ⟨_, Lib.hid rfl⟩
  rw [hcv.out] at hc
  have t2 : decide (nb < hd) = false := decide_eq_false (by omega)
  have t4 : (cv == 0) = false := by simpa using hc
  have t5 : (cv != 0) = true := by simpa using hc
  clear hx hy hk hc
  clear hhd hfg2 hm hw h20n
  have bel := Below.refl w.heap.size w
  go_enter Try.func11, Try.ntmps11
  go_wp2_with (first | ((with_reducible show wpList _ _ _ (⟨some 1, _, _, _, _, _⟩ :: _) _ _); refine wpList_box_n rfl 40 (.tmp 0) rfl #[.int .i64 tos, .int .i64 id, .int .i64 fl, .int .i64 pt, .int .i64 ttl, .int .i64 6, .int .u8 (a0.toNat : Int), .int .u8 (a1.toNat : Int), .int .u8 (a2.toNat : Int), .int .u8 (a3.toNat : Int), .int .u8 (a4.toNat : Int), .int .u8 (a5.toNat : Int), .int .u8 (a6.toNat : Int), .int .u8 (a7.toNat : Int), .slice So no co, .slice (some ⟨gB, oB, none⟩) nb cb] rfl ?_; intro g1 w1 ge lt hh bb; have av_hb_p := hb.av_new ge; have op := Nat.le_trans bel.size ge; replace hb := hb.below bb; replace bel := bel.trans (bb.mono bel.size); have hp := hh; clear hh lt ge bb) | ((with_reducible show wpList _ _ _ (⟨some 2, _, _, _, _, _⟩ :: _) _ _); refine wpList_new_a rfl 37 rfl #[.int .i64 0, .int .i64 0, .int .u32 0, .int .u32 0, .int .i64 0, .int .i64 0, .int .i64 0, .slice none 0 0, .slice none 0 0] (by kernel_rfl) ?_; intro g2 w2 ge hh bb; have d_p_z := ne_new (hlt hp) ge; have av_hb_z := hb.av_new ge; have oz := Nat.le_trans bel.size ge; replace hp := blk_u hp bb; replace hb := hb.below bb; replace bel := bel.trans (bb.mono bel.size); have hz := hh; clear hh ge bb; have R7 := cell_lit hp 5 _ rfl; have R10 := Lib.hid (range_lit hp 0 16 [.int .i64 tos, .int .i64 id, .int .i64 fl, .int .i64 pt, .int .i64 ttl, .int .i64 6, .int .u8 (a0.toNat : Int), .int .u8 (a1.toNat : Int), .int .u8 (a2.toNat : Int), .int .u8 (a3.toNat : Int), .int .u8 (a4.toNat : Int), .int .u8 (a5.toNat : Int), .int .u8 (a6.toNat : Int), .int .u8 (a7.toNat : Int), .slice So no co, .slice (some ⟨gB, oB, none⟩) nb cb] rfl)) | ((with_reducible show wpList _ _ _ (⟨some 10, _, _, _, _, _⟩ :: _) _ _); refine wpList_load_rng 40 (.tmp 1) rfl (by kernel_rfl) _ _ rfl _ R10.out _ Try.underlying40 rfl (by kernel_rfl) ?_))
  try clear R7
  try clear R10
  with_reducible refine (rwhole_any _ _ _ _ _ _ _ _ _ _ _ _ _ _ _ _ _ _ _ _ _).mono ?_
  rintro e w3 ⟨rfl, b3⟩
  replace hp := blk_u hp b3
  replace hz := blk_u hz b3
  replace hb := hb.below b3
  replace bel := bel.trans (b3.mono bel.size)
  clear b3
  rw [HW.out]
  have R15 := cell_lit hp 15 _ rfl
  have R22 := sl_at hb (j := 12) rfl
  have R34 := Lib.hid (range_lit hp 0 16 [.int .i64 tos, .int .i64 id, .int .i64 fl, .int .i64 pt, .int .i64 ttl, .int .i64 6, .int .u8 (a0.toNat : Int), .int .u8 (a1.toNat : Int), .int .u8 (a2.toNat : Int), .int .u8 (a3.toNat : Int), .int .u8 (a4.toNat : Int), .int .u8 (a5.toNat : Int), .int .u8 (a6.toNat : Int), .int .u8 (a7.toNat : Int), .slice So no co, .slice (some ⟨gB, oB, none⟩) nb cb] rfl)
  go_wp2_with (first | ((with_reducible show wpList _ _ _ (⟨some 34, _, _, _, _, _⟩ :: _) _ _); refine wpList_load_rng 40 (.tmp 1) rfl (by kernel_rfl) _ _ rfl _ R34.out _ Try.underlying40 rfl (by kernel_rfl) ?_))
  try clear R15
  try clear R22
  try clear R34
  with_reducible refine (rsum_any _ _ _ _ _ 6 _ _ _ _ _ _ _ _ _ _ _ _ _ _ _ _ _ _ _ hb (by have := HM.out; omega)).mono ?_
  rintro e w4 ⟨rfl, b4⟩
  replace hp := blk_u hp b4
  replace hz := blk_u hz b4
  replace hb := hb.below b4
  replace bel := bel.trans (b4.mono bel.size)
  clear b4
  rw [hcv.out]
  go_wp2_with (first | ((with_reducible show wpList _ _ _ (⟨none, Op.store _ (.tmp 2) _, _, _, _, _⟩ :: _) _ _); refine wpList_store_blk rfl 37 (.tmp 2) (.tmp 38) rfl g2 rfl _ rfl _ 37 hz (by rfl) (by kernel_rfl) (by kernel_rfl) ?_; intro w5 hq gr; replace hb := hb.away av_hb_z gr; replace hp := blk_a hp gr d_p_z; replace bel := below_grown bel gr oz bel.size; clear hz; have hz := hq; clear hq gr))
  exact bodyPost_ret (results_cell_tmp_row rfl _ _ _ _ _ _ _ rfl hz Try.underlying37 rfl (by kernel_rfl) (.int .i64 5) rfl) rfl (SgPost.none HP.out.symm bel)
set_option linter.unusedVariables false in
set_option maxRecDepth 100000 in
set_option maxHeartbeats 16000000 in
theorem rtcget_7 (tos id fl pt ttl : Int) (a0 a1 a2 a3 a4 a5 a6 a7 : UInt8) (So : Option Addr) (gB oB : Nat) (no co nb cb : Nat) (h0 h1 h2 h3 h4 h5 h6 h7 h8 h9 h10 h11 h12 h13 h14 h15 h16 h17 h18 h19 : UInt8) (r : List UInt8) (hd : Nat) (fg : Int) (w : World) (hb : Sl w (some ⟨gB, oB, none⟩) nb cb (h0 :: h1 :: h2 :: h3 :: h4 :: h5 :: h6 :: h7 :: h8 :: h9 :: h10 :: h11 :: h12 :: h13 :: h14 :: h15 :: h16 :: h17 :: h18 :: h19 :: r)) (hm : nb ≤ 80000) (hhd : h12.toNat / 16 * 4 = hd) (hfg : bits .and .u8 (h13.toNat : Int) 63 = fg) (hfg2 : ((h13.toNat % 64 : Nat) : Int) = fg) (hw : (decide (pt = 0) && decide (fl % 2 = 0)) = true) (hx : hd ≤ nb) (hy : 20 ≤ hd) (hc : ck (l4Ps a0 a1 a2 a3 a4 a5 a6 a7 6 (nb : Int) ++ (h0 :: h1 :: h2 :: h3 :: h4 :: h5 :: h6 :: h7 :: h8 :: h9 :: h10 :: h11 :: h12 :: h13 :: h14 :: h15 :: h16 :: h17 :: h18 :: h19 :: r)) = 0) : Calls Try.prog 11 #[.agg #[.int .i64 tos, .int .i64 id, .int .i64 fl, .int .i64 pt, .int .i64 ttl, .int .i64 6, .int .u8 (a0.toNat : Int), .int .u8 (a1.toNat : Int), .int .u8 (a2.toNat : Int), .int .u8 (a3.toNat : Int), .int .u8 (a4.toNat : Int), .int .u8 (a5.toNat : Int), .int .u8 (a6.toNat : Int), .int .u8 (a7.toNat : Int), .slice So no co, .slice (some ⟨gB, oB, none⟩) nb cb]] w (SgPost (tcGet fl pt 6 a0 a1 a2 a3 a4 a5 a6 a7 (h0 :: h1 :: h2 :: h3 :: h4 :: h5 :: h6 :: h7 :: h8 :: h9 :: h10 :: h11 :: h12 :: h13 :: h14 :: h15 :: h16 :: h17 :: h18 :: h19 :: r)) w) := by
  obtain ⟨k, hk⟩ : ∃ k, hd = k + 20 := ⟨hd - 20, by omega⟩
  have t1 : decide ((hd : Int) < 20) = false := decide_eq_false (by omega)
  have HP : Hid (tcGet fl pt 6 a0 a1 a2 a3 a4 a5 a6 a7 (h0 :: h1 :: h2 :: h3 :: h4 :: h5 :: h6 :: h7 :: h8 :: h9 :: h10 :: h11 :: h12 :: h13 :: h14 :: h15 :: h16 :: h17 :: h18 :: h19 :: r) = ([((be [h0, h1] : Nat) : Int), ((be [h2, h3] : Nat) : Int), ((be [h4, h5, h6, h7] : Nat) : Int), ((be [h8, h9, h10, h11] : Nat) : Int), fg, ((be [h14, h15] : Nat) : Int), ((be [h18, h19] : Nat) : Int)], (r.take k, r.drop k), 0)) := Lib.hid (by rw [tc_ok (by rw [tc_at hhd hw, hb.1, if_neg (by omega), if_neg (by omega), if_neg (fun h => h hc)]) hhd hk, hfg2])
  have HM := Lib.hid hm
  have HW := Lib.hid hw
  have h20n : 20 ≤ nb := by have := hb.1; simp only [List.length_cons] at this; omega
  have H20 := Lib.hid h20n
  have tn : decide ((nb : Int) < 20) = false := decide_eq_false (by omega)
  have m12 : (12 : Int) < nb := by omega
  have m13 : (13 : Int) < nb := by omega
  have v0 : (0 : Int) ≤ h12.toNat := by omega
  have v1 : (h12.toNat : Int) < 256 := by have := h12.toNat_lt; omega
  have ehd : (h12.toNat : Int) / 16 * 4 = (hd : Int) := by omega
  have ehw : IntKind.i64.wrap (hd : Int) = (hd : Int) := IntWalk.i64_in _ (by omega)
  have hkr : k ≤ r.length := by have := hb.1; simp only [List.length_cons] at this; omega
  have HKR := Lib.hid hkr
  have HKL : Hid ((r.take k).length = k) := Lib.hid (by rw [List.length_take]; omega)
  obtain ⟨m, hm2⟩ : ∃ m, (r.drop k).length = m := ⟨_, rfl⟩
  have HM2 := Lib.hid hm2
  have HMN : Hid (nb = hd + m) := Lib.hid (by have := hb.1; simp only [List.length_cons] at this; rw [List.length_drop] at hm2; omega)
  have hmh : IntKind.i64.wrap ((nb : Int) - hd) = (m : Int) := by have := HMN.out; rw [show (nb : Int) - hd = (m : Int) by omega]; exact IntWalk.i64_in _ (by omega)
  have HK20 : Hid ((hd : Int) = ((20 : Nat) : Int) + (k : Int)) := Lib.hid (by omega)
  have HHK := Lib.hid hk
  have HFW : Hid (IntKind.i64.wrap fg = fg) := Lib.hid (IntWalk.i64_in _ (by omega))
  obtain ⟨cv, hcv⟩ : ∃ cv, Hid (ck (l4Ps a0 a1 a2 a3 a4 a5 a6 a7 6 (nb : Int) ++ (h0 :: h1 :: h2 :: h3 :: h4 :: h5 :: h6 :: h7 :: h8 :: h9 :: h10 :: h11 :: h12 :: h13 :: h14 :: h15 :: h16 :: h17 :: h18 :: h19 :: r)) = cv) := ⟨_, Lib.hid rfl⟩
  rw [hcv.out] at hc
  have t2 : decide (nb < hd) = false := decide_eq_false (by omega)
  have t4 : (cv == 0) = true := by simpa using hc
  have t5 : (cv != 0) = false := by simpa using hc
  clear hx hy hk hkr hc hm2
  clear hhd hfg2 hm hw h20n
  have bel := Below.refl w.heap.size w
  go_enter Try.func11, Try.ntmps11
  go_wp2_with (first | ((with_reducible show wpList _ _ _ (⟨some 1, _, _, _, _, _⟩ :: _) _ _); refine wpList_box_n rfl 40 (.tmp 0) rfl #[.int .i64 tos, .int .i64 id, .int .i64 fl, .int .i64 pt, .int .i64 ttl, .int .i64 6, .int .u8 (a0.toNat : Int), .int .u8 (a1.toNat : Int), .int .u8 (a2.toNat : Int), .int .u8 (a3.toNat : Int), .int .u8 (a4.toNat : Int), .int .u8 (a5.toNat : Int), .int .u8 (a6.toNat : Int), .int .u8 (a7.toNat : Int), .slice So no co, .slice (some ⟨gB, oB, none⟩) nb cb] rfl ?_; intro g1 w1 ge lt hh bb; have av_hb_p := hb.av_new ge; have op := Nat.le_trans bel.size ge; replace hb := hb.below bb; replace bel := bel.trans (bb.mono bel.size); have hp := hh; clear hh lt ge bb) | ((with_reducible show wpList _ _ _ (⟨some 2, _, _, _, _, _⟩ :: _) _ _); refine wpList_new_a rfl 37 rfl #[.int .i64 0, .int .i64 0, .int .u32 0, .int .u32 0, .int .i64 0, .int .i64 0, .int .i64 0, .slice none 0 0, .slice none 0 0] (by kernel_rfl) ?_; intro g2 w2 ge hh bb; have d_p_z := ne_new (hlt hp) ge; have av_hb_z := hb.av_new ge; have oz := Nat.le_trans bel.size ge; replace hp := blk_u hp bb; replace hb := hb.below bb; replace bel := bel.trans (bb.mono bel.size); have hz := hh; clear hh ge bb; have R7 := cell_lit hp 5 _ rfl; have R10 := Lib.hid (range_lit hp 0 16 [.int .i64 tos, .int .i64 id, .int .i64 fl, .int .i64 pt, .int .i64 ttl, .int .i64 6, .int .u8 (a0.toNat : Int), .int .u8 (a1.toNat : Int), .int .u8 (a2.toNat : Int), .int .u8 (a3.toNat : Int), .int .u8 (a4.toNat : Int), .int .u8 (a5.toNat : Int), .int .u8 (a6.toNat : Int), .int .u8 (a7.toNat : Int), .slice So no co, .slice (some ⟨gB, oB, none⟩) nb cb] rfl)) | ((with_reducible show wpList _ _ _ (⟨some 10, _, _, _, _, _⟩ :: _) _ _); refine wpList_load_rng 40 (.tmp 1) rfl (by kernel_rfl) _ _ rfl _ R10.out _ Try.underlying40 rfl (by kernel_rfl) ?_))
  try clear R7
  try clear R10
  with_reducible refine (rwhole_any _ _ _ _ _ _ _ _ _ _ _ _ _ _ _ _ _ _ _ _ _).mono ?_
  rintro e w3 ⟨rfl, b3⟩
  replace hp := blk_u hp b3
  replace hz := blk_u hz b3
  replace hb := hb.below b3
  replace bel := bel.trans (b3.mono bel.size)
  clear b3
  rw [HW.out]
  have R15 := cell_lit hp 15 _ rfl
  have R22 := sl_at hb (j := 12) rfl
  have R34 := Lib.hid (range_lit hp 0 16 [.int .i64 tos, .int .i64 id, .int .i64 fl, .int .i64 pt, .int .i64 ttl, .int .i64 6, .int .u8 (a0.toNat : Int), .int .u8 (a1.toNat : Int), .int .u8 (a2.toNat : Int), .int .u8 (a3.toNat : Int), .int .u8 (a4.toNat : Int), .int .u8 (a5.toNat : Int), .int .u8 (a6.toNat : Int), .int .u8 (a7.toNat : Int), .slice So no co, .slice (some ⟨gB, oB, none⟩) nb cb] rfl)
  go_wp2_with (first | ((with_reducible show wpList _ _ _ (⟨some 34, _, _, _, _, _⟩ :: _) _ _); refine wpList_load_rng 40 (.tmp 1) rfl (by kernel_rfl) _ _ rfl _ R34.out _ Try.underlying40 rfl (by kernel_rfl) ?_))
  try clear R15
  try clear R22
  try clear R34
  with_reducible refine (rsum_any _ _ _ _ _ 6 _ _ _ _ _ _ _ _ _ _ _ _ _ _ _ _ _ _ _ hb (by have := HM.out; omega)).mono ?_
  rintro e w4 ⟨rfl, b4⟩
  replace hp := blk_u hp b4
  replace hz := blk_u hz b4
  replace hb := hb.below b4
  replace bel := bel.trans (b4.mono bel.size)
  clear b4
  rw [hcv.out]
  go_wp2_with fail
  replace bel := bel.drew
  replace hp : w4.drew.heap[g1]? = _ := hp
  replace hz : w4.drew.heap[g2]? = _ := hz
  replace hb := hb.drew
  refine wp_region_held_drew (S := fun W => Sl W (some ⟨gB, oB, none⟩) (nb) (cb) (h0 :: h1 :: h2 :: h3 :: h4 :: h5 :: h6 :: h7 :: h8 :: h9 :: h10 :: h11 :: h12 :: h13 :: h14 :: h15 :: h16 :: h17 :: h18 :: h19 :: r)) (by kernel_rfl) hb (fun hH => ?_)
  generalize w4.drew = w5 at bel hp hz hb hH ⊢
  refine wpAnyH_take (i := 0) (v := ?_) rfl (by kernel_rfl) (by kernel_rfl) (by kernel_rfl) (fun _ _ _ h => h) (Or.inl ⟨by rfl, ?_⟩) hH ?_
  rotate_left
  · ((intro W hW; clear hW; go_simp) <;> with_reducible rfl)
  simp only [Act.put, List.getElem_toArray, List.getElem_cons_zero, List.setIfInBounds_toArray, List.set_cons_zero, List.set_cons_succ]
  refine wpAnyH_take (i := 2) (v := ?_) rfl (by kernel_rfl) (by kernel_rfl) (by kernel_rfl) (fun _ _ _ h => h) (Or.inl ⟨by rfl, ?_⟩) hH ?_
  rotate_left
  · ((intro W hW; clear hW; go_simp) <;> with_reducible rfl)
  simp only [Act.put, List.getElem_toArray, List.getElem_cons_zero, List.getElem_cons_succ, List.setIfInBounds_toArray, List.set_cons_zero, List.set_cons_succ]
  refine wpAnyH_take (i := 4) (v := ?_) rfl (by kernel_rfl) (by kernel_rfl) (by kernel_rfl) (fun _ _ _ h => h) (Or.inl ⟨by rfl, ?_⟩) hH ?_
  rotate_left
  · ((intro W hW; clear hW; go_simp) <;> with_reducible rfl)
  simp only [Act.put, List.getElem_toArray, List.getElem_cons_zero, List.getElem_cons_succ, List.setIfInBounds_toArray, List.set_cons_zero, List.set_cons_succ]
  refine wpAnyH_take (i := 6) (v := ?_) rfl (by kernel_rfl) (by kernel_rfl) (by kernel_rfl) (fun _ _ _ h => h) (Or.inl ⟨by rfl, ?_⟩) hH ?_
  rotate_left
  · ((intro W hW; clear hW; go_simp) <;> with_reducible rfl)
  simp only [Act.put, List.getElem_toArray, List.getElem_cons_zero, List.getElem_cons_succ, List.setIfInBounds_toArray, List.set_cons_zero, List.set_cons_succ]
  refine wpAnyH_take (i := 8) (v := ?_) rfl (by kernel_rfl) (by kernel_rfl) (by kernel_rfl) (fun _ _ _ h => h) (Or.inl ⟨by rfl, ?_⟩) hH ?_
  rotate_left
  · ((intro W hW; clear hW; go_simp) <;> with_reducible rfl)
  simp only [Act.put, List.getElem_toArray, List.getElem_cons_zero, List.getElem_cons_succ, List.setIfInBounds_toArray, List.set_cons_zero, List.set_cons_succ]
  refine wpAnyH_take (i := 9) (v := ?_) rfl (by kernel_rfl) (by kernel_rfl) (by kernel_rfl) (fun _ _ _ h => h) (Or.inl ⟨by rfl, ?_⟩) hH ?_
  rotate_left
  · ((intro W hW; clear hW; go_simp) <;> with_reducible rfl)
  simp only [Act.put, List.getElem_toArray, List.getElem_cons_zero, List.getElem_cons_succ, List.setIfInBounds_toArray, List.set_cons_zero, List.set_cons_succ]
  refine wpAnyH_take (i := 10) (v := ?_) rfl (by kernel_rfl) (by kernel_rfl) (by kernel_rfl) (fun _ _ _ h => h) (Or.inl ⟨by rfl, ?_⟩) hH ?_
  rotate_left
  · ((intro W hW; have hk := sl_at (hW) (j := 13) rfl; clear hW; go_simp) <;> with_reducible rfl)
  simp only [Act.put, List.getElem_toArray, List.getElem_cons_zero, List.getElem_cons_succ, List.setIfInBounds_toArray, List.set_cons_zero, List.set_cons_succ]
  refine wpAnyH_take (i := 11) (v := ?_) rfl (by kernel_rfl) (by kernel_rfl) (by kernel_rfl) (fun _ _ _ h => h) (Or.inl ⟨by rfl, ?_⟩) hH ?_
  rotate_left
  · ((intro W hW; clear hW; go_simp) <;> with_reducible rfl)
  simp only [Act.put, List.getElem_toArray, List.getElem_cons_zero, List.getElem_cons_succ, List.setIfInBounds_toArray, List.set_cons_zero, List.set_cons_succ]
  refine wpAnyH_take (i := 12) (v := ?_) rfl (by kernel_rfl) (by kernel_rfl) (by kernel_rfl) (fun _ _ _ h => h) (Or.inl ⟨by rfl, ?_⟩) hH ?_
  rotate_left
  · ((intro W hW; clear hW; go_simp) <;> with_reducible rfl)
  simp only [Act.put, List.getElem_toArray, List.getElem_cons_zero, List.getElem_cons_succ, List.setIfInBounds_toArray, List.set_cons_zero, List.set_cons_succ]
  refine wpAnyH_take (i := 13) (v := ?_) rfl (by kernel_rfl) (by kernel_rfl) (by kernel_rfl) (fun _ _ _ h => h) (Or.inl ⟨by rfl, ?_⟩) hH ?_
  rotate_left
  · ((intro W hW; clear hW; go_simp) <;> with_reducible rfl)
  simp only [Act.put, List.getElem_toArray, List.getElem_cons_zero, List.getElem_cons_succ, List.setIfInBounds_toArray, List.set_cons_zero, List.set_cons_succ]
  refine wpAnyH_take (i := 15) (v := ?_) rfl (by kernel_rfl) (by kernel_rfl) (by kernel_rfl) (fun _ _ _ h => h) (Or.inl ⟨by rfl, ?_⟩) hH ?_
  rotate_left
  · ((intro W hW; clear hW; go_simp) <;> with_reducible rfl)
  simp only [Act.put, List.getElem_toArray, List.getElem_cons_zero, List.getElem_cons_succ, List.setIfInBounds_toArray, List.set_cons_zero, List.set_cons_succ]
  refine wpAnyH_take (i := 17) (v := ?_) rfl (by kernel_rfl) (by kernel_rfl) (by kernel_rfl) (fun _ _ _ h => h) (Or.inl ⟨by rfl, ?_⟩) hH ?_
  rotate_left
  · ((intro W hW; clear hW; go_simp) <;> with_reducible rfl)
  simp only [Act.put, List.getElem_toArray, List.getElem_cons_zero, List.getElem_cons_succ, List.setIfInBounds_toArray, List.set_cons_zero, List.set_cons_succ]
  refine wpAnyH_take (i := 18) (v := ?_) rfl (by kernel_rfl) (by kernel_rfl) (by kernel_rfl) (fun _ _ _ h => h) (Or.inl ⟨by rfl, ?_⟩) hH ?_
  rotate_left
  · ((intro W hW; clear hW; go_simp) <;> with_reducible rfl)
  simp only [Act.put, List.getElem_toArray, List.getElem_cons_zero, List.getElem_cons_succ, List.setIfInBounds_toArray, List.set_cons_zero, List.set_cons_succ]
  obtain ⟨Apm, cpm, r58, f58, u58⟩ := piece_mid hb (p := 20) (k := k) (by have := HHK.out; have := HMN.out; omega)
  replace r58 : ∀ W, (Instr.slice 25 (.slice (some ⟨gB, oB, none⟩) nb cb) (some (.int .i64 20)) (some (.int .i64 (hd : Int))) none).run Try.prog W = .ok (.slice Apm k cpm) W := (by rw [HK20.out]; exact r58)
  have pm : Sl w5 Apm k cpm (List.take k r) := f58 _ hb
  have av_pm_p := av_hb_p.sub u58
  have av_pm_z := av_hb_z.sub u58
  clear f58 u58
  refine wpAnyH_take (i := 19) (v := ?_) rfl (by kernel_rfl) (by kernel_rfl) (by kernel_rfl) (fun _ _ _ h => h) (Or.inl ⟨by rfl, ?_⟩) hH ?_
  rotate_left
  · ((intro W hW; clear hW; go_simp) <;> with_reducible rfl)
  simp only [Act.put, List.getElem_toArray, List.getElem_cons_zero, List.getElem_cons_succ, List.setIfInBounds_toArray, List.set_cons_zero, List.set_cons_succ]
  refine wpAnyH_take (i := 21) (v := ?_) rfl (by kernel_rfl) (by kernel_rfl) (by kernel_rfl) (fun _ _ _ h => h) (Or.inl ⟨by rfl, ?_⟩) hH ?_
  rotate_left
  · ((intro W hW; clear hW; go_simp) <;> with_reducible rfl)
  simp only [Act.put, List.getElem_toArray, List.getElem_cons_zero, List.getElem_cons_succ, List.setIfInBounds_toArray, List.set_cons_zero, List.set_cons_succ]
  refine wpAnyH_take (i := 22) (v := ?_) rfl (by kernel_rfl) (by kernel_rfl) (by kernel_rfl) (fun _ _ _ h => h) (Or.inl ⟨by rfl, ?_⟩) hH ?_
  rotate_left
  · ((intro W hW; clear hW; go_simp) <;> with_reducible rfl)
  simp only [Act.put, List.getElem_toArray, List.getElem_cons_zero, List.getElem_cons_succ, List.setIfInBounds_toArray, List.set_cons_zero, List.set_cons_succ]
  obtain ⟨Apb, cpb, r62, f62, u62⟩ := piece_back hb (k := hd) (by have := HMN.out; omega)
  rw [show nb - hd = m by have := HMN.out; omega] at r62 f62 u62
  have pb : Sl w5 Apb m cpb (List.drop k r) := by (have q := f62 _ hb; rw [HHK.out] at q; exact q)
  have av_pb_p := av_hb_p.sub u62
  have av_pb_z := av_hb_z.sub u62
  clear f62 u62
  refine wpAnyH_take (i := 23) (v := ?_) rfl (by kernel_rfl) (by kernel_rfl) (by kernel_rfl) (fun _ _ _ h => h) (Or.inl ⟨by rfl, ?_⟩) hH ?_
  rotate_left
  · ((intro W hW; clear hW; go_simp) <;> with_reducible rfl)
  simp only [Act.put, List.getElem_toArray, List.getElem_cons_zero, List.getElem_cons_succ, List.setIfInBounds_toArray, List.set_cons_zero, List.set_cons_succ]
  refine wpAnyH_ready (rs := [1]) (by kernel_rfl) (by simp) ?_
  refine AllReadyH.cons (o := _) rfl (fun K hK => ?_) AllReadyH.nil
  simp only [List.getElem_toArray, List.getElem_cons_zero, List.getElem_cons_succ]
  go_simp
  with_reducible refine (at16_0 _ _ _ _ _ hb (by have := H20.out; omega)).mono ?_
  rintro e w6 ⟨rfl, b6⟩
  dsimp only
  replace hp := blk_u hp b6
  replace hz := blk_u hz b6
  replace hb := hb.below b6
  replace pm := pm.below b6
  replace pb := pb.below b6
  replace bel := bel.trans (b6.mono bel.size)
  clear b6
  rw [show be (List.take 2 (List.drop 0 (h0 :: h1 :: h2 :: h3 :: h4 :: h5 :: h6 :: h7 :: h8 :: h9 :: h10 :: h11 :: h12 :: h13 :: h14 :: h15 :: h16 :: h17 :: h18 :: h19 :: r))) = be [h0, h1] from rfl]
  refine hK.out _ _ hb (fun hH7 => ?_)
  clear hK K
  refine wpAnyH_ready (rs := [3]) (by kernel_rfl) (by simp) ?_
  refine AllReadyH.cons (o := _) rfl (fun K hK => ?_) AllReadyH.nil
  simp only [List.getElem_toArray, List.getElem_cons_zero, List.getElem_cons_succ]
  go_simp
  with_reducible refine (at16_2 _ _ _ _ _ hb (by have := H20.out; omega)).mono ?_
  rintro e w8 ⟨rfl, b8⟩
  dsimp only
  replace hp := blk_u hp b8
  replace hz := blk_u hz b8
  replace hb := hb.below b8
  replace pm := pm.below b8
  replace pb := pb.below b8
  replace bel := bel.trans (b8.mono bel.size)
  clear b8
  rw [show be (List.take 2 (List.drop 2 (h0 :: h1 :: h2 :: h3 :: h4 :: h5 :: h6 :: h7 :: h8 :: h9 :: h10 :: h11 :: h12 :: h13 :: h14 :: h15 :: h16 :: h17 :: h18 :: h19 :: r))) = be [h2, h3] from rfl]
  refine hK.out _ _ hb (fun hH9 => ?_)
  clear hK K
  refine wpAnyH_ready (rs := [5]) (by kernel_rfl) (by simp) ?_
  refine AllReadyH.cons (o := _) rfl (fun K hK => ?_) AllReadyH.nil
  simp only [List.getElem_toArray, List.getElem_cons_zero, List.getElem_cons_succ]
  go_simp
  with_reducible refine (at32_4 _ _ _ _ _ hb (by have := H20.out; omega)).mono ?_
  rintro e w10 ⟨rfl, b10⟩
  dsimp only
  replace hp := blk_u hp b10
  replace hz := blk_u hz b10
  replace hb := hb.below b10
  replace pm := pm.below b10
  replace pb := pb.below b10
  replace bel := bel.trans (b10.mono bel.size)
  clear b10
  rw [show be (List.take 4 (List.drop 4 (h0 :: h1 :: h2 :: h3 :: h4 :: h5 :: h6 :: h7 :: h8 :: h9 :: h10 :: h11 :: h12 :: h13 :: h14 :: h15 :: h16 :: h17 :: h18 :: h19 :: r))) = be [h4, h5, h6, h7] from rfl]
  refine hK.out _ _ hb (fun hH11 => ?_)
  clear hK K
  refine wpAnyH_ready (rs := [7]) (by kernel_rfl) (by simp) ?_
  refine AllReadyH.cons (o := _) rfl (fun K hK => ?_) AllReadyH.nil
  simp only [List.getElem_toArray, List.getElem_cons_zero, List.getElem_cons_succ]
  go_simp
  with_reducible refine (at32_8 _ _ _ _ _ hb (by have := H20.out; omega)).mono ?_
  rintro e w12 ⟨rfl, b12⟩
  dsimp only
  replace hp := blk_u hp b12
  replace hz := blk_u hz b12
  replace hb := hb.below b12
  replace pm := pm.below b12
  replace pb := pb.below b12
  replace bel := bel.trans (b12.mono bel.size)
  clear b12
  rw [show be (List.take 4 (List.drop 8 (h0 :: h1 :: h2 :: h3 :: h4 :: h5 :: h6 :: h7 :: h8 :: h9 :: h10 :: h11 :: h12 :: h13 :: h14 :: h15 :: h16 :: h17 :: h18 :: h19 :: r))) = be [h8, h9, h10, h11] from rfl]
  refine hK.out _ _ hb (fun hH13 => ?_)
  clear hK K
  refine wpAnyH_ready (rs := [14]) (by kernel_rfl) (by simp) ?_
  refine AllReadyH.cons (o := _) rfl (fun K hK => ?_) AllReadyH.nil
  simp only [List.getElem_toArray, List.getElem_cons_zero, List.getElem_cons_succ]
  go_simp
  with_reducible refine (at16_14 _ _ _ _ _ hb (by have := H20.out; omega)).mono ?_
  rintro e w14 ⟨rfl, b14⟩
  dsimp only
  replace hp := blk_u hp b14
  replace hz := blk_u hz b14
  replace hb := hb.below b14
  replace pm := pm.below b14
  replace pb := pb.below b14
  replace bel := bel.trans (b14.mono bel.size)
  clear b14
  rw [show be (List.take 2 (List.drop 14 (h0 :: h1 :: h2 :: h3 :: h4 :: h5 :: h6 :: h7 :: h8 :: h9 :: h10 :: h11 :: h12 :: h13 :: h14 :: h15 :: h16 :: h17 :: h18 :: h19 :: r))) = be [h14, h15] from rfl]
  refine hK.out _ _ hb (fun hH15 => ?_)
  clear hK K
  refine wpAnyH_ready (rs := [16]) (by kernel_rfl) (by simp) ?_
  refine AllReadyH.cons (o := _) rfl (fun K hK => ?_) AllReadyH.nil
  simp only [List.getElem_toArray, List.getElem_cons_zero, List.getElem_cons_succ]
  go_simp
  with_reducible refine (at16_18 _ _ _ _ _ hb (by have := H20.out; omega)).mono ?_
  rintro e w16 ⟨rfl, b16⟩
  dsimp only
  replace hp := blk_u hp b16
  replace hz := blk_u hz b16
  replace hb := hb.below b16
  replace pm := pm.below b16
  replace pb := pb.below b16
  replace bel := bel.trans (b16.mono bel.size)
  clear b16
  rw [show be (List.take 2 (List.drop 18 (h0 :: h1 :: h2 :: h3 :: h4 :: h5 :: h6 :: h7 :: h8 :: h9 :: h10 :: h11 :: h12 :: h13 :: h14 :: h15 :: h16 :: h17 :: h18 :: h19 :: r))) = be [h18, h19] from rfl]
  refine hK.out _ _ hb (fun hH17 => ?_)
  clear hK K
  refine wpAnyH_ready (rs := [20]) (by kernel_rfl) (by simp) ?_
  refine AllReadyH.cons (o := _) rfl (fun K hK => ?_) AllReadyH.nil
  simp only [List.getElem_toArray, List.getElem_cons_zero, List.getElem_cons_succ]
  go_simp
  with_reducible refine (rcopied_o _ _ _ _ _ pm (by have := HHK.out; have := HMN.out; have := HM.out; omega)).mono ?_
  rintro e w18 ⟨v, rfl, qbw, b18⟩
  dsimp only
  have y_qb_p := Lib.hid (hlt hp)
  have y_qb_z := Lib.hid (hlt hz)
  have bl_hb_qb := hb.bl_new
  have bl_pm_qb := pm.bl_new
  have bl_pb_qb := pb.bl_new
  have qblo := bel.size
  have lz_qb := b18.size
  replace hp := blk_u hp b18
  replace hz := blk_u hz b18
  replace hb := hb.below b18
  replace pm := pm.below b18
  replace pb := pb.below b18
  replace bel := bel.trans (b18.mono bel.size)
  clear b18
  obtain ⟨Aqb, cqb, rfl⟩ := own_val qbw
  have qb := (own_sl qbw).1
  have fr_qb := (own_sl qbw).2
  have av_qb_p := fr_qb.av y_qb_p.out
  have av_qb_z := fr_qb.av y_qb_z.out
  refine hK.out _ _ hb (fun hH19 => ?_)
  clear hK K
  refine wpAnyH_ready (rs := [24]) (by kernel_rfl) (by simp) ?_
  refine AllReadyH.cons (o := _) rfl (fun K hK => ?_) AllReadyH.nil
  simp only [List.getElem_toArray, List.getElem_cons_zero, List.getElem_cons_succ]
  go_simp
  with_reducible refine (rcopied_o _ _ _ _ _ pb (by have := HMN.out; have := HM.out; omega)).mono ?_
  rintro e w20 ⟨v, rfl, qdw, b20⟩
  dsimp only
  have y_qd_p := Lib.hid (hlt hp)
  have y_qd_z := Lib.hid (hlt hz)
  have bl_hb_qd := hb.bl_new
  have bl_pm_qd := pm.bl_new
  have bl_pb_qd := pb.bl_new
  have bl_qb_qd := qb.bl_new
  have qdlo := bel.size
  have lz_qd := b20.size
  replace hp := blk_u hp b20
  replace hz := blk_u hz b20
  replace hb := hb.below b20
  replace pm := pm.below b20
  replace pb := pb.below b20
  replace qb := qb.below b20
  replace qbw := own_under qbw b20
  replace lz_qb := Nat.le_trans lz_qb b20.size
  replace bel := bel.trans (b20.mono bel.size)
  clear b20
  obtain ⟨Aqd, cqd, rfl⟩ := own_val qdw
  have qd := (own_sl qdw).1
  have fr_qd := (own_sl qdw).2
  have av_qd_p := fr_qd.av y_qd_p.out
  have av_qd_z := fr_qd.av y_qd_z.out
  refine hK.out _ _ hb (fun hH21 => ?_)
  clear hK K
  refine wpAnyH_take (i := 25) (v := ?_) rfl (by kernel_rfl) (by kernel_rfl) (by kernel_rfl) (fun _ _ _ h => h) (Or.inl ⟨by rfl, ?_⟩) hH21 ?_
  rotate_left
  · ((intro W hW; clear hW; go_simp) <;> with_reducible rfl)
  simp only [Act.put, List.getElem_toArray, List.getElem_cons_zero, List.getElem_cons_succ, List.setIfInBounds_toArray, List.set_cons_zero, List.set_cons_succ]
  refine wpAnyH_ready (rs := [26]) (by kernel_rfl) (by simp) ?_
  refine AllReadyH.cons (o := _) rfl (fun K hK => ?_) AllReadyH.nil
  simp only [List.getElem_toArray, List.getElem_cons_zero, List.getElem_cons_succ]
  rw [if_pos (by rfl)]
  refine wp_store_blk 37 (.tmp 2) (.tmp 64) rfl g2 rfl _ rfl _ 37 hz (by rfl) (by kernel_rfl) (by kernel_rfl) ?_
  intro w22 hq gr
  replace hb := hb.away av_hb_z gr
  replace pm := pm.away av_pm_z gr
  replace pb := pb.away av_pb_z gr
  replace qb := qb.away av_qb_z gr
  replace qbw := own_away qbw y_qb_z.out gr
  replace qd := qd.away av_qd_z gr
  replace qdw := own_away qdw y_qd_z.out gr
  replace lz_qb := Nat.le_trans lz_qb gr.size
  replace lz_qd := Nat.le_trans lz_qd gr.size
  replace hp := blk_a hp gr d_p_z
  replace bel := below_grown bel gr oz bel.size
  clear hz
  have hz := hq
  clear hq gr
  refine hK.out _ _ hb (fun hH23 => ?_)
  clear hK K
  simp only [Act.put]
  refine wpAnyH_take (i := 27) (v := ?_) rfl (by kernel_rfl) (by kernel_rfl) (by kernel_rfl) (fun _ _ _ h => h) (Or.inl ⟨by rfl, ?_⟩) hH23 ?_
  rotate_left
  · ((intro W hW; clear hW; go_simp) <;> with_reducible rfl)
  simp only [Act.put, List.getElem_toArray, List.getElem_cons_zero, List.getElem_cons_succ, List.setIfInBounds_toArray, List.set_cons_zero, List.set_cons_succ]
  refine wpAnyH_done (by kernel_rfl) ?_ _
  go_wp2_with fail
  exact bodyPost_ret (results_cell_tmp_row rfl _ _ _ _ _ _ _ rfl hz Try.underlying37 rfl (by kernel_rfl) (.int .i64 0) rfl) rfl ⟨_, _, _, _, fg, _, _, r.take k, r.drop k, Aqb, Aqd, cqb, cqd, 0, by rw [HKL.out, HM2.out, HFW.out], by rw [HKL.out]; exact qb, by rw [HM2.out]; exact qd, by rw [HKL.out]; exact fr_qb.mono qblo, by rw [HM2.out]; exact fr_qd.mono qdlo, bel, HP.out.symm⟩
theorem rtcget_any (tos id fl pt ttl pr : Int) (a0 a1 a2 a3 a4 a5 a6 a7 : UInt8) (So Sb : Option Addr) (no co nb cb : Nat) (lb : List UInt8) (w : World) (hb : Sl w Sb nb cb lb) (hm : nb ≤ 80000) : Calls Try.prog 11 #[.agg #[.int .i64 tos, .int .i64 id, .int .i64 fl, .int .i64 pt, .int .i64 ttl, .int .i64 pr, .int .u8 (a0.toNat : Int), .int .u8 (a1.toNat : Int), .int .u8 (a2.toNat : Int), .int .u8 (a3.toNat : Int), .int .u8 (a4.toNat : Int), .int .u8 (a5.toNat : Int), .int .u8 (a6.toNat : Int), .int .u8 (a7.toNat : Int), .slice So no co, .slice Sb nb cb]] w (SgPost (tcGet fl pt pr a0 a1 a2 a3 a4 a5 a6 a7 lb) w) := by
  by_cases hp : pr = 6
  · subst hp
    rcases (by decide : ∀ b : Bool, b = true ∨ b = false) (decide (pt = 0) && decide (fl % 2 = 0)) with hw | hw
    · by_cases hn : nb < 20
      · exact rtcget_3 tos id fl pt ttl a0 a1 a2 a3 a4 a5 a6 a7 So Sb no co nb cb lb w hb hw hn
      · obtain ⟨gB, oB, rfl⟩ := sl_some hb (by omega)
        obtain ⟨h0, h1, h2, h3, h4, h5, h6, h7, h8, h9, h10, h11, h12, h13, h14, h15, h16, h17, h18, h19, r, rfl⟩ := list20 lb (by rw [hb.1]; omega)
        have h63 := u8_and63 h13.toNat
        by_cases hx : 20 ≤ h12.toNat / 16 * 4
        · by_cases hy : h12.toNat / 16 * 4 ≤ nb
          · by_cases hc : ck (l4Ps a0 a1 a2 a3 a4 a5 a6 a7 6 (nb : Int) ++ (h0 :: h1 :: h2 :: h3 :: h4 :: h5 :: h6 :: h7 :: h8 :: h9 :: h10 :: h11 :: h12 :: h13 :: h14 :: h15 :: h16 :: h17 :: h18 :: h19 :: r)) = 0
            · exact rtcget_7 tos id fl pt ttl a0 a1 a2 a3 a4 a5 a6 a7 So gB oB no co nb cb h0 h1 h2 h3 h4 h5 h6 h7 h8 h9 h10 h11 h12 h13 h14 h15 h16 h17 h18 h19 r _ _ w hb hm rfl h63 rfl hw hy hx hc
            · exact rtcget_6 tos id fl pt ttl a0 a1 a2 a3 a4 a5 a6 a7 So gB oB no co nb cb h0 h1 h2 h3 h4 h5 h6 h7 h8 h9 h10 h11 h12 h13 h14 h15 h16 h17 h18 h19 r _ _ w hb hm rfl h63 rfl hw hy hx hc
          · exact rtcget_5 tos id fl pt ttl a0 a1 a2 a3 a4 a5 a6 a7 So gB oB no co nb cb h0 h1 h2 h3 h4 h5 h6 h7 h8 h9 h10 h11 h12 h13 h14 h15 h16 h17 h18 h19 r _ _ w hb hm rfl h63 rfl hw (by omega) hx
        · exact rtcget_4 tos id fl pt ttl a0 a1 a2 a3 a4 a5 a6 a7 So gB oB no co nb cb h0 h1 h2 h3 h4 h5 h6 h7 h8 h9 h10 h11 h12 h13 h14 h15 h16 h17 h18 h19 r _ _ w hb hm rfl h63 rfl hw (by omega)
    · exact rtcget_2 tos id fl pt ttl a0 a1 a2 a3 a4 a5 a6 a7 So Sb no co nb cb lb w hw
  · exact rtcget_1 tos id fl pt ttl pr a0 a1 a2 a3 a4 a5 a6 a7 So Sb no co nb cb lb w hp
end Go.Proofs.Ytkmihoijnjdbnaa
