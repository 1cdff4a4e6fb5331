/- The reference's GetIcmp, PutIcmp, Query, Fault. -/
import Derived.Test.YtfmllopeeiecjaaIcl
import Derived.Test.YtfmllopeeiecjaaRd3
import Derived.Test.YtfmllopeeiecjaaUd3
import Derived.Deep.CutRange
namespace Go.Proofs.Ytfmllopeeiecjaa
open Go.RowKit

set_option linter.unusedVariables false in
set_option maxRecDepth 100000 in
set_option maxHeartbeats 16000000 in
theorem ricget_1 (tos id fl pt ttl pr : Int) (a0 a1 a2 a3 a4 a5 a6 a7 : UInt8) (So Sb : Option Addr) (no co nb cb : Nat) (lb : List UInt8) (w : World) (hp : pr ≠ 1) : Calls Try.prog 17 #[.agg #[.int .i64 tos, .int .i64 id, .int .i64 fl, .int .i64 pt, .int .i64 ttl, .int .i64 pr, .int .u8 (a0.toNat : Int), .int .u8 (a1.toNat : Int), .int .u8 (a2.toNat : Int), .int .u8 (a3.toNat : Int), .int .u8 (a4.toNat : Int), .int .u8 (a5.toNat : Int), .int .u8 (a6.toNat : Int), .int .u8 (a7.toNat : Int), .slice So no co, .slice Sb nb cb]] w (MsPost (icGet fl pt pr (lb)) w) := by
  have HP : Hid (icGet fl pt pr (lb) = msNone 1) := Lib.hid (ic_err (by exact if_pos hp) (by decide))
  have t0 : (pr == 1) = false := by simpa using hp
  have t1 : (pr != 1) = true := by simpa using hp
  clear hp
  have bel := Below.refl w.heap.size w
  go_enter Try.func17, Try.ntmps17
  go_wp2_with (first | ((with_reducible show wpList _ _ _ (⟨some 1, _, _, _, _, _⟩ :: _) _ _); refine wpList_box_n rfl 45 (.tmp 0) rfl #[.int .i64 tos, .int .i64 id, .int .i64 fl, .int .i64 pt, .int .i64 ttl, .int .i64 pr, .int .u8 (a0.toNat : Int), .int .u8 (a1.toNat : Int), .int .u8 (a2.toNat : Int), .int .u8 (a3.toNat : Int), .int .u8 (a4.toNat : Int), .int .u8 (a5.toNat : Int), .int .u8 (a6.toNat : Int), .int .u8 (a7.toNat : Int), .slice So no co, .slice Sb nb cb] rfl ?_; intro g1 w1 ge lt hh bb; have op := Nat.le_trans bel.size ge; replace bel := bel.trans (bb.mono bel.size); have hp := hh; clear hh lt ge bb) | ((with_reducible show wpList _ _ _ (⟨some 2, _, _, _, _, _⟩ :: _) _ _); refine wpList_new_a rfl 42 rfl #[.int .i64 0, .int .i64 0, .int .u32 0, .slice none 0 0] (by kernel_rfl) ?_; intro g2 w2 ge hh bb; have d_p_z := ne_new (hlt hp) ge; have oz := Nat.le_trans bel.size ge; replace hp := blk_u hp bb; replace bel := bel.trans (bb.mono bel.size); have hz := hh; clear hh ge bb; have R6 := cell_lit hp 5 _ rfl) | ((with_reducible show wpList _ _ _ (⟨none, Op.store _ (.tmp 2) _, _, _, _, _⟩ :: _) _ _); refine wpList_store_blk rfl 42 (.tmp 2) (.tmp 8) rfl g2 rfl _ rfl _ 42 hz (by rfl) (by kernel_rfl) (by kernel_rfl) ?_; intro w3 hq gr; replace hp := blk_a hp gr d_p_z; replace bel := below_grown bel gr oz bel.size; clear hz; have hz := hq; clear hq gr))
  try clear R6
  exact bodyPost_ret (results_cell_tmp_row rfl _ _ _ _ _ _ _ rfl hz Try.underlying42 rfl (by kernel_rfl) (.int .i64 1) rfl) rfl (MsPost.none HP.out.symm bel)
set_option linter.unusedVariables false in
set_option maxRecDepth 100000 in
set_option maxHeartbeats 16000000 in
theorem ricget_2 (tos id fl pt ttl : Int) (a0 a1 a2 a3 a4 a5 a6 a7 : UInt8) (So Sb : Option Addr) (no co nb cb : Nat) (lb : List UInt8) (w : World) (hw : (decide (pt = 0) && decide (fl % 2 = 0)) = false) : Calls Try.prog 17 #[.agg #[.int .i64 tos, .int .i64 id, .int .i64 fl, .int .i64 pt, .int .i64 ttl, .int .i64 1, .int .u8 (a0.toNat : Int), .int .u8 (a1.toNat : Int), .int .u8 (a2.toNat : Int), .int .u8 (a3.toNat : Int), .int .u8 (a4.toNat : Int), .int .u8 (a5.toNat : Int), .int .u8 (a6.toNat : Int), .int .u8 (a7.toNat : Int), .slice So no co, .slice Sb nb cb]] w (MsPost (icGet fl pt 1 (lb)) w) := by
  have HP : Hid (icGet fl pt 1 (lb) = msNone 10) := Lib.hid (ic_err (by unfold icErr; rw [if_neg (by decide), if_pos (by simpa using hw)]) (by decide))
  have HW := Lib.hid hw
  clear hw
  have bel := Below.refl w.heap.size w
  go_enter Try.func17, Try.ntmps17
  go_wp2_with (first | ((with_reducible show wpList _ _ _ (⟨some 1, _, _, _, _, _⟩ :: _) _ _); refine wpList_box_n rfl 45 (.tmp 0) rfl #[.int .i64 tos, .int .i64 id, .int .i64 fl, .int .i64 pt, .int .i64 ttl, .int .i64 1, .int .u8 (a0.toNat : Int), .int .u8 (a1.toNat : Int), .int .u8 (a2.toNat : Int), .int .u8 (a3.toNat : Int), .int .u8 (a4.toNat : Int), .int .u8 (a5.toNat : Int), .int .u8 (a6.toNat : Int), .int .u8 (a7.toNat : Int), .slice So no co, .slice Sb nb cb] rfl ?_; intro g1 w1 ge lt hh bb; have op := Nat.le_trans bel.size ge; replace bel := bel.trans (bb.mono bel.size); have hp := hh; clear hh lt ge bb) | ((with_reducible show wpList _ _ _ (⟨some 2, _, _, _, _, _⟩ :: _) _ _); refine wpList_new_a rfl 42 rfl #[.int .i64 0, .int .i64 0, .int .u32 0, .slice none 0 0] (by kernel_rfl) ?_; intro g2 w2 ge hh bb; have d_p_z := ne_new (hlt hp) ge; have oz := Nat.le_trans bel.size ge; replace hp := blk_u hp bb; replace bel := bel.trans (bb.mono bel.size); have hz := hh; clear hh ge bb; have R6 := cell_lit hp 5 _ rfl; have R9 := Lib.hid (range_lit hp 0 16 [.int .i64 tos, .int .i64 id, .int .i64 fl, .int .i64 pt, .int .i64 ttl, .int .i64 1, .int .u8 (a0.toNat : Int), .int .u8 (a1.toNat : Int), .int .u8 (a2.toNat : Int), .int .u8 (a3.toNat : Int), .int .u8 (a4.toNat : Int), .int .u8 (a5.toNat : Int), .int .u8 (a6.toNat : Int), .int .u8 (a7.toNat : Int), .slice So no co, .slice Sb nb cb] rfl)) | ((with_reducible show wpList _ _ _ (⟨some 9, _, _, _, _, _⟩ :: _) _ _); refine wpList_load_rng 45 (.tmp 1) rfl (by kernel_rfl) _ _ rfl _ R9.out _ Try.underlying45 rfl (by kernel_rfl) ?_))
  try clear R6
  try clear R9
  with_reducible refine (rwhole_any _ _ _ _ _ _ _ _ _ _ _ _ _ _ _ _ _ _ _ _ _).mono ?_
  rintro e w3 ⟨rfl, b3⟩
  replace hp := blk_u hp b3
  replace hz := blk_u hz b3
  replace bel := bel.trans (b3.mono bel.size)
  clear b3
  rw [HW.out]
  go_wp2_with (first | ((with_reducible show wpList _ _ _ (⟨none, Op.store _ (.tmp 2) _, _, _, _, _⟩ :: _) _ _); refine wpList_store_blk rfl 42 (.tmp 2) (.tmp 12) rfl g2 rfl _ rfl _ 42 hz (by rfl) (by kernel_rfl) (by kernel_rfl) ?_; intro w4 hq gr; replace hp := blk_a hp gr d_p_z; replace bel := below_grown bel gr oz bel.size; clear hz; have hz := hq; clear hq gr))
  exact bodyPost_ret (results_cell_tmp_row rfl _ _ _ _ _ _ _ rfl hz Try.underlying42 rfl (by kernel_rfl) (.int .i64 10) rfl) rfl (MsPost.none HP.out.symm bel)
set_option linter.unusedVariables false in
set_option maxRecDepth 100000 in
set_option maxHeartbeats 16000000 in
theorem ricget_3 (tos id fl pt ttl : Int) (a0 a1 a2 a3 a4 a5 a6 a7 : UInt8) (So Sb : Option Addr) (no co nb cb : Nat) (lb : List UInt8) (w : World) (hb : Sl w Sb nb cb lb) (hw : (decide (pt = 0) && decide (fl % 2 = 0)) = true) (hn : nb < 8) : Calls Try.prog 17 #[.agg #[.int .i64 tos, .int .i64 id, .int .i64 fl, .int .i64 pt, .int .i64 ttl, .int .i64 1, .int .u8 (a0.toNat : Int), .int .u8 (a1.toNat : Int), .int .u8 (a2.toNat : Int), .int .u8 (a3.toNat : Int), .int .u8 (a4.toNat : Int), .int .u8 (a5.toNat : Int), .int .u8 (a6.toNat : Int), .int .u8 (a7.toNat : Int), .slice So no co, .slice Sb nb cb]] w (MsPost (icGet fl pt 1 (lb)) w) := by
  have HP : Hid (icGet fl pt 1 (lb) = msNone 3) := Lib.hid (ic_err (by unfold icErr; rw [if_neg (by decide), if_neg (by simpa using hw), if_pos (by rw [hb.1]; exact hn)]) (by decide))
  have HW := Lib.hid hw
  have t0 : (nb : Int) < 8 := by omega
  clear hw hn
  have bel := Below.refl w.heap.size w
  go_enter Try.func17, Try.ntmps17
  go_wp2_with (first | ((with_reducible show wpList _ _ _ (⟨some 1, _, _, _, _, _⟩ :: _) _ _); refine wpList_box_n rfl 45 (.tmp 0) rfl #[.int .i64 tos, .int .i64 id, .int .i64 fl, .int .i64 pt, .int .i64 ttl, .int .i64 1, .int .u8 (a0.toNat : Int), .int .u8 (a1.toNat : Int), .int .u8 (a2.toNat : Int), .int .u8 (a3.toNat : Int), .int .u8 (a4.toNat : Int), .int .u8 (a5.toNat : Int), .int .u8 (a6.toNat : Int), .int .u8 (a7.toNat : Int), .slice So no co, .slice Sb nb cb] rfl ?_; intro g1 w1 ge lt hh bb; have av_hb_p := hb.av_new ge; have op := Nat.le_trans bel.size ge; replace hb := hb.below bb; replace bel := bel.trans (bb.mono bel.size); have hp := hh; clear hh lt ge bb) | ((with_reducible show wpList _ _ _ (⟨some 2, _, _, _, _, _⟩ :: _) _ _); refine wpList_new_a rfl 42 rfl #[.int .i64 0, .int .i64 0, .int .u32 0, .slice none 0 0] (by kernel_rfl) ?_; intro g2 w2 ge hh bb; have d_p_z := ne_new (hlt hp) ge; have av_hb_z := hb.av_new ge; have oz := Nat.le_trans bel.size ge; replace hp := blk_u hp bb; replace hb := hb.below bb; replace bel := bel.trans (bb.mono bel.size); have hz := hh; clear hh ge bb; have R6 := cell_lit hp 5 _ rfl; have R9 := Lib.hid (range_lit hp 0 16 [.int .i64 tos, .int .i64 id, .int .i64 fl, .int .i64 pt, .int .i64 ttl, .int .i64 1, .int .u8 (a0.toNat : Int), .int .u8 (a1.toNat : Int), .int .u8 (a2.toNat : Int), .int .u8 (a3.toNat : Int), .int .u8 (a4.toNat : Int), .int .u8 (a5.toNat : Int), .int .u8 (a6.toNat : Int), .int .u8 (a7.toNat : Int), .slice So no co, .slice Sb nb cb] rfl)) | ((with_reducible show wpList _ _ _ (⟨some 9, _, _, _, _, _⟩ :: _) _ _); refine wpList_load_rng 45 (.tmp 1) rfl (by kernel_rfl) _ _ rfl _ R9.out _ Try.underlying45 rfl (by kernel_rfl) ?_))
  try clear R6
  try clear R9
  with_reducible refine (rwhole_any _ _ _ _ _ _ _ _ _ _ _ _ _ _ _ _ _ _ _ _ _).mono ?_
  rintro e w3 ⟨rfl, b3⟩
  replace hp := blk_u hp b3
  replace hz := blk_u hz b3
  replace hb := hb.below b3
  replace bel := bel.trans (b3.mono bel.size)
  clear b3
  rw [HW.out]
  have R14 := cell_lit hp 15 _ rfl
  go_wp2_with (first | ((with_reducible show wpList _ _ _ (⟨none, Op.store _ (.tmp 2) _, _, _, _, _⟩ :: _) _ _); refine wpList_store_blk rfl 42 (.tmp 2) (.tmp 18) rfl g2 rfl _ rfl _ 42 hz (by rfl) (by kernel_rfl) (by kernel_rfl) ?_; intro w4 hq gr; replace hb := hb.away av_hb_z gr; replace hp := blk_a hp gr d_p_z; replace bel := below_grown bel gr oz bel.size; clear hz; have hz := hq; clear hq gr))
  try clear R14
  exact bodyPost_ret (results_cell_tmp_row rfl _ _ _ _ _ _ _ rfl hz Try.underlying42 rfl (by kernel_rfl) (.int .i64 3) rfl) rfl (MsPost.none HP.out.symm bel)
set_option linter.unusedVariables false in
set_option maxRecDepth 100000 in
set_option maxHeartbeats 16000000 in
theorem ricget_4 (tos id fl pt ttl : Int) (a0 a1 a2 a3 a4 a5 a6 a7 : UInt8) (So : Option Addr) (gB oB : Nat) (no co nb cb : Nat) (h0 h1 h2 h3 h4 h5 h6 h7 : UInt8) (r : List UInt8) (w : World) (hb : Sl w (some ⟨gB, oB, none⟩) nb cb (h0 :: h1 :: h2 :: h3 :: h4 :: h5 :: h6 :: h7 :: r)) (hm : nb ≤ 100000) (hw : (decide (pt = 0) && decide (fl % 2 = 0)) = true) (hc : ck (h0 :: h1 :: h2 :: h3 :: h4 :: h5 :: h6 :: h7 :: r) ≠ 0) : Calls Try.prog 17 #[.agg #[.int .i64 tos, .int .i64 id, .int .i64 fl, .int .i64 pt, .int .i64 ttl, .int .i64 1, .int .u8 (a0.toNat : Int), .int .u8 (a1.toNat : Int), .int .u8 (a2.toNat : Int), .int .u8 (a3.toNat : Int), .int .u8 (a4.toNat : Int), .int .u8 (a5.toNat : Int), .int .u8 (a6.toNat : Int), .int .u8 (a7.toNat : Int), .slice So no co, .slice (some ⟨gB, oB, none⟩) nb cb]] w (MsPost (icGet fl pt 1 (h0 :: h1 :: h2 :: h3 :: h4 :: h5 :: h6 :: h7 :: r)) w) := by
  have HP : Hid (icGet fl pt 1 (h0 :: h1 :: h2 :: h3 :: h4 :: h5 :: h6 :: h7 :: r) = msNone 5) := Lib.hid (ic_err (by rw [ic_at (by simp) hw, if_pos hc]) (by decide))
  have HM := Lib.hid hm
  have HW := Lib.hid hw
  have h8n : 8 ≤ nb := by have := hb.1; simp only [List.length_cons] at this; omega
  have H8 := Lib.hid h8n
  have tn : decide ((nb : Int) < 8) = false := decide_eq_false (by omega)
  have m0 : 0 < nb := by omega
  have m1 : (1 : Int) < nb := by omega
  have v0 : (0 : Int) ≤ h0.toNat := by omega
  have v1 : (h0.toNat : Int) < 256 := by have := h0.toNat_lt; omega
  have u0 : (0 : Int) ≤ h1.toNat := by omega
  have u1 : (h1.toNat : Int) < 256 := by have := h1.toNat_lt; omega
  have HW0 : Hid (IntKind.i64.wrap (h0.toNat : Int) = (h0.toNat : Int)) := Lib.hid (IntWalk.i64_in _ (by omega))
  have HW1 : Hid (IntKind.i64.wrap (h1.toNat : Int) = (h1.toNat : Int)) := Lib.hid (IntWalk.i64_in _ (by omega))
  obtain ⟨cv, hcv⟩ : ∃ cv, Hid (ck (h0 :: h1 :: h2 :: h3 :: h4 :: h5 :: h6 :: h7 :: r) = cv) := ⟨_, Lib.hid rfl⟩
  rw [hcv.out] at hc
  clear hm hw h8n
  have t4 : (cv == 0) = false := by simpa using hc
  have t5 : (cv != 0) = true := by simpa using hc
  clear hc
  have bel := Below.refl w.heap.size w
  go_enter Try.func17, Try.ntmps17
  go_wp2_with (first | ((with_reducible show wpList _ _ _ (⟨some 1, _, _, _, _, _⟩ :: _) _ _); refine wpList_box_n rfl 45 (.tmp 0) rfl #[.int .i64 tos, .int .i64 id, .int .i64 fl, .int .i64 pt, .int .i64 ttl, .int .i64 1, .int .u8 (a0.toNat : Int), .int .u8 (a1.toNat : Int), .int .u8 (a2.toNat : Int), .int .u8 (a3.toNat : Int), .int .u8 (a4.toNat : Int), .int .u8 (a5.toNat : Int), .int .u8 (a6.toNat : Int), .int .u8 (a7.toNat : Int), .slice So no co, .slice (some ⟨gB, oB, none⟩) nb cb] rfl ?_; intro g1 w1 ge lt hh bb; have av_hb_p := hb.av_new ge; have op := Nat.le_trans bel.size ge; replace hb := hb.below bb; replace bel := bel.trans (bb.mono bel.size); have hp := hh; clear hh lt ge bb) | ((with_reducible show wpList _ _ _ (⟨some 2, _, _, _, _, _⟩ :: _) _ _); refine wpList_new_a rfl 42 rfl #[.int .i64 0, .int .i64 0, .int .u32 0, .slice none 0 0] (by kernel_rfl) ?_; intro g2 w2 ge hh bb; have d_p_z := ne_new (hlt hp) ge; have av_hb_z := hb.av_new ge; have oz := Nat.le_trans bel.size ge; replace hp := blk_u hp bb; replace hb := hb.below bb; replace bel := bel.trans (bb.mono bel.size); have hz := hh; clear hh ge bb; have R6 := cell_lit hp 5 _ rfl; have R9 := Lib.hid (range_lit hp 0 16 [.int .i64 tos, .int .i64 id, .int .i64 fl, .int .i64 pt, .int .i64 ttl, .int .i64 1, .int .u8 (a0.toNat : Int), .int .u8 (a1.toNat : Int), .int .u8 (a2.toNat : Int), .int .u8 (a3.toNat : Int), .int .u8 (a4.toNat : Int), .int .u8 (a5.toNat : Int), .int .u8 (a6.toNat : Int), .int .u8 (a7.toNat : Int), .slice So no co, .slice (some ⟨gB, oB, none⟩) nb cb] rfl)) | ((with_reducible show wpList _ _ _ (⟨some 9, _, _, _, _, _⟩ :: _) _ _); refine wpList_load_rng 45 (.tmp 1) rfl (by kernel_rfl) _ _ rfl _ R9.out _ Try.underlying45 rfl (by kernel_rfl) ?_))
  try clear R6
  try clear R9
  with_reducible refine (rwhole_any _ _ _ _ _ _ _ _ _ _ _ _ _ _ _ _ _ _ _ _ _).mono ?_
  rintro e w3 ⟨rfl, b3⟩
  replace hp := blk_u hp b3
  replace hz := blk_u hz b3
  replace hb := hb.below b3
  replace bel := bel.trans (b3.mono bel.size)
  clear b3
  rw [HW.out]
  have R14 := cell_lit hp 15 _ rfl
  go_wp2_with fail
  clear R14
  with_reducible refine (rof_b _ _ _ _ _ hb (by have := HM.out; omega)).mono ?_
  rintro e w4 ⟨rfl, b4⟩
  replace hp := blk_u hp b4
  replace hz := blk_u hz b4
  replace hb := hb.below b4
  replace bel := bel.trans (b4.mono bel.size)
  clear b4
  rw [hcv.out]
  go_wp2_with (first | ((with_reducible show wpList _ _ _ (⟨none, Op.store _ (.tmp 2) _, _, _, _, _⟩ :: _) _ _); refine wpList_store_blk rfl 42 (.tmp 2) (.tmp 22) rfl g2 rfl _ rfl _ 42 hz (by rfl) (by kernel_rfl) (by kernel_rfl) ?_; intro w5 hq gr; replace hb := hb.away av_hb_z gr; replace hp := blk_a hp gr d_p_z; replace bel := below_grown bel gr oz bel.size; clear hz; have hz := hq; clear hq gr))
  exact bodyPost_ret (results_cell_tmp_row rfl _ _ _ _ _ _ _ rfl hz Try.underlying42 rfl (by kernel_rfl) (.int .i64 5) rfl) rfl (MsPost.none HP.out.symm bel)
set_option linter.unusedVariables false in
set_option maxRecDepth 100000 in
set_option maxHeartbeats 16000000 in
theorem ricget_5 (tos id fl pt ttl : Int) (a0 a1 a2 a3 a4 a5 a6 a7 : UInt8) (So : Option Addr) (gB oB : Nat) (no co nb cb : Nat) (h0 h1 h2 h3 h4 h5 h6 h7 : UInt8) (r : List UInt8) (w : World) (hb : Sl w (some ⟨gB, oB, none⟩) nb cb (h0 :: h1 :: h2 :: h3 :: h4 :: h5 :: h6 :: h7 :: r)) (hm : nb ≤ 100000) (hw : (decide (pt = 0) && decide (fl % 2 = 0)) = true) (hc : ck (h0 :: h1 :: h2 :: h3 :: h4 :: h5 :: h6 :: h7 :: r) = 0) : Calls Try.prog 17 #[.agg #[.int .i64 tos, .int .i64 id, .int .i64 fl, .int .i64 pt, .int .i64 ttl, .int .i64 1, .int .u8 (a0.toNat : Int), .int .u8 (a1.toNat : Int), .int .u8 (a2.toNat : Int), .int .u8 (a3.toNat : Int), .int .u8 (a4.toNat : Int), .int .u8 (a5.toNat : Int), .int .u8 (a6.toNat : Int), .int .u8 (a7.toNat : Int), .slice So no co, .slice (some ⟨gB, oB, none⟩) nb cb]] w (MsPost (icGet fl pt 1 (h0 :: h1 :: h2 :: h3 :: h4 :: h5 :: h6 :: h7 :: r)) w) := by
  have HP : Hid (icGet fl pt 1 (h0 :: h1 :: h2 :: h3 :: h4 :: h5 :: h6 :: h7 :: r) = ([(h0.toNat : Int), (h1.toNat : Int), ((be [h4, h5, h6, h7] : Nat) : Int)], r, 0)) := Lib.hid (ic_ok (by rw [ic_at (by simp) hw, if_neg (fun h => h hc)]))
  have HM := Lib.hid hm
  have HW := Lib.hid hw
  have h8n : 8 ≤ nb := by have := hb.1; simp only [List.length_cons] at this; omega
  have H8 := Lib.hid h8n
  have tn : decide ((nb : Int) < 8) = false := decide_eq_false (by omega)
  have m0 : 0 < nb := by omega
  have m1 : (1 : Int) < nb := by omega
  have v0 : (0 : Int) ≤ h0.toNat := by omega
  have v1 : (h0.toNat : Int) < 256 := by have := h0.toNat_lt; omega
  have u0 : (0 : Int) ≤ h1.toNat := by omega
  have u1 : (h1.toNat : Int) < 256 := by have := h1.toNat_lt; omega
  have HW0 : Hid (IntKind.i64.wrap (h0.toNat : Int) = (h0.toNat : Int)) := Lib.hid (IntWalk.i64_in _ (by omega))
  have HW1 : Hid (IntKind.i64.wrap (h1.toNat : Int) = (h1.toNat : Int)) := Lib.hid (IntWalk.i64_in _ (by omega))
  obtain ⟨cv, hcv⟩ : ∃ cv, Hid (ck (h0 :: h1 :: h2 :: h3 :: h4 :: h5 :: h6 :: h7 :: r) = cv) := ⟨_, Lib.hid rfl⟩
  rw [hcv.out] at hc
  clear hm hw h8n
  obtain ⟨m, hm2⟩ : ∃ m, r.length = m := ⟨_, rfl⟩
  have HM2 := Lib.hid hm2
  have HMN : Hid (nb = 8 + m) := Lib.hid (by have h9 := hb.1; simp only [List.length_cons] at h9; omega)
  clear hm2
  have t4 : (cv == 0) = true := by simpa using hc
  have t5 : (cv != 0) = false := by simpa using hc
  clear hc
  have bel := Below.refl w.heap.size w
  go_enter Try.func17, Try.ntmps17
  go_wp2_with (first | ((with_reducible show wpList _ _ _ (⟨some 1, _, _, _, _, _⟩ :: _) _ _); refine wpList_box_n rfl 45 (.tmp 0) rfl #[.int .i64 tos, .int .i64 id, .int .i64 fl, .int .i64 pt, .int .i64 ttl, .int .i64 1, .int .u8 (a0.toNat : Int), .int .u8 (a1.toNat : Int), .int .u8 (a2.toNat : Int), .int .u8 (a3.toNat : Int), .int .u8 (a4.toNat : Int), .int .u8 (a5.toNat : Int), .int .u8 (a6.toNat : Int), .int .u8 (a7.toNat : Int), .slice So no co, .slice (some ⟨gB, oB, none⟩) nb cb] rfl ?_; intro g1 w1 ge lt hh bb; have av_hb_p := hb.av_new ge; have op := Nat.le_trans bel.size ge; replace hb := hb.below bb; replace bel := bel.trans (bb.mono bel.size); have hp := hh; clear hh lt ge bb) | ((with_reducible show wpList _ _ _ (⟨some 2, _, _, _, _, _⟩ :: _) _ _); refine wpList_new_a rfl 42 rfl #[.int .i64 0, .int .i64 0, .int .u32 0, .slice none 0 0] (by kernel_rfl) ?_; intro g2 w2 ge hh bb; have d_p_z := ne_new (hlt hp) ge; have av_hb_z := hb.av_new ge; have oz := Nat.le_trans bel.size ge; replace hp := blk_u hp bb; replace hb := hb.below bb; replace bel := bel.trans (bb.mono bel.size); have hz := hh; clear hh ge bb; have R6 := cell_lit hp 5 _ rfl; have R9 := Lib.hid (range_lit hp 0 16 [.int .i64 tos, .int .i64 id, .int .i64 fl, .int .i64 pt, .int .i64 ttl, .int .i64 1, .int .u8 (a0.toNat : Int), .int .u8 (a1.toNat : Int), .int .u8 (a2.toNat : Int), .int .u8 (a3.toNat : Int), .int .u8 (a4.toNat : Int), .int .u8 (a5.toNat : Int), .int .u8 (a6.toNat : Int), .int .u8 (a7.toNat : Int), .slice So no co, .slice (some ⟨gB, oB, none⟩) nb cb] rfl)) | ((with_reducible show wpList _ _ _ (⟨some 9, _, _, _, _, _⟩ :: _) _ _); refine wpList_load_rng 45 (.tmp 1) rfl (by kernel_rfl) _ _ rfl _ R9.out _ Try.underlying45 rfl (by kernel_rfl) ?_))
  try clear R6
  try clear R9
  with_reducible refine (rwhole_any _ _ _ _ _ _ _ _ _ _ _ _ _ _ _ _ _ _ _ _ _).mono ?_
  rintro e w3 ⟨rfl, b3⟩
  replace hp := blk_u hp b3
  replace hz := blk_u hz b3
  replace hb := hb.below b3
  replace bel := bel.trans (b3.mono bel.size)
  clear b3
  rw [HW.out]
  have R14 := cell_lit hp 15 _ rfl
  go_wp2_with fail
  clear R14
  with_reducible refine (rof_b _ _ _ _ _ hb (by have := HM.out; omega)).mono ?_
  rintro e w4 ⟨rfl, b4⟩
  replace hp := blk_u hp b4
  replace hz := blk_u hz b4
  replace hb := hb.below b4
  replace bel := bel.trans (b4.mono bel.size)
  clear b4
  rw [hcv.out]
  go_wp2_with fail
  replace bel := bel.drew
  replace hp : w4.drew.heap[g1]? = _ := hp
  replace hz : w4.drew.heap[g2]? = _ := hz
  replace hb := hb.drew
  refine wp_region_held_drew (S := fun W => Sl W (some ⟨gB, oB, none⟩) (nb) (cb) (h0 :: h1 :: h2 :: h3 :: h4 :: h5 :: h6 :: h7 :: r)) (by kernel_rfl) hb (fun hH => ?_)
  generalize w4.drew = w5 at bel hp hz hb hH ⊢
  refine wpAnyH_take (i := 0) (v := ?_) rfl (by kernel_rfl) (by kernel_rfl) (by kernel_rfl) (fun _ _ _ h => h) (Or.inl ⟨by rfl, ?_⟩) hH ?_
  rotate_left
  · ((intro W hW; clear hW; go_simp) <;> with_reducible rfl)
  simp only [Act.put, List.getElem_toArray, List.getElem_cons_zero, List.setIfInBounds_toArray, List.set_cons_zero, List.set_cons_succ]
  refine wpAnyH_take (i := 1) (v := ?_) rfl (by kernel_rfl) (by kernel_rfl) (by kernel_rfl) (fun _ _ _ h => h) (Or.inl ⟨by rfl, ?_⟩) hH ?_
  rotate_left
  · ((intro W hW; clear hW; go_simp) <;> with_reducible rfl)
  simp only [Act.put, List.getElem_toArray, List.getElem_cons_zero, List.getElem_cons_succ, List.setIfInBounds_toArray, List.set_cons_zero, List.set_cons_succ]
  refine wpAnyH_take (i := 2) (v := ?_) rfl (by kernel_rfl) (by kernel_rfl) (by kernel_rfl) (fun _ _ _ h => h) (Or.inl ⟨by rfl, ?_⟩) hH ?_
  rotate_left
  · ((intro W hW; have hk := sl_at (hW) (j := 0) rfl; rw [Nat.add_zero] at hk; clear hW; go_simp) <;> with_reducible rfl)
  simp only [Act.put, List.getElem_toArray, List.getElem_cons_zero, List.getElem_cons_succ, List.setIfInBounds_toArray, List.set_cons_zero, List.set_cons_succ]
  refine wpAnyH_take (i := 3) (v := ?_) rfl (by kernel_rfl) (by kernel_rfl) (by kernel_rfl) (fun _ _ _ h => h) (Or.inl ⟨by rfl, ?_⟩) hH ?_
  rotate_left
  · ((intro W hW; clear hW; go_simp) <;> with_reducible rfl)
  simp only [Act.put, List.getElem_toArray, List.getElem_cons_zero, List.getElem_cons_succ, List.setIfInBounds_toArray, List.set_cons_zero, List.set_cons_succ]
  refine wpAnyH_take (i := 4) (v := ?_) rfl (by kernel_rfl) (by kernel_rfl) (by kernel_rfl) (fun _ _ _ h => h) (Or.inl ⟨by rfl, ?_⟩) hH ?_
  rotate_left
  · ((intro W hW; clear hW; go_simp) <;> with_reducible rfl)
  simp only [Act.put, List.getElem_toArray, List.getElem_cons_zero, List.getElem_cons_succ, List.setIfInBounds_toArray, List.set_cons_zero, List.set_cons_succ]
  refine wpAnyH_take (i := 5) (v := ?_) rfl (by kernel_rfl) (by kernel_rfl) (by kernel_rfl) (fun _ _ _ h => h) (Or.inl ⟨by rfl, ?_⟩) hH ?_
  rotate_left
  · ((intro W hW; clear hW; go_simp) <;> with_reducible rfl)
  simp only [Act.put, List.getElem_toArray, List.getElem_cons_zero, List.getElem_cons_succ, List.setIfInBounds_toArray, List.set_cons_zero, List.set_cons_succ]
  refine wpAnyH_take (i := 6) (v := ?_) rfl (by kernel_rfl) (by kernel_rfl) (by kernel_rfl) (fun _ _ _ h => h) (Or.inl ⟨by rfl, ?_⟩) hH ?_
  rotate_left
  · ((intro W hW; have hk := sl_at (hW) (j := 1) rfl; clear hW; go_simp) <;> with_reducible rfl)
  simp only [Act.put, List.getElem_toArray, List.getElem_cons_zero, List.getElem_cons_succ, List.setIfInBounds_toArray, List.set_cons_zero, List.set_cons_succ]
  refine wpAnyH_take (i := 7) (v := ?_) rfl (by kernel_rfl) (by kernel_rfl) (by kernel_rfl) (fun _ _ _ h => h) (Or.inl ⟨by rfl, ?_⟩) hH ?_
  rotate_left
  · ((intro W hW; clear hW; go_simp) <;> with_reducible rfl)
  simp only [Act.put, List.getElem_toArray, List.getElem_cons_zero, List.getElem_cons_succ, List.setIfInBounds_toArray, List.set_cons_zero, List.set_cons_succ]
  refine wpAnyH_take (i := 8) (v := ?_) rfl (by kernel_rfl) (by kernel_rfl) (by kernel_rfl) (fun _ _ _ h => h) (Or.inl ⟨by rfl, ?_⟩) hH ?_
  rotate_left
  · ((intro W hW; clear hW; go_simp) <;> with_reducible rfl)
  simp only [Act.put, List.getElem_toArray, List.getElem_cons_zero, List.getElem_cons_succ, List.setIfInBounds_toArray, List.set_cons_zero, List.set_cons_succ]
  refine wpAnyH_take (i := 10) (v := ?_) rfl (by kernel_rfl) (by kernel_rfl) (by kernel_rfl) (fun _ _ _ h => h) (Or.inl ⟨by rfl, ?_⟩) hH ?_
  rotate_left
  · ((intro W hW; clear hW; go_simp) <;> with_reducible rfl)
  simp only [Act.put, List.getElem_toArray, List.getElem_cons_zero, List.getElem_cons_succ, List.setIfInBounds_toArray, List.set_cons_zero, List.set_cons_succ]
  obtain ⟨Apb, cpb, r34, f34, u34⟩ := piece_back hb (k := 8) (by have := HMN.out; omega)
  rw [show nb - 8 = m by have := HMN.out; omega] at r34 f34 u34
  replace r34 : ∀ W, (Instr.slice 25 (.slice (some ⟨gB, oB, none⟩) nb cb) (some (.int .i64 8)) none none).run Try.prog W = .ok (.slice Apb m cpb) W := r34
  have pb : Sl w5 Apb m cpb (r) := by (have q := f34 _ hb; exact q)
  have av_pb_p := av_hb_p.sub u34
  have av_pb_z := av_hb_z.sub u34
  clear f34 u34
  refine wpAnyH_take (i := 11) (v := ?_) rfl (by kernel_rfl) (by kernel_rfl) (by kernel_rfl) (fun _ _ _ h => h) (Or.inl ⟨by rfl, ?_⟩) hH ?_
  rotate_left
  · ((intro W hW; clear hW; go_simp) <;> with_reducible rfl)
  simp only [Act.put, List.getElem_toArray, List.getElem_cons_zero, List.getElem_cons_succ, List.setIfInBounds_toArray, List.set_cons_zero, List.set_cons_succ]
  refine wpAnyH_ready (rs := [9]) (by kernel_rfl) (by simp) ?_
  refine AllReadyH.cons (o := _) rfl (fun K hK => ?_) AllReadyH.nil
  simp only [List.getElem_toArray, List.getElem_cons_zero, List.getElem_cons_succ]
  go_simp
  with_reducible refine (at32_4 _ _ _ _ _ hb (by have := H8.out; omega)).mono ?_
  rintro e w6 ⟨rfl, b6⟩
  dsimp only
  replace hp := blk_u hp b6
  replace hz := blk_u hz b6
  replace hb := hb.below b6
  replace pb := pb.below b6
  replace bel := bel.trans (b6.mono bel.size)
  clear b6
  rw [show be (List.take 4 (List.drop 4 (h0 :: h1 :: h2 :: h3 :: h4 :: h5 :: h6 :: h7 :: r))) = be [h4, h5, h6, h7] from rfl]
  refine hK.out _ _ hb (fun hH7 => ?_)
  clear hK K
  refine wpAnyH_ready (rs := [12]) (by kernel_rfl) (by simp) ?_
  refine AllReadyH.cons (o := _) rfl (fun K hK => ?_) AllReadyH.nil
  simp only [List.getElem_toArray, List.getElem_cons_zero, List.getElem_cons_succ]
  go_simp
  with_reducible refine (rcopied_o _ _ _ _ _ pb (by have := HMN.out; have := HM.out; omega)).mono ?_
  rintro e w8 ⟨v, rfl, qdw, b8⟩
  dsimp only
  have y_qd_p := Lib.hid (hlt hp)
  have y_qd_z := Lib.hid (hlt hz)
  have bl_hb_qd := hb.bl_new
  have bl_pb_qd := pb.bl_new
  have qdlo := bel.size
  have lz_qd := b8.size
  replace hp := blk_u hp b8
  replace hz := blk_u hz b8
  replace hb := hb.below b8
  replace pb := pb.below b8
  replace bel := bel.trans (b8.mono bel.size)
  clear b8
  obtain ⟨Aqd, cqd, rfl⟩ := own_val qdw
  have qd := (own_sl qdw).1
  have fr_qd := (own_sl qdw).2
  have av_qd_p := fr_qd.av y_qd_p.out
  have av_qd_z := fr_qd.av y_qd_z.out
  refine hK.out _ _ hb (fun hH9 => ?_)
  clear hK K
  refine wpAnyH_take (i := 13) (v := ?_) rfl (by kernel_rfl) (by kernel_rfl) (by kernel_rfl) (fun _ _ _ h => h) (Or.inl ⟨by rfl, ?_⟩) hH9 ?_
  rotate_left
  · ((intro W hW; clear hW; go_simp) <;> with_reducible rfl)
  simp only [Act.put, List.getElem_toArray, List.getElem_cons_zero, List.getElem_cons_succ, List.setIfInBounds_toArray, List.set_cons_zero, List.set_cons_succ]
  refine wpAnyH_ready (rs := [14]) (by kernel_rfl) (by simp) ?_
  refine AllReadyH.cons (o := _) rfl (fun K hK => ?_) AllReadyH.nil
  simp only [List.getElem_toArray, List.getElem_cons_zero, List.getElem_cons_succ]
  rw [if_pos (by rfl)]
  refine wp_store_blk 42 (.tmp 2) (.tmp 36) rfl g2 rfl _ rfl _ 42 hz (by rfl) (by kernel_rfl) (by kernel_rfl) ?_
  intro w10 hq gr
  replace hb := hb.away av_hb_z gr
  replace pb := pb.away av_pb_z gr
  replace qd := qd.away av_qd_z gr
  replace qdw := own_away qdw y_qd_z.out gr
  replace lz_qd := Nat.le_trans lz_qd gr.size
  replace hp := blk_a hp gr d_p_z
  replace bel := below_grown bel gr oz bel.size
  clear hz
  have hz := hq
  clear hq gr
  refine hK.out _ _ hb (fun hH11 => ?_)
  clear hK K
  simp only [Act.put]
  refine wpAnyH_take (i := 15) (v := ?_) rfl (by kernel_rfl) (by kernel_rfl) (by kernel_rfl) (fun _ _ _ h => h) (Or.inl ⟨by rfl, ?_⟩) hH11 ?_
  rotate_left
  · ((intro W hW; clear hW; go_simp) <;> with_reducible rfl)
  simp only [Act.put, List.getElem_toArray, List.getElem_cons_zero, List.getElem_cons_succ, List.setIfInBounds_toArray, List.set_cons_zero, List.set_cons_succ]
  refine wpAnyH_done (by kernel_rfl) ?_ _
  go_wp2_with fail
  exact bodyPost_ret (results_cell_tmp_row rfl _ _ _ _ _ _ _ rfl hz Try.underlying42 rfl (by kernel_rfl) (.int .i64 0) rfl) rfl ⟨_, _, _, r, Aqd, cqd, 0, by rw [HM2.out, HW0.out, HW1.out], by rw [HM2.out]; exact qd, by rw [HM2.out]; exact fr_qd.mono qdlo, bel, HP.out.symm⟩
theorem ricget_any (tos id fl pt ttl pr : Int) (a0 a1 a2 a3 a4 a5 a6 a7 : UInt8) (So Sb : Option Addr) (no co nb cb : Nat) (lb : List UInt8) (w : World) (hb : Sl w Sb nb cb lb) (hm : nb ≤ 100000) : Calls Try.prog 17 #[.agg #[.int .i64 tos, .int .i64 id, .int .i64 fl, .int .i64 pt, .int .i64 ttl, .int .i64 pr, .int .u8 (a0.toNat : Int), .int .u8 (a1.toNat : Int), .int .u8 (a2.toNat : Int), .int .u8 (a3.toNat : Int), .int .u8 (a4.toNat : Int), .int .u8 (a5.toNat : Int), .int .u8 (a6.toNat : Int), .int .u8 (a7.toNat : Int), .slice So no co, .slice Sb nb cb]] w (MsPost (icGet fl pt pr lb) w) := by
  by_cases hp : pr = 1
  · subst hp
    rcases (by decide : ∀ b : Bool, b = true ∨ b = false) (decide (pt = 0) && decide (fl % 2 = 0)) with hw | hw
    · by_cases hn : nb < 8
      · exact ricget_3 tos id fl pt ttl a0 a1 a2 a3 a4 a5 a6 a7 So Sb no co nb cb lb w hb hw hn
      · obtain ⟨gB, oB, rfl⟩ := sl_some hb (by omega)
        obtain ⟨h0, h1, h2, h3, h4, h5, h6, h7, r, rfl⟩ := list8 lb (by rw [hb.1]; omega)
        by_cases hc : ck (h0 :: h1 :: h2 :: h3 :: h4 :: h5 :: h6 :: h7 :: r) = 0
        · exact ricget_5 tos id fl pt ttl a0 a1 a2 a3 a4 a5 a6 a7 So gB oB no co nb cb h0 h1 h2 h3 h4 h5 h6 h7 r w hb hm hw hc
        · exact ricget_4 tos id fl pt ttl a0 a1 a2 a3 a4 a5 a6 a7 So gB oB no co nb cb h0 h1 h2 h3 h4 h5 h6 h7 r w hb hm hw hc
    · exact ricget_2 tos id fl pt ttl a0 a1 a2 a3 a4 a5 a6 a7 So Sb no co nb cb lb w hw
  · exact ricget_1 tos id fl pt ttl pr a0 a1 a2 a3 a4 a5 a6 a7 So Sb no co nb cb lb w hp
set_option maxRecDepth 100000 in
set_option maxHeartbeats 16000000 in
theorem ricfault_0 (ty cd re : Int) (D : Option Addr) (nd qd : Nat) (h0 : (ty == 3) = true) (w : World) : Calls Try.prog 22 #[.agg #[.int .i64 ty, .int .i64 cd, .int .u32 re, .slice D nd qd]] w fun e w' => e = .returned (.bool true) ∧ Below w.heap.size w w' := by
  have bel := Below.refl w.heap.size w
  go_enter Try.func22, Try.ntmps22
  go_wp2_with (first | ((with_reducible show wpList _ _ _ (⟨some 1, _, _, _, _, _⟩ :: _) _ _); refine wpList_box_n rfl 42 (.tmp 0) rfl #[.int .i64 ty, .int .i64 cd, .int .u32 re, .slice D nd qd] rfl ?_; intro g1 w1 ge lt hh bb; have om := Nat.le_trans bel.size ge; replace bel := bel.trans (bb.mono bel.size); have hm := hh; clear hh lt ge bb; have R4 := cell_lit hm 0 _ rfl))
  try clear R4
  go_ret
  exact ⟨rfl, bel⟩
set_option maxRecDepth 100000 in
set_option maxHeartbeats 16000000 in
theorem ricfault_1 (ty cd re : Int) (D : Option Addr) (nd qd : Nat) (h0 : (ty == 3) = false) (h1 : (ty == 11) = true) (w : World) : Calls Try.prog 22 #[.agg #[.int .i64 ty, .int .i64 cd, .int .u32 re, .slice D nd qd]] w fun e w' => e = .returned (.bool true) ∧ Below w.heap.size w w' := by
  have bel := Below.refl w.heap.size w
  go_enter Try.func22, Try.ntmps22
  go_wp2_with (first | ((with_reducible show wpList _ _ _ (⟨some 1, _, _, _, _, _⟩ :: _) _ _); refine wpList_box_n rfl 42 (.tmp 0) rfl #[.int .i64 ty, .int .i64 cd, .int .u32 re, .slice D nd qd] rfl ?_; intro g1 w1 ge lt hh bb; have om := Nat.le_trans bel.size ge; replace bel := bel.trans (bb.mono bel.size); have hm := hh; clear hh lt ge bb; have R4 := cell_lit hm 0 _ rfl; have R8 := cell_lit hm 0 _ rfl))
  try clear R4
  try clear R8
  go_ret
  exact ⟨rfl, bel⟩
set_option maxRecDepth 100000 in
set_option maxHeartbeats 16000000 in
theorem ricfault_2 (ty cd re : Int) (D : Option Addr) (nd qd : Nat) (h0 : (ty == 3) = false) (h1 : (ty == 11) = false) (h2 : (ty == 12) = true) (w : World) : Calls Try.prog 22 #[.agg #[.int .i64 ty, .int .i64 cd, .int .u32 re, .slice D nd qd]] w fun e w' => e = .returned (.bool true) ∧ Below w.heap.size w w' := by
  have bel := Below.refl w.heap.size w
  go_enter Try.func22, Try.ntmps22
  go_wp2_with (first | ((with_reducible show wpList _ _ _ (⟨some 1, _, _, _, _, _⟩ :: _) _ _); refine wpList_box_n rfl 42 (.tmp 0) rfl #[.int .i64 ty, .int .i64 cd, .int .u32 re, .slice D nd qd] rfl ?_; intro g1 w1 ge lt hh bb; have om := Nat.le_trans bel.size ge; replace bel := bel.trans (bb.mono bel.size); have hm := hh; clear hh lt ge bb; have R4 := cell_lit hm 0 _ rfl; have R8 := cell_lit hm 0 _ rfl; have R13 := cell_lit hm 0 _ rfl))
  try clear R4
  try clear R8
  try clear R13
  go_ret
  exact ⟨rfl, bel⟩
set_option maxRecDepth 100000 in
set_option maxHeartbeats 16000000 in
theorem ricfault_3 (ty cd re : Int) (D : Option Addr) (nd qd : Nat) (h0 : (ty == 3) = false) (h1 : (ty == 11) = false) (h2 : (ty == 12) = false) (w : World) : Calls Try.prog 22 #[.agg #[.int .i64 ty, .int .i64 cd, .int .u32 re, .slice D nd qd]] w fun e w' => e = .returned (.bool false) ∧ Below w.heap.size w w' := by
  have bel := Below.refl w.heap.size w
  go_enter Try.func22, Try.ntmps22
  go_wp2_with (first | ((with_reducible show wpList _ _ _ (⟨some 1, _, _, _, _, _⟩ :: _) _ _); refine wpList_box_n rfl 42 (.tmp 0) rfl #[.int .i64 ty, .int .i64 cd, .int .u32 re, .slice D nd qd] rfl ?_; intro g1 w1 ge lt hh bb; have om := Nat.le_trans bel.size ge; replace bel := bel.trans (bb.mono bel.size); have hm := hh; clear hh lt ge bb; have R4 := cell_lit hm 0 _ rfl; have R8 := cell_lit hm 0 _ rfl; have R13 := cell_lit hm 0 _ rfl))
  try clear R4
  try clear R8
  try clear R13
  go_ret
  exact ⟨rfl, bel⟩
theorem ricfault_any (ty cd re : Int) (D : Option Addr) (nd qd : Nat) (w : World) : Calls Try.prog 22 #[.agg #[.int .i64 ty, .int .i64 cd, .int .u32 re, .slice D nd qd]] w fun e w' => e = .returned (.bool (faultT ty)) ∧ Below w.heap.size w w' := by
  unfold faultT
  by_cases h0 : ty = 3
  · rw [decide_eq_true h0, Bool.true_or]
    exact ricfault_0 ty cd re D nd qd (by simpa using h0) w
  by_cases h1 : ty = 11
  · rw [decide_eq_false h0, decide_eq_true h1, Bool.false_or, Bool.true_or]
    exact ricfault_1 ty cd re D nd qd (by simpa using h0) (by simpa using h1) w
  by_cases h2 : ty = 12
  · rw [decide_eq_false h0, decide_eq_false h1, decide_eq_true h2, Bool.false_or, Bool.false_or]
    exact ricfault_2 ty cd re D nd qd (by simpa using h0) (by simpa using h1) (by simpa using h2) w
  · rw [decide_eq_false h0, decide_eq_false h1, decide_eq_false h2, Bool.false_or, Bool.false_or]
    exact ricfault_3 ty cd re D nd qd (by simpa using h0) (by simpa using h1) (by simpa using h2) w
set_option maxRecDepth 100000 in
set_option maxHeartbeats 16000000 in
theorem ricquery_0 (ty cd re : Int) (D : Option Addr) (nd qd : Nat) (g0 : ty ≠ 0) (g1 : ty ≠ 8) (w : World) : Calls Try.prog 19 #[.agg #[.int .i64 ty, .int .i64 cd, .int .u32 re, .slice D nd qd]] w fun e w' => e = .returned (.tuple #[.int .i64 0, .bool false]) ∧ Below w.heap.size w w' := by
  have t0 : (ty == 0) = false := by simpa using g0
  have u0 : (ty != 0) = true := by simpa using g0
  have t1 : (ty == 8) = false := by simpa using g1
  have u1 : (ty != 8) = true := by simpa using g1
  clear g0 g1
  have bel := Below.refl w.heap.size w
  go_enter Try.func19, Try.ntmps19
  go_wp2_with (first | ((with_reducible show wpList _ _ _ (⟨some 1, _, _, _, _, _⟩ :: _) _ _); refine wpList_box_n rfl 42 (.tmp 0) rfl #[.int .i64 ty, .int .i64 cd, .int .u32 re, .slice D nd qd] rfl ?_; intro g1 w1 ge lt hh bb; have om := Nat.le_trans bel.size ge; replace bel := bel.trans (bb.mono bel.size); have hm := hh; clear hh lt ge bb; have R5 := cell_lit hm 0 _ rfl; have R9 := cell_lit hm 0 _ rfl))
  try clear R5
  try clear R9
  exact bodyPost_ret (v := .tuple #[.int .i64 0, .bool false]) (by simp [results, Try.results19, go_sem]) rfl ⟨rfl, bel⟩
set_option maxRecDepth 100000 in
set_option maxHeartbeats 16000000 in
theorem ricquery_1 (ty cd re : Int) (D : Option Addr) (nd qd : Nat) (g0 : ty = 0) (g2 : cd ≠ 0) (w : World) : Calls Try.prog 19 #[.agg #[.int .i64 ty, .int .i64 cd, .int .u32 re, .slice D nd qd]] w fun e w' => e = .returned (.tuple #[.int .i64 0, .bool false]) ∧ Below w.heap.size w w' := by
  have t0 : (ty == 0) = true := by simpa using g0
  have u0 : (ty != 0) = false := by simpa using g0
  have t2 : (cd == 0) = false := by simpa using g2
  have u2 : (cd != 0) = true := by simpa using g2
  clear g0 g2
  have bel := Below.refl w.heap.size w
  go_enter Try.func19, Try.ntmps19
  go_wp2_with (first | ((with_reducible show wpList _ _ _ (⟨some 1, _, _, _, _, _⟩ :: _) _ _); refine wpList_box_n rfl 42 (.tmp 0) rfl #[.int .i64 ty, .int .i64 cd, .int .u32 re, .slice D nd qd] rfl ?_; intro g1 w1 ge lt hh bb; have om := Nat.le_trans bel.size ge; replace bel := bel.trans (bb.mono bel.size); have hm := hh; clear hh lt ge bb; have R5 := cell_lit hm 0 _ rfl; have R14 := cell_lit hm 1 _ rfl))
  try clear R5
  try clear R14
  exact bodyPost_ret (v := .tuple #[.int .i64 0, .bool false]) (by simp [results, Try.results19, go_sem]) rfl ⟨rfl, bel⟩
set_option maxRecDepth 100000 in
set_option maxHeartbeats 16000000 in
theorem ricquery_2 (ty cd re : Int) (D : Option Addr) (nd qd : Nat) (g0 : ty = 0) (g2 : cd = 0) (e0 : 0 ≤ re) (e1 : re < 4294967296) (w : World) : Calls Try.prog 19 #[.agg #[.int .i64 ty, .int .i64 cd, .int .u32 re, .slice D nd qd]] w fun e w' => e = .returned (.tuple #[.int .i64 (re / 65536), .bool true]) ∧ Below w.heap.size w w' := by
  have t0 : (ty == 0) = true := by simpa using g0
  have u0 : (ty != 0) = false := by simpa using g0
  have t2 : (cd == 0) = true := by simpa using g2
  have u2 : (cd != 0) = false := by simpa using g2
  clear g0 g2
  have bel := Below.refl w.heap.size w
  go_enter Try.func19, Try.ntmps19
  go_wp2_with (first | ((with_reducible show wpList _ _ _ (⟨some 1, _, _, _, _, _⟩ :: _) _ _); refine wpList_box_n rfl 42 (.tmp 0) rfl #[.int .i64 ty, .int .i64 cd, .int .u32 re, .slice D nd qd] rfl ?_; intro g1 w1 ge lt hh bb; have om := Nat.le_trans bel.size ge; replace bel := bel.trans (bb.mono bel.size); have hm := hh; clear hh lt ge bb; have R5 := cell_lit hm 0 _ rfl; have R14 := cell_lit hm 1 _ rfl; have R18 := cell_lit hm 2 _ rfl))
  try clear R5
  try clear R14
  try clear R18
  exact bodyPost_ret (v := .tuple #[.int .i64 (re / 65536), .bool true]) (by simp [results, Try.results19, go_sem]) rfl ⟨rfl, bel⟩
set_option maxRecDepth 100000 in
set_option maxHeartbeats 16000000 in
theorem ricquery_3 (ty cd re : Int) (D : Option Addr) (nd qd : Nat) (g0 : ty ≠ 0) (g1 : ty = 8) (g2 : cd ≠ 0) (w : World) : Calls Try.prog 19 #[.agg #[.int .i64 ty, .int .i64 cd, .int .u32 re, .slice D nd qd]] w fun e w' => e = .returned (.tuple #[.int .i64 0, .bool false]) ∧ Below w.heap.size w w' := by
  have t0 : (ty == 0) = false := by simpa using g0
  have u0 : (ty != 0) = true := by simpa using g0
  have t1 : (ty == 8) = true := by simpa using g1
  have u1 : (ty != 8) = false := by simpa using g1
  have t2 : (cd == 0) = false := by simpa using g2
  have u2 : (cd != 0) = true := by simpa using g2
  clear g0 g1 g2
  have bel := Below.refl w.heap.size w
  go_enter Try.func19, Try.ntmps19
  go_wp2_with (first | ((with_reducible show wpList _ _ _ (⟨some 1, _, _, _, _, _⟩ :: _) _ _); refine wpList_box_n rfl 42 (.tmp 0) rfl #[.int .i64 ty, .int .i64 cd, .int .u32 re, .slice D nd qd] rfl ?_; intro g1 w1 ge lt hh bb; have om := Nat.le_trans bel.size ge; replace bel := bel.trans (bb.mono bel.size); have hm := hh; clear hh lt ge bb; have R5 := cell_lit hm 0 _ rfl; have R9 := cell_lit hm 0 _ rfl; have R14 := cell_lit hm 1 _ rfl))
  try clear R5
  try clear R9
  try clear R14
  exact bodyPost_ret (v := .tuple #[.int .i64 0, .bool false]) (by simp [results, Try.results19, go_sem]) rfl ⟨rfl, bel⟩
set_option maxRecDepth 100000 in
set_option maxHeartbeats 16000000 in
theorem ricquery_4 (ty cd re : Int) (D : Option Addr) (nd qd : Nat) (g0 : ty ≠ 0) (g1 : ty = 8) (g2 : cd = 0) (e0 : 0 ≤ re) (e1 : re < 4294967296) (w : World) : Calls Try.prog 19 #[.agg #[.int .i64 ty, .int .i64 cd, .int .u32 re, .slice D nd qd]] w fun e w' => e = .returned (.tuple #[.int .i64 (re / 65536), .bool true]) ∧ Below w.heap.size w w' := by
  have t0 : (ty == 0) = false := by simpa using g0
  have u0 : (ty != 0) = true := by simpa using g0
  have t1 : (ty == 8) = true := by simpa using g1
  have u1 : (ty != 8) = false := by simpa using g1
  have t2 : (cd == 0) = true := by simpa using g2
  have u2 : (cd != 0) = false := by simpa using g2
  clear g0 g1 g2
  have bel := Below.refl w.heap.size w
  go_enter Try.func19, Try.ntmps19
  go_wp2_with (first | ((with_reducible show wpList _ _ _ (⟨some 1, _, _, _, _, _⟩ :: _) _ _); refine wpList_box_n rfl 42 (.tmp 0) rfl #[.int .i64 ty, .int .i64 cd, .int .u32 re, .slice D nd qd] rfl ?_; intro g1 w1 ge lt hh bb; have om := Nat.le_trans bel.size ge; replace bel := bel.trans (bb.mono bel.size); have hm := hh; clear hh lt ge bb; have R5 := cell_lit hm 0 _ rfl; have R9 := cell_lit hm 0 _ rfl; have R14 := cell_lit hm 1 _ rfl; have R18 := cell_lit hm 2 _ rfl))
  try clear R5
  try clear R9
  try clear R14
  try clear R18
  exact bodyPost_ret (v := .tuple #[.int .i64 (re / 65536), .bool true]) (by simp [results, Try.results19, go_sem]) rfl ⟨rfl, bel⟩
theorem ricquery_any (ty cd re : Int) (D : Option Addr) (nd qd : Nat) (e0 : 0 ≤ re) (e1 : re < 4294967296) (w : World) : Calls Try.prog 19 #[.agg #[.int .i64 ty, .int .i64 cd, .int .u32 re, .slice D nd qd]] w fun e w' => e = .returned (.tuple #[.int .i64 (if (echoT ty && decide (cd = 0)) = true then re / 65536 else 0), .bool (echoT ty && decide (cd = 0))]) ∧ Below w.heap.size w w' := by
  unfold echoT
  by_cases g0 : ty = 0
  · rw [decide_eq_true g0, Bool.or_true, Bool.true_and]
    by_cases g2 : cd = 0
    · rw [decide_eq_true g2]
      exact ricquery_2 ty cd re D nd qd g0 g2 e0 e1 w
    · rw [decide_eq_false g2]
      exact ricquery_1 ty cd re D nd qd g0 g2 w
  by_cases g1 : ty = 8
  · rw [decide_eq_true g1, Bool.true_or, Bool.true_and]
    by_cases g2 : cd = 0
    · rw [decide_eq_true g2]
      exact ricquery_4 ty cd re D nd qd g0 g1 g2 e0 e1 w
    · rw [decide_eq_false g2]
      exact ricquery_3 ty cd re D nd qd g0 g1 g2 w
  · rw [decide_eq_false g0, decide_eq_false g1]
    exact ricquery_0 ty cd re D nd qd g0 g1 w
theorem rbyte_any (v : Int) (w : World) : Calls Try.prog 47 #[.int .i64 v, .int .i64 255] w fun e w' => e = .returned (.bool (byteOk v)) ∧ w = w' := rfits_any v 255 w
/-- The sum's two bytes are written last; until then they are noughts. -/
theorem ic_ck (ty cd re : Int) (b : List UInt8) : ck ([byteOf ty, byteOf cd, 0, 0] ++ four re ++ b) = icSum ty cd re b := by
  unfold icSum
  refine ck_of_ws ?_
  rw [show [byteOf ty, byteOf cd, 0, 0] ++ four re ++ b = [byteOf ty, byteOf cd] ++ 0 :: 0 :: (four re ++ b) by simp, show [[byteOf ty, byteOf cd], four re ++ b].flatten = [byteOf ty, byteOf cd] ++ (four re ++ b) by simp, ws_at _ _ _ _ (by simp), ws_even [byteOf ty, byteOf cd] _ (by simp)]
  simp
set_option linter.unusedVariables false in
set_option maxRecDepth 100000 in
set_option maxHeartbeats 16000000 in
theorem ricput_bad1 (tos id fl pt ttl pr : Int) (a0 a1 a2 a3 a4 a5 a6 a7 : UInt8) (So Sb : Option Addr) (no co nb cb : Nat) (ty cd re : Int) (D : Option Addr) (nd qd : Nat) (lo ld : List UInt8) (w : World) (ho : Sl w So no co lo) (hb : Sl w D nd qd ld) (h1 : byteOk ty = false) : Calls Try.prog 23 #[.agg #[.int .i64 tos, .int .i64 id, .int .i64 fl, .int .i64 pt, .int .i64 ttl, .int .i64 pr, .int .u8 (a0.toNat : Int), .int .u8 (a1.toNat : Int), .int .u8 (a2.toNat : Int), .int .u8 (a3.toNat : Int), .int .u8 (a4.toNat : Int), .int .u8 (a5.toNat : Int), .int .u8 (a6.toNat : Int), .int .u8 (a7.toNat : Int), .slice So no co, .slice Sb nb cb], .agg #[.int .i64 ty, .int .i64 cd, .int .u32 re, .slice D nd qd]] w (PkPost (icPut tos id fl pt ttl a0 a1 a2 a3 a4 a5 a6 a7 lo ty cd re ld) w) := by
  have H1 := Lib.hid h1
  have HP : Hid (icPut tos id fl pt ttl a0 a1 a2 a3 a4 a5 a6 a7 lo ty cd re ld = pkNone 1) := Lib.hid (if_pos (by rw [h1]; rfl))
  clear h1
  have bel := Below.refl w.heap.size w
  go_enter Try.func23, Try.ntmps23
  go_wp2_with (first | ((with_reducible show wpList _ _ _ (⟨some 2, _, _, _, _, _⟩ :: _) _ _); refine wpList_box_n rfl 45 (.tmp 0) rfl #[.int .i64 tos, .int .i64 id, .int .i64 fl, .int .i64 pt, .int .i64 ttl, .int .i64 pr, .int .u8 (a0.toNat : Int), .int .u8 (a1.toNat : Int), .int .u8 (a2.toNat : Int), .int .u8 (a3.toNat : Int), .int .u8 (a4.toNat : Int), .int .u8 (a5.toNat : Int), .int .u8 (a6.toNat : Int), .int .u8 (a7.toNat : Int), .slice So no co, .slice Sb nb cb] rfl ?_; intro g2 w1 ge lt hh bb; have op := Nat.le_trans bel.size ge; replace bel := bel.trans (bb.mono bel.size); have hp := hh; clear hh lt ge bb) | ((with_reducible show wpList _ _ _ (⟨some 3, _, _, _, _, _⟩ :: _) _ _); refine wpList_box_n rfl 42 (.tmp 1) rfl #[.int .i64 ty, .int .i64 cd, .int .u32 re, .slice D nd qd] rfl ?_; intro g3 w2 ge lt hh bb; have d_p_m := ne_new (hlt hp) ge; have om := Nat.le_trans bel.size ge; replace hp := blk_u hp bb; replace bel := bel.trans (bb.mono bel.size); have hm := hh; clear hh lt ge bb) | ((with_reducible show wpList _ _ _ (⟨some 4, _, _, _, _, _⟩ :: _) _ _); refine wpList_new_a rfl 45 rfl #[.int .i64 0, .int .i64 0, .int .i64 0, .int .i64 0, .int .i64 0, .int .i64 0, .int .u8 0, .int .u8 0, .int .u8 0, .int .u8 0, .int .u8 0, .int .u8 0, .int .u8 0, .int .u8 0, .slice none 0 0, .slice none 0 0] (by kernel_rfl) ?_; intro g4 w3 ge hh bb; have d_p_z := ne_new (hlt hp) ge; have d_m_z := ne_new (hlt hm) ge; have oz := Nat.le_trans bel.size ge; replace hp := blk_u hp bb; replace hm := blk_u hm bb; replace bel := bel.trans (bb.mono bel.size); have hz := hh; clear hh ge bb; have R9 := cell_lit hm 0 _ rfl))
  try clear R9
  with_reducible refine (rbyte_any _ _).mono ?_
  rintro e _ ⟨rfl, rfl⟩
  rw [H1.out]
  go_wp2_with (first | ((with_reducible show wpList _ _ _ (⟨none, Op.store _ (.tmp 4) _, _, _, _, _⟩ :: _) _ _); refine wpList_store_blk rfl 45 (.tmp 4) (.tmp 18) rfl g4 rfl _ rfl _ 45 hz (by rfl) (by kernel_rfl) (by kernel_rfl) ?_; intro w4 hq gr; replace hp := blk_a hp gr d_p_z; replace hm := blk_a hm gr d_m_z; replace bel := below_grown bel gr oz bel.size; clear hz; have hz := hq; clear hq gr))
  exact bodyPost_ret (results_cell_tmp_row rfl _ _ _ _ _ _ _ rfl hz Try.underlying45 rfl (by kernel_rfl) (.int .i64 1) rfl) rfl (by rw [HP.out]; exact PkPost.none bel)
set_option linter.unusedVariables false in
set_option maxRecDepth 100000 in
set_option maxHeartbeats 16000000 in
theorem ricput_bad2 (tos id fl pt ttl pr : Int) (a0 a1 a2 a3 a4 a5 a6 a7 : UInt8) (So Sb : Option Addr) (no co nb cb : Nat) (ty cd re : Int) (D : Option Addr) (nd qd : Nat) (lo ld : List UInt8) (w : World) (ho : Sl w So no co lo) (hb : Sl w D nd qd ld) (h1 : byteOk ty = true) (h2 : byteOk cd = false) : Calls Try.prog 23 #[.agg #[.int .i64 tos, .int .i64 id, .int .i64 fl, .int .i64 pt, .int .i64 ttl, .int .i64 pr, .int .u8 (a0.toNat : Int), .int .u8 (a1.toNat : Int), .int .u8 (a2.toNat : Int), .int .u8 (a3.toNat : Int), .int .u8 (a4.toNat : Int), .int .u8 (a5.toNat : Int), .int .u8 (a6.toNat : Int), .int .u8 (a7.toNat : Int), .slice So no co, .slice Sb nb cb], .agg #[.int .i64 ty, .int .i64 cd, .int .u32 re, .slice D nd qd]] w (PkPost (icPut tos id fl pt ttl a0 a1 a2 a3 a4 a5 a6 a7 lo ty cd re ld) w) := by
  have H1 := Lib.hid h1
  have H2 := Lib.hid h2
  have HP : Hid (icPut tos id fl pt ttl a0 a1 a2 a3 a4 a5 a6 a7 lo ty cd re ld = pkNone 1) := Lib.hid (if_pos (by rw [h1, h2]; rfl))
  clear h1 h2
  have bel := Below.refl w.heap.size w
  go_enter Try.func23, Try.ntmps23
  go_wp2_with (first | ((with_reducible show wpList _ _ _ (⟨some 2, _, _, _, _, _⟩ :: _) _ _); refine wpList_box_n rfl 45 (.tmp 0) rfl #[.int .i64 tos, .int .i64 id, .int .i64 fl, .int .i64 pt, .int .i64 ttl, .int .i64 pr, .int .u8 (a0.toNat : Int), .int .u8 (a1.toNat : Int), .int .u8 (a2.toNat : Int), .int .u8 (a3.toNat : Int), .int .u8 (a4.toNat : Int), .int .u8 (a5.toNat : Int), .int .u8 (a6.toNat : Int), .int .u8 (a7.toNat : Int), .slice So no co, .slice Sb nb cb] rfl ?_; intro g2 w1 ge lt hh bb; have op := Nat.le_trans bel.size ge; replace bel := bel.trans (bb.mono bel.size); have hp := hh; clear hh lt ge bb) | ((with_reducible show wpList _ _ _ (⟨some 3, _, _, _, _, _⟩ :: _) _ _); refine wpList_box_n rfl 42 (.tmp 1) rfl #[.int .i64 ty, .int .i64 cd, .int .u32 re, .slice D nd qd] rfl ?_; intro g3 w2 ge lt hh bb; have d_p_m := ne_new (hlt hp) ge; have om := Nat.le_trans bel.size ge; replace hp := blk_u hp bb; replace bel := bel.trans (bb.mono bel.size); have hm := hh; clear hh lt ge bb) | ((with_reducible show wpList _ _ _ (⟨some 4, _, _, _, _, _⟩ :: _) _ _); refine wpList_new_a rfl 45 rfl #[.int .i64 0, .int .i64 0, .int .i64 0, .int .i64 0, .int .i64 0, .int .i64 0, .int .u8 0, .int .u8 0, .int .u8 0, .int .u8 0, .int .u8 0, .int .u8 0, .int .u8 0, .int .u8 0, .slice none 0 0, .slice none 0 0] (by kernel_rfl) ?_; intro g4 w3 ge hh bb; have d_p_z := ne_new (hlt hp) ge; have d_m_z := ne_new (hlt hm) ge; have oz := Nat.le_trans bel.size ge; replace hp := blk_u hp bb; replace hm := blk_u hm bb; replace bel := bel.trans (bb.mono bel.size); have hz := hh; clear hh ge bb; have R9 := cell_lit hm 0 _ rfl))
  try clear R9
  with_reducible refine (rbyte_any _ _).mono ?_
  rintro e _ ⟨rfl, rfl⟩
  rw [H1.out]
  have R14 := cell_lit hm 1 _ rfl
  go_wp2_with fail
  clear R14
  with_reducible refine (rbyte_any _ _).mono ?_
  rintro e _ ⟨rfl, rfl⟩
  rw [H2.out]
  go_wp2_with (first | ((with_reducible show wpList _ _ _ (⟨none, Op.store _ (.tmp 4) _, _, _, _, _⟩ :: _) _ _); refine wpList_store_blk rfl 45 (.tmp 4) (.tmp 18) rfl g4 rfl _ rfl _ 45 hz (by rfl) (by kernel_rfl) (by kernel_rfl) ?_; intro w4 hq gr; replace hp := blk_a hp gr d_p_z; replace hm := blk_a hm gr d_m_z; replace bel := below_grown bel gr oz bel.size; clear hz; have hz := hq; clear hq gr))
  exact bodyPost_ret (results_cell_tmp_row rfl _ _ _ _ _ _ _ rfl hz Try.underlying45 rfl (by kernel_rfl) (.int .i64 1) rfl) rfl (by rw [HP.out]; exact PkPost.none bel)
set_option linter.unusedVariables false in
set_option maxRecDepth 100000 in
set_option maxHeartbeats 16000000 in
theorem ricput_long (tos id fl pt ttl pr : Int) (a0 a1 a2 a3 a4 a5 a6 a7 : UInt8) (So Sb : Option Addr) (no co nb cb : Nat) (ty cd re : Int) (D : Option Addr) (nd qd : Nat) (lo ld : List UInt8) (w : World) (ho : Sl w So no co lo) (hb : Sl w D nd qd ld) (h1 : byteOk ty = true) (h2 : byteOk cd = true) (hn : 1472 < nd) : Calls Try.prog 23 #[.agg #[.int .i64 tos, .int .i64 id, .int .i64 fl, .int .i64 pt, .int .i64 ttl, .int .i64 pr, .int .u8 (a0.toNat : Int), .int .u8 (a1.toNat : Int), .int .u8 (a2.toNat : Int), .int .u8 (a3.toNat : Int), .int .u8 (a4.toNat : Int), .int .u8 (a5.toNat : Int), .int .u8 (a6.toNat : Int), .int .u8 (a7.toNat : Int), .slice So no co, .slice Sb nb cb], .agg #[.int .i64 ty, .int .i64 cd, .int .u32 re, .slice D nd qd]] w (PkPost (icPut tos id fl pt ttl a0 a1 a2 a3 a4 a5 a6 a7 lo ty cd re ld) w) := by
  have H1 := Lib.hid h1
  have H2 := Lib.hid h2
  have HP : Hid (icPut tos id fl pt ttl a0 a1 a2 a3 a4 a5 a6 a7 lo ty cd re ld = pkNone 2) := Lib.hid (by unfold icPut; rw [if_neg (by rw [h1, h2]; decide), if_pos (by rw [hb.1]; exact hn)])
  have t0 : (1472 : Int) < nd := by omega
  clear h1 h2 hn
  have bel := Below.refl w.heap.size w
  go_enter Try.func23, Try.ntmps23
  go_wp2_with (first | ((with_reducible show wpList _ _ _ (⟨some 2, _, _, _, _, _⟩ :: _) _ _); refine wpList_box_n rfl 45 (.tmp 0) rfl #[.int .i64 tos, .int .i64 id, .int .i64 fl, .int .i64 pt, .int .i64 ttl, .int .i64 pr, .int .u8 (a0.toNat : Int), .int .u8 (a1.toNat : Int), .int .u8 (a2.toNat : Int), .int .u8 (a3.toNat : Int), .int .u8 (a4.toNat : Int), .int .u8 (a5.toNat : Int), .int .u8 (a6.toNat : Int), .int .u8 (a7.toNat : Int), .slice So no co, .slice Sb nb cb] rfl ?_; intro g2 w1 ge lt hh bb; have av_ho_p := ho.av_new ge; have av_hb_p := hb.av_new ge; have op := Nat.le_trans bel.size ge; replace ho := ho.below bb; replace hb := hb.below bb; replace bel := bel.trans (bb.mono bel.size); have hp := hh; clear hh lt ge bb) | ((with_reducible show wpList _ _ _ (⟨some 3, _, _, _, _, _⟩ :: _) _ _); refine wpList_box_n rfl 42 (.tmp 1) rfl #[.int .i64 ty, .int .i64 cd, .int .u32 re, .slice D nd qd] rfl ?_; intro g3 w2 ge lt hh bb; have d_p_m := ne_new (hlt hp) ge; have av_ho_m := ho.av_new ge; have av_hb_m := hb.av_new ge; have om := Nat.le_trans bel.size ge; replace hp := blk_u hp bb; replace ho := ho.below bb; replace hb := hb.below bb; replace bel := bel.trans (bb.mono bel.size); have hm := hh; clear hh lt ge bb) | ((with_reducible show wpList _ _ _ (⟨some 4, _, _, _, _, _⟩ :: _) _ _); refine wpList_new_a rfl 45 rfl #[.int .i64 0, .int .i64 0, .int .i64 0, .int .i64 0, .int .i64 0, .int .i64 0, .int .u8 0, .int .u8 0, .int .u8 0, .int .u8 0, .int .u8 0, .int .u8 0, .int .u8 0, .int .u8 0, .slice none 0 0, .slice none 0 0] (by kernel_rfl) ?_; intro g4 w3 ge hh bb; have d_p_z := ne_new (hlt hp) ge; have d_m_z := ne_new (hlt hm) ge; have av_ho_z := ho.av_new ge; have av_hb_z := hb.av_new ge; have oz := Nat.le_trans bel.size ge; replace hp := blk_u hp bb; replace hm := blk_u hm bb; replace ho := ho.below bb; replace hb := hb.below bb; replace bel := bel.trans (bb.mono bel.size); have hz := hh; clear hh ge bb; have R9 := cell_lit hm 0 _ rfl))
  try clear R9
  with_reducible refine (rbyte_any _ _).mono ?_
  rintro e _ ⟨rfl, rfl⟩
  rw [H1.out]
  have R14 := cell_lit hm 1 _ rfl
  go_wp2_with fail
  clear R14
  with_reducible refine (rbyte_any _ _).mono ?_
  rintro e _ ⟨rfl, rfl⟩
  rw [H2.out]
  have R20 := cell_lit hm 3 _ rfl
  go_wp2_with (first | ((with_reducible show wpList _ _ _ (⟨none, Op.store _ (.tmp 4) _, _, _, _, _⟩ :: _) _ _); refine wpList_store_blk rfl 45 (.tmp 4) (.tmp 23) rfl g4 rfl _ rfl _ 45 hz (by rfl) (by kernel_rfl) (by kernel_rfl) ?_; intro w4 hq gr; replace ho := ho.away av_ho_z gr; replace hb := hb.away av_hb_z gr; replace hp := blk_a hp gr d_p_z; replace hm := blk_a hm gr d_m_z; replace bel := below_grown bel gr oz bel.size; clear hz; have hz := hq; clear hq gr))
  try clear R20
  exact bodyPost_ret (results_cell_tmp_row rfl _ _ _ _ _ _ _ rfl hz Try.underlying45 rfl (by kernel_rfl) (.int .i64 2) rfl) rfl (by rw [HP.out]; exact PkPost.none bel)
set_option linter.unusedVariables false in
set_option maxRecDepth 100000 in
set_option maxHeartbeats 16000000 in
theorem ricput_ok (tos id fl pt ttl pr : Int) (a0 a1 a2 a3 a4 a5 a6 a7 : UInt8) (So Sb : Option Addr) (no co nb cb : Nat) (ty cd re : Int) (D : Option Addr) (nd qd : Nat) (lo ld : List UInt8) (w : World) (ho : Sl w So no co lo) (hb : Sl w D nd qd ld) (h1 : byteOk ty = true) (h2 : byteOk cd = true) (hn : nd ≤ 1472) (hno : no ≤ 100000) (sm : Int) (hs : ck ([byteOf ty, byteOf cd, 0, 0] ++ four re ++ ld) = sm) (e0 : 0 ≤ re) (e1 : re < 4294967296) : Calls Try.prog 23 #[.agg #[.int .i64 tos, .int .i64 id, .int .i64 fl, .int .i64 pt, .int .i64 ttl, .int .i64 pr, .int .u8 (a0.toNat : Int), .int .u8 (a1.toNat : Int), .int .u8 (a2.toNat : Int), .int .u8 (a3.toNat : Int), .int .u8 (a4.toNat : Int), .int .u8 (a5.toNat : Int), .int .u8 (a6.toNat : Int), .int .u8 (a7.toNat : Int), .slice So no co, .slice Sb nb cb], .agg #[.int .i64 ty, .int .i64 cd, .int .u32 re, .slice D nd qd]] w (PkPost (icPut tos id fl pt ttl a0 a1 a2 a3 a4 a5 a6 a7 lo ty cd re ld) w) := by
  obtain ⟨ii, hii, hz0, hz1, hz2⟩ := info_parts Try.info5
  have H1 := Lib.hid h1
  have H2 := Lib.hid h2
  have HP : Hid (icPut tos id fl pt ttl a0 a1 a2 a3 a4 a5 a6 a7 lo ty cd re ld = (([tos, id, fl, pt, ttl, 1], [a0, a1, a2, a3, a4, a5, a6, a7]), (lo, icBytes ty cd re ld), 0)) := Lib.hid (by unfold icPut; rw [if_neg (by rw [h1, h2]; decide), if_neg (by rw [hb.1]; omega)])
  have HL1 := Lib.hid ho.1
  have HL2 : Hid ((icBytes ty cd re ld).length = 8 + nd) := Lib.hid (by rw [icBytes_len, hb.1])
  have HB : Hid (icBytes ty cd re ld = (([byteOf ty, byteOf cd, 0, 0] ++ four re ++ ld).set 2 (byteOf (sm / 256))).set 3 (byteOf sm)) := Lib.hid (by
    have e := ic_ck ty cd re ld
    rw [hs] at e
    unfold icBytes
    rw [← e]
    rfl)
  have HS := Lib.hid hs
  have t3 : decide ((1472 : Int) < nd) = false := decide_eq_false (by omega)
  have n3 : (0 : Int) ≤ nd := by omega
  have n4 : (nd : Int) ≤ 1472 := by omega
  have HNO := Lib.hid hno
  have E0 := Lib.hid e0
  have E1 := Lib.hid e1
  clear hs hno hn e0 e1 h1 h2
  have bel := Below.refl w.heap.size w
  go_enter Try.func23, Try.ntmps23
  go_wp2_with (first | ((with_reducible show wpList _ _ _ (⟨some 2, _, _, _, _, _⟩ :: _) _ _); refine wpList_box_n rfl 45 (.tmp 0) rfl #[.int .i64 tos, .int .i64 id, .int .i64 fl, .int .i64 pt, .int .i64 ttl, .int .i64 pr, .int .u8 (a0.toNat : Int), .int .u8 (a1.toNat : Int), .int .u8 (a2.toNat : Int), .int .u8 (a3.toNat : Int), .int .u8 (a4.toNat : Int), .int .u8 (a5.toNat : Int), .int .u8 (a6.toNat : Int), .int .u8 (a7.toNat : Int), .slice So no co, .slice Sb nb cb] rfl ?_; intro g2 w1 ge lt hh bb; have av_ho_p := ho.av_new ge; have av_hb_p := hb.av_new ge; have op := Nat.le_trans bel.size ge; replace ho := ho.below bb; replace hb := hb.below bb; replace bel := bel.trans (bb.mono bel.size); have hp := hh; clear hh lt ge bb) | ((with_reducible show wpList _ _ _ (⟨some 3, _, _, _, _, _⟩ :: _) _ _); refine wpList_box_n rfl 42 (.tmp 1) rfl #[.int .i64 ty, .int .i64 cd, .int .u32 re, .slice D nd qd] rfl ?_; intro g3 w2 ge lt hh bb; have d_p_m := ne_new (hlt hp) ge; have av_ho_m := ho.av_new ge; have av_hb_m := hb.av_new ge; have om := Nat.le_trans bel.size ge; replace hp := blk_u hp bb; replace ho := ho.below bb; replace hb := hb.below bb; replace bel := bel.trans (bb.mono bel.size); have hm := hh; clear hh lt ge bb) | ((with_reducible show wpList _ _ _ (⟨some 4, _, _, _, _, _⟩ :: _) _ _); refine wpList_new_a rfl 45 rfl #[.int .i64 0, .int .i64 0, .int .i64 0, .int .i64 0, .int .i64 0, .int .i64 0, .int .u8 0, .int .u8 0, .int .u8 0, .int .u8 0, .int .u8 0, .int .u8 0, .int .u8 0, .int .u8 0, .slice none 0 0, .slice none 0 0] (by kernel_rfl) ?_; intro g4 w3 ge hh bb; have d_p_z := ne_new (hlt hp) ge; have d_m_z := ne_new (hlt hm) ge; have av_ho_z := ho.av_new ge; have av_hb_z := hb.av_new ge; have oz := Nat.le_trans bel.size ge; replace hp := blk_u hp bb; replace hm := blk_u hm bb; replace ho := ho.below bb; replace hb := hb.below bb; replace bel := bel.trans (bb.mono bel.size); have hz := hh; clear hh ge bb; have R9 := cell_lit hm 0 _ rfl))
  try clear R9
  with_reducible refine (rbyte_any _ _).mono ?_
  rintro e _ ⟨rfl, rfl⟩
  rw [H1.out]
  have R14 := cell_lit hm 1 _ rfl
  go_wp2_with fail
  clear R14
  with_reducible refine (rbyte_any _ _).mono ?_
  rintro e _ ⟨rfl, rfl⟩
  rw [H2.out]
  have R20 := cell_lit hm 3 _ rfl
  go_wp2_with (first | ((with_reducible show wpList _ _ _ (⟨none, Op.store _ (.tmp 24) _, _, _, _, _⟩ :: _) _ _); refine wpList_store_part rfl 3 (.tmp 24) (.const (.int .i64 1)) rfl g2 5 rfl [.int .i64 1] rfl [.int .i64 tos, .int .i64 id, .int .i64 fl, .int .i64 pt, .int .i64 ttl, .int .i64 pr, .int .u8 (a0.toNat : Int), .int .u8 (a1.toNat : Int), .int .u8 (a2.toNat : Int), .int .u8 (a3.toNat : Int), .int .u8 (a4.toNat : Int), .int .u8 (a5.toNat : Int), .int .u8 (a6.toNat : Int), .int .u8 (a7.toNat : Int), .slice So no co, .slice Sb nb cb] 45 hp (by simp) [.int .i64 tos, .int .i64 id, .int .i64 fl, .int .i64 pt, .int .i64 ttl, .int .i64 1, .int .u8 (a0.toNat : Int), .int .u8 (a1.toNat : Int), .int .u8 (a2.toNat : Int), .int .u8 (a3.toNat : Int), .int .u8 (a4.toNat : Int), .int .u8 (a5.toNat : Int), .int .u8 (a6.toNat : Int), .int .u8 (a7.toNat : Int), .slice So no co, .slice Sb nb cb] rfl (by kernel_rfl) (by rfl) ?_; intro w4 hq gr; replace ho := ho.away av_ho_p gr; replace hb := hb.away av_hb_p gr; replace hm := blk_a hm gr (ne_symm d_p_m); replace hz := blk_a hz gr (ne_symm d_p_z); replace bel := below_grown bel gr op bel.size; clear hp; have hp := hq; clear hq gr))
  try clear R20
  replace bel := bel.drew
  replace hp : w4.drew.heap[g2]? = _ := hp
  replace hm : w4.drew.heap[g3]? = _ := hm
  replace hz : w4.drew.heap[g4]? = _ := hz
  replace ho := ho.drew
  replace hb := hb.drew
  refine wp_region_held_drew (S := fun W => W.heap[g3]? = some (.cells #[.int .i64 ty, .int .i64 cd, .int .u32 re, .slice D nd qd] 42 (0, 0))) (by kernel_rfl) hm (fun hH => ?_)
  generalize w4.drew = w5 at bel hp hm hz ho hb hH ⊢
  refine wpAnyH_take (i := 0) (v := ?_) rfl (by kernel_rfl) (by kernel_rfl) (by kernel_rfl) (fun _ _ _ h => h) (Or.inl ⟨by rfl, ?_⟩) hH ?_
  rotate_left
  · ((intro W hW; clear hW; go_simp) <;> with_reducible rfl)
  simp only [Act.put, List.getElem_toArray, List.getElem_cons_zero, List.setIfInBounds_toArray, List.set_cons_zero, List.set_cons_succ]
  refine wpAnyH_take (i := 1) (v := ?_) rfl (by kernel_rfl) (by kernel_rfl) (by kernel_rfl) (fun _ _ _ h => h) (Or.inl ⟨by rfl, ?_⟩) hH ?_
  rotate_left
  · ((intro W hW; have hk := cell_lit (hW) 0 _ rfl; clear hW; go_simp) <;> with_reducible rfl)
  simp only [Act.put, List.getElem_toArray, List.getElem_cons_zero, List.getElem_cons_succ, List.setIfInBounds_toArray, List.set_cons_zero, List.set_cons_succ]
  refine wpAnyH_take (i := 2) (v := ?_) rfl (by kernel_rfl) (by kernel_rfl) (by kernel_rfl) (fun _ _ _ h => h) (Or.inl ⟨by rfl, ?_⟩) hH ?_
  rotate_left
  · ((intro W hW; clear hW; go_simp) <;> with_reducible rfl)
  simp only [Act.put, List.getElem_toArray, List.getElem_cons_zero, List.getElem_cons_succ, List.setIfInBounds_toArray, List.set_cons_zero, List.set_cons_succ]
  refine wpAnyH_take (i := 3) (v := ?_) rfl (by kernel_rfl) (by kernel_rfl) (by kernel_rfl) (fun _ _ _ h => h) (Or.inl ⟨by rfl, ?_⟩) hH ?_
  rotate_left
  · ((intro W hW; clear hW; go_simp) <;> with_reducible rfl)
  simp only [Act.put, List.getElem_toArray, List.getElem_cons_zero, List.getElem_cons_succ, List.setIfInBounds_toArray, List.set_cons_zero, List.set_cons_succ]
  refine wpAnyH_take (i := 4) (v := ?_) rfl (by kernel_rfl) (by kernel_rfl) (by kernel_rfl) (fun _ _ _ h => h) (Or.inl ⟨by rfl, ?_⟩) hH ?_
  rotate_left
  · ((intro W hW; have hk := cell_lit (hW) 1 _ rfl; clear hW; go_simp) <;> with_reducible rfl)
  simp only [Act.put, List.getElem_toArray, List.getElem_cons_zero, List.getElem_cons_succ, List.setIfInBounds_toArray, List.set_cons_zero, List.set_cons_succ]
  refine wpAnyH_take (i := 5) (v := ?_) rfl (by kernel_rfl) (by kernel_rfl) (by kernel_rfl) (fun _ _ _ h => h) (Or.inl ⟨by rfl, ?_⟩) hH ?_
  rotate_left
  · ((intro W hW; clear hW; go_simp) <;> with_reducible rfl)
  simp only [Act.put, List.getElem_toArray, List.getElem_cons_zero, List.getElem_cons_succ, List.setIfInBounds_toArray, List.set_cons_zero, List.set_cons_succ]
  refine wpAnyH_take (i := 7) (v := ?_) rfl (by kernel_rfl) (by kernel_rfl) (by kernel_rfl) (fun _ _ _ h => h) (Or.inl ⟨by rfl, ?_⟩) hH ?_
  rotate_left
  · ((intro W hW; clear hW; go_simp) <;> with_reducible rfl)
  simp only [Act.put, List.getElem_toArray, List.getElem_cons_zero, List.getElem_cons_succ, List.setIfInBounds_toArray, List.set_cons_zero, List.set_cons_succ]
  refine wpAnyH_take (i := 8) (v := ?_) rfl (by kernel_rfl) (by kernel_rfl) (by kernel_rfl) (fun _ _ _ h => h) (Or.inl ⟨by rfl, ?_⟩) hH ?_
  rotate_left
  · ((intro W hW; have hk := cell_lit (hW) 2 _ rfl; clear hW; go_simp) <;> with_reducible rfl)
  simp only [Act.put, List.getElem_toArray, List.getElem_cons_zero, List.getElem_cons_succ, List.setIfInBounds_toArray, List.set_cons_zero, List.set_cons_succ]
  refine wpAnyH_take (i := 10) (v := ?_) rfl (by kernel_rfl) (by kernel_rfl) (by kernel_rfl) (fun _ _ _ h => h) (Or.inl ⟨by rfl, ?_⟩) hH ?_
  rotate_left
  · ((intro W hW; clear hW; go_simp) <;> with_reducible rfl)
  simp only [Act.put, List.getElem_toArray, List.getElem_cons_zero, List.getElem_cons_succ, List.setIfInBounds_toArray, List.set_cons_zero, List.set_cons_succ]
  refine wpAnyH_take (i := 11) (v := ?_) rfl (by kernel_rfl) (by kernel_rfl) (by kernel_rfl) (fun _ _ _ h => h) (Or.inl ⟨by rfl, ?_⟩) hH ?_
  rotate_left
  · ((intro W hW; have hk := cell_lit (hW) 3 _ rfl; clear hW; go_simp) <;> with_reducible rfl)
  simp only [Act.put, List.getElem_toArray, List.getElem_cons_zero, List.getElem_cons_succ, List.setIfInBounds_toArray, List.set_cons_zero, List.set_cons_succ]
  refine wpAnyH_ready (rs := [6]) (by kernel_rfl) (by simp) ?_
  refine AllReadyH.cons (o := _) rfl (fun K hK => ?_) AllReadyH.nil
  simp only [List.getElem_toArray, List.getElem_cons_zero, List.getElem_cons_succ]
  rw [if_pos (by rfl)]
  refine wp_lit_n 25 5 4 _ rfl #[.int .u8 (ty % 256), .int .u8 (cd % 256), .int .u8 0, .int .u8 0] (.int .u8 0) Try.underlying25 (by kernel_rfl) 1 (by kernel_rfl) (by decide) (by kernel_rfl) ?_
  intro g31 w6 ge lt hh bb
  have hl : w6.heap[g31]? = some (.cells (([byteOf ty, byteOf cd, 0, 0] : List UInt8).map u8v).toArray 5 (0, 0)) := (by simpa [u8v, byteOf_val] using hh)
  have tww := own_lit (B := w5.heap.size) ([byteOf ty, byteOf cd, 0, 0]) hl ge 4 rfl (by simp [maxLen])
  have tw := (own_sl tww).1
  have twlo := bel.size
  clear hl
  have twge := ge
  have lz_tw := bb.size
  have y_tw_p := Lib.hid (hlt hp)
  have y_tw_m := Lib.hid (hlt hm)
  have y_tw_z := Lib.hid (hlt hz)
  have bl_ho_tw := ho.bl_new
  have bl_hb_tw := hb.bl_new
  have d_p_b31 := ne_new (hlt hp) ge
  have d_m_b31 := ne_new (hlt hm) ge
  have d_z_b31 := ne_new (hlt hz) ge
  have av_ho_b31 := ho.av_new ge
  have av_hb_b31 := hb.av_new ge
  have ob31 := Nat.le_trans bel.size ge
  replace hp := blk_u hp bb
  replace hm := blk_u hm bb
  replace hz := blk_u hz bb
  replace ho := ho.below bb
  replace hb := hb.below bb
  replace bel := bel.trans (bb.mono bel.size)
  have hb31 := hh
  clear hh lt ge bb
  have av_tw_p := (own_sl tww).2.av y_tw_p.out
  have av_tw_m := (own_sl tww).2.av y_tw_m.out
  have av_tw_z := (own_sl tww).2.av y_tw_z.out
  refine hK.out _ _ hm (fun hH7 => ?_)
  clear hK K
  simp only [Act.put, List.setIfInBounds_toArray, List.set_cons_zero, List.set_cons_succ]
  refine wpAnyH_ready (rs := [9]) (by kernel_rfl) (by simp) ?_
  refine AllReadyH.cons (o := _) rfl (fun K hK => ?_) AllReadyH.nil
  simp only [List.getElem_toArray, List.getElem_cons_zero, List.getElem_cons_succ]
  go_simp
  with_reducible refine (r32_oto _ 4 8 _ _ _ _ E0.out E1.out rfl tw (by omega)).mono ?_
  rintro e w8 ⟨v, rfl, h8w, b8⟩
  dsimp only
  have y_h8_p := Lib.hid (hlt hp)
  have y_h8_m := Lib.hid (hlt hm)
  have y_h8_z := Lib.hid (hlt hz)
  have y_h8_b31 := Lib.hid (hlt hb31)
  have bl_ho_h8 := ho.bl_new
  have bl_hb_h8 := hb.bl_new
  have bl_tw_h8 := tw.bl_new
  have h8lo := bel.size
  have lz_h8 := b8.size
  replace hp := blk_u hp b8
  replace hm := blk_u hm b8
  replace hz := blk_u hz b8
  replace hb31 := blk_u hb31 b8
  replace ho := ho.below b8
  replace hb := hb.below b8
  replace tw := tw.below b8
  replace tww := own_under tww b8
  replace lz_tw := Nat.le_trans lz_tw b8.size
  replace bel := bel.trans (b8.mono bel.size)
  clear b8
  obtain ⟨Ah8, ch8, rfl⟩ := own_val h8w
  have h8 := (own_sl h8w).1
  have fr_h8 := (own_sl h8w).2
  have av_h8_p := fr_h8.av y_h8_p.out
  have av_h8_m := fr_h8.av y_h8_m.out
  have av_h8_z := fr_h8.av y_h8_z.out
  have av_h8_b31 := fr_h8.av y_h8_b31.out
  refine hK.out _ _ hm (fun hH9 => ?_)
  clear hK K
  refine wpAnyH_ready (rs := [12]) (by kernel_rfl) (by simp) ?_
  refine AllReadyH.cons (o := _) rfl (fun K hK => ?_) AllReadyH.nil
  simp only [List.getElem_toArray, List.getElem_cons_zero, List.getElem_cons_succ]
  rw [if_pos (by rfl)]
  refine wp_append_bb (.tmp 34) (.tmp 36) 25 rfl (w6.heap.size) 5 ii (.int .u8 0) Try.underlying25 hii hz0 hz1 hz2 rfl _ (8) ([byteOf ty, byteOf cd, 0, 0] ++ four re) rfl h8w (D) (nd) (qd) (ld) rfl hb (by omega) lz_h8 ?_
  intro v37 w10 own_ bb
  replace ho := ho.under bl_ho_h8 bb
  replace hb := hb.under bl_hb_h8 bb
  replace tw := tw.under bl_tw_h8 bb
  clear tww lz_tw
  replace hp := blk_under hp bb y_h8_p.out
  replace hm := blk_under hm bb y_h8_m.out
  replace hz := blk_under hz bb y_h8_z.out
  replace hb31 := blk_under hb31 bb y_h8_b31.out
  replace bel := bel.trans (bb.mono h8lo)
  have lz_al := Nat.le_trans lz_h8 bb.size
  clear bb
  clear h8 h8w lz_h8
  replace own_ : w10.ownsRow (w6.heap.size) 5 1 v37 (8 + nd) (([byteOf ty, byteOf cd, 0, 0] ++ four re ++ ld : List UInt8).map u8v) := own_
  obtain ⟨A37, c37, rfl⟩ := own_val own_
  have alw := own_
  have al := (own_sl own_).1
  have fr_al := (own_sl own_).2
  clear own_
  have av_al_p := fr_al.av y_h8_p.out
  have av_al_m := fr_al.av y_h8_m.out
  have av_al_z := fr_al.av y_h8_z.out
  have av_al_b31 := fr_al.av y_h8_b31.out
  refine hK.out _ _ hm (fun hH11 => ?_)
  clear hK K
  simp only [Act.put, List.setIfInBounds_toArray, List.set_cons_zero, List.set_cons_succ]
  refine wpAnyH_take (i := 13) (v := ?_) rfl (by kernel_rfl) (by kernel_rfl) (by kernel_rfl) (fun _ _ _ h => h) (Or.inl ⟨by rfl, ?_⟩) hH11 ?_
  rotate_left
  · ((intro W hW; clear hW; go_simp) <;> with_reducible rfl)
  simp only [Act.put, List.getElem_toArray, List.getElem_cons_zero, List.getElem_cons_succ, List.setIfInBounds_toArray, List.set_cons_zero, List.set_cons_succ]
  refine wpAnyH_done (by kernel_rfl) ?_ _
  go_wp2_with fail
  with_reducible refine (rof_b _ _ _ _ _ al (by omega)).mono ?_
  rintro e w12 ⟨rfl, b12⟩
  replace hp := blk_u hp b12
  replace hm := blk_u hm b12
  replace hz := blk_u hz b12
  replace hb31 := blk_u hb31 b12
  replace ho := ho.below b12
  replace hb := hb.below b12
  replace tw := tw.below b12
  replace al := al.below b12
  replace alw := own_under alw b12
  replace lz_al := Nat.le_trans lz_al b12.size
  replace bel := bel.trans (b12.mono bel.size)
  clear b12
  rw [HS.out]
  obtain ⟨gb, cg, eg, alge, allt, alnc, alcm⟩ := own_at alw (by omega)
  injection eg with eg1 _ eg3
  subst eg1
  subst eg3
  have m6 : (2 : Int) < 8 + (nd : Int) := by omega
  have m7 : (3 : Int) < 8 + (nd : Int) := by omega
  have FRB : Fr w.heap.size (some ⟨gb, 0, none⟩) (8 + nd) := fun _ => ⟨_, _, rfl, Nat.le_trans h8lo alge⟩
  go_wp2_with (first | ((with_reducible show wpList _ _ _ (⟨none, Op.store _ (.tmp 47) _, _, _, _, _⟩ :: _) _ _); refine wpList_store_byte rfl 5 (.tmp 47) (.tmp 44) rfl (w6.heap.size) 5 gb 2 (8 + nd) (c37) ([byteOf ty, byteOf cd, 0, 0] ++ four re ++ ld) (byteOf (sm / 256)) rfl (by show (Value.int .u8 (sm / 256 % 256) : Value) = .int .u8 ((byteOf (sm / 256)).toNat : Int); rw [byteOf_val]) alw (by omega) (by kernel_rfl) ?_; intro w13 own_ gr; replace ho := ho.away (bl_ho_h8.av alge) gr; replace hb := hb.away (bl_hb_h8.av alge) gr; replace tw := tw.away (bl_tw_h8.av alge) gr; replace hp := blk_a hp gr (ne_new y_h8_p.out alge); replace hm := blk_a hm gr (ne_new y_h8_m.out alge); replace hz := blk_a hz gr (ne_new y_h8_z.out alge); replace hb31 := blk_a hb31 gr (ne_new y_h8_b31.out alge); replace bel := below_grown bel gr (Nat.le_trans h8lo alge) bel.size; replace lz_al := Nat.le_trans lz_al gr.size; clear gr al alw; have alw := own_; have al := (own_sl own_).1; clear own_) | ((with_reducible show wpList _ _ _ (⟨none, Op.store _ (.tmp 48) _, _, _, _, _⟩ :: _) _ _); refine wpList_store_byte rfl 5 (.tmp 48) (.tmp 46) rfl (w6.heap.size) 5 gb 3 (8 + nd) (c37) (([byteOf ty, byteOf cd, 0, 0] ++ four re ++ ld).set 2 (byteOf (sm / 256))) (byteOf sm) rfl (by show (Value.int .u8 (sm % 256) : Value) = .int .u8 ((byteOf sm).toNat : Int); rw [byteOf_val]) alw (by omega) (by kernel_rfl) ?_; intro w14 own_ gr; replace ho := ho.away (bl_ho_h8.av alge) gr; replace hb := hb.away (bl_hb_h8.av alge) gr; replace tw := tw.away (bl_tw_h8.av alge) gr; replace hp := blk_a hp gr (ne_new y_h8_p.out alge); replace hm := blk_a hm gr (ne_new y_h8_m.out alge); replace hz := blk_a hz gr (ne_new y_h8_z.out alge); replace hb31 := blk_a hb31 gr (ne_new y_h8_b31.out alge); replace bel := below_grown bel gr (Nat.le_trans h8lo alge) bel.size; replace lz_al := Nat.le_trans lz_al gr.size; clear gr al alw; have alw := own_; have al := (own_sl own_).1; clear own_) | ((with_reducible show wpList _ _ _ (⟨none, Op.store _ (.tmp 50) _, _, _, _, _⟩ :: _) _ _); refine wpList_store_part rfl 25 (.tmp 50) (.tmp 49) rfl g2 15 rfl [.slice (some ⟨gb, 0, none⟩) (8 + nd) c37] rfl [.int .i64 tos, .int .i64 id, .int .i64 fl, .int .i64 pt, .int .i64 ttl, .int .i64 1, .int .u8 (a0.toNat : Int), .int .u8 (a1.toNat : Int), .int .u8 (a2.toNat : Int), .int .u8 (a3.toNat : Int), .int .u8 (a4.toNat : Int), .int .u8 (a5.toNat : Int), .int .u8 (a6.toNat : Int), .int .u8 (a7.toNat : Int), .slice So no co, .slice Sb nb cb] 45 hp (by simp) [.int .i64 tos, .int .i64 id, .int .i64 fl, .int .i64 pt, .int .i64 ttl, .int .i64 1, .int .u8 (a0.toNat : Int), .int .u8 (a1.toNat : Int), .int .u8 (a2.toNat : Int), .int .u8 (a3.toNat : Int), .int .u8 (a4.toNat : Int), .int .u8 (a5.toNat : Int), .int .u8 (a6.toNat : Int), .int .u8 (a7.toNat : Int), .slice So no co, .slice (some ⟨gb, 0, none⟩) (8 + nd) c37] rfl (by kernel_rfl) (by rfl) ?_; intro w15 hq gr; replace ho := ho.away av_ho_p gr; replace hb := hb.away av_hb_p gr; replace tw := tw.away av_tw_p gr; replace al := al.away av_al_p gr; replace alw := own_away alw y_h8_p.out gr; replace lz_al := Nat.le_trans lz_al gr.size; replace hm := blk_a hm gr (ne_symm d_p_m); replace hz := blk_a hz gr (ne_symm d_p_z); replace hb31 := blk_a hb31 gr (ne_symm d_p_b31); replace bel := below_grown bel gr op bel.size; clear hp; have hp := hq; clear hq gr; have R52 := cell_lit hp 14 _ rfl))
  try clear R52
  with_reducible refine (rcopied_o _ _ _ _ _ ho (by have := HNO.out; omega)).mono ?_
  rintro e w16 ⟨v, rfl, oqw, b16⟩
  have y_oq_p := Lib.hid (hlt hp)
  have y_oq_m := Lib.hid (hlt hm)
  have y_oq_z := Lib.hid (hlt hz)
  have y_oq_b31 := Lib.hid (hlt hb31)
  have bl_ho_oq := ho.bl_new
  have bl_hb_oq := hb.bl_new
  have bl_tw_oq := tw.bl_new
  have bl_al_oq := al.bl_new
  have oqlo := bel.size
  have lz_oq := b16.size
  replace hp := blk_u hp b16
  replace hm := blk_u hm b16
  replace hz := blk_u hz b16
  replace hb31 := blk_u hb31 b16
  replace ho := ho.below b16
  replace hb := hb.below b16
  replace tw := tw.below b16
  replace al := al.below b16
  replace alw := own_under alw b16
  replace lz_al := Nat.le_trans lz_al b16.size
  replace bel := bel.trans (b16.mono bel.size)
  clear b16
  obtain ⟨Aoq, coq, rfl⟩ := own_val oqw
  have oq := (own_sl oqw).1
  have fr_oq := (own_sl oqw).2
  have av_oq_p := fr_oq.av y_oq_p.out
  have av_oq_m := fr_oq.av y_oq_m.out
  have av_oq_z := fr_oq.av y_oq_z.out
  have av_oq_b31 := fr_oq.av y_oq_b31.out
  go_wp2_with (first | ((with_reducible show wpList _ _ _ (⟨none, Op.store _ (.tmp 54) _, _, _, _, _⟩ :: _) _ _); refine wpList_store_part rfl 25 (.tmp 54) (.tmp 53) rfl g2 14 rfl [.slice Aoq no coq] rfl [.int .i64 tos, .int .i64 id, .int .i64 fl, .int .i64 pt, .int .i64 ttl, .int .i64 1, .int .u8 (a0.toNat : Int), .int .u8 (a1.toNat : Int), .int .u8 (a2.toNat : Int), .int .u8 (a3.toNat : Int), .int .u8 (a4.toNat : Int), .int .u8 (a5.toNat : Int), .int .u8 (a6.toNat : Int), .int .u8 (a7.toNat : Int), .slice So no co, .slice (some ⟨gb, 0, none⟩) (8 + nd) c37] 45 hp (by simp) [.int .i64 tos, .int .i64 id, .int .i64 fl, .int .i64 pt, .int .i64 ttl, .int .i64 1, .int .u8 (a0.toNat : Int), .int .u8 (a1.toNat : Int), .int .u8 (a2.toNat : Int), .int .u8 (a3.toNat : Int), .int .u8 (a4.toNat : Int), .int .u8 (a5.toNat : Int), .int .u8 (a6.toNat : Int), .int .u8 (a7.toNat : Int), .slice Aoq no coq, .slice (some ⟨gb, 0, none⟩) (8 + nd) c37] rfl (by kernel_rfl) (by rfl) ?_; intro w17 hq gr; replace ho := ho.away av_ho_p gr; replace hb := hb.away av_hb_p gr; replace tw := tw.away av_tw_p gr; replace al := al.away av_al_p gr; replace alw := own_away alw y_h8_p.out gr; replace oq := oq.away av_oq_p gr; replace oqw := own_away oqw y_oq_p.out gr; replace lz_al := Nat.le_trans lz_al gr.size; replace lz_oq := Nat.le_trans lz_oq gr.size; replace hm := blk_a hm gr (ne_symm d_p_m); replace hz := blk_a hz gr (ne_symm d_p_z); replace hb31 := blk_a hb31 gr (ne_symm d_p_b31); replace bel := below_grown bel gr op bel.size; clear hp; have hp := hq; clear hq gr; have R55 := Lib.hid (range_lit hp 0 16 [.int .i64 tos, .int .i64 id, .int .i64 fl, .int .i64 pt, .int .i64 ttl, .int .i64 1, .int .u8 (a0.toNat : Int), .int .u8 (a1.toNat : Int), .int .u8 (a2.toNat : Int), .int .u8 (a3.toNat : Int), .int .u8 (a4.toNat : Int), .int .u8 (a5.toNat : Int), .int .u8 (a6.toNat : Int), .int .u8 (a7.toNat : Int), .slice Aoq no coq, .slice (some ⟨gb, 0, none⟩) (8 + nd) c37] rfl)) | ((with_reducible show wpList _ _ _ (⟨some 55, _, _, _, _, _⟩ :: _) _ _); refine wpList_load_rng 45 (.tmp 2) rfl (by kernel_rfl) _ _ rfl _ R55.out _ Try.underlying45 rfl (by kernel_rfl) ?_) | ((with_reducible show wpList _ _ _ (⟨none, Op.store _ (.tmp 4) _, _, _, _, _⟩ :: _) _ _); refine wpList_store_blk rfl 45 (.tmp 4) (.tmp 55) rfl g4 rfl _ rfl _ 45 hz (by rfl) (by kernel_rfl) (by kernel_rfl) ?_; intro w18 hq gr; replace ho := ho.away av_ho_z gr; replace hb := hb.away av_hb_z gr; replace tw := tw.away av_tw_z gr; replace al := al.away av_al_z gr; replace alw := own_away alw y_h8_z.out gr; replace oq := oq.away av_oq_z gr; replace oqw := own_away oqw y_oq_z.out gr; replace lz_al := Nat.le_trans lz_al gr.size; replace lz_oq := Nat.le_trans lz_oq gr.size; replace hp := blk_a hp gr d_p_z; replace hm := blk_a hm gr d_m_z; replace hb31 := blk_a hb31 gr (ne_symm d_z_b31); replace bel := below_grown bel gr oz bel.size; clear hz; have hz := hq; clear hq gr))
  try clear R55
  exact bodyPost_ret (results_cell_tmp_row rfl _ _ _ _ _ _ _ rfl hz Try.underlying45 rfl (by kernel_rfl) (.int .i64 0) rfl) rfl ⟨tos, id, fl, pt, ttl, 1, a0, a1, a2, a3, a4, a5, a6, a7, lo, icBytes ty cd re ld, Aoq, some ⟨gb, 0, none⟩, coq, c37, 0, by rw [HL1.out, HL2.out], by rw [HL1.out]; exact oq, by rw [HL2.out, HB.out]; exact al, by rw [HL1.out]; exact fr_oq.mono oqlo, by rw [HL2.out]; exact FRB, bel, HP.out.symm⟩
theorem ricput_any (tos id fl pt ttl pr : Int) (a0 a1 a2 a3 a4 a5 a6 a7 : UInt8) (So Sb : Option Addr) (no co nb cb : Nat) (ty cd re : Int) (D : Option Addr) (nd qd : Nat) (lo ld : List UInt8) (w : World) (ho : Sl w So no co lo) (hb : Sl w D nd qd ld) (hno : no ≤ 100000) (e0 : 0 ≤ re) (e1 : re < 4294967296) : Calls Try.prog 23 #[.agg #[.int .i64 tos, .int .i64 id, .int .i64 fl, .int .i64 pt, .int .i64 ttl, .int .i64 pr, .int .u8 (a0.toNat : Int), .int .u8 (a1.toNat : Int), .int .u8 (a2.toNat : Int), .int .u8 (a3.toNat : Int), .int .u8 (a4.toNat : Int), .int .u8 (a5.toNat : Int), .int .u8 (a6.toNat : Int), .int .u8 (a7.toNat : Int), .slice So no co, .slice Sb nb cb], .agg #[.int .i64 ty, .int .i64 cd, .int .u32 re, .slice D nd qd]] w (PkPost (icPut tos id fl pt ttl a0 a1 a2 a3 a4 a5 a6 a7 lo ty cd re ld) w) := by
  rcases (by decide : ∀ b : Bool, b = true ∨ b = false) (byteOk ty) with h1 | h1
  · rcases (by decide : ∀ b : Bool, b = true ∨ b = false) (byteOk cd) with h2 | h2
    · by_cases hl : nd ≤ 1472
      · exact ricput_ok tos id fl pt ttl pr a0 a1 a2 a3 a4 a5 a6 a7 So Sb no co nb cb ty cd re D nd qd lo ld w ho hb h1 h2 hl hno _ rfl e0 e1
      · exact ricput_long tos id fl pt ttl pr a0 a1 a2 a3 a4 a5 a6 a7 So Sb no co nb cb ty cd re D nd qd lo ld w ho hb h1 h2 (by omega)
    · exact ricput_bad2 tos id fl pt ttl pr a0 a1 a2 a3 a4 a5 a6 a7 So Sb no co nb cb ty cd re D nd qd lo ld w ho hb h1 h2
  · exact ricput_bad1 tos id fl pt ttl pr a0 a1 a2 a3 a4 a5 a6 a7 So Sb no co nb cb ty cd re D nd qd lo ld w ho hb h1
end Go.Proofs.Ytfmllopeeiecjaa
