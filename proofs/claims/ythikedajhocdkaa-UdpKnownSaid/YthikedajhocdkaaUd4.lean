/- The reference's GetUdp. -/
import Derived.Test.YthikedajhocdkaaUd3
import Derived.Test.YthikedajhocdkaaUd2
namespace Go.Proofs.Ythikedajhocdkaa
open Go.RowKit

set_option maxRecDepth 100000 in
set_option maxHeartbeats 16000000 in
theorem rudget_1 (tos id fl pt ttl pr : Int) (a0 a1 a2 a3 a4 a5 a6 a7 : UInt8) (So Sb : Option Addr) (no co nb cb : Nat) (lb : List UInt8) (w : World) (hp : pr ≠ 17) : Calls Try.prog 12 #[.agg #[.int .i64 tos, .int .i64 id, .int .i64 fl, .int .i64 pt, .int .i64 ttl, .int .i64 pr, .int .u8 (a0.toNat : Int), .int .u8 (a1.toNat : Int), .int .u8 (a2.toNat : Int), .int .u8 (a3.toNat : Int), .int .u8 (a4.toNat : Int), .int .u8 (a5.toNat : Int), .int .u8 (a6.toNat : Int), .int .u8 (a7.toNat : Int), .slice So no co, .slice Sb nb cb]] w (UdPost (udGet fl pt pr a0 a1 a2 a3 a4 a5 a6 a7 (lb)) w) := by
  have HP : Hid (udGet fl pt pr a0 a1 a2 a3 a4 a5 a6 a7 (lb) = ((0, 0), [], 1)) := Lib.hid (ud_err (by exact if_pos hp) (by decide))
  have t0 : (pr == 17) = false := by simpa using hp
  have t1 : (pr != 17) = true := by simpa using hp
  clear hp
  have bel := Below.refl w.heap.size w
  go_enter Try.func12, Try.ntmps12
  go_wp2_with (first | ((with_reducible show wpList _ _ _ (⟨some 1, _, _, _, _, _⟩ :: _) _ _); refine wpList_box_n rfl 39 (.tmp 0) rfl #[.int .i64 tos, .int .i64 id, .int .i64 fl, .int .i64 pt, .int .i64 ttl, .int .i64 pr, .int .u8 (a0.toNat : Int), .int .u8 (a1.toNat : Int), .int .u8 (a2.toNat : Int), .int .u8 (a3.toNat : Int), .int .u8 (a4.toNat : Int), .int .u8 (a5.toNat : Int), .int .u8 (a6.toNat : Int), .int .u8 (a7.toNat : Int), .slice So no co, .slice Sb nb cb] rfl ?_; intro g1 w1 ge lt hh bb; have op := Nat.le_trans bel.size ge; replace bel := bel.trans (bb.mono bel.size); have hp := hh; have zp := lt; clear hh lt ge bb) | ((with_reducible show wpList _ _ _ (⟨some 2, _, _, _, _, _⟩ :: _) _ _); refine wpList_new_n rfl 36 rfl (.agg #[.int .i64 0, .int .i64 0, .slice none 0 0]) (by kernel_rfl) #[.int .i64 0, .int .i64 0, .slice none 0 0] rfl ?_; intro g2 w2 ge lt hh bb; have d_p_z := ne_new zp ge; have oz := Nat.le_trans bel.size ge; replace hp := blk_under hp bb zp; replace zp := Nat.lt_of_lt_of_le zp bb.size; replace bel := bel.trans (bb.mono bel.size); have hz := hh; have zz := lt; clear hh lt ge bb; have R7 := cell_lit hp 5 _ rfl) | ((with_reducible show wpList _ _ _ (⟨none, Op.store _ (.tmp 2) _, _, _, _, _⟩ :: _) _ _); refine wpList_store_blk rfl 36 (.tmp 2) (.tmp 9) rfl g2 rfl #[.int .i64 0, .int .i64 0, .slice none 0 0] rfl _ 36 hz (by rfl) (by kernel_rfl) (by kernel_rfl) ?_; intro w3 hq gr; replace hp := blk_away hp gr zp d_p_z; replace zp := Nat.lt_of_lt_of_le zp gr.size; replace zz := Nat.lt_of_lt_of_le zz gr.size; replace bel := below_grown bel gr oz bel.size; clear hz; have hz := hq; clear hq gr))
  try clear R7
  exact bodyPost_ret (results_cell_tmp_row rfl _ _ _ _ _ _ _ rfl hz Try.underlying36 rfl (by kernel_rfl) (.int .i64 1) rfl) rfl (UdPost.none HP.out.symm bel)
set_option maxRecDepth 100000 in
set_option maxHeartbeats 16000000 in
theorem rudget_2 (tos id fl pt ttl : Int) (a0 a1 a2 a3 a4 a5 a6 a7 : UInt8) (So Sb : Option Addr) (no co nb cb : Nat) (lb : List UInt8) (w : World) (hw : (decide (pt = 0) && decide (fl % 2 = 0)) = false) : Calls Try.prog 12 #[.agg #[.int .i64 tos, .int .i64 id, .int .i64 fl, .int .i64 pt, .int .i64 ttl, .int .i64 17, .int .u8 (a0.toNat : Int), .int .u8 (a1.toNat : Int), .int .u8 (a2.toNat : Int), .int .u8 (a3.toNat : Int), .int .u8 (a4.toNat : Int), .int .u8 (a5.toNat : Int), .int .u8 (a6.toNat : Int), .int .u8 (a7.toNat : Int), .slice So no co, .slice Sb nb cb]] w (UdPost (udGet fl pt 17 a0 a1 a2 a3 a4 a5 a6 a7 (lb)) w) := by
  have HP : Hid (udGet fl pt 17 a0 a1 a2 a3 a4 a5 a6 a7 (lb) = ((0, 0), [], 10)) := Lib.hid (ud_err (by unfold udErr; rw [if_neg (by decide), if_pos (by simpa using hw)]) (by decide))
  have HW := Lib.hid hw
  clear hw
  have bel := Below.refl w.heap.size w
  go_enter Try.func12, Try.ntmps12
  go_wp2_with (first | ((with_reducible show wpList _ _ _ (⟨some 1, _, _, _, _, _⟩ :: _) _ _); refine wpList_box_n rfl 39 (.tmp 0) rfl #[.int .i64 tos, .int .i64 id, .int .i64 fl, .int .i64 pt, .int .i64 ttl, .int .i64 17, .int .u8 (a0.toNat : Int), .int .u8 (a1.toNat : Int), .int .u8 (a2.toNat : Int), .int .u8 (a3.toNat : Int), .int .u8 (a4.toNat : Int), .int .u8 (a5.toNat : Int), .int .u8 (a6.toNat : Int), .int .u8 (a7.toNat : Int), .slice So no co, .slice Sb nb cb] rfl ?_; intro g1 w1 ge lt hh bb; have op := Nat.le_trans bel.size ge; replace bel := bel.trans (bb.mono bel.size); have hp := hh; have zp := lt; clear hh lt ge bb) | ((with_reducible show wpList _ _ _ (⟨some 2, _, _, _, _, _⟩ :: _) _ _); refine wpList_new_n rfl 36 rfl (.agg #[.int .i64 0, .int .i64 0, .slice none 0 0]) (by kernel_rfl) #[.int .i64 0, .int .i64 0, .slice none 0 0] rfl ?_; intro g2 w2 ge lt hh bb; have d_p_z := ne_new zp ge; have oz := Nat.le_trans bel.size ge; replace hp := blk_under hp bb zp; replace zp := Nat.lt_of_lt_of_le zp bb.size; replace bel := bel.trans (bb.mono bel.size); have hz := hh; have zz := lt; clear hh lt ge bb; have R7 := cell_lit hp 5 _ rfl; have R10 := Lib.hid (range_lit hp 0 16 [.int .i64 tos, .int .i64 id, .int .i64 fl, .int .i64 pt, .int .i64 ttl, .int .i64 17, .int .u8 (a0.toNat : Int), .int .u8 (a1.toNat : Int), .int .u8 (a2.toNat : Int), .int .u8 (a3.toNat : Int), .int .u8 (a4.toNat : Int), .int .u8 (a5.toNat : Int), .int .u8 (a6.toNat : Int), .int .u8 (a7.toNat : Int), .slice So no co, .slice Sb nb cb] rfl)) | ((with_reducible show wpList _ _ _ (⟨some 10, _, _, _, _, _⟩ :: _) _ _); refine wpList_load_rng 39 (.tmp 1) rfl (by kernel_rfl) _ _ rfl _ R10.out _ Try.underlying39 rfl (by kernel_rfl) ?_))
  try clear R7
  try clear R10
  with_reducible refine (rwhole_any _ _ _ _ _ _ _ _ _ _ _ _ _ _ _ _ _ _ _ _ _).mono ?_
  rintro e w3 ⟨rfl, b3⟩
  replace hp := blk_under hp b3 zp
  replace zp := Nat.lt_of_lt_of_le zp b3.size
  replace hz := blk_under hz b3 zz
  replace zz := Nat.lt_of_lt_of_le zz b3.size
  replace bel := bel.trans (b3.mono bel.size)
  clear b3
  rw [HW.out]
  go_wp2_with (first | ((with_reducible show wpList _ _ _ (⟨none, Op.store _ (.tmp 2) _, _, _, _, _⟩ :: _) _ _); refine wpList_store_blk rfl 36 (.tmp 2) (.tmp 13) rfl g2 rfl #[.int .i64 0, .int .i64 0, .slice none 0 0] rfl _ 36 hz (by rfl) (by kernel_rfl) (by kernel_rfl) ?_; intro w4 hq gr; replace hp := blk_away hp gr zp d_p_z; replace zp := Nat.lt_of_lt_of_le zp gr.size; replace zz := Nat.lt_of_lt_of_le zz gr.size; replace bel := below_grown bel gr oz bel.size; clear hz; have hz := hq; clear hq gr))
  exact bodyPost_ret (results_cell_tmp_row rfl _ _ _ _ _ _ _ rfl hz Try.underlying36 rfl (by kernel_rfl) (.int .i64 10) rfl) rfl (UdPost.none HP.out.symm bel)
set_option maxRecDepth 100000 in
set_option maxHeartbeats 16000000 in
theorem rudget_3 (tos id fl pt ttl : Int) (a0 a1 a2 a3 a4 a5 a6 a7 : UInt8) (So Sb : Option Addr) (no co nb cb : Nat) (lb : List UInt8) (w : World) (hb : Sl w Sb nb cb lb) (hw : (decide (pt = 0) && decide (fl % 2 = 0)) = true) (hn : nb < 8) : Calls Try.prog 12 #[.agg #[.int .i64 tos, .int .i64 id, .int .i64 fl, .int .i64 pt, .int .i64 ttl, .int .i64 17, .int .u8 (a0.toNat : Int), .int .u8 (a1.toNat : Int), .int .u8 (a2.toNat : Int), .int .u8 (a3.toNat : Int), .int .u8 (a4.toNat : Int), .int .u8 (a5.toNat : Int), .int .u8 (a6.toNat : Int), .int .u8 (a7.toNat : Int), .slice So no co, .slice Sb nb cb]] w (UdPost (udGet fl pt 17 a0 a1 a2 a3 a4 a5 a6 a7 (lb)) w) := by
  have HP : Hid (udGet fl pt 17 a0 a1 a2 a3 a4 a5 a6 a7 (lb) = ((0, 0), [], 3)) := Lib.hid (ud_err (by unfold udErr; rw [if_neg (by decide), if_neg (by simpa using hw), if_pos (by rw [hb.1]; exact hn)]) (by decide))
  have HW := Lib.hid hw
  have t0 : (nb : Int) < 8 := by omega
  clear hw hn
  have bel := Below.refl w.heap.size w
  go_enter Try.func12, Try.ntmps12
  go_wp2_with (first | ((with_reducible show wpList _ _ _ (⟨some 1, _, _, _, _, _⟩ :: _) _ _); refine wpList_box_n rfl 39 (.tmp 0) rfl #[.int .i64 tos, .int .i64 id, .int .i64 fl, .int .i64 pt, .int .i64 ttl, .int .i64 17, .int .u8 (a0.toNat : Int), .int .u8 (a1.toNat : Int), .int .u8 (a2.toNat : Int), .int .u8 (a3.toNat : Int), .int .u8 (a4.toNat : Int), .int .u8 (a5.toNat : Int), .int .u8 (a6.toNat : Int), .int .u8 (a7.toNat : Int), .slice So no co, .slice Sb nb cb] rfl ?_; intro g1 w1 ge lt hh bb; have av_hb_p := hb.av_new ge; have op := Nat.le_trans bel.size ge; replace hb := hb.below bb; replace bel := bel.trans (bb.mono bel.size); have hp := hh; have zp := lt; clear hh lt ge bb) | ((with_reducible show wpList _ _ _ (⟨some 2, _, _, _, _, _⟩ :: _) _ _); refine wpList_new_n rfl 36 rfl (.agg #[.int .i64 0, .int .i64 0, .slice none 0 0]) (by kernel_rfl) #[.int .i64 0, .int .i64 0, .slice none 0 0] rfl ?_; intro g2 w2 ge lt hh bb; have d_p_z := ne_new zp ge; have av_hb_z := hb.av_new ge; have oz := Nat.le_trans bel.size ge; replace hp := blk_under hp bb zp; replace zp := Nat.lt_of_lt_of_le zp bb.size; replace hb := hb.below bb; replace bel := bel.trans (bb.mono bel.size); have hz := hh; have zz := lt; clear hh lt ge bb; have R7 := cell_lit hp 5 _ rfl; have R10 := Lib.hid (range_lit hp 0 16 [.int .i64 tos, .int .i64 id, .int .i64 fl, .int .i64 pt, .int .i64 ttl, .int .i64 17, .int .u8 (a0.toNat : Int), .int .u8 (a1.toNat : Int), .int .u8 (a2.toNat : Int), .int .u8 (a3.toNat : Int), .int .u8 (a4.toNat : Int), .int .u8 (a5.toNat : Int), .int .u8 (a6.toNat : Int), .int .u8 (a7.toNat : Int), .slice So no co, .slice Sb nb cb] rfl)) | ((with_reducible show wpList _ _ _ (⟨some 10, _, _, _, _, _⟩ :: _) _ _); refine wpList_load_rng 39 (.tmp 1) rfl (by kernel_rfl) _ _ rfl _ R10.out _ Try.underlying39 rfl (by kernel_rfl) ?_))
  try clear R7
  try clear R10
  with_reducible refine (rwhole_any _ _ _ _ _ _ _ _ _ _ _ _ _ _ _ _ _ _ _ _ _).mono ?_
  rintro e w3 ⟨rfl, b3⟩
  replace hp := blk_under hp b3 zp
  replace zp := Nat.lt_of_lt_of_le zp b3.size
  replace hz := blk_under hz b3 zz
  replace zz := Nat.lt_of_lt_of_le zz b3.size
  replace hb := hb.below b3
  replace bel := bel.trans (b3.mono bel.size)
  clear b3
  rw [HW.out]
  have R15 := cell_lit hp 15 _ rfl
  go_wp2_with (first | ((with_reducible show wpList _ _ _ (⟨none, Op.store _ (.tmp 2) _, _, _, _, _⟩ :: _) _ _); refine wpList_store_blk rfl 36 (.tmp 2) (.tmp 19) rfl g2 rfl #[.int .i64 0, .int .i64 0, .slice none 0 0] rfl _ 36 hz (by rfl) (by kernel_rfl) (by kernel_rfl) ?_; intro w4 hq gr; replace hb := hb.away av_hb_z gr; replace hp := blk_away hp gr zp d_p_z; replace zp := Nat.lt_of_lt_of_le zp gr.size; replace zz := Nat.lt_of_lt_of_le zz gr.size; replace bel := below_grown bel gr oz bel.size; clear hz; have hz := hq; clear hq gr))
  try clear R15
  exact bodyPost_ret (results_cell_tmp_row rfl _ _ _ _ _ _ _ rfl hz Try.underlying36 rfl (by kernel_rfl) (.int .i64 3) rfl) rfl (UdPost.none HP.out.symm bel)
set_option maxRecDepth 100000 in
set_option maxHeartbeats 16000000 in
theorem rudget_4 (tos id fl pt ttl : Int) (a0 a1 a2 a3 a4 a5 a6 a7 : UInt8) (So Sb : Option Addr) (no co nb cb : Nat) (h0 h1 h2 h3 h4 h5 h6 h7 : UInt8) (r : List UInt8) (ln sm : Nat) (w : World) (hb : Sl w Sb nb cb (h0 :: h1 :: h2 :: h3 :: h4 :: h5 :: h6 :: h7 :: r)) (hm : nb ≤ 80000) (hln : be [h4, h5] = ln) (hsm : be [h6, h7] = sm) (hw : (decide (pt = 0) && decide (fl % 2 = 0)) = true) (hx : nb < ln) : Calls Try.prog 12 #[.agg #[.int .i64 tos, .int .i64 id, .int .i64 fl, .int .i64 pt, .int .i64 ttl, .int .i64 17, .int .u8 (a0.toNat : Int), .int .u8 (a1.toNat : Int), .int .u8 (a2.toNat : Int), .int .u8 (a3.toNat : Int), .int .u8 (a4.toNat : Int), .int .u8 (a5.toNat : Int), .int .u8 (a6.toNat : Int), .int .u8 (a7.toNat : Int), .slice So no co, .slice Sb nb cb]] w (UdPost (udGet fl pt 17 a0 a1 a2 a3 a4 a5 a6 a7 (h0 :: h1 :: h2 :: h3 :: h4 :: h5 :: h6 :: h7 :: r)) w) := by
  have HP : Hid (udGet fl pt 17 a0 a1 a2 a3 a4 a5 a6 a7 (h0 :: h1 :: h2 :: h3 :: h4 :: h5 :: h6 :: h7 :: r) = ((0, 0), [], 3)) := Lib.hid (ud_err (by rw [ud_at hln hsm hw, if_pos (by rw [hb.1]; exact hx)]) (by decide))
  have HLN : Hid (be (List.take 2 (List.drop 4 (h0 :: h1 :: h2 :: h3 :: h4 :: h5 :: h6 :: h7 :: r))) = ln) := Lib.hid hln
  have HSM : Hid (be (List.take 2 (List.drop 6 (h0 :: h1 :: h2 :: h3 :: h4 :: h5 :: h6 :: h7 :: r))) = sm) := Lib.hid hsm
  have HM := Lib.hid hm
  have HW := Lib.hid hw
  have h8n : 8 ≤ nb := by have := hb.1; simp only [List.length_cons] at this; omega
  have H8 := Lib.hid h8n
  have tn : decide ((nb : Int) < 8) = false := decide_eq_false (by omega)
  clear h8n
  have t0 : nb < ln := hx
  clear hln hsm hm hw hx
  have bel := Below.refl w.heap.size w
  go_enter Try.func12, Try.ntmps12
  go_wp2_with (first | ((with_reducible show wpList _ _ _ (⟨some 1, _, _, _, _, _⟩ :: _) _ _); refine wpList_box_n rfl 39 (.tmp 0) rfl #[.int .i64 tos, .int .i64 id, .int .i64 fl, .int .i64 pt, .int .i64 ttl, .int .i64 17, .int .u8 (a0.toNat : Int), .int .u8 (a1.toNat : Int), .int .u8 (a2.toNat : Int), .int .u8 (a3.toNat : Int), .int .u8 (a4.toNat : Int), .int .u8 (a5.toNat : Int), .int .u8 (a6.toNat : Int), .int .u8 (a7.toNat : Int), .slice So no co, .slice Sb nb cb] rfl ?_; intro g1 w1 ge lt hh bb; have av_hb_p := hb.av_new ge; have op := Nat.le_trans bel.size ge; replace hb := hb.below bb; replace bel := bel.trans (bb.mono bel.size); have hp := hh; have zp := lt; clear hh lt ge bb) | ((with_reducible show wpList _ _ _ (⟨some 2, _, _, _, _, _⟩ :: _) _ _); refine wpList_new_n rfl 36 rfl (.agg #[.int .i64 0, .int .i64 0, .slice none 0 0]) (by kernel_rfl) #[.int .i64 0, .int .i64 0, .slice none 0 0] rfl ?_; intro g2 w2 ge lt hh bb; have d_p_z := ne_new zp ge; have av_hb_z := hb.av_new ge; have oz := Nat.le_trans bel.size ge; replace hp := blk_under hp bb zp; replace zp := Nat.lt_of_lt_of_le zp bb.size; replace hb := hb.below bb; replace bel := bel.trans (bb.mono bel.size); have hz := hh; have zz := lt; clear hh lt ge bb; have R7 := cell_lit hp 5 _ rfl; have R10 := Lib.hid (range_lit hp 0 16 [.int .i64 tos, .int .i64 id, .int .i64 fl, .int .i64 pt, .int .i64 ttl, .int .i64 17, .int .u8 (a0.toNat : Int), .int .u8 (a1.toNat : Int), .int .u8 (a2.toNat : Int), .int .u8 (a3.toNat : Int), .int .u8 (a4.toNat : Int), .int .u8 (a5.toNat : Int), .int .u8 (a6.toNat : Int), .int .u8 (a7.toNat : Int), .slice So no co, .slice Sb nb cb] rfl)) | ((with_reducible show wpList _ _ _ (⟨some 10, _, _, _, _, _⟩ :: _) _ _); refine wpList_load_rng 39 (.tmp 1) rfl (by kernel_rfl) _ _ rfl _ R10.out _ Try.underlying39 rfl (by kernel_rfl) ?_))
  try clear R7
  try clear R10
  with_reducible refine (rwhole_any _ _ _ _ _ _ _ _ _ _ _ _ _ _ _ _ _ _ _ _ _).mono ?_
  rintro e w3 ⟨rfl, b3⟩
  replace hp := blk_under hp b3 zp
  replace zp := Nat.lt_of_lt_of_le zp b3.size
  replace hz := blk_under hz b3 zz
  replace zz := Nat.lt_of_lt_of_le zz b3.size
  replace hb := hb.below b3
  replace bel := bel.trans (b3.mono bel.size)
  clear b3
  rw [HW.out]
  have R15 := cell_lit hp 15 _ rfl
  go_wp2_with fail
  clear R15
  with_reducible refine (at16_4 _ _ _ _ _ hb (by have := H8.out; omega)).mono ?_
  rintro e w4 ⟨rfl, b4⟩
  replace hp := blk_under hp b4 zp
  replace zp := Nat.lt_of_lt_of_le zp b4.size
  replace hz := blk_under hz b4 zz
  replace zz := Nat.lt_of_lt_of_le zz b4.size
  replace hb := hb.below b4
  replace bel := bel.trans (b4.mono bel.size)
  clear b4
  rw [HLN.out]
  go_wp2_with (first | ((with_reducible show wpList _ _ _ (⟨none, Op.store _ (.tmp 2) _, _, _, _, _⟩ :: _) _ _); refine wpList_store_blk rfl 36 (.tmp 2) (.tmp 26) rfl g2 rfl #[.int .i64 0, .int .i64 0, .slice none 0 0] rfl _ 36 hz (by rfl) (by kernel_rfl) (by kernel_rfl) ?_; intro w5 hq gr; replace hb := hb.away av_hb_z gr; replace hp := blk_away hp gr zp d_p_z; replace zp := Nat.lt_of_lt_of_le zp gr.size; replace zz := Nat.lt_of_lt_of_le zz gr.size; replace bel := below_grown bel gr oz bel.size; clear hz; have hz := hq; clear hq gr))
  exact bodyPost_ret (results_cell_tmp_row rfl _ _ _ _ _ _ _ rfl hz Try.underlying36 rfl (by kernel_rfl) (.int .i64 3) rfl) rfl (UdPost.none HP.out.symm bel)
set_option maxRecDepth 100000 in
set_option maxHeartbeats 16000000 in
theorem rudget_5 (tos id fl pt ttl : Int) (a0 a1 a2 a3 a4 a5 a6 a7 : UInt8) (So Sb : Option Addr) (no co nb cb : Nat) (h0 h1 h2 h3 h4 h5 h6 h7 : UInt8) (r : List UInt8) (ln sm : Nat) (w : World) (hb : Sl w Sb nb cb (h0 :: h1 :: h2 :: h3 :: h4 :: h5 :: h6 :: h7 :: r)) (hm : nb ≤ 80000) (hln : be [h4, h5] = ln) (hsm : be [h6, h7] = sm) (hw : (decide (pt = 0) && decide (fl % 2 = 0)) = true) (hx : ln ≤ nb) (hy : ln < 8) : Calls Try.prog 12 #[.agg #[.int .i64 tos, .int .i64 id, .int .i64 fl, .int .i64 pt, .int .i64 ttl, .int .i64 17, .int .u8 (a0.toNat : Int), .int .u8 (a1.toNat : Int), .int .u8 (a2.toNat : Int), .int .u8 (a3.toNat : Int), .int .u8 (a4.toNat : Int), .int .u8 (a5.toNat : Int), .int .u8 (a6.toNat : Int), .int .u8 (a7.toNat : Int), .slice So no co, .slice Sb nb cb]] w (UdPost (udGet fl pt 17 a0 a1 a2 a3 a4 a5 a6 a7 (h0 :: h1 :: h2 :: h3 :: h4 :: h5 :: h6 :: h7 :: r)) w) := by
  have HP : Hid (udGet fl pt 17 a0 a1 a2 a3 a4 a5 a6 a7 (h0 :: h1 :: h2 :: h3 :: h4 :: h5 :: h6 :: h7 :: r) = ((0, 0), [], 4)) := Lib.hid (ud_err (by rw [ud_at hln hsm hw, if_neg (by rw [hb.1]; omega), if_pos hy]) (by decide))
  have HLN : Hid (be (List.take 2 (List.drop 4 (h0 :: h1 :: h2 :: h3 :: h4 :: h5 :: h6 :: h7 :: r))) = ln) := Lib.hid hln
  have HSM : Hid (be (List.take 2 (List.drop 6 (h0 :: h1 :: h2 :: h3 :: h4 :: h5 :: h6 :: h7 :: r))) = sm) := Lib.hid hsm
  have HM := Lib.hid hm
  have HW := Lib.hid hw
  have h8n : 8 ≤ nb := by have := hb.1; simp only [List.length_cons] at this; omega
  have H8 := Lib.hid h8n
  have tn : decide ((nb : Int) < 8) = false := decide_eq_false (by omega)
  clear h8n
  have t0 : decide (nb < ln) = false := decide_eq_false (by omega)
  have t1 : (ln : Int) < 8 := by omega
  clear hln hsm hm hw hx hy
  have bel := Below.refl w.heap.size w
  go_enter Try.func12, Try.ntmps12
  go_wp2_with (first | ((with_reducible show wpList _ _ _ (⟨some 1, _, _, _, _, _⟩ :: _) _ _); refine wpList_box_n rfl 39 (.tmp 0) rfl #[.int .i64 tos, .int .i64 id, .int .i64 fl, .int .i64 pt, .int .i64 ttl, .int .i64 17, .int .u8 (a0.toNat : Int), .int .u8 (a1.toNat : Int), .int .u8 (a2.toNat : Int), .int .u8 (a3.toNat : Int), .int .u8 (a4.toNat : Int), .int .u8 (a5.toNat : Int), .int .u8 (a6.toNat : Int), .int .u8 (a7.toNat : Int), .slice So no co, .slice Sb nb cb] rfl ?_; intro g1 w1 ge lt hh bb; have av_hb_p := hb.av_new ge; have op := Nat.le_trans bel.size ge; replace hb := hb.below bb; replace bel := bel.trans (bb.mono bel.size); have hp := hh; have zp := lt; clear hh lt ge bb) | ((with_reducible show wpList _ _ _ (⟨some 2, _, _, _, _, _⟩ :: _) _ _); refine wpList_new_n rfl 36 rfl (.agg #[.int .i64 0, .int .i64 0, .slice none 0 0]) (by kernel_rfl) #[.int .i64 0, .int .i64 0, .slice none 0 0] rfl ?_; intro g2 w2 ge lt hh bb; have d_p_z := ne_new zp ge; have av_hb_z := hb.av_new ge; have oz := Nat.le_trans bel.size ge; replace hp := blk_under hp bb zp; replace zp := Nat.lt_of_lt_of_le zp bb.size; replace hb := hb.below bb; replace bel := bel.trans (bb.mono bel.size); have hz := hh; have zz := lt; clear hh lt ge bb; have R7 := cell_lit hp 5 _ rfl; have R10 := Lib.hid (range_lit hp 0 16 [.int .i64 tos, .int .i64 id, .int .i64 fl, .int .i64 pt, .int .i64 ttl, .int .i64 17, .int .u8 (a0.toNat : Int), .int .u8 (a1.toNat : Int), .int .u8 (a2.toNat : Int), .int .u8 (a3.toNat : Int), .int .u8 (a4.toNat : Int), .int .u8 (a5.toNat : Int), .int .u8 (a6.toNat : Int), .int .u8 (a7.toNat : Int), .slice So no co, .slice Sb nb cb] rfl)) | ((with_reducible show wpList _ _ _ (⟨some 10, _, _, _, _, _⟩ :: _) _ _); refine wpList_load_rng 39 (.tmp 1) rfl (by kernel_rfl) _ _ rfl _ R10.out _ Try.underlying39 rfl (by kernel_rfl) ?_))
  try clear R7
  try clear R10
  with_reducible refine (rwhole_any _ _ _ _ _ _ _ _ _ _ _ _ _ _ _ _ _ _ _ _ _).mono ?_
  rintro e w3 ⟨rfl, b3⟩
  replace hp := blk_under hp b3 zp
  replace zp := Nat.lt_of_lt_of_le zp b3.size
  replace hz := blk_under hz b3 zz
  replace zz := Nat.lt_of_lt_of_le zz b3.size
  replace hb := hb.below b3
  replace bel := bel.trans (b3.mono bel.size)
  clear b3
  rw [HW.out]
  have R15 := cell_lit hp 15 _ rfl
  go_wp2_with fail
  clear R15
  with_reducible refine (at16_4 _ _ _ _ _ hb (by have := H8.out; omega)).mono ?_
  rintro e w4 ⟨rfl, b4⟩
  replace hp := blk_under hp b4 zp
  replace zp := Nat.lt_of_lt_of_le zp b4.size
  replace hz := blk_under hz b4 zz
  replace zz := Nat.lt_of_lt_of_le zz b4.size
  replace hb := hb.below b4
  replace bel := bel.trans (b4.mono bel.size)
  clear b4
  rw [HLN.out]
  go_wp2_with (first | ((with_reducible show wpList _ _ _ (⟨none, Op.store _ (.tmp 2) _, _, _, _, _⟩ :: _) _ _); refine wpList_store_blk rfl 36 (.tmp 2) (.tmp 29) rfl g2 rfl #[.int .i64 0, .int .i64 0, .slice none 0 0] rfl _ 36 hz (by rfl) (by kernel_rfl) (by kernel_rfl) ?_; intro w5 hq gr; replace hb := hb.away av_hb_z gr; replace hp := blk_away hp gr zp d_p_z; replace zp := Nat.lt_of_lt_of_le zp gr.size; replace zz := Nat.lt_of_lt_of_le zz gr.size; replace bel := below_grown bel gr oz bel.size; clear hz; have hz := hq; clear hq gr))
  exact bodyPost_ret (results_cell_tmp_row rfl _ _ _ _ _ _ _ rfl hz Try.underlying36 rfl (by kernel_rfl) (.int .i64 4) rfl) rfl (UdPost.none HP.out.symm bel)
set_option maxRecDepth 100000 in
set_option maxHeartbeats 16000000 in
theorem rudget_6 (tos id fl pt ttl : Int) (a0 a1 a2 a3 a4 a5 a6 a7 : UInt8) (So Sb : Option Addr) (no co nb cb : Nat) (h0 h1 h2 h3 h4 h5 h6 h7 : UInt8) (r : List UInt8) (ln sm : Nat) (w : World) (hb : Sl w Sb nb cb (h0 :: h1 :: h2 :: h3 :: h4 :: h5 :: h6 :: h7 :: r)) (hm : nb ≤ 80000) (hln : be [h4, h5] = ln) (hsm : be [h6, h7] = sm) (hw : (decide (pt = 0) && decide (fl % 2 = 0)) = true) (hx : ln ≤ nb) (hy : 8 ≤ ln) (hz : sm ≠ 0) (hc : ck (l4Ps a0 a1 a2 a3 a4 a5 a6 a7 17 (ln : Int) ++ (h0 :: h1 :: h2 :: h3 :: h4 :: h5 :: h6 :: h7 :: r).take ln) ≠ 0) : Calls Try.prog 12 #[.agg #[.int .i64 tos, .int .i64 id, .int .i64 fl, .int .i64 pt, .int .i64 ttl, .int .i64 17, .int .u8 (a0.toNat : Int), .int .u8 (a1.toNat : Int), .int .u8 (a2.toNat : Int), .int .u8 (a3.toNat : Int), .int .u8 (a4.toNat : Int), .int .u8 (a5.toNat : Int), .int .u8 (a6.toNat : Int), .int .u8 (a7.toNat : Int), .slice So no co, .slice Sb nb cb]] w (UdPost (udGet fl pt 17 a0 a1 a2 a3 a4 a5 a6 a7 (h0 :: h1 :: h2 :: h3 :: h4 :: h5 :: h6 :: h7 :: r)) w) := by
  have HP : Hid (udGet fl pt 17 a0 a1 a2 a3 a4 a5 a6 a7 (h0 :: h1 :: h2 :: h3 :: h4 :: h5 :: h6 :: h7 :: r) = ((0, 0), [], 5)) := Lib.hid (ud_err (by rw [ud_at hln hsm hw, if_neg (by rw [hb.1]; omega), if_neg (by omega), if_pos ⟨hz, hc⟩]) (by decide))
  have HLN : Hid (be (List.take 2 (List.drop 4 (h0 :: h1 :: h2 :: h3 :: h4 :: h5 :: h6 :: h7 :: r))) = ln) := Lib.hid hln
  have HSM : Hid (be (List.take 2 (List.drop 6 (h0 :: h1 :: h2 :: h3 :: h4 :: h5 :: h6 :: h7 :: r))) = sm) := Lib.hid hsm
  have HM := Lib.hid hm
  have HW := Lib.hid hw
  have h8n : 8 ≤ nb := by have := hb.1; simp only [List.length_cons] at this; omega
  have H8 := Lib.hid h8n
  have tn : decide ((nb : Int) < 8) = false := decide_eq_false (by omega)
  clear h8n
  have t0 : decide (nb < ln) = false := decide_eq_false (by omega)
  have t1 : decide ((ln : Int) < 8) = false := decide_eq_false (by omega)
  have HX := Lib.hid hx
  have HY := Lib.hid hy
  obtain ⟨cv, hcv⟩ : ∃ cv, Hid (ck (l4Ps a0 a1 a2 a3 a4 a5 a6 a7 17 (ln : Int) ++ (h0 :: h1 :: h2 :: h3 :: h4 :: h5 :: h6 :: h7 :: r).take ln) = cv) := ⟨_, Lib.hid rfl⟩
  rw [hcv.out] at hc
  have t4 : (cv == 0) = false := by simpa using hc
  have t5 : (cv != 0) = true := by simpa using hc
  have t2 : ((sm : Int) == 0) = false := by simpa using hz
  have t3 : ((sm : Int) != 0) = true := by simpa using hz
  clear hln hsm hm hw hx hy hz hc
  have bel := Below.refl w.heap.size w
  go_enter Try.func12, Try.ntmps12
  go_wp2_with (first | ((with_reducible show wpList _ _ _ (⟨some 1, _, _, _, _, _⟩ :: _) _ _); refine wpList_box_n rfl 39 (.tmp 0) rfl #[.int .i64 tos, .int .i64 id, .int .i64 fl, .int .i64 pt, .int .i64 ttl, .int .i64 17, .int .u8 (a0.toNat : Int), .int .u8 (a1.toNat : Int), .int .u8 (a2.toNat : Int), .int .u8 (a3.toNat : Int), .int .u8 (a4.toNat : Int), .int .u8 (a5.toNat : Int), .int .u8 (a6.toNat : Int), .int .u8 (a7.toNat : Int), .slice So no co, .slice Sb nb cb] rfl ?_; intro g1 w1 ge lt hh bb; have av_hb_p := hb.av_new ge; have op := Nat.le_trans bel.size ge; replace hb := hb.below bb; replace bel := bel.trans (bb.mono bel.size); have hp := hh; have zp := lt; clear hh lt ge bb) | ((with_reducible show wpList _ _ _ (⟨some 2, _, _, _, _, _⟩ :: _) _ _); refine wpList_new_n rfl 36 rfl (.agg #[.int .i64 0, .int .i64 0, .slice none 0 0]) (by kernel_rfl) #[.int .i64 0, .int .i64 0, .slice none 0 0] rfl ?_; intro g2 w2 ge lt hh bb; have d_p_z := ne_new zp ge; have av_hb_z := hb.av_new ge; have oz := Nat.le_trans bel.size ge; replace hp := blk_under hp bb zp; replace zp := Nat.lt_of_lt_of_le zp bb.size; replace hb := hb.below bb; replace bel := bel.trans (bb.mono bel.size); have hz := hh; have zz := lt; clear hh lt ge bb; have R7 := cell_lit hp 5 _ rfl; have R10 := Lib.hid (range_lit hp 0 16 [.int .i64 tos, .int .i64 id, .int .i64 fl, .int .i64 pt, .int .i64 ttl, .int .i64 17, .int .u8 (a0.toNat : Int), .int .u8 (a1.toNat : Int), .int .u8 (a2.toNat : Int), .int .u8 (a3.toNat : Int), .int .u8 (a4.toNat : Int), .int .u8 (a5.toNat : Int), .int .u8 (a6.toNat : Int), .int .u8 (a7.toNat : Int), .slice So no co, .slice Sb nb cb] rfl)) | ((with_reducible show wpList _ _ _ (⟨some 10, _, _, _, _, _⟩ :: _) _ _); refine wpList_load_rng 39 (.tmp 1) rfl (by kernel_rfl) _ _ rfl _ R10.out _ Try.underlying39 rfl (by kernel_rfl) ?_))
  try clear R7
  try clear R10
  with_reducible refine (rwhole_any _ _ _ _ _ _ _ _ _ _ _ _ _ _ _ _ _ _ _ _ _).mono ?_
  rintro e w3 ⟨rfl, b3⟩
  replace hp := blk_under hp b3 zp
  replace zp := Nat.lt_of_lt_of_le zp b3.size
  replace hz := blk_under hz b3 zz
  replace zz := Nat.lt_of_lt_of_le zz b3.size
  replace hb := hb.below b3
  replace bel := bel.trans (b3.mono bel.size)
  clear b3
  rw [HW.out]
  have R15 := cell_lit hp 15 _ rfl
  go_wp2_with fail
  clear R15
  with_reducible refine (at16_4 _ _ _ _ _ hb (by have := H8.out; omega)).mono ?_
  rintro e w4 ⟨rfl, b4⟩
  replace hp := blk_under hp b4 zp
  replace zp := Nat.lt_of_lt_of_le zp b4.size
  replace hz := blk_under hz b4 zz
  replace zz := Nat.lt_of_lt_of_le zz b4.size
  replace hb := hb.below b4
  replace bel := bel.trans (b4.mono bel.size)
  clear b4
  rw [HLN.out]
  go_wp2_with fail
  replace bel := bel.drew
  replace hp : w4.drew.heap[g1]? = _ := hp
  replace zp : _ < w4.drew.heap.size := zp
  replace hz : w4.drew.heap[g2]? = _ := hz
  replace zz : _ < w4.drew.heap.size := zz
  replace hb := hb.drew
  refine wp_region_held_drew (S := fun W => W.heap[g1]? = some (.cells #[.int .i64 tos, .int .i64 id, .int .i64 fl, .int .i64 pt, .int .i64 ttl, .int .i64 17, .int .u8 (a0.toNat : Int), .int .u8 (a1.toNat : Int), .int .u8 (a2.toNat : Int), .int .u8 (a3.toNat : Int), .int .u8 (a4.toNat : Int), .int .u8 (a5.toNat : Int), .int .u8 (a6.toNat : Int), .int .u8 (a7.toNat : Int), .slice So no co, .slice Sb nb cb] 39 (0, 0))) (by kernel_rfl) hp (fun hH => ?_)
  generalize w4.drew = w5 at bel hp zp hz zz hb hH ⊢
  refine wpAnyH_take (i := 0) (v := ?_) rfl (by kernel_rfl) (by kernel_rfl) (by kernel_rfl) (fun _ _ _ h => h) (Or.inl ⟨by rfl, ?_⟩) hH ?_
  rotate_left
  · ((intro W hW; clear hW; go_simp) <;> with_reducible rfl)
  simp only [Act.put, List.getElem_toArray, List.getElem_cons_zero, List.setIfInBounds_toArray, List.set_cons_zero, List.set_cons_succ]
  refine wpAnyH_ready (rs := [1]) (by kernel_rfl) (by simp) ?_
  refine AllReadyH.cons (o := _) rfl (fun K hK => ?_) AllReadyH.nil
  simp only [List.getElem_toArray, List.getElem_cons_zero, List.getElem_cons_succ]
  go_simp
  with_reducible refine (at16_6 _ _ _ _ _ hb (by have := H8.out; omega)).mono ?_
  rintro e w6 ⟨rfl, b6⟩
  dsimp only
  replace hp := blk_under hp b6 zp
  replace zp := Nat.lt_of_lt_of_le zp b6.size
  replace hz := blk_under hz b6 zz
  replace zz := Nat.lt_of_lt_of_le zz b6.size
  replace hb := hb.below b6
  replace bel := bel.trans (b6.mono bel.size)
  clear b6
  rw [HSM.out]
  refine hK.out _ _ hp (fun hH7 => ?_)
  clear hK K
  refine wpAnyH_take (i := 2) (v := ?_) rfl (by kernel_rfl) (by kernel_rfl) (by kernel_rfl) (fun _ _ _ h => h) (Or.inl ⟨by rfl, ?_⟩) hH7 ?_
  rotate_left
  · ((intro W hW; clear hW; go_simp) <;> with_reducible rfl)
  simp only [Act.put, List.getElem_toArray, List.getElem_cons_zero, List.getElem_cons_succ, List.setIfInBounds_toArray, List.set_cons_zero, List.set_cons_succ]
  refine wpAnyH_take (i := 3) (v := ?_) rfl (by kernel_rfl) (by kernel_rfl) (by kernel_rfl) (fun _ _ _ h => h) (Or.inl ⟨by rfl, ?_⟩) hH7 ?_
  rotate_left
  · ((intro W hW; clear hW; go_simp) <;> with_reducible rfl)
  simp only [Act.put, List.getElem_toArray, List.getElem_cons_zero, List.getElem_cons_succ, List.setIfInBounds_toArray, List.set_cons_zero, List.set_cons_succ]
  refine wpAnyH_take (i := 4) (v := .agg #[.int .i64 tos, .int .i64 id, .int .i64 fl, .int .i64 pt, .int .i64 ttl, .int .i64 17, .int .u8 (a0.toNat : Int), .int .u8 (a1.toNat : Int), .int .u8 (a2.toNat : Int), .int .u8 (a3.toNat : Int), .int .u8 (a4.toNat : Int), .int .u8 (a5.toNat : Int), .int .u8 (a6.toNat : Int), .int .u8 (a7.toNat : Int), .slice So no co, .slice Sb nb cb]) rfl (by kernel_rfl) (by kernel_rfl) (by kernel_rfl) (fun _ _ _ h => h) (yieldsIf_load_part (by kernel_rfl) 39 _ rfl g1 0 16 rfl [.int .i64 tos, .int .i64 id, .int .i64 fl, .int .i64 pt, .int .i64 ttl, .int .i64 17, .int .u8 (a0.toNat : Int), .int .u8 (a1.toNat : Int), .int .u8 (a2.toNat : Int), .int .u8 (a3.toNat : Int), .int .u8 (a4.toNat : Int), .int .u8 (a5.toNat : Int), .int .u8 (a6.toNat : Int), .int .u8 (a7.toNat : Int), .slice So no co, .slice Sb nb cb] 39 (0, 0) (fun W hW => hW) [.int .i64 tos, .int .i64 id, .int .i64 fl, .int .i64 pt, .int .i64 ttl, .int .i64 17, .int .u8 (a0.toNat : Int), .int .u8 (a1.toNat : Int), .int .u8 (a2.toNat : Int), .int .u8 (a3.toNat : Int), .int .u8 (a4.toNat : Int), .int .u8 (a5.toNat : Int), .int .u8 (a6.toNat : Int), .int .u8 (a7.toNat : Int), .slice So no co, .slice Sb nb cb] rfl _ Try.underlying39 rfl (by kernel_rfl)) hH7 ?_
  simp only [Act.put, List.getElem_toArray, List.getElem_cons_zero, List.getElem_cons_succ, List.setIfInBounds_toArray, List.set_cons_zero, List.set_cons_succ]
  refine wpAnyH_take (i := 5) (v := ?_) rfl (by kernel_rfl) (by kernel_rfl) (by kernel_rfl) (fun _ _ _ h => h) (Or.inl ⟨by rfl, ?_⟩) hH7 ?_
  rotate_left
  · ((intro W hW; clear hW; go_simp) <;> with_reducible rfl)
  simp only [Act.put, List.getElem_toArray, List.getElem_cons_zero, List.getElem_cons_succ, List.setIfInBounds_toArray, List.set_cons_zero, List.set_cons_succ]
  refine wpAnyH_take (i := 6) (v := ?_) rfl (by kernel_rfl) (by kernel_rfl) (by kernel_rfl) (fun _ _ _ h => h) (Or.inl ⟨by rfl, ?_⟩) hH7 ?_
  rotate_left
  · ((intro W hW; clear hW; go_simp) <;> with_reducible rfl)
  simp only [Act.put, List.getElem_toArray, List.getElem_cons_zero, List.getElem_cons_succ, List.setIfInBounds_toArray, List.set_cons_zero, List.set_cons_succ]
  obtain ⟨A37, c37, r37, f37, u37⟩ := piece_front hb (k := ln) HX.out
  have pc := f37 _ hb
  have av_pc_p := av_hb_p.sub u37
  have av_pc_z := av_hb_z.sub u37
  clear f37 u37
  refine wpAnyH_take (i := 7) (v := ?_) rfl (by kernel_rfl) (by kernel_rfl) (by kernel_rfl) (fun _ _ _ h => h) (Or.inl ⟨by rfl, ?_⟩) hH7 ?_
  rotate_left
  · ((intro W hW; clear hW; go_simp) <;> with_reducible rfl)
  simp only [Act.put, List.getElem_toArray, List.getElem_cons_zero, List.getElem_cons_succ, List.setIfInBounds_toArray, List.set_cons_zero, List.set_cons_succ]
  refine wpAnyH_ready (rs := [8]) (by kernel_rfl) (by simp) ?_
  refine AllReadyH.cons (o := _) rfl (fun K hK => ?_) AllReadyH.nil
  simp only [List.getElem_toArray, List.getElem_cons_zero, List.getElem_cons_succ]
  go_simp
  with_reducible refine (rsum_any _ _ _ _ _ 17 _ _ _ _ _ _ _ _ _ _ _ _ _ _ _ _ _ _ _ pc (by have := HX.out; have := HM.out; omega)).mono ?_
  rintro e w8 ⟨rfl, b8⟩
  dsimp only
  replace hp := blk_under hp b8 zp
  replace zp := Nat.lt_of_lt_of_le zp b8.size
  replace hz := blk_under hz b8 zz
  replace zz := Nat.lt_of_lt_of_le zz b8.size
  replace hb := hb.below b8
  replace pc := pc.below b8
  replace bel := bel.trans (b8.mono bel.size)
  clear b8
  rw [hcv.out]
  refine hK.out _ _ hp (fun hH9 => ?_)
  clear hK K
  refine wpAnyH_take (i := 9) (v := ?_) rfl (by kernel_rfl) (by kernel_rfl) (by kernel_rfl) (fun _ _ _ h => h) (Or.inl ⟨by rfl, ?_⟩) hH9 ?_
  rotate_left
  · ((intro W hW; clear hW; go_simp) <;> with_reducible rfl)
  simp only [Act.put, List.getElem_toArray, List.getElem_cons_zero, List.getElem_cons_succ, List.setIfInBounds_toArray, List.set_cons_zero, List.set_cons_succ]
  refine wpAnyH_take (i := 10) (v := ?_) rfl (by kernel_rfl) (by kernel_rfl) (by kernel_rfl) (fun _ _ _ h => h) (Or.inl ⟨by rfl, ?_⟩) hH9 ?_
  rotate_left
  · ((intro W hW; clear hW; go_simp) <;> with_reducible rfl)
  simp only [Act.put, List.getElem_toArray, List.getElem_cons_zero, List.getElem_cons_succ, List.setIfInBounds_toArray, List.set_cons_zero, List.set_cons_succ]
  refine wpAnyH_done (by kernel_rfl) ?_ _
  go_wp2_with (first | ((with_reducible show wpList _ _ _ (⟨none, Op.store _ (.tmp 2) _, _, _, _, _⟩ :: _) _ _); refine wpList_store_blk rfl 36 (.tmp 2) (.tmp 41) rfl g2 rfl #[.int .i64 0, .int .i64 0, .slice none 0 0] rfl _ 36 hz (by rfl) (by kernel_rfl) (by kernel_rfl) ?_; intro w10 hq gr; replace hb := hb.away av_hb_z gr; replace pc := pc.away av_pc_z gr; replace hp := blk_away hp gr zp d_p_z; replace zp := Nat.lt_of_lt_of_le zp gr.size; replace zz := Nat.lt_of_lt_of_le zz gr.size; replace bel := below_grown bel gr oz bel.size; clear hz; have hz := hq; clear hq gr))
  exact bodyPost_ret (results_cell_tmp_row rfl _ _ _ _ _ _ _ rfl hz Try.underlying36 rfl (by kernel_rfl) (.int .i64 5) rfl) rfl (UdPost.none HP.out.symm bel)
set_option maxRecDepth 100000 in
set_option maxHeartbeats 16000000 in
theorem rudget_7 (tos id fl pt ttl : Int) (a0 a1 a2 a3 a4 a5 a6 a7 : UInt8) (So Sb : Option Addr) (no co nb cb : Nat) (h0 h1 h2 h3 h4 h5 h6 h7 : UInt8) (r : List UInt8) (ln sm : Nat) (w : World) (hb : Sl w Sb nb cb (h0 :: h1 :: h2 :: h3 :: h4 :: h5 :: h6 :: h7 :: r)) (hm : nb ≤ 80000) (hln : be [h4, h5] = ln) (hsm : be [h6, h7] = sm) (hw : (decide (pt = 0) && decide (fl % 2 = 0)) = true) (hx : ln ≤ nb) (hy : 8 ≤ ln) (hz : sm = 0) : Calls Try.prog 12 #[.agg #[.int .i64 tos, .int .i64 id, .int .i64 fl, .int .i64 pt, .int .i64 ttl, .int .i64 17, .int .u8 (a0.toNat : Int), .int .u8 (a1.toNat : Int), .int .u8 (a2.toNat : Int), .int .u8 (a3.toNat : Int), .int .u8 (a4.toNat : Int), .int .u8 (a5.toNat : Int), .int .u8 (a6.toNat : Int), .int .u8 (a7.toNat : Int), .slice So no co, .slice Sb nb cb]] w (UdPost (udGet fl pt 17 a0 a1 a2 a3 a4 a5 a6 a7 (h0 :: h1 :: h2 :: h3 :: h4 :: h5 :: h6 :: h7 :: r)) w) := by
  have HLN : Hid (be (List.take 2 (List.drop 4 (h0 :: h1 :: h2 :: h3 :: h4 :: h5 :: h6 :: h7 :: r))) = ln) := Lib.hid hln
  have HSM : Hid (be (List.take 2 (List.drop 6 (h0 :: h1 :: h2 :: h3 :: h4 :: h5 :: h6 :: h7 :: r))) = sm) := Lib.hid hsm
  have HM := Lib.hid hm
  have HW := Lib.hid hw
  have h8n : 8 ≤ nb := by have := hb.1; simp only [List.length_cons] at this; omega
  have H8 := Lib.hid h8n
  have tn : decide ((nb : Int) < 8) = false := decide_eq_false (by omega)
  clear h8n
  have t0 : decide (nb < ln) = false := decide_eq_false (by omega)
  have t1 : decide ((ln : Int) < 8) = false := decide_eq_false (by omega)
  have HX := Lib.hid hx
  have HY := Lib.hid hy
  obtain ⟨k, hk⟩ : ∃ k, ln = k + 8 := ⟨ln - 8, by omega⟩
  have hkr : k ≤ r.length := by have := hb.1; simp at this; omega
  have HP : Hid (udGet fl pt 17 a0 a1 a2 a3 a4 a5 a6 a7 (h0 :: h1 :: h2 :: h3 :: h4 :: h5 :: h6 :: h7 :: r) = ((((be [h0, h1] : Nat) : Int), ((be [h2, h3] : Nat) : Int)), r.take k, 0)) := Lib.hid (ud_ok (by rw [ud_at hln hsm hw, if_neg (by rw [hb.1]; omega), if_neg (by omega), if_neg fun h => h.1 hz]) hln hk)
  have HKR := Lib.hid hkr
  have HKL : Hid ((r.take k).length = k) := Lib.hid (by rw [List.length_take]; omega)
  have HK8 : Hid ((ln : Int) = ((8 : Nat) : Int) + (k : Int)) := Lib.hid (by omega)
  have HLK := Lib.hid hk
  clear hkr hk
  have t2 : ((sm : Int) == 0) = true := by simpa using hz
  have t3 : ((sm : Int) != 0) = false := by simpa using hz
  clear hln hsm hm hw hx hy hz
  have bel := Below.refl w.heap.size w
  go_enter Try.func12, Try.ntmps12
  go_wp2_with (first | ((with_reducible show wpList _ _ _ (⟨some 1, _, _, _, _, _⟩ :: _) _ _); refine wpList_box_n rfl 39 (.tmp 0) rfl #[.int .i64 tos, .int .i64 id, .int .i64 fl, .int .i64 pt, .int .i64 ttl, .int .i64 17, .int .u8 (a0.toNat : Int), .int .u8 (a1.toNat : Int), .int .u8 (a2.toNat : Int), .int .u8 (a3.toNat : Int), .int .u8 (a4.toNat : Int), .int .u8 (a5.toNat : Int), .int .u8 (a6.toNat : Int), .int .u8 (a7.toNat : Int), .slice So no co, .slice Sb nb cb] rfl ?_; intro g1 w1 ge lt hh bb; have av_hb_p := hb.av_new ge; have op := Nat.le_trans bel.size ge; replace hb := hb.below bb; replace bel := bel.trans (bb.mono bel.size); have hp := hh; have zp := lt; clear hh lt ge bb) | ((with_reducible show wpList _ _ _ (⟨some 2, _, _, _, _, _⟩ :: _) _ _); refine wpList_new_n rfl 36 rfl (.agg #[.int .i64 0, .int .i64 0, .slice none 0 0]) (by kernel_rfl) #[.int .i64 0, .int .i64 0, .slice none 0 0] rfl ?_; intro g2 w2 ge lt hh bb; have d_p_z := ne_new zp ge; have av_hb_z := hb.av_new ge; have oz := Nat.le_trans bel.size ge; replace hp := blk_under hp bb zp; replace zp := Nat.lt_of_lt_of_le zp bb.size; replace hb := hb.below bb; replace bel := bel.trans (bb.mono bel.size); have hz := hh; have zz := lt; clear hh lt ge bb; have R7 := cell_lit hp 5 _ rfl; have R10 := Lib.hid (range_lit hp 0 16 [.int .i64 tos, .int .i64 id, .int .i64 fl, .int .i64 pt, .int .i64 ttl, .int .i64 17, .int .u8 (a0.toNat : Int), .int .u8 (a1.toNat : Int), .int .u8 (a2.toNat : Int), .int .u8 (a3.toNat : Int), .int .u8 (a4.toNat : Int), .int .u8 (a5.toNat : Int), .int .u8 (a6.toNat : Int), .int .u8 (a7.toNat : Int), .slice So no co, .slice Sb nb cb] rfl)) | ((with_reducible show wpList _ _ _ (⟨some 10, _, _, _, _, _⟩ :: _) _ _); refine wpList_load_rng 39 (.tmp 1) rfl (by kernel_rfl) _ _ rfl _ R10.out _ Try.underlying39 rfl (by kernel_rfl) ?_))
  try clear R7
  try clear R10
  with_reducible refine (rwhole_any _ _ _ _ _ _ _ _ _ _ _ _ _ _ _ _ _ _ _ _ _).mono ?_
  rintro e w3 ⟨rfl, b3⟩
  replace hp := blk_under hp b3 zp
  replace zp := Nat.lt_of_lt_of_le zp b3.size
  replace hz := blk_under hz b3 zz
  replace zz := Nat.lt_of_lt_of_le zz b3.size
  replace hb := hb.below b3
  replace bel := bel.trans (b3.mono bel.size)
  clear b3
  rw [HW.out]
  have R15 := cell_lit hp 15 _ rfl
  go_wp2_with fail
  clear R15
  with_reducible refine (at16_4 _ _ _ _ _ hb (by have := H8.out; omega)).mono ?_
  rintro e w4 ⟨rfl, b4⟩
  replace hp := blk_under hp b4 zp
  replace zp := Nat.lt_of_lt_of_le zp b4.size
  replace hz := blk_under hz b4 zz
  replace zz := Nat.lt_of_lt_of_le zz b4.size
  replace hb := hb.below b4
  replace bel := bel.trans (b4.mono bel.size)
  clear b4
  rw [HLN.out]
  go_wp2_with fail
  replace bel := bel.drew
  replace hp : w4.drew.heap[g1]? = _ := hp
  replace zp : _ < w4.drew.heap.size := zp
  replace hz : w4.drew.heap[g2]? = _ := hz
  replace zz : _ < w4.drew.heap.size := zz
  replace hb := hb.drew
  refine wp_region_held_drew (S := fun W => W.heap[g1]? = some (.cells #[.int .i64 tos, .int .i64 id, .int .i64 fl, .int .i64 pt, .int .i64 ttl, .int .i64 17, .int .u8 (a0.toNat : Int), .int .u8 (a1.toNat : Int), .int .u8 (a2.toNat : Int), .int .u8 (a3.toNat : Int), .int .u8 (a4.toNat : Int), .int .u8 (a5.toNat : Int), .int .u8 (a6.toNat : Int), .int .u8 (a7.toNat : Int), .slice So no co, .slice Sb nb cb] 39 (0, 0))) (by kernel_rfl) hp (fun hH => ?_)
  generalize w4.drew = w5 at bel hp zp hz zz hb hH ⊢
  refine wpAnyH_take (i := 0) (v := ?_) rfl (by kernel_rfl) (by kernel_rfl) (by kernel_rfl) (fun _ _ _ h => h) (Or.inl ⟨by rfl, ?_⟩) hH ?_
  rotate_left
  · ((intro W hW; clear hW; go_simp) <;> with_reducible rfl)
  simp only [Act.put, List.getElem_toArray, List.getElem_cons_zero, List.setIfInBounds_toArray, List.set_cons_zero, List.set_cons_succ]
  refine wpAnyH_ready (rs := [1]) (by kernel_rfl) (by simp) ?_
  refine AllReadyH.cons (o := _) rfl (fun K hK => ?_) AllReadyH.nil
  simp only [List.getElem_toArray, List.getElem_cons_zero, List.getElem_cons_succ]
  go_simp
  with_reducible refine (at16_6 _ _ _ _ _ hb (by have := H8.out; omega)).mono ?_
  rintro e w6 ⟨rfl, b6⟩
  dsimp only
  replace hp := blk_under hp b6 zp
  replace zp := Nat.lt_of_lt_of_le zp b6.size
  replace hz := blk_under hz b6 zz
  replace zz := Nat.lt_of_lt_of_le zz b6.size
  replace hb := hb.below b6
  replace bel := bel.trans (b6.mono bel.size)
  clear b6
  rw [HSM.out]
  refine hK.out _ _ hp (fun hH7 => ?_)
  clear hK K
  refine wpAnyH_take (i := 2) (v := ?_) rfl (by kernel_rfl) (by kernel_rfl) (by kernel_rfl) (fun _ _ _ h => h) (Or.inl ⟨by rfl, ?_⟩) hH7 ?_
  rotate_left
  · ((intro W hW; clear hW; go_simp) <;> with_reducible rfl)
  simp only [Act.put, List.getElem_toArray, List.getElem_cons_zero, List.getElem_cons_succ, List.setIfInBounds_toArray, List.set_cons_zero, List.set_cons_succ]
  refine wpAnyH_take (i := 3) (v := ?_) rfl (by kernel_rfl) (by kernel_rfl) (by kernel_rfl) (fun _ _ _ h => h) (Or.inl ⟨by rfl, ?_⟩) hH7 ?_
  rotate_left
  · ((intro W hW; clear hW; go_simp) <;> with_reducible rfl)
  simp only [Act.put, List.getElem_toArray, List.getElem_cons_zero, List.getElem_cons_succ, List.setIfInBounds_toArray, List.set_cons_zero, List.set_cons_succ]
  refine wpAnyH_take (i := 4) (v := undef) rfl (by kernel_rfl) (by kernel_rfl) (by kernel_rfl) (fun _ _ _ h => h) (Or.inr ⟨by rfl, rfl⟩) hH7 ?_
  simp only [Act.put, List.getElem_toArray, List.getElem_cons_zero, List.getElem_cons_succ, List.setIfInBounds_toArray, List.set_cons_zero, List.set_cons_succ]
  refine wpAnyH_take (i := 5) (v := undef) rfl (by kernel_rfl) (by kernel_rfl) (by kernel_rfl) (fun _ _ _ h => h) (Or.inr ⟨by rfl, rfl⟩) hH7 ?_
  simp only [Act.put, List.getElem_toArray, List.getElem_cons_zero, List.getElem_cons_succ, List.setIfInBounds_toArray, List.set_cons_zero, List.set_cons_succ]
  refine wpAnyH_take (i := 6) (v := undef) rfl (by kernel_rfl) (by kernel_rfl) (by kernel_rfl) (fun _ _ _ h => h) (Or.inr ⟨by rfl, rfl⟩) hH7 ?_
  simp only [Act.put, List.getElem_toArray, List.getElem_cons_zero, List.getElem_cons_succ, List.setIfInBounds_toArray, List.set_cons_zero, List.set_cons_succ]
  refine wpAnyH_take (i := 7) (v := undef) rfl (by kernel_rfl) (by kernel_rfl) (by kernel_rfl) (fun _ _ _ h => h) (Or.inr ⟨by rfl, rfl⟩) hH7 ?_
  simp only [Act.put, List.getElem_toArray, List.getElem_cons_zero, List.getElem_cons_succ, List.setIfInBounds_toArray, List.set_cons_zero, List.set_cons_succ]
  refine wpAnyH_take (i := 8) (v := undef) rfl (by kernel_rfl) (by kernel_rfl) (by kernel_rfl) (fun _ _ _ h => h) (Or.inr ⟨by rfl, rfl⟩) hH7 ?_
  simp only [Act.put, List.getElem_toArray, List.getElem_cons_zero, List.getElem_cons_succ, List.setIfInBounds_toArray, List.set_cons_zero, List.set_cons_succ]
  refine wpAnyH_take (i := 9) (v := undef) rfl (by kernel_rfl) (by kernel_rfl) (by kernel_rfl) (fun _ _ _ h => h) (Or.inr ⟨by rfl, rfl⟩) hH7 ?_
  simp only [Act.put, List.getElem_toArray, List.getElem_cons_zero, List.getElem_cons_succ, List.setIfInBounds_toArray, List.set_cons_zero, List.set_cons_succ]
  refine wpAnyH_take (i := 10) (v := ?_) rfl (by kernel_rfl) (by kernel_rfl) (by kernel_rfl) (fun _ _ _ h => h) (Or.inl ⟨by rfl, ?_⟩) hH7 ?_
  rotate_left
  · ((intro W hW; clear hW; go_simp) <;> with_reducible rfl)
  simp only [Act.put, List.getElem_toArray, List.getElem_cons_zero, List.getElem_cons_succ, List.setIfInBounds_toArray, List.set_cons_zero, List.set_cons_succ]
  refine wpAnyH_done (by kernel_rfl) ?_ _
  go_wp2_with fail
  replace bel := bel.drew
  replace hp : w6.drew.heap[g1]? = _ := hp
  replace zp : _ < w6.drew.heap.size := zp
  replace hz : w6.drew.heap[g2]? = _ := hz
  replace zz : _ < w6.drew.heap.size := zz
  replace hb := hb.drew
  refine wp_region_held_drew (S := fun _ => True) (by kernel_rfl) trivial (fun hH => ?_)
  generalize w6.drew = w8 at bel hp zp hz zz hb hH ⊢
  refine wpAnyH_take (i := 0) (v := ?_) rfl (by kernel_rfl) (by kernel_rfl) (by kernel_rfl) (fun _ _ _ h => h) (Or.inl ⟨by rfl, ?_⟩) hH ?_
  rotate_left
  · ((intro W hW; clear hW; go_simp) <;> with_reducible rfl)
  simp only [Act.put, List.getElem_toArray, List.getElem_cons_zero, List.setIfInBounds_toArray, List.set_cons_zero, List.set_cons_succ]
  refine wpAnyH_take (i := 2) (v := ?_) rfl (by kernel_rfl) (by kernel_rfl) (by kernel_rfl) (fun _ _ _ h => h) (Or.inl ⟨by rfl, ?_⟩) hH ?_
  rotate_left
  · ((intro W hW; clear hW; go_simp) <;> with_reducible rfl)
  simp only [Act.put, List.getElem_toArray, List.getElem_cons_zero, List.getElem_cons_succ, List.setIfInBounds_toArray, List.set_cons_zero, List.set_cons_succ]
  refine wpAnyH_take (i := 4) (v := ?_) rfl (by kernel_rfl) (by kernel_rfl) (by kernel_rfl) (fun _ _ _ h => h) (Or.inl ⟨by rfl, ?_⟩) hH ?_
  rotate_left
  · ((intro W hW; clear hW; go_simp) <;> with_reducible rfl)
  simp only [Act.put, List.getElem_toArray, List.getElem_cons_zero, List.getElem_cons_succ, List.setIfInBounds_toArray, List.set_cons_zero, List.set_cons_succ]
  refine wpAnyH_take (i := 5) (v := ?_) rfl (by kernel_rfl) (by kernel_rfl) (by kernel_rfl) (fun _ _ _ h => h) (Or.inl ⟨by rfl, ?_⟩) hH ?_
  rotate_left
  · ((intro W hW; clear hW; go_simp) <;> with_reducible rfl)
  simp only [Act.put, List.getElem_toArray, List.getElem_cons_zero, List.getElem_cons_succ, List.setIfInBounds_toArray, List.set_cons_zero, List.set_cons_succ]
  obtain ⟨Apm, cpm, r48, f48, u48⟩ := piece_mid hb (p := 8) (k := k) (by have := HX.out; have := HLK.out; omega)
  replace r48 : ∀ W, (Instr.slice 25 (.slice Sb nb cb) (some (.int .i64 8)) (some (.int .i64 (ln : Int))) none).run Try.prog W = .ok (.slice Apm k cpm) W := (by rw [HK8.out]; exact r48)
  have pm : Sl w8 Apm k cpm (List.take k r) := f48 _ hb
  have av_pm_p := av_hb_p.sub u48
  have av_pm_z := av_hb_z.sub u48
  clear f48 u48
  refine wpAnyH_take (i := 6) (v := ?_) rfl (by kernel_rfl) (by kernel_rfl) (by kernel_rfl) (fun _ _ _ h => h) (Or.inl ⟨by rfl, ?_⟩) hH ?_
  rotate_left
  · ((intro W hW; clear hW; go_simp) <;> with_reducible rfl)
  simp only [Act.put, List.getElem_toArray, List.getElem_cons_zero, List.getElem_cons_succ, List.setIfInBounds_toArray, List.set_cons_zero, List.set_cons_succ]
  refine wpAnyH_ready (rs := [1]) (by kernel_rfl) (by simp) ?_
  refine AllReadyH.cons (o := _) rfl (fun K hK => ?_) AllReadyH.nil
  simp only [List.getElem_toArray, List.getElem_cons_zero, List.getElem_cons_succ]
  go_simp
  with_reducible refine (at16_0 _ _ _ _ _ hb (by have := H8.out; omega)).mono ?_
  rintro e w9 ⟨rfl, b9⟩
  dsimp only
  replace hp := blk_under hp b9 zp
  replace zp := Nat.lt_of_lt_of_le zp b9.size
  replace hz := blk_under hz b9 zz
  replace zz := Nat.lt_of_lt_of_le zz b9.size
  replace hb := hb.below b9
  replace pm := pm.below b9
  replace bel := bel.trans (b9.mono bel.size)
  clear b9
  rw [show be (List.take 2 (List.drop 0 (h0 :: h1 :: h2 :: h3 :: h4 :: h5 :: h6 :: h7 :: r))) = be [h0, h1] from rfl]
  refine hK.out _ _ trivial (fun hH10 => ?_)
  clear hK K
  refine wpAnyH_ready (rs := [3]) (by kernel_rfl) (by simp) ?_
  refine AllReadyH.cons (o := _) rfl (fun K hK => ?_) AllReadyH.nil
  simp only [List.getElem_toArray, List.getElem_cons_zero, List.getElem_cons_succ]
  go_simp
  with_reducible refine (at16_2 _ _ _ _ _ hb (by have := H8.out; omega)).mono ?_
  rintro e w11 ⟨rfl, b11⟩
  dsimp only
  replace hp := blk_under hp b11 zp
  replace zp := Nat.lt_of_lt_of_le zp b11.size
  replace hz := blk_under hz b11 zz
  replace zz := Nat.lt_of_lt_of_le zz b11.size
  replace hb := hb.below b11
  replace pm := pm.below b11
  replace bel := bel.trans (b11.mono bel.size)
  clear b11
  rw [show be (List.take 2 (List.drop 2 (h0 :: h1 :: h2 :: h3 :: h4 :: h5 :: h6 :: h7 :: r))) = be [h2, h3] from rfl]
  refine hK.out _ _ trivial (fun hH12 => ?_)
  clear hK K
  refine wpAnyH_ready (rs := [7]) (by kernel_rfl) (by simp) ?_
  refine AllReadyH.cons (o := _) rfl (fun K hK => ?_) AllReadyH.nil
  simp only [List.getElem_toArray, List.getElem_cons_zero, List.getElem_cons_succ]
  go_simp
  with_reducible refine (rcopied_o _ _ _ _ _ pm (by have := HX.out; have := HLK.out; have := HM.out; omega)).mono ?_
  rintro e w13 ⟨v, rfl, qbw, b13⟩
  dsimp only
  have y_qb_p := Lib.hid zp
  have y_qb_z := Lib.hid zz
  have bl_hb_qb := hb.bl_new
  have bl_pm_qb := pm.bl_new
  have qblo := bel.size
  have lz_qb := b13.size
  replace hp := blk_under hp b13 zp
  replace zp := Nat.lt_of_lt_of_le zp b13.size
  replace hz := blk_under hz b13 zz
  replace zz := Nat.lt_of_lt_of_le zz b13.size
  replace hb := hb.below b13
  replace pm := pm.below b13
  replace bel := bel.trans (b13.mono bel.size)
  clear b13
  obtain ⟨Aqb, cqb, rfl⟩ := own_val qbw
  have qb := (own_sl qbw).1
  have fr_qb := (own_sl qbw).2
  have av_qb_p := fr_qb.av y_qb_p.out
  have av_qb_z := fr_qb.av y_qb_z.out
  refine hK.out _ _ trivial (fun hH14 => ?_)
  clear hK K
  refine wpAnyH_take (i := 8) (v := ?_) rfl (by kernel_rfl) (by kernel_rfl) (by kernel_rfl) (fun _ _ _ h => h) (Or.inl ⟨by rfl, ?_⟩) hH14 ?_
  rotate_left
  · ((intro W hW; clear hW; go_simp) <;> with_reducible rfl)
  simp only [Act.put, List.getElem_toArray, List.getElem_cons_zero, List.getElem_cons_succ, List.setIfInBounds_toArray, List.set_cons_zero, List.set_cons_succ]
  refine wpAnyH_ready (rs := [9]) (by kernel_rfl) (by simp) ?_
  refine AllReadyH.cons (o := _) rfl (fun K hK => ?_) AllReadyH.nil
  simp only [List.getElem_toArray, List.getElem_cons_zero, List.getElem_cons_succ]
  rw [if_pos (by rfl)]
  refine wp_store_blk 36 (.tmp 2) (.tmp 50) rfl g2 rfl #[.int .i64 ((be [h0, h1] : Nat) : Int), .int .i64 ((be [h2, h3] : Nat) : Int), .slice Aqb k cqb] rfl _ 36 hz (by rfl) (by kernel_rfl) (by kernel_rfl) ?_
  intro w15 hq gr
  replace hb := hb.away av_hb_z gr
  replace pm := pm.away av_pm_z gr
  replace qb := qb.away av_qb_z gr
  replace qbw := own_away qbw y_qb_z.out gr
  replace lz_qb := Nat.le_trans lz_qb gr.size
  replace hp := blk_away hp gr zp d_p_z
  replace zp := Nat.lt_of_lt_of_le zp gr.size
  replace zz := Nat.lt_of_lt_of_le zz gr.size
  replace bel := below_grown bel gr oz bel.size
  clear hz
  have hz := hq
  clear hq gr
  refine hK.out _ _ trivial (fun hH16 => ?_)
  clear hK K
  refine wpAnyH_take (i := 10) (v := ?_) rfl (by kernel_rfl) (by kernel_rfl) (by kernel_rfl) (fun _ _ _ h => h) (Or.inl ⟨by rfl, ?_⟩) hH16 ?_
  rotate_left
  · ((intro W hW; clear hW; go_simp) <;> with_reducible rfl)
  simp only [Act.put, List.getElem_toArray, List.getElem_cons_zero, List.getElem_cons_succ, List.setIfInBounds_toArray, List.set_cons_zero, List.set_cons_succ]
  refine wpAnyH_done (by kernel_rfl) ?_ _
  go_wp2_with fail
  exact bodyPost_ret (results_cell_tmp_row rfl _ _ _ _ _ _ _ rfl hz Try.underlying36 rfl (by kernel_rfl) (.int .i64 0) rfl) rfl ⟨((be [h0, h1] : Nat) : Int), ((be [h2, h3] : Nat) : Int), r.take k, Aqb, cqb, 0, by rw [HKL.out], by rw [HKL.out]; exact qb, by rw [HKL.out]; exact fr_qb.mono qblo, bel, HP.out.symm⟩
set_option maxRecDepth 100000 in
set_option maxHeartbeats 16000000 in
theorem rudget_8 (tos id fl pt ttl : Int) (a0 a1 a2 a3 a4 a5 a6 a7 : UInt8) (So Sb : Option Addr) (no co nb cb : Nat) (h0 h1 h2 h3 h4 h5 h6 h7 : UInt8) (r : List UInt8) (ln sm : Nat) (w : World) (hb : Sl w Sb nb cb (h0 :: h1 :: h2 :: h3 :: h4 :: h5 :: h6 :: h7 :: r)) (hm : nb ≤ 80000) (hln : be [h4, h5] = ln) (hsm : be [h6, h7] = sm) (hw : (decide (pt = 0) && decide (fl % 2 = 0)) = true) (hx : ln ≤ nb) (hy : 8 ≤ ln) (hz : sm ≠ 0) (hc : ck (l4Ps a0 a1 a2 a3 a4 a5 a6 a7 17 (ln : Int) ++ (h0 :: h1 :: h2 :: h3 :: h4 :: h5 :: h6 :: h7 :: r).take ln) = 0) : Calls Try.prog 12 #[.agg #[.int .i64 tos, .int .i64 id, .int .i64 fl, .int .i64 pt, .int .i64 ttl, .int .i64 17, .int .u8 (a0.toNat : Int), .int .u8 (a1.toNat : Int), .int .u8 (a2.toNat : Int), .int .u8 (a3.toNat : Int), .int .u8 (a4.toNat : Int), .int .u8 (a5.toNat : Int), .int .u8 (a6.toNat : Int), .int .u8 (a7.toNat : Int), .slice So no co, .slice Sb nb cb]] w (UdPost (udGet fl pt 17 a0 a1 a2 a3 a4 a5 a6 a7 (h0 :: h1 :: h2 :: h3 :: h4 :: h5 :: h6 :: h7 :: r)) w) := by
  have HLN : Hid (be (List.take 2 (List.drop 4 (h0 :: h1 :: h2 :: h3 :: h4 :: h5 :: h6 :: h7 :: r))) = ln) := Lib.hid hln
  have HSM : Hid (be (List.take 2 (List.drop 6 (h0 :: h1 :: h2 :: h3 :: h4 :: h5 :: h6 :: h7 :: r))) = sm) := Lib.hid hsm
  have HM := Lib.hid hm
  have HW := Lib.hid hw
  have h8n : 8 ≤ nb := by have := hb.1; simp only [List.length_cons] at this; omega
  have H8 := Lib.hid h8n
  have tn : decide ((nb : Int) < 8) = false := decide_eq_false (by omega)
  clear h8n
  have t0 : decide (nb < ln) = false := decide_eq_false (by omega)
  have t1 : decide ((ln : Int) < 8) = false := decide_eq_false (by omega)
  have HX := Lib.hid hx
  have HY := Lib.hid hy
  obtain ⟨k, hk⟩ : ∃ k, ln = k + 8 := ⟨ln - 8, by omega⟩
  have hkr : k ≤ r.length := by have := hb.1; simp at this; omega
  have HP : Hid (udGet fl pt 17 a0 a1 a2 a3 a4 a5 a6 a7 (h0 :: h1 :: h2 :: h3 :: h4 :: h5 :: h6 :: h7 :: r) = ((((be [h0, h1] : Nat) : Int), ((be [h2, h3] : Nat) : Int)), r.take k, 0)) := Lib.hid (ud_ok (by rw [ud_at hln hsm hw, if_neg (by rw [hb.1]; omega), if_neg (by omega), if_neg fun h => h.2 hc]) hln hk)
  have HKR := Lib.hid hkr
  have HKL : Hid ((r.take k).length = k) := Lib.hid (by rw [List.length_take]; omega)
  have HK8 : Hid ((ln : Int) = ((8 : Nat) : Int) + (k : Int)) := Lib.hid (by omega)
  have HLK := Lib.hid hk
  clear hkr hk
  obtain ⟨cv, hcv⟩ : ∃ cv, Hid (ck (l4Ps a0 a1 a2 a3 a4 a5 a6 a7 17 (ln : Int) ++ (h0 :: h1 :: h2 :: h3 :: h4 :: h5 :: h6 :: h7 :: r).take ln) = cv) := ⟨_, Lib.hid rfl⟩
  rw [hcv.out] at hc
  have t4 : (cv == 0) = true := by simpa using hc
  have t5 : (cv != 0) = false := by simpa using hc
  have t2 : ((sm : Int) == 0) = false := by simpa using hz
  have t3 : ((sm : Int) != 0) = true := by simpa using hz
  clear hln hsm hm hw hx hy hz hc
  have bel := Below.refl w.heap.size w
  go_enter Try.func12, Try.ntmps12
  go_wp2_with (first | ((with_reducible show wpList _ _ _ (⟨some 1, _, _, _, _, _⟩ :: _) _ _); refine wpList_box_n rfl 39 (.tmp 0) rfl #[.int .i64 tos, .int .i64 id, .int .i64 fl, .int .i64 pt, .int .i64 ttl, .int .i64 17, .int .u8 (a0.toNat : Int), .int .u8 (a1.toNat : Int), .int .u8 (a2.toNat : Int), .int .u8 (a3.toNat : Int), .int .u8 (a4.toNat : Int), .int .u8 (a5.toNat : Int), .int .u8 (a6.toNat : Int), .int .u8 (a7.toNat : Int), .slice So no co, .slice Sb nb cb] rfl ?_; intro g1 w1 ge lt hh bb; have av_hb_p := hb.av_new ge; have op := Nat.le_trans bel.size ge; replace hb := hb.below bb; replace bel := bel.trans (bb.mono bel.size); have hp := hh; have zp := lt; clear hh lt ge bb) | ((with_reducible show wpList _ _ _ (⟨some 2, _, _, _, _, _⟩ :: _) _ _); refine wpList_new_n rfl 36 rfl (.agg #[.int .i64 0, .int .i64 0, .slice none 0 0]) (by kernel_rfl) #[.int .i64 0, .int .i64 0, .slice none 0 0] rfl ?_; intro g2 w2 ge lt hh bb; have d_p_z := ne_new zp ge; have av_hb_z := hb.av_new ge; have oz := Nat.le_trans bel.size ge; replace hp := blk_under hp bb zp; replace zp := Nat.lt_of_lt_of_le zp bb.size; replace hb := hb.below bb; replace bel := bel.trans (bb.mono bel.size); have hz := hh; have zz := lt; clear hh lt ge bb; have R7 := cell_lit hp 5 _ rfl; have R10 := Lib.hid (range_lit hp 0 16 [.int .i64 tos, .int .i64 id, .int .i64 fl, .int .i64 pt, .int .i64 ttl, .int .i64 17, .int .u8 (a0.toNat : Int), .int .u8 (a1.toNat : Int), .int .u8 (a2.toNat : Int), .int .u8 (a3.toNat : Int), .int .u8 (a4.toNat : Int), .int .u8 (a5.toNat : Int), .int .u8 (a6.toNat : Int), .int .u8 (a7.toNat : Int), .slice So no co, .slice Sb nb cb] rfl)) | ((with_reducible show wpList _ _ _ (⟨some 10, _, _, _, _, _⟩ :: _) _ _); refine wpList_load_rng 39 (.tmp 1) rfl (by kernel_rfl) _ _ rfl _ R10.out _ Try.underlying39 rfl (by kernel_rfl) ?_))
  try clear R7
  try clear R10
  with_reducible refine (rwhole_any _ _ _ _ _ _ _ _ _ _ _ _ _ _ _ _ _ _ _ _ _).mono ?_
  rintro e w3 ⟨rfl, b3⟩
  replace hp := blk_under hp b3 zp
  replace zp := Nat.lt_of_lt_of_le zp b3.size
  replace hz := blk_under hz b3 zz
  replace zz := Nat.lt_of_lt_of_le zz b3.size
  replace hb := hb.below b3
  replace bel := bel.trans (b3.mono bel.size)
  clear b3
  rw [HW.out]
  have R15 := cell_lit hp 15 _ rfl
  go_wp2_with fail
  clear R15
  with_reducible refine (at16_4 _ _ _ _ _ hb (by have := H8.out; omega)).mono ?_
  rintro e w4 ⟨rfl, b4⟩
  replace hp := blk_under hp b4 zp
  replace zp := Nat.lt_of_lt_of_le zp b4.size
  replace hz := blk_under hz b4 zz
  replace zz := Nat.lt_of_lt_of_le zz b4.size
  replace hb := hb.below b4
  replace bel := bel.trans (b4.mono bel.size)
  clear b4
  rw [HLN.out]
  go_wp2_with fail
  replace bel := bel.drew
  replace hp : w4.drew.heap[g1]? = _ := hp
  replace zp : _ < w4.drew.heap.size := zp
  replace hz : w4.drew.heap[g2]? = _ := hz
  replace zz : _ < w4.drew.heap.size := zz
  replace hb := hb.drew
  refine wp_region_held_drew (S := fun W => W.heap[g1]? = some (.cells #[.int .i64 tos, .int .i64 id, .int .i64 fl, .int .i64 pt, .int .i64 ttl, .int .i64 17, .int .u8 (a0.toNat : Int), .int .u8 (a1.toNat : Int), .int .u8 (a2.toNat : Int), .int .u8 (a3.toNat : Int), .int .u8 (a4.toNat : Int), .int .u8 (a5.toNat : Int), .int .u8 (a6.toNat : Int), .int .u8 (a7.toNat : Int), .slice So no co, .slice Sb nb cb] 39 (0, 0))) (by kernel_rfl) hp (fun hH => ?_)
  generalize w4.drew = w5 at bel hp zp hz zz hb hH ⊢
  refine wpAnyH_take (i := 0) (v := ?_) rfl (by kernel_rfl) (by kernel_rfl) (by kernel_rfl) (fun _ _ _ h => h) (Or.inl ⟨by rfl, ?_⟩) hH ?_
  rotate_left
  · ((intro W hW; clear hW; go_simp) <;> with_reducible rfl)
  simp only [Act.put, List.getElem_toArray, List.getElem_cons_zero, List.setIfInBounds_toArray, List.set_cons_zero, List.set_cons_succ]
  refine wpAnyH_ready (rs := [1]) (by kernel_rfl) (by simp) ?_
  refine AllReadyH.cons (o := _) rfl (fun K hK => ?_) AllReadyH.nil
  simp only [List.getElem_toArray, List.getElem_cons_zero, List.getElem_cons_succ]
  go_simp
  with_reducible refine (at16_6 _ _ _ _ _ hb (by have := H8.out; omega)).mono ?_
  rintro e w6 ⟨rfl, b6⟩
  dsimp only
  replace hp := blk_under hp b6 zp
  replace zp := Nat.lt_of_lt_of_le zp b6.size
  replace hz := blk_under hz b6 zz
  replace zz := Nat.lt_of_lt_of_le zz b6.size
  replace hb := hb.below b6
  replace bel := bel.trans (b6.mono bel.size)
  clear b6
  rw [HSM.out]
  refine hK.out _ _ hp (fun hH7 => ?_)
  clear hK K
  refine wpAnyH_take (i := 2) (v := ?_) rfl (by kernel_rfl) (by kernel_rfl) (by kernel_rfl) (fun _ _ _ h => h) (Or.inl ⟨by rfl, ?_⟩) hH7 ?_
  rotate_left
  · ((intro W hW; clear hW; go_simp) <;> with_reducible rfl)
  simp only [Act.put, List.getElem_toArray, List.getElem_cons_zero, List.getElem_cons_succ, List.setIfInBounds_toArray, List.set_cons_zero, List.set_cons_succ]
  refine wpAnyH_take (i := 3) (v := ?_) rfl (by kernel_rfl) (by kernel_rfl) (by kernel_rfl) (fun _ _ _ h => h) (Or.inl ⟨by rfl, ?_⟩) hH7 ?_
  rotate_left
  · ((intro W hW; clear hW; go_simp) <;> with_reducible rfl)
  simp only [Act.put, List.getElem_toArray, List.getElem_cons_zero, List.getElem_cons_succ, List.setIfInBounds_toArray, List.set_cons_zero, List.set_cons_succ]
  refine wpAnyH_take (i := 4) (v := .agg #[.int .i64 tos, .int .i64 id, .int .i64 fl, .int .i64 pt, .int .i64 ttl, .int .i64 17, .int .u8 (a0.toNat : Int), .int .u8 (a1.toNat : Int), .int .u8 (a2.toNat : Int), .int .u8 (a3.toNat : Int), .int .u8 (a4.toNat : Int), .int .u8 (a5.toNat : Int), .int .u8 (a6.toNat : Int), .int .u8 (a7.toNat : Int), .slice So no co, .slice Sb nb cb]) rfl (by kernel_rfl) (by kernel_rfl) (by kernel_rfl) (fun _ _ _ h => h) (yieldsIf_load_part (by kernel_rfl) 39 _ rfl g1 0 16 rfl [.int .i64 tos, .int .i64 id, .int .i64 fl, .int .i64 pt, .int .i64 ttl, .int .i64 17, .int .u8 (a0.toNat : Int), .int .u8 (a1.toNat : Int), .int .u8 (a2.toNat : Int), .int .u8 (a3.toNat : Int), .int .u8 (a4.toNat : Int), .int .u8 (a5.toNat : Int), .int .u8 (a6.toNat : Int), .int .u8 (a7.toNat : Int), .slice So no co, .slice Sb nb cb] 39 (0, 0) (fun W hW => hW) [.int .i64 tos, .int .i64 id, .int .i64 fl, .int .i64 pt, .int .i64 ttl, .int .i64 17, .int .u8 (a0.toNat : Int), .int .u8 (a1.toNat : Int), .int .u8 (a2.toNat : Int), .int .u8 (a3.toNat : Int), .int .u8 (a4.toNat : Int), .int .u8 (a5.toNat : Int), .int .u8 (a6.toNat : Int), .int .u8 (a7.toNat : Int), .slice So no co, .slice Sb nb cb] rfl _ Try.underlying39 rfl (by kernel_rfl)) hH7 ?_
  simp only [Act.put, List.getElem_toArray, List.getElem_cons_zero, List.getElem_cons_succ, List.setIfInBounds_toArray, List.set_cons_zero, List.set_cons_succ]
  refine wpAnyH_take (i := 5) (v := ?_) rfl (by kernel_rfl) (by kernel_rfl) (by kernel_rfl) (fun _ _ _ h => h) (Or.inl ⟨by rfl, ?_⟩) hH7 ?_
  rotate_left
  · ((intro W hW; clear hW; go_simp) <;> with_reducible rfl)
  simp only [Act.put, List.getElem_toArray, List.getElem_cons_zero, List.getElem_cons_succ, List.setIfInBounds_toArray, List.set_cons_zero, List.set_cons_succ]
  refine wpAnyH_take (i := 6) (v := ?_) rfl (by kernel_rfl) (by kernel_rfl) (by kernel_rfl) (fun _ _ _ h => h) (Or.inl ⟨by rfl, ?_⟩) hH7 ?_
  rotate_left
  · ((intro W hW; clear hW; go_simp) <;> with_reducible rfl)
  simp only [Act.put, List.getElem_toArray, List.getElem_cons_zero, List.getElem_cons_succ, List.setIfInBounds_toArray, List.set_cons_zero, List.set_cons_succ]
  obtain ⟨A37, c37, r37, f37, u37⟩ := piece_front hb (k := ln) HX.out
  have pc := f37 _ hb
  have av_pc_p := av_hb_p.sub u37
  have av_pc_z := av_hb_z.sub u37
  clear f37 u37
  refine wpAnyH_take (i := 7) (v := ?_) rfl (by kernel_rfl) (by kernel_rfl) (by kernel_rfl) (fun _ _ _ h => h) (Or.inl ⟨by rfl, ?_⟩) hH7 ?_
  rotate_left
  · ((intro W hW; clear hW; go_simp) <;> with_reducible rfl)
  simp only [Act.put, List.getElem_toArray, List.getElem_cons_zero, List.getElem_cons_succ, List.setIfInBounds_toArray, List.set_cons_zero, List.set_cons_succ]
  refine wpAnyH_ready (rs := [8]) (by kernel_rfl) (by simp) ?_
  refine AllReadyH.cons (o := _) rfl (fun K hK => ?_) AllReadyH.nil
  simp only [List.getElem_toArray, List.getElem_cons_zero, List.getElem_cons_succ]
  go_simp
  with_reducible refine (rsum_any _ _ _ _ _ 17 _ _ _ _ _ _ _ _ _ _ _ _ _ _ _ _ _ _ _ pc (by have := HX.out; have := HM.out; omega)).mono ?_
  rintro e w8 ⟨rfl, b8⟩
  dsimp only
  replace hp := blk_under hp b8 zp
  replace zp := Nat.lt_of_lt_of_le zp b8.size
  replace hz := blk_under hz b8 zz
  replace zz := Nat.lt_of_lt_of_le zz b8.size
  replace hb := hb.below b8
  replace pc := pc.below b8
  replace bel := bel.trans (b8.mono bel.size)
  clear b8
  rw [hcv.out]
  refine hK.out _ _ hp (fun hH9 => ?_)
  clear hK K
  refine wpAnyH_take (i := 9) (v := ?_) rfl (by kernel_rfl) (by kernel_rfl) (by kernel_rfl) (fun _ _ _ h => h) (Or.inl ⟨by rfl, ?_⟩) hH9 ?_
  rotate_left
  · ((intro W hW; clear hW; go_simp) <;> with_reducible rfl)
  simp only [Act.put, List.getElem_toArray, List.getElem_cons_zero, List.getElem_cons_succ, List.setIfInBounds_toArray, List.set_cons_zero, List.set_cons_succ]
  refine wpAnyH_take (i := 10) (v := ?_) rfl (by kernel_rfl) (by kernel_rfl) (by kernel_rfl) (fun _ _ _ h => h) (Or.inl ⟨by rfl, ?_⟩) hH9 ?_
  rotate_left
  · ((intro W hW; clear hW; go_simp) <;> with_reducible rfl)
  simp only [Act.put, List.getElem_toArray, List.getElem_cons_zero, List.getElem_cons_succ, List.setIfInBounds_toArray, List.set_cons_zero, List.set_cons_succ]
  refine wpAnyH_done (by kernel_rfl) ?_ _
  go_wp2_with fail
  replace bel := bel.drew
  replace hp : w8.drew.heap[g1]? = _ := hp
  replace zp : _ < w8.drew.heap.size := zp
  replace hz : w8.drew.heap[g2]? = _ := hz
  replace zz : _ < w8.drew.heap.size := zz
  replace hb := hb.drew
  replace pc := pc.drew
  refine wp_region_held_drew (S := fun _ => True) (by kernel_rfl) trivial (fun hH => ?_)
  generalize w8.drew = w10 at bel hp zp hz zz hb pc hH ⊢
  refine wpAnyH_take (i := 0) (v := ?_) rfl (by kernel_rfl) (by kernel_rfl) (by kernel_rfl) (fun _ _ _ h => h) (Or.inl ⟨by rfl, ?_⟩) hH ?_
  rotate_left
  · ((intro W hW; clear hW; go_simp) <;> with_reducible rfl)
  simp only [Act.put, List.getElem_toArray, List.getElem_cons_zero, List.setIfInBounds_toArray, List.set_cons_zero, List.set_cons_succ]
  refine wpAnyH_take (i := 2) (v := ?_) rfl (by kernel_rfl) (by kernel_rfl) (by kernel_rfl) (fun _ _ _ h => h) (Or.inl ⟨by rfl, ?_⟩) hH ?_
  rotate_left
  · ((intro W hW; clear hW; go_simp) <;> with_reducible rfl)
  simp only [Act.put, List.getElem_toArray, List.getElem_cons_zero, List.getElem_cons_succ, List.setIfInBounds_toArray, List.set_cons_zero, List.set_cons_succ]
  refine wpAnyH_take (i := 4) (v := ?_) rfl (by kernel_rfl) (by kernel_rfl) (by kernel_rfl) (fun _ _ _ h => h) (Or.inl ⟨by rfl, ?_⟩) hH ?_
  rotate_left
  · ((intro W hW; clear hW; go_simp) <;> with_reducible rfl)
  simp only [Act.put, List.getElem_toArray, List.getElem_cons_zero, List.getElem_cons_succ, List.setIfInBounds_toArray, List.set_cons_zero, List.set_cons_succ]
  refine wpAnyH_take (i := 5) (v := ?_) rfl (by kernel_rfl) (by kernel_rfl) (by kernel_rfl) (fun _ _ _ h => h) (Or.inl ⟨by rfl, ?_⟩) hH ?_
  rotate_left
  · ((intro W hW; clear hW; go_simp) <;> with_reducible rfl)
  simp only [Act.put, List.getElem_toArray, List.getElem_cons_zero, List.getElem_cons_succ, List.setIfInBounds_toArray, List.set_cons_zero, List.set_cons_succ]
  obtain ⟨Apm, cpm, r48, f48, u48⟩ := piece_mid hb (p := 8) (k := k) (by have := HX.out; have := HLK.out; omega)
  replace r48 : ∀ W, (Instr.slice 25 (.slice Sb nb cb) (some (.int .i64 8)) (some (.int .i64 (ln : Int))) none).run Try.prog W = .ok (.slice Apm k cpm) W := (by rw [HK8.out]; exact r48)
  have pm : Sl w10 Apm k cpm (List.take k r) := f48 _ hb
  have av_pm_p := av_hb_p.sub u48
  have av_pm_z := av_hb_z.sub u48
  clear f48 u48
  refine wpAnyH_take (i := 6) (v := ?_) rfl (by kernel_rfl) (by kernel_rfl) (by kernel_rfl) (fun _ _ _ h => h) (Or.inl ⟨by rfl, ?_⟩) hH ?_
  rotate_left
  · ((intro W hW; clear hW; go_simp) <;> with_reducible rfl)
  simp only [Act.put, List.getElem_toArray, List.getElem_cons_zero, List.getElem_cons_succ, List.setIfInBounds_toArray, List.set_cons_zero, List.set_cons_succ]
  refine wpAnyH_ready (rs := [1]) (by kernel_rfl) (by simp) ?_
  refine AllReadyH.cons (o := _) rfl (fun K hK => ?_) AllReadyH.nil
  simp only [List.getElem_toArray, List.getElem_cons_zero, List.getElem_cons_succ]
  go_simp
  with_reducible refine (at16_0 _ _ _ _ _ hb (by have := H8.out; omega)).mono ?_
  rintro e w11 ⟨rfl, b11⟩
  dsimp only
  replace hp := blk_under hp b11 zp
  replace zp := Nat.lt_of_lt_of_le zp b11.size
  replace hz := blk_under hz b11 zz
  replace zz := Nat.lt_of_lt_of_le zz b11.size
  replace hb := hb.below b11
  replace pc := pc.below b11
  replace pm := pm.below b11
  replace bel := bel.trans (b11.mono bel.size)
  clear b11
  rw [show be (List.take 2 (List.drop 0 (h0 :: h1 :: h2 :: h3 :: h4 :: h5 :: h6 :: h7 :: r))) = be [h0, h1] from rfl]
  refine hK.out _ _ trivial (fun hH12 => ?_)
  clear hK K
  refine wpAnyH_ready (rs := [3]) (by kernel_rfl) (by simp) ?_
  refine AllReadyH.cons (o := _) rfl (fun K hK => ?_) AllReadyH.nil
  simp only [List.getElem_toArray, List.getElem_cons_zero, List.getElem_cons_succ]
  go_simp
  with_reducible refine (at16_2 _ _ _ _ _ hb (by have := H8.out; omega)).mono ?_
  rintro e w13 ⟨rfl, b13⟩
  dsimp only
  replace hp := blk_under hp b13 zp
  replace zp := Nat.lt_of_lt_of_le zp b13.size
  replace hz := blk_under hz b13 zz
  replace zz := Nat.lt_of_lt_of_le zz b13.size
  replace hb := hb.below b13
  replace pc := pc.below b13
  replace pm := pm.below b13
  replace bel := bel.trans (b13.mono bel.size)
  clear b13
  rw [show be (List.take 2 (List.drop 2 (h0 :: h1 :: h2 :: h3 :: h4 :: h5 :: h6 :: h7 :: r))) = be [h2, h3] from rfl]
  refine hK.out _ _ trivial (fun hH14 => ?_)
  clear hK K
  refine wpAnyH_ready (rs := [7]) (by kernel_rfl) (by simp) ?_
  refine AllReadyH.cons (o := _) rfl (fun K hK => ?_) AllReadyH.nil
  simp only [List.getElem_toArray, List.getElem_cons_zero, List.getElem_cons_succ]
  go_simp
  with_reducible refine (rcopied_o _ _ _ _ _ pm (by have := HX.out; have := HLK.out; have := HM.out; omega)).mono ?_
  rintro e w15 ⟨v, rfl, qbw, b15⟩
  dsimp only
  have y_qb_p := Lib.hid zp
  have y_qb_z := Lib.hid zz
  have bl_hb_qb := hb.bl_new
  have bl_pc_qb := pc.bl_new
  have bl_pm_qb := pm.bl_new
  have qblo := bel.size
  have lz_qb := b15.size
  replace hp := blk_under hp b15 zp
  replace zp := Nat.lt_of_lt_of_le zp b15.size
  replace hz := blk_under hz b15 zz
  replace zz := Nat.lt_of_lt_of_le zz b15.size
  replace hb := hb.below b15
  replace pc := pc.below b15
  replace pm := pm.below b15
  replace bel := bel.trans (b15.mono bel.size)
  clear b15
  obtain ⟨Aqb, cqb, rfl⟩ := own_val qbw
  have qb := (own_sl qbw).1
  have fr_qb := (own_sl qbw).2
  have av_qb_p := fr_qb.av y_qb_p.out
  have av_qb_z := fr_qb.av y_qb_z.out
  refine hK.out _ _ trivial (fun hH16 => ?_)
  clear hK K
  refine wpAnyH_take (i := 8) (v := ?_) rfl (by kernel_rfl) (by kernel_rfl) (by kernel_rfl) (fun _ _ _ h => h) (Or.inl ⟨by rfl, ?_⟩) hH16 ?_
  rotate_left
  · ((intro W hW; clear hW; go_simp) <;> with_reducible rfl)
  simp only [Act.put, List.getElem_toArray, List.getElem_cons_zero, List.getElem_cons_succ, List.setIfInBounds_toArray, List.set_cons_zero, List.set_cons_succ]
  refine wpAnyH_ready (rs := [9]) (by kernel_rfl) (by simp) ?_
  refine AllReadyH.cons (o := _) rfl (fun K hK => ?_) AllReadyH.nil
  simp only [List.getElem_toArray, List.getElem_cons_zero, List.getElem_cons_succ]
  rw [if_pos (by rfl)]
  refine wp_store_blk 36 (.tmp 2) (.tmp 50) rfl g2 rfl #[.int .i64 ((be [h0, h1] : Nat) : Int), .int .i64 ((be [h2, h3] : Nat) : Int), .slice Aqb k cqb] rfl _ 36 hz (by rfl) (by kernel_rfl) (by kernel_rfl) ?_
  intro w17 hq gr
  replace hb := hb.away av_hb_z gr
  replace pc := pc.away av_pc_z gr
  replace pm := pm.away av_pm_z gr
  replace qb := qb.away av_qb_z gr
  replace qbw := own_away qbw y_qb_z.out gr
  replace lz_qb := Nat.le_trans lz_qb gr.size
  replace hp := blk_away hp gr zp d_p_z
  replace zp := Nat.lt_of_lt_of_le zp gr.size
  replace zz := Nat.lt_of_lt_of_le zz gr.size
  replace bel := below_grown bel gr oz bel.size
  clear hz
  have hz := hq
  clear hq gr
  refine hK.out _ _ trivial (fun hH18 => ?_)
  clear hK K
  refine wpAnyH_take (i := 10) (v := ?_) rfl (by kernel_rfl) (by kernel_rfl) (by kernel_rfl) (fun _ _ _ h => h) (Or.inl ⟨by rfl, ?_⟩) hH18 ?_
  rotate_left
  · ((intro W hW; clear hW; go_simp) <;> with_reducible rfl)
  simp only [Act.put, List.getElem_toArray, List.getElem_cons_zero, List.getElem_cons_succ, List.setIfInBounds_toArray, List.set_cons_zero, List.set_cons_succ]
  refine wpAnyH_done (by kernel_rfl) ?_ _
  go_wp2_with fail
  exact bodyPost_ret (results_cell_tmp_row rfl _ _ _ _ _ _ _ rfl hz Try.underlying36 rfl (by kernel_rfl) (.int .i64 0) rfl) rfl ⟨((be [h0, h1] : Nat) : Int), ((be [h2, h3] : Nat) : Int), r.take k, Aqb, cqb, 0, by rw [HKL.out], by rw [HKL.out]; exact qb, by rw [HKL.out]; exact fr_qb.mono qblo, bel, HP.out.symm⟩
theorem rudget_any (tos id fl pt ttl pr : Int) (a0 a1 a2 a3 a4 a5 a6 a7 : UInt8) (So Sb : Option Addr) (no co nb cb : Nat) (lb : List UInt8) (w : World) (hb : Sl w Sb nb cb lb) (hm : nb ≤ 80000) : Calls Try.prog 12 #[.agg #[.int .i64 tos, .int .i64 id, .int .i64 fl, .int .i64 pt, .int .i64 ttl, .int .i64 pr, .int .u8 (a0.toNat : Int), .int .u8 (a1.toNat : Int), .int .u8 (a2.toNat : Int), .int .u8 (a3.toNat : Int), .int .u8 (a4.toNat : Int), .int .u8 (a5.toNat : Int), .int .u8 (a6.toNat : Int), .int .u8 (a7.toNat : Int), .slice So no co, .slice Sb nb cb]] w (UdPost (udGet fl pt pr a0 a1 a2 a3 a4 a5 a6 a7 lb) w) := by
  by_cases hp : pr = 17
  · subst hp
    rcases (by decide : ∀ b : Bool, b = true ∨ b = false) (decide (pt = 0) && decide (fl % 2 = 0)) with hw | hw
    · by_cases hn : nb < 8
      · exact rudget_3 tos id fl pt ttl a0 a1 a2 a3 a4 a5 a6 a7 So Sb no co nb cb lb w hb hw hn
      · obtain ⟨h0, h1, h2, h3, h4, h5, h6, h7, r, rfl⟩ := list8 lb (by rw [hb.1]; omega)
        by_cases hx : be [h4, h5] ≤ nb
        · by_cases hy : 8 ≤ be [h4, h5]
          · by_cases hz : be [h6, h7] = 0
            · exact rudget_7 tos id fl pt ttl a0 a1 a2 a3 a4 a5 a6 a7 So Sb no co nb cb h0 h1 h2 h3 h4 h5 h6 h7 r _ _ w hb hm rfl rfl hw hx hy hz
            · by_cases hc : ck (l4Ps a0 a1 a2 a3 a4 a5 a6 a7 17 (be [h4, h5] : Nat) ++ (h0 :: h1 :: h2 :: h3 :: h4 :: h5 :: h6 :: h7 :: r).take (be [h4, h5])) = 0
              · exact rudget_8 tos id fl pt ttl a0 a1 a2 a3 a4 a5 a6 a7 So Sb no co nb cb h0 h1 h2 h3 h4 h5 h6 h7 r _ _ w hb hm rfl rfl hw hx hy hz hc
              · exact rudget_6 tos id fl pt ttl a0 a1 a2 a3 a4 a5 a6 a7 So Sb no co nb cb h0 h1 h2 h3 h4 h5 h6 h7 r _ _ w hb hm rfl rfl hw hx hy hz hc
          · exact rudget_5 tos id fl pt ttl a0 a1 a2 a3 a4 a5 a6 a7 So Sb no co nb cb h0 h1 h2 h3 h4 h5 h6 h7 r _ _ w hb hm rfl rfl hw hx (by omega)
        · exact rudget_4 tos id fl pt ttl a0 a1 a2 a3 a4 a5 a6 a7 So Sb no co nb cb h0 h1 h2 h3 h4 h5 h6 h7 r _ _ w hb hm rfl rfl hw (by omega)
    · exact rudget_2 tos id fl pt ttl a0 a1 a2 a3 a4 a5 a6 a7 So Sb no co nb cb lb w hw
  · exact rudget_1 tos id fl pt ttl pr a0 a1 a2 a3 a4 a5 a6 a7 So Sb no co nb cb lb w hp
end Go.Proofs.Ythikedajhocdkaa
