/- Layer 9: icmp's Get. -/
import Derived.Test.YtfmllopeeiecjaaIc1
namespace Go.Proofs.Ytfmllopeeiecjaa
open Go.RowKit

set_option linter.unusedVariables false in
set_option maxRecDepth 100000 in
set_option maxHeartbeats 16000000 in
theorem icget_1 (tos id fl pt ttl pr : Int) (a0 a1 a2 a3 a4 a5 a6 a7 : UInt8) (So Sb : Option Addr) (no co nb cb : Nat) (lb : List UInt8) (w : World) (hp : pr ≠ 1) : Calls Try.prog 15 #[.agg #[.int .i64 tos, .int .i64 id, .int .i64 fl, .int .i64 pt, .int .i64 ttl, .int .i64 pr, .int .u8 (a0.toNat : Int), .int .u8 (a1.toNat : Int), .int .u8 (a2.toNat : Int), .int .u8 (a3.toNat : Int), .int .u8 (a4.toNat : Int), .int .u8 (a5.toNat : Int), .int .u8 (a6.toNat : Int), .int .u8 (a7.toNat : Int), .slice So no co, .slice Sb nb cb]] w (MsPost (icGet fl pt pr (lb)) w) := by
  have HP : Hid (icGet fl pt pr (lb) = msNone 1) := Lib.hid (ic_err (by exact if_pos hp) (by decide))
  have t0 : (pr == 1) = false := by simpa using hp
  have t1 : (pr != 1) = true := by simpa using hp
  clear hp
  have bel := Below.refl w.heap.size w
  go_enter Try.func15, Try.ntmps15
  go_wp2_with (first | ((with_reducible show wpList _ _ _ (⟨some 1, _, _, _, _, _⟩ :: _) _ _); refine wpList_box_n rfl 27 (.tmp 0) rfl #[.int .i64 tos, .int .i64 id, .int .i64 fl, .int .i64 pt, .int .i64 ttl, .int .i64 pr, .int .u8 (a0.toNat : Int), .int .u8 (a1.toNat : Int), .int .u8 (a2.toNat : Int), .int .u8 (a3.toNat : Int), .int .u8 (a4.toNat : Int), .int .u8 (a5.toNat : Int), .int .u8 (a6.toNat : Int), .int .u8 (a7.toNat : Int), .slice So no co, .slice Sb nb cb] rfl ?_; intro g1 w1 ge lt hh bb; have op := Nat.le_trans bel.size ge; replace bel := bel.trans (bb.mono bel.size); have hp := hh; clear hh lt ge bb) | ((with_reducible show wpList _ _ _ (⟨some 2, _, _, _, _, _⟩ :: _) _ _); refine wpList_new_a rfl 34 rfl #[.int .i64 0, .int .i64 0, .int .u32 0, .slice none 0 0] (by kernel_rfl) ?_; intro g2 w2 ge hh bb; have d_p_z := ne_new (hlt hp) ge; have oz := Nat.le_trans bel.size ge; replace hp := blk_u hp bb; replace bel := bel.trans (bb.mono bel.size); have hz := hh; clear hh ge bb; have R7 := cell_lit hp 5 _ rfl) | ((with_reducible show wpList _ _ _ (⟨none, Op.store _ (.tmp 2) _, _, _, _, _⟩ :: _) _ _); refine wpList_store_blk rfl 34 (.tmp 2) (.tmp 9) rfl g2 rfl _ rfl _ 34 hz (by rfl) (by kernel_rfl) (by kernel_rfl) ?_; intro w3 hq gr; replace hp := blk_a hp gr d_p_z; replace bel := below_grown bel gr oz bel.size; clear hz; have hz := hq; clear hq gr))
  try clear R7
  exact bodyPost_ret (results_cell_tmp_row rfl _ _ _ _ _ _ _ rfl hz Try.underlying34 rfl (by kernel_rfl) (.int .i64 1) rfl) rfl (MsPost.none HP.out.symm bel)
set_option linter.unusedVariables false in
set_option maxRecDepth 100000 in
set_option maxHeartbeats 16000000 in
theorem icget_2 (tos id fl pt ttl : Int) (a0 a1 a2 a3 a4 a5 a6 a7 : UInt8) (So Sb : Option Addr) (no co nb cb : Nat) (lb : List UInt8) (w : World) (hw : (decide (pt = 0) && decide (fl % 2 = 0)) = false) : Calls Try.prog 15 #[.agg #[.int .i64 tos, .int .i64 id, .int .i64 fl, .int .i64 pt, .int .i64 ttl, .int .i64 1, .int .u8 (a0.toNat : Int), .int .u8 (a1.toNat : Int), .int .u8 (a2.toNat : Int), .int .u8 (a3.toNat : Int), .int .u8 (a4.toNat : Int), .int .u8 (a5.toNat : Int), .int .u8 (a6.toNat : Int), .int .u8 (a7.toNat : Int), .slice So no co, .slice Sb nb cb]] w (MsPost (icGet fl pt 1 (lb)) w) := by
  have HP : Hid (icGet fl pt 1 (lb) = msNone 10) := Lib.hid (ic_err (by unfold icErr; rw [if_neg (by decide), if_pos (by simpa using hw)]) (by decide))
  have HW := Lib.hid hw
  clear hw
  have bel := Below.refl w.heap.size w
  go_enter Try.func15, Try.ntmps15
  go_wp2_with (first | ((with_reducible show wpList _ _ _ (⟨some 1, _, _, _, _, _⟩ :: _) _ _); refine wpList_box_n rfl 27 (.tmp 0) rfl #[.int .i64 tos, .int .i64 id, .int .i64 fl, .int .i64 pt, .int .i64 ttl, .int .i64 1, .int .u8 (a0.toNat : Int), .int .u8 (a1.toNat : Int), .int .u8 (a2.toNat : Int), .int .u8 (a3.toNat : Int), .int .u8 (a4.toNat : Int), .int .u8 (a5.toNat : Int), .int .u8 (a6.toNat : Int), .int .u8 (a7.toNat : Int), .slice So no co, .slice Sb nb cb] rfl ?_; intro g1 w1 ge lt hh bb; have op := Nat.le_trans bel.size ge; replace bel := bel.trans (bb.mono bel.size); have hp := hh; clear hh lt ge bb) | ((with_reducible show wpList _ _ _ (⟨some 2, _, _, _, _, _⟩ :: _) _ _); refine wpList_new_a rfl 34 rfl #[.int .i64 0, .int .i64 0, .int .u32 0, .slice none 0 0] (by kernel_rfl) ?_; intro g2 w2 ge hh bb; have d_p_z := ne_new (hlt hp) ge; have oz := Nat.le_trans bel.size ge; replace hp := blk_u hp bb; replace bel := bel.trans (bb.mono bel.size); have hz := hh; clear hh ge bb; have R7 := cell_lit hp 5 _ rfl; have R10 := Lib.hid (range_lit hp 0 16 [.int .i64 tos, .int .i64 id, .int .i64 fl, .int .i64 pt, .int .i64 ttl, .int .i64 1, .int .u8 (a0.toNat : Int), .int .u8 (a1.toNat : Int), .int .u8 (a2.toNat : Int), .int .u8 (a3.toNat : Int), .int .u8 (a4.toNat : Int), .int .u8 (a5.toNat : Int), .int .u8 (a6.toNat : Int), .int .u8 (a7.toNat : Int), .slice So no co, .slice Sb nb cb] rfl)) | ((with_reducible show wpList _ _ _ (⟨some 10, _, _, _, _, _⟩ :: _) _ _); refine wpList_load_rng 27 (.tmp 1) rfl (by kernel_rfl) _ _ rfl _ R10.out _ Try.underlying27 rfl (by kernel_rfl) ?_))
  try clear R7
  try clear R10
  with_reducible refine (ipwhole_any _ _ _ _ _ _ _ _ _ _ _ _ _ _ _ _ _ _ _ _ _).mono ?_
  rintro e w3 ⟨rfl, b3⟩
  replace hp := blk_u hp b3
  replace hz := blk_u hz b3
  replace bel := bel.trans (b3.mono bel.size)
  clear b3
  rw [HW.out]
  go_wp2_with (first | ((with_reducible show wpList _ _ _ (⟨none, Op.store _ (.tmp 2) _, _, _, _, _⟩ :: _) _ _); refine wpList_store_blk rfl 34 (.tmp 2) (.tmp 13) rfl g2 rfl _ rfl _ 34 hz (by rfl) (by kernel_rfl) (by kernel_rfl) ?_; intro w4 hq gr; replace hp := blk_a hp gr d_p_z; replace bel := below_grown bel gr oz bel.size; clear hz; have hz := hq; clear hq gr))
  exact bodyPost_ret (results_cell_tmp_row rfl _ _ _ _ _ _ _ rfl hz Try.underlying34 rfl (by kernel_rfl) (.int .i64 10) rfl) rfl (MsPost.none HP.out.symm bel)
set_option linter.unusedVariables false in
set_option maxRecDepth 100000 in
set_option maxHeartbeats 16000000 in
theorem icget_3 (tos id fl pt ttl : Int) (a0 a1 a2 a3 a4 a5 a6 a7 : UInt8) (So Sb : Option Addr) (no co nb cb : Nat) (lb : List UInt8) (w : World) (hb : Sl w Sb nb cb lb) (hw : (decide (pt = 0) && decide (fl % 2 = 0)) = true) (hn : nb < 8) : Calls Try.prog 15 #[.agg #[.int .i64 tos, .int .i64 id, .int .i64 fl, .int .i64 pt, .int .i64 ttl, .int .i64 1, .int .u8 (a0.toNat : Int), .int .u8 (a1.toNat : Int), .int .u8 (a2.toNat : Int), .int .u8 (a3.toNat : Int), .int .u8 (a4.toNat : Int), .int .u8 (a5.toNat : Int), .int .u8 (a6.toNat : Int), .int .u8 (a7.toNat : Int), .slice So no co, .slice Sb nb cb]] w (MsPost (icGet fl pt 1 (lb)) w) := by
  have HP : Hid (icGet fl pt 1 (lb) = msNone 3) := Lib.hid (ic_err (by unfold icErr; rw [if_neg (by decide), if_neg (by simpa using hw), if_pos (by rw [hb.1]; exact hn)]) (by decide))
  have HW := Lib.hid hw
  have HN := Lib.hid hn
  have HL := Lib.hid hb.1
  clear hw hn
  have bel := Below.refl w.heap.size w
  go_enter Try.func15, Try.ntmps15
  go_wp2_with (first | ((with_reducible show wpList _ _ _ (⟨some 1, _, _, _, _, _⟩ :: _) _ _); refine wpList_box_n rfl 27 (.tmp 0) rfl #[.int .i64 tos, .int .i64 id, .int .i64 fl, .int .i64 pt, .int .i64 ttl, .int .i64 1, .int .u8 (a0.toNat : Int), .int .u8 (a1.toNat : Int), .int .u8 (a2.toNat : Int), .int .u8 (a3.toNat : Int), .int .u8 (a4.toNat : Int), .int .u8 (a5.toNat : Int), .int .u8 (a6.toNat : Int), .int .u8 (a7.toNat : Int), .slice So no co, .slice Sb nb cb] rfl ?_; intro g1 w1 ge lt hh bb; have av_hb_p := hb.av_new ge; have op := Nat.le_trans bel.size ge; replace hb := hb.below bb; replace bel := bel.trans (bb.mono bel.size); have hp := hh; clear hh lt ge bb) | ((with_reducible show wpList _ _ _ (⟨some 2, _, _, _, _, _⟩ :: _) _ _); refine wpList_new_a rfl 34 rfl #[.int .i64 0, .int .i64 0, .int .u32 0, .slice none 0 0] (by kernel_rfl) ?_; intro g2 w2 ge hh bb; have d_p_z := ne_new (hlt hp) ge; have av_hb_z := hb.av_new ge; have oz := Nat.le_trans bel.size ge; replace hp := blk_u hp bb; replace hb := hb.below bb; replace bel := bel.trans (bb.mono bel.size); have hz := hh; clear hh ge bb; have R7 := cell_lit hp 5 _ rfl; have R10 := Lib.hid (range_lit hp 0 16 [.int .i64 tos, .int .i64 id, .int .i64 fl, .int .i64 pt, .int .i64 ttl, .int .i64 1, .int .u8 (a0.toNat : Int), .int .u8 (a1.toNat : Int), .int .u8 (a2.toNat : Int), .int .u8 (a3.toNat : Int), .int .u8 (a4.toNat : Int), .int .u8 (a5.toNat : Int), .int .u8 (a6.toNat : Int), .int .u8 (a7.toNat : Int), .slice So no co, .slice Sb nb cb] rfl)) | ((with_reducible show wpList _ _ _ (⟨some 10, _, _, _, _, _⟩ :: _) _ _); refine wpList_load_rng 27 (.tmp 1) rfl (by kernel_rfl) _ _ rfl _ R10.out _ Try.underlying27 rfl (by kernel_rfl) ?_))
  try clear R7
  try clear R10
  with_reducible refine (ipwhole_any _ _ _ _ _ _ _ _ _ _ _ _ _ _ _ _ _ _ _ _ _).mono ?_
  rintro e w3 ⟨rfl, b3⟩
  replace hp := blk_u hp b3
  replace hz := blk_u hz b3
  replace hb := hb.below b3
  replace bel := bel.trans (b3.mono bel.size)
  clear b3
  rw [HW.out]
  have R15 := cell_lit hp 15 _ rfl
  go_wp2_with fail
  clear R15
  with_reducible refine (rd_read _ _ _ _ _ hb (by have := HN.out; omega)).mono ?_
  rintro e w4 ⟨gr, Ar3, cr3, rfl, ge, hh, rest, frr, avr, b4⟩
  have av_rest_p := frr.av (hlt hp)
  have av_rest_z := frr.av (hlt hz)
  have d_p_r := ne_new (hlt hp) ge
  have d_z_r := ne_new (hlt hz) ge
  have av_hb_r := hb.av_new ge
  have or := Nat.le_trans bel.size ge
  replace hp := blk_u hp b4
  replace hz := blk_u hz b4
  replace hb := hb.below b4
  replace bel := bel.trans (b4.mono bel.size)
  have hr := hh
  clear hh ge b4
  replace rest : Sl w4 (Ar3) (nb) (cr3) (lb) := rest
  go_wp2_with fail
  with_reducible refine (rd_u8e _ _ _ _ _ _ _ hr rest).mono ?_
  rintro e w5 ⟨A4, n4, c4, x1, s1, es1, xb1, rfl, hq, sq, uq, b5⟩
  replace hb := hb.away av_hb_r b5
  replace hp := blk_a hp b5 d_p_r
  replace hz := blk_a hz b5 d_z_r
  replace bel := below_grown bel b5 or bel.size
  clear b5
  clear hr rest
  have hr := hq
  have rest := sq
  clear hq sq
  have av4_rest_p := av_rest_p.sub uq
  have av4_rest_z := av_rest_z.sub uq
  have av4_rest_r := avr.sub uq
  clear uq
  go_wp2_with fail
  with_reducible refine (rd_u8e _ _ _ _ _ _ _ hr rest).mono ?_
  rintro e w6 ⟨A5, n5, c5, x2, s2, es2, xb2, rfl, hq, sq, uq, b6⟩
  replace hb := hb.away av_hb_r b6
  replace hp := blk_a hp b6 d_p_r
  replace hz := blk_a hz b6 d_z_r
  replace bel := below_grown bel b6 or bel.size
  clear b6
  clear hr rest
  have hr := hq
  have rest := sq
  clear hq sq
  have av5_rest_p := av4_rest_p.sub uq
  have av5_rest_z := av4_rest_z.sub uq
  have av5_rest_r := av4_rest_r.sub uq
  clear uq
  go_wp2_with (first | ((with_reducible show wpList _ _ _ (⟨some 5, _, _, _, _, _⟩ :: _) _ _); refine wpList_new_a rfl 34 rfl #[.int .i64 0, .int .i64 0, .int .u32 0, .slice none 0 0] (by kernel_rfl) ?_; intro g5 w7 ge hh bb; have d_p_d := ne_new (hlt hp) ge; have d_z_d := ne_new (hlt hz) ge; have d_r_d := ne_new (hlt hr) ge; have av_hb_d := hb.av_new ge; have av_rest_d := rest.av_new ge; have od := Nat.le_trans bel.size ge; replace hp := blk_u hp bb; replace hz := blk_u hz bb; replace hr := blk_u hr bb; replace hb := hb.below bb; replace rest := rest.below bb; replace bel := bel.trans (bb.mono bel.size); have hd := hh; clear hh ge bb) | ((with_reducible show wpList _ _ _ (⟨none, Op.store _ (.tmp 5) _, _, _, _, _⟩ :: _) _ _); refine wpList_store_blk rfl 34 (.tmp 5) (.tmp 21) rfl g5 rfl _ rfl _ 34 hd (by rfl) (by kernel_rfl) (by kernel_rfl) ?_; intro w8 hq gr; replace hb := hb.away av_hb_d gr; replace rest := rest.away av_rest_d gr; replace hp := blk_a hp gr d_p_d; replace hz := blk_a hz gr d_z_d; replace hr := blk_a hr gr d_r_d; replace bel := below_grown bel gr od bel.size; clear hd; have hd := hq; clear hq gr))
  with_reducible refine (rd_u16e _ _ _ _ _ _ _ hr rest).mono ?_
  rintro e w9 ⟨A8, n8, c8, x3, s3, es3, rfl, hq, sq, uq, b9⟩
  replace hb := hb.away av_hb_r b9
  replace hp := blk_a hp b9 d_p_r
  replace hz := blk_a hz b9 d_z_r
  replace hd := blk_a hd b9 (ne_symm d_r_d)
  replace bel := below_grown bel b9 or bel.size
  clear b9
  clear hr rest
  have hr := hq
  have rest := sq
  clear hq sq
  have av8_rest_p := av5_rest_p.sub uq
  have av8_rest_z := av5_rest_z.sub uq
  have av8_rest_r := av5_rest_r.sub uq
  have av8_rest_d := av_rest_d.sub uq
  clear uq
  go_wp2_with fail
  with_reducible refine (rd_u32e _ _ _ _ _ _ _ hr rest).mono ?_
  rintro e w10 ⟨A9, n9, c9, x4, s4, es4, rfl, hq, sq, uq, b10⟩
  replace hb := hb.away av_hb_r b10
  replace hp := blk_a hp b10 d_p_r
  replace hz := blk_a hz b10 d_z_r
  replace hd := blk_a hd b10 (ne_symm d_r_d)
  replace bel := below_grown bel b10 or bel.size
  clear b10
  clear hr rest
  have hr := hq
  have rest := sq
  clear hq sq
  have av9_rest_p := av8_rest_p.sub uq
  have av9_rest_z := av8_rest_z.sub uq
  have av9_rest_r := av8_rest_r.sub uq
  have av9_rest_d := av8_rest_d.sub uq
  clear uq
  go_wp2_with (first | ((with_reducible show wpList _ _ _ (⟨none, Op.store _ (.tmp 26) _, _, _, _, _⟩ :: _) _ _); refine wpList_store_part rfl 32 (.tmp 26) (.tmp 25) rfl g5 2 rfl [.int .u32 (x4 : Int)] rfl [.int .i64 (x1 : Int), .int .i64 (x2 : Int), .int .u32 0, .slice none 0 0] 34 hd (by simp) [.int .i64 (x1 : Int), .int .i64 (x2 : Int), .int .u32 (x4 : Int), .slice none 0 0] rfl (by kernel_rfl) (by rfl) ?_; intro w11 hq gr; replace hb := hb.away av_hb_d gr; replace rest := rest.away av9_rest_d gr; replace hp := blk_a hp gr d_p_d; replace hz := blk_a hz gr d_z_d; replace hr := blk_a hr gr d_r_d; replace bel := below_grown bel gr od bel.size; clear hd; have hd := hq; clear hq gr))
  with_reducible refine (rd_short _ _ _ _ _ _ _ hr rest).mono ?_
  rintro e _ ⟨rfl, rfl⟩
  obtain rfl : s4 = true := by rw [es4.out, decide_eq_true (by have := HL.out; have := HN.out; simp only [List.length_drop]; omega), Bool.or_true]
  go_wp2_with (first | ((with_reducible show wpList _ _ _ (⟨none, Op.store _ (.tmp 2) _, _, _, _, _⟩ :: _) _ _); refine wpList_store_blk rfl 34 (.tmp 2) (.tmp 29) rfl g2 rfl _ rfl _ 34 hz (by rfl) (by kernel_rfl) (by kernel_rfl) ?_; intro w12 hq gr; replace hb := hb.away av_hb_z gr; replace rest := rest.away av9_rest_z gr; replace hp := blk_a hp gr d_p_z; replace hr := blk_a hr gr (ne_symm d_z_r); replace hd := blk_a hd gr (ne_symm d_z_d); replace bel := below_grown bel gr oz bel.size; clear hz; have hz := hq; clear hq gr))
  exact bodyPost_ret (results_cell_tmp_row rfl _ _ _ _ _ _ _ rfl hz Try.underlying34 rfl (by kernel_rfl) (.int .i64 3) rfl) rfl (MsPost.none HP.out.symm bel)
set_option linter.unusedVariables false in
set_option maxRecDepth 100000 in
set_option maxHeartbeats 16000000 in
theorem icget_4 (tos id fl pt ttl : Int) (a0 a1 a2 a3 a4 a5 a6 a7 : UInt8) (So Sb : Option Addr) (no co nb cb : Nat) (h0 h1 h2 h3 h4 h5 h6 h7 : UInt8) (r : List UInt8) (w : World) (hb : Sl w Sb nb cb (h0 :: h1 :: h2 :: h3 :: h4 :: h5 :: h6 :: h7 :: r)) (hm : nb ≤ 100000) (hw : (decide (pt = 0) && decide (fl % 2 = 0)) = true) (hc : ck (h0 :: h1 :: h2 :: h3 :: h4 :: h5 :: h6 :: h7 :: r) ≠ 0) : Calls Try.prog 15 #[.agg #[.int .i64 tos, .int .i64 id, .int .i64 fl, .int .i64 pt, .int .i64 ttl, .int .i64 1, .int .u8 (a0.toNat : Int), .int .u8 (a1.toNat : Int), .int .u8 (a2.toNat : Int), .int .u8 (a3.toNat : Int), .int .u8 (a4.toNat : Int), .int .u8 (a5.toNat : Int), .int .u8 (a6.toNat : Int), .int .u8 (a7.toNat : Int), .slice So no co, .slice Sb nb cb]] w (MsPost (icGet fl pt 1 (h0 :: h1 :: h2 :: h3 :: h4 :: h5 :: h6 :: h7 :: r)) w) := by
  have HP : Hid (icGet fl pt 1 (h0 :: h1 :: h2 :: h3 :: h4 :: h5 :: h6 :: h7 :: r) = msNone 5) := Lib.hid (ic_err (by rw [ic_at (by simp) hw, if_pos hc]) (by decide))
  have HM := Lib.hid hm
  have HW := Lib.hid hw
  have HL := Lib.hid hb.1
  clear hm hw
  have HC : Hid (decide (ck (h0 :: h1 :: h2 :: h3 :: h4 :: h5 :: h6 :: h7 :: r) = 0) = false) := Lib.hid (decide_eq_false hc)
  clear hc
  have bel := Below.refl w.heap.size w
  go_enter Try.func15, Try.ntmps15
  go_wp2_with (first | ((with_reducible show wpList _ _ _ (⟨some 1, _, _, _, _, _⟩ :: _) _ _); refine wpList_box_n rfl 27 (.tmp 0) rfl #[.int .i64 tos, .int .i64 id, .int .i64 fl, .int .i64 pt, .int .i64 ttl, .int .i64 1, .int .u8 (a0.toNat : Int), .int .u8 (a1.toNat : Int), .int .u8 (a2.toNat : Int), .int .u8 (a3.toNat : Int), .int .u8 (a4.toNat : Int), .int .u8 (a5.toNat : Int), .int .u8 (a6.toNat : Int), .int .u8 (a7.toNat : Int), .slice So no co, .slice Sb nb cb] rfl ?_; intro g1 w1 ge lt hh bb; have av_hb_p := hb.av_new ge; have op := Nat.le_trans bel.size ge; replace hb := hb.below bb; replace bel := bel.trans (bb.mono bel.size); have hp := hh; clear hh lt ge bb) | ((with_reducible show wpList _ _ _ (⟨some 2, _, _, _, _, _⟩ :: _) _ _); refine wpList_new_a rfl 34 rfl #[.int .i64 0, .int .i64 0, .int .u32 0, .slice none 0 0] (by kernel_rfl) ?_; intro g2 w2 ge hh bb; have d_p_z := ne_new (hlt hp) ge; have av_hb_z := hb.av_new ge; have oz := Nat.le_trans bel.size ge; replace hp := blk_u hp bb; replace hb := hb.below bb; replace bel := bel.trans (bb.mono bel.size); have hz := hh; clear hh ge bb; have R7 := cell_lit hp 5 _ rfl; have R10 := Lib.hid (range_lit hp 0 16 [.int .i64 tos, .int .i64 id, .int .i64 fl, .int .i64 pt, .int .i64 ttl, .int .i64 1, .int .u8 (a0.toNat : Int), .int .u8 (a1.toNat : Int), .int .u8 (a2.toNat : Int), .int .u8 (a3.toNat : Int), .int .u8 (a4.toNat : Int), .int .u8 (a5.toNat : Int), .int .u8 (a6.toNat : Int), .int .u8 (a7.toNat : Int), .slice So no co, .slice Sb nb cb] rfl)) | ((with_reducible show wpList _ _ _ (⟨some 10, _, _, _, _, _⟩ :: _) _ _); refine wpList_load_rng 27 (.tmp 1) rfl (by kernel_rfl) _ _ rfl _ R10.out _ Try.underlying27 rfl (by kernel_rfl) ?_))
  try clear R7
  try clear R10
  with_reducible refine (ipwhole_any _ _ _ _ _ _ _ _ _ _ _ _ _ _ _ _ _ _ _ _ _).mono ?_
  rintro e w3 ⟨rfl, b3⟩
  replace hp := blk_u hp b3
  replace hz := blk_u hz b3
  replace hb := hb.below b3
  replace bel := bel.trans (b3.mono bel.size)
  clear b3
  rw [HW.out]
  have R15 := cell_lit hp 15 _ rfl
  go_wp2_with fail
  clear R15
  with_reducible refine (rd_read _ _ _ _ _ hb (by have := HM.out; omega)).mono ?_
  rintro e w4 ⟨gr, Ar3, cr3, rfl, ge, hh, rest, frr, avr, b4⟩
  have av_rest_p := frr.av (hlt hp)
  have av_rest_z := frr.av (hlt hz)
  have d_p_r := ne_new (hlt hp) ge
  have d_z_r := ne_new (hlt hz) ge
  have av_hb_r := hb.av_new ge
  have or := Nat.le_trans bel.size ge
  replace hp := blk_u hp b4
  replace hz := blk_u hz b4
  replace hb := hb.below b4
  replace bel := bel.trans (b4.mono bel.size)
  have hr := hh
  clear hh ge b4
  replace rest : Sl w4 (Ar3) (nb) (cr3) (h0 :: h1 :: h2 :: h3 :: h4 :: h5 :: h6 :: h7 :: r) := rest
  go_wp2_with fail
  with_reducible refine (rd_u8c _ _ _ _ _ _ _ _ hr rest).mono ?_
  rintro e w5 ⟨A4, n4, c4, rfl, hq, sq, uq, b5⟩
  replace hb := hb.away av_hb_r b5
  replace hp := blk_a hp b5 d_p_r
  replace hz := blk_a hz b5 d_z_r
  replace bel := below_grown bel b5 or bel.size
  clear b5
  clear hr rest
  have hr := hq
  have rest := sq
  clear hq sq
  have av4_rest_p := av_rest_p.sub uq
  have av4_rest_z := av_rest_z.sub uq
  have av4_rest_r := avr.sub uq
  clear uq
  go_wp2_with fail
  with_reducible refine (rd_u8c _ _ _ _ _ _ _ _ hr rest).mono ?_
  rintro e w6 ⟨A5, n5, c5, rfl, hq, sq, uq, b6⟩
  replace hb := hb.away av_hb_r b6
  replace hp := blk_a hp b6 d_p_r
  replace hz := blk_a hz b6 d_z_r
  replace bel := below_grown bel b6 or bel.size
  clear b6
  clear hr rest
  have hr := hq
  have rest := sq
  clear hq sq
  have av5_rest_p := av4_rest_p.sub uq
  have av5_rest_z := av4_rest_z.sub uq
  have av5_rest_r := av4_rest_r.sub uq
  clear uq
  go_wp2_with (first | ((with_reducible show wpList _ _ _ (⟨some 5, _, _, _, _, _⟩ :: _) _ _); refine wpList_new_a rfl 34 rfl #[.int .i64 0, .int .i64 0, .int .u32 0, .slice none 0 0] (by kernel_rfl) ?_; intro g5 w7 ge hh bb; have d_p_d := ne_new (hlt hp) ge; have d_z_d := ne_new (hlt hz) ge; have d_r_d := ne_new (hlt hr) ge; have av_hb_d := hb.av_new ge; have av_rest_d := rest.av_new ge; have od := Nat.le_trans bel.size ge; replace hp := blk_u hp bb; replace hz := blk_u hz bb; replace hr := blk_u hr bb; replace hb := hb.below bb; replace rest := rest.below bb; replace bel := bel.trans (bb.mono bel.size); have hd := hh; clear hh ge bb) | ((with_reducible show wpList _ _ _ (⟨none, Op.store _ (.tmp 5) _, _, _, _, _⟩ :: _) _ _); refine wpList_store_blk rfl 34 (.tmp 5) (.tmp 21) rfl g5 rfl _ rfl _ 34 hd (by rfl) (by kernel_rfl) (by kernel_rfl) ?_; intro w8 hq gr; replace hb := hb.away av_hb_d gr; replace rest := rest.away av_rest_d gr; replace hp := blk_a hp gr d_p_d; replace hz := blk_a hz gr d_z_d; replace hr := blk_a hr gr d_r_d; replace bel := below_grown bel gr od bel.size; clear hd; have hd := hq; clear hq gr))
  with_reducible refine (rd_u16c _ _ _ _ _ _ _ _ _ hr rest).mono ?_
  rintro e w9 ⟨A8, n8, c8, rfl, hq, sq, uq, b9⟩
  replace hb := hb.away av_hb_r b9
  replace hp := blk_a hp b9 d_p_r
  replace hz := blk_a hz b9 d_z_r
  replace hd := blk_a hd b9 (ne_symm d_r_d)
  replace bel := below_grown bel b9 or bel.size
  clear b9
  clear hr rest
  have hr := hq
  have rest := sq
  clear hq sq
  have av8_rest_p := av5_rest_p.sub uq
  have av8_rest_z := av5_rest_z.sub uq
  have av8_rest_r := av5_rest_r.sub uq
  have av8_rest_d := av_rest_d.sub uq
  clear uq
  go_wp2_with fail
  with_reducible refine (rd_u32c _ _ _ _ _ _ _ _ _ _ _ hr rest).mono ?_
  rintro e w10 ⟨A9, n9, c9, rfl, hq, sq, uq, b10⟩
  replace hb := hb.away av_hb_r b10
  replace hp := blk_a hp b10 d_p_r
  replace hz := blk_a hz b10 d_z_r
  replace hd := blk_a hd b10 (ne_symm d_r_d)
  replace bel := below_grown bel b10 or bel.size
  clear b10
  clear hr rest
  have hr := hq
  have rest := sq
  clear hq sq
  have av9_rest_p := av8_rest_p.sub uq
  have av9_rest_z := av8_rest_z.sub uq
  have av9_rest_r := av8_rest_r.sub uq
  have av9_rest_d := av8_rest_d.sub uq
  clear uq
  go_wp2_with (first | ((with_reducible show wpList _ _ _ (⟨none, Op.store _ (.tmp 26) _, _, _, _, _⟩ :: _) _ _); refine wpList_store_part rfl 32 (.tmp 26) (.tmp 25) rfl g5 2 rfl [.int .u32 (be [h4, h5, h6, h7] : Nat)] rfl [.int .i64 (h0.toNat : Int), .int .i64 (h1.toNat : Int), .int .u32 0, .slice none 0 0] 34 hd (by simp) [.int .i64 (h0.toNat : Int), .int .i64 (h1.toNat : Int), .int .u32 (be [h4, h5, h6, h7] : Nat), .slice none 0 0] rfl (by kernel_rfl) (by rfl) ?_; intro w11 hq gr; replace hb := hb.away av_hb_d gr; replace rest := rest.away av9_rest_d gr; replace hp := blk_a hp gr d_p_d; replace hz := blk_a hz gr d_z_d; replace hr := blk_a hr gr d_r_d; replace bel := below_grown bel gr od bel.size; clear hd; have hd := hq; clear hq gr))
  with_reducible refine (rd_short _ _ _ _ _ _ _ hr rest).mono ?_
  rintro e _ ⟨rfl, rfl⟩
  have R31 := cell_lit hp 15 _ rfl
  go_wp2_with fail
  clear R31
  with_reducible refine (fitsd _ _ _ _ _ hb).mono ?_
  rintro e w12 ⟨rfl, b12⟩
  replace hp := blk_u hp b12
  replace hz := blk_u hz b12
  replace hr := blk_u hr b12
  replace hd := blk_u hd b12
  replace hb := hb.below b12
  replace rest := rest.below b12
  replace bel := bel.trans (b12.mono bel.size)
  clear b12
  rw [HC.out]
  go_wp2_with (first | ((with_reducible show wpList _ _ _ (⟨none, Op.store _ (.tmp 2) _, _, _, _, _⟩ :: _) _ _); refine wpList_store_blk rfl 34 (.tmp 2) (.tmp 34) rfl g2 rfl _ rfl _ 34 hz (by rfl) (by kernel_rfl) (by kernel_rfl) ?_; intro w13 hq gr; replace hb := hb.away av_hb_z gr; replace rest := rest.away av9_rest_z gr; replace hp := blk_a hp gr d_p_z; replace hr := blk_a hr gr (ne_symm d_z_r); replace hd := blk_a hd gr (ne_symm d_z_d); replace bel := below_grown bel gr oz bel.size; clear hz; have hz := hq; clear hq gr))
  exact bodyPost_ret (results_cell_tmp_row rfl _ _ _ _ _ _ _ rfl hz Try.underlying34 rfl (by kernel_rfl) (.int .i64 5) rfl) rfl (MsPost.none HP.out.symm bel)
set_option linter.unusedVariables false in
set_option maxRecDepth 100000 in
set_option maxHeartbeats 16000000 in
theorem icget_5 (tos id fl pt ttl : Int) (a0 a1 a2 a3 a4 a5 a6 a7 : UInt8) (So Sb : Option Addr) (no co nb cb : Nat) (h0 h1 h2 h3 h4 h5 h6 h7 : UInt8) (r : List UInt8) (w : World) (hb : Sl w Sb nb cb (h0 :: h1 :: h2 :: h3 :: h4 :: h5 :: h6 :: h7 :: r)) (hm : nb ≤ 100000) (hw : (decide (pt = 0) && decide (fl % 2 = 0)) = true) (hc : ck (h0 :: h1 :: h2 :: h3 :: h4 :: h5 :: h6 :: h7 :: r) = 0) : Calls Try.prog 15 #[.agg #[.int .i64 tos, .int .i64 id, .int .i64 fl, .int .i64 pt, .int .i64 ttl, .int .i64 1, .int .u8 (a0.toNat : Int), .int .u8 (a1.toNat : Int), .int .u8 (a2.toNat : Int), .int .u8 (a3.toNat : Int), .int .u8 (a4.toNat : Int), .int .u8 (a5.toNat : Int), .int .u8 (a6.toNat : Int), .int .u8 (a7.toNat : Int), .slice So no co, .slice Sb nb cb]] w (MsPost (icGet fl pt 1 (h0 :: h1 :: h2 :: h3 :: h4 :: h5 :: h6 :: h7 :: r)) w) := by
  have HP : Hid (icGet fl pt 1 (h0 :: h1 :: h2 :: h3 :: h4 :: h5 :: h6 :: h7 :: r) = ([(h0.toNat : Int), (h1.toNat : Int), ((be [h4, h5, h6, h7] : Nat) : Int)], r, 0)) := Lib.hid (ic_ok (by rw [ic_at (by simp) hw, if_neg (fun h => h hc)]))
  have HM := Lib.hid hm
  have HW := Lib.hid hw
  have HL := Lib.hid hb.1
  clear hm hw
  obtain ⟨m, hm2⟩ : ∃ m, r.length = m := ⟨_, rfl⟩
  have HM2 := Lib.hid hm2
  have hm3 : m ≤ 100000 := by have h9 := HL.out; have := HM.out; simp only [List.length_cons] at h9; omega
  have HM3 := Lib.hid hm3
  clear hm2 hm3
  have HC : Hid (decide (ck (h0 :: h1 :: h2 :: h3 :: h4 :: h5 :: h6 :: h7 :: r) = 0) = true) := Lib.hid (decide_eq_true hc)
  clear hc
  have bel := Below.refl w.heap.size w
  go_enter Try.func15, Try.ntmps15
  go_wp2_with (first | ((with_reducible show wpList _ _ _ (⟨some 1, _, _, _, _, _⟩ :: _) _ _); refine wpList_box_n rfl 27 (.tmp 0) rfl #[.int .i64 tos, .int .i64 id, .int .i64 fl, .int .i64 pt, .int .i64 ttl, .int .i64 1, .int .u8 (a0.toNat : Int), .int .u8 (a1.toNat : Int), .int .u8 (a2.toNat : Int), .int .u8 (a3.toNat : Int), .int .u8 (a4.toNat : Int), .int .u8 (a5.toNat : Int), .int .u8 (a6.toNat : Int), .int .u8 (a7.toNat : Int), .slice So no co, .slice Sb nb cb] rfl ?_; intro g1 w1 ge lt hh bb; have av_hb_p := hb.av_new ge; have op := Nat.le_trans bel.size ge; replace hb := hb.below bb; replace bel := bel.trans (bb.mono bel.size); have hp := hh; clear hh lt ge bb) | ((with_reducible show wpList _ _ _ (⟨some 2, _, _, _, _, _⟩ :: _) _ _); refine wpList_new_a rfl 34 rfl #[.int .i64 0, .int .i64 0, .int .u32 0, .slice none 0 0] (by kernel_rfl) ?_; intro g2 w2 ge hh bb; have d_p_z := ne_new (hlt hp) ge; have av_hb_z := hb.av_new ge; have oz := Nat.le_trans bel.size ge; replace hp := blk_u hp bb; replace hb := hb.below bb; replace bel := bel.trans (bb.mono bel.size); have hz := hh; clear hh ge bb; have R7 := cell_lit hp 5 _ rfl; have R10 := Lib.hid (range_lit hp 0 16 [.int .i64 tos, .int .i64 id, .int .i64 fl, .int .i64 pt, .int .i64 ttl, .int .i64 1, .int .u8 (a0.toNat : Int), .int .u8 (a1.toNat : Int), .int .u8 (a2.toNat : Int), .int .u8 (a3.toNat : Int), .int .u8 (a4.toNat : Int), .int .u8 (a5.toNat : Int), .int .u8 (a6.toNat : Int), .int .u8 (a7.toNat : Int), .slice So no co, .slice Sb nb cb] rfl)) | ((with_reducible show wpList _ _ _ (⟨some 10, _, _, _, _, _⟩ :: _) _ _); refine wpList_load_rng 27 (.tmp 1) rfl (by kernel_rfl) _ _ rfl _ R10.out _ Try.underlying27 rfl (by kernel_rfl) ?_))
  try clear R7
  try clear R10
  with_reducible refine (ipwhole_any _ _ _ _ _ _ _ _ _ _ _ _ _ _ _ _ _ _ _ _ _).mono ?_
  rintro e w3 ⟨rfl, b3⟩
  replace hp := blk_u hp b3
  replace hz := blk_u hz b3
  replace hb := hb.below b3
  replace bel := bel.trans (b3.mono bel.size)
  clear b3
  rw [HW.out]
  have R15 := cell_lit hp 15 _ rfl
  go_wp2_with fail
  clear R15
  with_reducible refine (rd_read _ _ _ _ _ hb (by have := HM.out; omega)).mono ?_
  rintro e w4 ⟨gr, Ar3, cr3, rfl, ge, hh, rest, frr, avr, b4⟩
  have av_rest_p := frr.av (hlt hp)
  have av_rest_z := frr.av (hlt hz)
  have d_p_r := ne_new (hlt hp) ge
  have d_z_r := ne_new (hlt hz) ge
  have av_hb_r := hb.av_new ge
  have or := Nat.le_trans bel.size ge
  replace hp := blk_u hp b4
  replace hz := blk_u hz b4
  replace hb := hb.below b4
  replace bel := bel.trans (b4.mono bel.size)
  have hr := hh
  clear hh ge b4
  replace rest : Sl w4 (Ar3) (nb) (cr3) (h0 :: h1 :: h2 :: h3 :: h4 :: h5 :: h6 :: h7 :: r) := rest
  go_wp2_with fail
  with_reducible refine (rd_u8c _ _ _ _ _ _ _ _ hr rest).mono ?_
  rintro e w5 ⟨A4, n4, c4, rfl, hq, sq, uq, b5⟩
  replace hb := hb.away av_hb_r b5
  replace hp := blk_a hp b5 d_p_r
  replace hz := blk_a hz b5 d_z_r
  replace bel := below_grown bel b5 or bel.size
  clear b5
  clear hr rest
  have hr := hq
  have rest := sq
  clear hq sq
  have av4_rest_p := av_rest_p.sub uq
  have av4_rest_z := av_rest_z.sub uq
  have av4_rest_r := avr.sub uq
  clear uq
  go_wp2_with fail
  with_reducible refine (rd_u8c _ _ _ _ _ _ _ _ hr rest).mono ?_
  rintro e w6 ⟨A5, n5, c5, rfl, hq, sq, uq, b6⟩
  replace hb := hb.away av_hb_r b6
  replace hp := blk_a hp b6 d_p_r
  replace hz := blk_a hz b6 d_z_r
  replace bel := below_grown bel b6 or bel.size
  clear b6
  clear hr rest
  have hr := hq
  have rest := sq
  clear hq sq
  have av5_rest_p := av4_rest_p.sub uq
  have av5_rest_z := av4_rest_z.sub uq
  have av5_rest_r := av4_rest_r.sub uq
  clear uq
  go_wp2_with (first | ((with_reducible show wpList _ _ _ (⟨some 5, _, _, _, _, _⟩ :: _) _ _); refine wpList_new_a rfl 34 rfl #[.int .i64 0, .int .i64 0, .int .u32 0, .slice none 0 0] (by kernel_rfl) ?_; intro g5 w7 ge hh bb; have d_p_d := ne_new (hlt hp) ge; have d_z_d := ne_new (hlt hz) ge; have d_r_d := ne_new (hlt hr) ge; have av_hb_d := hb.av_new ge; have av_rest_d := rest.av_new ge; have od := Nat.le_trans bel.size ge; replace hp := blk_u hp bb; replace hz := blk_u hz bb; replace hr := blk_u hr bb; replace hb := hb.below bb; replace rest := rest.below bb; replace bel := bel.trans (bb.mono bel.size); have hd := hh; clear hh ge bb) | ((with_reducible show wpList _ _ _ (⟨none, Op.store _ (.tmp 5) _, _, _, _, _⟩ :: _) _ _); refine wpList_store_blk rfl 34 (.tmp 5) (.tmp 21) rfl g5 rfl _ rfl _ 34 hd (by rfl) (by kernel_rfl) (by kernel_rfl) ?_; intro w8 hq gr; replace hb := hb.away av_hb_d gr; replace rest := rest.away av_rest_d gr; replace hp := blk_a hp gr d_p_d; replace hz := blk_a hz gr d_z_d; replace hr := blk_a hr gr d_r_d; replace bel := below_grown bel gr od bel.size; clear hd; have hd := hq; clear hq gr))
  with_reducible refine (rd_u16c _ _ _ _ _ _ _ _ _ hr rest).mono ?_
  rintro e w9 ⟨A8, n8, c8, rfl, hq, sq, uq, b9⟩
  replace hb := hb.away av_hb_r b9
  replace hp := blk_a hp b9 d_p_r
  replace hz := blk_a hz b9 d_z_r
  replace hd := blk_a hd b9 (ne_symm d_r_d)
  replace bel := below_grown bel b9 or bel.size
  clear b9
  clear hr rest
  have hr := hq
  have rest := sq
  clear hq sq
  have av8_rest_p := av5_rest_p.sub uq
  have av8_rest_z := av5_rest_z.sub uq
  have av8_rest_r := av5_rest_r.sub uq
  have av8_rest_d := av_rest_d.sub uq
  clear uq
  go_wp2_with fail
  with_reducible refine (rd_u32c _ _ _ _ _ _ _ _ _ _ _ hr rest).mono ?_
  rintro e w10 ⟨A9, n9, c9, rfl, hq, sq, uq, b10⟩
  replace hb := hb.away av_hb_r b10
  replace hp := blk_a hp b10 d_p_r
  replace hz := blk_a hz b10 d_z_r
  replace hd := blk_a hd b10 (ne_symm d_r_d)
  replace bel := below_grown bel b10 or bel.size
  clear b10
  clear hr rest
  have hr := hq
  have rest := sq
  clear hq sq
  have av9_rest_p := av8_rest_p.sub uq
  have av9_rest_z := av8_rest_z.sub uq
  have av9_rest_r := av8_rest_r.sub uq
  have av9_rest_d := av8_rest_d.sub uq
  clear uq
  go_wp2_with (first | ((with_reducible show wpList _ _ _ (⟨none, Op.store _ (.tmp 26) _, _, _, _, _⟩ :: _) _ _); refine wpList_store_part rfl 32 (.tmp 26) (.tmp 25) rfl g5 2 rfl [.int .u32 (be [h4, h5, h6, h7] : Nat)] rfl [.int .i64 (h0.toNat : Int), .int .i64 (h1.toNat : Int), .int .u32 0, .slice none 0 0] 34 hd (by simp) [.int .i64 (h0.toNat : Int), .int .i64 (h1.toNat : Int), .int .u32 (be [h4, h5, h6, h7] : Nat), .slice none 0 0] rfl (by kernel_rfl) (by rfl) ?_; intro w11 hq gr; replace hb := hb.away av_hb_d gr; replace rest := rest.away av9_rest_d gr; replace hp := blk_a hp gr d_p_d; replace hz := blk_a hz gr d_z_d; replace hr := blk_a hr gr d_r_d; replace bel := below_grown bel gr od bel.size; clear hd; have hd := hq; clear hq gr))
  with_reducible refine (rd_short _ _ _ _ _ _ _ hr rest).mono ?_
  rintro e _ ⟨rfl, rfl⟩
  have R31 := cell_lit hp 15 _ rfl
  go_wp2_with fail
  clear R31
  with_reducible refine (fitsd _ _ _ _ _ hb).mono ?_
  rintro e w12 ⟨rfl, b12⟩
  replace hp := blk_u hp b12
  replace hz := blk_u hz b12
  replace hr := blk_u hr b12
  replace hd := blk_u hd b12
  replace hb := hb.below b12
  replace rest := rest.below b12
  replace bel := bel.trans (b12.mono bel.size)
  clear b12
  rw [HC.out]
  go_wp2_with fail
  with_reducible refine (rd_left _ _ _ _ _ _ _ hr rest).mono ?_
  rintro e _ ⟨rfl, rfl⟩
  rw [HM2.out]
  go_wp2_with fail
  have ob2 := bel.size
  with_reducible refine (rd_bytes (m) _ _ _ _ _ _ _ hr rest (by rw [HM2.out]; exact Nat.le_refl _) (by have := HM3.out; omega)).mono ?_
  rintro e w13 ⟨Abd, cbd, A12, n12, c12, rfl, hq, sq, uq, bd, frbd, b13⟩
  have av_bd_p := frbd.av (hlt hp)
  have av_bd_z := frbd.av (hlt hz)
  have av_bd_r := frbd.av (hlt hr)
  have av_bd_d := frbd.av (hlt hd)
  replace hb := hb.away av_hb_r b13
  replace hp := blk_a hp b13 d_p_r
  replace hz := blk_a hz b13 d_z_r
  replace hd := blk_a hd b13 (ne_symm d_r_d)
  replace bel := below_grown bel b13 or bel.size
  clear b13
  clear hr rest
  have hr := hq
  have rest := sq
  clear hq sq
  have av12_rest_p := av9_rest_p.sub uq
  have av12_rest_z := av9_rest_z.sub uq
  have av12_rest_r := av9_rest_r.sub uq
  have av12_rest_d := av9_rest_d.sub uq
  clear uq
  have fr_bd := frbd.mono ob2
  go_wp2_with (first | ((with_reducible show wpList _ _ _ (⟨none, Op.store _ (.tmp 39) _, _, _, _, _⟩ :: _) _ _); refine wpList_store_part rfl 25 (.tmp 39) (.tmp 38) rfl g5 3 rfl [.slice Abd m cbd] rfl [.int .i64 (h0.toNat : Int), .int .i64 (h1.toNat : Int), .int .u32 (be [h4, h5, h6, h7] : Nat), .slice none 0 0] 34 hd (by simp) [.int .i64 (h0.toNat : Int), .int .i64 (h1.toNat : Int), .int .u32 (be [h4, h5, h6, h7] : Nat), .slice Abd m cbd] rfl (by kernel_rfl) (by rfl) ?_; intro w14 hq gr; replace hb := hb.away av_hb_d gr; replace rest := rest.away av12_rest_d gr; replace bd := bd.away av_bd_d gr; replace hp := blk_a hp gr d_p_d; replace hz := blk_a hz gr d_z_d; replace hr := blk_a hr gr d_r_d; replace bel := below_grown bel gr od bel.size; clear hd; have hd := hq; clear hq gr; have R40 := Lib.hid (range_lit hd 0 4 [.int .i64 (h0.toNat : Int), .int .i64 (h1.toNat : Int), .int .u32 (be [h4, h5, h6, h7] : Nat), .slice Abd m cbd] rfl)) | ((with_reducible show wpList _ _ _ (⟨some 40, _, _, _, _, _⟩ :: _) _ _); refine wpList_load_rng 34 (.tmp 5) rfl (by kernel_rfl) _ _ rfl _ R40.out _ Try.underlying34 rfl (by kernel_rfl) ?_) | ((with_reducible show wpList _ _ _ (⟨none, Op.store _ (.tmp 2) _, _, _, _, _⟩ :: _) _ _); refine wpList_store_blk rfl 34 (.tmp 2) (.tmp 40) rfl g2 rfl _ rfl _ 34 hz (by rfl) (by kernel_rfl) (by kernel_rfl) ?_; intro w15 hq gr; replace hb := hb.away av_hb_z gr; replace rest := rest.away av12_rest_z gr; replace bd := bd.away av_bd_z gr; replace hp := blk_a hp gr d_p_z; replace hr := blk_a hr gr (ne_symm d_z_r); replace hd := blk_a hd gr (ne_symm d_z_d); replace bel := below_grown bel gr oz bel.size; clear hz; have hz := hq; clear hq gr))
  try clear R40
  exact bodyPost_ret (results_cell_tmp_row rfl _ _ _ _ _ _ _ rfl hz Try.underlying34 rfl (by kernel_rfl) (.int .i64 0) rfl) rfl ⟨_, _, _, r, Abd, cbd, 0, by rw [HM2.out], by rw [List.take_of_length_le (Nat.le_of_eq HM2.out)] at bd; rw [HM2.out]; exact bd, by rw [HM2.out]; exact fr_bd, bel, HP.out.symm⟩
theorem icget_any (tos id fl pt ttl pr : Int) (a0 a1 a2 a3 a4 a5 a6 a7 : UInt8) (So Sb : Option Addr) (no co nb cb : Nat) (lb : List UInt8) (w : World) (hb : Sl w Sb nb cb lb) (hm : nb ≤ 100000) : Calls Try.prog 15 #[.agg #[.int .i64 tos, .int .i64 id, .int .i64 fl, .int .i64 pt, .int .i64 ttl, .int .i64 pr, .int .u8 (a0.toNat : Int), .int .u8 (a1.toNat : Int), .int .u8 (a2.toNat : Int), .int .u8 (a3.toNat : Int), .int .u8 (a4.toNat : Int), .int .u8 (a5.toNat : Int), .int .u8 (a6.toNat : Int), .int .u8 (a7.toNat : Int), .slice So no co, .slice Sb nb cb]] w (MsPost (icGet fl pt pr lb) w) := by
  by_cases hp : pr = 1
  · subst hp
    rcases (by decide : ∀ b : Bool, b = true ∨ b = false) (decide (pt = 0) && decide (fl % 2 = 0)) with hw | hw
    · by_cases hn : nb < 8
      · exact icget_3 tos id fl pt ttl a0 a1 a2 a3 a4 a5 a6 a7 So Sb no co nb cb lb w hb hw hn
      · obtain ⟨h0, h1, h2, h3, h4, h5, h6, h7, r, rfl⟩ := list8 lb (by rw [hb.1]; omega)
        by_cases hc : ck (h0 :: h1 :: h2 :: h3 :: h4 :: h5 :: h6 :: h7 :: r) = 0
        · exact icget_5 tos id fl pt ttl a0 a1 a2 a3 a4 a5 a6 a7 So Sb no co nb cb h0 h1 h2 h3 h4 h5 h6 h7 r w hb hm hw hc
        · exact icget_4 tos id fl pt ttl a0 a1 a2 a3 a4 a5 a6 a7 So Sb no co nb cb h0 h1 h2 h3 h4 h5 h6 h7 r w hb hm hw hc
    · exact icget_2 tos id fl pt ttl a0 a1 a2 a3 a4 a5 a6 a7 So Sb no co nb cb lb w hw
  · exact icget_1 tos id fl pt ttl pr a0 a1 a2 a3 a4 a5 a6 a7 So Sb no co nb cb lb w hp
end Go.Proofs.Ytfmllopeeiecjaa
