/- Layer 7: udp's Get. -/
import Derived.Test.YthikedajhocdkaaUd1
namespace Go.Proofs.Ythikedajhocdkaa
open Go.RowKit

set_option maxRecDepth 100000 in
set_option maxHeartbeats 16000000 in
theorem udget_1 (tos id fl pt ttl pr : Int) (a0 a1 a2 a3 a4 a5 a6 a7 : UInt8) (So Sb : Option Addr) (no co nb cb : Nat) (lb : List UInt8) (w : World) (hp : pr ≠ 17) : Calls Try.prog 11 #[.agg #[.int .i64 tos, .int .i64 id, .int .i64 fl, .int .i64 pt, .int .i64 ttl, .int .i64 pr, .int .u8 (a0.toNat : Int), .int .u8 (a1.toNat : Int), .int .u8 (a2.toNat : Int), .int .u8 (a3.toNat : Int), .int .u8 (a4.toNat : Int), .int .u8 (a5.toNat : Int), .int .u8 (a6.toNat : Int), .int .u8 (a7.toNat : Int), .slice So no co, .slice Sb nb cb]] w (UdPost (udGet fl pt pr a0 a1 a2 a3 a4 a5 a6 a7 (lb)) w) := by
  have HP : Hid (udGet fl pt pr a0 a1 a2 a3 a4 a5 a6 a7 (lb) = ((0, 0), [], 1)) := Lib.hid (ud_err (by exact if_pos hp) (by decide))
  have t0 : (pr == 17) = false := by simpa using hp
  have t1 : (pr != 17) = true := by simpa using hp
  clear hp
  have bel := Below.refl w.heap.size w
  go_enter Try.func11, Try.ntmps11
  go_wp2_with (first | ((with_reducible show wpList _ _ _ (⟨some 1, _, _, _, _, _⟩ :: _) _ _); refine wpList_box_n rfl 27 (.tmp 0) rfl #[.int .i64 tos, .int .i64 id, .int .i64 fl, .int .i64 pt, .int .i64 ttl, .int .i64 pr, .int .u8 (a0.toNat : Int), .int .u8 (a1.toNat : Int), .int .u8 (a2.toNat : Int), .int .u8 (a3.toNat : Int), .int .u8 (a4.toNat : Int), .int .u8 (a5.toNat : Int), .int .u8 (a6.toNat : Int), .int .u8 (a7.toNat : Int), .slice So no co, .slice Sb nb cb] rfl ?_; intro g1 w1 ge lt hh bb; have op := Nat.le_trans bel.size ge; replace bel := bel.trans (bb.mono bel.size); have hp := hh; have zp := lt; clear hh lt ge bb) | ((with_reducible show wpList _ _ _ (⟨some 2, _, _, _, _, _⟩ :: _) _ _); refine wpList_new_n rfl 33 rfl (.agg #[.int .i64 0, .int .i64 0, .slice none 0 0]) (by kernel_rfl) #[.int .i64 0, .int .i64 0, .slice none 0 0] rfl ?_; intro g2 w2 ge lt hh bb; have d_p_z := ne_new zp ge; have oz := Nat.le_trans bel.size ge; replace hp := blk_under hp bb zp; replace zp := Nat.lt_of_lt_of_le zp bb.size; replace bel := bel.trans (bb.mono bel.size); have hz := hh; have zz := lt; clear hh lt ge bb; have R9 := cell_lit hp 5 _ rfl) | ((with_reducible show wpList _ _ _ (⟨none, Op.store _ (.tmp 2) _, _, _, _, _⟩ :: _) _ _); refine wpList_store_blk rfl 33 (.tmp 2) (.tmp 11) rfl g2 rfl #[.int .i64 0, .int .i64 0, .slice none 0 0] rfl _ 33 hz (by rfl) (by kernel_rfl) (by kernel_rfl) ?_; intro w3 hq gr; replace hp := blk_away hp gr zp d_p_z; replace zp := Nat.lt_of_lt_of_le zp gr.size; replace zz := Nat.lt_of_lt_of_le zz gr.size; replace bel := below_grown bel gr oz bel.size; clear hz; have hz := hq; clear hq gr))
  try clear R9
  exact bodyPost_ret (results_cell_tmp_row rfl _ _ _ _ _ _ _ rfl hz Try.underlying33 rfl (by kernel_rfl) (.int .i64 1) rfl) rfl (UdPost.none HP.out.symm bel)
set_option maxRecDepth 100000 in
set_option maxHeartbeats 16000000 in
theorem udget_2 (tos id fl pt ttl : Int) (a0 a1 a2 a3 a4 a5 a6 a7 : UInt8) (So Sb : Option Addr) (no co nb cb : Nat) (lb : List UInt8) (w : World) (hw : (decide (pt = 0) && decide (fl % 2 = 0)) = false) : Calls Try.prog 11 #[.agg #[.int .i64 tos, .int .i64 id, .int .i64 fl, .int .i64 pt, .int .i64 ttl, .int .i64 17, .int .u8 (a0.toNat : Int), .int .u8 (a1.toNat : Int), .int .u8 (a2.toNat : Int), .int .u8 (a3.toNat : Int), .int .u8 (a4.toNat : Int), .int .u8 (a5.toNat : Int), .int .u8 (a6.toNat : Int), .int .u8 (a7.toNat : Int), .slice So no co, .slice Sb nb cb]] w (UdPost (udGet fl pt 17 a0 a1 a2 a3 a4 a5 a6 a7 (lb)) w) := by
  have HP : Hid (udGet fl pt 17 a0 a1 a2 a3 a4 a5 a6 a7 (lb) = ((0, 0), [], 10)) := Lib.hid (ud_err (by unfold udErr; rw [if_neg (by decide), if_pos (by simpa using hw)]) (by decide))
  have HW := Lib.hid hw
  clear hw
  have bel := Below.refl w.heap.size w
  go_enter Try.func11, Try.ntmps11
  go_wp2_with (first | ((with_reducible show wpList _ _ _ (⟨some 1, _, _, _, _, _⟩ :: _) _ _); refine wpList_box_n rfl 27 (.tmp 0) rfl #[.int .i64 tos, .int .i64 id, .int .i64 fl, .int .i64 pt, .int .i64 ttl, .int .i64 17, .int .u8 (a0.toNat : Int), .int .u8 (a1.toNat : Int), .int .u8 (a2.toNat : Int), .int .u8 (a3.toNat : Int), .int .u8 (a4.toNat : Int), .int .u8 (a5.toNat : Int), .int .u8 (a6.toNat : Int), .int .u8 (a7.toNat : Int), .slice So no co, .slice Sb nb cb] rfl ?_; intro g1 w1 ge lt hh bb; have op := Nat.le_trans bel.size ge; replace bel := bel.trans (bb.mono bel.size); have hp := hh; have zp := lt; clear hh lt ge bb) | ((with_reducible show wpList _ _ _ (⟨some 2, _, _, _, _, _⟩ :: _) _ _); refine wpList_new_n rfl 33 rfl (.agg #[.int .i64 0, .int .i64 0, .slice none 0 0]) (by kernel_rfl) #[.int .i64 0, .int .i64 0, .slice none 0 0] rfl ?_; intro g2 w2 ge lt hh bb; have d_p_z := ne_new zp ge; have oz := Nat.le_trans bel.size ge; replace hp := blk_under hp bb zp; replace zp := Nat.lt_of_lt_of_le zp bb.size; replace bel := bel.trans (bb.mono bel.size); have hz := hh; have zz := lt; clear hh lt ge bb; have R9 := cell_lit hp 5 _ rfl; have R12 := Lib.hid (range_lit hp 0 16 [.int .i64 tos, .int .i64 id, .int .i64 fl, .int .i64 pt, .int .i64 ttl, .int .i64 17, .int .u8 (a0.toNat : Int), .int .u8 (a1.toNat : Int), .int .u8 (a2.toNat : Int), .int .u8 (a3.toNat : Int), .int .u8 (a4.toNat : Int), .int .u8 (a5.toNat : Int), .int .u8 (a6.toNat : Int), .int .u8 (a7.toNat : Int), .slice So no co, .slice Sb nb cb] rfl)) | ((with_reducible show wpList _ _ _ (⟨some 12, _, _, _, _, _⟩ :: _) _ _); refine wpList_load_rng 27 (.tmp 1) rfl (by kernel_rfl) _ _ rfl _ R12.out _ Try.underlying27 rfl (by kernel_rfl) ?_))
  try clear R9
  try clear R12
  with_reducible refine (ipwhole_any _ _ _ _ _ _ _ _ _ _ _ _ _ _ _ _ _ _ _ _ _).mono ?_
  rintro e w3 ⟨rfl, b3⟩
  replace hp := blk_under hp b3 zp
  replace zp := Nat.lt_of_lt_of_le zp b3.size
  replace hz := blk_under hz b3 zz
  replace zz := Nat.lt_of_lt_of_le zz b3.size
  replace bel := bel.trans (b3.mono bel.size)
  clear b3
  rw [HW.out]
  go_wp2_with (first | ((with_reducible show wpList _ _ _ (⟨none, Op.store _ (.tmp 2) _, _, _, _, _⟩ :: _) _ _); refine wpList_store_blk rfl 33 (.tmp 2) (.tmp 15) rfl g2 rfl #[.int .i64 0, .int .i64 0, .slice none 0 0] rfl _ 33 hz (by rfl) (by kernel_rfl) (by kernel_rfl) ?_; intro w4 hq gr; replace hp := blk_away hp gr zp d_p_z; replace zp := Nat.lt_of_lt_of_le zp gr.size; replace zz := Nat.lt_of_lt_of_le zz gr.size; replace bel := below_grown bel gr oz bel.size; clear hz; have hz := hq; clear hq gr))
  exact bodyPost_ret (results_cell_tmp_row rfl _ _ _ _ _ _ _ rfl hz Try.underlying33 rfl (by kernel_rfl) (.int .i64 10) rfl) rfl (UdPost.none HP.out.symm bel)
set_option maxRecDepth 100000 in
set_option maxHeartbeats 16000000 in
theorem udget_3 (tos id fl pt ttl : Int) (a0 a1 a2 a3 a4 a5 a6 a7 : UInt8) (So Sb : Option Addr) (no co nb cb : Nat) (lb : List UInt8) (w : World) (hb : Sl w Sb nb cb lb) (hw : (decide (pt = 0) && decide (fl % 2 = 0)) = true) (hn : nb < 8) : Calls Try.prog 11 #[.agg #[.int .i64 tos, .int .i64 id, .int .i64 fl, .int .i64 pt, .int .i64 ttl, .int .i64 17, .int .u8 (a0.toNat : Int), .int .u8 (a1.toNat : Int), .int .u8 (a2.toNat : Int), .int .u8 (a3.toNat : Int), .int .u8 (a4.toNat : Int), .int .u8 (a5.toNat : Int), .int .u8 (a6.toNat : Int), .int .u8 (a7.toNat : Int), .slice So no co, .slice Sb nb cb]] w (UdPost (udGet fl pt 17 a0 a1 a2 a3 a4 a5 a6 a7 (lb)) w) := by
  have HP : Hid (udGet fl pt 17 a0 a1 a2 a3 a4 a5 a6 a7 (lb) = ((0, 0), [], 3)) := Lib.hid (ud_err (by unfold udErr; rw [if_neg (by decide), if_neg (by simpa using hw), if_pos (by rw [hb.1]; exact hn)]) (by decide))
  have HW := Lib.hid hw
  have HN := Lib.hid hn
  have HL := Lib.hid hb.1
  clear hw hn
  have bel := Below.refl w.heap.size w
  go_enter Try.func11, Try.ntmps11
  go_wp2_with (first | ((with_reducible show wpList _ _ _ (⟨some 1, _, _, _, _, _⟩ :: _) _ _); refine wpList_box_n rfl 27 (.tmp 0) rfl #[.int .i64 tos, .int .i64 id, .int .i64 fl, .int .i64 pt, .int .i64 ttl, .int .i64 17, .int .u8 (a0.toNat : Int), .int .u8 (a1.toNat : Int), .int .u8 (a2.toNat : Int), .int .u8 (a3.toNat : Int), .int .u8 (a4.toNat : Int), .int .u8 (a5.toNat : Int), .int .u8 (a6.toNat : Int), .int .u8 (a7.toNat : Int), .slice So no co, .slice Sb nb cb] rfl ?_; intro g1 w1 ge lt hh bb; have av_hb_p := hb.av_new ge; have op := Nat.le_trans bel.size ge; replace hb := hb.below bb; replace bel := bel.trans (bb.mono bel.size); have hp := hh; have zp := lt; clear hh lt ge bb) | ((with_reducible show wpList _ _ _ (⟨some 2, _, _, _, _, _⟩ :: _) _ _); refine wpList_new_n rfl 33 rfl (.agg #[.int .i64 0, .int .i64 0, .slice none 0 0]) (by kernel_rfl) #[.int .i64 0, .int .i64 0, .slice none 0 0] rfl ?_; intro g2 w2 ge lt hh bb; have d_p_z := ne_new zp ge; have av_hb_z := hb.av_new ge; have oz := Nat.le_trans bel.size ge; replace hp := blk_under hp bb zp; replace zp := Nat.lt_of_lt_of_le zp bb.size; replace hb := hb.below bb; replace bel := bel.trans (bb.mono bel.size); have hz := hh; have zz := lt; clear hh lt ge bb; have R9 := cell_lit hp 5 _ rfl; have R12 := Lib.hid (range_lit hp 0 16 [.int .i64 tos, .int .i64 id, .int .i64 fl, .int .i64 pt, .int .i64 ttl, .int .i64 17, .int .u8 (a0.toNat : Int), .int .u8 (a1.toNat : Int), .int .u8 (a2.toNat : Int), .int .u8 (a3.toNat : Int), .int .u8 (a4.toNat : Int), .int .u8 (a5.toNat : Int), .int .u8 (a6.toNat : Int), .int .u8 (a7.toNat : Int), .slice So no co, .slice Sb nb cb] rfl)) | ((with_reducible show wpList _ _ _ (⟨some 12, _, _, _, _, _⟩ :: _) _ _); refine wpList_load_rng 27 (.tmp 1) rfl (by kernel_rfl) _ _ rfl _ R12.out _ Try.underlying27 rfl (by kernel_rfl) ?_))
  try clear R9
  try clear R12
  with_reducible refine (ipwhole_any _ _ _ _ _ _ _ _ _ _ _ _ _ _ _ _ _ _ _ _ _).mono ?_
  rintro e w3 ⟨rfl, b3⟩
  replace hp := blk_under hp b3 zp
  replace zp := Nat.lt_of_lt_of_le zp b3.size
  replace hz := blk_under hz b3 zz
  replace zz := Nat.lt_of_lt_of_le zz b3.size
  replace hb := hb.below b3
  replace bel := bel.trans (b3.mono bel.size)
  clear b3
  rw [HW.out]
  have R17 := cell_lit hp 15 _ rfl
  go_wp2_with fail
  clear R17
  with_reducible refine (rd_read _ _ _ _ _ hb (by have := HN.out; omega)).mono ?_
  rintro e w4 ⟨gr, Ar3, cr3, rfl, ge, hh, rest, frr, avr, b4⟩
  have av_rest_p := frr.av zp
  have av_rest_z := frr.av zz
  have lt := (Array.getElem?_eq_some_iff.1 hh).1
  have d_p_r := ne_new zp ge
  have d_z_r := ne_new zz ge
  have av_hb_r := hb.av_new ge
  have or := Nat.le_trans bel.size ge
  replace hp := blk_under hp b4 zp
  replace zp := Nat.lt_of_lt_of_le zp b4.size
  replace hz := blk_under hz b4 zz
  replace zz := Nat.lt_of_lt_of_le zz b4.size
  replace hb := hb.below b4
  replace bel := bel.trans (b4.mono bel.size)
  have hr := hh
  have zr := lt
  clear hh lt ge b4
  go_wp2_with fail
  with_reducible refine (rd_u16e _ _ _ _ _ _ _ hr rest).mono ?_
  rintro e w5 ⟨A4, n4, c4, x1, s1, es1, rfl, hq, sq, uq, b5⟩
  replace hb := hb.away av_hb_r b5
  replace hp := blk_away hp b5 zp d_p_r
  replace hz := blk_away hz b5 zz d_z_r
  replace zp := Nat.lt_of_lt_of_le zp b5.size
  replace zz := Nat.lt_of_lt_of_le zz b5.size
  replace zr := Nat.lt_of_lt_of_le zr b5.size
  replace bel := below_grown bel b5 or bel.size
  clear b5
  clear hr rest
  have hr := hq
  have rest := sq
  clear hq sq
  have av4_rest_p := av_rest_p.sub uq
  have av4_rest_z := av_rest_z.sub uq
  have av4_rest_r := avr.sub uq
  clear uq
  go_wp2_with fail
  with_reducible refine (rd_u16e _ _ _ _ _ _ _ hr rest).mono ?_
  rintro e w6 ⟨A5, n5, c5, x2, s2, es2, rfl, hq, sq, uq, b6⟩
  replace hb := hb.away av_hb_r b6
  replace hp := blk_away hp b6 zp d_p_r
  replace hz := blk_away hz b6 zz d_z_r
  replace zp := Nat.lt_of_lt_of_le zp b6.size
  replace zz := Nat.lt_of_lt_of_le zz b6.size
  replace zr := Nat.lt_of_lt_of_le zr b6.size
  replace bel := below_grown bel b6 or bel.size
  clear b6
  clear hr rest
  have hr := hq
  have rest := sq
  clear hq sq
  have av5_rest_p := av4_rest_p.sub uq
  have av5_rest_z := av4_rest_z.sub uq
  have av5_rest_r := av4_rest_r.sub uq
  clear uq
  go_wp2_with (first | ((with_reducible show wpList _ _ _ (⟨some 5, _, _, _, _, _⟩ :: _) _ _); refine wpList_new_n rfl 33 rfl (.agg #[.int .i64 0, .int .i64 0, .slice none 0 0]) (by kernel_rfl) #[.int .i64 0, .int .i64 0, .slice none 0 0] rfl ?_; intro g5 w7 ge lt hh bb; have d_p_d := ne_new zp ge; have d_z_d := ne_new zz ge; have d_r_d := ne_new zr ge; have av_hb_d := hb.av_new ge; have av_rest_d := rest.av_new ge; have od := Nat.le_trans bel.size ge; replace hp := blk_under hp bb zp; replace zp := Nat.lt_of_lt_of_le zp bb.size; replace hz := blk_under hz bb zz; replace zz := Nat.lt_of_lt_of_le zz bb.size; replace hr := blk_under hr bb zr; replace zr := Nat.lt_of_lt_of_le zr bb.size; replace hb := hb.below bb; replace rest := rest.below bb; replace bel := bel.trans (bb.mono bel.size); have hd := hh; have zd := lt; clear hh lt ge bb) | ((with_reducible show wpList _ _ _ (⟨none, Op.store _ (.tmp 5) _, _, _, _, _⟩ :: _) _ _); refine wpList_store_blk rfl 33 (.tmp 5) (.tmp 23) rfl g5 rfl #[.int .i64 (x1 : Int), .int .i64 (x2 : Int), .slice none 0 0] rfl _ 33 hd (by rfl) (by kernel_rfl) (by kernel_rfl) ?_; intro w8 hq gr; replace hb := hb.away av_hb_d gr; replace rest := rest.away av_rest_d gr; replace hp := blk_away hp gr zp d_p_d; replace hz := blk_away hz gr zz d_z_d; replace hr := blk_away hr gr zr d_r_d; replace zp := Nat.lt_of_lt_of_le zp gr.size; replace zz := Nat.lt_of_lt_of_le zz gr.size; replace zr := Nat.lt_of_lt_of_le zr gr.size; replace zd := Nat.lt_of_lt_of_le zd gr.size; replace bel := below_grown bel gr od bel.size; clear hd; have hd := hq; clear hq gr))
  with_reducible refine (rd_u16e _ _ _ _ _ _ _ hr rest).mono ?_
  rintro e w9 ⟨A8, n8, c8, x3, s3, es3, rfl, hq, sq, uq, b9⟩
  replace hb := hb.away av_hb_r b9
  replace hp := blk_away hp b9 zp d_p_r
  replace hz := blk_away hz b9 zz d_z_r
  replace hd := blk_away hd b9 zd (ne_symm d_r_d)
  replace zp := Nat.lt_of_lt_of_le zp b9.size
  replace zz := Nat.lt_of_lt_of_le zz b9.size
  replace zr := Nat.lt_of_lt_of_le zr b9.size
  replace zd := Nat.lt_of_lt_of_le zd b9.size
  replace bel := below_grown bel b9 or bel.size
  clear b9
  clear hr rest
  have hr := hq
  have rest := sq
  clear hq sq
  have av8_rest_p := av5_rest_p.sub uq
  have av8_rest_z := av5_rest_z.sub uq
  have av8_rest_r := av5_rest_r.sub uq
  have av8_rest_d := av_rest_d.sub uq
  clear uq
  go_wp2_with fail
  with_reducible refine (rd_u16e _ _ _ _ _ _ _ hr rest).mono ?_
  rintro e w10 ⟨A9, n9, c9, x4, s4, es4, rfl, hq, sq, uq, b10⟩
  replace hb := hb.away av_hb_r b10
  replace hp := blk_away hp b10 zp d_p_r
  replace hz := blk_away hz b10 zz d_z_r
  replace hd := blk_away hd b10 zd (ne_symm d_r_d)
  replace zp := Nat.lt_of_lt_of_le zp b10.size
  replace zz := Nat.lt_of_lt_of_le zz b10.size
  replace zr := Nat.lt_of_lt_of_le zr b10.size
  replace zd := Nat.lt_of_lt_of_le zd b10.size
  replace bel := below_grown bel b10 or bel.size
  clear b10
  clear hr rest
  have hr := hq
  have rest := sq
  clear hq sq
  have av9_rest_p := av8_rest_p.sub uq
  have av9_rest_z := av8_rest_z.sub uq
  have av9_rest_r := av8_rest_r.sub uq
  have av9_rest_d := av8_rest_d.sub uq
  clear uq
  go_wp2_with fail
  with_reducible refine (rd_short _ _ _ _ _ _ _ hr rest).mono ?_
  rintro e _ ⟨rfl, rfl⟩
  obtain rfl : s4 = true := by rw [es4.out, decide_eq_true (by have := HL.out; have := HN.out; simp only [List.length_drop]; omega), Bool.or_true]
  go_wp2_with (first | ((with_reducible show wpList _ _ _ (⟨none, Op.store _ (.tmp 2) _, _, _, _, _⟩ :: _) _ _); refine wpList_store_blk rfl 33 (.tmp 2) (.tmp 37) rfl g2 rfl #[.int .i64 0, .int .i64 0, .slice none 0 0] rfl _ 33 hz (by rfl) (by kernel_rfl) (by kernel_rfl) ?_; intro w11 hq gr; replace hb := hb.away av_hb_z gr; replace rest := rest.away av9_rest_z gr; replace hp := blk_away hp gr zp d_p_z; replace hr := blk_away hr gr zr (ne_symm d_z_r); replace hd := blk_away hd gr zd (ne_symm d_z_d); replace zp := Nat.lt_of_lt_of_le zp gr.size; replace zz := Nat.lt_of_lt_of_le zz gr.size; replace zr := Nat.lt_of_lt_of_le zr gr.size; replace zd := Nat.lt_of_lt_of_le zd gr.size; replace bel := below_grown bel gr oz bel.size; clear hz; have hz := hq; clear hq gr))
  exact bodyPost_ret (results_cell_tmp_row rfl _ _ _ _ _ _ _ rfl hz Try.underlying33 rfl (by kernel_rfl) (.int .i64 3) rfl) rfl (UdPost.none HP.out.symm bel)
set_option maxRecDepth 100000 in
set_option maxHeartbeats 16000000 in
theorem udget_4 (tos id fl pt ttl : Int) (a0 a1 a2 a3 a4 a5 a6 a7 : UInt8) (So Sb : Option Addr) (no co nb cb : Nat) (h0 h1 h2 h3 h4 h5 h6 h7 : UInt8) (r : List UInt8) (ln sm : Nat) (w : World) (hb : Sl w Sb nb cb (h0 :: h1 :: h2 :: h3 :: h4 :: h5 :: h6 :: h7 :: r)) (hm : nb ≤ 100000) (hln : be [h4, h5] = ln) (hsm : be [h6, h7] = sm) (hw : (decide (pt = 0) && decide (fl % 2 = 0)) = true) (hx : nb < ln) : Calls Try.prog 11 #[.agg #[.int .i64 tos, .int .i64 id, .int .i64 fl, .int .i64 pt, .int .i64 ttl, .int .i64 17, .int .u8 (a0.toNat : Int), .int .u8 (a1.toNat : Int), .int .u8 (a2.toNat : Int), .int .u8 (a3.toNat : Int), .int .u8 (a4.toNat : Int), .int .u8 (a5.toNat : Int), .int .u8 (a6.toNat : Int), .int .u8 (a7.toNat : Int), .slice So no co, .slice Sb nb cb]] w (UdPost (udGet fl pt 17 a0 a1 a2 a3 a4 a5 a6 a7 (h0 :: h1 :: h2 :: h3 :: h4 :: h5 :: h6 :: h7 :: r)) w) := by
  have HP : Hid (udGet fl pt 17 a0 a1 a2 a3 a4 a5 a6 a7 (h0 :: h1 :: h2 :: h3 :: h4 :: h5 :: h6 :: h7 :: r) = ((0, 0), [], 3)) := Lib.hid (ud_err (by rw [ud_at hln hsm hw, if_pos (by rw [hb.1]; exact hx)]) (by decide))
  have HLN := Lib.hid hln
  have HSM := Lib.hid hsm
  have HM := Lib.hid hm
  have HW := Lib.hid hw
  have HL := Lib.hid hb.1
  have t0 : (nb : Int) < ln := by omega
  clear hln hsm hm hw hx
  have bel := Below.refl w.heap.size w
  go_enter Try.func11, Try.ntmps11
  go_wp2_with (first | ((with_reducible show wpList _ _ _ (⟨some 1, _, _, _, _, _⟩ :: _) _ _); refine wpList_box_n rfl 27 (.tmp 0) rfl #[.int .i64 tos, .int .i64 id, .int .i64 fl, .int .i64 pt, .int .i64 ttl, .int .i64 17, .int .u8 (a0.toNat : Int), .int .u8 (a1.toNat : Int), .int .u8 (a2.toNat : Int), .int .u8 (a3.toNat : Int), .int .u8 (a4.toNat : Int), .int .u8 (a5.toNat : Int), .int .u8 (a6.toNat : Int), .int .u8 (a7.toNat : Int), .slice So no co, .slice Sb nb cb] rfl ?_; intro g1 w1 ge lt hh bb; have av_hb_p := hb.av_new ge; have op := Nat.le_trans bel.size ge; replace hb := hb.below bb; replace bel := bel.trans (bb.mono bel.size); have hp := hh; have zp := lt; clear hh lt ge bb) | ((with_reducible show wpList _ _ _ (⟨some 2, _, _, _, _, _⟩ :: _) _ _); refine wpList_new_n rfl 33 rfl (.agg #[.int .i64 0, .int .i64 0, .slice none 0 0]) (by kernel_rfl) #[.int .i64 0, .int .i64 0, .slice none 0 0] rfl ?_; intro g2 w2 ge lt hh bb; have d_p_z := ne_new zp ge; have av_hb_z := hb.av_new ge; have oz := Nat.le_trans bel.size ge; replace hp := blk_under hp bb zp; replace zp := Nat.lt_of_lt_of_le zp bb.size; replace hb := hb.below bb; replace bel := bel.trans (bb.mono bel.size); have hz := hh; have zz := lt; clear hh lt ge bb; have R9 := cell_lit hp 5 _ rfl; have R12 := Lib.hid (range_lit hp 0 16 [.int .i64 tos, .int .i64 id, .int .i64 fl, .int .i64 pt, .int .i64 ttl, .int .i64 17, .int .u8 (a0.toNat : Int), .int .u8 (a1.toNat : Int), .int .u8 (a2.toNat : Int), .int .u8 (a3.toNat : Int), .int .u8 (a4.toNat : Int), .int .u8 (a5.toNat : Int), .int .u8 (a6.toNat : Int), .int .u8 (a7.toNat : Int), .slice So no co, .slice Sb nb cb] rfl)) | ((with_reducible show wpList _ _ _ (⟨some 12, _, _, _, _, _⟩ :: _) _ _); refine wpList_load_rng 27 (.tmp 1) rfl (by kernel_rfl) _ _ rfl _ R12.out _ Try.underlying27 rfl (by kernel_rfl) ?_))
  try clear R9
  try clear R12
  with_reducible refine (ipwhole_any _ _ _ _ _ _ _ _ _ _ _ _ _ _ _ _ _ _ _ _ _).mono ?_
  rintro e w3 ⟨rfl, b3⟩
  replace hp := blk_under hp b3 zp
  replace zp := Nat.lt_of_lt_of_le zp b3.size
  replace hz := blk_under hz b3 zz
  replace zz := Nat.lt_of_lt_of_le zz b3.size
  replace hb := hb.below b3
  replace bel := bel.trans (b3.mono bel.size)
  clear b3
  rw [HW.out]
  have R17 := cell_lit hp 15 _ rfl
  go_wp2_with fail
  clear R17
  with_reducible refine (rd_read _ _ _ _ _ hb (by have := HM.out; omega)).mono ?_
  rintro e w4 ⟨gr, Ar3, cr3, rfl, ge, hh, rest, frr, avr, b4⟩
  have av_rest_p := frr.av zp
  have av_rest_z := frr.av zz
  have lt := (Array.getElem?_eq_some_iff.1 hh).1
  have d_p_r := ne_new zp ge
  have d_z_r := ne_new zz ge
  have av_hb_r := hb.av_new ge
  have or := Nat.le_trans bel.size ge
  replace hp := blk_under hp b4 zp
  replace zp := Nat.lt_of_lt_of_le zp b4.size
  replace hz := blk_under hz b4 zz
  replace zz := Nat.lt_of_lt_of_le zz b4.size
  replace hb := hb.below b4
  replace bel := bel.trans (b4.mono bel.size)
  have hr := hh
  have zr := lt
  clear hh lt ge b4
  go_wp2_with fail
  with_reducible refine (rd_u16c _ _ _ _ _ _ _ _ _ hr rest).mono ?_
  rintro e w5 ⟨A4, n4, c4, rfl, hq, sq, uq, b5⟩
  replace hb := hb.away av_hb_r b5
  replace hp := blk_away hp b5 zp d_p_r
  replace hz := blk_away hz b5 zz d_z_r
  replace zp := Nat.lt_of_lt_of_le zp b5.size
  replace zz := Nat.lt_of_lt_of_le zz b5.size
  replace zr := Nat.lt_of_lt_of_le zr b5.size
  replace bel := below_grown bel b5 or bel.size
  clear b5
  clear hr rest
  have hr := hq
  have rest := sq
  clear hq sq
  have av4_rest_p := av_rest_p.sub uq
  have av4_rest_z := av_rest_z.sub uq
  have av4_rest_r := avr.sub uq
  clear uq
  go_wp2_with fail
  with_reducible refine (rd_u16c _ _ _ _ _ _ _ _ _ hr rest).mono ?_
  rintro e w6 ⟨A5, n5, c5, rfl, hq, sq, uq, b6⟩
  replace hb := hb.away av_hb_r b6
  replace hp := blk_away hp b6 zp d_p_r
  replace hz := blk_away hz b6 zz d_z_r
  replace zp := Nat.lt_of_lt_of_le zp b6.size
  replace zz := Nat.lt_of_lt_of_le zz b6.size
  replace zr := Nat.lt_of_lt_of_le zr b6.size
  replace bel := below_grown bel b6 or bel.size
  clear b6
  clear hr rest
  have hr := hq
  have rest := sq
  clear hq sq
  have av5_rest_p := av4_rest_p.sub uq
  have av5_rest_z := av4_rest_z.sub uq
  have av5_rest_r := av4_rest_r.sub uq
  clear uq
  go_wp2_with (first | ((with_reducible show wpList _ _ _ (⟨some 5, _, _, _, _, _⟩ :: _) _ _); refine wpList_new_n rfl 33 rfl (.agg #[.int .i64 0, .int .i64 0, .slice none 0 0]) (by kernel_rfl) #[.int .i64 0, .int .i64 0, .slice none 0 0] rfl ?_; intro g5 w7 ge lt hh bb; have d_p_d := ne_new zp ge; have d_z_d := ne_new zz ge; have d_r_d := ne_new zr ge; have av_hb_d := hb.av_new ge; have av_rest_d := rest.av_new ge; have od := Nat.le_trans bel.size ge; replace hp := blk_under hp bb zp; replace zp := Nat.lt_of_lt_of_le zp bb.size; replace hz := blk_under hz bb zz; replace zz := Nat.lt_of_lt_of_le zz bb.size; replace hr := blk_under hr bb zr; replace zr := Nat.lt_of_lt_of_le zr bb.size; replace hb := hb.below bb; replace rest := rest.below bb; replace bel := bel.trans (bb.mono bel.size); have hd := hh; have zd := lt; clear hh lt ge bb) | ((with_reducible show wpList _ _ _ (⟨none, Op.store _ (.tmp 5) _, _, _, _, _⟩ :: _) _ _); refine wpList_store_blk rfl 33 (.tmp 5) (.tmp 23) rfl g5 rfl #[.int .i64 ((be [h0, h1] : Nat) : Int), .int .i64 ((be [h2, h3] : Nat) : Int), .slice none 0 0] rfl _ 33 hd (by rfl) (by kernel_rfl) (by kernel_rfl) ?_; intro w8 hq gr; replace hb := hb.away av_hb_d gr; replace rest := rest.away av_rest_d gr; replace hp := blk_away hp gr zp d_p_d; replace hz := blk_away hz gr zz d_z_d; replace hr := blk_away hr gr zr d_r_d; replace zp := Nat.lt_of_lt_of_le zp gr.size; replace zz := Nat.lt_of_lt_of_le zz gr.size; replace zr := Nat.lt_of_lt_of_le zr gr.size; replace zd := Nat.lt_of_lt_of_le zd gr.size; replace bel := below_grown bel gr od bel.size; clear hd; have hd := hq; clear hq gr))
  with_reducible refine (rd_u16c _ _ _ _ _ _ _ _ _ hr rest).mono ?_
  rintro e w9 ⟨A8, n8, c8, rfl, hq, sq, uq, b9⟩
  replace hb := hb.away av_hb_r b9
  replace hp := blk_away hp b9 zp d_p_r
  replace hz := blk_away hz b9 zz d_z_r
  replace hd := blk_away hd b9 zd (ne_symm d_r_d)
  replace zp := Nat.lt_of_lt_of_le zp b9.size
  replace zz := Nat.lt_of_lt_of_le zz b9.size
  replace zr := Nat.lt_of_lt_of_le zr b9.size
  replace zd := Nat.lt_of_lt_of_le zd b9.size
  replace bel := below_grown bel b9 or bel.size
  clear b9
  clear hr rest
  have hr := hq
  have rest := sq
  clear hq sq
  have av8_rest_p := av5_rest_p.sub uq
  have av8_rest_z := av5_rest_z.sub uq
  have av8_rest_r := av5_rest_r.sub uq
  have av8_rest_d := av_rest_d.sub uq
  clear uq
  rw [HLN.out]
  go_wp2_with fail
  with_reducible refine (rd_u16c _ _ _ _ _ _ _ _ _ hr rest).mono ?_
  rintro e w10 ⟨A9, n9, c9, rfl, hq, sq, uq, b10⟩
  replace hb := hb.away av_hb_r b10
  replace hp := blk_away hp b10 zp d_p_r
  replace hz := blk_away hz b10 zz d_z_r
  replace hd := blk_away hd b10 zd (ne_symm d_r_d)
  replace zp := Nat.lt_of_lt_of_le zp b10.size
  replace zz := Nat.lt_of_lt_of_le zz b10.size
  replace zr := Nat.lt_of_lt_of_le zr b10.size
  replace zd := Nat.lt_of_lt_of_le zd b10.size
  replace bel := below_grown bel b10 or bel.size
  clear b10
  clear hr rest
  have hr := hq
  have rest := sq
  clear hq sq
  have av9_rest_p := av8_rest_p.sub uq
  have av9_rest_z := av8_rest_z.sub uq
  have av9_rest_r := av8_rest_r.sub uq
  have av9_rest_d := av8_rest_d.sub uq
  clear uq
  rw [HSM.out]
  go_wp2_with fail
  with_reducible refine (rd_short _ _ _ _ _ _ _ hr rest).mono ?_
  rintro e _ ⟨rfl, rfl⟩
  have R33 := cell_lit hp 15 _ rfl
  go_wp2_with (first | ((with_reducible show wpList _ _ _ (⟨none, Op.store _ (.tmp 2) _, _, _, _, _⟩ :: _) _ _); refine wpList_store_blk rfl 33 (.tmp 2) (.tmp 37) rfl g2 rfl #[.int .i64 0, .int .i64 0, .slice none 0 0] rfl _ 33 hz (by rfl) (by kernel_rfl) (by kernel_rfl) ?_; intro w11 hq gr; replace hb := hb.away av_hb_z gr; replace rest := rest.away av9_rest_z gr; replace hp := blk_away hp gr zp d_p_z; replace hr := blk_away hr gr zr (ne_symm d_z_r); replace hd := blk_away hd gr zd (ne_symm d_z_d); replace zp := Nat.lt_of_lt_of_le zp gr.size; replace zz := Nat.lt_of_lt_of_le zz gr.size; replace zr := Nat.lt_of_lt_of_le zr gr.size; replace zd := Nat.lt_of_lt_of_le zd gr.size; replace bel := below_grown bel gr oz bel.size; clear hz; have hz := hq; clear hq gr))
  try clear R33
  exact bodyPost_ret (results_cell_tmp_row rfl _ _ _ _ _ _ _ rfl hz Try.underlying33 rfl (by kernel_rfl) (.int .i64 3) rfl) rfl (UdPost.none HP.out.symm bel)
set_option maxRecDepth 100000 in
set_option maxHeartbeats 16000000 in
theorem udget_5 (tos id fl pt ttl : Int) (a0 a1 a2 a3 a4 a5 a6 a7 : UInt8) (So Sb : Option Addr) (no co nb cb : Nat) (h0 h1 h2 h3 h4 h5 h6 h7 : UInt8) (r : List UInt8) (ln sm : Nat) (w : World) (hb : Sl w Sb nb cb (h0 :: h1 :: h2 :: h3 :: h4 :: h5 :: h6 :: h7 :: r)) (hm : nb ≤ 100000) (hln : be [h4, h5] = ln) (hsm : be [h6, h7] = sm) (hw : (decide (pt = 0) && decide (fl % 2 = 0)) = true) (hx : ln ≤ nb) (hy : ln < 8) : Calls Try.prog 11 #[.agg #[.int .i64 tos, .int .i64 id, .int .i64 fl, .int .i64 pt, .int .i64 ttl, .int .i64 17, .int .u8 (a0.toNat : Int), .int .u8 (a1.toNat : Int), .int .u8 (a2.toNat : Int), .int .u8 (a3.toNat : Int), .int .u8 (a4.toNat : Int), .int .u8 (a5.toNat : Int), .int .u8 (a6.toNat : Int), .int .u8 (a7.toNat : Int), .slice So no co, .slice Sb nb cb]] w (UdPost (udGet fl pt 17 a0 a1 a2 a3 a4 a5 a6 a7 (h0 :: h1 :: h2 :: h3 :: h4 :: h5 :: h6 :: h7 :: r)) w) := by
  have HP : Hid (udGet fl pt 17 a0 a1 a2 a3 a4 a5 a6 a7 (h0 :: h1 :: h2 :: h3 :: h4 :: h5 :: h6 :: h7 :: r) = ((0, 0), [], 4)) := Lib.hid (ud_err (by rw [ud_at hln hsm hw, if_neg (by rw [hb.1]; omega), if_pos hy]) (by decide))
  have HLN := Lib.hid hln
  have HSM := Lib.hid hsm
  have HM := Lib.hid hm
  have HW := Lib.hid hw
  have HL := Lib.hid hb.1
  have t0 : decide (nb < ln) = false := decide_eq_false (by omega)
  have t1 : (ln : Int) < 8 := by omega
  clear hln hsm hm hw hx hy
  have bel := Below.refl w.heap.size w
  go_enter Try.func11, Try.ntmps11
  go_wp2_with (first | ((with_reducible show wpList _ _ _ (⟨some 1, _, _, _, _, _⟩ :: _) _ _); refine wpList_box_n rfl 27 (.tmp 0) rfl #[.int .i64 tos, .int .i64 id, .int .i64 fl, .int .i64 pt, .int .i64 ttl, .int .i64 17, .int .u8 (a0.toNat : Int), .int .u8 (a1.toNat : Int), .int .u8 (a2.toNat : Int), .int .u8 (a3.toNat : Int), .int .u8 (a4.toNat : Int), .int .u8 (a5.toNat : Int), .int .u8 (a6.toNat : Int), .int .u8 (a7.toNat : Int), .slice So no co, .slice Sb nb cb] rfl ?_; intro g1 w1 ge lt hh bb; have av_hb_p := hb.av_new ge; have op := Nat.le_trans bel.size ge; replace hb := hb.below bb; replace bel := bel.trans (bb.mono bel.size); have hp := hh; have zp := lt; clear hh lt ge bb) | ((with_reducible show wpList _ _ _ (⟨some 2, _, _, _, _, _⟩ :: _) _ _); refine wpList_new_n rfl 33 rfl (.agg #[.int .i64 0, .int .i64 0, .slice none 0 0]) (by kernel_rfl) #[.int .i64 0, .int .i64 0, .slice none 0 0] rfl ?_; intro g2 w2 ge lt hh bb; have d_p_z := ne_new zp ge; have av_hb_z := hb.av_new ge; have oz := Nat.le_trans bel.size ge; replace hp := blk_under hp bb zp; replace zp := Nat.lt_of_lt_of_le zp bb.size; replace hb := hb.below bb; replace bel := bel.trans (bb.mono bel.size); have hz := hh; have zz := lt; clear hh lt ge bb; have R9 := cell_lit hp 5 _ rfl; have R12 := Lib.hid (range_lit hp 0 16 [.int .i64 tos, .int .i64 id, .int .i64 fl, .int .i64 pt, .int .i64 ttl, .int .i64 17, .int .u8 (a0.toNat : Int), .int .u8 (a1.toNat : Int), .int .u8 (a2.toNat : Int), .int .u8 (a3.toNat : Int), .int .u8 (a4.toNat : Int), .int .u8 (a5.toNat : Int), .int .u8 (a6.toNat : Int), .int .u8 (a7.toNat : Int), .slice So no co, .slice Sb nb cb] rfl)) | ((with_reducible show wpList _ _ _ (⟨some 12, _, _, _, _, _⟩ :: _) _ _); refine wpList_load_rng 27 (.tmp 1) rfl (by kernel_rfl) _ _ rfl _ R12.out _ Try.underlying27 rfl (by kernel_rfl) ?_))
  try clear R9
  try clear R12
  with_reducible refine (ipwhole_any _ _ _ _ _ _ _ _ _ _ _ _ _ _ _ _ _ _ _ _ _).mono ?_
  rintro e w3 ⟨rfl, b3⟩
  replace hp := blk_under hp b3 zp
  replace zp := Nat.lt_of_lt_of_le zp b3.size
  replace hz := blk_under hz b3 zz
  replace zz := Nat.lt_of_lt_of_le zz b3.size
  replace hb := hb.below b3
  replace bel := bel.trans (b3.mono bel.size)
  clear b3
  rw [HW.out]
  have R17 := cell_lit hp 15 _ rfl
  go_wp2_with fail
  clear R17
  with_reducible refine (rd_read _ _ _ _ _ hb (by have := HM.out; omega)).mono ?_
  rintro e w4 ⟨gr, Ar3, cr3, rfl, ge, hh, rest, frr, avr, b4⟩
  have av_rest_p := frr.av zp
  have av_rest_z := frr.av zz
  have lt := (Array.getElem?_eq_some_iff.1 hh).1
  have d_p_r := ne_new zp ge
  have d_z_r := ne_new zz ge
  have av_hb_r := hb.av_new ge
  have or := Nat.le_trans bel.size ge
  replace hp := blk_under hp b4 zp
  replace zp := Nat.lt_of_lt_of_le zp b4.size
  replace hz := blk_under hz b4 zz
  replace zz := Nat.lt_of_lt_of_le zz b4.size
  replace hb := hb.below b4
  replace bel := bel.trans (b4.mono bel.size)
  have hr := hh
  have zr := lt
  clear hh lt ge b4
  go_wp2_with fail
  with_reducible refine (rd_u16c _ _ _ _ _ _ _ _ _ hr rest).mono ?_
  rintro e w5 ⟨A4, n4, c4, rfl, hq, sq, uq, b5⟩
  replace hb := hb.away av_hb_r b5
  replace hp := blk_away hp b5 zp d_p_r
  replace hz := blk_away hz b5 zz d_z_r
  replace zp := Nat.lt_of_lt_of_le zp b5.size
  replace zz := Nat.lt_of_lt_of_le zz b5.size
  replace zr := Nat.lt_of_lt_of_le zr b5.size
  replace bel := below_grown bel b5 or bel.size
  clear b5
  clear hr rest
  have hr := hq
  have rest := sq
  clear hq sq
  have av4_rest_p := av_rest_p.sub uq
  have av4_rest_z := av_rest_z.sub uq
  have av4_rest_r := avr.sub uq
  clear uq
  go_wp2_with fail
  with_reducible refine (rd_u16c _ _ _ _ _ _ _ _ _ hr rest).mono ?_
  rintro e w6 ⟨A5, n5, c5, rfl, hq, sq, uq, b6⟩
  replace hb := hb.away av_hb_r b6
  replace hp := blk_away hp b6 zp d_p_r
  replace hz := blk_away hz b6 zz d_z_r
  replace zp := Nat.lt_of_lt_of_le zp b6.size
  replace zz := Nat.lt_of_lt_of_le zz b6.size
  replace zr := Nat.lt_of_lt_of_le zr b6.size
  replace bel := below_grown bel b6 or bel.size
  clear b6
  clear hr rest
  have hr := hq
  have rest := sq
  clear hq sq
  have av5_rest_p := av4_rest_p.sub uq
  have av5_rest_z := av4_rest_z.sub uq
  have av5_rest_r := av4_rest_r.sub uq
  clear uq
  go_wp2_with (first | ((with_reducible show wpList _ _ _ (⟨some 5, _, _, _, _, _⟩ :: _) _ _); refine wpList_new_n rfl 33 rfl (.agg #[.int .i64 0, .int .i64 0, .slice none 0 0]) (by kernel_rfl) #[.int .i64 0, .int .i64 0, .slice none 0 0] rfl ?_; intro g5 w7 ge lt hh bb; have d_p_d := ne_new zp ge; have d_z_d := ne_new zz ge; have d_r_d := ne_new zr ge; have av_hb_d := hb.av_new ge; have av_rest_d := rest.av_new ge; have od := Nat.le_trans bel.size ge; replace hp := blk_under hp bb zp; replace zp := Nat.lt_of_lt_of_le zp bb.size; replace hz := blk_under hz bb zz; replace zz := Nat.lt_of_lt_of_le zz bb.size; replace hr := blk_under hr bb zr; replace zr := Nat.lt_of_lt_of_le zr bb.size; replace hb := hb.below bb; replace rest := rest.below bb; replace bel := bel.trans (bb.mono bel.size); have hd := hh; have zd := lt; clear hh lt ge bb) | ((with_reducible show wpList _ _ _ (⟨none, Op.store _ (.tmp 5) _, _, _, _, _⟩ :: _) _ _); refine wpList_store_blk rfl 33 (.tmp 5) (.tmp 23) rfl g5 rfl #[.int .i64 ((be [h0, h1] : Nat) : Int), .int .i64 ((be [h2, h3] : Nat) : Int), .slice none 0 0] rfl _ 33 hd (by rfl) (by kernel_rfl) (by kernel_rfl) ?_; intro w8 hq gr; replace hb := hb.away av_hb_d gr; replace rest := rest.away av_rest_d gr; replace hp := blk_away hp gr zp d_p_d; replace hz := blk_away hz gr zz d_z_d; replace hr := blk_away hr gr zr d_r_d; replace zp := Nat.lt_of_lt_of_le zp gr.size; replace zz := Nat.lt_of_lt_of_le zz gr.size; replace zr := Nat.lt_of_lt_of_le zr gr.size; replace zd := Nat.lt_of_lt_of_le zd gr.size; replace bel := below_grown bel gr od bel.size; clear hd; have hd := hq; clear hq gr))
  with_reducible refine (rd_u16c _ _ _ _ _ _ _ _ _ hr rest).mono ?_
  rintro e w9 ⟨A8, n8, c8, rfl, hq, sq, uq, b9⟩
  replace hb := hb.away av_hb_r b9
  replace hp := blk_away hp b9 zp d_p_r
  replace hz := blk_away hz b9 zz d_z_r
  replace hd := blk_away hd b9 zd (ne_symm d_r_d)
  replace zp := Nat.lt_of_lt_of_le zp b9.size
  replace zz := Nat.lt_of_lt_of_le zz b9.size
  replace zr := Nat.lt_of_lt_of_le zr b9.size
  replace zd := Nat.lt_of_lt_of_le zd b9.size
  replace bel := below_grown bel b9 or bel.size
  clear b9
  clear hr rest
  have hr := hq
  have rest := sq
  clear hq sq
  have av8_rest_p := av5_rest_p.sub uq
  have av8_rest_z := av5_rest_z.sub uq
  have av8_rest_r := av5_rest_r.sub uq
  have av8_rest_d := av_rest_d.sub uq
  clear uq
  rw [HLN.out]
  go_wp2_with fail
  with_reducible refine (rd_u16c _ _ _ _ _ _ _ _ _ hr rest).mono ?_
  rintro e w10 ⟨A9, n9, c9, rfl, hq, sq, uq, b10⟩
  replace hb := hb.away av_hb_r b10
  replace hp := blk_away hp b10 zp d_p_r
  replace hz := blk_away hz b10 zz d_z_r
  replace hd := blk_away hd b10 zd (ne_symm d_r_d)
  replace zp := Nat.lt_of_lt_of_le zp b10.size
  replace zz := Nat.lt_of_lt_of_le zz b10.size
  replace zr := Nat.lt_of_lt_of_le zr b10.size
  replace zd := Nat.lt_of_lt_of_le zd b10.size
  replace bel := below_grown bel b10 or bel.size
  clear b10
  clear hr rest
  have hr := hq
  have rest := sq
  clear hq sq
  have av9_rest_p := av8_rest_p.sub uq
  have av9_rest_z := av8_rest_z.sub uq
  have av9_rest_r := av8_rest_r.sub uq
  have av9_rest_d := av8_rest_d.sub uq
  clear uq
  rw [HSM.out]
  go_wp2_with fail
  with_reducible refine (rd_short _ _ _ _ _ _ _ hr rest).mono ?_
  rintro e _ ⟨rfl, rfl⟩
  have R33 := cell_lit hp 15 _ rfl
  go_wp2_with (first | ((with_reducible show wpList _ _ _ (⟨none, Op.store _ (.tmp 2) _, _, _, _, _⟩ :: _) _ _); refine wpList_store_blk rfl 33 (.tmp 2) (.tmp 40) rfl g2 rfl #[.int .i64 0, .int .i64 0, .slice none 0 0] rfl _ 33 hz (by rfl) (by kernel_rfl) (by kernel_rfl) ?_; intro w11 hq gr; replace hb := hb.away av_hb_z gr; replace rest := rest.away av9_rest_z gr; replace hp := blk_away hp gr zp d_p_z; replace hr := blk_away hr gr zr (ne_symm d_z_r); replace hd := blk_away hd gr zd (ne_symm d_z_d); replace zp := Nat.lt_of_lt_of_le zp gr.size; replace zz := Nat.lt_of_lt_of_le zz gr.size; replace zr := Nat.lt_of_lt_of_le zr gr.size; replace zd := Nat.lt_of_lt_of_le zd gr.size; replace bel := below_grown bel gr oz bel.size; clear hz; have hz := hq; clear hq gr))
  try clear R33
  exact bodyPost_ret (results_cell_tmp_row rfl _ _ _ _ _ _ _ rfl hz Try.underlying33 rfl (by kernel_rfl) (.int .i64 4) rfl) rfl (UdPost.none HP.out.symm bel)
set_option maxRecDepth 100000 in
set_option maxHeartbeats 16000000 in
theorem udget_6 (tos id fl pt ttl : Int) (a0 a1 a2 a3 a4 a5 a6 a7 : UInt8) (So Sb : Option Addr) (no co nb cb : Nat) (h0 h1 h2 h3 h4 h5 h6 h7 : UInt8) (r : List UInt8) (ln sm : Nat) (w : World) (hb : Sl w Sb nb cb (h0 :: h1 :: h2 :: h3 :: h4 :: h5 :: h6 :: h7 :: r)) (hm : nb ≤ 100000) (hln : be [h4, h5] = ln) (hsm : be [h6, h7] = sm) (hw : (decide (pt = 0) && decide (fl % 2 = 0)) = true) (hx : ln ≤ nb) (hy : 8 ≤ ln) (hz : sm ≠ 0) (hc : ck (l4Ps a0 a1 a2 a3 a4 a5 a6 a7 17 (ln : Int) ++ (h0 :: h1 :: h2 :: h3 :: h4 :: h5 :: h6 :: h7 :: r).take ln) ≠ 0) : Calls Try.prog 11 #[.agg #[.int .i64 tos, .int .i64 id, .int .i64 fl, .int .i64 pt, .int .i64 ttl, .int .i64 17, .int .u8 (a0.toNat : Int), .int .u8 (a1.toNat : Int), .int .u8 (a2.toNat : Int), .int .u8 (a3.toNat : Int), .int .u8 (a4.toNat : Int), .int .u8 (a5.toNat : Int), .int .u8 (a6.toNat : Int), .int .u8 (a7.toNat : Int), .slice So no co, .slice Sb nb cb]] w (UdPost (udGet fl pt 17 a0 a1 a2 a3 a4 a5 a6 a7 (h0 :: h1 :: h2 :: h3 :: h4 :: h5 :: h6 :: h7 :: r)) w) := by
  have HP : Hid (udGet fl pt 17 a0 a1 a2 a3 a4 a5 a6 a7 (h0 :: h1 :: h2 :: h3 :: h4 :: h5 :: h6 :: h7 :: r) = ((0, 0), [], 5)) := Lib.hid (ud_err (by rw [ud_at hln hsm hw, if_neg (by rw [hb.1]; omega), if_neg (by omega), if_pos ⟨hz, hc⟩]) (by decide))
  have HLN := Lib.hid hln
  have HSM := Lib.hid hsm
  have HM := Lib.hid hm
  have HW := Lib.hid hw
  have HL := Lib.hid hb.1
  have t0 : decide (nb < ln) = false := decide_eq_false (by omega)
  have t1 : decide ((ln : Int) < 8) = false := decide_eq_false (by omega)
  have HX := Lib.hid hx
  have HC : Hid (decide (ck (l4Ps a0 a1 a2 a3 a4 a5 a6 a7 17 (ln : Int) ++ (h0 :: h1 :: h2 :: h3 :: h4 :: h5 :: h6 :: h7 :: r).take ln) = 0) = false) := Lib.hid (decide_eq_false hc)
  have t2 : ((sm : Int) == 0) = false := by simpa using hz
  have t3 : ((sm : Int) != 0) = true := by simpa using hz
  clear hln hsm hm hw hx hy hz hc
  have bel := Below.refl w.heap.size w
  go_enter Try.func11, Try.ntmps11
  go_wp2_with (first | ((with_reducible show wpList _ _ _ (⟨some 1, _, _, _, _, _⟩ :: _) _ _); refine wpList_box_n rfl 27 (.tmp 0) rfl #[.int .i64 tos, .int .i64 id, .int .i64 fl, .int .i64 pt, .int .i64 ttl, .int .i64 17, .int .u8 (a0.toNat : Int), .int .u8 (a1.toNat : Int), .int .u8 (a2.toNat : Int), .int .u8 (a3.toNat : Int), .int .u8 (a4.toNat : Int), .int .u8 (a5.toNat : Int), .int .u8 (a6.toNat : Int), .int .u8 (a7.toNat : Int), .slice So no co, .slice Sb nb cb] rfl ?_; intro g1 w1 ge lt hh bb; have av_hb_p := hb.av_new ge; have op := Nat.le_trans bel.size ge; replace hb := hb.below bb; replace bel := bel.trans (bb.mono bel.size); have hp := hh; have zp := lt; clear hh lt ge bb) | ((with_reducible show wpList _ _ _ (⟨some 2, _, _, _, _, _⟩ :: _) _ _); refine wpList_new_n rfl 33 rfl (.agg #[.int .i64 0, .int .i64 0, .slice none 0 0]) (by kernel_rfl) #[.int .i64 0, .int .i64 0, .slice none 0 0] rfl ?_; intro g2 w2 ge lt hh bb; have d_p_z := ne_new zp ge; have av_hb_z := hb.av_new ge; have oz := Nat.le_trans bel.size ge; replace hp := blk_under hp bb zp; replace zp := Nat.lt_of_lt_of_le zp bb.size; replace hb := hb.below bb; replace bel := bel.trans (bb.mono bel.size); have hz := hh; have zz := lt; clear hh lt ge bb; have R9 := cell_lit hp 5 _ rfl; have R12 := Lib.hid (range_lit hp 0 16 [.int .i64 tos, .int .i64 id, .int .i64 fl, .int .i64 pt, .int .i64 ttl, .int .i64 17, .int .u8 (a0.toNat : Int), .int .u8 (a1.toNat : Int), .int .u8 (a2.toNat : Int), .int .u8 (a3.toNat : Int), .int .u8 (a4.toNat : Int), .int .u8 (a5.toNat : Int), .int .u8 (a6.toNat : Int), .int .u8 (a7.toNat : Int), .slice So no co, .slice Sb nb cb] rfl)) | ((with_reducible show wpList _ _ _ (⟨some 12, _, _, _, _, _⟩ :: _) _ _); refine wpList_load_rng 27 (.tmp 1) rfl (by kernel_rfl) _ _ rfl _ R12.out _ Try.underlying27 rfl (by kernel_rfl) ?_))
  try clear R9
  try clear R12
  with_reducible refine (ipwhole_any _ _ _ _ _ _ _ _ _ _ _ _ _ _ _ _ _ _ _ _ _).mono ?_
  rintro e w3 ⟨rfl, b3⟩
  replace hp := blk_under hp b3 zp
  replace zp := Nat.lt_of_lt_of_le zp b3.size
  replace hz := blk_under hz b3 zz
  replace zz := Nat.lt_of_lt_of_le zz b3.size
  replace hb := hb.below b3
  replace bel := bel.trans (b3.mono bel.size)
  clear b3
  rw [HW.out]
  have R17 := cell_lit hp 15 _ rfl
  go_wp2_with fail
  clear R17
  with_reducible refine (rd_read _ _ _ _ _ hb (by have := HM.out; omega)).mono ?_
  rintro e w4 ⟨gr, Ar3, cr3, rfl, ge, hh, rest, frr, avr, b4⟩
  have av_rest_p := frr.av zp
  have av_rest_z := frr.av zz
  have lt := (Array.getElem?_eq_some_iff.1 hh).1
  have d_p_r := ne_new zp ge
  have d_z_r := ne_new zz ge
  have av_hb_r := hb.av_new ge
  have or := Nat.le_trans bel.size ge
  replace hp := blk_under hp b4 zp
  replace zp := Nat.lt_of_lt_of_le zp b4.size
  replace hz := blk_under hz b4 zz
  replace zz := Nat.lt_of_lt_of_le zz b4.size
  replace hb := hb.below b4
  replace bel := bel.trans (b4.mono bel.size)
  have hr := hh
  have zr := lt
  clear hh lt ge b4
  go_wp2_with fail
  with_reducible refine (rd_u16c _ _ _ _ _ _ _ _ _ hr rest).mono ?_
  rintro e w5 ⟨A4, n4, c4, rfl, hq, sq, uq, b5⟩
  replace hb := hb.away av_hb_r b5
  replace hp := blk_away hp b5 zp d_p_r
  replace hz := blk_away hz b5 zz d_z_r
  replace zp := Nat.lt_of_lt_of_le zp b5.size
  replace zz := Nat.lt_of_lt_of_le zz b5.size
  replace zr := Nat.lt_of_lt_of_le zr b5.size
  replace bel := below_grown bel b5 or bel.size
  clear b5
  clear hr rest
  have hr := hq
  have rest := sq
  clear hq sq
  have av4_rest_p := av_rest_p.sub uq
  have av4_rest_z := av_rest_z.sub uq
  have av4_rest_r := avr.sub uq
  clear uq
  go_wp2_with fail
  with_reducible refine (rd_u16c _ _ _ _ _ _ _ _ _ hr rest).mono ?_
  rintro e w6 ⟨A5, n5, c5, rfl, hq, sq, uq, b6⟩
  replace hb := hb.away av_hb_r b6
  replace hp := blk_away hp b6 zp d_p_r
  replace hz := blk_away hz b6 zz d_z_r
  replace zp := Nat.lt_of_lt_of_le zp b6.size
  replace zz := Nat.lt_of_lt_of_le zz b6.size
  replace zr := Nat.lt_of_lt_of_le zr b6.size
  replace bel := below_grown bel b6 or bel.size
  clear b6
  clear hr rest
  have hr := hq
  have rest := sq
  clear hq sq
  have av5_rest_p := av4_rest_p.sub uq
  have av5_rest_z := av4_rest_z.sub uq
  have av5_rest_r := av4_rest_r.sub uq
  clear uq
  go_wp2_with (first | ((with_reducible show wpList _ _ _ (⟨some 5, _, _, _, _, _⟩ :: _) _ _); refine wpList_new_n rfl 33 rfl (.agg #[.int .i64 0, .int .i64 0, .slice none 0 0]) (by kernel_rfl) #[.int .i64 0, .int .i64 0, .slice none 0 0] rfl ?_; intro g5 w7 ge lt hh bb; have d_p_d := ne_new zp ge; have d_z_d := ne_new zz ge; have d_r_d := ne_new zr ge; have av_hb_d := hb.av_new ge; have av_rest_d := rest.av_new ge; have od := Nat.le_trans bel.size ge; replace hp := blk_under hp bb zp; replace zp := Nat.lt_of_lt_of_le zp bb.size; replace hz := blk_under hz bb zz; replace zz := Nat.lt_of_lt_of_le zz bb.size; replace hr := blk_under hr bb zr; replace zr := Nat.lt_of_lt_of_le zr bb.size; replace hb := hb.below bb; replace rest := rest.below bb; replace bel := bel.trans (bb.mono bel.size); have hd := hh; have zd := lt; clear hh lt ge bb) | ((with_reducible show wpList _ _ _ (⟨none, Op.store _ (.tmp 5) _, _, _, _, _⟩ :: _) _ _); refine wpList_store_blk rfl 33 (.tmp 5) (.tmp 23) rfl g5 rfl #[.int .i64 ((be [h0, h1] : Nat) : Int), .int .i64 ((be [h2, h3] : Nat) : Int), .slice none 0 0] rfl _ 33 hd (by rfl) (by kernel_rfl) (by kernel_rfl) ?_; intro w8 hq gr; replace hb := hb.away av_hb_d gr; replace rest := rest.away av_rest_d gr; replace hp := blk_away hp gr zp d_p_d; replace hz := blk_away hz gr zz d_z_d; replace hr := blk_away hr gr zr d_r_d; replace zp := Nat.lt_of_lt_of_le zp gr.size; replace zz := Nat.lt_of_lt_of_le zz gr.size; replace zr := Nat.lt_of_lt_of_le zr gr.size; replace zd := Nat.lt_of_lt_of_le zd gr.size; replace bel := below_grown bel gr od bel.size; clear hd; have hd := hq; clear hq gr))
  with_reducible refine (rd_u16c _ _ _ _ _ _ _ _ _ hr rest).mono ?_
  rintro e w9 ⟨A8, n8, c8, rfl, hq, sq, uq, b9⟩
  replace hb := hb.away av_hb_r b9
  replace hp := blk_away hp b9 zp d_p_r
  replace hz := blk_away hz b9 zz d_z_r
  replace hd := blk_away hd b9 zd (ne_symm d_r_d)
  replace zp := Nat.lt_of_lt_of_le zp b9.size
  replace zz := Nat.lt_of_lt_of_le zz b9.size
  replace zr := Nat.lt_of_lt_of_le zr b9.size
  replace zd := Nat.lt_of_lt_of_le zd b9.size
  replace bel := below_grown bel b9 or bel.size
  clear b9
  clear hr rest
  have hr := hq
  have rest := sq
  clear hq sq
  have av8_rest_p := av5_rest_p.sub uq
  have av8_rest_z := av5_rest_z.sub uq
  have av8_rest_r := av5_rest_r.sub uq
  have av8_rest_d := av_rest_d.sub uq
  clear uq
  rw [HLN.out]
  go_wp2_with fail
  with_reducible refine (rd_u16c _ _ _ _ _ _ _ _ _ hr rest).mono ?_
  rintro e w10 ⟨A9, n9, c9, rfl, hq, sq, uq, b10⟩
  replace hb := hb.away av_hb_r b10
  replace hp := blk_away hp b10 zp d_p_r
  replace hz := blk_away hz b10 zz d_z_r
  replace hd := blk_away hd b10 zd (ne_symm d_r_d)
  replace zp := Nat.lt_of_lt_of_le zp b10.size
  replace zz := Nat.lt_of_lt_of_le zz b10.size
  replace zr := Nat.lt_of_lt_of_le zr b10.size
  replace zd := Nat.lt_of_lt_of_le zd b10.size
  replace bel := below_grown bel b10 or bel.size
  clear b10
  clear hr rest
  have hr := hq
  have rest := sq
  clear hq sq
  have av9_rest_p := av8_rest_p.sub uq
  have av9_rest_z := av8_rest_z.sub uq
  have av9_rest_r := av8_rest_r.sub uq
  have av9_rest_d := av8_rest_d.sub uq
  clear uq
  rw [HSM.out]
  go_wp2_with fail
  with_reducible refine (rd_short _ _ _ _ _ _ _ hr rest).mono ?_
  rintro e _ ⟨rfl, rfl⟩
  have R33 := cell_lit hp 15 _ rfl
  have R44 := Lib.hid (range_lit hp 0 16 [.int .i64 tos, .int .i64 id, .int .i64 fl, .int .i64 pt, .int .i64 ttl, .int .i64 17, .int .u8 (a0.toNat : Int), .int .u8 (a1.toNat : Int), .int .u8 (a2.toNat : Int), .int .u8 (a3.toNat : Int), .int .u8 (a4.toNat : Int), .int .u8 (a5.toNat : Int), .int .u8 (a6.toNat : Int), .int .u8 (a7.toNat : Int), .slice So no co, .slice Sb nb cb] rfl)
  go_wp2_with (first | ((with_reducible show wpList _ _ _ (⟨some 44, _, _, _, _, _⟩ :: _) _ _); refine wpList_load_rng 27 (.tmp 1) rfl (by kernel_rfl) _ _ rfl _ R44.out _ Try.underlying27 rfl (by kernel_rfl) ?_))
  try clear R33
  try clear R44
  with_reducible refine (udfits_any _ _ _ _ _ 17 _ _ _ _ _ _ _ _ _ _ _ _ _ _ ln _ _ hb HX.out HM.out).mono ?_
  rintro e w11 ⟨rfl, b11⟩
  replace hp := blk_under hp b11 zp
  replace zp := Nat.lt_of_lt_of_le zp b11.size
  replace hz := blk_under hz b11 zz
  replace zz := Nat.lt_of_lt_of_le zz b11.size
  replace hr := blk_under hr b11 zr
  replace zr := Nat.lt_of_lt_of_le zr b11.size
  replace hd := blk_under hd b11 zd
  replace zd := Nat.lt_of_lt_of_le zd b11.size
  replace hb := hb.below b11
  replace rest := rest.below b11
  replace bel := bel.trans (b11.mono bel.size)
  clear b11
  rw [HC.out]
  go_wp2_with (first | ((with_reducible show wpList _ _ _ (⟨none, Op.store _ (.tmp 2) _, _, _, _, _⟩ :: _) _ _); refine wpList_store_blk rfl 33 (.tmp 2) (.tmp 49) rfl g2 rfl #[.int .i64 0, .int .i64 0, .slice none 0 0] rfl _ 33 hz (by rfl) (by kernel_rfl) (by kernel_rfl) ?_; intro w12 hq gr; replace hb := hb.away av_hb_z gr; replace rest := rest.away av9_rest_z gr; replace hp := blk_away hp gr zp d_p_z; replace hr := blk_away hr gr zr (ne_symm d_z_r); replace hd := blk_away hd gr zd (ne_symm d_z_d); replace zp := Nat.lt_of_lt_of_le zp gr.size; replace zz := Nat.lt_of_lt_of_le zz gr.size; replace zr := Nat.lt_of_lt_of_le zr gr.size; replace zd := Nat.lt_of_lt_of_le zd gr.size; replace bel := below_grown bel gr oz bel.size; clear hz; have hz := hq; clear hq gr))
  exact bodyPost_ret (results_cell_tmp_row rfl _ _ _ _ _ _ _ rfl hz Try.underlying33 rfl (by kernel_rfl) (.int .i64 5) rfl) rfl (UdPost.none HP.out.symm bel)
set_option maxRecDepth 100000 in
set_option maxHeartbeats 16000000 in
theorem udget_7 (tos id fl pt ttl : Int) (a0 a1 a2 a3 a4 a5 a6 a7 : UInt8) (So Sb : Option Addr) (no co nb cb : Nat) (h0 h1 h2 h3 h4 h5 h6 h7 : UInt8) (r : List UInt8) (ln sm : Nat) (w : World) (hb : Sl w Sb nb cb (h0 :: h1 :: h2 :: h3 :: h4 :: h5 :: h6 :: h7 :: r)) (hm : nb ≤ 100000) (hln : be [h4, h5] = ln) (hsm : be [h6, h7] = sm) (hw : (decide (pt = 0) && decide (fl % 2 = 0)) = true) (hx : ln ≤ nb) (hy : 8 ≤ ln) (hz : sm = 0) : Calls Try.prog 11 #[.agg #[.int .i64 tos, .int .i64 id, .int .i64 fl, .int .i64 pt, .int .i64 ttl, .int .i64 17, .int .u8 (a0.toNat : Int), .int .u8 (a1.toNat : Int), .int .u8 (a2.toNat : Int), .int .u8 (a3.toNat : Int), .int .u8 (a4.toNat : Int), .int .u8 (a5.toNat : Int), .int .u8 (a6.toNat : Int), .int .u8 (a7.toNat : Int), .slice So no co, .slice Sb nb cb]] w (UdPost (udGet fl pt 17 a0 a1 a2 a3 a4 a5 a6 a7 (h0 :: h1 :: h2 :: h3 :: h4 :: h5 :: h6 :: h7 :: r)) w) := by
  have HLN := Lib.hid hln
  have HSM := Lib.hid hsm
  have HM := Lib.hid hm
  have HW := Lib.hid hw
  have HL := Lib.hid hb.1
  have t0 : decide (nb < ln) = false := decide_eq_false (by omega)
  have t1 : decide ((ln : Int) < 8) = false := decide_eq_false (by omega)
  have HX := Lib.hid hx
  obtain ⟨k, hk⟩ : ∃ k, ln = k + 8 := ⟨ln - 8, by omega⟩
  have hkr : k ≤ r.length := by have := hb.1; simp at this; omega
  have HP : Hid (udGet fl pt 17 a0 a1 a2 a3 a4 a5 a6 a7 (h0 :: h1 :: h2 :: h3 :: h4 :: h5 :: h6 :: h7 :: r) = ((((be [h0, h1] : Nat) : Int), ((be [h2, h3] : Nat) : Int)), r.take k, 0)) := Lib.hid (ud_ok (by rw [ud_at hln hsm hw, if_neg (by rw [hb.1]; omega), if_neg (by omega), if_neg fun h => h.1 hz]) hln hk)
  have HKR := Lib.hid hkr
  have HKL : Hid ((r.take k).length = k) := Lib.hid (by rw [List.length_take]; omega)
  have hk8 : IntKind.i64.wrap ((ln : Int) - 8) = (k : Int) := by rw [show (ln : Int) - 8 = (k : Int) by omega]; exact IntWalk.i64_in _ (by have := hb.1; have := hb.2.2.1; unfold maxLen at this; simp only [List.length_cons] at *; omega)
  clear hk hkr
  have t2 : ((sm : Int) == 0) = true := by simpa using hz
  have t3 : ((sm : Int) != 0) = false := by simpa using hz
  clear hln hsm hm hw hx hy hz
  have bel := Below.refl w.heap.size w
  go_enter Try.func11, Try.ntmps11
  go_wp2_with (first | ((with_reducible show wpList _ _ _ (⟨some 1, _, _, _, _, _⟩ :: _) _ _); refine wpList_box_n rfl 27 (.tmp 0) rfl #[.int .i64 tos, .int .i64 id, .int .i64 fl, .int .i64 pt, .int .i64 ttl, .int .i64 17, .int .u8 (a0.toNat : Int), .int .u8 (a1.toNat : Int), .int .u8 (a2.toNat : Int), .int .u8 (a3.toNat : Int), .int .u8 (a4.toNat : Int), .int .u8 (a5.toNat : Int), .int .u8 (a6.toNat : Int), .int .u8 (a7.toNat : Int), .slice So no co, .slice Sb nb cb] rfl ?_; intro g1 w1 ge lt hh bb; have av_hb_p := hb.av_new ge; have op := Nat.le_trans bel.size ge; replace hb := hb.below bb; replace bel := bel.trans (bb.mono bel.size); have hp := hh; have zp := lt; clear hh lt ge bb) | ((with_reducible show wpList _ _ _ (⟨some 2, _, _, _, _, _⟩ :: _) _ _); refine wpList_new_n rfl 33 rfl (.agg #[.int .i64 0, .int .i64 0, .slice none 0 0]) (by kernel_rfl) #[.int .i64 0, .int .i64 0, .slice none 0 0] rfl ?_; intro g2 w2 ge lt hh bb; have d_p_z := ne_new zp ge; have av_hb_z := hb.av_new ge; have oz := Nat.le_trans bel.size ge; replace hp := blk_under hp bb zp; replace zp := Nat.lt_of_lt_of_le zp bb.size; replace hb := hb.below bb; replace bel := bel.trans (bb.mono bel.size); have hz := hh; have zz := lt; clear hh lt ge bb; have R9 := cell_lit hp 5 _ rfl; have R12 := Lib.hid (range_lit hp 0 16 [.int .i64 tos, .int .i64 id, .int .i64 fl, .int .i64 pt, .int .i64 ttl, .int .i64 17, .int .u8 (a0.toNat : Int), .int .u8 (a1.toNat : Int), .int .u8 (a2.toNat : Int), .int .u8 (a3.toNat : Int), .int .u8 (a4.toNat : Int), .int .u8 (a5.toNat : Int), .int .u8 (a6.toNat : Int), .int .u8 (a7.toNat : Int), .slice So no co, .slice Sb nb cb] rfl)) | ((with_reducible show wpList _ _ _ (⟨some 12, _, _, _, _, _⟩ :: _) _ _); refine wpList_load_rng 27 (.tmp 1) rfl (by kernel_rfl) _ _ rfl _ R12.out _ Try.underlying27 rfl (by kernel_rfl) ?_))
  try clear R9
  try clear R12
  with_reducible refine (ipwhole_any _ _ _ _ _ _ _ _ _ _ _ _ _ _ _ _ _ _ _ _ _).mono ?_
  rintro e w3 ⟨rfl, b3⟩
  replace hp := blk_under hp b3 zp
  replace zp := Nat.lt_of_lt_of_le zp b3.size
  replace hz := blk_under hz b3 zz
  replace zz := Nat.lt_of_lt_of_le zz b3.size
  replace hb := hb.below b3
  replace bel := bel.trans (b3.mono bel.size)
  clear b3
  rw [HW.out]
  have R17 := cell_lit hp 15 _ rfl
  go_wp2_with fail
  clear R17
  with_reducible refine (rd_read _ _ _ _ _ hb (by have := HM.out; omega)).mono ?_
  rintro e w4 ⟨gr, Ar3, cr3, rfl, ge, hh, rest, frr, avr, b4⟩
  have av_rest_p := frr.av zp
  have av_rest_z := frr.av zz
  have lt := (Array.getElem?_eq_some_iff.1 hh).1
  have d_p_r := ne_new zp ge
  have d_z_r := ne_new zz ge
  have av_hb_r := hb.av_new ge
  have or := Nat.le_trans bel.size ge
  replace hp := blk_under hp b4 zp
  replace zp := Nat.lt_of_lt_of_le zp b4.size
  replace hz := blk_under hz b4 zz
  replace zz := Nat.lt_of_lt_of_le zz b4.size
  replace hb := hb.below b4
  replace bel := bel.trans (b4.mono bel.size)
  have hr := hh
  have zr := lt
  clear hh lt ge b4
  go_wp2_with fail
  with_reducible refine (rd_u16c _ _ _ _ _ _ _ _ _ hr rest).mono ?_
  rintro e w5 ⟨A4, n4, c4, rfl, hq, sq, uq, b5⟩
  replace hb := hb.away av_hb_r b5
  replace hp := blk_away hp b5 zp d_p_r
  replace hz := blk_away hz b5 zz d_z_r
  replace zp := Nat.lt_of_lt_of_le zp b5.size
  replace zz := Nat.lt_of_lt_of_le zz b5.size
  replace zr := Nat.lt_of_lt_of_le zr b5.size
  replace bel := below_grown bel b5 or bel.size
  clear b5
  clear hr rest
  have hr := hq
  have rest := sq
  clear hq sq
  have av4_rest_p := av_rest_p.sub uq
  have av4_rest_z := av_rest_z.sub uq
  have av4_rest_r := avr.sub uq
  clear uq
  go_wp2_with fail
  with_reducible refine (rd_u16c _ _ _ _ _ _ _ _ _ hr rest).mono ?_
  rintro e w6 ⟨A5, n5, c5, rfl, hq, sq, uq, b6⟩
  replace hb := hb.away av_hb_r b6
  replace hp := blk_away hp b6 zp d_p_r
  replace hz := blk_away hz b6 zz d_z_r
  replace zp := Nat.lt_of_lt_of_le zp b6.size
  replace zz := Nat.lt_of_lt_of_le zz b6.size
  replace zr := Nat.lt_of_lt_of_le zr b6.size
  replace bel := below_grown bel b6 or bel.size
  clear b6
  clear hr rest
  have hr := hq
  have rest := sq
  clear hq sq
  have av5_rest_p := av4_rest_p.sub uq
  have av5_rest_z := av4_rest_z.sub uq
  have av5_rest_r := av4_rest_r.sub uq
  clear uq
  go_wp2_with (first | ((with_reducible show wpList _ _ _ (⟨some 5, _, _, _, _, _⟩ :: _) _ _); refine wpList_new_n rfl 33 rfl (.agg #[.int .i64 0, .int .i64 0, .slice none 0 0]) (by kernel_rfl) #[.int .i64 0, .int .i64 0, .slice none 0 0] rfl ?_; intro g5 w7 ge lt hh bb; have d_p_d := ne_new zp ge; have d_z_d := ne_new zz ge; have d_r_d := ne_new zr ge; have av_hb_d := hb.av_new ge; have av_rest_d := rest.av_new ge; have od := Nat.le_trans bel.size ge; replace hp := blk_under hp bb zp; replace zp := Nat.lt_of_lt_of_le zp bb.size; replace hz := blk_under hz bb zz; replace zz := Nat.lt_of_lt_of_le zz bb.size; replace hr := blk_under hr bb zr; replace zr := Nat.lt_of_lt_of_le zr bb.size; replace hb := hb.below bb; replace rest := rest.below bb; replace bel := bel.trans (bb.mono bel.size); have hd := hh; have zd := lt; clear hh lt ge bb) | ((with_reducible show wpList _ _ _ (⟨none, Op.store _ (.tmp 5) _, _, _, _, _⟩ :: _) _ _); refine wpList_store_blk rfl 33 (.tmp 5) (.tmp 23) rfl g5 rfl #[.int .i64 ((be [h0, h1] : Nat) : Int), .int .i64 ((be [h2, h3] : Nat) : Int), .slice none 0 0] rfl _ 33 hd (by rfl) (by kernel_rfl) (by kernel_rfl) ?_; intro w8 hq gr; replace hb := hb.away av_hb_d gr; replace rest := rest.away av_rest_d gr; replace hp := blk_away hp gr zp d_p_d; replace hz := blk_away hz gr zz d_z_d; replace hr := blk_away hr gr zr d_r_d; replace zp := Nat.lt_of_lt_of_le zp gr.size; replace zz := Nat.lt_of_lt_of_le zz gr.size; replace zr := Nat.lt_of_lt_of_le zr gr.size; replace zd := Nat.lt_of_lt_of_le zd gr.size; replace bel := below_grown bel gr od bel.size; clear hd; have hd := hq; clear hq gr))
  with_reducible refine (rd_u16c _ _ _ _ _ _ _ _ _ hr rest).mono ?_
  rintro e w9 ⟨A8, n8, c8, rfl, hq, sq, uq, b9⟩
  replace hb := hb.away av_hb_r b9
  replace hp := blk_away hp b9 zp d_p_r
  replace hz := blk_away hz b9 zz d_z_r
  replace hd := blk_away hd b9 zd (ne_symm d_r_d)
  replace zp := Nat.lt_of_lt_of_le zp b9.size
  replace zz := Nat.lt_of_lt_of_le zz b9.size
  replace zr := Nat.lt_of_lt_of_le zr b9.size
  replace zd := Nat.lt_of_lt_of_le zd b9.size
  replace bel := below_grown bel b9 or bel.size
  clear b9
  clear hr rest
  have hr := hq
  have rest := sq
  clear hq sq
  have av8_rest_p := av5_rest_p.sub uq
  have av8_rest_z := av5_rest_z.sub uq
  have av8_rest_r := av5_rest_r.sub uq
  have av8_rest_d := av_rest_d.sub uq
  clear uq
  rw [HLN.out]
  go_wp2_with fail
  with_reducible refine (rd_u16c _ _ _ _ _ _ _ _ _ hr rest).mono ?_
  rintro e w10 ⟨A9, n9, c9, rfl, hq, sq, uq, b10⟩
  replace hb := hb.away av_hb_r b10
  replace hp := blk_away hp b10 zp d_p_r
  replace hz := blk_away hz b10 zz d_z_r
  replace hd := blk_away hd b10 zd (ne_symm d_r_d)
  replace zp := Nat.lt_of_lt_of_le zp b10.size
  replace zz := Nat.lt_of_lt_of_le zz b10.size
  replace zr := Nat.lt_of_lt_of_le zr b10.size
  replace zd := Nat.lt_of_lt_of_le zd b10.size
  replace bel := below_grown bel b10 or bel.size
  clear b10
  clear hr rest
  have hr := hq
  have rest := sq
  clear hq sq
  have av9_rest_p := av8_rest_p.sub uq
  have av9_rest_z := av8_rest_z.sub uq
  have av9_rest_r := av8_rest_r.sub uq
  have av9_rest_d := av8_rest_d.sub uq
  clear uq
  rw [HSM.out]
  go_wp2_with fail
  with_reducible refine (rd_short _ _ _ _ _ _ _ hr rest).mono ?_
  rintro e _ ⟨rfl, rfl⟩
  have R33 := cell_lit hp 15 _ rfl
  go_wp2_with fail
  clear R33
  have ob := bel.size
  with_reducible refine (rd_bytes (k) _ _ _ _ _ _ _ hr rest (HKR.out) (by have hl := HL.out; simp only [List.length_cons] at hl; have := HKR.out; have := HM.out; omega)).mono ?_
  rintro e w11 ⟨Asb, csb, A10, n10, c10, rfl, hq, sq, uq, sb, frsb, b11⟩
  have av_sb_p := frsb.av zp
  have av_sb_z := frsb.av zz
  have av_sb_r := frsb.av zr
  have av_sb_d := frsb.av zd
  replace hb := hb.away av_hb_r b11
  replace hp := blk_away hp b11 zp d_p_r
  replace hz := blk_away hz b11 zz d_z_r
  replace hd := blk_away hd b11 zd (ne_symm d_r_d)
  replace zp := Nat.lt_of_lt_of_le zp b11.size
  replace zz := Nat.lt_of_lt_of_le zz b11.size
  replace zr := Nat.lt_of_lt_of_le zr b11.size
  replace zd := Nat.lt_of_lt_of_le zd b11.size
  replace bel := below_grown bel b11 or bel.size
  clear b11
  clear hr rest
  have hr := hq
  have rest := sq
  clear hq sq
  have av10_rest_p := av9_rest_p.sub uq
  have av10_rest_z := av9_rest_z.sub uq
  have av10_rest_r := av9_rest_r.sub uq
  have av10_rest_d := av9_rest_d.sub uq
  clear uq
  have frb := frsb.mono ob
  go_wp2_with (first | ((with_reducible show wpList _ _ _ (⟨none, Op.store _ (.tmp 54) _, _, _, _, _⟩ :: _) _ _); refine wpList_store_part rfl 25 (.tmp 54) (.tmp 53) rfl g5 2 rfl [.slice Asb k csb] rfl [.int .i64 ((be [h0, h1] : Nat) : Int), .int .i64 ((be [h2, h3] : Nat) : Int), .slice none 0 0] 33 hd (by simp) [.int .i64 ((be [h0, h1] : Nat) : Int), .int .i64 ((be [h2, h3] : Nat) : Int), .slice Asb k csb] rfl (by kernel_rfl) (by rfl) ?_; intro w12 hq gr; replace hb := hb.away av_hb_d gr; replace rest := rest.away av10_rest_d gr; replace sb := sb.away av_sb_d gr; replace hp := blk_away hp gr zp d_p_d; replace hz := blk_away hz gr zz d_z_d; replace hr := blk_away hr gr zr d_r_d; replace zp := Nat.lt_of_lt_of_le zp gr.size; replace zz := Nat.lt_of_lt_of_le zz gr.size; replace zr := Nat.lt_of_lt_of_le zr gr.size; replace zd := Nat.lt_of_lt_of_le zd gr.size; replace bel := below_grown bel gr od bel.size; clear hd; have hd := hq; clear hq gr; have R55 := Lib.hid (range_lit hd 0 3 [.int .i64 ((be [h0, h1] : Nat) : Int), .int .i64 ((be [h2, h3] : Nat) : Int), .slice Asb k csb] rfl)) | ((with_reducible show wpList _ _ _ (⟨some 55, _, _, _, _, _⟩ :: _) _ _); refine wpList_load_rng 33 (.tmp 5) rfl (by kernel_rfl) _ _ rfl _ R55.out _ Try.underlying33 rfl (by kernel_rfl) ?_) | ((with_reducible show wpList _ _ _ (⟨none, Op.store _ (.tmp 2) _, _, _, _, _⟩ :: _) _ _); refine wpList_store_blk rfl 33 (.tmp 2) (.tmp 55) rfl g2 rfl #[.int .i64 ((be [h0, h1] : Nat) : Int), .int .i64 ((be [h2, h3] : Nat) : Int), .slice Asb k csb] rfl _ 33 hz (by rfl) (by kernel_rfl) (by kernel_rfl) ?_; intro w13 hq gr; replace hb := hb.away av_hb_z gr; replace rest := rest.away av10_rest_z gr; replace sb := sb.away av_sb_z gr; replace hp := blk_away hp gr zp d_p_z; replace hr := blk_away hr gr zr (ne_symm d_z_r); replace hd := blk_away hd gr zd (ne_symm d_z_d); replace zp := Nat.lt_of_lt_of_le zp gr.size; replace zz := Nat.lt_of_lt_of_le zz gr.size; replace zr := Nat.lt_of_lt_of_le zr gr.size; replace zd := Nat.lt_of_lt_of_le zd gr.size; replace bel := below_grown bel gr oz bel.size; clear hz; have hz := hq; clear hq gr))
  try clear R55
  exact bodyPost_ret (results_cell_tmp_row rfl _ _ _ _ _ _ _ rfl hz Try.underlying33 rfl (by kernel_rfl) (.int .i64 0) rfl) rfl ⟨((be [h0, h1] : Nat) : Int), ((be [h2, h3] : Nat) : Int), r.take k, Asb, csb, 0, by rw [HKL.out], by rw [HKL.out]; exact sb, by rw [HKL.out]; exact frb, bel, HP.out.symm⟩
set_option maxRecDepth 100000 in
set_option maxHeartbeats 16000000 in
theorem udget_8 (tos id fl pt ttl : Int) (a0 a1 a2 a3 a4 a5 a6 a7 : UInt8) (So Sb : Option Addr) (no co nb cb : Nat) (h0 h1 h2 h3 h4 h5 h6 h7 : UInt8) (r : List UInt8) (ln sm : Nat) (w : World) (hb : Sl w Sb nb cb (h0 :: h1 :: h2 :: h3 :: h4 :: h5 :: h6 :: h7 :: r)) (hm : nb ≤ 100000) (hln : be [h4, h5] = ln) (hsm : be [h6, h7] = sm) (hw : (decide (pt = 0) && decide (fl % 2 = 0)) = true) (hx : ln ≤ nb) (hy : 8 ≤ ln) (hz : sm ≠ 0) (hc : ck (l4Ps a0 a1 a2 a3 a4 a5 a6 a7 17 (ln : Int) ++ (h0 :: h1 :: h2 :: h3 :: h4 :: h5 :: h6 :: h7 :: r).take ln) = 0) : Calls Try.prog 11 #[.agg #[.int .i64 tos, .int .i64 id, .int .i64 fl, .int .i64 pt, .int .i64 ttl, .int .i64 17, .int .u8 (a0.toNat : Int), .int .u8 (a1.toNat : Int), .int .u8 (a2.toNat : Int), .int .u8 (a3.toNat : Int), .int .u8 (a4.toNat : Int), .int .u8 (a5.toNat : Int), .int .u8 (a6.toNat : Int), .int .u8 (a7.toNat : Int), .slice So no co, .slice Sb nb cb]] w (UdPost (udGet fl pt 17 a0 a1 a2 a3 a4 a5 a6 a7 (h0 :: h1 :: h2 :: h3 :: h4 :: h5 :: h6 :: h7 :: r)) w) := by
  have HLN := Lib.hid hln
  have HSM := Lib.hid hsm
  have HM := Lib.hid hm
  have HW := Lib.hid hw
  have HL := Lib.hid hb.1
  have t0 : decide (nb < ln) = false := decide_eq_false (by omega)
  have t1 : decide ((ln : Int) < 8) = false := decide_eq_false (by omega)
  have HX := Lib.hid hx
  obtain ⟨k, hk⟩ : ∃ k, ln = k + 8 := ⟨ln - 8, by omega⟩
  have hkr : k ≤ r.length := by have := hb.1; simp at this; omega
  have HP : Hid (udGet fl pt 17 a0 a1 a2 a3 a4 a5 a6 a7 (h0 :: h1 :: h2 :: h3 :: h4 :: h5 :: h6 :: h7 :: r) = ((((be [h0, h1] : Nat) : Int), ((be [h2, h3] : Nat) : Int)), r.take k, 0)) := Lib.hid (ud_ok (by rw [ud_at hln hsm hw, if_neg (by rw [hb.1]; omega), if_neg (by omega), if_neg fun h => h.2 hc]) hln hk)
  have HKR := Lib.hid hkr
  have HKL : Hid ((r.take k).length = k) := Lib.hid (by rw [List.length_take]; omega)
  have hk8 : IntKind.i64.wrap ((ln : Int) - 8) = (k : Int) := by rw [show (ln : Int) - 8 = (k : Int) by omega]; exact IntWalk.i64_in _ (by have := hb.1; have := hb.2.2.1; unfold maxLen at this; simp only [List.length_cons] at *; omega)
  clear hk hkr
  have HC : Hid (decide (ck (l4Ps a0 a1 a2 a3 a4 a5 a6 a7 17 (ln : Int) ++ (h0 :: h1 :: h2 :: h3 :: h4 :: h5 :: h6 :: h7 :: r).take ln) = 0) = true) := Lib.hid (decide_eq_true hc)
  have t2 : ((sm : Int) == 0) = false := by simpa using hz
  have t3 : ((sm : Int) != 0) = true := by simpa using hz
  clear hln hsm hm hw hx hy hz hc
  have bel := Below.refl w.heap.size w
  go_enter Try.func11, Try.ntmps11
  go_wp2_with (first | ((with_reducible show wpList _ _ _ (⟨some 1, _, _, _, _, _⟩ :: _) _ _); refine wpList_box_n rfl 27 (.tmp 0) rfl #[.int .i64 tos, .int .i64 id, .int .i64 fl, .int .i64 pt, .int .i64 ttl, .int .i64 17, .int .u8 (a0.toNat : Int), .int .u8 (a1.toNat : Int), .int .u8 (a2.toNat : Int), .int .u8 (a3.toNat : Int), .int .u8 (a4.toNat : Int), .int .u8 (a5.toNat : Int), .int .u8 (a6.toNat : Int), .int .u8 (a7.toNat : Int), .slice So no co, .slice Sb nb cb] rfl ?_; intro g1 w1 ge lt hh bb; have av_hb_p := hb.av_new ge; have op := Nat.le_trans bel.size ge; replace hb := hb.below bb; replace bel := bel.trans (bb.mono bel.size); have hp := hh; have zp := lt; clear hh lt ge bb) | ((with_reducible show wpList _ _ _ (⟨some 2, _, _, _, _, _⟩ :: _) _ _); refine wpList_new_n rfl 33 rfl (.agg #[.int .i64 0, .int .i64 0, .slice none 0 0]) (by kernel_rfl) #[.int .i64 0, .int .i64 0, .slice none 0 0] rfl ?_; intro g2 w2 ge lt hh bb; have d_p_z := ne_new zp ge; have av_hb_z := hb.av_new ge; have oz := Nat.le_trans bel.size ge; replace hp := blk_under hp bb zp; replace zp := Nat.lt_of_lt_of_le zp bb.size; replace hb := hb.below bb; replace bel := bel.trans (bb.mono bel.size); have hz := hh; have zz := lt; clear hh lt ge bb; have R9 := cell_lit hp 5 _ rfl; have R12 := Lib.hid (range_lit hp 0 16 [.int .i64 tos, .int .i64 id, .int .i64 fl, .int .i64 pt, .int .i64 ttl, .int .i64 17, .int .u8 (a0.toNat : Int), .int .u8 (a1.toNat : Int), .int .u8 (a2.toNat : Int), .int .u8 (a3.toNat : Int), .int .u8 (a4.toNat : Int), .int .u8 (a5.toNat : Int), .int .u8 (a6.toNat : Int), .int .u8 (a7.toNat : Int), .slice So no co, .slice Sb nb cb] rfl)) | ((with_reducible show wpList _ _ _ (⟨some 12, _, _, _, _, _⟩ :: _) _ _); refine wpList_load_rng 27 (.tmp 1) rfl (by kernel_rfl) _ _ rfl _ R12.out _ Try.underlying27 rfl (by kernel_rfl) ?_))
  try clear R9
  try clear R12
  with_reducible refine (ipwhole_any _ _ _ _ _ _ _ _ _ _ _ _ _ _ _ _ _ _ _ _ _).mono ?_
  rintro e w3 ⟨rfl, b3⟩
  replace hp := blk_under hp b3 zp
  replace zp := Nat.lt_of_lt_of_le zp b3.size
  replace hz := blk_under hz b3 zz
  replace zz := Nat.lt_of_lt_of_le zz b3.size
  replace hb := hb.below b3
  replace bel := bel.trans (b3.mono bel.size)
  clear b3
  rw [HW.out]
  have R17 := cell_lit hp 15 _ rfl
  go_wp2_with fail
  clear R17
  with_reducible refine (rd_read _ _ _ _ _ hb (by have := HM.out; omega)).mono ?_
  rintro e w4 ⟨gr, Ar3, cr3, rfl, ge, hh, rest, frr, avr, b4⟩
  have av_rest_p := frr.av zp
  have av_rest_z := frr.av zz
  have lt := (Array.getElem?_eq_some_iff.1 hh).1
  have d_p_r := ne_new zp ge
  have d_z_r := ne_new zz ge
  have av_hb_r := hb.av_new ge
  have or := Nat.le_trans bel.size ge
  replace hp := blk_under hp b4 zp
  replace zp := Nat.lt_of_lt_of_le zp b4.size
  replace hz := blk_under hz b4 zz
  replace zz := Nat.lt_of_lt_of_le zz b4.size
  replace hb := hb.below b4
  replace bel := bel.trans (b4.mono bel.size)
  have hr := hh
  have zr := lt
  clear hh lt ge b4
  go_wp2_with fail
  with_reducible refine (rd_u16c _ _ _ _ _ _ _ _ _ hr rest).mono ?_
  rintro e w5 ⟨A4, n4, c4, rfl, hq, sq, uq, b5⟩
  replace hb := hb.away av_hb_r b5
  replace hp := blk_away hp b5 zp d_p_r
  replace hz := blk_away hz b5 zz d_z_r
  replace zp := Nat.lt_of_lt_of_le zp b5.size
  replace zz := Nat.lt_of_lt_of_le zz b5.size
  replace zr := Nat.lt_of_lt_of_le zr b5.size
  replace bel := below_grown bel b5 or bel.size
  clear b5
  clear hr rest
  have hr := hq
  have rest := sq
  clear hq sq
  have av4_rest_p := av_rest_p.sub uq
  have av4_rest_z := av_rest_z.sub uq
  have av4_rest_r := avr.sub uq
  clear uq
  go_wp2_with fail
  with_reducible refine (rd_u16c _ _ _ _ _ _ _ _ _ hr rest).mono ?_
  rintro e w6 ⟨A5, n5, c5, rfl, hq, sq, uq, b6⟩
  replace hb := hb.away av_hb_r b6
  replace hp := blk_away hp b6 zp d_p_r
  replace hz := blk_away hz b6 zz d_z_r
  replace zp := Nat.lt_of_lt_of_le zp b6.size
  replace zz := Nat.lt_of_lt_of_le zz b6.size
  replace zr := Nat.lt_of_lt_of_le zr b6.size
  replace bel := below_grown bel b6 or bel.size
  clear b6
  clear hr rest
  have hr := hq
  have rest := sq
  clear hq sq
  have av5_rest_p := av4_rest_p.sub uq
  have av5_rest_z := av4_rest_z.sub uq
  have av5_rest_r := av4_rest_r.sub uq
  clear uq
  go_wp2_with (first | ((with_reducible show wpList _ _ _ (⟨some 5, _, _, _, _, _⟩ :: _) _ _); refine wpList_new_n rfl 33 rfl (.agg #[.int .i64 0, .int .i64 0, .slice none 0 0]) (by kernel_rfl) #[.int .i64 0, .int .i64 0, .slice none 0 0] rfl ?_; intro g5 w7 ge lt hh bb; have d_p_d := ne_new zp ge; have d_z_d := ne_new zz ge; have d_r_d := ne_new zr ge; have av_hb_d := hb.av_new ge; have av_rest_d := rest.av_new ge; have od := Nat.le_trans bel.size ge; replace hp := blk_under hp bb zp; replace zp := Nat.lt_of_lt_of_le zp bb.size; replace hz := blk_under hz bb zz; replace zz := Nat.lt_of_lt_of_le zz bb.size; replace hr := blk_under hr bb zr; replace zr := Nat.lt_of_lt_of_le zr bb.size; replace hb := hb.below bb; replace rest := rest.below bb; replace bel := bel.trans (bb.mono bel.size); have hd := hh; have zd := lt; clear hh lt ge bb) | ((with_reducible show wpList _ _ _ (⟨none, Op.store _ (.tmp 5) _, _, _, _, _⟩ :: _) _ _); refine wpList_store_blk rfl 33 (.tmp 5) (.tmp 23) rfl g5 rfl #[.int .i64 ((be [h0, h1] : Nat) : Int), .int .i64 ((be [h2, h3] : Nat) : Int), .slice none 0 0] rfl _ 33 hd (by rfl) (by kernel_rfl) (by kernel_rfl) ?_; intro w8 hq gr; replace hb := hb.away av_hb_d gr; replace rest := rest.away av_rest_d gr; replace hp := blk_away hp gr zp d_p_d; replace hz := blk_away hz gr zz d_z_d; replace hr := blk_away hr gr zr d_r_d; replace zp := Nat.lt_of_lt_of_le zp gr.size; replace zz := Nat.lt_of_lt_of_le zz gr.size; replace zr := Nat.lt_of_lt_of_le zr gr.size; replace zd := Nat.lt_of_lt_of_le zd gr.size; replace bel := below_grown bel gr od bel.size; clear hd; have hd := hq; clear hq gr))
  with_reducible refine (rd_u16c _ _ _ _ _ _ _ _ _ hr rest).mono ?_
  rintro e w9 ⟨A8, n8, c8, rfl, hq, sq, uq, b9⟩
  replace hb := hb.away av_hb_r b9
  replace hp := blk_away hp b9 zp d_p_r
  replace hz := blk_away hz b9 zz d_z_r
  replace hd := blk_away hd b9 zd (ne_symm d_r_d)
  replace zp := Nat.lt_of_lt_of_le zp b9.size
  replace zz := Nat.lt_of_lt_of_le zz b9.size
  replace zr := Nat.lt_of_lt_of_le zr b9.size
  replace zd := Nat.lt_of_lt_of_le zd b9.size
  replace bel := below_grown bel b9 or bel.size
  clear b9
  clear hr rest
  have hr := hq
  have rest := sq
  clear hq sq
  have av8_rest_p := av5_rest_p.sub uq
  have av8_rest_z := av5_rest_z.sub uq
  have av8_rest_r := av5_rest_r.sub uq
  have av8_rest_d := av_rest_d.sub uq
  clear uq
  rw [HLN.out]
  go_wp2_with fail
  with_reducible refine (rd_u16c _ _ _ _ _ _ _ _ _ hr rest).mono ?_
  rintro e w10 ⟨A9, n9, c9, rfl, hq, sq, uq, b10⟩
  replace hb := hb.away av_hb_r b10
  replace hp := blk_away hp b10 zp d_p_r
  replace hz := blk_away hz b10 zz d_z_r
  replace hd := blk_away hd b10 zd (ne_symm d_r_d)
  replace zp := Nat.lt_of_lt_of_le zp b10.size
  replace zz := Nat.lt_of_lt_of_le zz b10.size
  replace zr := Nat.lt_of_lt_of_le zr b10.size
  replace zd := Nat.lt_of_lt_of_le zd b10.size
  replace bel := below_grown bel b10 or bel.size
  clear b10
  clear hr rest
  have hr := hq
  have rest := sq
  clear hq sq
  have av9_rest_p := av8_rest_p.sub uq
  have av9_rest_z := av8_rest_z.sub uq
  have av9_rest_r := av8_rest_r.sub uq
  have av9_rest_d := av8_rest_d.sub uq
  clear uq
  rw [HSM.out]
  go_wp2_with fail
  with_reducible refine (rd_short _ _ _ _ _ _ _ hr rest).mono ?_
  rintro e _ ⟨rfl, rfl⟩
  have R33 := cell_lit hp 15 _ rfl
  have R44 := Lib.hid (range_lit hp 0 16 [.int .i64 tos, .int .i64 id, .int .i64 fl, .int .i64 pt, .int .i64 ttl, .int .i64 17, .int .u8 (a0.toNat : Int), .int .u8 (a1.toNat : Int), .int .u8 (a2.toNat : Int), .int .u8 (a3.toNat : Int), .int .u8 (a4.toNat : Int), .int .u8 (a5.toNat : Int), .int .u8 (a6.toNat : Int), .int .u8 (a7.toNat : Int), .slice So no co, .slice Sb nb cb] rfl)
  go_wp2_with (first | ((with_reducible show wpList _ _ _ (⟨some 44, _, _, _, _, _⟩ :: _) _ _); refine wpList_load_rng 27 (.tmp 1) rfl (by kernel_rfl) _ _ rfl _ R44.out _ Try.underlying27 rfl (by kernel_rfl) ?_))
  try clear R33
  try clear R44
  with_reducible refine (udfits_any _ _ _ _ _ 17 _ _ _ _ _ _ _ _ _ _ _ _ _ _ ln _ _ hb HX.out HM.out).mono ?_
  rintro e w11 ⟨rfl, b11⟩
  replace hp := blk_under hp b11 zp
  replace zp := Nat.lt_of_lt_of_le zp b11.size
  replace hz := blk_under hz b11 zz
  replace zz := Nat.lt_of_lt_of_le zz b11.size
  replace hr := blk_under hr b11 zr
  replace zr := Nat.lt_of_lt_of_le zr b11.size
  replace hd := blk_under hd b11 zd
  replace zd := Nat.lt_of_lt_of_le zd b11.size
  replace hb := hb.below b11
  replace rest := rest.below b11
  replace bel := bel.trans (b11.mono bel.size)
  clear b11
  rw [HC.out]
  go_wp2_with fail
  have ob := bel.size
  with_reducible refine (rd_bytes (k) _ _ _ _ _ _ _ hr rest (HKR.out) (by have hl := HL.out; simp only [List.length_cons] at hl; have := HKR.out; have := HM.out; omega)).mono ?_
  rintro e w12 ⟨Asb, csb, A11, n11, c11, rfl, hq, sq, uq, sb, frsb, b12⟩
  have av_sb_p := frsb.av zp
  have av_sb_z := frsb.av zz
  have av_sb_r := frsb.av zr
  have av_sb_d := frsb.av zd
  replace hb := hb.away av_hb_r b12
  replace hp := blk_away hp b12 zp d_p_r
  replace hz := blk_away hz b12 zz d_z_r
  replace hd := blk_away hd b12 zd (ne_symm d_r_d)
  replace zp := Nat.lt_of_lt_of_le zp b12.size
  replace zz := Nat.lt_of_lt_of_le zz b12.size
  replace zr := Nat.lt_of_lt_of_le zr b12.size
  replace zd := Nat.lt_of_lt_of_le zd b12.size
  replace bel := below_grown bel b12 or bel.size
  clear b12
  clear hr rest
  have hr := hq
  have rest := sq
  clear hq sq
  have av11_rest_p := av9_rest_p.sub uq
  have av11_rest_z := av9_rest_z.sub uq
  have av11_rest_r := av9_rest_r.sub uq
  have av11_rest_d := av9_rest_d.sub uq
  clear uq
  have frb := frsb.mono ob
  go_wp2_with (first | ((with_reducible show wpList _ _ _ (⟨none, Op.store _ (.tmp 54) _, _, _, _, _⟩ :: _) _ _); refine wpList_store_part rfl 25 (.tmp 54) (.tmp 53) rfl g5 2 rfl [.slice Asb k csb] rfl [.int .i64 ((be [h0, h1] : Nat) : Int), .int .i64 ((be [h2, h3] : Nat) : Int), .slice none 0 0] 33 hd (by simp) [.int .i64 ((be [h0, h1] : Nat) : Int), .int .i64 ((be [h2, h3] : Nat) : Int), .slice Asb k csb] rfl (by kernel_rfl) (by rfl) ?_; intro w13 hq gr; replace hb := hb.away av_hb_d gr; replace rest := rest.away av11_rest_d gr; replace sb := sb.away av_sb_d gr; replace hp := blk_away hp gr zp d_p_d; replace hz := blk_away hz gr zz d_z_d; replace hr := blk_away hr gr zr d_r_d; replace zp := Nat.lt_of_lt_of_le zp gr.size; replace zz := Nat.lt_of_lt_of_le zz gr.size; replace zr := Nat.lt_of_lt_of_le zr gr.size; replace zd := Nat.lt_of_lt_of_le zd gr.size; replace bel := below_grown bel gr od bel.size; clear hd; have hd := hq; clear hq gr; have R55 := Lib.hid (range_lit hd 0 3 [.int .i64 ((be [h0, h1] : Nat) : Int), .int .i64 ((be [h2, h3] : Nat) : Int), .slice Asb k csb] rfl)) | ((with_reducible show wpList _ _ _ (⟨some 55, _, _, _, _, _⟩ :: _) _ _); refine wpList_load_rng 33 (.tmp 5) rfl (by kernel_rfl) _ _ rfl _ R55.out _ Try.underlying33 rfl (by kernel_rfl) ?_) | ((with_reducible show wpList _ _ _ (⟨none, Op.store _ (.tmp 2) _, _, _, _, _⟩ :: _) _ _); refine wpList_store_blk rfl 33 (.tmp 2) (.tmp 55) rfl g2 rfl #[.int .i64 ((be [h0, h1] : Nat) : Int), .int .i64 ((be [h2, h3] : Nat) : Int), .slice Asb k csb] rfl _ 33 hz (by rfl) (by kernel_rfl) (by kernel_rfl) ?_; intro w14 hq gr; replace hb := hb.away av_hb_z gr; replace rest := rest.away av11_rest_z gr; replace sb := sb.away av_sb_z gr; replace hp := blk_away hp gr zp d_p_z; replace hr := blk_away hr gr zr (ne_symm d_z_r); replace hd := blk_away hd gr zd (ne_symm d_z_d); replace zp := Nat.lt_of_lt_of_le zp gr.size; replace zz := Nat.lt_of_lt_of_le zz gr.size; replace zr := Nat.lt_of_lt_of_le zr gr.size; replace zd := Nat.lt_of_lt_of_le zd gr.size; replace bel := below_grown bel gr oz bel.size; clear hz; have hz := hq; clear hq gr))
  try clear R55
  exact bodyPost_ret (results_cell_tmp_row rfl _ _ _ _ _ _ _ rfl hz Try.underlying33 rfl (by kernel_rfl) (.int .i64 0) rfl) rfl ⟨((be [h0, h1] : Nat) : Int), ((be [h2, h3] : Nat) : Int), r.take k, Asb, csb, 0, by rw [HKL.out], by rw [HKL.out]; exact sb, by rw [HKL.out]; exact frb, bel, HP.out.symm⟩
theorem udget_any (tos id fl pt ttl pr : Int) (a0 a1 a2 a3 a4 a5 a6 a7 : UInt8) (So Sb : Option Addr) (no co nb cb : Nat) (lb : List UInt8) (w : World) (hb : Sl w Sb nb cb lb) (hm : nb ≤ 100000) : Calls Try.prog 11 #[.agg #[.int .i64 tos, .int .i64 id, .int .i64 fl, .int .i64 pt, .int .i64 ttl, .int .i64 pr, .int .u8 (a0.toNat : Int), .int .u8 (a1.toNat : Int), .int .u8 (a2.toNat : Int), .int .u8 (a3.toNat : Int), .int .u8 (a4.toNat : Int), .int .u8 (a5.toNat : Int), .int .u8 (a6.toNat : Int), .int .u8 (a7.toNat : Int), .slice So no co, .slice Sb nb cb]] w (UdPost (udGet fl pt pr a0 a1 a2 a3 a4 a5 a6 a7 lb) w) := by
  by_cases hp : pr = 17
  · subst hp
    rcases (by decide : ∀ b : Bool, b = true ∨ b = false) (decide (pt = 0) && decide (fl % 2 = 0)) with hw | hw
    · by_cases hn : nb < 8
      · exact udget_3 tos id fl pt ttl a0 a1 a2 a3 a4 a5 a6 a7 So Sb no co nb cb lb w hb hw hn
      · obtain ⟨h0, h1, h2, h3, h4, h5, h6, h7, r, rfl⟩ := list8 lb (by rw [hb.1]; omega)
        by_cases hx : be [h4, h5] ≤ nb
        · by_cases hy : 8 ≤ be [h4, h5]
          · by_cases hz : be [h6, h7] = 0
            · exact udget_7 tos id fl pt ttl a0 a1 a2 a3 a4 a5 a6 a7 So Sb no co nb cb h0 h1 h2 h3 h4 h5 h6 h7 r _ _ w hb hm rfl rfl hw hx hy hz
            · by_cases hc : ck (l4Ps a0 a1 a2 a3 a4 a5 a6 a7 17 (be [h4, h5] : Nat) ++ (h0 :: h1 :: h2 :: h3 :: h4 :: h5 :: h6 :: h7 :: r).take (be [h4, h5])) = 0
              · exact udget_8 tos id fl pt ttl a0 a1 a2 a3 a4 a5 a6 a7 So Sb no co nb cb h0 h1 h2 h3 h4 h5 h6 h7 r _ _ w hb hm rfl rfl hw hx hy hz hc
              · exact udget_6 tos id fl pt ttl a0 a1 a2 a3 a4 a5 a6 a7 So Sb no co nb cb h0 h1 h2 h3 h4 h5 h6 h7 r _ _ w hb hm rfl rfl hw hx hy hz hc
          · exact udget_5 tos id fl pt ttl a0 a1 a2 a3 a4 a5 a6 a7 So Sb no co nb cb h0 h1 h2 h3 h4 h5 h6 h7 r _ _ w hb hm rfl rfl hw hx (by omega)
        · exact udget_4 tos id fl pt ttl a0 a1 a2 a3 a4 a5 a6 a7 So Sb no co nb cb h0 h1 h2 h3 h4 h5 h6 h7 r _ _ w hb hm rfl rfl hw (by omega)
    · exact udget_2 tos id fl pt ttl a0 a1 a2 a3 a4 a5 a6 a7 So Sb no co nb cb lb w hw
  · exact udget_1 tos id fl pt ttl pr a0 a1 a2 a3 a4 a5 a6 a7 So Sb no co nb cb lb w hp
end Go.Proofs.Ythikedajhocdkaa
