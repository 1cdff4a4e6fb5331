/- Texts put together: Ud2, Udf, Na1. -/
import Derived.Test.YtbdaejodbcjmfaaGreatQ1
import Derived.Test.YtbdaejodbcjmfaaGreatQ7
import Derived.Test.YtbdaejodbcjmfaaGreatQ8
import Derived.Test.YtbdaejodbcjmfaaGreatQ9
import Derived.Deep.CutRange
namespace Go.Proofs.YtbdaejodbcjmfaaGreat
open Go.RowKit

set_option maxRecDepth 100000 in
set_option maxHeartbeats 16000000 in
theorem udget_7 (tos id fl pt ttl : Int) (a0 a1 a2 a3 a4 a5 a6 a7 : UInt8) (So Sb : Option Addr) (no co nb cb : Nat) (h0 h1 h2 h3 h4 h5 h6 h7 : UInt8) (r : List UInt8) (ln sm : Nat) (w : World) (hb : Sl w Sb nb cb (h0 :: h1 :: h2 :: h3 :: h4 :: h5 :: h6 :: h7 :: r)) (hm : nb ≤ 100000) (hln : be [h4, h5] = ln) (hsm : be [h6, h7] = sm) (hw : (decide (pt = 0) && decide (fl % 2 = 0)) = true) (hx : ln ≤ nb) (hy : 8 ≤ ln) (hz : sm = 0) : Calls Tryz.prog 24 #[.agg #[.int .i64 tos, .int .i64 id, .int .i64 fl, .int .i64 pt, .int .i64 ttl, .int .i64 17, .int .u8 (a0.toNat : Int), .int .u8 (a1.toNat : Int), .int .u8 (a2.toNat : Int), .int .u8 (a3.toNat : Int), .int .u8 (a4.toNat : Int), .int .u8 (a5.toNat : Int), .int .u8 (a6.toNat : Int), .int .u8 (a7.toNat : Int), .slice So no co, .slice Sb nb cb]] w (UdPost (udGet fl pt 17 a0 a1 a2 a3 a4 a5 a6 a7 (h0 :: h1 :: h2 :: h3 :: h4 :: h5 :: h6 :: h7 :: r)) w) := by
  have HLN := Lib.hid hln
  have HSM := Lib.hid hsm
  have HM := Lib.hid hm
  have HW := Lib.hid hw
  have HL := Lib.hid hb.1
  have t0 : decide (nb < ln) = false := decide_eq_false (by omega)
  have t1 : decide ((ln : Int) < 8) = false := decide_eq_false (by omega)
  have HX := Lib.hid hx
  obtain ⟨k, hk⟩ : ∃ k, ln = k + 8 := ⟨ln - 8, by omega⟩
  have hkr : k ≤ r.length := by have := hb.1; simp at this; omega
  have HP : Hid (udGet fl pt 17 a0 a1 a2 a3 a4 a5 a6 a7 (h0 :: h1 :: h2 :: h3 :: h4 :: h5 :: h6 :: h7 :: r) = ((((be [h0, h1] : Nat) : Int), ((be [h2, h3] : Nat) : Int)), r.take k, 0)) := Lib.hid (ud_ok (by rw [ud_at hln hsm hw, if_neg (by rw [hb.1]; omega), if_neg (by omega), if_neg fun h => h.1 hz]) hln hk)
  have HKR := Lib.hid hkr
  have HKL : Hid ((r.take k).length = k) := Lib.hid (by rw [List.length_take]; omega)
  have hk8 : IntKind.i64.wrap ((ln : Int) - 8) = (k : Int) := by rw [show (ln : Int) - 8 = (k : Int) by omega]; exact IntWalk.i64_in _ (by have := hb.1; have := hb.2.2.1; unfold maxLen at this; simp only [List.length_cons] at *; omega)
  clear hk hkr
  have t2 : ((sm : Int) == 0) = true := by simpa using hz
  have t3 : ((sm : Int) != 0) = false := by simpa using hz
  clear hln hsm hm hw hx hy hz
  have bel := Below.refl w.heap.size w
  go_enter Tryz.func24, Tryz.ntmps24
  go_wp2_with (first | ((with_reducible show wpList _ _ _ (⟨some 1, _, _, _, _, _⟩ :: _) _ _); refine wpList_box_n rfl 38 (.tmp 0) rfl #[.int .i64 tos, .int .i64 id, .int .i64 fl, .int .i64 pt, .int .i64 ttl, .int .i64 17, .int .u8 (a0.toNat : Int), .int .u8 (a1.toNat : Int), .int .u8 (a2.toNat : Int), .int .u8 (a3.toNat : Int), .int .u8 (a4.toNat : Int), .int .u8 (a5.toNat : Int), .int .u8 (a6.toNat : Int), .int .u8 (a7.toNat : Int), .slice So no co, .slice Sb nb cb] rfl ?_; intro g1 w1 ge lt hh bb; have av_hb_p := hb.av_new ge; have op := Nat.le_trans bel.size ge; replace hb := hb.below bb; replace bel := bel.trans (bb.mono bel.size); have hp := hh; clear hh lt ge bb) | ((with_reducible show wpList _ _ _ (⟨some 2, _, _, _, _, _⟩ :: _) _ _); refine wpList_new_a rfl 54 rfl #[.int .i64 0, .int .i64 0, .slice none 0 0] (by kernel_rfl) ?_; intro g2 w2 ge hh bb; have d_p_z := ne_new (hlt hp) ge; have av_hb_z := hb.av_new ge; have oz := Nat.le_trans bel.size ge; replace hp := blk_u hp bb; replace hb := hb.below bb; replace bel := bel.trans (bb.mono bel.size); have hz := hh; clear hh ge bb; have R9 := cell_lit hp 5 _ rfl; have R12 := Lib.hid (range_lit hp 0 16 [.int .i64 tos, .int .i64 id, .int .i64 fl, .int .i64 pt, .int .i64 ttl, .int .i64 17, .int .u8 (a0.toNat : Int), .int .u8 (a1.toNat : Int), .int .u8 (a2.toNat : Int), .int .u8 (a3.toNat : Int), .int .u8 (a4.toNat : Int), .int .u8 (a5.toNat : Int), .int .u8 (a6.toNat : Int), .int .u8 (a7.toNat : Int), .slice So no co, .slice Sb nb cb] rfl)) | ((with_reducible show wpList _ _ _ (⟨some 12, _, _, _, _, _⟩ :: _) _ _); refine wpList_load_rng 38 (.tmp 1) rfl (by kernel_rfl) _ _ rfl _ R12.out _ Tryz.underlying38 rfl (by kernel_rfl) ?_))
  try clear R9
  try clear R12
  with_reducible refine (ipwhole_any _ _ _ _ _ _ _ _ _ _ _ _ _ _ _ _ _ _ _ _ _).mono ?_
  rintro e w3 ⟨rfl, b3⟩
  replace hp := blk_u hp b3
  replace hz := blk_u hz b3
  replace hb := hb.below b3
  replace bel := bel.trans (b3.mono bel.size)
  clear b3
  rw [HW.out]
  have R17 := cell_lit hp 15 _ rfl
  go_wp2_with fail
  clear R17
  with_reducible refine (rd_read _ _ _ _ _ hb (by have := HM.out; omega)).mono ?_
  rintro e w4 ⟨gr, Ar3, cr3, rfl, ge, hh, rest, frr, avr, b4⟩
  have av_rest_p := frr.av (hlt hp)
  have av_rest_z := frr.av (hlt hz)
  have d_p_r := ne_new (hlt hp) ge
  have d_z_r := ne_new (hlt hz) ge
  have av_hb_r := hb.av_new ge
  have or := Nat.le_trans bel.size ge
  replace hp := blk_u hp b4
  replace hz := blk_u hz b4
  replace hb := hb.below b4
  replace bel := bel.trans (b4.mono bel.size)
  have hr := hh
  clear hh ge b4
  replace rest : Sl w4 (Ar3) (nb) (cr3) (h0 :: h1 :: h2 :: h3 :: h4 :: h5 :: h6 :: h7 :: r) := rest
  go_wp2_with fail
  with_reducible refine (rd_u16c _ _ _ _ _ _ _ _ _ hr rest).mono ?_
  rintro e w5 ⟨A4, n4, c4, rfl, hq, sq, uq, b5⟩
  replace hb := hb.away av_hb_r b5
  replace hp := blk_a hp b5 d_p_r
  replace hz := blk_a hz b5 d_z_r
  replace bel := below_grown bel b5 or bel.size
  clear b5
  clear hr rest
  have hr := hq
  have rest := sq
  clear hq sq
  have av4_rest_p := av_rest_p.sub uq
  have av4_rest_z := av_rest_z.sub uq
  have av4_rest_r := avr.sub uq
  clear uq
  go_wp2_with fail
  with_reducible refine (rd_u16c _ _ _ _ _ _ _ _ _ hr rest).mono ?_
  rintro e w6 ⟨A5, n5, c5, rfl, hq, sq, uq, b6⟩
  replace hb := hb.away av_hb_r b6
  replace hp := blk_a hp b6 d_p_r
  replace hz := blk_a hz b6 d_z_r
  replace bel := below_grown bel b6 or bel.size
  clear b6
  clear hr rest
  have hr := hq
  have rest := sq
  clear hq sq
  have av5_rest_p := av4_rest_p.sub uq
  have av5_rest_z := av4_rest_z.sub uq
  have av5_rest_r := av4_rest_r.sub uq
  clear uq
  go_wp2_with (first | ((with_reducible show wpList _ _ _ (⟨some 5, _, _, _, _, _⟩ :: _) _ _); refine wpList_new_a rfl 54 rfl #[.int .i64 0, .int .i64 0, .slice none 0 0] (by kernel_rfl) ?_; intro g5 w7 ge hh bb; have d_p_d := ne_new (hlt hp) ge; have d_z_d := ne_new (hlt hz) ge; have d_r_d := ne_new (hlt hr) ge; have av_hb_d := hb.av_new ge; have av_rest_d := rest.av_new ge; have od := Nat.le_trans bel.size ge; replace hp := blk_u hp bb; replace hz := blk_u hz bb; replace hr := blk_u hr bb; replace hb := hb.below bb; replace rest := rest.below bb; replace bel := bel.trans (bb.mono bel.size); have hd := hh; clear hh ge bb) | ((with_reducible show wpList _ _ _ (⟨none, Op.store _ (.tmp 5) _, _, _, _, _⟩ :: _) _ _); refine wpList_store_blk rfl 54 (.tmp 5) (.tmp 23) rfl g5 rfl _ rfl _ 54 hd (by rfl) (by kernel_rfl) (by kernel_rfl) ?_; intro w8 hq gr; replace hb := hb.away av_hb_d gr; replace rest := rest.away av_rest_d gr; replace hp := blk_a hp gr d_p_d; replace hz := blk_a hz gr d_z_d; replace hr := blk_a hr gr d_r_d; replace bel := below_grown bel gr od bel.size; clear hd; have hd := hq; clear hq gr))
  with_reducible refine (rd_u16c _ _ _ _ _ _ _ _ _ hr rest).mono ?_
  rintro e w9 ⟨A8, n8, c8, rfl, hq, sq, uq, b9⟩
  replace hb := hb.away av_hb_r b9
  replace hp := blk_a hp b9 d_p_r
  replace hz := blk_a hz b9 d_z_r
  replace hd := blk_a hd b9 (ne_symm d_r_d)
  replace bel := below_grown bel b9 or bel.size
  clear b9
  clear hr rest
  have hr := hq
  have rest := sq
  clear hq sq
  have av8_rest_p := av5_rest_p.sub uq
  have av8_rest_z := av5_rest_z.sub uq
  have av8_rest_r := av5_rest_r.sub uq
  have av8_rest_d := av_rest_d.sub uq
  clear uq
  rw [HLN.out]
  go_wp2_with fail
  with_reducible refine (rd_u16c _ _ _ _ _ _ _ _ _ hr rest).mono ?_
  rintro e w10 ⟨A9, n9, c9, rfl, hq, sq, uq, b10⟩
  replace hb := hb.away av_hb_r b10
  replace hp := blk_a hp b10 d_p_r
  replace hz := blk_a hz b10 d_z_r
  replace hd := blk_a hd b10 (ne_symm d_r_d)
  replace bel := below_grown bel b10 or bel.size
  clear b10
  clear hr rest
  have hr := hq
  have rest := sq
  clear hq sq
  have av9_rest_p := av8_rest_p.sub uq
  have av9_rest_z := av8_rest_z.sub uq
  have av9_rest_r := av8_rest_r.sub uq
  have av9_rest_d := av8_rest_d.sub uq
  clear uq
  rw [HSM.out]
  go_wp2_with fail
  with_reducible refine (rd_short _ _ _ _ _ _ _ hr rest).mono ?_
  rintro e _ ⟨rfl, rfl⟩
  have R33 := cell_lit hp 15 _ rfl
  go_wp2_with fail
  clear R33
  have ob := bel.size
  with_reducible refine (rd_bytes (k) _ _ _ _ _ _ _ hr rest (HKR.out) (by have hl := HL.out; simp only [List.length_cons] at hl; have := HKR.out; have := HM.out; omega)).mono ?_
  rintro e w11 ⟨Asb, csb, A10, n10, c10, rfl, hq, sq, uq, sb, frsb, b11⟩
  have av_sb_p := frsb.av (hlt hp)
  have av_sb_z := frsb.av (hlt hz)
  have av_sb_r := frsb.av (hlt hr)
  have av_sb_d := frsb.av (hlt hd)
  replace hb := hb.away av_hb_r b11
  replace hp := blk_a hp b11 d_p_r
  replace hz := blk_a hz b11 d_z_r
  replace hd := blk_a hd b11 (ne_symm d_r_d)
  replace bel := below_grown bel b11 or bel.size
  clear b11
  clear hr rest
  have hr := hq
  have rest := sq
  clear hq sq
  have av10_rest_p := av9_rest_p.sub uq
  have av10_rest_z := av9_rest_z.sub uq
  have av10_rest_r := av9_rest_r.sub uq
  have av10_rest_d := av9_rest_d.sub uq
  clear uq
  have frb := frsb.mono ob
  go_wp2_with (first | ((with_reducible show wpList _ _ _ (⟨none, Op.store _ (.tmp 54) _, _, _, _, _⟩ :: _) _ _); refine wpList_store_part rfl 36 (.tmp 54) (.tmp 53) rfl g5 2 rfl [.slice Asb k csb] rfl [.int .i64 ((be [h0, h1] : Nat) : Int), .int .i64 ((be [h2, h3] : Nat) : Int), .slice none 0 0] 54 hd (by simp) [.int .i64 ((be [h0, h1] : Nat) : Int), .int .i64 ((be [h2, h3] : Nat) : Int), .slice Asb k csb] rfl (by kernel_rfl) (by rfl) ?_; intro w12 hq gr; replace hb := hb.away av_hb_d gr; replace rest := rest.away av10_rest_d gr; replace sb := sb.away av_sb_d gr; replace hp := blk_a hp gr d_p_d; replace hz := blk_a hz gr d_z_d; replace hr := blk_a hr gr d_r_d; replace bel := below_grown bel gr od bel.size; clear hd; have hd := hq; clear hq gr; have R55 := Lib.hid (range_lit hd 0 3 [.int .i64 ((be [h0, h1] : Nat) : Int), .int .i64 ((be [h2, h3] : Nat) : Int), .slice Asb k csb] rfl)) | ((with_reducible show wpList _ _ _ (⟨some 55, _, _, _, _, _⟩ :: _) _ _); refine wpList_load_rng 54 (.tmp 5) rfl (by kernel_rfl) _ _ rfl _ R55.out _ Tryz.underlying54 rfl (by kernel_rfl) ?_) | ((with_reducible show wpList _ _ _ (⟨none, Op.store _ (.tmp 2) _, _, _, _, _⟩ :: _) _ _); refine wpList_store_blk rfl 54 (.tmp 2) (.tmp 55) rfl g2 rfl _ rfl _ 54 hz (by rfl) (by kernel_rfl) (by kernel_rfl) ?_; intro w13 hq gr; replace hb := hb.away av_hb_z gr; replace rest := rest.away av10_rest_z gr; replace sb := sb.away av_sb_z gr; replace hp := blk_a hp gr d_p_z; replace hr := blk_a hr gr (ne_symm d_z_r); replace hd := blk_a hd gr (ne_symm d_z_d); replace bel := below_grown bel gr oz bel.size; clear hz; have hz := hq; clear hq gr))
  try clear R55
  exact bodyPost_ret (results_cell_tmp_row rfl _ _ _ _ _ _ _ rfl hz Tryz.underlying54 rfl (by kernel_rfl) (.int .i64 0) rfl) rfl ⟨((be [h0, h1] : Nat) : Int), ((be [h2, h3] : Nat) : Int), r.take k, Asb, csb, 0, by rw [HKL.out], by rw [HKL.out]; exact sb, by rw [HKL.out]; exact frb, bel, HP.out.symm⟩
set_option maxRecDepth 100000 in
set_option maxHeartbeats 16000000 in
theorem udget_8 (tos id fl pt ttl : Int) (a0 a1 a2 a3 a4 a5 a6 a7 : UInt8) (So Sb : Option Addr) (no co nb cb : Nat) (h0 h1 h2 h3 h4 h5 h6 h7 : UInt8) (r : List UInt8) (ln sm : Nat) (w : World) (hb : Sl w Sb nb cb (h0 :: h1 :: h2 :: h3 :: h4 :: h5 :: h6 :: h7 :: r)) (hm : nb ≤ 100000) (hln : be [h4, h5] = ln) (hsm : be [h6, h7] = sm) (hw : (decide (pt = 0) && decide (fl % 2 = 0)) = true) (hx : ln ≤ nb) (hy : 8 ≤ ln) (hz : sm ≠ 0) (hc : ck (l4Ps a0 a1 a2 a3 a4 a5 a6 a7 17 (ln : Int) ++ (h0 :: h1 :: h2 :: h3 :: h4 :: h5 :: h6 :: h7 :: r).take ln) = 0) : Calls Tryz.prog 24 #[.agg #[.int .i64 tos, .int .i64 id, .int .i64 fl, .int .i64 pt, .int .i64 ttl, .int .i64 17, .int .u8 (a0.toNat : Int), .int .u8 (a1.toNat : Int), .int .u8 (a2.toNat : Int), .int .u8 (a3.toNat : Int), .int .u8 (a4.toNat : Int), .int .u8 (a5.toNat : Int), .int .u8 (a6.toNat : Int), .int .u8 (a7.toNat : Int), .slice So no co, .slice Sb nb cb]] w (UdPost (udGet fl pt 17 a0 a1 a2 a3 a4 a5 a6 a7 (h0 :: h1 :: h2 :: h3 :: h4 :: h5 :: h6 :: h7 :: r)) w) := by
  have HLN := Lib.hid hln
  have HSM := Lib.hid hsm
  have HM := Lib.hid hm
  have HW := Lib.hid hw
  have HL := Lib.hid hb.1
  have t0 : decide (nb < ln) = false := decide_eq_false (by omega)
  have t1 : decide ((ln : Int) < 8) = false := decide_eq_false (by omega)
  have HX := Lib.hid hx
  obtain ⟨k, hk⟩ : ∃ k, ln = k + 8 := ⟨ln - 8, by omega⟩
  have hkr : k ≤ r.length := by have := hb.1; simp at this; omega
  have HP : Hid (udGet fl pt 17 a0 a1 a2 a3 a4 a5 a6 a7 (h0 :: h1 :: h2 :: h3 :: h4 :: h5 :: h6 :: h7 :: r) = ((((be [h0, h1] : Nat) : Int), ((be [h2, h3] : Nat) : Int)), r.take k, 0)) := Lib.hid (ud_ok (by rw [ud_at hln hsm hw, if_neg (by rw [hb.1]; omega), if_neg (by omega), if_neg fun h => h.2 hc]) hln hk)
  have HKR := Lib.hid hkr
  have HKL : Hid ((r.take k).length = k) := Lib.hid (by rw [List.length_take]; omega)
  have hk8 : IntKind.i64.wrap ((ln : Int) - 8) = (k : Int) := by rw [show (ln : Int) - 8 = (k : Int) by omega]; exact IntWalk.i64_in _ (by have := hb.1; have := hb.2.2.1; unfold maxLen at this; simp only [List.length_cons] at *; omega)
  clear hk hkr
  have HC : Hid (decide (ck (l4Ps a0 a1 a2 a3 a4 a5 a6 a7 17 (ln : Int) ++ (h0 :: h1 :: h2 :: h3 :: h4 :: h5 :: h6 :: h7 :: r).take ln) = 0) = true) := Lib.hid (decide_eq_true hc)
  have t2 : ((sm : Int) == 0) = false := by simpa using hz
  have t3 : ((sm : Int) != 0) = true := by simpa using hz
  clear hln hsm hm hw hx hy hz hc
  have bel := Below.refl w.heap.size w
  go_enter Tryz.func24, Tryz.ntmps24
  go_wp2_with (first | ((with_reducible show wpList _ _ _ (⟨some 1, _, _, _, _, _⟩ :: _) _ _); refine wpList_box_n rfl 38 (.tmp 0) rfl #[.int .i64 tos, .int .i64 id, .int .i64 fl, .int .i64 pt, .int .i64 ttl, .int .i64 17, .int .u8 (a0.toNat : Int), .int .u8 (a1.toNat : Int), .int .u8 (a2.toNat : Int), .int .u8 (a3.toNat : Int), .int .u8 (a4.toNat : Int), .int .u8 (a5.toNat : Int), .int .u8 (a6.toNat : Int), .int .u8 (a7.toNat : Int), .slice So no co, .slice Sb nb cb] rfl ?_; intro g1 w1 ge lt hh bb; have av_hb_p := hb.av_new ge; have op := Nat.le_trans bel.size ge; replace hb := hb.below bb; replace bel := bel.trans (bb.mono bel.size); have hp := hh; clear hh lt ge bb) | ((with_reducible show wpList _ _ _ (⟨some 2, _, _, _, _, _⟩ :: _) _ _); refine wpList_new_a rfl 54 rfl #[.int .i64 0, .int .i64 0, .slice none 0 0] (by kernel_rfl) ?_; intro g2 w2 ge hh bb; have d_p_z := ne_new (hlt hp) ge; have av_hb_z := hb.av_new ge; have oz := Nat.le_trans bel.size ge; replace hp := blk_u hp bb; replace hb := hb.below bb; replace bel := bel.trans (bb.mono bel.size); have hz := hh; clear hh ge bb; have R9 := cell_lit hp 5 _ rfl; have R12 := Lib.hid (range_lit hp 0 16 [.int .i64 tos, .int .i64 id, .int .i64 fl, .int .i64 pt, .int .i64 ttl, .int .i64 17, .int .u8 (a0.toNat : Int), .int .u8 (a1.toNat : Int), .int .u8 (a2.toNat : Int), .int .u8 (a3.toNat : Int), .int .u8 (a4.toNat : Int), .int .u8 (a5.toNat : Int), .int .u8 (a6.toNat : Int), .int .u8 (a7.toNat : Int), .slice So no co, .slice Sb nb cb] rfl)) | ((with_reducible show wpList _ _ _ (⟨some 12, _, _, _, _, _⟩ :: _) _ _); refine wpList_load_rng 38 (.tmp 1) rfl (by kernel_rfl) _ _ rfl _ R12.out _ Tryz.underlying38 rfl (by kernel_rfl) ?_))
  try clear R9
  try clear R12
  with_reducible refine (ipwhole_any _ _ _ _ _ _ _ _ _ _ _ _ _ _ _ _ _ _ _ _ _).mono ?_
  rintro e w3 ⟨rfl, b3⟩
  replace hp := blk_u hp b3
  replace hz := blk_u hz b3
  replace hb := hb.below b3
  replace bel := bel.trans (b3.mono bel.size)
  clear b3
  rw [HW.out]
  have R17 := cell_lit hp 15 _ rfl
  go_wp2_with fail
  clear R17
  with_reducible refine (rd_read _ _ _ _ _ hb (by have := HM.out; omega)).mono ?_
  rintro e w4 ⟨gr, Ar3, cr3, rfl, ge, hh, rest, frr, avr, b4⟩
  have av_rest_p := frr.av (hlt hp)
  have av_rest_z := frr.av (hlt hz)
  have d_p_r := ne_new (hlt hp) ge
  have d_z_r := ne_new (hlt hz) ge
  have av_hb_r := hb.av_new ge
  have or := Nat.le_trans bel.size ge
  replace hp := blk_u hp b4
  replace hz := blk_u hz b4
  replace hb := hb.below b4
  replace bel := bel.trans (b4.mono bel.size)
  have hr := hh
  clear hh ge b4
  replace rest : Sl w4 (Ar3) (nb) (cr3) (h0 :: h1 :: h2 :: h3 :: h4 :: h5 :: h6 :: h7 :: r) := rest
  go_wp2_with fail
  with_reducible refine (rd_u16c _ _ _ _ _ _ _ _ _ hr rest).mono ?_
  rintro e w5 ⟨A4, n4, c4, rfl, hq, sq, uq, b5⟩
  replace hb := hb.away av_hb_r b5
  replace hp := blk_a hp b5 d_p_r
  replace hz := blk_a hz b5 d_z_r
  replace bel := below_grown bel b5 or bel.size
  clear b5
  clear hr rest
  have hr := hq
  have rest := sq
  clear hq sq
  have av4_rest_p := av_rest_p.sub uq
  have av4_rest_z := av_rest_z.sub uq
  have av4_rest_r := avr.sub uq
  clear uq
  go_wp2_with fail
  with_reducible refine (rd_u16c _ _ _ _ _ _ _ _ _ hr rest).mono ?_
  rintro e w6 ⟨A5, n5, c5, rfl, hq, sq, uq, b6⟩
  replace hb := hb.away av_hb_r b6
  replace hp := blk_a hp b6 d_p_r
  replace hz := blk_a hz b6 d_z_r
  replace bel := below_grown bel b6 or bel.size
  clear b6
  clear hr rest
  have hr := hq
  have rest := sq
  clear hq sq
  have av5_rest_p := av4_rest_p.sub uq
  have av5_rest_z := av4_rest_z.sub uq
  have av5_rest_r := av4_rest_r.sub uq
  clear uq
  go_wp2_with (first | ((with_reducible show wpList _ _ _ (⟨some 5, _, _, _, _, _⟩ :: _) _ _); refine wpList_new_a rfl 54 rfl #[.int .i64 0, .int .i64 0, .slice none 0 0] (by kernel_rfl) ?_; intro g5 w7 ge hh bb; have d_p_d := ne_new (hlt hp) ge; have d_z_d := ne_new (hlt hz) ge; have d_r_d := ne_new (hlt hr) ge; have av_hb_d := hb.av_new ge; have av_rest_d := rest.av_new ge; have od := Nat.le_trans bel.size ge; replace hp := blk_u hp bb; replace hz := blk_u hz bb; replace hr := blk_u hr bb; replace hb := hb.below bb; replace rest := rest.below bb; replace bel := bel.trans (bb.mono bel.size); have hd := hh; clear hh ge bb) | ((with_reducible show wpList _ _ _ (⟨none, Op.store _ (.tmp 5) _, _, _, _, _⟩ :: _) _ _); refine wpList_store_blk rfl 54 (.tmp 5) (.tmp 23) rfl g5 rfl _ rfl _ 54 hd (by rfl) (by kernel_rfl) (by kernel_rfl) ?_; intro w8 hq gr; replace hb := hb.away av_hb_d gr; replace rest := rest.away av_rest_d gr; replace hp := blk_a hp gr d_p_d; replace hz := blk_a hz gr d_z_d; replace hr := blk_a hr gr d_r_d; replace bel := below_grown bel gr od bel.size; clear hd; have hd := hq; clear hq gr))
  with_reducible refine (rd_u16c _ _ _ _ _ _ _ _ _ hr rest).mono ?_
  rintro e w9 ⟨A8, n8, c8, rfl, hq, sq, uq, b9⟩
  replace hb := hb.away av_hb_r b9
  replace hp := blk_a hp b9 d_p_r
  replace hz := blk_a hz b9 d_z_r
  replace hd := blk_a hd b9 (ne_symm d_r_d)
  replace bel := below_grown bel b9 or bel.size
  clear b9
  clear hr rest
  have hr := hq
  have rest := sq
  clear hq sq
  have av8_rest_p := av5_rest_p.sub uq
  have av8_rest_z := av5_rest_z.sub uq
  have av8_rest_r := av5_rest_r.sub uq
  have av8_rest_d := av_rest_d.sub uq
  clear uq
  rw [HLN.out]
  go_wp2_with fail
  with_reducible refine (rd_u16c _ _ _ _ _ _ _ _ _ hr rest).mono ?_
  rintro e w10 ⟨A9, n9, c9, rfl, hq, sq, uq, b10⟩
  replace hb := hb.away av_hb_r b10
  replace hp := blk_a hp b10 d_p_r
  replace hz := blk_a hz b10 d_z_r
  replace hd := blk_a hd b10 (ne_symm d_r_d)
  replace bel := below_grown bel b10 or bel.size
  clear b10
  clear hr rest
  have hr := hq
  have rest := sq
  clear hq sq
  have av9_rest_p := av8_rest_p.sub uq
  have av9_rest_z := av8_rest_z.sub uq
  have av9_rest_r := av8_rest_r.sub uq
  have av9_rest_d := av8_rest_d.sub uq
  clear uq
  rw [HSM.out]
  go_wp2_with fail
  with_reducible refine (rd_short _ _ _ _ _ _ _ hr rest).mono ?_
  rintro e _ ⟨rfl, rfl⟩
  have R33 := cell_lit hp 15 _ rfl
  have R44 := Lib.hid (range_lit hp 0 16 [.int .i64 tos, .int .i64 id, .int .i64 fl, .int .i64 pt, .int .i64 ttl, .int .i64 17, .int .u8 (a0.toNat : Int), .int .u8 (a1.toNat : Int), .int .u8 (a2.toNat : Int), .int .u8 (a3.toNat : Int), .int .u8 (a4.toNat : Int), .int .u8 (a5.toNat : Int), .int .u8 (a6.toNat : Int), .int .u8 (a7.toNat : Int), .slice So no co, .slice Sb nb cb] rfl)
  go_wp2_with (first | ((with_reducible show wpList _ _ _ (⟨some 44, _, _, _, _, _⟩ :: _) _ _); refine wpList_load_rng 38 (.tmp 1) rfl (by kernel_rfl) _ _ rfl _ R44.out _ Tryz.underlying38 rfl (by kernel_rfl) ?_))
  try clear R33
  try clear R44
  with_reducible refine (udfits_any _ _ _ _ _ 17 _ _ _ _ _ _ _ _ _ _ _ _ _ _ ln _ _ hb HX.out HM.out).mono ?_
  rintro e w11 ⟨rfl, b11⟩
  replace hp := blk_u hp b11
  replace hz := blk_u hz b11
  replace hr := blk_u hr b11
  replace hd := blk_u hd b11
  replace hb := hb.below b11
  replace rest := rest.below b11
  replace bel := bel.trans (b11.mono bel.size)
  clear b11
  rw [HC.out]
  go_wp2_with fail
  have ob := bel.size
  with_reducible refine (rd_bytes (k) _ _ _ _ _ _ _ hr rest (HKR.out) (by have hl := HL.out; simp only [List.length_cons] at hl; have := HKR.out; have := HM.out; omega)).mono ?_
  rintro e w12 ⟨Asb, csb, A11, n11, c11, rfl, hq, sq, uq, sb, frsb, b12⟩
  have av_sb_p := frsb.av (hlt hp)
  have av_sb_z := frsb.av (hlt hz)
  have av_sb_r := frsb.av (hlt hr)
  have av_sb_d := frsb.av (hlt hd)
  replace hb := hb.away av_hb_r b12
  replace hp := blk_a hp b12 d_p_r
  replace hz := blk_a hz b12 d_z_r
  replace hd := blk_a hd b12 (ne_symm d_r_d)
  replace bel := below_grown bel b12 or bel.size
  clear b12
  clear hr rest
  have hr := hq
  have rest := sq
  clear hq sq
  have av11_rest_p := av9_rest_p.sub uq
  have av11_rest_z := av9_rest_z.sub uq
  have av11_rest_r := av9_rest_r.sub uq
  have av11_rest_d := av9_rest_d.sub uq
  clear uq
  have frb := frsb.mono ob
  go_wp2_with (first | ((with_reducible show wpList _ _ _ (⟨none, Op.store _ (.tmp 54) _, _, _, _, _⟩ :: _) _ _); refine wpList_store_part rfl 36 (.tmp 54) (.tmp 53) rfl g5 2 rfl [.slice Asb k csb] rfl [.int .i64 ((be [h0, h1] : Nat) : Int), .int .i64 ((be [h2, h3] : Nat) : Int), .slice none 0 0] 54 hd (by simp) [.int .i64 ((be [h0, h1] : Nat) : Int), .int .i64 ((be [h2, h3] : Nat) : Int), .slice Asb k csb] rfl (by kernel_rfl) (by rfl) ?_; intro w13 hq gr; replace hb := hb.away av_hb_d gr; replace rest := rest.away av11_rest_d gr; replace sb := sb.away av_sb_d gr; replace hp := blk_a hp gr d_p_d; replace hz := blk_a hz gr d_z_d; replace hr := blk_a hr gr d_r_d; replace bel := below_grown bel gr od bel.size; clear hd; have hd := hq; clear hq gr; have R55 := Lib.hid (range_lit hd 0 3 [.int .i64 ((be [h0, h1] : Nat) : Int), .int .i64 ((be [h2, h3] : Nat) : Int), .slice Asb k csb] rfl)) | ((with_reducible show wpList _ _ _ (⟨some 55, _, _, _, _, _⟩ :: _) _ _); refine wpList_load_rng 54 (.tmp 5) rfl (by kernel_rfl) _ _ rfl _ R55.out _ Tryz.underlying54 rfl (by kernel_rfl) ?_) | ((with_reducible show wpList _ _ _ (⟨none, Op.store _ (.tmp 2) _, _, _, _, _⟩ :: _) _ _); refine wpList_store_blk rfl 54 (.tmp 2) (.tmp 55) rfl g2 rfl _ rfl _ 54 hz (by rfl) (by kernel_rfl) (by kernel_rfl) ?_; intro w14 hq gr; replace hb := hb.away av_hb_z gr; replace rest := rest.away av11_rest_z gr; replace sb := sb.away av_sb_z gr; replace hp := blk_a hp gr d_p_z; replace hr := blk_a hr gr (ne_symm d_z_r); replace hd := blk_a hd gr (ne_symm d_z_d); replace bel := below_grown bel gr oz bel.size; clear hz; have hz := hq; clear hq gr))
  try clear R55
  exact bodyPost_ret (results_cell_tmp_row rfl _ _ _ _ _ _ _ rfl hz Tryz.underlying54 rfl (by kernel_rfl) (.int .i64 0) rfl) rfl ⟨((be [h0, h1] : Nat) : Int), ((be [h2, h3] : Nat) : Int), r.take k, Asb, csb, 0, by rw [HKL.out], by rw [HKL.out]; exact sb, by rw [HKL.out]; exact frb, bel, HP.out.symm⟩
open Go.RowKit

theorem port_of {v : Int} (h : portOk v = true) : 0 ≤ v ∧ v ≤ 65535 := by
  unfold portOk at h
  simpa using h
theorem be2_two (v : Int) (h0 : 0 ≤ v) (h1 : v ≤ 65535) : (be (two v) : Int) = v := by
  rw [be_byteOf]
  omega
/-- The sum over what stands round the two bytes of the sum, and these. -/
theorem l4_around (P M b : List UInt8) (x y : UInt8) (hp : P.length % 2 = 0) (hm : M.length % 2 = 0) : ws true (P ++ (M ++ [x, y] ++ b)) = ws true (P ++ M ++ b) + (x.toNat * 256 + y.toNat) := by
  have hpm : (P ++ M).length % 2 = 0 := by rw [List.length_append]; omega
  rw [show P ++ (M ++ [x, y] ++ b) = (P ++ M) ++ x :: y :: b by simp, ws_at _ _ _ _ hpm, ws_even (P ++ M) b hpm]
  omega
theorem ps_pos (a0 a1 a2 a3 a4 a5 a6 a7 : UInt8) (pr k : Int) (l : List UInt8) (h : 0 < (byteOf pr).toNat) : 0 < ws true (l4Ps a0 a1 a2 a3 a4 a5 a6 a7 pr k ++ l) := by
  unfold l4Ps two
  simp only [List.cons_append, List.nil_append, ws_pair]
  omega
/-- The two bytes of a sum. -/
theorem two_val (s : Int) (h0 : 0 ≤ s) (h1 : s ≤ 65535) : ((byteOf (s / 256)).toNat : Int) * 256 + (byteOf s).toNat = s := by
  rw [byteOf_val, byteOf_val]
  omega
theorem sum_seals (W : Nat) (s : Int) (hW : 0 < W) (hs : s = if 65535 - (nrm W : Int) = 0 then 65535 else 65535 - (nrm W : Int)) (x y : UInt8) (hxy : (x.toNat : Int) * 256 + y.toNat = s) : 0 < W + (x.toNat * 256 + y.toNat) ∧ (W + (x.toNat * 256 + y.toNat)) % 65535 = 0 := by
  have h1 := nrm_mod W
  have h2 := nrm_le W
  split at hs <;> omega
theorem udBytes_eq (a0 a1 a2 a3 a4 a5 a6 a7 : UInt8) (df dt : Int) (b : List UInt8) : udBytes a0 a1 a2 a3 a4 a5 a6 a7 df dt b = byteOf (df / 256) :: byteOf df :: byteOf (dt / 256) :: byteOf dt :: byteOf ((8 + (b.length : Int)) / 256) :: byteOf (8 + (b.length : Int)) :: byteOf (udSum a0 a1 a2 a3 a4 a5 a6 a7 df dt b / 256) :: byteOf (udSum a0 a1 a2 a3 a4 a5 a6 a7 df dt b) :: b := rfl
theorem udSum_range (a0 a1 a2 a3 a4 a5 a6 a7 : UInt8) (df dt : Int) (b : List UInt8) : 0 < udSum a0 a1 a2 a3 a4 a5 a6 a7 df dt b ∧ udSum a0 a1 a2 a3 a4 a5 a6 a7 df dt b ≤ 65535 := by
  have h := ck_bounds [l4Ps a0 a1 a2 a3 a4 a5 a6 a7 17 (8 + (b.length : Int)), udHd df dt b.length, b].flatten
  unfold udSum
  split <;> omega
theorem be_two_eq (v : Int) : be [byteOf (v / 256), byteOf v] = be (two v) := rfl
theorem be_len (n : Nat) (h : n ≤ 60000) : be [byteOf ((8 + (n : Int)) / 256), byteOf (8 + (n : Int))] = 8 + n := by
  have h := be2_two (8 + (n : Int)) (by omega) (by omega)
  rw [be_two_eq]
  omega
theorem be_port {v : Int} (h : portOk v = true) : (be [byteOf (v / 256), byteOf v] : Int) = v := be2_two v (port_of h).1 (port_of h).2
/-- The whole of it fits. -/
theorem udp_sealed (a0 a1 a2 a3 a4 a5 a6 a7 : UInt8) (df dt : Int) (b : List UInt8) : ck (l4Ps a0 a1 a2 a3 a4 a5 a6 a7 17 (8 + (b.length : Int)) ++ udBytes a0 a1 a2 a3 a4 a5 a6 a7 df dt b) = 0 := by
  have hr := udSum_range a0 a1 a2 a3 a4 a5 a6 a7 df dt b
  have hv := two_val _ (Int.le_of_lt hr.1) hr.2
  have hp := ps_pos a0 a1 a2 a3 a4 a5 a6 a7 17 (8 + (b.length : Int)) (udHd df dt b.length ++ b) (by decide)
  rw [← List.append_assoc] at hp
  have hs : udSum a0 a1 a2 a3 a4 a5 a6 a7 df dt b = if 65535 - (nrm (ws true (l4Ps a0 a1 a2 a3 a4 a5 a6 a7 17 (8 + (b.length : Int)) ++ udHd df dt b.length ++ b)) : Int) = 0 then 65535 else 65535 - (nrm (ws true (l4Ps a0 a1 a2 a3 a4 a5 a6 a7 17 (8 + (b.length : Int)) ++ udHd df dt b.length ++ b)) : Int) := by
    unfold udSum ck
    rw [show [l4Ps a0 a1 a2 a3 a4 a5 a6 a7 17 (8 + (b.length : Int)), udHd df dt b.length, b].flatten = l4Ps a0 a1 a2 a3 a4 a5 a6 a7 17 (8 + (b.length : Int)) ++ udHd df dt b.length ++ b by simp]
  have h := sum_seals _ _ hp hs _ _ hv
  rw [ck_zero]
  unfold udBytes
  rw [show two (udSum a0 a1 a2 a3 a4 a5 a6 a7 df dt b) = [byteOf (udSum a0 a1 a2 a3 a4 a5 a6 a7 df dt b / 256), byteOf (udSum a0 a1 a2 a3 a4 a5 a6 a7 df dt b)] from rfl, l4_around _ _ _ _ _ (by simp [l4Ps, two]) (by simp [udHd, two])]
  exact h
/-- What was put is read back. -/
theorem udp_back {fl pt : Int} (hw : (decide (pt = 0) && decide (fl % 2 = 0)) = true) (a0 a1 a2 a3 a4 a5 a6 a7 : UInt8) {df dt : Int} (h1 : portOk df = true) (h2 : portOk dt = true) (b : List UInt8) (hn : b.length ≤ 1472) :
    udGet fl pt 17 a0 a1 a2 a3 a4 a5 a6 a7 (udBytes a0 a1 a2 a3 a4 a5 a6 a7 df dt b) = ((df, dt), b, 0) := by
  have hsl := udp_sealed a0 a1 a2 a3 a4 a5 a6 a7 df dt b
  have hlen := udBytes_len a0 a1 a2 a3 a4 a5 a6 a7 df dt b
  rw [udBytes_eq] at hsl hlen ⊢
  have e : udErr fl pt 17 a0 a1 a2 a3 a4 a5 a6 a7 (byteOf (df / 256) :: byteOf df :: byteOf (dt / 256) :: byteOf dt :: byteOf ((8 + (b.length : Int)) / 256) :: byteOf (8 + (b.length : Int)) :: byteOf (udSum a0 a1 a2 a3 a4 a5 a6 a7 df dt b / 256) :: byteOf (udSum a0 a1 a2 a3 a4 a5 a6 a7 df dt b) :: b) = 0 := by
    rw [ud_at (be_len b.length (by omega)) rfl hw, hlen, if_neg (by omega), if_neg (by omega), if_neg]
    rintro ⟨_, h⟩
    apply h
    rw [List.take_of_length_le (by rw [hlen]; exact Nat.le_refl _)]
    rw [show ((8 + b.length : Nat) : Int) = 8 + (b.length : Int) from rfl]
    exact hsl
  rw [ud_ok e (be_len b.length (by omega)) (by omega : 8 + b.length = b.length + 8), be_port h1, be_port h2, List.take_of_length_le (Nat.le_refl _)]
open Go.RowKit

theorem udGet_er (fl pt pr : Int) (a0 a1 a2 a3 b0 b1 b2 b3 : UInt8) (b : List UInt8) : (udGet fl pt pr a0 a1 a2 a3 b0 b1 b2 b3 b).2.2 = udErr fl pt pr a0 a1 a2 a3 b0 b1 b2 b3 b := by
  unfold udGet
  split
  · rfl
  · rename_i h
    simp only [ne_eq, Decidable.not_not] at h
    exact h.symm
theorem udget_pos (tos id fl pt ttl : Int) (a0 a1 a2 a3 b0 b1 b2 b3 : UInt8) (So Sb : Option Addr) (no co nb cb : Nat) {lb : List UInt8} (w : World) (hb : Sl w Sb nb cb lb) (hm : nb ≤ 100000) (he : udErr fl pt 17 a0 a1 a2 a3 b0 b1 b2 b3 lb = 0) : Calls Tryz.prog 24 #[.agg #[.int .i64 tos, .int .i64 id, .int .i64 fl, .int .i64 pt, .int .i64 ttl, .int .i64 17, .int .u8 (a0.toNat : Int), .int .u8 (a1.toNat : Int), .int .u8 (a2.toNat : Int), .int .u8 (a3.toNat : Int), .int .u8 (b0.toNat : Int), .int .u8 (b1.toNat : Int), .int .u8 (b2.toNat : Int), .int .u8 (b3.toNat : Int), .slice So no co, .slice Sb nb cb]] w (UdPost (udGet fl pt 17 a0 a1 a2 a3 b0 b1 b2 b3 lb) w) := by
  have h9 : pt = 0 ∧ fl % 2 = 0 := by
    by_cases h : pt = 0 ∧ fl % 2 = 0
    · exact h
    · unfold udErr at he
      rw [if_neg (by decide), if_pos h] at he
      cases he
  have hw : (decide (pt = 0) && decide (fl % 2 = 0)) = true := by rw [decide_eq_true h9.1, decide_eq_true h9.2]; rfl
  have hn : 8 ≤ lb.length := by
    rcases Nat.lt_or_ge lb.length 8 with h | h
    · unfold udErr at he
      rw [if_neg (by decide), if_neg (not_not_intro h9), if_pos h] at he
      cases he
    · exact h
  obtain ⟨h0, h1, h2, h3, h4, h5, h6, h7, r, rfl⟩ := list8 lb hn
  have hl := hb.1
  rw [ud_at rfl rfl hw] at he
  split at he
  · cases he
  rename_i g1
  split at he
  · cases he
  rename_i g2
  split at he
  · cases he
  rename_i g3
  by_cases hz : be [h6, h7] = 0
  · exact udget_7 tos id fl pt ttl a0 a1 a2 a3 b0 b1 b2 b3 So Sb no co nb cb h0 h1 h2 h3 h4 h5 h6 h7 r _ _ w hb hm rfl rfl hw (by omega) (by omega) hz
  · exact udget_8 tos id fl pt ttl a0 a1 a2 a3 b0 b1 b2 b3 So Sb no co nb cb h0 h1 h2 h3 h4 h5 h6 h7 r _ _ w hb hm rfl rfl hw (by omega) (by omega) hz (Decidable.not_not.1 (fun hc => g3 ⟨hz, hc⟩))
theorem udget_is (tos id fl pt ttl : Int) (a0 a1 a2 a3 b0 b1 b2 b3 : UInt8) (So Sb : Option Addr) (no co nb cb : Nat) {lb ld : List UInt8} {df dt : Int} {nd : Nat} (w : World) (hb : Sl w Sb nb cb lb) (hm : nb ≤ 100000) (hg : udGet fl pt 17 a0 a1 a2 a3 b0 b1 b2 b3 lb = ((df, dt), ld, 0)) (hl : ld.length = nd) : Calls Tryz.prog 24 #[.agg #[.int .i64 tos, .int .i64 id, .int .i64 fl, .int .i64 pt, .int .i64 ttl, .int .i64 17, .int .u8 (a0.toNat : Int), .int .u8 (a1.toNat : Int), .int .u8 (a2.toNat : Int), .int .u8 (a3.toNat : Int), .int .u8 (b0.toNat : Int), .int .u8 (b1.toNat : Int), .int .u8 (b2.toNat : Int), .int .u8 (b3.toNat : Int), .slice So no co, .slice Sb nb cb]] w fun e w' => ∃ A c, e = .returned (.tuple #[.agg #[.int .i64 df, .int .i64 dt, .slice A nd c], .int .i64 0]) ∧ Sl w' A nd c ld ∧ Fr w.heap.size A nd ∧ Below w.heap.size w w' := by
  refine (udget_pos tos id fl pt ttl a0 a1 a2 a3 b0 b1 b2 b3 So Sb no co nb cb w hb hm (by rw [← udGet_er, hg])).mono ?_
  rintro e w' ⟨x, y, q, A, c, er, rfl, hs, hf, bel, hq⟩
  rw [hg] at hq
  simp only [Prod.mk.injEq] at hq
  obtain ⟨⟨rfl, rfl⟩, rfl, rfl⟩ := hq
  rw [hl] at hs hf ⊢
  exact ⟨A, c, rfl, hs, hf, bel⟩
theorem udput_is (tos id fl pt ttl pr : Int) (a0 a1 a2 a3 b0 b1 b2 b3 : UInt8) (So Sb : Option Addr) (no co nb cb : Nat) (df dt : Int) (D : Option Addr) (nd cd : Nat) {lo ld : List UInt8} (w : World) (ho : Sl w So no co lo) (hb : Sl w D nd cd ld) (h1 : portOk df = true) (h2 : portOk dt = true) (hn : nd ≤ 1472) (hno : no ≤ 100000) : Calls Tryz.prog 25 #[.agg #[.int .i64 tos, .int .i64 id, .int .i64 fl, .int .i64 pt, .int .i64 ttl, .int .i64 pr, .int .u8 (a0.toNat : Int), .int .u8 (a1.toNat : Int), .int .u8 (a2.toNat : Int), .int .u8 (a3.toNat : Int), .int .u8 (b0.toNat : Int), .int .u8 (b1.toNat : Int), .int .u8 (b2.toNat : Int), .int .u8 (b3.toNat : Int), .slice So no co, .slice Sb nb cb], .agg #[.int .i64 df, .int .i64 dt, .slice D nd cd]] w fun e w' => ∃ Ao co' Ab cb', e = .returned (.tuple #[.agg #[.int .i64 tos, .int .i64 id, .int .i64 fl, .int .i64 pt, .int .i64 ttl, .int .i64 17, .int .u8 (a0.toNat : Int), .int .u8 (a1.toNat : Int), .int .u8 (a2.toNat : Int), .int .u8 (a3.toNat : Int), .int .u8 (b0.toNat : Int), .int .u8 (b1.toNat : Int), .int .u8 (b2.toNat : Int), .int .u8 (b3.toNat : Int), .slice Ao no co', .slice Ab (8 + nd) cb'], .int .i64 0]) ∧ Sl w' Ao no co' lo ∧ Sl w' Ab (8 + nd) cb' (udBytes a0 a1 a2 a3 b0 b1 b2 b3 df dt ld) ∧ Fr w.heap.size Ao no ∧ Fr w.heap.size Ab (8 + nd) ∧ Below w.heap.size w w' := by
  refine (udput_ok tos id fl pt ttl pr a0 a1 a2 a3 b0 b1 b2 b3 So Sb no co nb cb df dt D nd cd lo ld w ho hb h1 h2 hn hno).mono ?_
  rintro e w' ⟨f0, f1, f2, f3, f4, f5, g0, g1, g2, g3, g4, g5, g6, g7, lo', lb', Ao, Ab, co', cb', er', rfl, ho', hbb, fo, fb, bel, hq⟩
  have hP : udPut tos id fl pt ttl a0 a1 a2 a3 b0 b1 b2 b3 lo df dt ld = (([tos, id, fl, pt, ttl, 17], [a0, a1, a2, a3, b0, b1, b2, b3]), (lo, udBytes a0 a1 a2 a3 b0 b1 b2 b3 df dt ld), 0) := by
    unfold udPut
    rw [if_neg (by rw [h1, h2]; decide), if_neg (by rw [hb.1]; omega)]
  rw [hP] at hq
  simp only [Prod.mk.injEq, List.cons.injEq, and_true] at hq
  obtain ⟨⟨⟨rfl, rfl, rfl, rfl, rfl, rfl⟩, rfl, rfl, rfl, rfl, rfl, rfl, rfl, rfl⟩, ⟨rfl, rfl⟩, rfl⟩ := hq
  have hl : (udBytes g0 g1 g2 g3 g4 g5 g6 g7 df dt ld).length = 8 + nd := by rw [udBytes_len, hb.1]
  have hl2 := ho.1
  rw [hl] at hbb fb ⊢
  rw [hl2] at ho' fo ⊢
  exact ⟨Ao, co', Ab, cb', rfl, ho', hbb, fo, fb, bel⟩
/-- What ports' Make, In, Live answer (told for the walk of nat's own functions). -/
abbrev MakeC (lo gt : Nat) (s s' : Ts) (pr : Int) (a0 a1 a2 a3 : UInt8) (p t sc : Int) (m : Mp) (r : Int) : Prop := ∀ W, Tp lo gt W s → Calls Tryz.prog 110 #[.pointer (some ⟨gt, 0, none⟩), .agg #[.int .i64 pr, .int .u8 (a0.toNat : Int), .int .u8 (a1.toNat : Int), .int .u8 (a2.toNat : Int), .int .u8 (a3.toNat : Int), .int .i64 p], .int .i64 t, .int .i64 sc] W fun e w' => e = .returned (.tuple #[.agg #[.int .i64 m.pr, .int .i64 m.o, .int .u8 (m.ad.a.toNat : Int), .int .u8 (m.ad.b.toNat : Int), .int .u8 (m.ad.c.toNat : Int), .int .u8 (m.ad.d.toNat : Int), .int .i64 m.i, .int .i64 m.k, .int .i64 m.u], .int .i64 r]) ∧ Tp lo gt w' s' ∧ Fap gt W w' ∧ Below lo W w'
abbrev InC (lo gt : Nat) (s s' : Ts) (pr o t : Int) (m : Mp) : Prop := ∀ W, Tp lo gt W s → Calls Tryz.prog 29 #[.pointer (some ⟨gt, 0, none⟩), .int .i64 pr, .int .i64 o, .int .i64 t] W fun e w' => e = .returned (.tuple #[.agg #[.int .i64 m.pr, .int .i64 m.o, .int .u8 (m.ad.a.toNat : Int), .int .u8 (m.ad.b.toNat : Int), .int .u8 (m.ad.c.toNat : Int), .int .u8 (m.ad.d.toNat : Int), .int .i64 m.i, .int .i64 m.k, .int .i64 m.u], .bool true]) ∧ Tp lo gt w' s' ∧ Fap gt W w' ∧ Below lo W w'
abbrev InE (lo gt : Nat) (s s' : Ts) (pr o t : Int) : Prop := ∀ W, Tp lo gt W s → Calls Tryz.prog 29 #[.pointer (some ⟨gt, 0, none⟩), .int .i64 pr, .int .i64 o, .int .i64 t] W fun e w' => e = .returned (.tuple #[.agg #[.int .i64 0, .int .i64 0, .int .u8 0, .int .u8 0, .int .u8 0, .int .u8 0, .int .i64 0, .int .i64 0, .int .i64 0], .bool false]) ∧ Tp lo gt w' s' ∧ Fap gt W w' ∧ Below lo W w'
abbrev LiveC (lo gt : Nat) (s s' : Ts) (pr o t sc : Int) (b : Bool) : Prop := ∀ W, Tp lo gt W s → Calls Tryz.prog 67 #[.pointer (some ⟨gt, 0, none⟩), .int .i64 pr, .int .i64 o, .int .i64 t, .int .i64 sc] W fun e w' => e = .returned (.bool b) ∧ Tp lo gt w' s' ∧ Fap gt W w' ∧ Below lo W w'
set_option linter.unusedVariables false in
set_option linter.unusedSimpArgs false in
set_option maxRecDepth 100000 in
set_option maxHeartbeats 16000000 in
theorem nperm_y {x : Int} (w : World) (h1 : x ≥ 10) (h2 : x ≤ 86400) : Calls Tryz.prog 30 #[.int .i64 x] w fun e w' => e = .returned (.bool true) ∧ w = w' := by
  skip
  skip
  go_enter Tryz.func30, Tryz.ntmps30
  go_wp2_with fail
  go_ret
  exact ⟨rfl, rfl⟩
set_option linter.unusedVariables false in
set_option linter.unusedSimpArgs false in
set_option maxRecDepth 100000 in
set_option maxHeartbeats 16000000 in
theorem nnew_any {lo gt : Nat} {s : Ts} (w : World) (hT : Tp lo gt w s) : Calls Tryz.prog 12 #[.pointer (some ⟨gt, 0, none⟩), .agg #[.int .i64 120, .int .i64 7200, .int .i64 30]] w fun e w' => ∃ gn gk, e = .returned (.tuple #[.pointer (some ⟨gn, 0, none⟩), .int .i64 0]) ∧ Np lo gn gt gk w' s ⟨128, []⟩ ∧ Below w.heap.size w w' := by
  have hlo := hT.lo_le
  have hP := hT
  clear hT
  have bel := Below.refl w.heap.size w
  go_enter Tryz.func12, Tryz.ntmps12
  go_wp2_with (first | ((with_reducible show wpList _ _ _ (⟨some 3, _, _, _, _, _⟩ :: _) _ _); refine wpList_box_n rfl 31 (.tmp 1) rfl #[.int .i64 120, .int .i64 7200, .int .i64 30] rfl ?_; intro g3 w1 ge lt hh bb; have oxB := Nat.le_trans bel.size ge; replace hP := hP.below bb; replace bel := bel.trans (bb.mono bel.size); have hxB := hh; clear hh lt ge bb; have R9 := cell_lit hxB 0 _ rfl))
  try clear R9
  with_reducible refine (nperm_y (x := 120) _ (by decide) (by decide)).mono ?_
  rintro e _ ⟨rfl, rfl⟩
  have R14 := cell_lit hxB 1 _ rfl
  go_wp2_with fail
  clear R14
  with_reducible refine (nperm_y (x := 7200) _ (by decide) (by decide)).mono ?_
  rintro e _ ⟨rfl, rfl⟩
  have R20 := cell_lit hxB 2 _ rfl
  go_wp2_with fail
  clear R20
  with_reducible refine (nperm_y (x := 30) _ (by decide) (by decide)).mono ?_
  rintro e _ ⟨rfl, rfl⟩
  go_wp2_with fail
  have HLO_ := Nat.le_trans hlo bel.size
  with_reducible refine (knew_any (rm := 128) _ (by decide) (by decide)).mono ?_
  rintro e w2 ⟨gk, rfl, hK, b2⟩
  replace hxB := blk_u hxB b2
  replace hP := hP.below b2
  replace bel := bel.trans (b2.mono bel.size)
  clear b2
  replace hK : Tk lo gk w2 ⟨128, []⟩ := hK.lo_mono HLO_
  clear HLO_
  have R33 := Lib.hid (range_lit hxB 0 3 [.int .i64 120, .int .i64 7200, .int .i64 30] rfl)
  go_wp2_with (first | ((with_reducible show wpList _ _ _ (⟨some 33, _, _, _, _, _⟩ :: _) _ _); refine wpList_load_rng 31 (.tmp 3) rfl (by kernel_rfl) _ _ rfl _ R33.out _ Tryz.underlying31 rfl (by kernel_rfl) ?_) | ((with_reducible show wpList _ _ _ (⟨some 35, _, _, _, _, _⟩ :: _) _ _); refine wpList_box_n rfl 82 (.tmp 34) rfl #[.pointer (some ⟨gt, 0, none⟩), .pointer (some ⟨gk, 0, none⟩), .int .i64 120, .int .i64 7200, .int .i64 30] rfl ?_; intro g35 w3 ge lt hh bb; have d_xB_nt := ne_new (hlt hxB) ge; have ont := Nat.le_trans bel.size ge; replace hxB := blk_u hxB bb; replace hP := hP.below bb; replace hK := hK.below bb; replace bel := bel.trans (bb.mono bel.size); have hnt := hh; clear hh lt ge bb))
  try clear R33
  exact bodyPost_ret (v := .tuple #[.pointer (some ⟨g35, 0, none⟩), .int .i64 0]) (by simp [results, Tryz.results12, go_sem]) rfl ⟨g35, gk, rfl, ⟨hnt, Nat.le_trans hlo ont, hP, hK⟩, bel⟩
set_option linter.unusedVariables false in
set_option linter.unusedVariables false in
set_option linter.unusedSimpArgs false in
set_option maxRecDepth 100000 in
set_option maxHeartbeats 16000000 in
theorem nat_some {lo gn gt gk : Nat} {s : Ts} {k : Ks} {s' : Ts} {pr o t : Int} {m : Mp} (w : World) (hT : Np lo gn gt gk w s k) (hc : InC lo gt s s' pr o t m) : Calls Tryz.prog 66 #[.pointer (some ⟨gn, 0, none⟩), .int .i64 pr, .int .i64 o, .int .i64 t] w fun e w' => e = .returned (.tuple #[.agg #[.int .i64 m.pr, .int .i64 m.o, .int .u8 (m.ad.a.toNat : Int), .int .u8 (m.ad.b.toNat : Int), .int .u8 (m.ad.c.toNat : Int), .int .u8 (m.ad.d.toNat : Int), .int .i64 m.i, .int .i64 m.k, .int .i64 m.u], .int .i64 0]) ∧ Np lo gn gt gk w' s' k ∧ Fn gn gt gk w w' ∧ Below lo w w' := by
  have hlo : lo ≤ w.heap.size := hT.lo_le
  have HLO := Lib.hid hlo
  have hnt := hT.nat
  have fr := Fn.refl gn gt gk w
  have bel := Below.refl lo w
  go_enter Tryz.func66, Tryz.ntmps66
  go_wp2_with (first | ((with_reducible show wpList _ _ _ (⟨some 8, _, _, _, _, _⟩ :: _) _ _); refine wpList_new_a rfl 65 rfl #[.int .i64 0, .int .i64 0, .int .u8 0, .int .u8 0, .int .u8 0, .int .u8 0, .int .i64 0, .int .i64 0, .int .i64 0] (by kernel_rfl) ?_; intro g8 w1 ge hh bb; have ap_rB := hT.ap ge; have d_nt_rB := ne_new (hlt hnt) ge; have orB := Nat.le_trans (Nat.le_trans hlo bel.size) ge; have prB := Nat.le_trans bel.size ge; replace hnt := blk_u hnt bb; replace hT := hT.below bb; replace fr := fr.below bb; replace ap_rB := ap_rB.below bb; replace bel := bel.trans (bb.mono (Nat.le_trans hlo bel.size)); have hrB := hh; clear hh ge bb; have R16 := cell_lit hnt 0 _ rfl))
  try clear R16
  with_reducible refine (np_t hT (hc _ hT.tp)).mono ?_
  rintro e w2 ⟨rfl, hT_, f_, bb⟩
  clear hnt
  have x_ := f_ _ _ _ _ hrB ap_rB
  replace hrB := x_.1
  replace ap_rB := x_.2
  clear x_
  replace fr := fr.trans f_
  clear hT
  have hT := hT_
  replace bel := bel.trans bb
  clear bb f_ hT_
  have hnt := hT.nat
  go_wp2_with (first | ((with_reducible show wpList _ _ _ (⟨some 10, _, _, _, _, _⟩ :: _) _ _); refine wpList_new_a rfl 65 rfl #[.int .i64 0, .int .i64 0, .int .u8 0, .int .u8 0, .int .u8 0, .int .u8 0, .int .i64 0, .int .i64 0, .int .i64 0] (by kernel_rfl) ?_; intro g10 w3 ge hh bb; have ap_mB := hT.ap ge; have d_rB_mB := ne_new (hlt hrB) ge; have d_nt_mB := ne_new (hlt hnt) ge; have omB := Nat.le_trans (Nat.le_trans hlo bel.size) ge; have pmB := Nat.le_trans bel.size ge; replace hrB := blk_u hrB bb; replace hnt := blk_u hnt bb; replace hT := hT.below bb; replace fr := fr.below bb; replace ap_rB := ap_rB.below bb; replace ap_mB := ap_mB.below bb; replace bel := bel.trans (bb.mono (Nat.le_trans hlo bel.size)); have hmB := hh; clear hh ge bb) | ((with_reducible show wpList _ _ _ (⟨none, Op.store _ (.tmp 10) _, _, _, _, _⟩ :: _) _ _); refine wpList_store_blk rfl 65 (.tmp 10) (.tmp 21) rfl g10 rfl _ rfl _ 65 hmB (by rfl) (by kernel_rfl) (by kernel_rfl) ?_; intro w4 hq gr; replace hrB := blk_a hrB gr d_rB_mB; replace hnt := blk_a hnt gr d_nt_mB; replace hT := hT.away ap_mB gr hmB; replace fr := fr.newer ap_mB gr pmB; replace ap_rB := ap_rB.grown ap_mB gr; replace ap_mB := ap_mB.grown ap_mB gr; replace bel := below_grown bel gr omB (Nat.le_trans hlo bel.size); clear hmB; have hmB := hq; clear hq gr; have R26 := Lib.hid (range_lit hmB 0 9 [.int .i64 m.pr, .int .i64 m.o, .int .u8 (m.ad.a.toNat : Int), .int .u8 (m.ad.b.toNat : Int), .int .u8 (m.ad.c.toNat : Int), .int .u8 (m.ad.d.toNat : Int), .int .i64 m.i, .int .i64 m.k, .int .i64 m.u] rfl)) | ((with_reducible show wpList _ _ _ (⟨some 26, _, _, _, _, _⟩ :: _) _ _); refine wpList_load_rng 65 (.tmp 10) rfl (by kernel_rfl) _ _ rfl _ R26.out _ Tryz.underlying65 rfl (by kernel_rfl) ?_) | ((with_reducible show wpList _ _ _ (⟨none, Op.store _ (.tmp 8) _, _, _, _, _⟩ :: _) _ _); refine wpList_store_blk rfl 65 (.tmp 8) (.tmp 26) rfl g8 rfl _ rfl _ 65 hrB (by rfl) (by kernel_rfl) (by kernel_rfl) ?_; intro w5 hq gr; replace hnt := blk_a hnt gr d_nt_rB; replace hmB := blk_a hmB gr (ne_symm d_rB_mB); replace hT := hT.away ap_rB gr hrB; replace fr := fr.newer ap_rB gr prB; replace ap_rB := ap_rB.grown ap_rB gr; replace ap_mB := ap_mB.grown ap_rB gr; replace bel := below_grown bel gr orB (Nat.le_trans hlo bel.size); clear hrB; have hrB := hq; clear hq gr))
  try clear R26
  exact bodyPost_ret (results_cell_tmp_row rfl _ _ _ _ _ _ _ rfl hrB Tryz.underlying65 rfl (by kernel_rfl) (.int .i64 0) rfl) rfl ⟨rfl, hT, fr, bel⟩
set_option linter.unusedVariables false in
set_option linter.unusedVariables false in
set_option linter.unusedSimpArgs false in
set_option maxRecDepth 100000 in
set_option maxHeartbeats 16000000 in
theorem nat_none {lo gn gt gk : Nat} {s : Ts} {k : Ks} {s' : Ts} {pr o t : Int} (w : World) (hT : Np lo gn gt gk w s k) (hc : InE lo gt s s' pr o t) : Calls Tryz.prog 66 #[.pointer (some ⟨gn, 0, none⟩), .int .i64 pr, .int .i64 o, .int .i64 t] w fun e w' => e = .returned (.tuple #[.agg #[.int .i64 0, .int .i64 0, .int .u8 0, .int .u8 0, .int .u8 0, .int .u8 0, .int .i64 0, .int .i64 0, .int .i64 0], .int .i64 6]) ∧ Np lo gn gt gk w' s' k ∧ Fn gn gt gk w w' ∧ Below lo w w' := by
  have hlo : lo ≤ w.heap.size := hT.lo_le
  have HLO := Lib.hid hlo
  have hnt := hT.nat
  have fr := Fn.refl gn gt gk w
  have bel := Below.refl lo w
  go_enter Tryz.func66, Tryz.ntmps66
  go_wp2_with (first | ((with_reducible show wpList _ _ _ (⟨some 8, _, _, _, _, _⟩ :: _) _ _); refine wpList_new_a rfl 65 rfl #[.int .i64 0, .int .i64 0, .int .u8 0, .int .u8 0, .int .u8 0, .int .u8 0, .int .i64 0, .int .i64 0, .int .i64 0] (by kernel_rfl) ?_; intro g8 w1 ge hh bb; have ap_rB := hT.ap ge; have d_nt_rB := ne_new (hlt hnt) ge; have orB := Nat.le_trans (Nat.le_trans hlo bel.size) ge; have prB := Nat.le_trans bel.size ge; replace hnt := blk_u hnt bb; replace hT := hT.below bb; replace fr := fr.below bb; replace ap_rB := ap_rB.below bb; replace bel := bel.trans (bb.mono (Nat.le_trans hlo bel.size)); have hrB := hh; clear hh ge bb; have R16 := cell_lit hnt 0 _ rfl))
  try clear R16
  with_reducible refine (np_t hT (hc _ hT.tp)).mono ?_
  rintro e w2 ⟨rfl, hT_, f_, bb⟩
  clear hnt
  have x_ := f_ _ _ _ _ hrB ap_rB
  replace hrB := x_.1
  replace ap_rB := x_.2
  clear x_
  replace fr := fr.trans f_
  clear hT
  have hT := hT_
  replace bel := bel.trans bb
  clear bb f_ hT_
  have hnt := hT.nat
  go_wp2_with (first | ((with_reducible show wpList _ _ _ (⟨some 10, _, _, _, _, _⟩ :: _) _ _); refine wpList_new_a rfl 65 rfl #[.int .i64 0, .int .i64 0, .int .u8 0, .int .u8 0, .int .u8 0, .int .u8 0, .int .i64 0, .int .i64 0, .int .i64 0] (by kernel_rfl) ?_; intro g10 w3 ge hh bb; have ap_mB := hT.ap ge; have d_rB_mB := ne_new (hlt hrB) ge; have d_nt_mB := ne_new (hlt hnt) ge; have omB := Nat.le_trans (Nat.le_trans hlo bel.size) ge; have pmB := Nat.le_trans bel.size ge; replace hrB := blk_u hrB bb; replace hnt := blk_u hnt bb; replace hT := hT.below bb; replace fr := fr.below bb; replace ap_rB := ap_rB.below bb; replace ap_mB := ap_mB.below bb; replace bel := bel.trans (bb.mono (Nat.le_trans hlo bel.size)); have hmB := hh; clear hh ge bb) | ((with_reducible show wpList _ _ _ (⟨none, Op.store _ (.tmp 10) _, _, _, _, _⟩ :: _) _ _); refine wpList_store_blk rfl 65 (.tmp 10) (.tmp 21) rfl g10 rfl _ rfl _ 65 hmB (by rfl) (by kernel_rfl) (by kernel_rfl) ?_; intro w4 hq gr; replace hrB := blk_a hrB gr d_rB_mB; replace hnt := blk_a hnt gr d_nt_mB; replace hT := hT.away ap_mB gr hmB; replace fr := fr.newer ap_mB gr pmB; replace ap_rB := ap_rB.grown ap_mB gr; replace ap_mB := ap_mB.grown ap_mB gr; replace bel := below_grown bel gr omB (Nat.le_trans hlo bel.size); clear hmB; have hmB := hq; clear hq gr) | ((with_reducible show wpList _ _ _ (⟨none, Op.store _ (.tmp 8) _, _, _, _, _⟩ :: _) _ _); refine wpList_store_blk rfl 65 (.tmp 8) (.tmp 25) rfl g8 rfl _ rfl _ 65 hrB (by rfl) (by kernel_rfl) (by kernel_rfl) ?_; intro w5 hq gr; replace hnt := blk_a hnt gr d_nt_rB; replace hmB := blk_a hmB gr (ne_symm d_rB_mB); replace hT := hT.away ap_rB gr hrB; replace fr := fr.newer ap_rB gr prB; replace ap_rB := ap_rB.grown ap_rB gr; replace ap_mB := ap_mB.grown ap_rB gr; replace bel := below_grown bel gr orB (Nat.le_trans hlo bel.size); clear hrB; have hrB := hq; clear hq gr))
  exact bodyPost_ret (results_cell_tmp_row rfl _ _ _ _ _ _ _ rfl hrB Tryz.underlying65 rfl (by kernel_rfl) (.int .i64 6) rfl) rfl ⟨rfl, hT, fr, bel⟩
set_option linter.unusedVariables false in
set_option linter.unusedVariables false in
set_option linter.unusedSimpArgs false in
set_option maxRecDepth 100000 in
set_option maxHeartbeats 16000000 in
theorem nmap_ok {lo gn gt gk : Nat} {s : Ts} {k : Ks} {s' : Ts} {tos id fl pt ttl pr p t sc : Int} {a0 a1 a2 a3 b0 b1 b2 b3 : UInt8} {So Sb : Option Addr} {no co nb cb : Nat} {m : Mp} (w : World) (hT : Np lo gn gt gk w s k) (hp : p ≠ 0) (hc : MakeC lo gt s s' pr a0 a1 a2 a3 p t sc m 0) : Calls Tryz.prog 75 #[.pointer (some ⟨gn, 0, none⟩), .agg #[.int .i64 tos, .int .i64 id, .int .i64 fl, .int .i64 pt, .int .i64 ttl, .int .i64 pr, .int .u8 (a0.toNat : Int), .int .u8 (a1.toNat : Int), .int .u8 (a2.toNat : Int), .int .u8 (a3.toNat : Int), .int .u8 (b0.toNat : Int), .int .u8 (b1.toNat : Int), .int .u8 (b2.toNat : Int), .int .u8 (b3.toNat : Int), .slice So no co, .slice Sb nb cb], .int .i64 p, .int .i64 t, .int .i64 sc] w fun e w' => e = .returned (.tuple #[.agg #[.int .i64 m.pr, .int .i64 m.o, .int .u8 (m.ad.a.toNat : Int), .int .u8 (m.ad.b.toNat : Int), .int .u8 (m.ad.c.toNat : Int), .int .u8 (m.ad.d.toNat : Int), .int .i64 m.i, .int .i64 m.k, .int .i64 m.u], .int .i64 0]) ∧ Np lo gn gt gk w' s' k ∧ Fn gn gt gk w w' ∧ Below lo w w' := by
  have hlo : lo ≤ w.heap.size := hT.lo_le
  have HLO := Lib.hid hlo
  have hnt := hT.nat
  have fr := Fn.refl gn gt gk w
  have hp1 : (p == 0) = false := beq_eq_false_iff_ne.2 hp
  clear hp
  have bel := Below.refl lo w
  go_enter Tryz.func75, Tryz.ntmps75
  go_wp2_with (first | ((with_reducible show wpList _ _ _ (⟨some 6, _, _, _, _, _⟩ :: _) _ _); refine wpList_box_n rfl 38 (.tmp 1) rfl #[.int .i64 tos, .int .i64 id, .int .i64 fl, .int .i64 pt, .int .i64 ttl, .int .i64 pr, .int .u8 (a0.toNat : Int), .int .u8 (a1.toNat : Int), .int .u8 (a2.toNat : Int), .int .u8 (a3.toNat : Int), .int .u8 (b0.toNat : Int), .int .u8 (b1.toNat : Int), .int .u8 (b2.toNat : Int), .int .u8 (b3.toNat : Int), .slice So no co, .slice Sb nb cb] rfl ?_; intro g6 w1 ge lt hh bb; have ap_pB := hT.ap ge; have d_nt_pB := ne_new (hlt hnt) ge; have opB := Nat.le_trans (Nat.le_trans hlo bel.size) ge; have ppB := Nat.le_trans bel.size ge; replace hnt := blk_u hnt bb; replace hT := hT.below bb; replace fr := fr.below bb; replace ap_pB := ap_pB.below bb; replace bel := bel.trans (bb.mono (Nat.le_trans hlo bel.size)); have hpB := hh; clear hh lt ge bb) | ((with_reducible show wpList _ _ _ (⟨some 10, _, _, _, _, _⟩ :: _) _ _); refine wpList_new_a rfl 65 rfl #[.int .i64 0, .int .i64 0, .int .u8 0, .int .u8 0, .int .u8 0, .int .u8 0, .int .i64 0, .int .i64 0, .int .i64 0] (by kernel_rfl) ?_; intro g10 w2 ge hh bb; have ap_rB := hT.ap ge; have d_nt_rB := ne_new (hlt hnt) ge; have d_pB_rB := ne_new (hlt hpB) ge; have orB := Nat.le_trans (Nat.le_trans hlo bel.size) ge; have prB := Nat.le_trans bel.size ge; replace hnt := blk_u hnt bb; replace hpB := blk_u hpB bb; replace hT := hT.below bb; replace fr := fr.below bb; replace ap_pB := ap_pB.below bb; replace ap_rB := ap_rB.below bb; replace bel := bel.trans (bb.mono (Nat.le_trans hlo bel.size)); have hrB := hh; clear hh ge bb))
  replace bel := bel.drew
  replace hnt : w2.drew.heap[gn]? = _ := hnt
  replace hpB : w2.drew.heap[g6]? = _ := hpB
  replace hrB : w2.drew.heap[g10]? = _ := hrB
  replace hT := np_drew hT
  replace fr := fn_drew fr
  replace ap_pB := anp_drew ap_pB
  replace ap_rB := anp_drew ap_rB
  refine wp_region_held_drew (S := fun W => W.heap[gn]? = some (.cells #[.pointer (some ⟨gt, 0, none⟩), .pointer (some ⟨gk, 0, none⟩), .int .i64 120, .int .i64 7200, .int .i64 30] 82 (0, 0)) ∧ W.heap[g6]? = some (.cells #[.int .i64 tos, .int .i64 id, .int .i64 fl, .int .i64 pt, .int .i64 ttl, .int .i64 pr, .int .u8 (a0.toNat : Int), .int .u8 (a1.toNat : Int), .int .u8 (a2.toNat : Int), .int .u8 (a3.toNat : Int), .int .u8 (b0.toNat : Int), .int .u8 (b1.toNat : Int), .int .u8 (b2.toNat : Int), .int .u8 (b3.toNat : Int), .slice So no co, .slice Sb nb cb] 38 (0, 0))) (by kernel_rfl) ⟨hnt, hpB⟩ (fun hH => ?_)
  generalize w2.drew = w3 at bel hnt hpB hrB hT fr ap_pB ap_rB hH ⊢
  refine wpAnyH_take (i := 0) (v := ?_) rfl (by kernel_rfl) (by kernel_rfl) (by kernel_rfl) (fun _ _ _ h => h) (Or.inl ⟨by rfl, ?_⟩) hH ?_
  rotate_left
  · ((intro W hW; clear hW; go_simp) <;> with_reducible rfl)
  simp only [Act.put, List.getElem_toArray, List.getElem_cons_zero, List.setIfInBounds_toArray, List.set_cons_zero, List.set_cons_succ]
  refine wpAnyH_take (i := 1) (v := ?_) rfl (by kernel_rfl) (by kernel_rfl) (by kernel_rfl) (fun _ _ _ h => h) (Or.inl ⟨by rfl, ?_⟩) hH ?_
  rotate_left
  · ((intro W hW; clear hW; go_simp) <;> with_reducible rfl)
  simp only [sq3, sq4]
  refine wpAnyH_take (i := 2) (v := ?_) rfl (by kernel_rfl) (by kernel_rfl) (by kernel_rfl) (fun _ _ _ h => h) (Or.inl ⟨by rfl, ?_⟩) hH ?_
  rotate_left
  · ((intro W hW; clear hW; go_simp) <;> with_reducible rfl)
  simp only [sq3, sq4]
  refine wpAnyH_take (i := 3) (v := ?_) rfl (by kernel_rfl) (by kernel_rfl) (by kernel_rfl) (fun _ _ _ h => h) (Or.inl ⟨by rfl, ?_⟩) hH ?_
  rotate_left
  · ((intro W hW; have hk := cell_lit (hW.1) 0 _ rfl; clear hW; go_simp) <;> with_reducible rfl)
  simp only [sq3, sq4]
  refine wpAnyH_take (i := 4) (v := ?_) rfl (by kernel_rfl) (by kernel_rfl) (by kernel_rfl) (fun _ _ _ h => h) (Or.inl ⟨by rfl, ?_⟩) hH ?_
  rotate_left
  · ((intro W hW; clear hW; go_simp) <;> with_reducible rfl)
  simp only [sq3, sq4]
  refine wpAnyH_take (i := 5) (v := ?_) rfl (by kernel_rfl) (by kernel_rfl) (by kernel_rfl) (fun _ _ _ h => h) (Or.inl ⟨by rfl, ?_⟩) hH ?_
  rotate_left
  · ((intro W hW; have hk := cell_lit (hW.2) 5 _ rfl; clear hW; go_simp) <;> with_reducible rfl)
  simp only [sq3, sq4]
  refine wpAnyH_take (i := 6) (v := ?_) rfl (by kernel_rfl) (by kernel_rfl) (by kernel_rfl) (fun _ _ _ h => h) (Or.inl ⟨by rfl, ?_⟩) hH ?_
  rotate_left
  · ((intro W hW; clear hW; go_simp) <;> with_reducible rfl)
  simp only [sq3, sq4]
  refine wpAnyH_take (i := 7) (v := .agg #[.int .u8 (a0.toNat : Int), .int .u8 (a1.toNat : Int), .int .u8 (a2.toNat : Int), .int .u8 (a3.toNat : Int)]) rfl (by kernel_rfl) (by kernel_rfl) (by kernel_rfl) (fun _ _ _ h => h) (yieldsIf_load_part (by kernel_rfl) 35 _ rfl g6 6 4 rfl _ 38 (0, 0) (fun W hW => hW.2) _ rfl _ Tryz.underlying35 rfl (by kernel_rfl)) hH ?_
  simp only [sq3, sq4]
  refine wpAnyH_take (i := 8) (v := ?_) rfl (by kernel_rfl) (by kernel_rfl) (by kernel_rfl) (fun _ _ _ h => h) (Or.inl ⟨by rfl, ?_⟩) hH ?_
  rotate_left
  · ((intro W hW; clear hW; go_simp) <;> with_reducible rfl)
  simp only [sq3, sq4]
  refine wpAnyH_take (i := 9) (v := ?_) rfl (by kernel_rfl) (by kernel_rfl) (by kernel_rfl) (fun _ _ _ h => h) (Or.inl ⟨by rfl, ?_⟩) hH ?_
  rotate_left
  · ((intro W hW; clear hW; go_simp) <;> with_reducible rfl)
  simp only [sq3, sq4]
  refine wpAnyH_take (i := 10) (v := ?_) rfl (by kernel_rfl) (by kernel_rfl) (by kernel_rfl) (fun _ _ _ h => h) (Or.inl ⟨by rfl, ?_⟩) hH ?_
  rotate_left
  · ((intro W hW; clear hW; go_simp) <;> with_reducible rfl)
  simp only [sq3, sq4]
  refine wpAnyH_take (i := 11) (v := ?_) rfl (by kernel_rfl) (by kernel_rfl) (by kernel_rfl) (fun _ _ _ h => h) (Or.inl ⟨by rfl, ?_⟩) hH ?_
  rotate_left
  · ((intro W hW; clear hW; go_simp) <;> with_reducible rfl)
  simp only [sq3, sq4]
  refine wpAnyH_ready (rs := [12]) (by kernel_rfl) (by simp) ?_
  refine AllReadyH.cons (o := _) rfl (fun K hK => ?_) AllReadyH.nil
  simp only [sq3]
  go_simp
  with_reducible refine (np_t hT (hc _ hT.tp)).mono ?_
  rintro e w4 ⟨rfl, hT_, f_, bb⟩
  dsimp only
  clear hnt
  have x_ := f_ _ _ _ _ hpB ap_pB
  replace hpB := x_.1
  replace ap_pB := x_.2
  clear x_
  have x_ := f_ _ _ _ _ hrB ap_rB
  replace hrB := x_.1
  replace ap_rB := x_.2
  clear x_
  replace fr := fr.trans f_
  clear hT
  have hT := hT_
  replace bel := bel.trans bb
  clear bb f_ hT_
  have hnt := hT.nat
  refine hK.out _ _ ⟨hnt, hpB⟩ (fun hH5 => ?_)
  clear hK K
  refine wpAnyH_take (i := 13) (v := ?_) rfl (by kernel_rfl) (by kernel_rfl) (by kernel_rfl) (fun _ _ _ h => h) (Or.inl ⟨by rfl, ?_⟩) hH5 ?_
  rotate_left
  · ((intro W hW; clear hW; go_simp) <;> with_reducible rfl)
  simp only [sq3, sq4]
  refine wpAnyH_take (i := 14) (v := ?_) rfl (by kernel_rfl) (by kernel_rfl) (by kernel_rfl) (fun _ _ _ h => h) (Or.inl ⟨by rfl, ?_⟩) hH5 ?_
  rotate_left
  · ((intro W hW; clear hW; go_simp) <;> with_reducible rfl)
  simp only [sq3, sq4]
  refine wpAnyH_ready (rs := [15]) (by kernel_rfl) (by simp) ?_
  refine AllReadyH.cons (o := _) rfl (fun K hK => ?_) AllReadyH.nil
  simp only [sq3]
  rw [if_pos (by rfl)]
  refine wp_store_blk 65 (.tmp 10) (.tmp 28) rfl g10 rfl _ rfl _ 65 hrB (by rfl) (by kernel_rfl) (by kernel_rfl) ?_
  intro w6 hq gr
  replace hpB := blk_a hpB gr d_pB_rB
  replace hnt := blk_a hnt gr d_nt_rB
  replace hT := hT.away ap_rB gr hrB
  replace fr := fr.newer ap_rB gr prB
  replace ap_pB := ap_pB.grown ap_rB gr
  replace ap_rB := ap_rB.grown ap_rB gr
  replace bel := below_grown bel gr orB (Nat.le_trans hlo bel.size)
  clear hrB
  have hrB := hq
  clear hq gr
  refine hK.out _ _ ⟨hnt, hpB⟩ (fun hH7 => ?_)
  clear hK K
  simp only [Act.put]
  refine wpAnyH_take (i := 16) (v := ?_) rfl (by kernel_rfl) (by kernel_rfl) (by kernel_rfl) (fun _ _ _ h => h) (Or.inl ⟨by rfl, ?_⟩) hH7 ?_
  rotate_left
  · ((intro W hW; clear hW; go_simp) <;> with_reducible rfl)
  simp only [sq3, sq4]
  refine wpAnyH_done (by kernel_rfl) ?_ _
  go_wp2_with fail
  exact bodyPost_ret (results_cell_tmp_row rfl _ _ _ _ _ _ _ rfl hrB Tryz.underlying65 rfl (by kernel_rfl) (.int .i64 0) rfl) rfl ⟨rfl, hT, fr, bel⟩
end Go.Proofs.YtbdaejodbcjmfaaGreat
