/- Layer 8: tcp's Get. -/
import Derived.Test.YtkmihoijnjdbnaaTc1
namespace Go.Proofs.Ytkmihoijnjdbnaa
open Go.RowKit

set_option linter.unusedVariables false in
set_option maxRecDepth 100000 in
set_option maxHeartbeats 16000000 in
theorem tcget_1 (tos id fl pt ttl pr : Int) (a0 a1 a2 a3 a4 a5 a6 a7 : UInt8) (So Sb : Option Addr) (no co nb cb : Nat) (lb : List UInt8) (w : World) (hp : pr ≠ 6) : Calls Try.prog 10 #[.agg #[.int .i64 tos, .int .i64 id, .int .i64 fl, .int .i64 pt, .int .i64 ttl, .int .i64 pr, .int .u8 (a0.toNat : Int), .int .u8 (a1.toNat : Int), .int .u8 (a2.toNat : Int), .int .u8 (a3.toNat : Int), .int .u8 (a4.toNat : Int), .int .u8 (a5.toNat : Int), .int .u8 (a6.toNat : Int), .int .u8 (a7.toNat : Int), .slice So no co, .slice Sb nb cb]] w (SgPost (tcGet fl pt pr a0 a1 a2 a3 a4 a5 a6 a7 (lb)) w) := by
  have HP : Hid (tcGet fl pt pr a0 a1 a2 a3 a4 a5 a6 a7 (lb) = sgNone 1) := Lib.hid (tc_err (by exact if_pos hp) (by decide))
  have t0 : (pr == 6) = false := by simpa using hp
  have t1 : (pr != 6) = true := by simpa using hp
  clear hp
  have bel := Below.refl w.heap.size w
  go_enter Try.func10, Try.ntmps10
  go_wp2_with (first | ((with_reducible show wpList _ _ _ (⟨some 1, _, _, _, _, _⟩ :: _) _ _); refine wpList_box_n rfl 27 (.tmp 0) rfl #[.int .i64 tos, .int .i64 id, .int .i64 fl, .int .i64 pt, .int .i64 ttl, .int .i64 pr, .int .u8 (a0.toNat : Int), .int .u8 (a1.toNat : Int), .int .u8 (a2.toNat : Int), .int .u8 (a3.toNat : Int), .int .u8 (a4.toNat : Int), .int .u8 (a5.toNat : Int), .int .u8 (a6.toNat : Int), .int .u8 (a7.toNat : Int), .slice So no co, .slice Sb nb cb] rfl ?_; intro g1 w1 ge lt hh bb; have op := Nat.le_trans bel.size ge; replace bel := bel.trans (bb.mono bel.size); have hp := hh; clear hh lt ge bb) | ((with_reducible show wpList _ _ _ (⟨some 2, _, _, _, _, _⟩ :: _) _ _); refine wpList_new_a rfl 34 rfl #[.int .i64 0, .int .i64 0, .int .u32 0, .int .u32 0, .int .i64 0, .int .i64 0, .int .i64 0, .slice none 0 0, .slice none 0 0] (by kernel_rfl) ?_; intro g2 w2 ge hh bb; have d_p_z := ne_new (hlt hp) ge; have oz := Nat.le_trans bel.size ge; replace hp := blk_u hp bb; replace bel := bel.trans (bb.mono bel.size); have hz := hh; clear hh ge bb; have R8 := cell_lit hp 5 _ rfl) | ((with_reducible show wpList _ _ _ (⟨none, Op.store _ (.tmp 2) _, _, _, _, _⟩ :: _) _ _); refine wpList_store_blk rfl 34 (.tmp 2) (.tmp 10) rfl g2 rfl _ rfl _ 34 hz (by rfl) (by kernel_rfl) (by kernel_rfl) ?_; intro w3 hq gr; replace hp := blk_a hp gr d_p_z; replace bel := below_grown bel gr oz bel.size; clear hz; have hz := hq; clear hq gr))
  try clear R8
  exact bodyPost_ret (results_cell_tmp_row rfl _ _ _ _ _ _ _ rfl hz Try.underlying34 rfl (by kernel_rfl) (.int .i64 1) rfl) rfl (SgPost.none HP.out.symm bel)
set_option linter.unusedVariables false in
set_option maxRecDepth 100000 in
set_option maxHeartbeats 16000000 in
theorem tcget_2 (tos id fl pt ttl : Int) (a0 a1 a2 a3 a4 a5 a6 a7 : UInt8) (So Sb : Option Addr) (no co nb cb : Nat) (lb : List UInt8) (w : World) (hw : (decide (pt = 0) && decide (fl % 2 = 0)) = false) : Calls Try.prog 10 #[.agg #[.int .i64 tos, .int .i64 id, .int .i64 fl, .int .i64 pt, .int .i64 ttl, .int .i64 6, .int .u8 (a0.toNat : Int), .int .u8 (a1.toNat : Int), .int .u8 (a2.toNat : Int), .int .u8 (a3.toNat : Int), .int .u8 (a4.toNat : Int), .int .u8 (a5.toNat : Int), .int .u8 (a6.toNat : Int), .int .u8 (a7.toNat : Int), .slice So no co, .slice Sb nb cb]] w (SgPost (tcGet fl pt 6 a0 a1 a2 a3 a4 a5 a6 a7 (lb)) w) := by
  have HP : Hid (tcGet fl pt 6 a0 a1 a2 a3 a4 a5 a6 a7 (lb) = sgNone 10) := Lib.hid (tc_err (by unfold tcErr; rw [if_neg (by decide), if_pos (by simpa using hw)]) (by decide))
  have HW := Lib.hid hw
  clear hw
  have bel := Below.refl w.heap.size w
  go_enter Try.func10, Try.ntmps10
  go_wp2_with (first | ((with_reducible show wpList _ _ _ (⟨some 1, _, _, _, _, _⟩ :: _) _ _); refine wpList_box_n rfl 27 (.tmp 0) rfl #[.int .i64 tos, .int .i64 id, .int .i64 fl, .int .i64 pt, .int .i64 ttl, .int .i64 6, .int .u8 (a0.toNat : Int), .int .u8 (a1.toNat : Int), .int .u8 (a2.toNat : Int), .int .u8 (a3.toNat : Int), .int .u8 (a4.toNat : Int), .int .u8 (a5.toNat : Int), .int .u8 (a6.toNat : Int), .int .u8 (a7.toNat : Int), .slice So no co, .slice Sb nb cb] rfl ?_; intro g1 w1 ge lt hh bb; have op := Nat.le_trans bel.size ge; replace bel := bel.trans (bb.mono bel.size); have hp := hh; clear hh lt ge bb) | ((with_reducible show wpList _ _ _ (⟨some 2, _, _, _, _, _⟩ :: _) _ _); refine wpList_new_a rfl 34 rfl #[.int .i64 0, .int .i64 0, .int .u32 0, .int .u32 0, .int .i64 0, .int .i64 0, .int .i64 0, .slice none 0 0, .slice none 0 0] (by kernel_rfl) ?_; intro g2 w2 ge hh bb; have d_p_z := ne_new (hlt hp) ge; have oz := Nat.le_trans bel.size ge; replace hp := blk_u hp bb; replace bel := bel.trans (bb.mono bel.size); have hz := hh; clear hh ge bb; have R8 := cell_lit hp 5 _ rfl; have R11 := Lib.hid (range_lit hp 0 16 [.int .i64 tos, .int .i64 id, .int .i64 fl, .int .i64 pt, .int .i64 ttl, .int .i64 6, .int .u8 (a0.toNat : Int), .int .u8 (a1.toNat : Int), .int .u8 (a2.toNat : Int), .int .u8 (a3.toNat : Int), .int .u8 (a4.toNat : Int), .int .u8 (a5.toNat : Int), .int .u8 (a6.toNat : Int), .int .u8 (a7.toNat : Int), .slice So no co, .slice Sb nb cb] rfl)) | ((with_reducible show wpList _ _ _ (⟨some 11, _, _, _, _, _⟩ :: _) _ _); refine wpList_load_rng 27 (.tmp 1) rfl (by kernel_rfl) _ _ rfl _ R11.out _ Try.underlying27 rfl (by kernel_rfl) ?_))
  try clear R8
  try clear R11
  with_reducible refine (ipwhole_any _ _ _ _ _ _ _ _ _ _ _ _ _ _ _ _ _ _ _ _ _).mono ?_
  rintro e w3 ⟨rfl, b3⟩
  replace hp := blk_u hp b3
  replace hz := blk_u hz b3
  replace bel := bel.trans (b3.mono bel.size)
  clear b3
  rw [HW.out]
  go_wp2_with (first | ((with_reducible show wpList _ _ _ (⟨none, Op.store _ (.tmp 2) _, _, _, _, _⟩ :: _) _ _); refine wpList_store_blk rfl 34 (.tmp 2) (.tmp 14) rfl g2 rfl _ rfl _ 34 hz (by rfl) (by kernel_rfl) (by kernel_rfl) ?_; intro w4 hq gr; replace hp := blk_a hp gr d_p_z; replace bel := below_grown bel gr oz bel.size; clear hz; have hz := hq; clear hq gr))
  exact bodyPost_ret (results_cell_tmp_row rfl _ _ _ _ _ _ _ rfl hz Try.underlying34 rfl (by kernel_rfl) (.int .i64 10) rfl) rfl (SgPost.none HP.out.symm bel)
set_option linter.unusedVariables false in
set_option maxRecDepth 100000 in
set_option maxHeartbeats 16000000 in
theorem tcget_3 (tos id fl pt ttl : Int) (a0 a1 a2 a3 a4 a5 a6 a7 : UInt8) (So Sb : Option Addr) (no co nb cb : Nat) (lb : List UInt8) (w : World) (hb : Sl w Sb nb cb lb) (hw : (decide (pt = 0) && decide (fl % 2 = 0)) = true) (hn : nb < 20) : Calls Try.prog 10 #[.agg #[.int .i64 tos, .int .i64 id, .int .i64 fl, .int .i64 pt, .int .i64 ttl, .int .i64 6, .int .u8 (a0.toNat : Int), .int .u8 (a1.toNat : Int), .int .u8 (a2.toNat : Int), .int .u8 (a3.toNat : Int), .int .u8 (a4.toNat : Int), .int .u8 (a5.toNat : Int), .int .u8 (a6.toNat : Int), .int .u8 (a7.toNat : Int), .slice So no co, .slice Sb nb cb]] w (SgPost (tcGet fl pt 6 a0 a1 a2 a3 a4 a5 a6 a7 (lb)) w) := by
  have HP : Hid (tcGet fl pt 6 a0 a1 a2 a3 a4 a5 a6 a7 (lb) = sgNone 3) := Lib.hid (tc_err (by unfold tcErr; rw [if_neg (by decide), if_neg (by simpa using hw), if_pos (by rw [hb.1]; exact hn)]) (by decide))
  have HW := Lib.hid hw
  have HN := Lib.hid hn
  have HL := Lib.hid hb.1
  clear hw hn
  have bel := Below.refl w.heap.size w
  go_enter Try.func10, Try.ntmps10
  go_wp2_with (first | ((with_reducible show wpList _ _ _ (⟨some 1, _, _, _, _, _⟩ :: _) _ _); refine wpList_box_n rfl 27 (.tmp 0) rfl #[.int .i64 tos, .int .i64 id, .int .i64 fl, .int .i64 pt, .int .i64 ttl, .int .i64 6, .int .u8 (a0.toNat : Int), .int .u8 (a1.toNat : Int), .int .u8 (a2.toNat : Int), .int .u8 (a3.toNat : Int), .int .u8 (a4.toNat : Int), .int .u8 (a5.toNat : Int), .int .u8 (a6.toNat : Int), .int .u8 (a7.toNat : Int), .slice So no co, .slice Sb nb cb] rfl ?_; intro g1 w1 ge lt hh bb; have av_hb_p := hb.av_new ge; have op := Nat.le_trans bel.size ge; replace hb := hb.below bb; replace bel := bel.trans (bb.mono bel.size); have hp := hh; clear hh lt ge bb) | ((with_reducible show wpList _ _ _ (⟨some 2, _, _, _, _, _⟩ :: _) _ _); refine wpList_new_a rfl 34 rfl #[.int .i64 0, .int .i64 0, .int .u32 0, .int .u32 0, .int .i64 0, .int .i64 0, .int .i64 0, .slice none 0 0, .slice none 0 0] (by kernel_rfl) ?_; intro g2 w2 ge hh bb; have d_p_z := ne_new (hlt hp) ge; have av_hb_z := hb.av_new ge; have oz := Nat.le_trans bel.size ge; replace hp := blk_u hp bb; replace hb := hb.below bb; replace bel := bel.trans (bb.mono bel.size); have hz := hh; clear hh ge bb; have R8 := cell_lit hp 5 _ rfl; have R11 := Lib.hid (range_lit hp 0 16 [.int .i64 tos, .int .i64 id, .int .i64 fl, .int .i64 pt, .int .i64 ttl, .int .i64 6, .int .u8 (a0.toNat : Int), .int .u8 (a1.toNat : Int), .int .u8 (a2.toNat : Int), .int .u8 (a3.toNat : Int), .int .u8 (a4.toNat : Int), .int .u8 (a5.toNat : Int), .int .u8 (a6.toNat : Int), .int .u8 (a7.toNat : Int), .slice So no co, .slice Sb nb cb] rfl)) | ((with_reducible show wpList _ _ _ (⟨some 11, _, _, _, _, _⟩ :: _) _ _); refine wpList_load_rng 27 (.tmp 1) rfl (by kernel_rfl) _ _ rfl _ R11.out _ Try.underlying27 rfl (by kernel_rfl) ?_))
  try clear R8
  try clear R11
  with_reducible refine (ipwhole_any _ _ _ _ _ _ _ _ _ _ _ _ _ _ _ _ _ _ _ _ _).mono ?_
  rintro e w3 ⟨rfl, b3⟩
  replace hp := blk_u hp b3
  replace hz := blk_u hz b3
  replace hb := hb.below b3
  replace bel := bel.trans (b3.mono bel.size)
  clear b3
  rw [HW.out]
  have R16 := cell_lit hp 15 _ rfl
  go_wp2_with fail
  clear R16
  with_reducible refine (rd_read _ _ _ _ _ hb (by have := HN.out; omega)).mono ?_
  rintro e w4 ⟨gr, Ar3, cr3, rfl, ge, hh, rest, frr, avr, b4⟩
  have av_rest_p := frr.av (hlt hp)
  have av_rest_z := frr.av (hlt hz)
  have d_p_r := ne_new (hlt hp) ge
  have d_z_r := ne_new (hlt hz) ge
  have av_hb_r := hb.av_new ge
  have or := Nat.le_trans bel.size ge
  replace hp := blk_u hp b4
  replace hz := blk_u hz b4
  replace hb := hb.below b4
  replace bel := bel.trans (b4.mono bel.size)
  have hr := hh
  clear hh ge b4
  replace rest : Sl w4 (Ar3) (nb) (cr3) (lb) := rest
  go_wp2_with fail
  with_reducible refine (rd_u16e _ _ _ _ _ _ _ hr rest).mono ?_
  rintro e w5 ⟨A4, n4, c4, x1, s1, es1, rfl, hq, sq, uq, b5⟩
  replace hb := hb.away av_hb_r b5
  replace hp := blk_a hp b5 d_p_r
  replace hz := blk_a hz b5 d_z_r
  replace bel := below_grown bel b5 or bel.size
  clear b5
  clear hr rest
  have hr := hq
  have rest := sq
  clear hq sq
  have av4_rest_p := av_rest_p.sub uq
  have av4_rest_z := av_rest_z.sub uq
  have av4_rest_r := avr.sub uq
  clear uq
  go_wp2_with fail
  with_reducible refine (rd_u16e _ _ _ _ _ _ _ hr rest).mono ?_
  rintro e w6 ⟨A5, n5, c5, x2, s2, es2, rfl, hq, sq, uq, b6⟩
  replace hb := hb.away av_hb_r b6
  replace hp := blk_a hp b6 d_p_r
  replace hz := blk_a hz b6 d_z_r
  replace bel := below_grown bel b6 or bel.size
  clear b6
  clear hr rest
  have hr := hq
  have rest := sq
  clear hq sq
  have av5_rest_p := av4_rest_p.sub uq
  have av5_rest_z := av4_rest_z.sub uq
  have av5_rest_r := av4_rest_r.sub uq
  clear uq
  go_wp2_with fail
  with_reducible refine (rd_u32e _ _ _ _ _ _ _ hr rest).mono ?_
  rintro e w7 ⟨A6, n6, c6, x3, s3, es3, rfl, hq, sq, uq, b7⟩
  replace hb := hb.away av_hb_r b7
  replace hp := blk_a hp b7 d_p_r
  replace hz := blk_a hz b7 d_z_r
  replace bel := below_grown bel b7 or bel.size
  clear b7
  clear hr rest
  have hr := hq
  have rest := sq
  clear hq sq
  have av6_rest_p := av5_rest_p.sub uq
  have av6_rest_z := av5_rest_z.sub uq
  have av6_rest_r := av5_rest_r.sub uq
  clear uq
  go_wp2_with fail
  with_reducible refine (rd_u32e _ _ _ _ _ _ _ hr rest).mono ?_
  rintro e w8 ⟨A7, n7, c7, x4, s4, es4, rfl, hq, sq, uq, b8⟩
  replace hb := hb.away av_hb_r b8
  replace hp := blk_a hp b8 d_p_r
  replace hz := blk_a hz b8 d_z_r
  replace bel := below_grown bel b8 or bel.size
  clear b8
  clear hr rest
  have hr := hq
  have rest := sq
  clear hq sq
  have av7_rest_p := av6_rest_p.sub uq
  have av7_rest_z := av6_rest_z.sub uq
  have av7_rest_r := av6_rest_r.sub uq
  clear uq
  go_wp2_with (first | ((with_reducible show wpList _ _ _ (⟨some 5, _, _, _, _, _⟩ :: _) _ _); refine wpList_new_a rfl 34 rfl #[.int .i64 0, .int .i64 0, .int .u32 0, .int .u32 0, .int .i64 0, .int .i64 0, .int .i64 0, .slice none 0 0, .slice none 0 0] (by kernel_rfl) ?_; intro g5 w9 ge hh bb; have d_p_d := ne_new (hlt hp) ge; have d_z_d := ne_new (hlt hz) ge; have d_r_d := ne_new (hlt hr) ge; have av_hb_d := hb.av_new ge; have av_rest_d := rest.av_new ge; have od := Nat.le_trans bel.size ge; replace hp := blk_u hp bb; replace hz := blk_u hz bb; replace hr := blk_u hr bb; replace hb := hb.below bb; replace rest := rest.below bb; replace bel := bel.trans (bb.mono bel.size); have hd := hh; clear hh ge bb) | ((with_reducible show wpList _ _ _ (⟨none, Op.store _ (.tmp 5) _, _, _, _, _⟩ :: _) _ _); refine wpList_store_blk rfl 34 (.tmp 5) (.tmp 26) rfl g5 rfl _ rfl _ 34 hd (by rfl) (by kernel_rfl) (by kernel_rfl) ?_; intro w10 hq gr; replace hb := hb.away av_hb_d gr; replace rest := rest.away av_rest_d gr; replace hp := blk_a hp gr d_p_d; replace hz := blk_a hz gr d_z_d; replace hr := blk_a hr gr d_r_d; replace bel := below_grown bel gr od bel.size; clear hd; have hd := hq; clear hq gr))
  with_reducible refine (rd_u8e _ _ _ _ _ _ _ hr rest).mono ?_
  rintro e w11 ⟨A10, n10, c10, x5, s5, es5, xb5, rfl, hq, sq, uq, b11⟩
  replace hb := hb.away av_hb_r b11
  replace hp := blk_a hp b11 d_p_r
  replace hz := blk_a hz b11 d_z_r
  replace hd := blk_a hd b11 (ne_symm d_r_d)
  replace bel := below_grown bel b11 or bel.size
  clear b11
  clear hr rest
  have hr := hq
  have rest := sq
  clear hq sq
  have av10_rest_p := av7_rest_p.sub uq
  have av10_rest_z := av7_rest_z.sub uq
  have av10_rest_r := av7_rest_r.sub uq
  have av10_rest_d := av_rest_d.sub uq
  clear uq
  have x5a : (0 : Int) ≤ x5 := by omega
  have x5w : IntKind.i64.wrap ((x5 : Int) / 16 * 4) = (x5 : Int) / 16 * 4 := IntWalk.i64_in _ (by omega)
  obtain ⟨y5, hy5⟩ : ∃ y, bits .and .i64 (x5 : Int) 63 = y := ⟨_, rfl⟩
  go_wp2_with fail
  with_reducible refine (rd_u8e _ _ _ _ _ _ _ hr rest).mono ?_
  rintro e w12 ⟨A11, n11, c11, x6, s6, es6, xb6, rfl, hq, sq, uq, b12⟩
  replace hb := hb.away av_hb_r b12
  replace hp := blk_a hp b12 d_p_r
  replace hz := blk_a hz b12 d_z_r
  replace hd := blk_a hd b12 (ne_symm d_r_d)
  replace bel := below_grown bel b12 or bel.size
  clear b12
  clear hr rest
  have hr := hq
  have rest := sq
  clear hq sq
  have av11_rest_p := av10_rest_p.sub uq
  have av11_rest_z := av10_rest_z.sub uq
  have av11_rest_r := av10_rest_r.sub uq
  have av11_rest_d := av10_rest_d.sub uq
  clear uq
  have x6a : (0 : Int) ≤ x6 := by omega
  have x6w : IntKind.i64.wrap ((x6 : Int) / 16 * 4) = (x6 : Int) / 16 * 4 := IntWalk.i64_in _ (by omega)
  obtain ⟨y6, hy6⟩ : ∃ y, bits .and .i64 (x6 : Int) 63 = y := ⟨_, rfl⟩
  go_wp2_with (first | ((with_reducible show wpList _ _ _ (⟨none, Op.store _ (.tmp 34) _, _, _, _, _⟩ :: _) _ _); refine wpList_store_part rfl 3 (.tmp 34) (.tmp 33) rfl g5 4 rfl [.int .i64 y6] rfl [.int .i64 (x1 : Int), .int .i64 (x2 : Int), .int .u32 (x3 : Int), .int .u32 (x4 : Int), .int .i64 0, .int .i64 0, .int .i64 0, .slice none 0 0, .slice none 0 0] 34 hd (by simp) [.int .i64 (x1 : Int), .int .i64 (x2 : Int), .int .u32 (x3 : Int), .int .u32 (x4 : Int), .int .i64 y6, .int .i64 0, .int .i64 0, .slice none 0 0, .slice none 0 0] rfl (by kernel_rfl) (by rfl) ?_; intro w13 hq gr; replace hb := hb.away av_hb_d gr; replace rest := rest.away av11_rest_d gr; replace hp := blk_a hp gr d_p_d; replace hz := blk_a hz gr d_z_d; replace hr := blk_a hr gr d_r_d; replace bel := below_grown bel gr od bel.size; clear hd; have hd := hq; clear hq gr))
  with_reducible refine (rd_u16e _ _ _ _ _ _ _ hr rest).mono ?_
  rintro e w14 ⟨A13, n13, c13, x7, s7, es7, rfl, hq, sq, uq, b14⟩
  replace hb := hb.away av_hb_r b14
  replace hp := blk_a hp b14 d_p_r
  replace hz := blk_a hz b14 d_z_r
  replace hd := blk_a hd b14 (ne_symm d_r_d)
  replace bel := below_grown bel b14 or bel.size
  clear b14
  clear hr rest
  have hr := hq
  have rest := sq
  clear hq sq
  have av13_rest_p := av11_rest_p.sub uq
  have av13_rest_z := av11_rest_z.sub uq
  have av13_rest_r := av11_rest_r.sub uq
  have av13_rest_d := av11_rest_d.sub uq
  clear uq
  go_wp2_with (first | ((with_reducible show wpList _ _ _ (⟨none, Op.store _ (.tmp 37) _, _, _, _, _⟩ :: _) _ _); refine wpList_store_part rfl 3 (.tmp 37) (.tmp 36) rfl g5 5 rfl [.int .i64 (x7 : Int)] rfl [.int .i64 (x1 : Int), .int .i64 (x2 : Int), .int .u32 (x3 : Int), .int .u32 (x4 : Int), .int .i64 y6, .int .i64 0, .int .i64 0, .slice none 0 0, .slice none 0 0] 34 hd (by simp) [.int .i64 (x1 : Int), .int .i64 (x2 : Int), .int .u32 (x3 : Int), .int .u32 (x4 : Int), .int .i64 y6, .int .i64 (x7 : Int), .int .i64 0, .slice none 0 0, .slice none 0 0] rfl (by kernel_rfl) (by rfl) ?_; intro w15 hq gr; replace hb := hb.away av_hb_d gr; replace rest := rest.away av13_rest_d gr; replace hp := blk_a hp gr d_p_d; replace hz := blk_a hz gr d_z_d; replace hr := blk_a hr gr d_r_d; replace bel := below_grown bel gr od bel.size; clear hd; have hd := hq; clear hq gr))
  with_reducible refine (rd_u16e _ _ _ _ _ _ _ hr rest).mono ?_
  rintro e w16 ⟨A15, n15, c15, x8, s8, es8, rfl, hq, sq, uq, b16⟩
  replace hb := hb.away av_hb_r b16
  replace hp := blk_a hp b16 d_p_r
  replace hz := blk_a hz b16 d_z_r
  replace hd := blk_a hd b16 (ne_symm d_r_d)
  replace bel := below_grown bel b16 or bel.size
  clear b16
  clear hr rest
  have hr := hq
  have rest := sq
  clear hq sq
  have av15_rest_p := av13_rest_p.sub uq
  have av15_rest_z := av13_rest_z.sub uq
  have av15_rest_r := av13_rest_r.sub uq
  have av15_rest_d := av13_rest_d.sub uq
  clear uq
  go_wp2_with fail
  with_reducible refine (rd_u16e _ _ _ _ _ _ _ hr rest).mono ?_
  rintro e w17 ⟨A16, n16, c16, x9, s9, es9, rfl, hq, sq, uq, b17⟩
  replace hb := hb.away av_hb_r b17
  replace hp := blk_a hp b17 d_p_r
  replace hz := blk_a hz b17 d_z_r
  replace hd := blk_a hd b17 (ne_symm d_r_d)
  replace bel := below_grown bel b17 or bel.size
  clear b17
  clear hr rest
  have hr := hq
  have rest := sq
  clear hq sq
  have av16_rest_p := av15_rest_p.sub uq
  have av16_rest_z := av15_rest_z.sub uq
  have av16_rest_r := av15_rest_r.sub uq
  have av16_rest_d := av15_rest_d.sub uq
  clear uq
  go_wp2_with (first | ((with_reducible show wpList _ _ _ (⟨none, Op.store _ (.tmp 42) _, _, _, _, _⟩ :: _) _ _); refine wpList_store_part rfl 3 (.tmp 42) (.tmp 41) rfl g5 6 rfl [.int .i64 (x9 : Int)] rfl [.int .i64 (x1 : Int), .int .i64 (x2 : Int), .int .u32 (x3 : Int), .int .u32 (x4 : Int), .int .i64 y6, .int .i64 (x7 : Int), .int .i64 0, .slice none 0 0, .slice none 0 0] 34 hd (by simp) [.int .i64 (x1 : Int), .int .i64 (x2 : Int), .int .u32 (x3 : Int), .int .u32 (x4 : Int), .int .i64 y6, .int .i64 (x7 : Int), .int .i64 (x9 : Int), .slice none 0 0, .slice none 0 0] rfl (by kernel_rfl) (by rfl) ?_; intro w18 hq gr; replace hb := hb.away av_hb_d gr; replace rest := rest.away av16_rest_d gr; replace hp := blk_a hp gr d_p_d; replace hz := blk_a hz gr d_z_d; replace hr := blk_a hr gr d_r_d; replace bel := below_grown bel gr od bel.size; clear hd; have hd := hq; clear hq gr))
  with_reducible refine (rd_short _ _ _ _ _ _ _ hr rest).mono ?_
  rintro e _ ⟨rfl, rfl⟩
  obtain rfl : s9 = true := by rw [es9.out, decide_eq_true (by have := HL.out; have := HN.out; simp only [List.length_drop]; omega), Bool.or_true]
  go_wp2_with (first | ((with_reducible show wpList _ _ _ (⟨none, Op.store _ (.tmp 2) _, _, _, _, _⟩ :: _) _ _); refine wpList_store_blk rfl 34 (.tmp 2) (.tmp 45) rfl g2 rfl _ rfl _ 34 hz (by rfl) (by kernel_rfl) (by kernel_rfl) ?_; intro w19 hq gr; replace hb := hb.away av_hb_z gr; replace rest := rest.away av16_rest_z gr; replace hp := blk_a hp gr d_p_z; replace hr := blk_a hr gr (ne_symm d_z_r); replace hd := blk_a hd gr (ne_symm d_z_d); replace bel := below_grown bel gr oz bel.size; clear hz; have hz := hq; clear hq gr))
  exact bodyPost_ret (results_cell_tmp_row rfl _ _ _ _ _ _ _ rfl hz Try.underlying34 rfl (by kernel_rfl) (.int .i64 3) rfl) rfl (SgPost.none HP.out.symm bel)
set_option linter.unusedVariables false in
set_option maxRecDepth 100000 in
set_option maxHeartbeats 16000000 in
theorem tcget_4 (tos id fl pt ttl : Int) (a0 a1 a2 a3 a4 a5 a6 a7 : UInt8) (So Sb : Option Addr) (no co nb cb : Nat) (h0 h1 h2 h3 h4 h5 h6 h7 h8 h9 h10 h11 h12 h13 h14 h15 h16 h17 h18 h19 : UInt8) (r : List UInt8) (v hd : Nat) (fg : Int) (w : World) (hb : Sl w Sb nb cb (h0 :: h1 :: h2 :: h3 :: h4 :: h5 :: h6 :: h7 :: h8 :: h9 :: h10 :: h11 :: h12 :: h13 :: h14 :: h15 :: h16 :: h17 :: h18 :: h19 :: r)) (hm : nb ≤ 100000) (hvv : h12.toNat = v) (hhd : h12.toNat / 16 * 4 = hd) (hfg : bits .and .i64 (h13.toNat : Int) 63 = fg) (hfg2 : ((h13.toNat % 64 : Nat) : Int) = fg) (hw : (decide (pt = 0) && decide (fl % 2 = 0)) = true) (hx : hd < 20) : Calls Try.prog 10 #[.agg #[.int .i64 tos, .int .i64 id, .int .i64 fl, .int .i64 pt, .int .i64 ttl, .int .i64 6, .int .u8 (a0.toNat : Int), .int .u8 (a1.toNat : Int), .int .u8 (a2.toNat : Int), .int .u8 (a3.toNat : Int), .int .u8 (a4.toNat : Int), .int .u8 (a5.toNat : Int), .int .u8 (a6.toNat : Int), .int .u8 (a7.toNat : Int), .slice So no co, .slice Sb nb cb]] w (SgPost (tcGet fl pt 6 a0 a1 a2 a3 a4 a5 a6 a7 (h0 :: h1 :: h2 :: h3 :: h4 :: h5 :: h6 :: h7 :: h8 :: h9 :: h10 :: h11 :: h12 :: h13 :: h14 :: h15 :: h16 :: h17 :: h18 :: h19 :: r)) w) := by
  have HP : Hid (tcGet fl pt 6 a0 a1 a2 a3 a4 a5 a6 a7 (h0 :: h1 :: h2 :: h3 :: h4 :: h5 :: h6 :: h7 :: h8 :: h9 :: h10 :: h11 :: h12 :: h13 :: h14 :: h15 :: h16 :: h17 :: h18 :: h19 :: r) = sgNone 4) := Lib.hid (tc_err (by rw [tc_at hhd hw, hb.1, if_pos hx]) (by decide))
  have HV := Lib.hid hvv
  have HM := Lib.hid hm
  have HW := Lib.hid hw
  have HL := Lib.hid hb.1
  have v0 : (0 : Int) ≤ v := by omega
  have v1 : (v : Int) < 256 := by have := h12.toNat_lt; omega
  have ehd : (v : Int) / 16 * 4 = (hd : Int) := by omega
  have ehw : IntKind.i64.wrap (hd : Int) = (hd : Int) := IntWalk.i64_in _ (by omega)
  have t1 : (hd : Int) < 20 := by omega
  clear hx
  clear hvv hhd hfg2 hm hw
  have bel := Below.refl w.heap.size w
  go_enter Try.func10, Try.ntmps10
  go_wp2_with (first | ((with_reducible show wpList _ _ _ (⟨some 1, _, _, _, _, _⟩ :: _) _ _); refine wpList_box_n rfl 27 (.tmp 0) rfl #[.int .i64 tos, .int .i64 id, .int .i64 fl, .int .i64 pt, .int .i64 ttl, .int .i64 6, .int .u8 (a0.toNat : Int), .int .u8 (a1.toNat : Int), .int .u8 (a2.toNat : Int), .int .u8 (a3.toNat : Int), .int .u8 (a4.toNat : Int), .int .u8 (a5.toNat : Int), .int .u8 (a6.toNat : Int), .int .u8 (a7.toNat : Int), .slice So no co, .slice Sb nb cb] rfl ?_; intro g1 w1 ge lt hh bb; have av_hb_p := hb.av_new ge; have op := Nat.le_trans bel.size ge; replace hb := hb.below bb; replace bel := bel.trans (bb.mono bel.size); have hp := hh; clear hh lt ge bb) | ((with_reducible show wpList _ _ _ (⟨some 2, _, _, _, _, _⟩ :: _) _ _); refine wpList_new_a rfl 34 rfl #[.int .i64 0, .int .i64 0, .int .u32 0, .int .u32 0, .int .i64 0, .int .i64 0, .int .i64 0, .slice none 0 0, .slice none 0 0] (by kernel_rfl) ?_; intro g2 w2 ge hh bb; have d_p_z := ne_new (hlt hp) ge; have av_hb_z := hb.av_new ge; have oz := Nat.le_trans bel.size ge; replace hp := blk_u hp bb; replace hb := hb.below bb; replace bel := bel.trans (bb.mono bel.size); have hz := hh; clear hh ge bb; have R8 := cell_lit hp 5 _ rfl; have R11 := Lib.hid (range_lit hp 0 16 [.int .i64 tos, .int .i64 id, .int .i64 fl, .int .i64 pt, .int .i64 ttl, .int .i64 6, .int .u8 (a0.toNat : Int), .int .u8 (a1.toNat : Int), .int .u8 (a2.toNat : Int), .int .u8 (a3.toNat : Int), .int .u8 (a4.toNat : Int), .int .u8 (a5.toNat : Int), .int .u8 (a6.toNat : Int), .int .u8 (a7.toNat : Int), .slice So no co, .slice Sb nb cb] rfl)) | ((with_reducible show wpList _ _ _ (⟨some 11, _, _, _, _, _⟩ :: _) _ _); refine wpList_load_rng 27 (.tmp 1) rfl (by kernel_rfl) _ _ rfl _ R11.out _ Try.underlying27 rfl (by kernel_rfl) ?_))
  try clear R8
  try clear R11
  with_reducible refine (ipwhole_any _ _ _ _ _ _ _ _ _ _ _ _ _ _ _ _ _ _ _ _ _).mono ?_
  rintro e w3 ⟨rfl, b3⟩
  replace hp := blk_u hp b3
  replace hz := blk_u hz b3
  replace hb := hb.below b3
  replace bel := bel.trans (b3.mono bel.size)
  clear b3
  rw [HW.out]
  have R16 := cell_lit hp 15 _ rfl
  go_wp2_with fail
  clear R16
  with_reducible refine (rd_read _ _ _ _ _ hb (by have := HM.out; omega)).mono ?_
  rintro e w4 ⟨gr, Ar3, cr3, rfl, ge, hh, rest, frr, avr, b4⟩
  have av_rest_p := frr.av (hlt hp)
  have av_rest_z := frr.av (hlt hz)
  have d_p_r := ne_new (hlt hp) ge
  have d_z_r := ne_new (hlt hz) ge
  have av_hb_r := hb.av_new ge
  have or := Nat.le_trans bel.size ge
  replace hp := blk_u hp b4
  replace hz := blk_u hz b4
  replace hb := hb.below b4
  replace bel := bel.trans (b4.mono bel.size)
  have hr := hh
  clear hh ge b4
  replace rest : Sl w4 (Ar3) (nb) (cr3) (h0 :: h1 :: h2 :: h3 :: h4 :: h5 :: h6 :: h7 :: h8 :: h9 :: h10 :: h11 :: h12 :: h13 :: h14 :: h15 :: h16 :: h17 :: h18 :: h19 :: r) := rest
  go_wp2_with fail
  with_reducible refine (rd_u16c _ _ _ _ _ _ _ _ _ hr rest).mono ?_
  rintro e w5 ⟨A4, n4, c4, rfl, hq, sq, uq, b5⟩
  replace hb := hb.away av_hb_r b5
  replace hp := blk_a hp b5 d_p_r
  replace hz := blk_a hz b5 d_z_r
  replace bel := below_grown bel b5 or bel.size
  clear b5
  clear hr rest
  have hr := hq
  have rest := sq
  clear hq sq
  have av4_rest_p := av_rest_p.sub uq
  have av4_rest_z := av_rest_z.sub uq
  have av4_rest_r := avr.sub uq
  clear uq
  go_wp2_with fail
  with_reducible refine (rd_u16c _ _ _ _ _ _ _ _ _ hr rest).mono ?_
  rintro e w6 ⟨A5, n5, c5, rfl, hq, sq, uq, b6⟩
  replace hb := hb.away av_hb_r b6
  replace hp := blk_a hp b6 d_p_r
  replace hz := blk_a hz b6 d_z_r
  replace bel := below_grown bel b6 or bel.size
  clear b6
  clear hr rest
  have hr := hq
  have rest := sq
  clear hq sq
  have av5_rest_p := av4_rest_p.sub uq
  have av5_rest_z := av4_rest_z.sub uq
  have av5_rest_r := av4_rest_r.sub uq
  clear uq
  go_wp2_with fail
  with_reducible refine (rd_u32c _ _ _ _ _ _ _ _ _ _ _ hr rest).mono ?_
  rintro e w7 ⟨A6, n6, c6, rfl, hq, sq, uq, b7⟩
  replace hb := hb.away av_hb_r b7
  replace hp := blk_a hp b7 d_p_r
  replace hz := blk_a hz b7 d_z_r
  replace bel := below_grown bel b7 or bel.size
  clear b7
  clear hr rest
  have hr := hq
  have rest := sq
  clear hq sq
  have av6_rest_p := av5_rest_p.sub uq
  have av6_rest_z := av5_rest_z.sub uq
  have av6_rest_r := av5_rest_r.sub uq
  clear uq
  go_wp2_with fail
  with_reducible refine (rd_u32c _ _ _ _ _ _ _ _ _ _ _ hr rest).mono ?_
  rintro e w8 ⟨A7, n7, c7, rfl, hq, sq, uq, b8⟩
  replace hb := hb.away av_hb_r b8
  replace hp := blk_a hp b8 d_p_r
  replace hz := blk_a hz b8 d_z_r
  replace bel := below_grown bel b8 or bel.size
  clear b8
  clear hr rest
  have hr := hq
  have rest := sq
  clear hq sq
  have av7_rest_p := av6_rest_p.sub uq
  have av7_rest_z := av6_rest_z.sub uq
  have av7_rest_r := av6_rest_r.sub uq
  clear uq
  go_wp2_with (first | ((with_reducible show wpList _ _ _ (⟨some 5, _, _, _, _, _⟩ :: _) _ _); refine wpList_new_a rfl 34 rfl #[.int .i64 0, .int .i64 0, .int .u32 0, .int .u32 0, .int .i64 0, .int .i64 0, .int .i64 0, .slice none 0 0, .slice none 0 0] (by kernel_rfl) ?_; intro g5 w9 ge hh bb; have d_p_d := ne_new (hlt hp) ge; have d_z_d := ne_new (hlt hz) ge; have d_r_d := ne_new (hlt hr) ge; have av_hb_d := hb.av_new ge; have av_rest_d := rest.av_new ge; have od := Nat.le_trans bel.size ge; replace hp := blk_u hp bb; replace hz := blk_u hz bb; replace hr := blk_u hr bb; replace hb := hb.below bb; replace rest := rest.below bb; replace bel := bel.trans (bb.mono bel.size); have hd := hh; clear hh ge bb) | ((with_reducible show wpList _ _ _ (⟨none, Op.store _ (.tmp 5) _, _, _, _, _⟩ :: _) _ _); refine wpList_store_blk rfl 34 (.tmp 5) (.tmp 26) rfl g5 rfl _ rfl _ 34 hd (by rfl) (by kernel_rfl) (by kernel_rfl) ?_; intro w10 hq gr; replace hb := hb.away av_hb_d gr; replace rest := rest.away av_rest_d gr; replace hp := blk_a hp gr d_p_d; replace hz := blk_a hz gr d_z_d; replace hr := blk_a hr gr d_r_d; replace bel := below_grown bel gr od bel.size; clear hd; have hd := hq; clear hq gr))
  with_reducible refine (rd_u8c _ _ _ _ _ _ _ _ hr rest).mono ?_
  rintro e w11 ⟨A10, n10, c10, rfl, hq, sq, uq, b11⟩
  replace hb := hb.away av_hb_r b11
  replace hp := blk_a hp b11 d_p_r
  replace hz := blk_a hz b11 d_z_r
  replace hd := blk_a hd b11 (ne_symm d_r_d)
  replace bel := below_grown bel b11 or bel.size
  clear b11
  clear hr rest
  have hr := hq
  have rest := sq
  clear hq sq
  have av10_rest_p := av7_rest_p.sub uq
  have av10_rest_z := av7_rest_z.sub uq
  have av10_rest_r := av7_rest_r.sub uq
  have av10_rest_d := av_rest_d.sub uq
  clear uq
  rw [HV.out]
  go_wp2_with fail
  with_reducible refine (rd_u8c _ _ _ _ _ _ _ _ hr rest).mono ?_
  rintro e w12 ⟨A11, n11, c11, rfl, hq, sq, uq, b12⟩
  replace hb := hb.away av_hb_r b12
  replace hp := blk_a hp b12 d_p_r
  replace hz := blk_a hz b12 d_z_r
  replace hd := blk_a hd b12 (ne_symm d_r_d)
  replace bel := below_grown bel b12 or bel.size
  clear b12
  clear hr rest
  have hr := hq
  have rest := sq
  clear hq sq
  have av11_rest_p := av10_rest_p.sub uq
  have av11_rest_z := av10_rest_z.sub uq
  have av11_rest_r := av10_rest_r.sub uq
  have av11_rest_d := av10_rest_d.sub uq
  clear uq
  go_wp2_with (first | ((with_reducible show wpList _ _ _ (⟨none, Op.store _ (.tmp 34) _, _, _, _, _⟩ :: _) _ _); refine wpList_store_part rfl 3 (.tmp 34) (.tmp 33) rfl g5 4 rfl [.int .i64 fg] rfl [.int .i64 (be [h0, h1] : Nat), .int .i64 (be [h2, h3] : Nat), .int .u32 (be [h4, h5, h6, h7] : Nat), .int .u32 (be [h8, h9, h10, h11] : Nat), .int .i64 0, .int .i64 0, .int .i64 0, .slice none 0 0, .slice none 0 0] 34 hd (by simp) [.int .i64 (be [h0, h1] : Nat), .int .i64 (be [h2, h3] : Nat), .int .u32 (be [h4, h5, h6, h7] : Nat), .int .u32 (be [h8, h9, h10, h11] : Nat), .int .i64 fg, .int .i64 0, .int .i64 0, .slice none 0 0, .slice none 0 0] rfl (by kernel_rfl) (by rfl) ?_; intro w13 hq gr; replace hb := hb.away av_hb_d gr; replace rest := rest.away av11_rest_d gr; replace hp := blk_a hp gr d_p_d; replace hz := blk_a hz gr d_z_d; replace hr := blk_a hr gr d_r_d; replace bel := below_grown bel gr od bel.size; clear hd; have hd := hq; clear hq gr))
  with_reducible refine (rd_u16c _ _ _ _ _ _ _ _ _ hr rest).mono ?_
  rintro e w14 ⟨A13, n13, c13, rfl, hq, sq, uq, b14⟩
  replace hb := hb.away av_hb_r b14
  replace hp := blk_a hp b14 d_p_r
  replace hz := blk_a hz b14 d_z_r
  replace hd := blk_a hd b14 (ne_symm d_r_d)
  replace bel := below_grown bel b14 or bel.size
  clear b14
  clear hr rest
  have hr := hq
  have rest := sq
  clear hq sq
  have av13_rest_p := av11_rest_p.sub uq
  have av13_rest_z := av11_rest_z.sub uq
  have av13_rest_r := av11_rest_r.sub uq
  have av13_rest_d := av11_rest_d.sub uq
  clear uq
  go_wp2_with (first | ((with_reducible show wpList _ _ _ (⟨none, Op.store _ (.tmp 37) _, _, _, _, _⟩ :: _) _ _); refine wpList_store_part rfl 3 (.tmp 37) (.tmp 36) rfl g5 5 rfl [.int .i64 (be [h14, h15] : Nat)] rfl [.int .i64 (be [h0, h1] : Nat), .int .i64 (be [h2, h3] : Nat), .int .u32 (be [h4, h5, h6, h7] : Nat), .int .u32 (be [h8, h9, h10, h11] : Nat), .int .i64 fg, .int .i64 0, .int .i64 0, .slice none 0 0, .slice none 0 0] 34 hd (by simp) [.int .i64 (be [h0, h1] : Nat), .int .i64 (be [h2, h3] : Nat), .int .u32 (be [h4, h5, h6, h7] : Nat), .int .u32 (be [h8, h9, h10, h11] : Nat), .int .i64 fg, .int .i64 (be [h14, h15] : Nat), .int .i64 0, .slice none 0 0, .slice none 0 0] rfl (by kernel_rfl) (by rfl) ?_; intro w15 hq gr; replace hb := hb.away av_hb_d gr; replace rest := rest.away av13_rest_d gr; replace hp := blk_a hp gr d_p_d; replace hz := blk_a hz gr d_z_d; replace hr := blk_a hr gr d_r_d; replace bel := below_grown bel gr od bel.size; clear hd; have hd := hq; clear hq gr))
  with_reducible refine (rd_u16c _ _ _ _ _ _ _ _ _ hr rest).mono ?_
  rintro e w16 ⟨A15, n15, c15, rfl, hq, sq, uq, b16⟩
  replace hb := hb.away av_hb_r b16
  replace hp := blk_a hp b16 d_p_r
  replace hz := blk_a hz b16 d_z_r
  replace hd := blk_a hd b16 (ne_symm d_r_d)
  replace bel := below_grown bel b16 or bel.size
  clear b16
  clear hr rest
  have hr := hq
  have rest := sq
  clear hq sq
  have av15_rest_p := av13_rest_p.sub uq
  have av15_rest_z := av13_rest_z.sub uq
  have av15_rest_r := av13_rest_r.sub uq
  have av15_rest_d := av13_rest_d.sub uq
  clear uq
  go_wp2_with fail
  with_reducible refine (rd_u16c _ _ _ _ _ _ _ _ _ hr rest).mono ?_
  rintro e w17 ⟨A16, n16, c16, rfl, hq, sq, uq, b17⟩
  replace hb := hb.away av_hb_r b17
  replace hp := blk_a hp b17 d_p_r
  replace hz := blk_a hz b17 d_z_r
  replace hd := blk_a hd b17 (ne_symm d_r_d)
  replace bel := below_grown bel b17 or bel.size
  clear b17
  clear hr rest
  have hr := hq
  have rest := sq
  clear hq sq
  have av16_rest_p := av15_rest_p.sub uq
  have av16_rest_z := av15_rest_z.sub uq
  have av16_rest_r := av15_rest_r.sub uq
  have av16_rest_d := av15_rest_d.sub uq
  clear uq
  go_wp2_with (first | ((with_reducible show wpList _ _ _ (⟨none, Op.store _ (.tmp 42) _, _, _, _, _⟩ :: _) _ _); refine wpList_store_part rfl 3 (.tmp 42) (.tmp 41) rfl g5 6 rfl [.int .i64 (be [h18, h19] : Nat)] rfl [.int .i64 (be [h0, h1] : Nat), .int .i64 (be [h2, h3] : Nat), .int .u32 (be [h4, h5, h6, h7] : Nat), .int .u32 (be [h8, h9, h10, h11] : Nat), .int .i64 fg, .int .i64 (be [h14, h15] : Nat), .int .i64 0, .slice none 0 0, .slice none 0 0] 34 hd (by simp) [.int .i64 (be [h0, h1] : Nat), .int .i64 (be [h2, h3] : Nat), .int .u32 (be [h4, h5, h6, h7] : Nat), .int .u32 (be [h8, h9, h10, h11] : Nat), .int .i64 fg, .int .i64 (be [h14, h15] : Nat), .int .i64 (be [h18, h19] : Nat), .slice none 0 0, .slice none 0 0] rfl (by kernel_rfl) (by rfl) ?_; intro w18 hq gr; replace hb := hb.away av_hb_d gr; replace rest := rest.away av16_rest_d gr; replace hp := blk_a hp gr d_p_d; replace hz := blk_a hz gr d_z_d; replace hr := blk_a hr gr d_r_d; replace bel := below_grown bel gr od bel.size; clear hd; have hd := hq; clear hq gr))
  with_reducible refine (rd_short _ _ _ _ _ _ _ hr rest).mono ?_
  rintro e _ ⟨rfl, rfl⟩
  go_wp2_with (first | ((with_reducible show wpList _ _ _ (⟨none, Op.store _ (.tmp 2) _, _, _, _, _⟩ :: _) _ _); refine wpList_store_blk rfl 34 (.tmp 2) (.tmp 48) rfl g2 rfl _ rfl _ 34 hz (by rfl) (by kernel_rfl) (by kernel_rfl) ?_; intro w19 hq gr; replace hb := hb.away av_hb_z gr; replace rest := rest.away av16_rest_z gr; replace hp := blk_a hp gr d_p_z; replace hr := blk_a hr gr (ne_symm d_z_r); replace hd := blk_a hd gr (ne_symm d_z_d); replace bel := below_grown bel gr oz bel.size; clear hz; have hz := hq; clear hq gr))
  exact bodyPost_ret (results_cell_tmp_row rfl _ _ _ _ _ _ _ rfl hz Try.underlying34 rfl (by kernel_rfl) (.int .i64 4) rfl) rfl (SgPost.none HP.out.symm bel)
set_option linter.unusedVariables false in
set_option maxRecDepth 100000 in
set_option maxHeartbeats 16000000 in
theorem tcget_5 (tos id fl pt ttl : Int) (a0 a1 a2 a3 a4 a5 a6 a7 : UInt8) (So Sb : Option Addr) (no co nb cb : Nat) (h0 h1 h2 h3 h4 h5 h6 h7 h8 h9 h10 h11 h12 h13 h14 h15 h16 h17 h18 h19 : UInt8) (r : List UInt8) (v hd : Nat) (fg : Int) (w : World) (hb : Sl w Sb nb cb (h0 :: h1 :: h2 :: h3 :: h4 :: h5 :: h6 :: h7 :: h8 :: h9 :: h10 :: h11 :: h12 :: h13 :: h14 :: h15 :: h16 :: h17 :: h18 :: h19 :: r)) (hm : nb ≤ 100000) (hvv : h12.toNat = v) (hhd : h12.toNat / 16 * 4 = hd) (hfg : bits .and .i64 (h13.toNat : Int) 63 = fg) (hfg2 : ((h13.toNat % 64 : Nat) : Int) = fg) (hw : (decide (pt = 0) && decide (fl % 2 = 0)) = true) (hx : nb < hd) (hy : 20 ≤ hd) : Calls Try.prog 10 #[.agg #[.int .i64 tos, .int .i64 id, .int .i64 fl, .int .i64 pt, .int .i64 ttl, .int .i64 6, .int .u8 (a0.toNat : Int), .int .u8 (a1.toNat : Int), .int .u8 (a2.toNat : Int), .int .u8 (a3.toNat : Int), .int .u8 (a4.toNat : Int), .int .u8 (a5.toNat : Int), .int .u8 (a6.toNat : Int), .int .u8 (a7.toNat : Int), .slice So no co, .slice Sb nb cb]] w (SgPost (tcGet fl pt 6 a0 a1 a2 a3 a4 a5 a6 a7 (h0 :: h1 :: h2 :: h3 :: h4 :: h5 :: h6 :: h7 :: h8 :: h9 :: h10 :: h11 :: h12 :: h13 :: h14 :: h15 :: h16 :: h17 :: h18 :: h19 :: r)) w) := by
  have HP : Hid (tcGet fl pt 6 a0 a1 a2 a3 a4 a5 a6 a7 (h0 :: h1 :: h2 :: h3 :: h4 :: h5 :: h6 :: h7 :: h8 :: h9 :: h10 :: h11 :: h12 :: h13 :: h14 :: h15 :: h16 :: h17 :: h18 :: h19 :: r) = sgNone 3) := Lib.hid (tc_err (by rw [tc_at hhd hw, hb.1, if_neg (by omega), if_pos hx]) (by decide))
  have HV := Lib.hid hvv
  have HM := Lib.hid hm
  have HW := Lib.hid hw
  have HL := Lib.hid hb.1
  have v0 : (0 : Int) ≤ v := by omega
  have v1 : (v : Int) < 256 := by have := h12.toNat_lt; omega
  have ehd : (v : Int) / 16 * 4 = (hd : Int) := by omega
  have ehw : IntKind.i64.wrap (hd : Int) = (hd : Int) := IntWalk.i64_in _ (by omega)
  obtain ⟨k, hk⟩ : ∃ k, hd = k + 20 := ⟨hd - 20, by omega⟩
  have hk20 : IntKind.i64.wrap ((hd : Int) - 20) = (k : Int) := by rw [show (hd : Int) - 20 = (k : Int) by omega]; exact IntWalk.i64_in _ (by have := h12.toNat_lt; omega)
  have t1 : decide ((hd : Int) < 20) = false := decide_eq_false (by omega)
  have HX : Hid (r.length < k) := Lib.hid (by have := hb.1; simp only [List.length_cons] at this; omega)
  clear hx hy hk
  clear hvv hhd hfg2 hm hw
  have bel := Below.refl w.heap.size w
  go_enter Try.func10, Try.ntmps10
  go_wp2_with (first | ((with_reducible show wpList _ _ _ (⟨some 1, _, _, _, _, _⟩ :: _) _ _); refine wpList_box_n rfl 27 (.tmp 0) rfl #[.int .i64 tos, .int .i64 id, .int .i64 fl, .int .i64 pt, .int .i64 ttl, .int .i64 6, .int .u8 (a0.toNat : Int), .int .u8 (a1.toNat : Int), .int .u8 (a2.toNat : Int), .int .u8 (a3.toNat : Int), .int .u8 (a4.toNat : Int), .int .u8 (a5.toNat : Int), .int .u8 (a6.toNat : Int), .int .u8 (a7.toNat : Int), .slice So no co, .slice Sb nb cb] rfl ?_; intro g1 w1 ge lt hh bb; have av_hb_p := hb.av_new ge; have op := Nat.le_trans bel.size ge; replace hb := hb.below bb; replace bel := bel.trans (bb.mono bel.size); have hp := hh; clear hh lt ge bb) | ((with_reducible show wpList _ _ _ (⟨some 2, _, _, _, _, _⟩ :: _) _ _); refine wpList_new_a rfl 34 rfl #[.int .i64 0, .int .i64 0, .int .u32 0, .int .u32 0, .int .i64 0, .int .i64 0, .int .i64 0, .slice none 0 0, .slice none 0 0] (by kernel_rfl) ?_; intro g2 w2 ge hh bb; have d_p_z := ne_new (hlt hp) ge; have av_hb_z := hb.av_new ge; have oz := Nat.le_trans bel.size ge; replace hp := blk_u hp bb; replace hb := hb.below bb; replace bel := bel.trans (bb.mono bel.size); have hz := hh; clear hh ge bb; have R8 := cell_lit hp 5 _ rfl; have R11 := Lib.hid (range_lit hp 0 16 [.int .i64 tos, .int .i64 id, .int .i64 fl, .int .i64 pt, .int .i64 ttl, .int .i64 6, .int .u8 (a0.toNat : Int), .int .u8 (a1.toNat : Int), .int .u8 (a2.toNat : Int), .int .u8 (a3.toNat : Int), .int .u8 (a4.toNat : Int), .int .u8 (a5.toNat : Int), .int .u8 (a6.toNat : Int), .int .u8 (a7.toNat : Int), .slice So no co, .slice Sb nb cb] rfl)) | ((with_reducible show wpList _ _ _ (⟨some 11, _, _, _, _, _⟩ :: _) _ _); refine wpList_load_rng 27 (.tmp 1) rfl (by kernel_rfl) _ _ rfl _ R11.out _ Try.underlying27 rfl (by kernel_rfl) ?_))
  try clear R8
  try clear R11
  with_reducible refine (ipwhole_any _ _ _ _ _ _ _ _ _ _ _ _ _ _ _ _ _ _ _ _ _).mono ?_
  rintro e w3 ⟨rfl, b3⟩
  replace hp := blk_u hp b3
  replace hz := blk_u hz b3
  replace hb := hb.below b3
  replace bel := bel.trans (b3.mono bel.size)
  clear b3
  rw [HW.out]
  have R16 := cell_lit hp 15 _ rfl
  go_wp2_with fail
  clear R16
  with_reducible refine (rd_read _ _ _ _ _ hb (by have := HM.out; omega)).mono ?_
  rintro e w4 ⟨gr, Ar3, cr3, rfl, ge, hh, rest, frr, avr, b4⟩
  have av_rest_p := frr.av (hlt hp)
  have av_rest_z := frr.av (hlt hz)
  have d_p_r := ne_new (hlt hp) ge
  have d_z_r := ne_new (hlt hz) ge
  have av_hb_r := hb.av_new ge
  have or := Nat.le_trans bel.size ge
  replace hp := blk_u hp b4
  replace hz := blk_u hz b4
  replace hb := hb.below b4
  replace bel := bel.trans (b4.mono bel.size)
  have hr := hh
  clear hh ge b4
  replace rest : Sl w4 (Ar3) (nb) (cr3) (h0 :: h1 :: h2 :: h3 :: h4 :: h5 :: h6 :: h7 :: h8 :: h9 :: h10 :: h11 :: h12 :: h13 :: h14 :: h15 :: h16 :: h17 :: h18 :: h19 :: r) := rest
  go_wp2_with fail
  with_reducible refine (rd_u16c _ _ _ _ _ _ _ _ _ hr rest).mono ?_
  rintro e w5 ⟨A4, n4, c4, rfl, hq, sq, uq, b5⟩
  replace hb := hb.away av_hb_r b5
  replace hp := blk_a hp b5 d_p_r
  replace hz := blk_a hz b5 d_z_r
  replace bel := below_grown bel b5 or bel.size
  clear b5
  clear hr rest
  have hr := hq
  have rest := sq
  clear hq sq
  have av4_rest_p := av_rest_p.sub uq
  have av4_rest_z := av_rest_z.sub uq
  have av4_rest_r := avr.sub uq
  clear uq
  go_wp2_with fail
  with_reducible refine (rd_u16c _ _ _ _ _ _ _ _ _ hr rest).mono ?_
  rintro e w6 ⟨A5, n5, c5, rfl, hq, sq, uq, b6⟩
  replace hb := hb.away av_hb_r b6
  replace hp := blk_a hp b6 d_p_r
  replace hz := blk_a hz b6 d_z_r
  replace bel := below_grown bel b6 or bel.size
  clear b6
  clear hr rest
  have hr := hq
  have rest := sq
  clear hq sq
  have av5_rest_p := av4_rest_p.sub uq
  have av5_rest_z := av4_rest_z.sub uq
  have av5_rest_r := av4_rest_r.sub uq
  clear uq
  go_wp2_with fail
  with_reducible refine (rd_u32c _ _ _ _ _ _ _ _ _ _ _ hr rest).mono ?_
  rintro e w7 ⟨A6, n6, c6, rfl, hq, sq, uq, b7⟩
  replace hb := hb.away av_hb_r b7
  replace hp := blk_a hp b7 d_p_r
  replace hz := blk_a hz b7 d_z_r
  replace bel := below_grown bel b7 or bel.size
  clear b7
  clear hr rest
  have hr := hq
  have rest := sq
  clear hq sq
  have av6_rest_p := av5_rest_p.sub uq
  have av6_rest_z := av5_rest_z.sub uq
  have av6_rest_r := av5_rest_r.sub uq
  clear uq
  go_wp2_with fail
  with_reducible refine (rd_u32c _ _ _ _ _ _ _ _ _ _ _ hr rest).mono ?_
  rintro e w8 ⟨A7, n7, c7, rfl, hq, sq, uq, b8⟩
  replace hb := hb.away av_hb_r b8
  replace hp := blk_a hp b8 d_p_r
  replace hz := blk_a hz b8 d_z_r
  replace bel := below_grown bel b8 or bel.size
  clear b8
  clear hr rest
  have hr := hq
  have rest := sq
  clear hq sq
  have av7_rest_p := av6_rest_p.sub uq
  have av7_rest_z := av6_rest_z.sub uq
  have av7_rest_r := av6_rest_r.sub uq
  clear uq
  go_wp2_with (first | ((with_reducible show wpList _ _ _ (⟨some 5, _, _, _, _, _⟩ :: _) _ _); refine wpList_new_a rfl 34 rfl #[.int .i64 0, .int .i64 0, .int .u32 0, .int .u32 0, .int .i64 0, .int .i64 0, .int .i64 0, .slice none 0 0, .slice none 0 0] (by kernel_rfl) ?_; intro g5 w9 ge hh bb; have d_p_d := ne_new (hlt hp) ge; have d_z_d := ne_new (hlt hz) ge; have d_r_d := ne_new (hlt hr) ge; have av_hb_d := hb.av_new ge; have av_rest_d := rest.av_new ge; have od := Nat.le_trans bel.size ge; replace hp := blk_u hp bb; replace hz := blk_u hz bb; replace hr := blk_u hr bb; replace hb := hb.below bb; replace rest := rest.below bb; replace bel := bel.trans (bb.mono bel.size); have hd := hh; clear hh ge bb) | ((with_reducible show wpList _ _ _ (⟨none, Op.store _ (.tmp 5) _, _, _, _, _⟩ :: _) _ _); refine wpList_store_blk rfl 34 (.tmp 5) (.tmp 26) rfl g5 rfl _ rfl _ 34 hd (by rfl) (by kernel_rfl) (by kernel_rfl) ?_; intro w10 hq gr; replace hb := hb.away av_hb_d gr; replace rest := rest.away av_rest_d gr; replace hp := blk_a hp gr d_p_d; replace hz := blk_a hz gr d_z_d; replace hr := blk_a hr gr d_r_d; replace bel := below_grown bel gr od bel.size; clear hd; have hd := hq; clear hq gr))
  with_reducible refine (rd_u8c _ _ _ _ _ _ _ _ hr rest).mono ?_
  rintro e w11 ⟨A10, n10, c10, rfl, hq, sq, uq, b11⟩
  replace hb := hb.away av_hb_r b11
  replace hp := blk_a hp b11 d_p_r
  replace hz := blk_a hz b11 d_z_r
  replace hd := blk_a hd b11 (ne_symm d_r_d)
  replace bel := below_grown bel b11 or bel.size
  clear b11
  clear hr rest
  have hr := hq
  have rest := sq
  clear hq sq
  have av10_rest_p := av7_rest_p.sub uq
  have av10_rest_z := av7_rest_z.sub uq
  have av10_rest_r := av7_rest_r.sub uq
  have av10_rest_d := av_rest_d.sub uq
  clear uq
  rw [HV.out]
  go_wp2_with fail
  with_reducible refine (rd_u8c _ _ _ _ _ _ _ _ hr rest).mono ?_
  rintro e w12 ⟨A11, n11, c11, rfl, hq, sq, uq, b12⟩
  replace hb := hb.away av_hb_r b12
  replace hp := blk_a hp b12 d_p_r
  replace hz := blk_a hz b12 d_z_r
  replace hd := blk_a hd b12 (ne_symm d_r_d)
  replace bel := below_grown bel b12 or bel.size
  clear b12
  clear hr rest
  have hr := hq
  have rest := sq
  clear hq sq
  have av11_rest_p := av10_rest_p.sub uq
  have av11_rest_z := av10_rest_z.sub uq
  have av11_rest_r := av10_rest_r.sub uq
  have av11_rest_d := av10_rest_d.sub uq
  clear uq
  go_wp2_with (first | ((with_reducible show wpList _ _ _ (⟨none, Op.store _ (.tmp 34) _, _, _, _, _⟩ :: _) _ _); refine wpList_store_part rfl 3 (.tmp 34) (.tmp 33) rfl g5 4 rfl [.int .i64 fg] rfl [.int .i64 (be [h0, h1] : Nat), .int .i64 (be [h2, h3] : Nat), .int .u32 (be [h4, h5, h6, h7] : Nat), .int .u32 (be [h8, h9, h10, h11] : Nat), .int .i64 0, .int .i64 0, .int .i64 0, .slice none 0 0, .slice none 0 0] 34 hd (by simp) [.int .i64 (be [h0, h1] : Nat), .int .i64 (be [h2, h3] : Nat), .int .u32 (be [h4, h5, h6, h7] : Nat), .int .u32 (be [h8, h9, h10, h11] : Nat), .int .i64 fg, .int .i64 0, .int .i64 0, .slice none 0 0, .slice none 0 0] rfl (by kernel_rfl) (by rfl) ?_; intro w13 hq gr; replace hb := hb.away av_hb_d gr; replace rest := rest.away av11_rest_d gr; replace hp := blk_a hp gr d_p_d; replace hz := blk_a hz gr d_z_d; replace hr := blk_a hr gr d_r_d; replace bel := below_grown bel gr od bel.size; clear hd; have hd := hq; clear hq gr))
  with_reducible refine (rd_u16c _ _ _ _ _ _ _ _ _ hr rest).mono ?_
  rintro e w14 ⟨A13, n13, c13, rfl, hq, sq, uq, b14⟩
  replace hb := hb.away av_hb_r b14
  replace hp := blk_a hp b14 d_p_r
  replace hz := blk_a hz b14 d_z_r
  replace hd := blk_a hd b14 (ne_symm d_r_d)
  replace bel := below_grown bel b14 or bel.size
  clear b14
  clear hr rest
  have hr := hq
  have rest := sq
  clear hq sq
  have av13_rest_p := av11_rest_p.sub uq
  have av13_rest_z := av11_rest_z.sub uq
  have av13_rest_r := av11_rest_r.sub uq
  have av13_rest_d := av11_rest_d.sub uq
  clear uq
  go_wp2_with (first | ((with_reducible show wpList _ _ _ (⟨none, Op.store _ (.tmp 37) _, _, _, _, _⟩ :: _) _ _); refine wpList_store_part rfl 3 (.tmp 37) (.tmp 36) rfl g5 5 rfl [.int .i64 (be [h14, h15] : Nat)] rfl [.int .i64 (be [h0, h1] : Nat), .int .i64 (be [h2, h3] : Nat), .int .u32 (be [h4, h5, h6, h7] : Nat), .int .u32 (be [h8, h9, h10, h11] : Nat), .int .i64 fg, .int .i64 0, .int .i64 0, .slice none 0 0, .slice none 0 0] 34 hd (by simp) [.int .i64 (be [h0, h1] : Nat), .int .i64 (be [h2, h3] : Nat), .int .u32 (be [h4, h5, h6, h7] : Nat), .int .u32 (be [h8, h9, h10, h11] : Nat), .int .i64 fg, .int .i64 (be [h14, h15] : Nat), .int .i64 0, .slice none 0 0, .slice none 0 0] rfl (by kernel_rfl) (by rfl) ?_; intro w15 hq gr; replace hb := hb.away av_hb_d gr; replace rest := rest.away av13_rest_d gr; replace hp := blk_a hp gr d_p_d; replace hz := blk_a hz gr d_z_d; replace hr := blk_a hr gr d_r_d; replace bel := below_grown bel gr od bel.size; clear hd; have hd := hq; clear hq gr))
  with_reducible refine (rd_u16c _ _ _ _ _ _ _ _ _ hr rest).mono ?_
  rintro e w16 ⟨A15, n15, c15, rfl, hq, sq, uq, b16⟩
  replace hb := hb.away av_hb_r b16
  replace hp := blk_a hp b16 d_p_r
  replace hz := blk_a hz b16 d_z_r
  replace hd := blk_a hd b16 (ne_symm d_r_d)
  replace bel := below_grown bel b16 or bel.size
  clear b16
  clear hr rest
  have hr := hq
  have rest := sq
  clear hq sq
  have av15_rest_p := av13_rest_p.sub uq
  have av15_rest_z := av13_rest_z.sub uq
  have av15_rest_r := av13_rest_r.sub uq
  have av15_rest_d := av13_rest_d.sub uq
  clear uq
  go_wp2_with fail
  with_reducible refine (rd_u16c _ _ _ _ _ _ _ _ _ hr rest).mono ?_
  rintro e w17 ⟨A16, n16, c16, rfl, hq, sq, uq, b17⟩
  replace hb := hb.away av_hb_r b17
  replace hp := blk_a hp b17 d_p_r
  replace hz := blk_a hz b17 d_z_r
  replace hd := blk_a hd b17 (ne_symm d_r_d)
  replace bel := below_grown bel b17 or bel.size
  clear b17
  clear hr rest
  have hr := hq
  have rest := sq
  clear hq sq
  have av16_rest_p := av15_rest_p.sub uq
  have av16_rest_z := av15_rest_z.sub uq
  have av16_rest_r := av15_rest_r.sub uq
  have av16_rest_d := av15_rest_d.sub uq
  clear uq
  go_wp2_with (first | ((with_reducible show wpList _ _ _ (⟨none, Op.store _ (.tmp 42) _, _, _, _, _⟩ :: _) _ _); refine wpList_store_part rfl 3 (.tmp 42) (.tmp 41) rfl g5 6 rfl [.int .i64 (be [h18, h19] : Nat)] rfl [.int .i64 (be [h0, h1] : Nat), .int .i64 (be [h2, h3] : Nat), .int .u32 (be [h4, h5, h6, h7] : Nat), .int .u32 (be [h8, h9, h10, h11] : Nat), .int .i64 fg, .int .i64 (be [h14, h15] : Nat), .int .i64 0, .slice none 0 0, .slice none 0 0] 34 hd (by simp) [.int .i64 (be [h0, h1] : Nat), .int .i64 (be [h2, h3] : Nat), .int .u32 (be [h4, h5, h6, h7] : Nat), .int .u32 (be [h8, h9, h10, h11] : Nat), .int .i64 fg, .int .i64 (be [h14, h15] : Nat), .int .i64 (be [h18, h19] : Nat), .slice none 0 0, .slice none 0 0] rfl (by kernel_rfl) (by rfl) ?_; intro w18 hq gr; replace hb := hb.away av_hb_d gr; replace rest := rest.away av16_rest_d gr; replace hp := blk_a hp gr d_p_d; replace hz := blk_a hz gr d_z_d; replace hr := blk_a hr gr d_r_d; replace bel := below_grown bel gr od bel.size; clear hd; have hd := hq; clear hq gr))
  with_reducible refine (rd_short _ _ _ _ _ _ _ hr rest).mono ?_
  rintro e _ ⟨rfl, rfl⟩
  go_wp2_with fail
  with_reducible refine (rd_bytes_no k _ _ _ _ _ _ _ hr rest HX.out).mono ?_
  rintro e w19 ⟨Aop, cop, A18, n18, c18, rfl, hq, sq, uq, b19⟩
  replace hb := hb.away av_hb_r b19
  replace hp := blk_a hp b19 d_p_r
  replace hz := blk_a hz b19 d_z_r
  replace hd := blk_a hd b19 (ne_symm d_r_d)
  replace bel := below_grown bel b19 or bel.size
  clear b19
  clear hr rest
  have hr := hq
  have rest := sq
  clear hq sq
  have av18_rest_p := av16_rest_p.sub uq
  have av18_rest_z := av16_rest_z.sub uq
  have av18_rest_r := av16_rest_r.sub uq
  have av18_rest_d := av16_rest_d.sub uq
  clear uq
  go_wp2_with (first | ((with_reducible show wpList _ _ _ (⟨none, Op.store _ (.tmp 53) _, _, _, _, _⟩ :: _) _ _); refine wpList_store_part rfl 25 (.tmp 53) (.tmp 52) rfl g5 7 rfl [.slice Aop 0 cop] rfl [.int .i64 (be [h0, h1] : Nat), .int .i64 (be [h2, h3] : Nat), .int .u32 (be [h4, h5, h6, h7] : Nat), .int .u32 (be [h8, h9, h10, h11] : Nat), .int .i64 fg, .int .i64 (be [h14, h15] : Nat), .int .i64 (be [h18, h19] : Nat), .slice none 0 0, .slice none 0 0] 34 hd (by simp) [.int .i64 (be [h0, h1] : Nat), .int .i64 (be [h2, h3] : Nat), .int .u32 (be [h4, h5, h6, h7] : Nat), .int .u32 (be [h8, h9, h10, h11] : Nat), .int .i64 fg, .int .i64 (be [h14, h15] : Nat), .int .i64 (be [h18, h19] : Nat), .slice Aop 0 cop, .slice none 0 0] rfl (by kernel_rfl) (by rfl) ?_; intro w20 hq gr; replace hb := hb.away av_hb_d gr; replace rest := rest.away av18_rest_d gr; replace hp := blk_a hp gr d_p_d; replace hz := blk_a hz gr d_z_d; replace hr := blk_a hr gr d_r_d; replace bel := below_grown bel gr od bel.size; clear hd; have hd := hq; clear hq gr))
  with_reducible refine (rd_short _ _ _ _ _ _ _ hr rest).mono ?_
  rintro e _ ⟨rfl, rfl⟩
  go_wp2_with (first | ((with_reducible show wpList _ _ _ (⟨none, Op.store _ (.tmp 2) _, _, _, _, _⟩ :: _) _ _); refine wpList_store_blk rfl 34 (.tmp 2) (.tmp 56) rfl g2 rfl _ rfl _ 34 hz (by rfl) (by kernel_rfl) (by kernel_rfl) ?_; intro w21 hq gr; replace hb := hb.away av_hb_z gr; replace rest := rest.away av18_rest_z gr; replace hp := blk_a hp gr d_p_z; replace hr := blk_a hr gr (ne_symm d_z_r); replace hd := blk_a hd gr (ne_symm d_z_d); replace bel := below_grown bel gr oz bel.size; clear hz; have hz := hq; clear hq gr))
  exact bodyPost_ret (results_cell_tmp_row rfl _ _ _ _ _ _ _ rfl hz Try.underlying34 rfl (by kernel_rfl) (.int .i64 3) rfl) rfl (SgPost.none HP.out.symm bel)
set_option linter.unusedVariables false in
set_option maxRecDepth 100000 in
set_option maxHeartbeats 16000000 in
theorem tcget_6 (tos id fl pt ttl : Int) (a0 a1 a2 a3 a4 a5 a6 a7 : UInt8) (So Sb : Option Addr) (no co nb cb : Nat) (h0 h1 h2 h3 h4 h5 h6 h7 h8 h9 h10 h11 h12 h13 h14 h15 h16 h17 h18 h19 : UInt8) (r : List UInt8) (v hd : Nat) (fg : Int) (w : World) (hb : Sl w Sb nb cb (h0 :: h1 :: h2 :: h3 :: h4 :: h5 :: h6 :: h7 :: h8 :: h9 :: h10 :: h11 :: h12 :: h13 :: h14 :: h15 :: h16 :: h17 :: h18 :: h19 :: r)) (hm : nb ≤ 100000) (hvv : h12.toNat = v) (hhd : h12.toNat / 16 * 4 = hd) (hfg : bits .and .i64 (h13.toNat : Int) 63 = fg) (hfg2 : ((h13.toNat % 64 : Nat) : Int) = fg) (hw : (decide (pt = 0) && decide (fl % 2 = 0)) = true) (hx : hd ≤ nb) (hy : 20 ≤ hd) (hc : ck (l4Ps a0 a1 a2 a3 a4 a5 a6 a7 6 (nb : Int) ++ (h0 :: h1 :: h2 :: h3 :: h4 :: h5 :: h6 :: h7 :: h8 :: h9 :: h10 :: h11 :: h12 :: h13 :: h14 :: h15 :: h16 :: h17 :: h18 :: h19 :: r)) ≠ 0) : Calls Try.prog 10 #[.agg #[.int .i64 tos, .int .i64 id, .int .i64 fl, .int .i64 pt, .int .i64 ttl, .int .i64 6, .int .u8 (a0.toNat : Int), .int .u8 (a1.toNat : Int), .int .u8 (a2.toNat : Int), .int .u8 (a3.toNat : Int), .int .u8 (a4.toNat : Int), .int .u8 (a5.toNat : Int), .int .u8 (a6.toNat : Int), .int .u8 (a7.toNat : Int), .slice So no co, .slice Sb nb cb]] w (SgPost (tcGet fl pt 6 a0 a1 a2 a3 a4 a5 a6 a7 (h0 :: h1 :: h2 :: h3 :: h4 :: h5 :: h6 :: h7 :: h8 :: h9 :: h10 :: h11 :: h12 :: h13 :: h14 :: h15 :: h16 :: h17 :: h18 :: h19 :: r)) w) := by
  have HP : Hid (tcGet fl pt 6 a0 a1 a2 a3 a4 a5 a6 a7 (h0 :: h1 :: h2 :: h3 :: h4 :: h5 :: h6 :: h7 :: h8 :: h9 :: h10 :: h11 :: h12 :: h13 :: h14 :: h15 :: h16 :: h17 :: h18 :: h19 :: r) = sgNone 5) := Lib.hid (tc_err (by rw [tc_at hhd hw, hb.1, if_neg (by omega), if_neg (by omega), if_pos hc]) (by decide))
  have HV := Lib.hid hvv
  have HM := Lib.hid hm
  have HW := Lib.hid hw
  have HL := Lib.hid hb.1
  have v0 : (0 : Int) ≤ v := by omega
  have v1 : (v : Int) < 256 := by have := h12.toNat_lt; omega
  have ehd : (v : Int) / 16 * 4 = (hd : Int) := by omega
  have ehw : IntKind.i64.wrap (hd : Int) = (hd : Int) := IntWalk.i64_in _ (by omega)
  obtain ⟨k, hk⟩ : ∃ k, hd = k + 20 := ⟨hd - 20, by omega⟩
  have hk20 : IntKind.i64.wrap ((hd : Int) - 20) = (k : Int) := by rw [show (hd : Int) - 20 = (k : Int) by omega]; exact IntWalk.i64_in _ (by have := h12.toNat_lt; omega)
  have t1 : decide ((hd : Int) < 20) = false := decide_eq_false (by omega)
  have hkr : k ≤ r.length := by have := hb.1; simp only [List.length_cons] at this; omega
  have HKR := Lib.hid hkr
  have HC : Hid (decide (ck (l4Ps a0 a1 a2 a3 a4 a5 a6 a7 6 (nb : Int) ++ (h0 :: h1 :: h2 :: h3 :: h4 :: h5 :: h6 :: h7 :: h8 :: h9 :: h10 :: h11 :: h12 :: h13 :: h14 :: h15 :: h16 :: h17 :: h18 :: h19 :: r)) = 0) = false) := Lib.hid (decide_eq_false hc)
  clear hx hy hk hkr hc
  clear hvv hhd hfg2 hm hw
  have bel := Below.refl w.heap.size w
  go_enter Try.func10, Try.ntmps10
  go_wp2_with (first | ((with_reducible show wpList _ _ _ (⟨some 1, _, _, _, _, _⟩ :: _) _ _); refine wpList_box_n rfl 27 (.tmp 0) rfl #[.int .i64 tos, .int .i64 id, .int .i64 fl, .int .i64 pt, .int .i64 ttl, .int .i64 6, .int .u8 (a0.toNat : Int), .int .u8 (a1.toNat : Int), .int .u8 (a2.toNat : Int), .int .u8 (a3.toNat : Int), .int .u8 (a4.toNat : Int), .int .u8 (a5.toNat : Int), .int .u8 (a6.toNat : Int), .int .u8 (a7.toNat : Int), .slice So no co, .slice Sb nb cb] rfl ?_; intro g1 w1 ge lt hh bb; have av_hb_p := hb.av_new ge; have op := Nat.le_trans bel.size ge; replace hb := hb.below bb; replace bel := bel.trans (bb.mono bel.size); have hp := hh; clear hh lt ge bb) | ((with_reducible show wpList _ _ _ (⟨some 2, _, _, _, _, _⟩ :: _) _ _); refine wpList_new_a rfl 34 rfl #[.int .i64 0, .int .i64 0, .int .u32 0, .int .u32 0, .int .i64 0, .int .i64 0, .int .i64 0, .slice none 0 0, .slice none 0 0] (by kernel_rfl) ?_; intro g2 w2 ge hh bb; have d_p_z := ne_new (hlt hp) ge; have av_hb_z := hb.av_new ge; have oz := Nat.le_trans bel.size ge; replace hp := blk_u hp bb; replace hb := hb.below bb; replace bel := bel.trans (bb.mono bel.size); have hz := hh; clear hh ge bb; have R8 := cell_lit hp 5 _ rfl; have R11 := Lib.hid (range_lit hp 0 16 [.int .i64 tos, .int .i64 id, .int .i64 fl, .int .i64 pt, .int .i64 ttl, .int .i64 6, .int .u8 (a0.toNat : Int), .int .u8 (a1.toNat : Int), .int .u8 (a2.toNat : Int), .int .u8 (a3.toNat : Int), .int .u8 (a4.toNat : Int), .int .u8 (a5.toNat : Int), .int .u8 (a6.toNat : Int), .int .u8 (a7.toNat : Int), .slice So no co, .slice Sb nb cb] rfl)) | ((with_reducible show wpList _ _ _ (⟨some 11, _, _, _, _, _⟩ :: _) _ _); refine wpList_load_rng 27 (.tmp 1) rfl (by kernel_rfl) _ _ rfl _ R11.out _ Try.underlying27 rfl (by kernel_rfl) ?_))
  try clear R8
  try clear R11
  with_reducible refine (ipwhole_any _ _ _ _ _ _ _ _ _ _ _ _ _ _ _ _ _ _ _ _ _).mono ?_
  rintro e w3 ⟨rfl, b3⟩
  replace hp := blk_u hp b3
  replace hz := blk_u hz b3
  replace hb := hb.below b3
  replace bel := bel.trans (b3.mono bel.size)
  clear b3
  rw [HW.out]
  have R16 := cell_lit hp 15 _ rfl
  go_wp2_with fail
  clear R16
  with_reducible refine (rd_read _ _ _ _ _ hb (by have := HM.out; omega)).mono ?_
  rintro e w4 ⟨gr, Ar3, cr3, rfl, ge, hh, rest, frr, avr, b4⟩
  have av_rest_p := frr.av (hlt hp)
  have av_rest_z := frr.av (hlt hz)
  have d_p_r := ne_new (hlt hp) ge
  have d_z_r := ne_new (hlt hz) ge
  have av_hb_r := hb.av_new ge
  have or := Nat.le_trans bel.size ge
  replace hp := blk_u hp b4
  replace hz := blk_u hz b4
  replace hb := hb.below b4
  replace bel := bel.trans (b4.mono bel.size)
  have hr := hh
  clear hh ge b4
  replace rest : Sl w4 (Ar3) (nb) (cr3) (h0 :: h1 :: h2 :: h3 :: h4 :: h5 :: h6 :: h7 :: h8 :: h9 :: h10 :: h11 :: h12 :: h13 :: h14 :: h15 :: h16 :: h17 :: h18 :: h19 :: r) := rest
  go_wp2_with fail
  with_reducible refine (rd_u16c _ _ _ _ _ _ _ _ _ hr rest).mono ?_
  rintro e w5 ⟨A4, n4, c4, rfl, hq, sq, uq, b5⟩
  replace hb := hb.away av_hb_r b5
  replace hp := blk_a hp b5 d_p_r
  replace hz := blk_a hz b5 d_z_r
  replace bel := below_grown bel b5 or bel.size
  clear b5
  clear hr rest
  have hr := hq
  have rest := sq
  clear hq sq
  have av4_rest_p := av_rest_p.sub uq
  have av4_rest_z := av_rest_z.sub uq
  have av4_rest_r := avr.sub uq
  clear uq
  go_wp2_with fail
  with_reducible refine (rd_u16c _ _ _ _ _ _ _ _ _ hr rest).mono ?_
  rintro e w6 ⟨A5, n5, c5, rfl, hq, sq, uq, b6⟩
  replace hb := hb.away av_hb_r b6
  replace hp := blk_a hp b6 d_p_r
  replace hz := blk_a hz b6 d_z_r
  replace bel := below_grown bel b6 or bel.size
  clear b6
  clear hr rest
  have hr := hq
  have rest := sq
  clear hq sq
  have av5_rest_p := av4_rest_p.sub uq
  have av5_rest_z := av4_rest_z.sub uq
  have av5_rest_r := av4_rest_r.sub uq
  clear uq
  go_wp2_with fail
  with_reducible refine (rd_u32c _ _ _ _ _ _ _ _ _ _ _ hr rest).mono ?_
  rintro e w7 ⟨A6, n6, c6, rfl, hq, sq, uq, b7⟩
  replace hb := hb.away av_hb_r b7
  replace hp := blk_a hp b7 d_p_r
  replace hz := blk_a hz b7 d_z_r
  replace bel := below_grown bel b7 or bel.size
  clear b7
  clear hr rest
  have hr := hq
  have rest := sq
  clear hq sq
  have av6_rest_p := av5_rest_p.sub uq
  have av6_rest_z := av5_rest_z.sub uq
  have av6_rest_r := av5_rest_r.sub uq
  clear uq
  go_wp2_with fail
  with_reducible refine (rd_u32c _ _ _ _ _ _ _ _ _ _ _ hr rest).mono ?_
  rintro e w8 ⟨A7, n7, c7, rfl, hq, sq, uq, b8⟩
  replace hb := hb.away av_hb_r b8
  replace hp := blk_a hp b8 d_p_r
  replace hz := blk_a hz b8 d_z_r
  replace bel := below_grown bel b8 or bel.size
  clear b8
  clear hr rest
  have hr := hq
  have rest := sq
  clear hq sq
  have av7_rest_p := av6_rest_p.sub uq
  have av7_rest_z := av6_rest_z.sub uq
  have av7_rest_r := av6_rest_r.sub uq
  clear uq
  go_wp2_with (first | ((with_reducible show wpList _ _ _ (⟨some 5, _, _, _, _, _⟩ :: _) _ _); refine wpList_new_a rfl 34 rfl #[.int .i64 0, .int .i64 0, .int .u32 0, .int .u32 0, .int .i64 0, .int .i64 0, .int .i64 0, .slice none 0 0, .slice none 0 0] (by kernel_rfl) ?_; intro g5 w9 ge hh bb; have d_p_d := ne_new (hlt hp) ge; have d_z_d := ne_new (hlt hz) ge; have d_r_d := ne_new (hlt hr) ge; have av_hb_d := hb.av_new ge; have av_rest_d := rest.av_new ge; have od := Nat.le_trans bel.size ge; replace hp := blk_u hp bb; replace hz := blk_u hz bb; replace hr := blk_u hr bb; replace hb := hb.below bb; replace rest := rest.below bb; replace bel := bel.trans (bb.mono bel.size); have hd := hh; clear hh ge bb) | ((with_reducible show wpList _ _ _ (⟨none, Op.store _ (.tmp 5) _, _, _, _, _⟩ :: _) _ _); refine wpList_store_blk rfl 34 (.tmp 5) (.tmp 26) rfl g5 rfl _ rfl _ 34 hd (by rfl) (by kernel_rfl) (by kernel_rfl) ?_; intro w10 hq gr; replace hb := hb.away av_hb_d gr; replace rest := rest.away av_rest_d gr; replace hp := blk_a hp gr d_p_d; replace hz := blk_a hz gr d_z_d; replace hr := blk_a hr gr d_r_d; replace bel := below_grown bel gr od bel.size; clear hd; have hd := hq; clear hq gr))
  with_reducible refine (rd_u8c _ _ _ _ _ _ _ _ hr rest).mono ?_
  rintro e w11 ⟨A10, n10, c10, rfl, hq, sq, uq, b11⟩
  replace hb := hb.away av_hb_r b11
  replace hp := blk_a hp b11 d_p_r
  replace hz := blk_a hz b11 d_z_r
  replace hd := blk_a hd b11 (ne_symm d_r_d)
  replace bel := below_grown bel b11 or bel.size
  clear b11
  clear hr rest
  have hr := hq
  have rest := sq
  clear hq sq
  have av10_rest_p := av7_rest_p.sub uq
  have av10_rest_z := av7_rest_z.sub uq
  have av10_rest_r := av7_rest_r.sub uq
  have av10_rest_d := av_rest_d.sub uq
  clear uq
  rw [HV.out]
  go_wp2_with fail
  with_reducible refine (rd_u8c _ _ _ _ _ _ _ _ hr rest).mono ?_
  rintro e w12 ⟨A11, n11, c11, rfl, hq, sq, uq, b12⟩
  replace hb := hb.away av_hb_r b12
  replace hp := blk_a hp b12 d_p_r
  replace hz := blk_a hz b12 d_z_r
  replace hd := blk_a hd b12 (ne_symm d_r_d)
  replace bel := below_grown bel b12 or bel.size
  clear b12
  clear hr rest
  have hr := hq
  have rest := sq
  clear hq sq
  have av11_rest_p := av10_rest_p.sub uq
  have av11_rest_z := av10_rest_z.sub uq
  have av11_rest_r := av10_rest_r.sub uq
  have av11_rest_d := av10_rest_d.sub uq
  clear uq
  go_wp2_with (first | ((with_reducible show wpList _ _ _ (⟨none, Op.store _ (.tmp 34) _, _, _, _, _⟩ :: _) _ _); refine wpList_store_part rfl 3 (.tmp 34) (.tmp 33) rfl g5 4 rfl [.int .i64 fg] rfl [.int .i64 (be [h0, h1] : Nat), .int .i64 (be [h2, h3] : Nat), .int .u32 (be [h4, h5, h6, h7] : Nat), .int .u32 (be [h8, h9, h10, h11] : Nat), .int .i64 0, .int .i64 0, .int .i64 0, .slice none 0 0, .slice none 0 0] 34 hd (by simp) [.int .i64 (be [h0, h1] : Nat), .int .i64 (be [h2, h3] : Nat), .int .u32 (be [h4, h5, h6, h7] : Nat), .int .u32 (be [h8, h9, h10, h11] : Nat), .int .i64 fg, .int .i64 0, .int .i64 0, .slice none 0 0, .slice none 0 0] rfl (by kernel_rfl) (by rfl) ?_; intro w13 hq gr; replace hb := hb.away av_hb_d gr; replace rest := rest.away av11_rest_d gr; replace hp := blk_a hp gr d_p_d; replace hz := blk_a hz gr d_z_d; replace hr := blk_a hr gr d_r_d; replace bel := below_grown bel gr od bel.size; clear hd; have hd := hq; clear hq gr))
  with_reducible refine (rd_u16c _ _ _ _ _ _ _ _ _ hr rest).mono ?_
  rintro e w14 ⟨A13, n13, c13, rfl, hq, sq, uq, b14⟩
  replace hb := hb.away av_hb_r b14
  replace hp := blk_a hp b14 d_p_r
  replace hz := blk_a hz b14 d_z_r
  replace hd := blk_a hd b14 (ne_symm d_r_d)
  replace bel := below_grown bel b14 or bel.size
  clear b14
  clear hr rest
  have hr := hq
  have rest := sq
  clear hq sq
  have av13_rest_p := av11_rest_p.sub uq
  have av13_rest_z := av11_rest_z.sub uq
  have av13_rest_r := av11_rest_r.sub uq
  have av13_rest_d := av11_rest_d.sub uq
  clear uq
  go_wp2_with (first | ((with_reducible show wpList _ _ _ (⟨none, Op.store _ (.tmp 37) _, _, _, _, _⟩ :: _) _ _); refine wpList_store_part rfl 3 (.tmp 37) (.tmp 36) rfl g5 5 rfl [.int .i64 (be [h14, h15] : Nat)] rfl [.int .i64 (be [h0, h1] : Nat), .int .i64 (be [h2, h3] : Nat), .int .u32 (be [h4, h5, h6, h7] : Nat), .int .u32 (be [h8, h9, h10, h11] : Nat), .int .i64 fg, .int .i64 0, .int .i64 0, .slice none 0 0, .slice none 0 0] 34 hd (by simp) [.int .i64 (be [h0, h1] : Nat), .int .i64 (be [h2, h3] : Nat), .int .u32 (be [h4, h5, h6, h7] : Nat), .int .u32 (be [h8, h9, h10, h11] : Nat), .int .i64 fg, .int .i64 (be [h14, h15] : Nat), .int .i64 0, .slice none 0 0, .slice none 0 0] rfl (by kernel_rfl) (by rfl) ?_; intro w15 hq gr; replace hb := hb.away av_hb_d gr; replace rest := rest.away av13_rest_d gr; replace hp := blk_a hp gr d_p_d; replace hz := blk_a hz gr d_z_d; replace hr := blk_a hr gr d_r_d; replace bel := below_grown bel gr od bel.size; clear hd; have hd := hq; clear hq gr))
  with_reducible refine (rd_u16c _ _ _ _ _ _ _ _ _ hr rest).mono ?_
  rintro e w16 ⟨A15, n15, c15, rfl, hq, sq, uq, b16⟩
  replace hb := hb.away av_hb_r b16
  replace hp := blk_a hp b16 d_p_r
  replace hz := blk_a hz b16 d_z_r
  replace hd := blk_a hd b16 (ne_symm d_r_d)
  replace bel := below_grown bel b16 or bel.size
  clear b16
  clear hr rest
  have hr := hq
  have rest := sq
  clear hq sq
  have av15_rest_p := av13_rest_p.sub uq
  have av15_rest_z := av13_rest_z.sub uq
  have av15_rest_r := av13_rest_r.sub uq
  have av15_rest_d := av13_rest_d.sub uq
  clear uq
  go_wp2_with fail
  with_reducible refine (rd_u16c _ _ _ _ _ _ _ _ _ hr rest).mono ?_
  rintro e w17 ⟨A16, n16, c16, rfl, hq, sq, uq, b17⟩
  replace hb := hb.away av_hb_r b17
  replace hp := blk_a hp b17 d_p_r
  replace hz := blk_a hz b17 d_z_r
  replace hd := blk_a hd b17 (ne_symm d_r_d)
  replace bel := below_grown bel b17 or bel.size
  clear b17
  clear hr rest
  have hr := hq
  have rest := sq
  clear hq sq
  have av16_rest_p := av15_rest_p.sub uq
  have av16_rest_z := av15_rest_z.sub uq
  have av16_rest_r := av15_rest_r.sub uq
  have av16_rest_d := av15_rest_d.sub uq
  clear uq
  go_wp2_with (first | ((with_reducible show wpList _ _ _ (⟨none, Op.store _ (.tmp 42) _, _, _, _, _⟩ :: _) _ _); refine wpList_store_part rfl 3 (.tmp 42) (.tmp 41) rfl g5 6 rfl [.int .i64 (be [h18, h19] : Nat)] rfl [.int .i64 (be [h0, h1] : Nat), .int .i64 (be [h2, h3] : Nat), .int .u32 (be [h4, h5, h6, h7] : Nat), .int .u32 (be [h8, h9, h10, h11] : Nat), .int .i64 fg, .int .i64 (be [h14, h15] : Nat), .int .i64 0, .slice none 0 0, .slice none 0 0] 34 hd (by simp) [.int .i64 (be [h0, h1] : Nat), .int .i64 (be [h2, h3] : Nat), .int .u32 (be [h4, h5, h6, h7] : Nat), .int .u32 (be [h8, h9, h10, h11] : Nat), .int .i64 fg, .int .i64 (be [h14, h15] : Nat), .int .i64 (be [h18, h19] : Nat), .slice none 0 0, .slice none 0 0] rfl (by kernel_rfl) (by rfl) ?_; intro w18 hq gr; replace hb := hb.away av_hb_d gr; replace rest := rest.away av16_rest_d gr; replace hp := blk_a hp gr d_p_d; replace hz := blk_a hz gr d_z_d; replace hr := blk_a hr gr d_r_d; replace bel := below_grown bel gr od bel.size; clear hd; have hd := hq; clear hq gr))
  with_reducible refine (rd_short _ _ _ _ _ _ _ hr rest).mono ?_
  rintro e _ ⟨rfl, rfl⟩
  go_wp2_with fail
  have ob1 := bel.size
  with_reducible refine (rd_bytes (k) _ _ _ _ _ _ _ hr rest (HKR.out) (by have := HL.out; simp only [List.length_cons] at this; have := HKR.out; have := HM.out; omega)).mono ?_
  rintro e w19 ⟨Aop, cop, A18, n18, c18, rfl, hq, sq, uq, op, frop, b19⟩
  have av_op_p := frop.av (hlt hp)
  have av_op_z := frop.av (hlt hz)
  have av_op_r := frop.av (hlt hr)
  have av_op_d := frop.av (hlt hd)
  replace hb := hb.away av_hb_r b19
  replace hp := blk_a hp b19 d_p_r
  replace hz := blk_a hz b19 d_z_r
  replace hd := blk_a hd b19 (ne_symm d_r_d)
  replace bel := below_grown bel b19 or bel.size
  clear b19
  clear hr rest
  have hr := hq
  have rest := sq
  clear hq sq
  have av18_rest_p := av16_rest_p.sub uq
  have av18_rest_z := av16_rest_z.sub uq
  have av18_rest_r := av16_rest_r.sub uq
  have av18_rest_d := av16_rest_d.sub uq
  clear uq
  have fr_op := frop.mono ob1
  go_wp2_with (first | ((with_reducible show wpList _ _ _ (⟨none, Op.store _ (.tmp 53) _, _, _, _, _⟩ :: _) _ _); refine wpList_store_part rfl 25 (.tmp 53) (.tmp 52) rfl g5 7 rfl [.slice Aop k cop] rfl [.int .i64 (be [h0, h1] : Nat), .int .i64 (be [h2, h3] : Nat), .int .u32 (be [h4, h5, h6, h7] : Nat), .int .u32 (be [h8, h9, h10, h11] : Nat), .int .i64 fg, .int .i64 (be [h14, h15] : Nat), .int .i64 (be [h18, h19] : Nat), .slice none 0 0, .slice none 0 0] 34 hd (by simp) [.int .i64 (be [h0, h1] : Nat), .int .i64 (be [h2, h3] : Nat), .int .u32 (be [h4, h5, h6, h7] : Nat), .int .u32 (be [h8, h9, h10, h11] : Nat), .int .i64 fg, .int .i64 (be [h14, h15] : Nat), .int .i64 (be [h18, h19] : Nat), .slice Aop k cop, .slice none 0 0] rfl (by kernel_rfl) (by rfl) ?_; intro w20 hq gr; replace hb := hb.away av_hb_d gr; replace rest := rest.away av18_rest_d gr; replace op := op.away av_op_d gr; replace hp := blk_a hp gr d_p_d; replace hz := blk_a hz gr d_z_d; replace hr := blk_a hr gr d_r_d; replace bel := below_grown bel gr od bel.size; clear hd; have hd := hq; clear hq gr))
  with_reducible refine (rd_short _ _ _ _ _ _ _ hr rest).mono ?_
  rintro e _ ⟨rfl, rfl⟩
  have R57 := Lib.hid (range_lit hp 0 16 [.int .i64 tos, .int .i64 id, .int .i64 fl, .int .i64 pt, .int .i64 ttl, .int .i64 6, .int .u8 (a0.toNat : Int), .int .u8 (a1.toNat : Int), .int .u8 (a2.toNat : Int), .int .u8 (a3.toNat : Int), .int .u8 (a4.toNat : Int), .int .u8 (a5.toNat : Int), .int .u8 (a6.toNat : Int), .int .u8 (a7.toNat : Int), .slice So no co, .slice Sb nb cb] rfl)
  go_wp2_with (first | ((with_reducible show wpList _ _ _ (⟨some 57, _, _, _, _, _⟩ :: _) _ _); refine wpList_load_rng 27 (.tmp 1) rfl (by kernel_rfl) _ _ rfl _ R57.out _ Try.underlying27 rfl (by kernel_rfl) ?_))
  try clear R57
  with_reducible refine (tcfits_any _ _ _ _ _ 6 _ _ _ _ _ _ _ _ _ _ _ _ _ _ _ _ hb HM.out).mono ?_
  rintro e w21 ⟨rfl, b21⟩
  replace hp := blk_u hp b21
  replace hz := blk_u hz b21
  replace hr := blk_u hr b21
  replace hd := blk_u hd b21
  replace hb := hb.below b21
  replace rest := rest.below b21
  replace op := op.below b21
  replace bel := bel.trans (b21.mono bel.size)
  clear b21
  rw [HC.out]
  go_wp2_with (first | ((with_reducible show wpList _ _ _ (⟨none, Op.store _ (.tmp 2) _, _, _, _, _⟩ :: _) _ _); refine wpList_store_blk rfl 34 (.tmp 2) (.tmp 60) rfl g2 rfl _ rfl _ 34 hz (by rfl) (by kernel_rfl) (by kernel_rfl) ?_; intro w22 hq gr; replace hb := hb.away av_hb_z gr; replace rest := rest.away av18_rest_z gr; replace op := op.away av_op_z gr; replace hp := blk_a hp gr d_p_z; replace hr := blk_a hr gr (ne_symm d_z_r); replace hd := blk_a hd gr (ne_symm d_z_d); replace bel := below_grown bel gr oz bel.size; clear hz; have hz := hq; clear hq gr))
  exact bodyPost_ret (results_cell_tmp_row rfl _ _ _ _ _ _ _ rfl hz Try.underlying34 rfl (by kernel_rfl) (.int .i64 5) rfl) rfl (SgPost.none HP.out.symm bel)
set_option linter.unusedVariables false in
set_option maxRecDepth 100000 in
set_option maxHeartbeats 16000000 in
theorem tcget_7 (tos id fl pt ttl : Int) (a0 a1 a2 a3 a4 a5 a6 a7 : UInt8) (So Sb : Option Addr) (no co nb cb : Nat) (h0 h1 h2 h3 h4 h5 h6 h7 h8 h9 h10 h11 h12 h13 h14 h15 h16 h17 h18 h19 : UInt8) (r : List UInt8) (v hd : Nat) (fg : Int) (w : World) (hb : Sl w Sb nb cb (h0 :: h1 :: h2 :: h3 :: h4 :: h5 :: h6 :: h7 :: h8 :: h9 :: h10 :: h11 :: h12 :: h13 :: h14 :: h15 :: h16 :: h17 :: h18 :: h19 :: r)) (hm : nb ≤ 100000) (hvv : h12.toNat = v) (hhd : h12.toNat / 16 * 4 = hd) (hfg : bits .and .i64 (h13.toNat : Int) 63 = fg) (hfg2 : ((h13.toNat % 64 : Nat) : Int) = fg) (hw : (decide (pt = 0) && decide (fl % 2 = 0)) = true) (hx : hd ≤ nb) (hy : 20 ≤ hd) (hc : ck (l4Ps a0 a1 a2 a3 a4 a5 a6 a7 6 (nb : Int) ++ (h0 :: h1 :: h2 :: h3 :: h4 :: h5 :: h6 :: h7 :: h8 :: h9 :: h10 :: h11 :: h12 :: h13 :: h14 :: h15 :: h16 :: h17 :: h18 :: h19 :: r)) = 0) : Calls Try.prog 10 #[.agg #[.int .i64 tos, .int .i64 id, .int .i64 fl, .int .i64 pt, .int .i64 ttl, .int .i64 6, .int .u8 (a0.toNat : Int), .int .u8 (a1.toNat : Int), .int .u8 (a2.toNat : Int), .int .u8 (a3.toNat : Int), .int .u8 (a4.toNat : Int), .int .u8 (a5.toNat : Int), .int .u8 (a6.toNat : Int), .int .u8 (a7.toNat : Int), .slice So no co, .slice Sb nb cb]] w (SgPost (tcGet fl pt 6 a0 a1 a2 a3 a4 a5 a6 a7 (h0 :: h1 :: h2 :: h3 :: h4 :: h5 :: h6 :: h7 :: h8 :: h9 :: h10 :: h11 :: h12 :: h13 :: h14 :: h15 :: h16 :: h17 :: h18 :: h19 :: r)) w) := by
  obtain ⟨k, hk⟩ : ∃ k, hd = k + 20 := ⟨hd - 20, by omega⟩
  have hk20 : IntKind.i64.wrap ((hd : Int) - 20) = (k : Int) := by rw [show (hd : Int) - 20 = (k : Int) by omega]; exact IntWalk.i64_in _ (by have := h12.toNat_lt; omega)
  have t1 : decide ((hd : Int) < 20) = false := decide_eq_false (by omega)
  have HP : Hid (tcGet fl pt 6 a0 a1 a2 a3 a4 a5 a6 a7 (h0 :: h1 :: h2 :: h3 :: h4 :: h5 :: h6 :: h7 :: h8 :: h9 :: h10 :: h11 :: h12 :: h13 :: h14 :: h15 :: h16 :: h17 :: h18 :: h19 :: r) = ([((be [h0, h1] : Nat) : Int), ((be [h2, h3] : Nat) : Int), ((be [h4, h5, h6, h7] : Nat) : Int), ((be [h8, h9, h10, h11] : Nat) : Int), fg, ((be [h14, h15] : Nat) : Int), ((be [h18, h19] : Nat) : Int)], (r.take k, r.drop k), 0)) := Lib.hid (by rw [tc_ok (by rw [tc_at hhd hw, hb.1, if_neg (by omega), if_neg (by omega), if_neg (fun h => h hc)]) hhd hk, hfg2])
  have HV := Lib.hid hvv
  have HM := Lib.hid hm
  have HW := Lib.hid hw
  have HL := Lib.hid hb.1
  have v0 : (0 : Int) ≤ v := by omega
  have v1 : (v : Int) < 256 := by have := h12.toNat_lt; omega
  have ehd : (v : Int) / 16 * 4 = (hd : Int) := by omega
  have ehw : IntKind.i64.wrap (hd : Int) = (hd : Int) := IntWalk.i64_in _ (by omega)
  have hkr : k ≤ r.length := by have := hb.1; simp only [List.length_cons] at this; omega
  have HKR := Lib.hid hkr
  have HKL : Hid ((r.take k).length = k) := Lib.hid (by rw [List.length_take]; omega)
  obtain ⟨m, hm2⟩ : ∃ m, (r.drop k).length = m := ⟨_, rfl⟩
  have HM2 := Lib.hid hm2
  have hm3 : m ≤ 100000 := by have := hb.1; simp only [List.length_cons] at this; rw [List.length_drop] at hm2; omega
  have HM3 := Lib.hid hm3
  clear hm2 hm3
  have HC : Hid (decide (ck (l4Ps a0 a1 a2 a3 a4 a5 a6 a7 6 (nb : Int) ++ (h0 :: h1 :: h2 :: h3 :: h4 :: h5 :: h6 :: h7 :: h8 :: h9 :: h10 :: h11 :: h12 :: h13 :: h14 :: h15 :: h16 :: h17 :: h18 :: h19 :: r)) = 0) = true) := Lib.hid (decide_eq_true hc)
  clear hx hy hk hkr hc
  clear hvv hhd hfg2 hm hw
  have bel := Below.refl w.heap.size w
  go_enter Try.func10, Try.ntmps10
  go_wp2_with (first | ((with_reducible show wpList _ _ _ (⟨some 1, _, _, _, _, _⟩ :: _) _ _); refine wpList_box_n rfl 27 (.tmp 0) rfl #[.int .i64 tos, .int .i64 id, .int .i64 fl, .int .i64 pt, .int .i64 ttl, .int .i64 6, .int .u8 (a0.toNat : Int), .int .u8 (a1.toNat : Int), .int .u8 (a2.toNat : Int), .int .u8 (a3.toNat : Int), .int .u8 (a4.toNat : Int), .int .u8 (a5.toNat : Int), .int .u8 (a6.toNat : Int), .int .u8 (a7.toNat : Int), .slice So no co, .slice Sb nb cb] rfl ?_; intro g1 w1 ge lt hh bb; have av_hb_p := hb.av_new ge; have op := Nat.le_trans bel.size ge; replace hb := hb.below bb; replace bel := bel.trans (bb.mono bel.size); have hp := hh; clear hh lt ge bb) | ((with_reducible show wpList _ _ _ (⟨some 2, _, _, _, _, _⟩ :: _) _ _); refine wpList_new_a rfl 34 rfl #[.int .i64 0, .int .i64 0, .int .u32 0, .int .u32 0, .int .i64 0, .int .i64 0, .int .i64 0, .slice none 0 0, .slice none 0 0] (by kernel_rfl) ?_; intro g2 w2 ge hh bb; have d_p_z := ne_new (hlt hp) ge; have av_hb_z := hb.av_new ge; have oz := Nat.le_trans bel.size ge; replace hp := blk_u hp bb; replace hb := hb.below bb; replace bel := bel.trans (bb.mono bel.size); have hz := hh; clear hh ge bb; have R8 := cell_lit hp 5 _ rfl; have R11 := Lib.hid (range_lit hp 0 16 [.int .i64 tos, .int .i64 id, .int .i64 fl, .int .i64 pt, .int .i64 ttl, .int .i64 6, .int .u8 (a0.toNat : Int), .int .u8 (a1.toNat : Int), .int .u8 (a2.toNat : Int), .int .u8 (a3.toNat : Int), .int .u8 (a4.toNat : Int), .int .u8 (a5.toNat : Int), .int .u8 (a6.toNat : Int), .int .u8 (a7.toNat : Int), .slice So no co, .slice Sb nb cb] rfl)) | ((with_reducible show wpList _ _ _ (⟨some 11, _, _, _, _, _⟩ :: _) _ _); refine wpList_load_rng 27 (.tmp 1) rfl (by kernel_rfl) _ _ rfl _ R11.out _ Try.underlying27 rfl (by kernel_rfl) ?_))
  try clear R8
  try clear R11
  with_reducible refine (ipwhole_any _ _ _ _ _ _ _ _ _ _ _ _ _ _ _ _ _ _ _ _ _).mono ?_
  rintro e w3 ⟨rfl, b3⟩
  replace hp := blk_u hp b3
  replace hz := blk_u hz b3
  replace hb := hb.below b3
  replace bel := bel.trans (b3.mono bel.size)
  clear b3
  rw [HW.out]
  have R16 := cell_lit hp 15 _ rfl
  go_wp2_with fail
  clear R16
  with_reducible refine (rd_read _ _ _ _ _ hb (by have := HM.out; omega)).mono ?_
  rintro e w4 ⟨gr, Ar3, cr3, rfl, ge, hh, rest, frr, avr, b4⟩
  have av_rest_p := frr.av (hlt hp)
  have av_rest_z := frr.av (hlt hz)
  have d_p_r := ne_new (hlt hp) ge
  have d_z_r := ne_new (hlt hz) ge
  have av_hb_r := hb.av_new ge
  have or := Nat.le_trans bel.size ge
  replace hp := blk_u hp b4
  replace hz := blk_u hz b4
  replace hb := hb.below b4
  replace bel := bel.trans (b4.mono bel.size)
  have hr := hh
  clear hh ge b4
  replace rest : Sl w4 (Ar3) (nb) (cr3) (h0 :: h1 :: h2 :: h3 :: h4 :: h5 :: h6 :: h7 :: h8 :: h9 :: h10 :: h11 :: h12 :: h13 :: h14 :: h15 :: h16 :: h17 :: h18 :: h19 :: r) := rest
  go_wp2_with fail
  with_reducible refine (rd_u16c _ _ _ _ _ _ _ _ _ hr rest).mono ?_
  rintro e w5 ⟨A4, n4, c4, rfl, hq, sq, uq, b5⟩
  replace hb := hb.away av_hb_r b5
  replace hp := blk_a hp b5 d_p_r
  replace hz := blk_a hz b5 d_z_r
  replace bel := below_grown bel b5 or bel.size
  clear b5
  clear hr rest
  have hr := hq
  have rest := sq
  clear hq sq
  have av4_rest_p := av_rest_p.sub uq
  have av4_rest_z := av_rest_z.sub uq
  have av4_rest_r := avr.sub uq
  clear uq
  go_wp2_with fail
  with_reducible refine (rd_u16c _ _ _ _ _ _ _ _ _ hr rest).mono ?_
  rintro e w6 ⟨A5, n5, c5, rfl, hq, sq, uq, b6⟩
  replace hb := hb.away av_hb_r b6
  replace hp := blk_a hp b6 d_p_r
  replace hz := blk_a hz b6 d_z_r
  replace bel := below_grown bel b6 or bel.size
  clear b6
  clear hr rest
  have hr := hq
  have rest := sq
  clear hq sq
  have av5_rest_p := av4_rest_p.sub uq
  have av5_rest_z := av4_rest_z.sub uq
  have av5_rest_r := av4_rest_r.sub uq
  clear uq
  go_wp2_with fail
  with_reducible refine (rd_u32c _ _ _ _ _ _ _ _ _ _ _ hr rest).mono ?_
  rintro e w7 ⟨A6, n6, c6, rfl, hq, sq, uq, b7⟩
  replace hb := hb.away av_hb_r b7
  replace hp := blk_a hp b7 d_p_r
  replace hz := blk_a hz b7 d_z_r
  replace bel := below_grown bel b7 or bel.size
  clear b7
  clear hr rest
  have hr := hq
  have rest := sq
  clear hq sq
  have av6_rest_p := av5_rest_p.sub uq
  have av6_rest_z := av5_rest_z.sub uq
  have av6_rest_r := av5_rest_r.sub uq
  clear uq
  go_wp2_with fail
  with_reducible refine (rd_u32c _ _ _ _ _ _ _ _ _ _ _ hr rest).mono ?_
  rintro e w8 ⟨A7, n7, c7, rfl, hq, sq, uq, b8⟩
  replace hb := hb.away av_hb_r b8
  replace hp := blk_a hp b8 d_p_r
  replace hz := blk_a hz b8 d_z_r
  replace bel := below_grown bel b8 or bel.size
  clear b8
  clear hr rest
  have hr := hq
  have rest := sq
  clear hq sq
  have av7_rest_p := av6_rest_p.sub uq
  have av7_rest_z := av6_rest_z.sub uq
  have av7_rest_r := av6_rest_r.sub uq
  clear uq
  go_wp2_with (first | ((with_reducible show wpList _ _ _ (⟨some 5, _, _, _, _, _⟩ :: _) _ _); refine wpList_new_a rfl 34 rfl #[.int .i64 0, .int .i64 0, .int .u32 0, .int .u32 0, .int .i64 0, .int .i64 0, .int .i64 0, .slice none 0 0, .slice none 0 0] (by kernel_rfl) ?_; intro g5 w9 ge hh bb; have d_p_d := ne_new (hlt hp) ge; have d_z_d := ne_new (hlt hz) ge; have d_r_d := ne_new (hlt hr) ge; have av_hb_d := hb.av_new ge; have av_rest_d := rest.av_new ge; have od := Nat.le_trans bel.size ge; replace hp := blk_u hp bb; replace hz := blk_u hz bb; replace hr := blk_u hr bb; replace hb := hb.below bb; replace rest := rest.below bb; replace bel := bel.trans (bb.mono bel.size); have hd := hh; clear hh ge bb) | ((with_reducible show wpList _ _ _ (⟨none, Op.store _ (.tmp 5) _, _, _, _, _⟩ :: _) _ _); refine wpList_store_blk rfl 34 (.tmp 5) (.tmp 26) rfl g5 rfl _ rfl _ 34 hd (by rfl) (by kernel_rfl) (by kernel_rfl) ?_; intro w10 hq gr; replace hb := hb.away av_hb_d gr; replace rest := rest.away av_rest_d gr; replace hp := blk_a hp gr d_p_d; replace hz := blk_a hz gr d_z_d; replace hr := blk_a hr gr d_r_d; replace bel := below_grown bel gr od bel.size; clear hd; have hd := hq; clear hq gr))
  with_reducible refine (rd_u8c _ _ _ _ _ _ _ _ hr rest).mono ?_
  rintro e w11 ⟨A10, n10, c10, rfl, hq, sq, uq, b11⟩
  replace hb := hb.away av_hb_r b11
  replace hp := blk_a hp b11 d_p_r
  replace hz := blk_a hz b11 d_z_r
  replace hd := blk_a hd b11 (ne_symm d_r_d)
  replace bel := below_grown bel b11 or bel.size
  clear b11
  clear hr rest
  have hr := hq
  have rest := sq
  clear hq sq
  have av10_rest_p := av7_rest_p.sub uq
  have av10_rest_z := av7_rest_z.sub uq
  have av10_rest_r := av7_rest_r.sub uq
  have av10_rest_d := av_rest_d.sub uq
  clear uq
  rw [HV.out]
  go_wp2_with fail
  with_reducible refine (rd_u8c _ _ _ _ _ _ _ _ hr rest).mono ?_
  rintro e w12 ⟨A11, n11, c11, rfl, hq, sq, uq, b12⟩
  replace hb := hb.away av_hb_r b12
  replace hp := blk_a hp b12 d_p_r
  replace hz := blk_a hz b12 d_z_r
  replace hd := blk_a hd b12 (ne_symm d_r_d)
  replace bel := below_grown bel b12 or bel.size
  clear b12
  clear hr rest
  have hr := hq
  have rest := sq
  clear hq sq
  have av11_rest_p := av10_rest_p.sub uq
  have av11_rest_z := av10_rest_z.sub uq
  have av11_rest_r := av10_rest_r.sub uq
  have av11_rest_d := av10_rest_d.sub uq
  clear uq
  go_wp2_with (first | ((with_reducible show wpList _ _ _ (⟨none, Op.store _ (.tmp 34) _, _, _, _, _⟩ :: _) _ _); refine wpList_store_part rfl 3 (.tmp 34) (.tmp 33) rfl g5 4 rfl [.int .i64 fg] rfl [.int .i64 (be [h0, h1] : Nat), .int .i64 (be [h2, h3] : Nat), .int .u32 (be [h4, h5, h6, h7] : Nat), .int .u32 (be [h8, h9, h10, h11] : Nat), .int .i64 0, .int .i64 0, .int .i64 0, .slice none 0 0, .slice none 0 0] 34 hd (by simp) [.int .i64 (be [h0, h1] : Nat), .int .i64 (be [h2, h3] : Nat), .int .u32 (be [h4, h5, h6, h7] : Nat), .int .u32 (be [h8, h9, h10, h11] : Nat), .int .i64 fg, .int .i64 0, .int .i64 0, .slice none 0 0, .slice none 0 0] rfl (by kernel_rfl) (by rfl) ?_; intro w13 hq gr; replace hb := hb.away av_hb_d gr; replace rest := rest.away av11_rest_d gr; replace hp := blk_a hp gr d_p_d; replace hz := blk_a hz gr d_z_d; replace hr := blk_a hr gr d_r_d; replace bel := below_grown bel gr od bel.size; clear hd; have hd := hq; clear hq gr))
  with_reducible refine (rd_u16c _ _ _ _ _ _ _ _ _ hr rest).mono ?_
  rintro e w14 ⟨A13, n13, c13, rfl, hq, sq, uq, b14⟩
  replace hb := hb.away av_hb_r b14
  replace hp := blk_a hp b14 d_p_r
  replace hz := blk_a hz b14 d_z_r
  replace hd := blk_a hd b14 (ne_symm d_r_d)
  replace bel := below_grown bel b14 or bel.size
  clear b14
  clear hr rest
  have hr := hq
  have rest := sq
  clear hq sq
  have av13_rest_p := av11_rest_p.sub uq
  have av13_rest_z := av11_rest_z.sub uq
  have av13_rest_r := av11_rest_r.sub uq
  have av13_rest_d := av11_rest_d.sub uq
  clear uq
  go_wp2_with (first | ((with_reducible show wpList _ _ _ (⟨none, Op.store _ (.tmp 37) _, _, _, _, _⟩ :: _) _ _); refine wpList_store_part rfl 3 (.tmp 37) (.tmp 36) rfl g5 5 rfl [.int .i64 (be [h14, h15] : Nat)] rfl [.int .i64 (be [h0, h1] : Nat), .int .i64 (be [h2, h3] : Nat), .int .u32 (be [h4, h5, h6, h7] : Nat), .int .u32 (be [h8, h9, h10, h11] : Nat), .int .i64 fg, .int .i64 0, .int .i64 0, .slice none 0 0, .slice none 0 0] 34 hd (by simp) [.int .i64 (be [h0, h1] : Nat), .int .i64 (be [h2, h3] : Nat), .int .u32 (be [h4, h5, h6, h7] : Nat), .int .u32 (be [h8, h9, h10, h11] : Nat), .int .i64 fg, .int .i64 (be [h14, h15] : Nat), .int .i64 0, .slice none 0 0, .slice none 0 0] rfl (by kernel_rfl) (by rfl) ?_; intro w15 hq gr; replace hb := hb.away av_hb_d gr; replace rest := rest.away av13_rest_d gr; replace hp := blk_a hp gr d_p_d; replace hz := blk_a hz gr d_z_d; replace hr := blk_a hr gr d_r_d; replace bel := below_grown bel gr od bel.size; clear hd; have hd := hq; clear hq gr))
  with_reducible refine (rd_u16c _ _ _ _ _ _ _ _ _ hr rest).mono ?_
  rintro e w16 ⟨A15, n15, c15, rfl, hq, sq, uq, b16⟩
  replace hb := hb.away av_hb_r b16
  replace hp := blk_a hp b16 d_p_r
  replace hz := blk_a hz b16 d_z_r
  replace hd := blk_a hd b16 (ne_symm d_r_d)
  replace bel := below_grown bel b16 or bel.size
  clear b16
  clear hr rest
  have hr := hq
  have rest := sq
  clear hq sq
  have av15_rest_p := av13_rest_p.sub uq
  have av15_rest_z := av13_rest_z.sub uq
  have av15_rest_r := av13_rest_r.sub uq
  have av15_rest_d := av13_rest_d.sub uq
  clear uq
  go_wp2_with fail
  with_reducible refine (rd_u16c _ _ _ _ _ _ _ _ _ hr rest).mono ?_
  rintro e w17 ⟨A16, n16, c16, rfl, hq, sq, uq, b17⟩
  replace hb := hb.away av_hb_r b17
  replace hp := blk_a hp b17 d_p_r
  replace hz := blk_a hz b17 d_z_r
  replace hd := blk_a hd b17 (ne_symm d_r_d)
  replace bel := below_grown bel b17 or bel.size
  clear b17
  clear hr rest
  have hr := hq
  have rest := sq
  clear hq sq
  have av16_rest_p := av15_rest_p.sub uq
  have av16_rest_z := av15_rest_z.sub uq
  have av16_rest_r := av15_rest_r.sub uq
  have av16_rest_d := av15_rest_d.sub uq
  clear uq
  go_wp2_with (first | ((with_reducible show wpList _ _ _ (⟨none, Op.store _ (.tmp 42) _, _, _, _, _⟩ :: _) _ _); refine wpList_store_part rfl 3 (.tmp 42) (.tmp 41) rfl g5 6 rfl [.int .i64 (be [h18, h19] : Nat)] rfl [.int .i64 (be [h0, h1] : Nat), .int .i64 (be [h2, h3] : Nat), .int .u32 (be [h4, h5, h6, h7] : Nat), .int .u32 (be [h8, h9, h10, h11] : Nat), .int .i64 fg, .int .i64 (be [h14, h15] : Nat), .int .i64 0, .slice none 0 0, .slice none 0 0] 34 hd (by simp) [.int .i64 (be [h0, h1] : Nat), .int .i64 (be [h2, h3] : Nat), .int .u32 (be [h4, h5, h6, h7] : Nat), .int .u32 (be [h8, h9, h10, h11] : Nat), .int .i64 fg, .int .i64 (be [h14, h15] : Nat), .int .i64 (be [h18, h19] : Nat), .slice none 0 0, .slice none 0 0] rfl (by kernel_rfl) (by rfl) ?_; intro w18 hq gr; replace hb := hb.away av_hb_d gr; replace rest := rest.away av16_rest_d gr; replace hp := blk_a hp gr d_p_d; replace hz := blk_a hz gr d_z_d; replace hr := blk_a hr gr d_r_d; replace bel := below_grown bel gr od bel.size; clear hd; have hd := hq; clear hq gr))
  with_reducible refine (rd_short _ _ _ _ _ _ _ hr rest).mono ?_
  rintro e _ ⟨rfl, rfl⟩
  go_wp2_with fail
  have ob1 := bel.size
  with_reducible refine (rd_bytes (k) _ _ _ _ _ _ _ hr rest (HKR.out) (by have := HL.out; simp only [List.length_cons] at this; have := HKR.out; have := HM.out; omega)).mono ?_
  rintro e w19 ⟨Aop, cop, A18, n18, c18, rfl, hq, sq, uq, op, frop, b19⟩
  have av_op_p := frop.av (hlt hp)
  have av_op_z := frop.av (hlt hz)
  have av_op_r := frop.av (hlt hr)
  have av_op_d := frop.av (hlt hd)
  replace hb := hb.away av_hb_r b19
  replace hp := blk_a hp b19 d_p_r
  replace hz := blk_a hz b19 d_z_r
  replace hd := blk_a hd b19 (ne_symm d_r_d)
  replace bel := below_grown bel b19 or bel.size
  clear b19
  clear hr rest
  have hr := hq
  have rest := sq
  clear hq sq
  have av18_rest_p := av16_rest_p.sub uq
  have av18_rest_z := av16_rest_z.sub uq
  have av18_rest_r := av16_rest_r.sub uq
  have av18_rest_d := av16_rest_d.sub uq
  clear uq
  have fr_op := frop.mono ob1
  go_wp2_with (first | ((with_reducible show wpList _ _ _ (⟨none, Op.store _ (.tmp 53) _, _, _, _, _⟩ :: _) _ _); refine wpList_store_part rfl 25 (.tmp 53) (.tmp 52) rfl g5 7 rfl [.slice Aop k cop] rfl [.int .i64 (be [h0, h1] : Nat), .int .i64 (be [h2, h3] : Nat), .int .u32 (be [h4, h5, h6, h7] : Nat), .int .u32 (be [h8, h9, h10, h11] : Nat), .int .i64 fg, .int .i64 (be [h14, h15] : Nat), .int .i64 (be [h18, h19] : Nat), .slice none 0 0, .slice none 0 0] 34 hd (by simp) [.int .i64 (be [h0, h1] : Nat), .int .i64 (be [h2, h3] : Nat), .int .u32 (be [h4, h5, h6, h7] : Nat), .int .u32 (be [h8, h9, h10, h11] : Nat), .int .i64 fg, .int .i64 (be [h14, h15] : Nat), .int .i64 (be [h18, h19] : Nat), .slice Aop k cop, .slice none 0 0] rfl (by kernel_rfl) (by rfl) ?_; intro w20 hq gr; replace hb := hb.away av_hb_d gr; replace rest := rest.away av18_rest_d gr; replace op := op.away av_op_d gr; replace hp := blk_a hp gr d_p_d; replace hz := blk_a hz gr d_z_d; replace hr := blk_a hr gr d_r_d; replace bel := below_grown bel gr od bel.size; clear hd; have hd := hq; clear hq gr))
  with_reducible refine (rd_short _ _ _ _ _ _ _ hr rest).mono ?_
  rintro e _ ⟨rfl, rfl⟩
  have R57 := Lib.hid (range_lit hp 0 16 [.int .i64 tos, .int .i64 id, .int .i64 fl, .int .i64 pt, .int .i64 ttl, .int .i64 6, .int .u8 (a0.toNat : Int), .int .u8 (a1.toNat : Int), .int .u8 (a2.toNat : Int), .int .u8 (a3.toNat : Int), .int .u8 (a4.toNat : Int), .int .u8 (a5.toNat : Int), .int .u8 (a6.toNat : Int), .int .u8 (a7.toNat : Int), .slice So no co, .slice Sb nb cb] rfl)
  go_wp2_with (first | ((with_reducible show wpList _ _ _ (⟨some 57, _, _, _, _, _⟩ :: _) _ _); refine wpList_load_rng 27 (.tmp 1) rfl (by kernel_rfl) _ _ rfl _ R57.out _ Try.underlying27 rfl (by kernel_rfl) ?_))
  try clear R57
  with_reducible refine (tcfits_any _ _ _ _ _ 6 _ _ _ _ _ _ _ _ _ _ _ _ _ _ _ _ hb HM.out).mono ?_
  rintro e w21 ⟨rfl, b21⟩
  replace hp := blk_u hp b21
  replace hz := blk_u hz b21
  replace hr := blk_u hr b21
  replace hd := blk_u hd b21
  replace hb := hb.below b21
  replace rest := rest.below b21
  replace op := op.below b21
  replace bel := bel.trans (b21.mono bel.size)
  clear b21
  rw [HC.out]
  go_wp2_with fail
  with_reducible refine (rd_left _ _ _ _ _ _ _ hr rest).mono ?_
  rintro e _ ⟨rfl, rfl⟩
  rw [HM2.out]
  go_wp2_with fail
  have ob2 := bel.size
  with_reducible refine (rd_bytes (m) _ _ _ _ _ _ _ hr rest (by rw [HM2.out]; exact Nat.le_refl _) (by have := HM3.out; omega)).mono ?_
  rintro e w22 ⟨Abd, cbd, A21, n21, c21, rfl, hq, sq, uq, bd, frbd, b22⟩
  have av_bd_p := frbd.av (hlt hp)
  have av_bd_z := frbd.av (hlt hz)
  have av_bd_r := frbd.av (hlt hr)
  have av_bd_d := frbd.av (hlt hd)
  replace hb := hb.away av_hb_r b22
  replace op := op.away av_op_r b22
  replace hp := blk_a hp b22 d_p_r
  replace hz := blk_a hz b22 d_z_r
  replace hd := blk_a hd b22 (ne_symm d_r_d)
  replace bel := below_grown bel b22 or bel.size
  clear b22
  clear hr rest
  have hr := hq
  have rest := sq
  clear hq sq
  have av21_rest_p := av18_rest_p.sub uq
  have av21_rest_z := av18_rest_z.sub uq
  have av21_rest_r := av18_rest_r.sub uq
  have av21_rest_d := av18_rest_d.sub uq
  clear uq
  have fr_bd := frbd.mono ob2
  go_wp2_with (first | ((with_reducible show wpList _ _ _ (⟨none, Op.store _ (.tmp 65) _, _, _, _, _⟩ :: _) _ _); refine wpList_store_part rfl 25 (.tmp 65) (.tmp 64) rfl g5 8 rfl [.slice Abd m cbd] rfl [.int .i64 (be [h0, h1] : Nat), .int .i64 (be [h2, h3] : Nat), .int .u32 (be [h4, h5, h6, h7] : Nat), .int .u32 (be [h8, h9, h10, h11] : Nat), .int .i64 fg, .int .i64 (be [h14, h15] : Nat), .int .i64 (be [h18, h19] : Nat), .slice Aop k cop, .slice none 0 0] 34 hd (by simp) [.int .i64 (be [h0, h1] : Nat), .int .i64 (be [h2, h3] : Nat), .int .u32 (be [h4, h5, h6, h7] : Nat), .int .u32 (be [h8, h9, h10, h11] : Nat), .int .i64 fg, .int .i64 (be [h14, h15] : Nat), .int .i64 (be [h18, h19] : Nat), .slice Aop k cop, .slice Abd m cbd] rfl (by kernel_rfl) (by rfl) ?_; intro w23 hq gr; replace hb := hb.away av_hb_d gr; replace rest := rest.away av21_rest_d gr; replace op := op.away av_op_d gr; replace bd := bd.away av_bd_d gr; replace hp := blk_a hp gr d_p_d; replace hz := blk_a hz gr d_z_d; replace hr := blk_a hr gr d_r_d; replace bel := below_grown bel gr od bel.size; clear hd; have hd := hq; clear hq gr; have R66 := Lib.hid (range_lit hd 0 9 [.int .i64 (be [h0, h1] : Nat), .int .i64 (be [h2, h3] : Nat), .int .u32 (be [h4, h5, h6, h7] : Nat), .int .u32 (be [h8, h9, h10, h11] : Nat), .int .i64 fg, .int .i64 (be [h14, h15] : Nat), .int .i64 (be [h18, h19] : Nat), .slice Aop k cop, .slice Abd m cbd] rfl)) | ((with_reducible show wpList _ _ _ (⟨some 66, _, _, _, _, _⟩ :: _) _ _); refine wpList_load_rng 34 (.tmp 5) rfl (by kernel_rfl) _ _ rfl _ R66.out _ Try.underlying34 rfl (by kernel_rfl) ?_) | ((with_reducible show wpList _ _ _ (⟨none, Op.store _ (.tmp 2) _, _, _, _, _⟩ :: _) _ _); refine wpList_store_blk rfl 34 (.tmp 2) (.tmp 66) rfl g2 rfl _ rfl _ 34 hz (by rfl) (by kernel_rfl) (by kernel_rfl) ?_; intro w24 hq gr; replace hb := hb.away av_hb_z gr; replace rest := rest.away av21_rest_z gr; replace op := op.away av_op_z gr; replace bd := bd.away av_bd_z gr; replace hp := blk_a hp gr d_p_z; replace hr := blk_a hr gr (ne_symm d_z_r); replace hd := blk_a hd gr (ne_symm d_z_d); replace bel := below_grown bel gr oz bel.size; clear hz; have hz := hq; clear hq gr))
  try clear R66
  exact bodyPost_ret (results_cell_tmp_row rfl _ _ _ _ _ _ _ rfl hz Try.underlying34 rfl (by kernel_rfl) (.int .i64 0) rfl) rfl ⟨_, _, _, _, fg, _, _, r.take k, r.drop k, Aop, Abd, cop, cbd, 0, by rw [HKL.out, HM2.out], by rw [HKL.out]; exact op, by rw [List.take_of_length_le (Nat.le_of_eq HM2.out)] at bd; rw [HM2.out]; exact bd, by rw [HKL.out]; exact fr_op, by rw [HM2.out]; exact fr_bd, bel, HP.out.symm⟩
theorem tcget_any (tos id fl pt ttl pr : Int) (a0 a1 a2 a3 a4 a5 a6 a7 : UInt8) (So Sb : Option Addr) (no co nb cb : Nat) (lb : List UInt8) (w : World) (hb : Sl w Sb nb cb lb) (hm : nb ≤ 100000) : Calls Try.prog 10 #[.agg #[.int .i64 tos, .int .i64 id, .int .i64 fl, .int .i64 pt, .int .i64 ttl, .int .i64 pr, .int .u8 (a0.toNat : Int), .int .u8 (a1.toNat : Int), .int .u8 (a2.toNat : Int), .int .u8 (a3.toNat : Int), .int .u8 (a4.toNat : Int), .int .u8 (a5.toNat : Int), .int .u8 (a6.toNat : Int), .int .u8 (a7.toNat : Int), .slice So no co, .slice Sb nb cb]] w (SgPost (tcGet fl pt pr a0 a1 a2 a3 a4 a5 a6 a7 lb) w) := by
  by_cases hp : pr = 6
  · subst hp
    rcases (by decide : ∀ b : Bool, b = true ∨ b = false) (decide (pt = 0) && decide (fl % 2 = 0)) with hw | hw
    · by_cases hn : nb < 20
      · exact tcget_3 tos id fl pt ttl a0 a1 a2 a3 a4 a5 a6 a7 So Sb no co nb cb lb w hb hw hn
      · obtain ⟨h0, h1, h2, h3, h4, h5, h6, h7, h8, h9, h10, h11, h12, h13, h14, h15, h16, h17, h18, h19, r, rfl⟩ := list20 lb (by rw [hb.1]; omega)
        have h63 := i64_and63 (h13.toNat : Int)
        have h64 : ((h13.toNat % 64 : Nat) : Int) = (h13.toNat : Int) % 64 := by omega
        by_cases hx : 20 ≤ h12.toNat / 16 * 4
        · by_cases hy : h12.toNat / 16 * 4 ≤ nb
          · by_cases hc : ck (l4Ps a0 a1 a2 a3 a4 a5 a6 a7 6 (nb : Int) ++ (h0 :: h1 :: h2 :: h3 :: h4 :: h5 :: h6 :: h7 :: h8 :: h9 :: h10 :: h11 :: h12 :: h13 :: h14 :: h15 :: h16 :: h17 :: h18 :: h19 :: r)) = 0
            · exact tcget_7 tos id fl pt ttl a0 a1 a2 a3 a4 a5 a6 a7 So Sb no co nb cb h0 h1 h2 h3 h4 h5 h6 h7 h8 h9 h10 h11 h12 h13 h14 h15 h16 h17 h18 h19 r _ _ _ w hb hm rfl rfl h63 h64 hw hy hx hc
            · exact tcget_6 tos id fl pt ttl a0 a1 a2 a3 a4 a5 a6 a7 So Sb no co nb cb h0 h1 h2 h3 h4 h5 h6 h7 h8 h9 h10 h11 h12 h13 h14 h15 h16 h17 h18 h19 r _ _ _ w hb hm rfl rfl h63 h64 hw hy hx hc
          · exact tcget_5 tos id fl pt ttl a0 a1 a2 a3 a4 a5 a6 a7 So Sb no co nb cb h0 h1 h2 h3 h4 h5 h6 h7 h8 h9 h10 h11 h12 h13 h14 h15 h16 h17 h18 h19 r _ _ _ w hb hm rfl rfl h63 h64 hw (by omega) hx
        · exact tcget_4 tos id fl pt ttl a0 a1 a2 a3 a4 a5 a6 a7 So Sb no co nb cb h0 h1 h2 h3 h4 h5 h6 h7 h8 h9 h10 h11 h12 h13 h14 h15 h16 h17 h18 h19 r _ _ _ w hb hm rfl rfl h63 h64 hw (by omega)
    · exact tcget_2 tos id fl pt ttl a0 a1 a2 a3 a4 a5 a6 a7 So Sb no co nb cb lb w hw
  · exact tcget_1 tos id fl pt ttl pr a0 a1 a2 a3 a4 a5 a6 a7 So Sb no co nb cb lb w hp
end Go.Proofs.Ytkmihoijnjdbnaa
