/- Texts put together: Tc3, Icl, Ic1, Ic2. -/
import Derived.Test.YtbdaejodbcjmfaaGreatQ1
import Derived.Test.YtbdaejodbcjmfaaGreatQ2
import Derived.Test.YtbdaejodbcjmfaaGreatQ3
import Derived.Test.YtbdaejodbcjmfaaGreatQ4
import Derived.Test.YtbdaejodbcjmfaaGreatQ5
import Derived.Test.YtbdaejodbcjmfaaGreatQ6
import Derived.Test.YtbdaejodbcjmfaaGreatQ7
import Derived.Test.YtbdaejodbcjmfaaGreatQ8
import Derived.Test.YtbdaejodbcjmfaaGreatQ9
import Derived.Test.YtbdaejodbcjmfaaGreatQ10
import Derived.Test.YtbdaejodbcjmfaaGreatQ11
import Derived.Test.YtbdaejodbcjmfaaGreatQ12
import Derived.Test.YtbdaejodbcjmfaaGreatQ13
import Derived.Test.YtbdaejodbcjmfaaGreatZ1
import Derived.Test.YtbdaejodbcjmfaaGreatZ2
import Derived.Deep.CutRange
import Derived.Deep.RegionHeld3
namespace Go.Proofs.YtbdaejodbcjmfaaGreat
open Go.RowKit
open Go.RowKit

set_option linter.unusedVariables false in
set_option maxRecDepth 100000 in
set_option maxHeartbeats 16000000 in
theorem tcget_1 (tos id fl pt ttl pr : Int) (a0 a1 a2 a3 a4 a5 a6 a7 : UInt8) (So Sb : Option Addr) (no co nb cb : Nat) (lb : List UInt8) (w : World) (hp : pr ≠ 6) : Calls Tryz.prog 68 #[.agg #[.int .i64 tos, .int .i64 id, .int .i64 fl, .int .i64 pt, .int .i64 ttl, .int .i64 pr, .int .u8 (a0.toNat : Int), .int .u8 (a1.toNat : Int), .int .u8 (a2.toNat : Int), .int .u8 (a3.toNat : Int), .int .u8 (a4.toNat : Int), .int .u8 (a5.toNat : Int), .int .u8 (a6.toNat : Int), .int .u8 (a7.toNat : Int), .slice So no co, .slice Sb nb cb]] w (SgPost (tcGet fl pt pr a0 a1 a2 a3 a4 a5 a6 a7 (lb)) w) := by
  have HP : Hid (tcGet fl pt pr a0 a1 a2 a3 a4 a5 a6 a7 (lb) = sgNone 1) := Lib.hid (tc_err (by exact if_pos hp) (by decide))
  have t0 : (pr == 6) = false := by simpa using hp
  have t1 : (pr != 6) = true := by simpa using hp
  clear hp
  have bel := Below.refl w.heap.size w
  go_enter Tryz.func68, Tryz.ntmps68
  go_wp2_with (first | ((with_reducible show wpList _ _ _ (⟨some 1, _, _, _, _, _⟩ :: _) _ _); refine wpList_box_n rfl 38 (.tmp 0) rfl #[.int .i64 tos, .int .i64 id, .int .i64 fl, .int .i64 pt, .int .i64 ttl, .int .i64 pr, .int .u8 (a0.toNat : Int), .int .u8 (a1.toNat : Int), .int .u8 (a2.toNat : Int), .int .u8 (a3.toNat : Int), .int .u8 (a4.toNat : Int), .int .u8 (a5.toNat : Int), .int .u8 (a6.toNat : Int), .int .u8 (a7.toNat : Int), .slice So no co, .slice Sb nb cb] rfl ?_; intro g1 w1 ge lt hh bb; have op := Nat.le_trans bel.size ge; replace bel := bel.trans (bb.mono bel.size); have hp := hh; clear hh lt ge bb) | ((with_reducible show wpList _ _ _ (⟨some 2, _, _, _, _, _⟩ :: _) _ _); refine wpList_new_a rfl 105 rfl #[.int .i64 0, .int .i64 0, .int .u32 0, .int .u32 0, .int .i64 0, .int .i64 0, .int .i64 0, .slice none 0 0, .slice none 0 0] (by kernel_rfl) ?_; intro g2 w2 ge hh bb; have d_p_z := ne_new (hlt hp) ge; have oz := Nat.le_trans bel.size ge; replace hp := blk_u hp bb; replace bel := bel.trans (bb.mono bel.size); have hz := hh; clear hh ge bb; have R8 := cell_lit hp 5 _ rfl) | ((with_reducible show wpList _ _ _ (⟨none, Op.store _ (.tmp 2) _, _, _, _, _⟩ :: _) _ _); refine wpList_store_blk rfl 105 (.tmp 2) (.tmp 10) rfl g2 rfl _ rfl _ 105 hz (by rfl) (by kernel_rfl) (by kernel_rfl) ?_; intro w3 hq gr; replace hp := blk_a hp gr d_p_z; replace bel := below_grown bel gr oz bel.size; clear hz; have hz := hq; clear hq gr))
  try clear R8
  exact bodyPost_ret (results_cell_tmp_row rfl _ _ _ _ _ _ _ rfl hz Tryz.underlying105 rfl (by kernel_rfl) (.int .i64 1) rfl) rfl (SgPost.none HP.out.symm bel)
set_option linter.unusedVariables false in
set_option maxRecDepth 100000 in
set_option maxHeartbeats 16000000 in
theorem tcget_2 (tos id fl pt ttl : Int) (a0 a1 a2 a3 a4 a5 a6 a7 : UInt8) (So Sb : Option Addr) (no co nb cb : Nat) (lb : List UInt8) (w : World) (hw : (decide (pt = 0) && decide (fl % 2 = 0)) = false) : Calls Tryz.prog 68 #[.agg #[.int .i64 tos, .int .i64 id, .int .i64 fl, .int .i64 pt, .int .i64 ttl, .int .i64 6, .int .u8 (a0.toNat : Int), .int .u8 (a1.toNat : Int), .int .u8 (a2.toNat : Int), .int .u8 (a3.toNat : Int), .int .u8 (a4.toNat : Int), .int .u8 (a5.toNat : Int), .int .u8 (a6.toNat : Int), .int .u8 (a7.toNat : Int), .slice So no co, .slice Sb nb cb]] w (SgPost (tcGet fl pt 6 a0 a1 a2 a3 a4 a5 a6 a7 (lb)) w) := by
  have HP : Hid (tcGet fl pt 6 a0 a1 a2 a3 a4 a5 a6 a7 (lb) = sgNone 10) := Lib.hid (tc_err (by unfold tcErr; rw [if_neg (by decide), if_pos (by simpa using hw)]) (by decide))
  have HW := Lib.hid hw
  clear hw
  have bel := Below.refl w.heap.size w
  go_enter Tryz.func68, Tryz.ntmps68
  go_wp2_with (first | ((with_reducible show wpList _ _ _ (⟨some 1, _, _, _, _, _⟩ :: _) _ _); refine wpList_box_n rfl 38 (.tmp 0) rfl #[.int .i64 tos, .int .i64 id, .int .i64 fl, .int .i64 pt, .int .i64 ttl, .int .i64 6, .int .u8 (a0.toNat : Int), .int .u8 (a1.toNat : Int), .int .u8 (a2.toNat : Int), .int .u8 (a3.toNat : Int), .int .u8 (a4.toNat : Int), .int .u8 (a5.toNat : Int), .int .u8 (a6.toNat : Int), .int .u8 (a7.toNat : Int), .slice So no co, .slice Sb nb cb] rfl ?_; intro g1 w1 ge lt hh bb; have op := Nat.le_trans bel.size ge; replace bel := bel.trans (bb.mono bel.size); have hp := hh; clear hh lt ge bb) | ((with_reducible show wpList _ _ _ (⟨some 2, _, _, _, _, _⟩ :: _) _ _); refine wpList_new_a rfl 105 rfl #[.int .i64 0, .int .i64 0, .int .u32 0, .int .u32 0, .int .i64 0, .int .i64 0, .int .i64 0, .slice none 0 0, .slice none 0 0] (by kernel_rfl) ?_; intro g2 w2 ge hh bb; have d_p_z := ne_new (hlt hp) ge; have oz := Nat.le_trans bel.size ge; replace hp := blk_u hp bb; replace bel := bel.trans (bb.mono bel.size); have hz := hh; clear hh ge bb; have R8 := cell_lit hp 5 _ rfl; have R11 := Lib.hid (range_lit hp 0 16 [.int .i64 tos, .int .i64 id, .int .i64 fl, .int .i64 pt, .int .i64 ttl, .int .i64 6, .int .u8 (a0.toNat : Int), .int .u8 (a1.toNat : Int), .int .u8 (a2.toNat : Int), .int .u8 (a3.toNat : Int), .int .u8 (a4.toNat : Int), .int .u8 (a5.toNat : Int), .int .u8 (a6.toNat : Int), .int .u8 (a7.toNat : Int), .slice So no co, .slice Sb nb cb] rfl)) | ((with_reducible show wpList _ _ _ (⟨some 11, _, _, _, _, _⟩ :: _) _ _); refine wpList_load_rng 38 (.tmp 1) rfl (by kernel_rfl) _ _ rfl _ R11.out _ Tryz.underlying38 rfl (by kernel_rfl) ?_))
  try clear R8
  try clear R11
  with_reducible refine (ipwhole_any _ _ _ _ _ _ _ _ _ _ _ _ _ _ _ _ _ _ _ _ _).mono ?_
  rintro e w3 ⟨rfl, b3⟩
  replace hp := blk_u hp b3
  replace hz := blk_u hz b3
  replace bel := bel.trans (b3.mono bel.size)
  clear b3
  rw [HW.out]
  go_wp2_with (first | ((with_reducible show wpList _ _ _ (⟨none, Op.store _ (.tmp 2) _, _, _, _, _⟩ :: _) _ _); refine wpList_store_blk rfl 105 (.tmp 2) (.tmp 14) rfl g2 rfl _ rfl _ 105 hz (by rfl) (by kernel_rfl) (by kernel_rfl) ?_; intro w4 hq gr; replace hp := blk_a hp gr d_p_z; replace bel := below_grown bel gr oz bel.size; clear hz; have hz := hq; clear hq gr))
  exact bodyPost_ret (results_cell_tmp_row rfl _ _ _ _ _ _ _ rfl hz Tryz.underlying105 rfl (by kernel_rfl) (.int .i64 10) rfl) rfl (SgPost.none HP.out.symm bel)
set_option linter.unusedVariables false in
set_option maxRecDepth 100000 in
set_option maxHeartbeats 16000000 in
theorem tcget_3 (tos id fl pt ttl : Int) (a0 a1 a2 a3 a4 a5 a6 a7 : UInt8) (So Sb : Option Addr) (no co nb cb : Nat) (lb : List UInt8) (w : World) (hb : Sl w Sb nb cb lb) (hw : (decide (pt = 0) && decide (fl % 2 = 0)) = true) (hn : nb < 20) : Calls Tryz.prog 68 #[.agg #[.int .i64 tos, .int .i64 id, .int .i64 fl, .int .i64 pt, .int .i64 ttl, .int .i64 6, .int .u8 (a0.toNat : Int), .int .u8 (a1.toNat : Int), .int .u8 (a2.toNat : Int), .int .u8 (a3.toNat : Int), .int .u8 (a4.toNat : Int), .int .u8 (a5.toNat : Int), .int .u8 (a6.toNat : Int), .int .u8 (a7.toNat : Int), .slice So no co, .slice Sb nb cb]] w (SgPost (tcGet fl pt 6 a0 a1 a2 a3 a4 a5 a6 a7 (lb)) w) := by
  have HP : Hid (tcGet fl pt 6 a0 a1 a2 a3 a4 a5 a6 a7 (lb) = sgNone 3) := Lib.hid (tc_err (by unfold tcErr; rw [if_neg (by decide), if_neg (by simpa using hw), if_pos (by rw [hb.1]; exact hn)]) (by decide))
  have HW := Lib.hid hw
  have HN := Lib.hid hn
  have HL := Lib.hid hb.1
  clear hw hn
  have bel := Below.refl w.heap.size w
  go_enter Tryz.func68, Tryz.ntmps68
  go_wp2_with (first | ((with_reducible show wpList _ _ _ (⟨some 1, _, _, _, _, _⟩ :: _) _ _); refine wpList_box_n rfl 38 (.tmp 0) rfl #[.int .i64 tos, .int .i64 id, .int .i64 fl, .int .i64 pt, .int .i64 ttl, .int .i64 6, .int .u8 (a0.toNat : Int), .int .u8 (a1.toNat : Int), .int .u8 (a2.toNat : Int), .int .u8 (a3.toNat : Int), .int .u8 (a4.toNat : Int), .int .u8 (a5.toNat : Int), .int .u8 (a6.toNat : Int), .int .u8 (a7.toNat : Int), .slice So no co, .slice Sb nb cb] rfl ?_; intro g1 w1 ge lt hh bb; have av_hb_p := hb.av_new ge; have op := Nat.le_trans bel.size ge; replace hb := hb.below bb; replace bel := bel.trans (bb.mono bel.size); have hp := hh; clear hh lt ge bb) | ((with_reducible show wpList _ _ _ (⟨some 2, _, _, _, _, _⟩ :: _) _ _); refine wpList_new_a rfl 105 rfl #[.int .i64 0, .int .i64 0, .int .u32 0, .int .u32 0, .int .i64 0, .int .i64 0, .int .i64 0, .slice none 0 0, .slice none 0 0] (by kernel_rfl) ?_; intro g2 w2 ge hh bb; have d_p_z := ne_new (hlt hp) ge; have av_hb_z := hb.av_new ge; have oz := Nat.le_trans bel.size ge; replace hp := blk_u hp bb; replace hb := hb.below bb; replace bel := bel.trans (bb.mono bel.size); have hz := hh; clear hh ge bb; have R8 := cell_lit hp 5 _ rfl; have R11 := Lib.hid (range_lit hp 0 16 [.int .i64 tos, .int .i64 id, .int .i64 fl, .int .i64 pt, .int .i64 ttl, .int .i64 6, .int .u8 (a0.toNat : Int), .int .u8 (a1.toNat : Int), .int .u8 (a2.toNat : Int), .int .u8 (a3.toNat : Int), .int .u8 (a4.toNat : Int), .int .u8 (a5.toNat : Int), .int .u8 (a6.toNat : Int), .int .u8 (a7.toNat : Int), .slice So no co, .slice Sb nb cb] rfl)) | ((with_reducible show wpList _ _ _ (⟨some 11, _, _, _, _, _⟩ :: _) _ _); refine wpList_load_rng 38 (.tmp 1) rfl (by kernel_rfl) _ _ rfl _ R11.out _ Tryz.underlying38 rfl (by kernel_rfl) ?_))
  try clear R8
  try clear R11
  with_reducible refine (ipwhole_any _ _ _ _ _ _ _ _ _ _ _ _ _ _ _ _ _ _ _ _ _).mono ?_
  rintro e w3 ⟨rfl, b3⟩
  replace hp := blk_u hp b3
  replace hz := blk_u hz b3
  replace hb := hb.below b3
  replace bel := bel.trans (b3.mono bel.size)
  clear b3
  rw [HW.out]
  have R16 := cell_lit hp 15 _ rfl
  go_wp2_with fail
  clear R16
  with_reducible refine (rd_read _ _ _ _ _ hb (by have := HN.out; omega)).mono ?_
  rintro e w4 ⟨gr, Ar3, cr3, rfl, ge, hh, rest, frr, avr, b4⟩
  have av_rest_p := frr.av (hlt hp)
  have av_rest_z := frr.av (hlt hz)
  have d_p_r := ne_new (hlt hp) ge
  have d_z_r := ne_new (hlt hz) ge
  have av_hb_r := hb.av_new ge
  have or := Nat.le_trans bel.size ge
  replace hp := blk_u hp b4
  replace hz := blk_u hz b4
  replace hb := hb.below b4
  replace bel := bel.trans (b4.mono bel.size)
  have hr := hh
  clear hh ge b4
  replace rest : Sl w4 (Ar3) (nb) (cr3) (lb) := rest
  go_wp2_with fail
  with_reducible refine (rd_u16e _ _ _ _ _ _ _ hr rest).mono ?_
  rintro e w5 ⟨A4, n4, c4, x1, s1, es1, rfl, hq, sq, uq, b5⟩
  replace hb := hb.away av_hb_r b5
  replace hp := blk_a hp b5 d_p_r
  replace hz := blk_a hz b5 d_z_r
  replace bel := below_grown bel b5 or bel.size
  clear b5
  clear hr rest
  have hr := hq
  have rest := sq
  clear hq sq
  have av4_rest_p := av_rest_p.sub uq
  have av4_rest_z := av_rest_z.sub uq
  have av4_rest_r := avr.sub uq
  clear uq
  go_wp2_with fail
  with_reducible refine (rd_u16e _ _ _ _ _ _ _ hr rest).mono ?_
  rintro e w6 ⟨A5, n5, c5, x2, s2, es2, rfl, hq, sq, uq, b6⟩
  replace hb := hb.away av_hb_r b6
  replace hp := blk_a hp b6 d_p_r
  replace hz := blk_a hz b6 d_z_r
  replace bel := below_grown bel b6 or bel.size
  clear b6
  clear hr rest
  have hr := hq
  have rest := sq
  clear hq sq
  have av5_rest_p := av4_rest_p.sub uq
  have av5_rest_z := av4_rest_z.sub uq
  have av5_rest_r := av4_rest_r.sub uq
  clear uq
  go_wp2_with fail
  with_reducible refine (rd_u32e _ _ _ _ _ _ _ hr rest).mono ?_
  rintro e w7 ⟨A6, n6, c6, x3, s3, es3, rfl, hq, sq, uq, b7⟩
  replace hb := hb.away av_hb_r b7
  replace hp := blk_a hp b7 d_p_r
  replace hz := blk_a hz b7 d_z_r
  replace bel := below_grown bel b7 or bel.size
  clear b7
  clear hr rest
  have hr := hq
  have rest := sq
  clear hq sq
  have av6_rest_p := av5_rest_p.sub uq
  have av6_rest_z := av5_rest_z.sub uq
  have av6_rest_r := av5_rest_r.sub uq
  clear uq
  go_wp2_with fail
  with_reducible refine (rd_u32e _ _ _ _ _ _ _ hr rest).mono ?_
  rintro e w8 ⟨A7, n7, c7, x4, s4, es4, rfl, hq, sq, uq, b8⟩
  replace hb := hb.away av_hb_r b8
  replace hp := blk_a hp b8 d_p_r
  replace hz := blk_a hz b8 d_z_r
  replace bel := below_grown bel b8 or bel.size
  clear b8
  clear hr rest
  have hr := hq
  have rest := sq
  clear hq sq
  have av7_rest_p := av6_rest_p.sub uq
  have av7_rest_z := av6_rest_z.sub uq
  have av7_rest_r := av6_rest_r.sub uq
  clear uq
  go_wp2_with (first | ((with_reducible show wpList _ _ _ (⟨some 5, _, _, _, _, _⟩ :: _) _ _); refine wpList_new_a rfl 105 rfl #[.int .i64 0, .int .i64 0, .int .u32 0, .int .u32 0, .int .i64 0, .int .i64 0, .int .i64 0, .slice none 0 0, .slice none 0 0] (by kernel_rfl) ?_; intro g5 w9 ge hh bb; have d_p_d := ne_new (hlt hp) ge; have d_z_d := ne_new (hlt hz) ge; have d_r_d := ne_new (hlt hr) ge; have av_hb_d := hb.av_new ge; have av_rest_d := rest.av_new ge; have od := Nat.le_trans bel.size ge; replace hp := blk_u hp bb; replace hz := blk_u hz bb; replace hr := blk_u hr bb; replace hb := hb.below bb; replace rest := rest.below bb; replace bel := bel.trans (bb.mono bel.size); have hd := hh; clear hh ge bb) | ((with_reducible show wpList _ _ _ (⟨none, Op.store _ (.tmp 5) _, _, _, _, _⟩ :: _) _ _); refine wpList_store_blk rfl 105 (.tmp 5) (.tmp 26) rfl g5 rfl _ rfl _ 105 hd (by rfl) (by kernel_rfl) (by kernel_rfl) ?_; intro w10 hq gr; replace hb := hb.away av_hb_d gr; replace rest := rest.away av_rest_d gr; replace hp := blk_a hp gr d_p_d; replace hz := blk_a hz gr d_z_d; replace hr := blk_a hr gr d_r_d; replace bel := below_grown bel gr od bel.size; clear hd; have hd := hq; clear hq gr))
  with_reducible refine (rd_u8e _ _ _ _ _ _ _ hr rest).mono ?_
  rintro e w11 ⟨A10, n10, c10, x5, s5, es5, xb5, rfl, hq, sq, uq, b11⟩
  replace hb := hb.away av_hb_r b11
  replace hp := blk_a hp b11 d_p_r
  replace hz := blk_a hz b11 d_z_r
  replace hd := blk_a hd b11 (ne_symm d_r_d)
  replace bel := below_grown bel b11 or bel.size
  clear b11
  clear hr rest
  have hr := hq
  have rest := sq
  clear hq sq
  have av10_rest_p := av7_rest_p.sub uq
  have av10_rest_z := av7_rest_z.sub uq
  have av10_rest_r := av7_rest_r.sub uq
  have av10_rest_d := av_rest_d.sub uq
  clear uq
  have x5a : (0 : Int) ≤ x5 := by omega
  have x5w : IntKind.i64.wrap ((x5 : Int) / 16 * 4) = (x5 : Int) / 16 * 4 := IntWalk.i64_in _ (by omega)
  obtain ⟨y5, hy5⟩ : ∃ y, bits .and .i64 (x5 : Int) 63 = y := ⟨_, rfl⟩
  go_wp2_with fail
  with_reducible refine (rd_u8e _ _ _ _ _ _ _ hr rest).mono ?_
  rintro e w12 ⟨A11, n11, c11, x6, s6, es6, xb6, rfl, hq, sq, uq, b12⟩
  replace hb := hb.away av_hb_r b12
  replace hp := blk_a hp b12 d_p_r
  replace hz := blk_a hz b12 d_z_r
  replace hd := blk_a hd b12 (ne_symm d_r_d)
  replace bel := below_grown bel b12 or bel.size
  clear b12
  clear hr rest
  have hr := hq
  have rest := sq
  clear hq sq
  have av11_rest_p := av10_rest_p.sub uq
  have av11_rest_z := av10_rest_z.sub uq
  have av11_rest_r := av10_rest_r.sub uq
  have av11_rest_d := av10_rest_d.sub uq
  clear uq
  have x6a : (0 : Int) ≤ x6 := by omega
  have x6w : IntKind.i64.wrap ((x6 : Int) / 16 * 4) = (x6 : Int) / 16 * 4 := IntWalk.i64_in _ (by omega)
  obtain ⟨y6, hy6⟩ : ∃ y, bits .and .i64 (x6 : Int) 63 = y := ⟨_, rfl⟩
  go_wp2_with (first | ((with_reducible show wpList _ _ _ (⟨none, Op.store _ (.tmp 34) _, _, _, _, _⟩ :: _) _ _); refine wpList_store_part rfl 3 (.tmp 34) (.tmp 33) rfl g5 4 rfl [.int .i64 y6] rfl [.int .i64 (x1 : Int), .int .i64 (x2 : Int), .int .u32 (x3 : Int), .int .u32 (x4 : Int), .int .i64 0, .int .i64 0, .int .i64 0, .slice none 0 0, .slice none 0 0] 105 hd (by simp) [.int .i64 (x1 : Int), .int .i64 (x2 : Int), .int .u32 (x3 : Int), .int .u32 (x4 : Int), .int .i64 y6, .int .i64 0, .int .i64 0, .slice none 0 0, .slice none 0 0] rfl (by kernel_rfl) (by rfl) ?_; intro w13 hq gr; replace hb := hb.away av_hb_d gr; replace rest := rest.away av11_rest_d gr; replace hp := blk_a hp gr d_p_d; replace hz := blk_a hz gr d_z_d; replace hr := blk_a hr gr d_r_d; replace bel := below_grown bel gr od bel.size; clear hd; have hd := hq; clear hq gr))
  with_reducible refine (rd_u16e _ _ _ _ _ _ _ hr rest).mono ?_
  rintro e w14 ⟨A13, n13, c13, x7, s7, es7, rfl, hq, sq, uq, b14⟩
  replace hb := hb.away av_hb_r b14
  replace hp := blk_a hp b14 d_p_r
  replace hz := blk_a hz b14 d_z_r
  replace hd := blk_a hd b14 (ne_symm d_r_d)
  replace bel := below_grown bel b14 or bel.size
  clear b14
  clear hr rest
  have hr := hq
  have rest := sq
  clear hq sq
  have av13_rest_p := av11_rest_p.sub uq
  have av13_rest_z := av11_rest_z.sub uq
  have av13_rest_r := av11_rest_r.sub uq
  have av13_rest_d := av11_rest_d.sub uq
  clear uq
  go_wp2_with (first | ((with_reducible show wpList _ _ _ (⟨none, Op.store _ (.tmp 37) _, _, _, _, _⟩ :: _) _ _); refine wpList_store_part rfl 3 (.tmp 37) (.tmp 36) rfl g5 5 rfl [.int .i64 (x7 : Int)] rfl [.int .i64 (x1 : Int), .int .i64 (x2 : Int), .int .u32 (x3 : Int), .int .u32 (x4 : Int), .int .i64 y6, .int .i64 0, .int .i64 0, .slice none 0 0, .slice none 0 0] 105 hd (by simp) [.int .i64 (x1 : Int), .int .i64 (x2 : Int), .int .u32 (x3 : Int), .int .u32 (x4 : Int), .int .i64 y6, .int .i64 (x7 : Int), .int .i64 0, .slice none 0 0, .slice none 0 0] rfl (by kernel_rfl) (by rfl) ?_; intro w15 hq gr; replace hb := hb.away av_hb_d gr; replace rest := rest.away av13_rest_d gr; replace hp := blk_a hp gr d_p_d; replace hz := blk_a hz gr d_z_d; replace hr := blk_a hr gr d_r_d; replace bel := below_grown bel gr od bel.size; clear hd; have hd := hq; clear hq gr))
  with_reducible refine (rd_u16e _ _ _ _ _ _ _ hr rest).mono ?_
  rintro e w16 ⟨A15, n15, c15, x8, s8, es8, rfl, hq, sq, uq, b16⟩
  replace hb := hb.away av_hb_r b16
  replace hp := blk_a hp b16 d_p_r
  replace hz := blk_a hz b16 d_z_r
  replace hd := blk_a hd b16 (ne_symm d_r_d)
  replace bel := below_grown bel b16 or bel.size
  clear b16
  clear hr rest
  have hr := hq
  have rest := sq
  clear hq sq
  have av15_rest_p := av13_rest_p.sub uq
  have av15_rest_z := av13_rest_z.sub uq
  have av15_rest_r := av13_rest_r.sub uq
  have av15_rest_d := av13_rest_d.sub uq
  clear uq
  go_wp2_with fail
  with_reducible refine (rd_u16e _ _ _ _ _ _ _ hr rest).mono ?_
  rintro e w17 ⟨A16, n16, c16, x9, s9, es9, rfl, hq, sq, uq, b17⟩
  replace hb := hb.away av_hb_r b17
  replace hp := blk_a hp b17 d_p_r
  replace hz := blk_a hz b17 d_z_r
  replace hd := blk_a hd b17 (ne_symm d_r_d)
  replace bel := below_grown bel b17 or bel.size
  clear b17
  clear hr rest
  have hr := hq
  have rest := sq
  clear hq sq
  have av16_rest_p := av15_rest_p.sub uq
  have av16_rest_z := av15_rest_z.sub uq
  have av16_rest_r := av15_rest_r.sub uq
  have av16_rest_d := av15_rest_d.sub uq
  clear uq
  go_wp2_with (first | ((with_reducible show wpList _ _ _ (⟨none, Op.store _ (.tmp 42) _, _, _, _, _⟩ :: _) _ _); refine wpList_store_part rfl 3 (.tmp 42) (.tmp 41) rfl g5 6 rfl [.int .i64 (x9 : Int)] rfl [.int .i64 (x1 : Int), .int .i64 (x2 : Int), .int .u32 (x3 : Int), .int .u32 (x4 : Int), .int .i64 y6, .int .i64 (x7 : Int), .int .i64 0, .slice none 0 0, .slice none 0 0] 105 hd (by simp) [.int .i64 (x1 : Int), .int .i64 (x2 : Int), .int .u32 (x3 : Int), .int .u32 (x4 : Int), .int .i64 y6, .int .i64 (x7 : Int), .int .i64 (x9 : Int), .slice none 0 0, .slice none 0 0] rfl (by kernel_rfl) (by rfl) ?_; intro w18 hq gr; replace hb := hb.away av_hb_d gr; replace rest := rest.away av16_rest_d gr; replace hp := blk_a hp gr d_p_d; replace hz := blk_a hz gr d_z_d; replace hr := blk_a hr gr d_r_d; replace bel := below_grown bel gr od bel.size; clear hd; have hd := hq; clear hq gr))
  with_reducible refine (rd_short _ _ _ _ _ _ _ hr rest).mono ?_
  rintro e _ ⟨rfl, rfl⟩
  obtain rfl : s9 = true := by rw [es9.out, decide_eq_true (by have := HL.out; have := HN.out; simp only [List.length_drop]; omega), Bool.or_true]
  go_wp2_with (first | ((with_reducible show wpList _ _ _ (⟨none, Op.store _ (.tmp 2) _, _, _, _, _⟩ :: _) _ _); refine wpList_store_blk rfl 105 (.tmp 2) (.tmp 45) rfl g2 rfl _ rfl _ 105 hz (by rfl) (by kernel_rfl) (by kernel_rfl) ?_; intro w19 hq gr; replace hb := hb.away av_hb_z gr; replace rest := rest.away av16_rest_z gr; replace hp := blk_a hp gr d_p_z; replace hr := blk_a hr gr (ne_symm d_z_r); replace hd := blk_a hd gr (ne_symm d_z_d); replace bel := below_grown bel gr oz bel.size; clear hz; have hz := hq; clear hq gr))
  exact bodyPost_ret (results_cell_tmp_row rfl _ _ _ _ _ _ _ rfl hz Tryz.underlying105 rfl (by kernel_rfl) (.int .i64 3) rfl) rfl (SgPost.none HP.out.symm bel)
set_option linter.unusedVariables false in
set_option maxRecDepth 100000 in
set_option maxHeartbeats 16000000 in
theorem tcget_4 (tos id fl pt ttl : Int) (a0 a1 a2 a3 a4 a5 a6 a7 : UInt8) (So Sb : Option Addr) (no co nb cb : Nat) (h0 h1 h2 h3 h4 h5 h6 h7 h8 h9 h10 h11 h12 h13 h14 h15 h16 h17 h18 h19 : UInt8) (r : List UInt8) (v hd : Nat) (fg : Int) (w : World) (hb : Sl w Sb nb cb (h0 :: h1 :: h2 :: h3 :: h4 :: h5 :: h6 :: h7 :: h8 :: h9 :: h10 :: h11 :: h12 :: h13 :: h14 :: h15 :: h16 :: h17 :: h18 :: h19 :: r)) (hm : nb ≤ 100000) (hvv : h12.toNat = v) (hhd : h12.toNat / 16 * 4 = hd) (hfg : bits .and .i64 (h13.toNat : Int) 63 = fg) (hfg2 : ((h13.toNat % 64 : Nat) : Int) = fg) (hw : (decide (pt = 0) && decide (fl % 2 = 0)) = true) (hx : hd < 20) : Calls Tryz.prog 68 #[.agg #[.int .i64 tos, .int .i64 id, .int .i64 fl, .int .i64 pt, .int .i64 ttl, .int .i64 6, .int .u8 (a0.toNat : Int), .int .u8 (a1.toNat : Int), .int .u8 (a2.toNat : Int), .int .u8 (a3.toNat : Int), .int .u8 (a4.toNat : Int), .int .u8 (a5.toNat : Int), .int .u8 (a6.toNat : Int), .int .u8 (a7.toNat : Int), .slice So no co, .slice Sb nb cb]] w (SgPost (tcGet fl pt 6 a0 a1 a2 a3 a4 a5 a6 a7 (h0 :: h1 :: h2 :: h3 :: h4 :: h5 :: h6 :: h7 :: h8 :: h9 :: h10 :: h11 :: h12 :: h13 :: h14 :: h15 :: h16 :: h17 :: h18 :: h19 :: r)) w) := by
  have HP : Hid (tcGet fl pt 6 a0 a1 a2 a3 a4 a5 a6 a7 (h0 :: h1 :: h2 :: h3 :: h4 :: h5 :: h6 :: h7 :: h8 :: h9 :: h10 :: h11 :: h12 :: h13 :: h14 :: h15 :: h16 :: h17 :: h18 :: h19 :: r) = sgNone 4) := Lib.hid (tc_err (by rw [tc_at hhd hw, hb.1, if_pos hx]) (by decide))
  have HV := Lib.hid hvv
  have HM := Lib.hid hm
  have HW := Lib.hid hw
  have HL := Lib.hid hb.1
  have v0 : (0 : Int) ≤ v := by omega
  have v1 : (v : Int) < 256 := by have := h12.toNat_lt; omega
  have ehd : (v : Int) / 16 * 4 = (hd : Int) := by omega
  have ehw : IntKind.i64.wrap (hd : Int) = (hd : Int) := IntWalk.i64_in _ (by omega)
  have t1 : (hd : Int) < 20 := by omega
  clear hx
  clear hvv hhd hfg2 hm hw
  have bel := Below.refl w.heap.size w
  go_enter Tryz.func68, Tryz.ntmps68
  go_wp2_with (first | ((with_reducible show wpList _ _ _ (⟨some 1, _, _, _, _, _⟩ :: _) _ _); refine wpList_box_n rfl 38 (.tmp 0) rfl #[.int .i64 tos, .int .i64 id, .int .i64 fl, .int .i64 pt, .int .i64 ttl, .int .i64 6, .int .u8 (a0.toNat : Int), .int .u8 (a1.toNat : Int), .int .u8 (a2.toNat : Int), .int .u8 (a3.toNat : Int), .int .u8 (a4.toNat : Int), .int .u8 (a5.toNat : Int), .int .u8 (a6.toNat : Int), .int .u8 (a7.toNat : Int), .slice So no co, .slice Sb nb cb] rfl ?_; intro g1 w1 ge lt hh bb; have av_hb_p := hb.av_new ge; have op := Nat.le_trans bel.size ge; replace hb := hb.below bb; replace bel := bel.trans (bb.mono bel.size); have hp := hh; clear hh lt ge bb) | ((with_reducible show wpList _ _ _ (⟨some 2, _, _, _, _, _⟩ :: _) _ _); refine wpList_new_a rfl 105 rfl #[.int .i64 0, .int .i64 0, .int .u32 0, .int .u32 0, .int .i64 0, .int .i64 0, .int .i64 0, .slice none 0 0, .slice none 0 0] (by kernel_rfl) ?_; intro g2 w2 ge hh bb; have d_p_z := ne_new (hlt hp) ge; have av_hb_z := hb.av_new ge; have oz := Nat.le_trans bel.size ge; replace hp := blk_u hp bb; replace hb := hb.below bb; replace bel := bel.trans (bb.mono bel.size); have hz := hh; clear hh ge bb; have R8 := cell_lit hp 5 _ rfl; have R11 := Lib.hid (range_lit hp 0 16 [.int .i64 tos, .int .i64 id, .int .i64 fl, .int .i64 pt, .int .i64 ttl, .int .i64 6, .int .u8 (a0.toNat : Int), .int .u8 (a1.toNat : Int), .int .u8 (a2.toNat : Int), .int .u8 (a3.toNat : Int), .int .u8 (a4.toNat : Int), .int .u8 (a5.toNat : Int), .int .u8 (a6.toNat : Int), .int .u8 (a7.toNat : Int), .slice So no co, .slice Sb nb cb] rfl)) | ((with_reducible show wpList _ _ _ (⟨some 11, _, _, _, _, _⟩ :: _) _ _); refine wpList_load_rng 38 (.tmp 1) rfl (by kernel_rfl) _ _ rfl _ R11.out _ Tryz.underlying38 rfl (by kernel_rfl) ?_))
  try clear R8
  try clear R11
  with_reducible refine (ipwhole_any _ _ _ _ _ _ _ _ _ _ _ _ _ _ _ _ _ _ _ _ _).mono ?_
  rintro e w3 ⟨rfl, b3⟩
  replace hp := blk_u hp b3
  replace hz := blk_u hz b3
  replace hb := hb.below b3
  replace bel := bel.trans (b3.mono bel.size)
  clear b3
  rw [HW.out]
  have R16 := cell_lit hp 15 _ rfl
  go_wp2_with fail
  clear R16
  with_reducible refine (rd_read _ _ _ _ _ hb (by have := HM.out; omega)).mono ?_
  rintro e w4 ⟨gr, Ar3, cr3, rfl, ge, hh, rest, frr, avr, b4⟩
  have av_rest_p := frr.av (hlt hp)
  have av_rest_z := frr.av (hlt hz)
  have d_p_r := ne_new (hlt hp) ge
  have d_z_r := ne_new (hlt hz) ge
  have av_hb_r := hb.av_new ge
  have or := Nat.le_trans bel.size ge
  replace hp := blk_u hp b4
  replace hz := blk_u hz b4
  replace hb := hb.below b4
  replace bel := bel.trans (b4.mono bel.size)
  have hr := hh
  clear hh ge b4
  replace rest : Sl w4 (Ar3) (nb) (cr3) (h0 :: h1 :: h2 :: h3 :: h4 :: h5 :: h6 :: h7 :: h8 :: h9 :: h10 :: h11 :: h12 :: h13 :: h14 :: h15 :: h16 :: h17 :: h18 :: h19 :: r) := rest
  go_wp2_with fail
  with_reducible refine (rd_u16c _ _ _ _ _ _ _ _ _ hr rest).mono ?_
  rintro e w5 ⟨A4, n4, c4, rfl, hq, sq, uq, b5⟩
  replace hb := hb.away av_hb_r b5
  replace hp := blk_a hp b5 d_p_r
  replace hz := blk_a hz b5 d_z_r
  replace bel := below_grown bel b5 or bel.size
  clear b5
  clear hr rest
  have hr := hq
  have rest := sq
  clear hq sq
  have av4_rest_p := av_rest_p.sub uq
  have av4_rest_z := av_rest_z.sub uq
  have av4_rest_r := avr.sub uq
  clear uq
  go_wp2_with fail
  with_reducible refine (rd_u16c _ _ _ _ _ _ _ _ _ hr rest).mono ?_
  rintro e w6 ⟨A5, n5, c5, rfl, hq, sq, uq, b6⟩
  replace hb := hb.away av_hb_r b6
  replace hp := blk_a hp b6 d_p_r
  replace hz := blk_a hz b6 d_z_r
  replace bel := below_grown bel b6 or bel.size
  clear b6
  clear hr rest
  have hr := hq
  have rest := sq
  clear hq sq
  have av5_rest_p := av4_rest_p.sub uq
  have av5_rest_z := av4_rest_z.sub uq
  have av5_rest_r := av4_rest_r.sub uq
  clear uq
  go_wp2_with fail
  with_reducible refine (rd_u32c _ _ _ _ _ _ _ _ _ _ _ hr rest).mono ?_
  rintro e w7 ⟨A6, n6, c6, rfl, hq, sq, uq, b7⟩
  replace hb := hb.away av_hb_r b7
  replace hp := blk_a hp b7 d_p_r
  replace hz := blk_a hz b7 d_z_r
  replace bel := below_grown bel b7 or bel.size
  clear b7
  clear hr rest
  have hr := hq
  have rest := sq
  clear hq sq
  have av6_rest_p := av5_rest_p.sub uq
  have av6_rest_z := av5_rest_z.sub uq
  have av6_rest_r := av5_rest_r.sub uq
  clear uq
  go_wp2_with fail
  with_reducible refine (rd_u32c _ _ _ _ _ _ _ _ _ _ _ hr rest).mono ?_
  rintro e w8 ⟨A7, n7, c7, rfl, hq, sq, uq, b8⟩
  replace hb := hb.away av_hb_r b8
  replace hp := blk_a hp b8 d_p_r
  replace hz := blk_a hz b8 d_z_r
  replace bel := below_grown bel b8 or bel.size
  clear b8
  clear hr rest
  have hr := hq
  have rest := sq
  clear hq sq
  have av7_rest_p := av6_rest_p.sub uq
  have av7_rest_z := av6_rest_z.sub uq
  have av7_rest_r := av6_rest_r.sub uq
  clear uq
  go_wp2_with (first | ((with_reducible show wpList _ _ _ (⟨some 5, _, _, _, _, _⟩ :: _) _ _); refine wpList_new_a rfl 105 rfl #[.int .i64 0, .int .i64 0, .int .u32 0, .int .u32 0, .int .i64 0, .int .i64 0, .int .i64 0, .slice none 0 0, .slice none 0 0] (by kernel_rfl) ?_; intro g5 w9 ge hh bb; have d_p_d := ne_new (hlt hp) ge; have d_z_d := ne_new (hlt hz) ge; have d_r_d := ne_new (hlt hr) ge; have av_hb_d := hb.av_new ge; have av_rest_d := rest.av_new ge; have od := Nat.le_trans bel.size ge; replace hp := blk_u hp bb; replace hz := blk_u hz bb; replace hr := blk_u hr bb; replace hb := hb.below bb; replace rest := rest.below bb; replace bel := bel.trans (bb.mono bel.size); have hd := hh; clear hh ge bb) | ((with_reducible show wpList _ _ _ (⟨none, Op.store _ (.tmp 5) _, _, _, _, _⟩ :: _) _ _); refine wpList_store_blk rfl 105 (.tmp 5) (.tmp 26) rfl g5 rfl _ rfl _ 105 hd (by rfl) (by kernel_rfl) (by kernel_rfl) ?_; intro w10 hq gr; replace hb := hb.away av_hb_d gr; replace rest := rest.away av_rest_d gr; replace hp := blk_a hp gr d_p_d; replace hz := blk_a hz gr d_z_d; replace hr := blk_a hr gr d_r_d; replace bel := below_grown bel gr od bel.size; clear hd; have hd := hq; clear hq gr))
  with_reducible refine (rd_u8c _ _ _ _ _ _ _ _ hr rest).mono ?_
  rintro e w11 ⟨A10, n10, c10, rfl, hq, sq, uq, b11⟩
  replace hb := hb.away av_hb_r b11
  replace hp := blk_a hp b11 d_p_r
  replace hz := blk_a hz b11 d_z_r
  replace hd := blk_a hd b11 (ne_symm d_r_d)
  replace bel := below_grown bel b11 or bel.size
  clear b11
  clear hr rest
  have hr := hq
  have rest := sq
  clear hq sq
  have av10_rest_p := av7_rest_p.sub uq
  have av10_rest_z := av7_rest_z.sub uq
  have av10_rest_r := av7_rest_r.sub uq
  have av10_rest_d := av_rest_d.sub uq
  clear uq
  rw [HV.out]
  go_wp2_with fail
  with_reducible refine (rd_u8c _ _ _ _ _ _ _ _ hr rest).mono ?_
  rintro e w12 ⟨A11, n11, c11, rfl, hq, sq, uq, b12⟩
  replace hb := hb.away av_hb_r b12
  replace hp := blk_a hp b12 d_p_r
  replace hz := blk_a hz b12 d_z_r
  replace hd := blk_a hd b12 (ne_symm d_r_d)
  replace bel := below_grown bel b12 or bel.size
  clear b12
  clear hr rest
  have hr := hq
  have rest := sq
  clear hq sq
  have av11_rest_p := av10_rest_p.sub uq
  have av11_rest_z := av10_rest_z.sub uq
  have av11_rest_r := av10_rest_r.sub uq
  have av11_rest_d := av10_rest_d.sub uq
  clear uq
  go_wp2_with (first | ((with_reducible show wpList _ _ _ (⟨none, Op.store _ (.tmp 34) _, _, _, _, _⟩ :: _) _ _); refine wpList_store_part rfl 3 (.tmp 34) (.tmp 33) rfl g5 4 rfl [.int .i64 fg] rfl [.int .i64 (be [h0, h1] : Nat), .int .i64 (be [h2, h3] : Nat), .int .u32 (be [h4, h5, h6, h7] : Nat), .int .u32 (be [h8, h9, h10, h11] : Nat), .int .i64 0, .int .i64 0, .int .i64 0, .slice none 0 0, .slice none 0 0] 105 hd (by simp) [.int .i64 (be [h0, h1] : Nat), .int .i64 (be [h2, h3] : Nat), .int .u32 (be [h4, h5, h6, h7] : Nat), .int .u32 (be [h8, h9, h10, h11] : Nat), .int .i64 fg, .int .i64 0, .int .i64 0, .slice none 0 0, .slice none 0 0] rfl (by kernel_rfl) (by rfl) ?_; intro w13 hq gr; replace hb := hb.away av_hb_d gr; replace rest := rest.away av11_rest_d gr; replace hp := blk_a hp gr d_p_d; replace hz := blk_a hz gr d_z_d; replace hr := blk_a hr gr d_r_d; replace bel := below_grown bel gr od bel.size; clear hd; have hd := hq; clear hq gr))
  with_reducible refine (rd_u16c _ _ _ _ _ _ _ _ _ hr rest).mono ?_
  rintro e w14 ⟨A13, n13, c13, rfl, hq, sq, uq, b14⟩
  replace hb := hb.away av_hb_r b14
  replace hp := blk_a hp b14 d_p_r
  replace hz := blk_a hz b14 d_z_r
  replace hd := blk_a hd b14 (ne_symm d_r_d)
  replace bel := below_grown bel b14 or bel.size
  clear b14
  clear hr rest
  have hr := hq
  have rest := sq
  clear hq sq
  have av13_rest_p := av11_rest_p.sub uq
  have av13_rest_z := av11_rest_z.sub uq
  have av13_rest_r := av11_rest_r.sub uq
  have av13_rest_d := av11_rest_d.sub uq
  clear uq
  go_wp2_with (first | ((with_reducible show wpList _ _ _ (⟨none, Op.store _ (.tmp 37) _, _, _, _, _⟩ :: _) _ _); refine wpList_store_part rfl 3 (.tmp 37) (.tmp 36) rfl g5 5 rfl [.int .i64 (be [h14, h15] : Nat)] rfl [.int .i64 (be [h0, h1] : Nat), .int .i64 (be [h2, h3] : Nat), .int .u32 (be [h4, h5, h6, h7] : Nat), .int .u32 (be [h8, h9, h10, h11] : Nat), .int .i64 fg, .int .i64 0, .int .i64 0, .slice none 0 0, .slice none 0 0] 105 hd (by simp) [.int .i64 (be [h0, h1] : Nat), .int .i64 (be [h2, h3] : Nat), .int .u32 (be [h4, h5, h6, h7] : Nat), .int .u32 (be [h8, h9, h10, h11] : Nat), .int .i64 fg, .int .i64 (be [h14, h15] : Nat), .int .i64 0, .slice none 0 0, .slice none 0 0] rfl (by kernel_rfl) (by rfl) ?_; intro w15 hq gr; replace hb := hb.away av_hb_d gr; replace rest := rest.away av13_rest_d gr; replace hp := blk_a hp gr d_p_d; replace hz := blk_a hz gr d_z_d; replace hr := blk_a hr gr d_r_d; replace bel := below_grown bel gr od bel.size; clear hd; have hd := hq; clear hq gr))
  with_reducible refine (rd_u16c _ _ _ _ _ _ _ _ _ hr rest).mono ?_
  rintro e w16 ⟨A15, n15, c15, rfl, hq, sq, uq, b16⟩
  replace hb := hb.away av_hb_r b16
  replace hp := blk_a hp b16 d_p_r
  replace hz := blk_a hz b16 d_z_r
  replace hd := blk_a hd b16 (ne_symm d_r_d)
  replace bel := below_grown bel b16 or bel.size
  clear b16
  clear hr rest
  have hr := hq
  have rest := sq
  clear hq sq
  have av15_rest_p := av13_rest_p.sub uq
  have av15_rest_z := av13_rest_z.sub uq
  have av15_rest_r := av13_rest_r.sub uq
  have av15_rest_d := av13_rest_d.sub uq
  clear uq
  go_wp2_with fail
  with_reducible refine (rd_u16c _ _ _ _ _ _ _ _ _ hr rest).mono ?_
  rintro e w17 ⟨A16, n16, c16, rfl, hq, sq, uq, b17⟩
  replace hb := hb.away av_hb_r b17
  replace hp := blk_a hp b17 d_p_r
  replace hz := blk_a hz b17 d_z_r
  replace hd := blk_a hd b17 (ne_symm d_r_d)
  replace bel := below_grown bel b17 or bel.size
  clear b17
  clear hr rest
  have hr := hq
  have rest := sq
  clear hq sq
  have av16_rest_p := av15_rest_p.sub uq
  have av16_rest_z := av15_rest_z.sub uq
  have av16_rest_r := av15_rest_r.sub uq
  have av16_rest_d := av15_rest_d.sub uq
  clear uq
  go_wp2_with (first | ((with_reducible show wpList _ _ _ (⟨none, Op.store _ (.tmp 42) _, _, _, _, _⟩ :: _) _ _); refine wpList_store_part rfl 3 (.tmp 42) (.tmp 41) rfl g5 6 rfl [.int .i64 (be [h18, h19] : Nat)] rfl [.int .i64 (be [h0, h1] : Nat), .int .i64 (be [h2, h3] : Nat), .int .u32 (be [h4, h5, h6, h7] : Nat), .int .u32 (be [h8, h9, h10, h11] : Nat), .int .i64 fg, .int .i64 (be [h14, h15] : Nat), .int .i64 0, .slice none 0 0, .slice none 0 0] 105 hd (by simp) [.int .i64 (be [h0, h1] : Nat), .int .i64 (be [h2, h3] : Nat), .int .u32 (be [h4, h5, h6, h7] : Nat), .int .u32 (be [h8, h9, h10, h11] : Nat), .int .i64 fg, .int .i64 (be [h14, h15] : Nat), .int .i64 (be [h18, h19] : Nat), .slice none 0 0, .slice none 0 0] rfl (by kernel_rfl) (by rfl) ?_; intro w18 hq gr; replace hb := hb.away av_hb_d gr; replace rest := rest.away av16_rest_d gr; replace hp := blk_a hp gr d_p_d; replace hz := blk_a hz gr d_z_d; replace hr := blk_a hr gr d_r_d; replace bel := below_grown bel gr od bel.size; clear hd; have hd := hq; clear hq gr))
  with_reducible refine (rd_short _ _ _ _ _ _ _ hr rest).mono ?_
  rintro e _ ⟨rfl, rfl⟩
  go_wp2_with (first | ((with_reducible show wpList _ _ _ (⟨none, Op.store _ (.tmp 2) _, _, _, _, _⟩ :: _) _ _); refine wpList_store_blk rfl 105 (.tmp 2) (.tmp 48) rfl g2 rfl _ rfl _ 105 hz (by rfl) (by kernel_rfl) (by kernel_rfl) ?_; intro w19 hq gr; replace hb := hb.away av_hb_z gr; replace rest := rest.away av16_rest_z gr; replace hp := blk_a hp gr d_p_z; replace hr := blk_a hr gr (ne_symm d_z_r); replace hd := blk_a hd gr (ne_symm d_z_d); replace bel := below_grown bel gr oz bel.size; clear hz; have hz := hq; clear hq gr))
  exact bodyPost_ret (results_cell_tmp_row rfl _ _ _ _ _ _ _ rfl hz Tryz.underlying105 rfl (by kernel_rfl) (.int .i64 4) rfl) rfl (SgPost.none HP.out.symm bel)
set_option linter.unusedVariables false in
set_option maxRecDepth 100000 in
set_option maxHeartbeats 16000000 in
theorem tcget_5 (tos id fl pt ttl : Int) (a0 a1 a2 a3 a4 a5 a6 a7 : UInt8) (So Sb : Option Addr) (no co nb cb : Nat) (h0 h1 h2 h3 h4 h5 h6 h7 h8 h9 h10 h11 h12 h13 h14 h15 h16 h17 h18 h19 : UInt8) (r : List UInt8) (v hd : Nat) (fg : Int) (w : World) (hb : Sl w Sb nb cb (h0 :: h1 :: h2 :: h3 :: h4 :: h5 :: h6 :: h7 :: h8 :: h9 :: h10 :: h11 :: h12 :: h13 :: h14 :: h15 :: h16 :: h17 :: h18 :: h19 :: r)) (hm : nb ≤ 100000) (hvv : h12.toNat = v) (hhd : h12.toNat / 16 * 4 = hd) (hfg : bits .and .i64 (h13.toNat : Int) 63 = fg) (hfg2 : ((h13.toNat % 64 : Nat) : Int) = fg) (hw : (decide (pt = 0) && decide (fl % 2 = 0)) = true) (hx : nb < hd) (hy : 20 ≤ hd) : Calls Tryz.prog 68 #[.agg #[.int .i64 tos, .int .i64 id, .int .i64 fl, .int .i64 pt, .int .i64 ttl, .int .i64 6, .int .u8 (a0.toNat : Int), .int .u8 (a1.toNat : Int), .int .u8 (a2.toNat : Int), .int .u8 (a3.toNat : Int), .int .u8 (a4.toNat : Int), .int .u8 (a5.toNat : Int), .int .u8 (a6.toNat : Int), .int .u8 (a7.toNat : Int), .slice So no co, .slice Sb nb cb]] w (SgPost (tcGet fl pt 6 a0 a1 a2 a3 a4 a5 a6 a7 (h0 :: h1 :: h2 :: h3 :: h4 :: h5 :: h6 :: h7 :: h8 :: h9 :: h10 :: h11 :: h12 :: h13 :: h14 :: h15 :: h16 :: h17 :: h18 :: h19 :: r)) w) := by
  have HP : Hid (tcGet fl pt 6 a0 a1 a2 a3 a4 a5 a6 a7 (h0 :: h1 :: h2 :: h3 :: h4 :: h5 :: h6 :: h7 :: h8 :: h9 :: h10 :: h11 :: h12 :: h13 :: h14 :: h15 :: h16 :: h17 :: h18 :: h19 :: r) = sgNone 3) := Lib.hid (tc_err (by rw [tc_at hhd hw, hb.1, if_neg (by omega), if_pos hx]) (by decide))
  have HV := Lib.hid hvv
  have HM := Lib.hid hm
  have HW := Lib.hid hw
  have HL := Lib.hid hb.1
  have v0 : (0 : Int) ≤ v := by omega
  have v1 : (v : Int) < 256 := by have := h12.toNat_lt; omega
  have ehd : (v : Int) / 16 * 4 = (hd : Int) := by omega
  have ehw : IntKind.i64.wrap (hd : Int) = (hd : Int) := IntWalk.i64_in _ (by omega)
  obtain ⟨k, hk⟩ : ∃ k, hd = k + 20 := ⟨hd - 20, by omega⟩
  have hk20 : IntKind.i64.wrap ((hd : Int) - 20) = (k : Int) := by rw [show (hd : Int) - 20 = (k : Int) by omega]; exact IntWalk.i64_in _ (by have := h12.toNat_lt; omega)
  have t1 : decide ((hd : Int) < 20) = false := decide_eq_false (by omega)
  have HX : Hid (r.length < k) := Lib.hid (by have := hb.1; simp only [List.length_cons] at this; omega)
  clear hx hy hk
  clear hvv hhd hfg2 hm hw
  have bel := Below.refl w.heap.size w
  go_enter Tryz.func68, Tryz.ntmps68
  go_wp2_with (first | ((with_reducible show wpList _ _ _ (⟨some 1, _, _, _, _, _⟩ :: _) _ _); refine wpList_box_n rfl 38 (.tmp 0) rfl #[.int .i64 tos, .int .i64 id, .int .i64 fl, .int .i64 pt, .int .i64 ttl, .int .i64 6, .int .u8 (a0.toNat : Int), .int .u8 (a1.toNat : Int), .int .u8 (a2.toNat : Int), .int .u8 (a3.toNat : Int), .int .u8 (a4.toNat : Int), .int .u8 (a5.toNat : Int), .int .u8 (a6.toNat : Int), .int .u8 (a7.toNat : Int), .slice So no co, .slice Sb nb cb] rfl ?_; intro g1 w1 ge lt hh bb; have av_hb_p := hb.av_new ge; have op := Nat.le_trans bel.size ge; replace hb := hb.below bb; replace bel := bel.trans (bb.mono bel.size); have hp := hh; clear hh lt ge bb) | ((with_reducible show wpList _ _ _ (⟨some 2, _, _, _, _, _⟩ :: _) _ _); refine wpList_new_a rfl 105 rfl #[.int .i64 0, .int .i64 0, .int .u32 0, .int .u32 0, .int .i64 0, .int .i64 0, .int .i64 0, .slice none 0 0, .slice none 0 0] (by kernel_rfl) ?_; intro g2 w2 ge hh bb; have d_p_z := ne_new (hlt hp) ge; have av_hb_z := hb.av_new ge; have oz := Nat.le_trans bel.size ge; replace hp := blk_u hp bb; replace hb := hb.below bb; replace bel := bel.trans (bb.mono bel.size); have hz := hh; clear hh ge bb; have R8 := cell_lit hp 5 _ rfl; have R11 := Lib.hid (range_lit hp 0 16 [.int .i64 tos, .int .i64 id, .int .i64 fl, .int .i64 pt, .int .i64 ttl, .int .i64 6, .int .u8 (a0.toNat : Int), .int .u8 (a1.toNat : Int), .int .u8 (a2.toNat : Int), .int .u8 (a3.toNat : Int), .int .u8 (a4.toNat : Int), .int .u8 (a5.toNat : Int), .int .u8 (a6.toNat : Int), .int .u8 (a7.toNat : Int), .slice So no co, .slice Sb nb cb] rfl)) | ((with_reducible show wpList _ _ _ (⟨some 11, _, _, _, _, _⟩ :: _) _ _); refine wpList_load_rng 38 (.tmp 1) rfl (by kernel_rfl) _ _ rfl _ R11.out _ Tryz.underlying38 rfl (by kernel_rfl) ?_))
  try clear R8
  try clear R11
  with_reducible refine (ipwhole_any _ _ _ _ _ _ _ _ _ _ _ _ _ _ _ _ _ _ _ _ _).mono ?_
  rintro e w3 ⟨rfl, b3⟩
  replace hp := blk_u hp b3
  replace hz := blk_u hz b3
  replace hb := hb.below b3
  replace bel := bel.trans (b3.mono bel.size)
  clear b3
  rw [HW.out]
  have R16 := cell_lit hp 15 _ rfl
  go_wp2_with fail
  clear R16
  with_reducible refine (rd_read _ _ _ _ _ hb (by have := HM.out; omega)).mono ?_
  rintro e w4 ⟨gr, Ar3, cr3, rfl, ge, hh, rest, frr, avr, b4⟩
  have av_rest_p := frr.av (hlt hp)
  have av_rest_z := frr.av (hlt hz)
  have d_p_r := ne_new (hlt hp) ge
  have d_z_r := ne_new (hlt hz) ge
  have av_hb_r := hb.av_new ge
  have or := Nat.le_trans bel.size ge
  replace hp := blk_u hp b4
  replace hz := blk_u hz b4
  replace hb := hb.below b4
  replace bel := bel.trans (b4.mono bel.size)
  have hr := hh
  clear hh ge b4
  replace rest : Sl w4 (Ar3) (nb) (cr3) (h0 :: h1 :: h2 :: h3 :: h4 :: h5 :: h6 :: h7 :: h8 :: h9 :: h10 :: h11 :: h12 :: h13 :: h14 :: h15 :: h16 :: h17 :: h18 :: h19 :: r) := rest
  go_wp2_with fail
  with_reducible refine (rd_u16c _ _ _ _ _ _ _ _ _ hr rest).mono ?_
  rintro e w5 ⟨A4, n4, c4, rfl, hq, sq, uq, b5⟩
  replace hb := hb.away av_hb_r b5
  replace hp := blk_a hp b5 d_p_r
  replace hz := blk_a hz b5 d_z_r
  replace bel := below_grown bel b5 or bel.size
  clear b5
  clear hr rest
  have hr := hq
  have rest := sq
  clear hq sq
  have av4_rest_p := av_rest_p.sub uq
  have av4_rest_z := av_rest_z.sub uq
  have av4_rest_r := avr.sub uq
  clear uq
  go_wp2_with fail
  with_reducible refine (rd_u16c _ _ _ _ _ _ _ _ _ hr rest).mono ?_
  rintro e w6 ⟨A5, n5, c5, rfl, hq, sq, uq, b6⟩
  replace hb := hb.away av_hb_r b6
  replace hp := blk_a hp b6 d_p_r
  replace hz := blk_a hz b6 d_z_r
  replace bel := below_grown bel b6 or bel.size
  clear b6
  clear hr rest
  have hr := hq
  have rest := sq
  clear hq sq
  have av5_rest_p := av4_rest_p.sub uq
  have av5_rest_z := av4_rest_z.sub uq
  have av5_rest_r := av4_rest_r.sub uq
  clear uq
  go_wp2_with fail
  with_reducible refine (rd_u32c _ _ _ _ _ _ _ _ _ _ _ hr rest).mono ?_
  rintro e w7 ⟨A6, n6, c6, rfl, hq, sq, uq, b7⟩
  replace hb := hb.away av_hb_r b7
  replace hp := blk_a hp b7 d_p_r
  replace hz := blk_a hz b7 d_z_r
  replace bel := below_grown bel b7 or bel.size
  clear b7
  clear hr rest
  have hr := hq
  have rest := sq
  clear hq sq
  have av6_rest_p := av5_rest_p.sub uq
  have av6_rest_z := av5_rest_z.sub uq
  have av6_rest_r := av5_rest_r.sub uq
  clear uq
  go_wp2_with fail
  with_reducible refine (rd_u32c _ _ _ _ _ _ _ _ _ _ _ hr rest).mono ?_
  rintro e w8 ⟨A7, n7, c7, rfl, hq, sq, uq, b8⟩
  replace hb := hb.away av_hb_r b8
  replace hp := blk_a hp b8 d_p_r
  replace hz := blk_a hz b8 d_z_r
  replace bel := below_grown bel b8 or bel.size
  clear b8
  clear hr rest
  have hr := hq
  have rest := sq
  clear hq sq
  have av7_rest_p := av6_rest_p.sub uq
  have av7_rest_z := av6_rest_z.sub uq
  have av7_rest_r := av6_rest_r.sub uq
  clear uq
  go_wp2_with (first | ((with_reducible show wpList _ _ _ (⟨some 5, _, _, _, _, _⟩ :: _) _ _); refine wpList_new_a rfl 105 rfl #[.int .i64 0, .int .i64 0, .int .u32 0, .int .u32 0, .int .i64 0, .int .i64 0, .int .i64 0, .slice none 0 0, .slice none 0 0] (by kernel_rfl) ?_; intro g5 w9 ge hh bb; have d_p_d := ne_new (hlt hp) ge; have d_z_d := ne_new (hlt hz) ge; have d_r_d := ne_new (hlt hr) ge; have av_hb_d := hb.av_new ge; have av_rest_d := rest.av_new ge; have od := Nat.le_trans bel.size ge; replace hp := blk_u hp bb; replace hz := blk_u hz bb; replace hr := blk_u hr bb; replace hb := hb.below bb; replace rest := rest.below bb; replace bel := bel.trans (bb.mono bel.size); have hd := hh; clear hh ge bb) | ((with_reducible show wpList _ _ _ (⟨none, Op.store _ (.tmp 5) _, _, _, _, _⟩ :: _) _ _); refine wpList_store_blk rfl 105 (.tmp 5) (.tmp 26) rfl g5 rfl _ rfl _ 105 hd (by rfl) (by kernel_rfl) (by kernel_rfl) ?_; intro w10 hq gr; replace hb := hb.away av_hb_d gr; replace rest := rest.away av_rest_d gr; replace hp := blk_a hp gr d_p_d; replace hz := blk_a hz gr d_z_d; replace hr := blk_a hr gr d_r_d; replace bel := below_grown bel gr od bel.size; clear hd; have hd := hq; clear hq gr))
  with_reducible refine (rd_u8c _ _ _ _ _ _ _ _ hr rest).mono ?_
  rintro e w11 ⟨A10, n10, c10, rfl, hq, sq, uq, b11⟩
  replace hb := hb.away av_hb_r b11
  replace hp := blk_a hp b11 d_p_r
  replace hz := blk_a hz b11 d_z_r
  replace hd := blk_a hd b11 (ne_symm d_r_d)
  replace bel := below_grown bel b11 or bel.size
  clear b11
  clear hr rest
  have hr := hq
  have rest := sq
  clear hq sq
  have av10_rest_p := av7_rest_p.sub uq
  have av10_rest_z := av7_rest_z.sub uq
  have av10_rest_r := av7_rest_r.sub uq
  have av10_rest_d := av_rest_d.sub uq
  clear uq
  rw [HV.out]
  go_wp2_with fail
  with_reducible refine (rd_u8c _ _ _ _ _ _ _ _ hr rest).mono ?_
  rintro e w12 ⟨A11, n11, c11, rfl, hq, sq, uq, b12⟩
  replace hb := hb.away av_hb_r b12
  replace hp := blk_a hp b12 d_p_r
  replace hz := blk_a hz b12 d_z_r
  replace hd := blk_a hd b12 (ne_symm d_r_d)
  replace bel := below_grown bel b12 or bel.size
  clear b12
  clear hr rest
  have hr := hq
  have rest := sq
  clear hq sq
  have av11_rest_p := av10_rest_p.sub uq
  have av11_rest_z := av10_rest_z.sub uq
  have av11_rest_r := av10_rest_r.sub uq
  have av11_rest_d := av10_rest_d.sub uq
  clear uq
  go_wp2_with (first | ((with_reducible show wpList _ _ _ (⟨none, Op.store _ (.tmp 34) _, _, _, _, _⟩ :: _) _ _); refine wpList_store_part rfl 3 (.tmp 34) (.tmp 33) rfl g5 4 rfl [.int .i64 fg] rfl [.int .i64 (be [h0, h1] : Nat), .int .i64 (be [h2, h3] : Nat), .int .u32 (be [h4, h5, h6, h7] : Nat), .int .u32 (be [h8, h9, h10, h11] : Nat), .int .i64 0, .int .i64 0, .int .i64 0, .slice none 0 0, .slice none 0 0] 105 hd (by simp) [.int .i64 (be [h0, h1] : Nat), .int .i64 (be [h2, h3] : Nat), .int .u32 (be [h4, h5, h6, h7] : Nat), .int .u32 (be [h8, h9, h10, h11] : Nat), .int .i64 fg, .int .i64 0, .int .i64 0, .slice none 0 0, .slice none 0 0] rfl (by kernel_rfl) (by rfl) ?_; intro w13 hq gr; replace hb := hb.away av_hb_d gr; replace rest := rest.away av11_rest_d gr; replace hp := blk_a hp gr d_p_d; replace hz := blk_a hz gr d_z_d; replace hr := blk_a hr gr d_r_d; replace bel := below_grown bel gr od bel.size; clear hd; have hd := hq; clear hq gr))
  with_reducible refine (rd_u16c _ _ _ _ _ _ _ _ _ hr rest).mono ?_
  rintro e w14 ⟨A13, n13, c13, rfl, hq, sq, uq, b14⟩
  replace hb := hb.away av_hb_r b14
  replace hp := blk_a hp b14 d_p_r
  replace hz := blk_a hz b14 d_z_r
  replace hd := blk_a hd b14 (ne_symm d_r_d)
  replace bel := below_grown bel b14 or bel.size
  clear b14
  clear hr rest
  have hr := hq
  have rest := sq
  clear hq sq
  have av13_rest_p := av11_rest_p.sub uq
  have av13_rest_z := av11_rest_z.sub uq
  have av13_rest_r := av11_rest_r.sub uq
  have av13_rest_d := av11_rest_d.sub uq
  clear uq
  go_wp2_with (first | ((with_reducible show wpList _ _ _ (⟨none, Op.store _ (.tmp 37) _, _, _, _, _⟩ :: _) _ _); refine wpList_store_part rfl 3 (.tmp 37) (.tmp 36) rfl g5 5 rfl [.int .i64 (be [h14, h15] : Nat)] rfl [.int .i64 (be [h0, h1] : Nat), .int .i64 (be [h2, h3] : Nat), .int .u32 (be [h4, h5, h6, h7] : Nat), .int .u32 (be [h8, h9, h10, h11] : Nat), .int .i64 fg, .int .i64 0, .int .i64 0, .slice none 0 0, .slice none 0 0] 105 hd (by simp) [.int .i64 (be [h0, h1] : Nat), .int .i64 (be [h2, h3] : Nat), .int .u32 (be [h4, h5, h6, h7] : Nat), .int .u32 (be [h8, h9, h10, h11] : Nat), .int .i64 fg, .int .i64 (be [h14, h15] : Nat), .int .i64 0, .slice none 0 0, .slice none 0 0] rfl (by kernel_rfl) (by rfl) ?_; intro w15 hq gr; replace hb := hb.away av_hb_d gr; replace rest := rest.away av13_rest_d gr; replace hp := blk_a hp gr d_p_d; replace hz := blk_a hz gr d_z_d; replace hr := blk_a hr gr d_r_d; replace bel := below_grown bel gr od bel.size; clear hd; have hd := hq; clear hq gr))
  with_reducible refine (rd_u16c _ _ _ _ _ _ _ _ _ hr rest).mono ?_
  rintro e w16 ⟨A15, n15, c15, rfl, hq, sq, uq, b16⟩
  replace hb := hb.away av_hb_r b16
  replace hp := blk_a hp b16 d_p_r
  replace hz := blk_a hz b16 d_z_r
  replace hd := blk_a hd b16 (ne_symm d_r_d)
  replace bel := below_grown bel b16 or bel.size
  clear b16
  clear hr rest
  have hr := hq
  have rest := sq
  clear hq sq
  have av15_rest_p := av13_rest_p.sub uq
  have av15_rest_z := av13_rest_z.sub uq
  have av15_rest_r := av13_rest_r.sub uq
  have av15_rest_d := av13_rest_d.sub uq
  clear uq
  go_wp2_with fail
  with_reducible refine (rd_u16c _ _ _ _ _ _ _ _ _ hr rest).mono ?_
  rintro e w17 ⟨A16, n16, c16, rfl, hq, sq, uq, b17⟩
  replace hb := hb.away av_hb_r b17
  replace hp := blk_a hp b17 d_p_r
  replace hz := blk_a hz b17 d_z_r
  replace hd := blk_a hd b17 (ne_symm d_r_d)
  replace bel := below_grown bel b17 or bel.size
  clear b17
  clear hr rest
  have hr := hq
  have rest := sq
  clear hq sq
  have av16_rest_p := av15_rest_p.sub uq
  have av16_rest_z := av15_rest_z.sub uq
  have av16_rest_r := av15_rest_r.sub uq
  have av16_rest_d := av15_rest_d.sub uq
  clear uq
  go_wp2_with (first | ((with_reducible show wpList _ _ _ (⟨none, Op.store _ (.tmp 42) _, _, _, _, _⟩ :: _) _ _); refine wpList_store_part rfl 3 (.tmp 42) (.tmp 41) rfl g5 6 rfl [.int .i64 (be [h18, h19] : Nat)] rfl [.int .i64 (be [h0, h1] : Nat), .int .i64 (be [h2, h3] : Nat), .int .u32 (be [h4, h5, h6, h7] : Nat), .int .u32 (be [h8, h9, h10, h11] : Nat), .int .i64 fg, .int .i64 (be [h14, h15] : Nat), .int .i64 0, .slice none 0 0, .slice none 0 0] 105 hd (by simp) [.int .i64 (be [h0, h1] : Nat), .int .i64 (be [h2, h3] : Nat), .int .u32 (be [h4, h5, h6, h7] : Nat), .int .u32 (be [h8, h9, h10, h11] : Nat), .int .i64 fg, .int .i64 (be [h14, h15] : Nat), .int .i64 (be [h18, h19] : Nat), .slice none 0 0, .slice none 0 0] rfl (by kernel_rfl) (by rfl) ?_; intro w18 hq gr; replace hb := hb.away av_hb_d gr; replace rest := rest.away av16_rest_d gr; replace hp := blk_a hp gr d_p_d; replace hz := blk_a hz gr d_z_d; replace hr := blk_a hr gr d_r_d; replace bel := below_grown bel gr od bel.size; clear hd; have hd := hq; clear hq gr))
  with_reducible refine (rd_short _ _ _ _ _ _ _ hr rest).mono ?_
  rintro e _ ⟨rfl, rfl⟩
  go_wp2_with fail
  with_reducible refine (rd_bytes_no k _ _ _ _ _ _ _ hr rest HX.out).mono ?_
  rintro e w19 ⟨Aop, cop, A18, n18, c18, rfl, hq, sq, uq, b19⟩
  replace hb := hb.away av_hb_r b19
  replace hp := blk_a hp b19 d_p_r
  replace hz := blk_a hz b19 d_z_r
  replace hd := blk_a hd b19 (ne_symm d_r_d)
  replace bel := below_grown bel b19 or bel.size
  clear b19
  clear hr rest
  have hr := hq
  have rest := sq
  clear hq sq
  have av18_rest_p := av16_rest_p.sub uq
  have av18_rest_z := av16_rest_z.sub uq
  have av18_rest_r := av16_rest_r.sub uq
  have av18_rest_d := av16_rest_d.sub uq
  clear uq
  go_wp2_with (first | ((with_reducible show wpList _ _ _ (⟨none, Op.store _ (.tmp 53) _, _, _, _, _⟩ :: _) _ _); refine wpList_store_part rfl 36 (.tmp 53) (.tmp 52) rfl g5 7 rfl [.slice Aop 0 cop] rfl [.int .i64 (be [h0, h1] : Nat), .int .i64 (be [h2, h3] : Nat), .int .u32 (be [h4, h5, h6, h7] : Nat), .int .u32 (be [h8, h9, h10, h11] : Nat), .int .i64 fg, .int .i64 (be [h14, h15] : Nat), .int .i64 (be [h18, h19] : Nat), .slice none 0 0, .slice none 0 0] 105 hd (by simp) [.int .i64 (be [h0, h1] : Nat), .int .i64 (be [h2, h3] : Nat), .int .u32 (be [h4, h5, h6, h7] : Nat), .int .u32 (be [h8, h9, h10, h11] : Nat), .int .i64 fg, .int .i64 (be [h14, h15] : Nat), .int .i64 (be [h18, h19] : Nat), .slice Aop 0 cop, .slice none 0 0] rfl (by kernel_rfl) (by rfl) ?_; intro w20 hq gr; replace hb := hb.away av_hb_d gr; replace rest := rest.away av18_rest_d gr; replace hp := blk_a hp gr d_p_d; replace hz := blk_a hz gr d_z_d; replace hr := blk_a hr gr d_r_d; replace bel := below_grown bel gr od bel.size; clear hd; have hd := hq; clear hq gr))
  with_reducible refine (rd_short _ _ _ _ _ _ _ hr rest).mono ?_
  rintro e _ ⟨rfl, rfl⟩
  go_wp2_with (first | ((with_reducible show wpList _ _ _ (⟨none, Op.store _ (.tmp 2) _, _, _, _, _⟩ :: _) _ _); refine wpList_store_blk rfl 105 (.tmp 2) (.tmp 56) rfl g2 rfl _ rfl _ 105 hz (by rfl) (by kernel_rfl) (by kernel_rfl) ?_; intro w21 hq gr; replace hb := hb.away av_hb_z gr; replace rest := rest.away av18_rest_z gr; replace hp := blk_a hp gr d_p_z; replace hr := blk_a hr gr (ne_symm d_z_r); replace hd := blk_a hd gr (ne_symm d_z_d); replace bel := below_grown bel gr oz bel.size; clear hz; have hz := hq; clear hq gr))
  exact bodyPost_ret (results_cell_tmp_row rfl _ _ _ _ _ _ _ rfl hz Tryz.underlying105 rfl (by kernel_rfl) (.int .i64 3) rfl) rfl (SgPost.none HP.out.symm bel)
set_option linter.unusedVariables false in
set_option maxRecDepth 100000 in
set_option maxHeartbeats 16000000 in
theorem tcget_6 (tos id fl pt ttl : Int) (a0 a1 a2 a3 a4 a5 a6 a7 : UInt8) (So Sb : Option Addr) (no co nb cb : Nat) (h0 h1 h2 h3 h4 h5 h6 h7 h8 h9 h10 h11 h12 h13 h14 h15 h16 h17 h18 h19 : UInt8) (r : List UInt8) (v hd : Nat) (fg : Int) (w : World) (hb : Sl w Sb nb cb (h0 :: h1 :: h2 :: h3 :: h4 :: h5 :: h6 :: h7 :: h8 :: h9 :: h10 :: h11 :: h12 :: h13 :: h14 :: h15 :: h16 :: h17 :: h18 :: h19 :: r)) (hm : nb ≤ 100000) (hvv : h12.toNat = v) (hhd : h12.toNat / 16 * 4 = hd) (hfg : bits .and .i64 (h13.toNat : Int) 63 = fg) (hfg2 : ((h13.toNat % 64 : Nat) : Int) = fg) (hw : (decide (pt = 0) && decide (fl % 2 = 0)) = true) (hx : hd ≤ nb) (hy : 20 ≤ hd) (hc : ck (l4Ps a0 a1 a2 a3 a4 a5 a6 a7 6 (nb : Int) ++ (h0 :: h1 :: h2 :: h3 :: h4 :: h5 :: h6 :: h7 :: h8 :: h9 :: h10 :: h11 :: h12 :: h13 :: h14 :: h15 :: h16 :: h17 :: h18 :: h19 :: r)) ≠ 0) : Calls Tryz.prog 68 #[.agg #[.int .i64 tos, .int .i64 id, .int .i64 fl, .int .i64 pt, .int .i64 ttl, .int .i64 6, .int .u8 (a0.toNat : Int), .int .u8 (a1.toNat : Int), .int .u8 (a2.toNat : Int), .int .u8 (a3.toNat : Int), .int .u8 (a4.toNat : Int), .int .u8 (a5.toNat : Int), .int .u8 (a6.toNat : Int), .int .u8 (a7.toNat : Int), .slice So no co, .slice Sb nb cb]] w (SgPost (tcGet fl pt 6 a0 a1 a2 a3 a4 a5 a6 a7 (h0 :: h1 :: h2 :: h3 :: h4 :: h5 :: h6 :: h7 :: h8 :: h9 :: h10 :: h11 :: h12 :: h13 :: h14 :: h15 :: h16 :: h17 :: h18 :: h19 :: r)) w) := by
  have HP : Hid (tcGet fl pt 6 a0 a1 a2 a3 a4 a5 a6 a7 (h0 :: h1 :: h2 :: h3 :: h4 :: h5 :: h6 :: h7 :: h8 :: h9 :: h10 :: h11 :: h12 :: h13 :: h14 :: h15 :: h16 :: h17 :: h18 :: h19 :: r) = sgNone 5) := Lib.hid (tc_err (by rw [tc_at hhd hw, hb.1, if_neg (by omega), if_neg (by omega), if_pos hc]) (by decide))
  have HV := Lib.hid hvv
  have HM := Lib.hid hm
  have HW := Lib.hid hw
  have HL := Lib.hid hb.1
  have v0 : (0 : Int) ≤ v := by omega
  have v1 : (v : Int) < 256 := by have := h12.toNat_lt; omega
  have ehd : (v : Int) / 16 * 4 = (hd : Int) := by omega
  have ehw : IntKind.i64.wrap (hd : Int) = (hd : Int) := IntWalk.i64_in _ (by omega)
  obtain ⟨k, hk⟩ : ∃ k, hd = k + 20 := ⟨hd - 20, by omega⟩
  have hk20 : IntKind.i64.wrap ((hd : Int) - 20) = (k : Int) := by rw [show (hd : Int) - 20 = (k : Int) by omega]; exact IntWalk.i64_in _ (by have := h12.toNat_lt; omega)
  have t1 : decide ((hd : Int) < 20) = false := decide_eq_false (by omega)
  have hkr : k ≤ r.length := by have := hb.1; simp only [List.length_cons] at this; omega
  have HKR := Lib.hid hkr
  have HC : Hid (decide (ck (l4Ps a0 a1 a2 a3 a4 a5 a6 a7 6 (nb : Int) ++ (h0 :: h1 :: h2 :: h3 :: h4 :: h5 :: h6 :: h7 :: h8 :: h9 :: h10 :: h11 :: h12 :: h13 :: h14 :: h15 :: h16 :: h17 :: h18 :: h19 :: r)) = 0) = false) := Lib.hid (decide_eq_false hc)
  clear hx hy hk hkr hc
  clear hvv hhd hfg2 hm hw
  have bel := Below.refl w.heap.size w
  go_enter Tryz.func68, Tryz.ntmps68
  go_wp2_with (first | ((with_reducible show wpList _ _ _ (⟨some 1, _, _, _, _, _⟩ :: _) _ _); refine wpList_box_n rfl 38 (.tmp 0) rfl #[.int .i64 tos, .int .i64 id, .int .i64 fl, .int .i64 pt, .int .i64 ttl, .int .i64 6, .int .u8 (a0.toNat : Int), .int .u8 (a1.toNat : Int), .int .u8 (a2.toNat : Int), .int .u8 (a3.toNat : Int), .int .u8 (a4.toNat : Int), .int .u8 (a5.toNat : Int), .int .u8 (a6.toNat : Int), .int .u8 (a7.toNat : Int), .slice So no co, .slice Sb nb cb] rfl ?_; intro g1 w1 ge lt hh bb; have av_hb_p := hb.av_new ge; have op := Nat.le_trans bel.size ge; replace hb := hb.below bb; replace bel := bel.trans (bb.mono bel.size); have hp := hh; clear hh lt ge bb) | ((with_reducible show wpList _ _ _ (⟨some 2, _, _, _, _, _⟩ :: _) _ _); refine wpList_new_a rfl 105 rfl #[.int .i64 0, .int .i64 0, .int .u32 0, .int .u32 0, .int .i64 0, .int .i64 0, .int .i64 0, .slice none 0 0, .slice none 0 0] (by kernel_rfl) ?_; intro g2 w2 ge hh bb; have d_p_z := ne_new (hlt hp) ge; have av_hb_z := hb.av_new ge; have oz := Nat.le_trans bel.size ge; replace hp := blk_u hp bb; replace hb := hb.below bb; replace bel := bel.trans (bb.mono bel.size); have hz := hh; clear hh ge bb; have R8 := cell_lit hp 5 _ rfl; have R11 := Lib.hid (range_lit hp 0 16 [.int .i64 tos, .int .i64 id, .int .i64 fl, .int .i64 pt, .int .i64 ttl, .int .i64 6, .int .u8 (a0.toNat : Int), .int .u8 (a1.toNat : Int), .int .u8 (a2.toNat : Int), .int .u8 (a3.toNat : Int), .int .u8 (a4.toNat : Int), .int .u8 (a5.toNat : Int), .int .u8 (a6.toNat : Int), .int .u8 (a7.toNat : Int), .slice So no co, .slice Sb nb cb] rfl)) | ((with_reducible show wpList _ _ _ (⟨some 11, _, _, _, _, _⟩ :: _) _ _); refine wpList_load_rng 38 (.tmp 1) rfl (by kernel_rfl) _ _ rfl _ R11.out _ Tryz.underlying38 rfl (by kernel_rfl) ?_))
  try clear R8
  try clear R11
  with_reducible refine (ipwhole_any _ _ _ _ _ _ _ _ _ _ _ _ _ _ _ _ _ _ _ _ _).mono ?_
  rintro e w3 ⟨rfl, b3⟩
  replace hp := blk_u hp b3
  replace hz := blk_u hz b3
  replace hb := hb.below b3
  replace bel := bel.trans (b3.mono bel.size)
  clear b3
  rw [HW.out]
  have R16 := cell_lit hp 15 _ rfl
  go_wp2_with fail
  clear R16
  with_reducible refine (rd_read _ _ _ _ _ hb (by have := HM.out; omega)).mono ?_
  rintro e w4 ⟨gr, Ar3, cr3, rfl, ge, hh, rest, frr, avr, b4⟩
  have av_rest_p := frr.av (hlt hp)
  have av_rest_z := frr.av (hlt hz)
  have d_p_r := ne_new (hlt hp) ge
  have d_z_r := ne_new (hlt hz) ge
  have av_hb_r := hb.av_new ge
  have or := Nat.le_trans bel.size ge
  replace hp := blk_u hp b4
  replace hz := blk_u hz b4
  replace hb := hb.below b4
  replace bel := bel.trans (b4.mono bel.size)
  have hr := hh
  clear hh ge b4
  replace rest : Sl w4 (Ar3) (nb) (cr3) (h0 :: h1 :: h2 :: h3 :: h4 :: h5 :: h6 :: h7 :: h8 :: h9 :: h10 :: h11 :: h12 :: h13 :: h14 :: h15 :: h16 :: h17 :: h18 :: h19 :: r) := rest
  go_wp2_with fail
  with_reducible refine (rd_u16c _ _ _ _ _ _ _ _ _ hr rest).mono ?_
  rintro e w5 ⟨A4, n4, c4, rfl, hq, sq, uq, b5⟩
  replace hb := hb.away av_hb_r b5
  replace hp := blk_a hp b5 d_p_r
  replace hz := blk_a hz b5 d_z_r
  replace bel := below_grown bel b5 or bel.size
  clear b5
  clear hr rest
  have hr := hq
  have rest := sq
  clear hq sq
  have av4_rest_p := av_rest_p.sub uq
  have av4_rest_z := av_rest_z.sub uq
  have av4_rest_r := avr.sub uq
  clear uq
  go_wp2_with fail
  with_reducible refine (rd_u16c _ _ _ _ _ _ _ _ _ hr rest).mono ?_
  rintro e w6 ⟨A5, n5, c5, rfl, hq, sq, uq, b6⟩
  replace hb := hb.away av_hb_r b6
  replace hp := blk_a hp b6 d_p_r
  replace hz := blk_a hz b6 d_z_r
  replace bel := below_grown bel b6 or bel.size
  clear b6
  clear hr rest
  have hr := hq
  have rest := sq
  clear hq sq
  have av5_rest_p := av4_rest_p.sub uq
  have av5_rest_z := av4_rest_z.sub uq
  have av5_rest_r := av4_rest_r.sub uq
  clear uq
  go_wp2_with fail
  with_reducible refine (rd_u32c _ _ _ _ _ _ _ _ _ _ _ hr rest).mono ?_
  rintro e w7 ⟨A6, n6, c6, rfl, hq, sq, uq, b7⟩
  replace hb := hb.away av_hb_r b7
  replace hp := blk_a hp b7 d_p_r
  replace hz := blk_a hz b7 d_z_r
  replace bel := below_grown bel b7 or bel.size
  clear b7
  clear hr rest
  have hr := hq
  have rest := sq
  clear hq sq
  have av6_rest_p := av5_rest_p.sub uq
  have av6_rest_z := av5_rest_z.sub uq
  have av6_rest_r := av5_rest_r.sub uq
  clear uq
  go_wp2_with fail
  with_reducible refine (rd_u32c _ _ _ _ _ _ _ _ _ _ _ hr rest).mono ?_
  rintro e w8 ⟨A7, n7, c7, rfl, hq, sq, uq, b8⟩
  replace hb := hb.away av_hb_r b8
  replace hp := blk_a hp b8 d_p_r
  replace hz := blk_a hz b8 d_z_r
  replace bel := below_grown bel b8 or bel.size
  clear b8
  clear hr rest
  have hr := hq
  have rest := sq
  clear hq sq
  have av7_rest_p := av6_rest_p.sub uq
  have av7_rest_z := av6_rest_z.sub uq
  have av7_rest_r := av6_rest_r.sub uq
  clear uq
  go_wp2_with (first | ((with_reducible show wpList _ _ _ (⟨some 5, _, _, _, _, _⟩ :: _) _ _); refine wpList_new_a rfl 105 rfl #[.int .i64 0, .int .i64 0, .int .u32 0, .int .u32 0, .int .i64 0, .int .i64 0, .int .i64 0, .slice none 0 0, .slice none 0 0] (by kernel_rfl) ?_; intro g5 w9 ge hh bb; have d_p_d := ne_new (hlt hp) ge; have d_z_d := ne_new (hlt hz) ge; have d_r_d := ne_new (hlt hr) ge; have av_hb_d := hb.av_new ge; have av_rest_d := rest.av_new ge; have od := Nat.le_trans bel.size ge; replace hp := blk_u hp bb; replace hz := blk_u hz bb; replace hr := blk_u hr bb; replace hb := hb.below bb; replace rest := rest.below bb; replace bel := bel.trans (bb.mono bel.size); have hd := hh; clear hh ge bb) | ((with_reducible show wpList _ _ _ (⟨none, Op.store _ (.tmp 5) _, _, _, _, _⟩ :: _) _ _); refine wpList_store_blk rfl 105 (.tmp 5) (.tmp 26) rfl g5 rfl _ rfl _ 105 hd (by rfl) (by kernel_rfl) (by kernel_rfl) ?_; intro w10 hq gr; replace hb := hb.away av_hb_d gr; replace rest := rest.away av_rest_d gr; replace hp := blk_a hp gr d_p_d; replace hz := blk_a hz gr d_z_d; replace hr := blk_a hr gr d_r_d; replace bel := below_grown bel gr od bel.size; clear hd; have hd := hq; clear hq gr))
  with_reducible refine (rd_u8c _ _ _ _ _ _ _ _ hr rest).mono ?_
  rintro e w11 ⟨A10, n10, c10, rfl, hq, sq, uq, b11⟩
  replace hb := hb.away av_hb_r b11
  replace hp := blk_a hp b11 d_p_r
  replace hz := blk_a hz b11 d_z_r
  replace hd := blk_a hd b11 (ne_symm d_r_d)
  replace bel := below_grown bel b11 or bel.size
  clear b11
  clear hr rest
  have hr := hq
  have rest := sq
  clear hq sq
  have av10_rest_p := av7_rest_p.sub uq
  have av10_rest_z := av7_rest_z.sub uq
  have av10_rest_r := av7_rest_r.sub uq
  have av10_rest_d := av_rest_d.sub uq
  clear uq
  rw [HV.out]
  go_wp2_with fail
  with_reducible refine (rd_u8c _ _ _ _ _ _ _ _ hr rest).mono ?_
  rintro e w12 ⟨A11, n11, c11, rfl, hq, sq, uq, b12⟩
  replace hb := hb.away av_hb_r b12
  replace hp := blk_a hp b12 d_p_r
  replace hz := blk_a hz b12 d_z_r
  replace hd := blk_a hd b12 (ne_symm d_r_d)
  replace bel := below_grown bel b12 or bel.size
  clear b12
  clear hr rest
  have hr := hq
  have rest := sq
  clear hq sq
  have av11_rest_p := av10_rest_p.sub uq
  have av11_rest_z := av10_rest_z.sub uq
  have av11_rest_r := av10_rest_r.sub uq
  have av11_rest_d := av10_rest_d.sub uq
  clear uq
  go_wp2_with (first | ((with_reducible show wpList _ _ _ (⟨none, Op.store _ (.tmp 34) _, _, _, _, _⟩ :: _) _ _); refine wpList_store_part rfl 3 (.tmp 34) (.tmp 33) rfl g5 4 rfl [.int .i64 fg] rfl [.int .i64 (be [h0, h1] : Nat), .int .i64 (be [h2, h3] : Nat), .int .u32 (be [h4, h5, h6, h7] : Nat), .int .u32 (be [h8, h9, h10, h11] : Nat), .int .i64 0, .int .i64 0, .int .i64 0, .slice none 0 0, .slice none 0 0] 105 hd (by simp) [.int .i64 (be [h0, h1] : Nat), .int .i64 (be [h2, h3] : Nat), .int .u32 (be [h4, h5, h6, h7] : Nat), .int .u32 (be [h8, h9, h10, h11] : Nat), .int .i64 fg, .int .i64 0, .int .i64 0, .slice none 0 0, .slice none 0 0] rfl (by kernel_rfl) (by rfl) ?_; intro w13 hq gr; replace hb := hb.away av_hb_d gr; replace rest := rest.away av11_rest_d gr; replace hp := blk_a hp gr d_p_d; replace hz := blk_a hz gr d_z_d; replace hr := blk_a hr gr d_r_d; replace bel := below_grown bel gr od bel.size; clear hd; have hd := hq; clear hq gr))
  with_reducible refine (rd_u16c _ _ _ _ _ _ _ _ _ hr rest).mono ?_
  rintro e w14 ⟨A13, n13, c13, rfl, hq, sq, uq, b14⟩
  replace hb := hb.away av_hb_r b14
  replace hp := blk_a hp b14 d_p_r
  replace hz := blk_a hz b14 d_z_r
  replace hd := blk_a hd b14 (ne_symm d_r_d)
  replace bel := below_grown bel b14 or bel.size
  clear b14
  clear hr rest
  have hr := hq
  have rest := sq
  clear hq sq
  have av13_rest_p := av11_rest_p.sub uq
  have av13_rest_z := av11_rest_z.sub uq
  have av13_rest_r := av11_rest_r.sub uq
  have av13_rest_d := av11_rest_d.sub uq
  clear uq
  go_wp2_with (first | ((with_reducible show wpList _ _ _ (⟨none, Op.store _ (.tmp 37) _, _, _, _, _⟩ :: _) _ _); refine wpList_store_part rfl 3 (.tmp 37) (.tmp 36) rfl g5 5 rfl [.int .i64 (be [h14, h15] : Nat)] rfl [.int .i64 (be [h0, h1] : Nat), .int .i64 (be [h2, h3] : Nat), .int .u32 (be [h4, h5, h6, h7] : Nat), .int .u32 (be [h8, h9, h10, h11] : Nat), .int .i64 fg, .int .i64 0, .int .i64 0, .slice none 0 0, .slice none 0 0] 105 hd (by simp) [.int .i64 (be [h0, h1] : Nat), .int .i64 (be [h2, h3] : Nat), .int .u32 (be [h4, h5, h6, h7] : Nat), .int .u32 (be [h8, h9, h10, h11] : Nat), .int .i64 fg, .int .i64 (be [h14, h15] : Nat), .int .i64 0, .slice none 0 0, .slice none 0 0] rfl (by kernel_rfl) (by rfl) ?_; intro w15 hq gr; replace hb := hb.away av_hb_d gr; replace rest := rest.away av13_rest_d gr; replace hp := blk_a hp gr d_p_d; replace hz := blk_a hz gr d_z_d; replace hr := blk_a hr gr d_r_d; replace bel := below_grown bel gr od bel.size; clear hd; have hd := hq; clear hq gr))
  with_reducible refine (rd_u16c _ _ _ _ _ _ _ _ _ hr rest).mono ?_
  rintro e w16 ⟨A15, n15, c15, rfl, hq, sq, uq, b16⟩
  replace hb := hb.away av_hb_r b16
  replace hp := blk_a hp b16 d_p_r
  replace hz := blk_a hz b16 d_z_r
  replace hd := blk_a hd b16 (ne_symm d_r_d)
  replace bel := below_grown bel b16 or bel.size
  clear b16
  clear hr rest
  have hr := hq
  have rest := sq
  clear hq sq
  have av15_rest_p := av13_rest_p.sub uq
  have av15_rest_z := av13_rest_z.sub uq
  have av15_rest_r := av13_rest_r.sub uq
  have av15_rest_d := av13_rest_d.sub uq
  clear uq
  go_wp2_with fail
  with_reducible refine (rd_u16c _ _ _ _ _ _ _ _ _ hr rest).mono ?_
  rintro e w17 ⟨A16, n16, c16, rfl, hq, sq, uq, b17⟩
  replace hb := hb.away av_hb_r b17
  replace hp := blk_a hp b17 d_p_r
  replace hz := blk_a hz b17 d_z_r
  replace hd := blk_a hd b17 (ne_symm d_r_d)
  replace bel := below_grown bel b17 or bel.size
  clear b17
  clear hr rest
  have hr := hq
  have rest := sq
  clear hq sq
  have av16_rest_p := av15_rest_p.sub uq
  have av16_rest_z := av15_rest_z.sub uq
  have av16_rest_r := av15_rest_r.sub uq
  have av16_rest_d := av15_rest_d.sub uq
  clear uq
  go_wp2_with (first | ((with_reducible show wpList _ _ _ (⟨none, Op.store _ (.tmp 42) _, _, _, _, _⟩ :: _) _ _); refine wpList_store_part rfl 3 (.tmp 42) (.tmp 41) rfl g5 6 rfl [.int .i64 (be [h18, h19] : Nat)] rfl [.int .i64 (be [h0, h1] : Nat), .int .i64 (be [h2, h3] : Nat), .int .u32 (be [h4, h5, h6, h7] : Nat), .int .u32 (be [h8, h9, h10, h11] : Nat), .int .i64 fg, .int .i64 (be [h14, h15] : Nat), .int .i64 0, .slice none 0 0, .slice none 0 0] 105 hd (by simp) [.int .i64 (be [h0, h1] : Nat), .int .i64 (be [h2, h3] : Nat), .int .u32 (be [h4, h5, h6, h7] : Nat), .int .u32 (be [h8, h9, h10, h11] : Nat), .int .i64 fg, .int .i64 (be [h14, h15] : Nat), .int .i64 (be [h18, h19] : Nat), .slice none 0 0, .slice none 0 0] rfl (by kernel_rfl) (by rfl) ?_; intro w18 hq gr; replace hb := hb.away av_hb_d gr; replace rest := rest.away av16_rest_d gr; replace hp := blk_a hp gr d_p_d; replace hz := blk_a hz gr d_z_d; replace hr := blk_a hr gr d_r_d; replace bel := below_grown bel gr od bel.size; clear hd; have hd := hq; clear hq gr))
  with_reducible refine (rd_short _ _ _ _ _ _ _ hr rest).mono ?_
  rintro e _ ⟨rfl, rfl⟩
  go_wp2_with fail
  have ob1 := bel.size
  with_reducible refine (rd_bytes (k) _ _ _ _ _ _ _ hr rest (HKR.out) (by have := HL.out; simp only [List.length_cons] at this; have := HKR.out; have := HM.out; omega)).mono ?_
  rintro e w19 ⟨Aop, cop, A18, n18, c18, rfl, hq, sq, uq, op, frop, b19⟩
  have av_op_p := frop.av (hlt hp)
  have av_op_z := frop.av (hlt hz)
  have av_op_r := frop.av (hlt hr)
  have av_op_d := frop.av (hlt hd)
  replace hb := hb.away av_hb_r b19
  replace hp := blk_a hp b19 d_p_r
  replace hz := blk_a hz b19 d_z_r
  replace hd := blk_a hd b19 (ne_symm d_r_d)
  replace bel := below_grown bel b19 or bel.size
  clear b19
  clear hr rest
  have hr := hq
  have rest := sq
  clear hq sq
  have av18_rest_p := av16_rest_p.sub uq
  have av18_rest_z := av16_rest_z.sub uq
  have av18_rest_r := av16_rest_r.sub uq
  have av18_rest_d := av16_rest_d.sub uq
  clear uq
  have fr_op := frop.mono ob1
  go_wp2_with (first | ((with_reducible show wpList _ _ _ (⟨none, Op.store _ (.tmp 53) _, _, _, _, _⟩ :: _) _ _); refine wpList_store_part rfl 36 (.tmp 53) (.tmp 52) rfl g5 7 rfl [.slice Aop k cop] rfl [.int .i64 (be [h0, h1] : Nat), .int .i64 (be [h2, h3] : Nat), .int .u32 (be [h4, h5, h6, h7] : Nat), .int .u32 (be [h8, h9, h10, h11] : Nat), .int .i64 fg, .int .i64 (be [h14, h15] : Nat), .int .i64 (be [h18, h19] : Nat), .slice none 0 0, .slice none 0 0] 105 hd (by simp) [.int .i64 (be [h0, h1] : Nat), .int .i64 (be [h2, h3] : Nat), .int .u32 (be [h4, h5, h6, h7] : Nat), .int .u32 (be [h8, h9, h10, h11] : Nat), .int .i64 fg, .int .i64 (be [h14, h15] : Nat), .int .i64 (be [h18, h19] : Nat), .slice Aop k cop, .slice none 0 0] rfl (by kernel_rfl) (by rfl) ?_; intro w20 hq gr; replace hb := hb.away av_hb_d gr; replace rest := rest.away av18_rest_d gr; replace op := op.away av_op_d gr; replace hp := blk_a hp gr d_p_d; replace hz := blk_a hz gr d_z_d; replace hr := blk_a hr gr d_r_d; replace bel := below_grown bel gr od bel.size; clear hd; have hd := hq; clear hq gr))
  with_reducible refine (rd_short _ _ _ _ _ _ _ hr rest).mono ?_
  rintro e _ ⟨rfl, rfl⟩
  have R57 := Lib.hid (range_lit hp 0 16 [.int .i64 tos, .int .i64 id, .int .i64 fl, .int .i64 pt, .int .i64 ttl, .int .i64 6, .int .u8 (a0.toNat : Int), .int .u8 (a1.toNat : Int), .int .u8 (a2.toNat : Int), .int .u8 (a3.toNat : Int), .int .u8 (a4.toNat : Int), .int .u8 (a5.toNat : Int), .int .u8 (a6.toNat : Int), .int .u8 (a7.toNat : Int), .slice So no co, .slice Sb nb cb] rfl)
  go_wp2_with (first | ((with_reducible show wpList _ _ _ (⟨some 57, _, _, _, _, _⟩ :: _) _ _); refine wpList_load_rng 38 (.tmp 1) rfl (by kernel_rfl) _ _ rfl _ R57.out _ Tryz.underlying38 rfl (by kernel_rfl) ?_))
  try clear R57
  with_reducible refine (tcfits_any _ _ _ _ _ 6 _ _ _ _ _ _ _ _ _ _ _ _ _ _ _ _ hb HM.out).mono ?_
  rintro e w21 ⟨rfl, b21⟩
  replace hp := blk_u hp b21
  replace hz := blk_u hz b21
  replace hr := blk_u hr b21
  replace hd := blk_u hd b21
  replace hb := hb.below b21
  replace rest := rest.below b21
  replace op := op.below b21
  replace bel := bel.trans (b21.mono bel.size)
  clear b21
  rw [HC.out]
  go_wp2_with (first | ((with_reducible show wpList _ _ _ (⟨none, Op.store _ (.tmp 2) _, _, _, _, _⟩ :: _) _ _); refine wpList_store_blk rfl 105 (.tmp 2) (.tmp 60) rfl g2 rfl _ rfl _ 105 hz (by rfl) (by kernel_rfl) (by kernel_rfl) ?_; intro w22 hq gr; replace hb := hb.away av_hb_z gr; replace rest := rest.away av18_rest_z gr; replace op := op.away av_op_z gr; replace hp := blk_a hp gr d_p_z; replace hr := blk_a hr gr (ne_symm d_z_r); replace hd := blk_a hd gr (ne_symm d_z_d); replace bel := below_grown bel gr oz bel.size; clear hz; have hz := hq; clear hq gr))
  exact bodyPost_ret (results_cell_tmp_row rfl _ _ _ _ _ _ _ rfl hz Tryz.underlying105 rfl (by kernel_rfl) (.int .i64 5) rfl) rfl (SgPost.none HP.out.symm bel)
set_option linter.unusedVariables false in
set_option maxRecDepth 100000 in
set_option maxHeartbeats 16000000 in
theorem tcget_7 (tos id fl pt ttl : Int) (a0 a1 a2 a3 a4 a5 a6 a7 : UInt8) (So Sb : Option Addr) (no co nb cb : Nat) (h0 h1 h2 h3 h4 h5 h6 h7 h8 h9 h10 h11 h12 h13 h14 h15 h16 h17 h18 h19 : UInt8) (r : List UInt8) (v hd : Nat) (fg : Int) (w : World) (hb : Sl w Sb nb cb (h0 :: h1 :: h2 :: h3 :: h4 :: h5 :: h6 :: h7 :: h8 :: h9 :: h10 :: h11 :: h12 :: h13 :: h14 :: h15 :: h16 :: h17 :: h18 :: h19 :: r)) (hm : nb ≤ 100000) (hvv : h12.toNat = v) (hhd : h12.toNat / 16 * 4 = hd) (hfg : bits .and .i64 (h13.toNat : Int) 63 = fg) (hfg2 : ((h13.toNat % 64 : Nat) : Int) = fg) (hw : (decide (pt = 0) && decide (fl % 2 = 0)) = true) (hx : hd ≤ nb) (hy : 20 ≤ hd) (hc : ck (l4Ps a0 a1 a2 a3 a4 a5 a6 a7 6 (nb : Int) ++ (h0 :: h1 :: h2 :: h3 :: h4 :: h5 :: h6 :: h7 :: h8 :: h9 :: h10 :: h11 :: h12 :: h13 :: h14 :: h15 :: h16 :: h17 :: h18 :: h19 :: r)) = 0) : Calls Tryz.prog 68 #[.agg #[.int .i64 tos, .int .i64 id, .int .i64 fl, .int .i64 pt, .int .i64 ttl, .int .i64 6, .int .u8 (a0.toNat : Int), .int .u8 (a1.toNat : Int), .int .u8 (a2.toNat : Int), .int .u8 (a3.toNat : Int), .int .u8 (a4.toNat : Int), .int .u8 (a5.toNat : Int), .int .u8 (a6.toNat : Int), .int .u8 (a7.toNat : Int), .slice So no co, .slice Sb nb cb]] w (SgPost (tcGet fl pt 6 a0 a1 a2 a3 a4 a5 a6 a7 (h0 :: h1 :: h2 :: h3 :: h4 :: h5 :: h6 :: h7 :: h8 :: h9 :: h10 :: h11 :: h12 :: h13 :: h14 :: h15 :: h16 :: h17 :: h18 :: h19 :: r)) w) := by
  obtain ⟨k, hk⟩ : ∃ k, hd = k + 20 := ⟨hd - 20, by omega⟩
  have hk20 : IntKind.i64.wrap ((hd : Int) - 20) = (k : Int) := by rw [show (hd : Int) - 20 = (k : Int) by omega]; exact IntWalk.i64_in _ (by have := h12.toNat_lt; omega)
  have t1 : decide ((hd : Int) < 20) = false := decide_eq_false (by omega)
  have HP : Hid (tcGet fl pt 6 a0 a1 a2 a3 a4 a5 a6 a7 (h0 :: h1 :: h2 :: h3 :: h4 :: h5 :: h6 :: h7 :: h8 :: h9 :: h10 :: h11 :: h12 :: h13 :: h14 :: h15 :: h16 :: h17 :: h18 :: h19 :: r) = ([((be [h0, h1] : Nat) : Int), ((be [h2, h3] : Nat) : Int), ((be [h4, h5, h6, h7] : Nat) : Int), ((be [h8, h9, h10, h11] : Nat) : Int), fg, ((be [h14, h15] : Nat) : Int), ((be [h18, h19] : Nat) : Int)], (r.take k, r.drop k), 0)) := Lib.hid (by rw [tc_ok (by rw [tc_at hhd hw, hb.1, if_neg (by omega), if_neg (by omega), if_neg (fun h => h hc)]) hhd hk, hfg2])
  have HV := Lib.hid hvv
  have HM := Lib.hid hm
  have HW := Lib.hid hw
  have HL := Lib.hid hb.1
  have v0 : (0 : Int) ≤ v := by omega
  have v1 : (v : Int) < 256 := by have := h12.toNat_lt; omega
  have ehd : (v : Int) / 16 * 4 = (hd : Int) := by omega
  have ehw : IntKind.i64.wrap (hd : Int) = (hd : Int) := IntWalk.i64_in _ (by omega)
  have hkr : k ≤ r.length := by have := hb.1; simp only [List.length_cons] at this; omega
  have HKR := Lib.hid hkr
  have HKL : Hid ((r.take k).length = k) := Lib.hid (by rw [List.length_take]; omega)
  obtain ⟨m, hm2⟩ : ∃ m, (r.drop k).length = m := ⟨_, rfl⟩
  have HM2 := Lib.hid hm2
  have hm3 : m ≤ 100000 := by have := hb.1; simp only [List.length_cons] at this; rw [List.length_drop] at hm2; omega
  have HM3 := Lib.hid hm3
  clear hm2 hm3
  have HC : Hid (decide (ck (l4Ps a0 a1 a2 a3 a4 a5 a6 a7 6 (nb : Int) ++ (h0 :: h1 :: h2 :: h3 :: h4 :: h5 :: h6 :: h7 :: h8 :: h9 :: h10 :: h11 :: h12 :: h13 :: h14 :: h15 :: h16 :: h17 :: h18 :: h19 :: r)) = 0) = true) := Lib.hid (decide_eq_true hc)
  clear hx hy hk hkr hc
  clear hvv hhd hfg2 hm hw
  have bel := Below.refl w.heap.size w
  go_enter Tryz.func68, Tryz.ntmps68
  go_wp2_with (first | ((with_reducible show wpList _ _ _ (⟨some 1, _, _, _, _, _⟩ :: _) _ _); refine wpList_box_n rfl 38 (.tmp 0) rfl #[.int .i64 tos, .int .i64 id, .int .i64 fl, .int .i64 pt, .int .i64 ttl, .int .i64 6, .int .u8 (a0.toNat : Int), .int .u8 (a1.toNat : Int), .int .u8 (a2.toNat : Int), .int .u8 (a3.toNat : Int), .int .u8 (a4.toNat : Int), .int .u8 (a5.toNat : Int), .int .u8 (a6.toNat : Int), .int .u8 (a7.toNat : Int), .slice So no co, .slice Sb nb cb] rfl ?_; intro g1 w1 ge lt hh bb; have av_hb_p := hb.av_new ge; have op := Nat.le_trans bel.size ge; replace hb := hb.below bb; replace bel := bel.trans (bb.mono bel.size); have hp := hh; clear hh lt ge bb) | ((with_reducible show wpList _ _ _ (⟨some 2, _, _, _, _, _⟩ :: _) _ _); refine wpList_new_a rfl 105 rfl #[.int .i64 0, .int .i64 0, .int .u32 0, .int .u32 0, .int .i64 0, .int .i64 0, .int .i64 0, .slice none 0 0, .slice none 0 0] (by kernel_rfl) ?_; intro g2 w2 ge hh bb; have d_p_z := ne_new (hlt hp) ge; have av_hb_z := hb.av_new ge; have oz := Nat.le_trans bel.size ge; replace hp := blk_u hp bb; replace hb := hb.below bb; replace bel := bel.trans (bb.mono bel.size); have hz := hh; clear hh ge bb; have R8 := cell_lit hp 5 _ rfl; have R11 := Lib.hid (range_lit hp 0 16 [.int .i64 tos, .int .i64 id, .int .i64 fl, .int .i64 pt, .int .i64 ttl, .int .i64 6, .int .u8 (a0.toNat : Int), .int .u8 (a1.toNat : Int), .int .u8 (a2.toNat : Int), .int .u8 (a3.toNat : Int), .int .u8 (a4.toNat : Int), .int .u8 (a5.toNat : Int), .int .u8 (a6.toNat : Int), .int .u8 (a7.toNat : Int), .slice So no co, .slice Sb nb cb] rfl)) | ((with_reducible show wpList _ _ _ (⟨some 11, _, _, _, _, _⟩ :: _) _ _); refine wpList_load_rng 38 (.tmp 1) rfl (by kernel_rfl) _ _ rfl _ R11.out _ Tryz.underlying38 rfl (by kernel_rfl) ?_))
  try clear R8
  try clear R11
  with_reducible refine (ipwhole_any _ _ _ _ _ _ _ _ _ _ _ _ _ _ _ _ _ _ _ _ _).mono ?_
  rintro e w3 ⟨rfl, b3⟩
  replace hp := blk_u hp b3
  replace hz := blk_u hz b3
  replace hb := hb.below b3
  replace bel := bel.trans (b3.mono bel.size)
  clear b3
  rw [HW.out]
  have R16 := cell_lit hp 15 _ rfl
  go_wp2_with fail
  clear R16
  with_reducible refine (rd_read _ _ _ _ _ hb (by have := HM.out; omega)).mono ?_
  rintro e w4 ⟨gr, Ar3, cr3, rfl, ge, hh, rest, frr, avr, b4⟩
  have av_rest_p := frr.av (hlt hp)
  have av_rest_z := frr.av (hlt hz)
  have d_p_r := ne_new (hlt hp) ge
  have d_z_r := ne_new (hlt hz) ge
  have av_hb_r := hb.av_new ge
  have or := Nat.le_trans bel.size ge
  replace hp := blk_u hp b4
  replace hz := blk_u hz b4
  replace hb := hb.below b4
  replace bel := bel.trans (b4.mono bel.size)
  have hr := hh
  clear hh ge b4
  replace rest : Sl w4 (Ar3) (nb) (cr3) (h0 :: h1 :: h2 :: h3 :: h4 :: h5 :: h6 :: h7 :: h8 :: h9 :: h10 :: h11 :: h12 :: h13 :: h14 :: h15 :: h16 :: h17 :: h18 :: h19 :: r) := rest
  go_wp2_with fail
  with_reducible refine (rd_u16c _ _ _ _ _ _ _ _ _ hr rest).mono ?_
  rintro e w5 ⟨A4, n4, c4, rfl, hq, sq, uq, b5⟩
  replace hb := hb.away av_hb_r b5
  replace hp := blk_a hp b5 d_p_r
  replace hz := blk_a hz b5 d_z_r
  replace bel := below_grown bel b5 or bel.size
  clear b5
  clear hr rest
  have hr := hq
  have rest := sq
  clear hq sq
  have av4_rest_p := av_rest_p.sub uq
  have av4_rest_z := av_rest_z.sub uq
  have av4_rest_r := avr.sub uq
  clear uq
  go_wp2_with fail
  with_reducible refine (rd_u16c _ _ _ _ _ _ _ _ _ hr rest).mono ?_
  rintro e w6 ⟨A5, n5, c5, rfl, hq, sq, uq, b6⟩
  replace hb := hb.away av_hb_r b6
  replace hp := blk_a hp b6 d_p_r
  replace hz := blk_a hz b6 d_z_r
  replace bel := below_grown bel b6 or bel.size
  clear b6
  clear hr rest
  have hr := hq
  have rest := sq
  clear hq sq
  have av5_rest_p := av4_rest_p.sub uq
  have av5_rest_z := av4_rest_z.sub uq
  have av5_rest_r := av4_rest_r.sub uq
  clear uq
  go_wp2_with fail
  with_reducible refine (rd_u32c _ _ _ _ _ _ _ _ _ _ _ hr rest).mono ?_
  rintro e w7 ⟨A6, n6, c6, rfl, hq, sq, uq, b7⟩
  replace hb := hb.away av_hb_r b7
  replace hp := blk_a hp b7 d_p_r
  replace hz := blk_a hz b7 d_z_r
  replace bel := below_grown bel b7 or bel.size
  clear b7
  clear hr rest
  have hr := hq
  have rest := sq
  clear hq sq
  have av6_rest_p := av5_rest_p.sub uq
  have av6_rest_z := av5_rest_z.sub uq
  have av6_rest_r := av5_rest_r.sub uq
  clear uq
  go_wp2_with fail
  with_reducible refine (rd_u32c _ _ _ _ _ _ _ _ _ _ _ hr rest).mono ?_
  rintro e w8 ⟨A7, n7, c7, rfl, hq, sq, uq, b8⟩
  replace hb := hb.away av_hb_r b8
  replace hp := blk_a hp b8 d_p_r
  replace hz := blk_a hz b8 d_z_r
  replace bel := below_grown bel b8 or bel.size
  clear b8
  clear hr rest
  have hr := hq
  have rest := sq
  clear hq sq
  have av7_rest_p := av6_rest_p.sub uq
  have av7_rest_z := av6_rest_z.sub uq
  have av7_rest_r := av6_rest_r.sub uq
  clear uq
  go_wp2_with (first | ((with_reducible show wpList _ _ _ (⟨some 5, _, _, _, _, _⟩ :: _) _ _); refine wpList_new_a rfl 105 rfl #[.int .i64 0, .int .i64 0, .int .u32 0, .int .u32 0, .int .i64 0, .int .i64 0, .int .i64 0, .slice none 0 0, .slice none 0 0] (by kernel_rfl) ?_; intro g5 w9 ge hh bb; have d_p_d := ne_new (hlt hp) ge; have d_z_d := ne_new (hlt hz) ge; have d_r_d := ne_new (hlt hr) ge; have av_hb_d := hb.av_new ge; have av_rest_d := rest.av_new ge; have od := Nat.le_trans bel.size ge; replace hp := blk_u hp bb; replace hz := blk_u hz bb; replace hr := blk_u hr bb; replace hb := hb.below bb; replace rest := rest.below bb; replace bel := bel.trans (bb.mono bel.size); have hd := hh; clear hh ge bb) | ((with_reducible show wpList _ _ _ (⟨none, Op.store _ (.tmp 5) _, _, _, _, _⟩ :: _) _ _); refine wpList_store_blk rfl 105 (.tmp 5) (.tmp 26) rfl g5 rfl _ rfl _ 105 hd (by rfl) (by kernel_rfl) (by kernel_rfl) ?_; intro w10 hq gr; replace hb := hb.away av_hb_d gr; replace rest := rest.away av_rest_d gr; replace hp := blk_a hp gr d_p_d; replace hz := blk_a hz gr d_z_d; replace hr := blk_a hr gr d_r_d; replace bel := below_grown bel gr od bel.size; clear hd; have hd := hq; clear hq gr))
  with_reducible refine (rd_u8c _ _ _ _ _ _ _ _ hr rest).mono ?_
  rintro e w11 ⟨A10, n10, c10, rfl, hq, sq, uq, b11⟩
  replace hb := hb.away av_hb_r b11
  replace hp := blk_a hp b11 d_p_r
  replace hz := blk_a hz b11 d_z_r
  replace hd := blk_a hd b11 (ne_symm d_r_d)
  replace bel := below_grown bel b11 or bel.size
  clear b11
  clear hr rest
  have hr := hq
  have rest := sq
  clear hq sq
  have av10_rest_p := av7_rest_p.sub uq
  have av10_rest_z := av7_rest_z.sub uq
  have av10_rest_r := av7_rest_r.sub uq
  have av10_rest_d := av_rest_d.sub uq
  clear uq
  rw [HV.out]
  go_wp2_with fail
  with_reducible refine (rd_u8c _ _ _ _ _ _ _ _ hr rest).mono ?_
  rintro e w12 ⟨A11, n11, c11, rfl, hq, sq, uq, b12⟩
  replace hb := hb.away av_hb_r b12
  replace hp := blk_a hp b12 d_p_r
  replace hz := blk_a hz b12 d_z_r
  replace hd := blk_a hd b12 (ne_symm d_r_d)
  replace bel := below_grown bel b12 or bel.size
  clear b12
  clear hr rest
  have hr := hq
  have rest := sq
  clear hq sq
  have av11_rest_p := av10_rest_p.sub uq
  have av11_rest_z := av10_rest_z.sub uq
  have av11_rest_r := av10_rest_r.sub uq
  have av11_rest_d := av10_rest_d.sub uq
  clear uq
  go_wp2_with (first | ((with_reducible show wpList _ _ _ (⟨none, Op.store _ (.tmp 34) _, _, _, _, _⟩ :: _) _ _); refine wpList_store_part rfl 3 (.tmp 34) (.tmp 33) rfl g5 4 rfl [.int .i64 fg] rfl [.int .i64 (be [h0, h1] : Nat), .int .i64 (be [h2, h3] : Nat), .int .u32 (be [h4, h5, h6, h7] : Nat), .int .u32 (be [h8, h9, h10, h11] : Nat), .int .i64 0, .int .i64 0, .int .i64 0, .slice none 0 0, .slice none 0 0] 105 hd (by simp) [.int .i64 (be [h0, h1] : Nat), .int .i64 (be [h2, h3] : Nat), .int .u32 (be [h4, h5, h6, h7] : Nat), .int .u32 (be [h8, h9, h10, h11] : Nat), .int .i64 fg, .int .i64 0, .int .i64 0, .slice none 0 0, .slice none 0 0] rfl (by kernel_rfl) (by rfl) ?_; intro w13 hq gr; replace hb := hb.away av_hb_d gr; replace rest := rest.away av11_rest_d gr; replace hp := blk_a hp gr d_p_d; replace hz := blk_a hz gr d_z_d; replace hr := blk_a hr gr d_r_d; replace bel := below_grown bel gr od bel.size; clear hd; have hd := hq; clear hq gr))
  with_reducible refine (rd_u16c _ _ _ _ _ _ _ _ _ hr rest).mono ?_
  rintro e w14 ⟨A13, n13, c13, rfl, hq, sq, uq, b14⟩
  replace hb := hb.away av_hb_r b14
  replace hp := blk_a hp b14 d_p_r
  replace hz := blk_a hz b14 d_z_r
  replace hd := blk_a hd b14 (ne_symm d_r_d)
  replace bel := below_grown bel b14 or bel.size
  clear b14
  clear hr rest
  have hr := hq
  have rest := sq
  clear hq sq
  have av13_rest_p := av11_rest_p.sub uq
  have av13_rest_z := av11_rest_z.sub uq
  have av13_rest_r := av11_rest_r.sub uq
  have av13_rest_d := av11_rest_d.sub uq
  clear uq
  go_wp2_with (first | ((with_reducible show wpList _ _ _ (⟨none, Op.store _ (.tmp 37) _, _, _, _, _⟩ :: _) _ _); refine wpList_store_part rfl 3 (.tmp 37) (.tmp 36) rfl g5 5 rfl [.int .i64 (be [h14, h15] : Nat)] rfl [.int .i64 (be [h0, h1] : Nat), .int .i64 (be [h2, h3] : Nat), .int .u32 (be [h4, h5, h6, h7] : Nat), .int .u32 (be [h8, h9, h10, h11] : Nat), .int .i64 fg, .int .i64 0, .int .i64 0, .slice none 0 0, .slice none 0 0] 105 hd (by simp) [.int .i64 (be [h0, h1] : Nat), .int .i64 (be [h2, h3] : Nat), .int .u32 (be [h4, h5, h6, h7] : Nat), .int .u32 (be [h8, h9, h10, h11] : Nat), .int .i64 fg, .int .i64 (be [h14, h15] : Nat), .int .i64 0, .slice none 0 0, .slice none 0 0] rfl (by kernel_rfl) (by rfl) ?_; intro w15 hq gr; replace hb := hb.away av_hb_d gr; replace rest := rest.away av13_rest_d gr; replace hp := blk_a hp gr d_p_d; replace hz := blk_a hz gr d_z_d; replace hr := blk_a hr gr d_r_d; replace bel := below_grown bel gr od bel.size; clear hd; have hd := hq; clear hq gr))
  with_reducible refine (rd_u16c _ _ _ _ _ _ _ _ _ hr rest).mono ?_
  rintro e w16 ⟨A15, n15, c15, rfl, hq, sq, uq, b16⟩
  replace hb := hb.away av_hb_r b16
  replace hp := blk_a hp b16 d_p_r
  replace hz := blk_a hz b16 d_z_r
  replace hd := blk_a hd b16 (ne_symm d_r_d)
  replace bel := below_grown bel b16 or bel.size
  clear b16
  clear hr rest
  have hr := hq
  have rest := sq
  clear hq sq
  have av15_rest_p := av13_rest_p.sub uq
  have av15_rest_z := av13_rest_z.sub uq
  have av15_rest_r := av13_rest_r.sub uq
  have av15_rest_d := av13_rest_d.sub uq
  clear uq
  go_wp2_with fail
  with_reducible refine (rd_u16c _ _ _ _ _ _ _ _ _ hr rest).mono ?_
  rintro e w17 ⟨A16, n16, c16, rfl, hq, sq, uq, b17⟩
  replace hb := hb.away av_hb_r b17
  replace hp := blk_a hp b17 d_p_r
  replace hz := blk_a hz b17 d_z_r
  replace hd := blk_a hd b17 (ne_symm d_r_d)
  replace bel := below_grown bel b17 or bel.size
  clear b17
  clear hr rest
  have hr := hq
  have rest := sq
  clear hq sq
  have av16_rest_p := av15_rest_p.sub uq
  have av16_rest_z := av15_rest_z.sub uq
  have av16_rest_r := av15_rest_r.sub uq
  have av16_rest_d := av15_rest_d.sub uq
  clear uq
  go_wp2_with (first | ((with_reducible show wpList _ _ _ (⟨none, Op.store _ (.tmp 42) _, _, _, _, _⟩ :: _) _ _); refine wpList_store_part rfl 3 (.tmp 42) (.tmp 41) rfl g5 6 rfl [.int .i64 (be [h18, h19] : Nat)] rfl [.int .i64 (be [h0, h1] : Nat), .int .i64 (be [h2, h3] : Nat), .int .u32 (be [h4, h5, h6, h7] : Nat), .int .u32 (be [h8, h9, h10, h11] : Nat), .int .i64 fg, .int .i64 (be [h14, h15] : Nat), .int .i64 0, .slice none 0 0, .slice none 0 0] 105 hd (by simp) [.int .i64 (be [h0, h1] : Nat), .int .i64 (be [h2, h3] : Nat), .int .u32 (be [h4, h5, h6, h7] : Nat), .int .u32 (be [h8, h9, h10, h11] : Nat), .int .i64 fg, .int .i64 (be [h14, h15] : Nat), .int .i64 (be [h18, h19] : Nat), .slice none 0 0, .slice none 0 0] rfl (by kernel_rfl) (by rfl) ?_; intro w18 hq gr; replace hb := hb.away av_hb_d gr; replace rest := rest.away av16_rest_d gr; replace hp := blk_a hp gr d_p_d; replace hz := blk_a hz gr d_z_d; replace hr := blk_a hr gr d_r_d; replace bel := below_grown bel gr od bel.size; clear hd; have hd := hq; clear hq gr))
  with_reducible refine (rd_short _ _ _ _ _ _ _ hr rest).mono ?_
  rintro e _ ⟨rfl, rfl⟩
  go_wp2_with fail
  have ob1 := bel.size
  with_reducible refine (rd_bytes (k) _ _ _ _ _ _ _ hr rest (HKR.out) (by have := HL.out; simp only [List.length_cons] at this; have := HKR.out; have := HM.out; omega)).mono ?_
  rintro e w19 ⟨Aop, cop, A18, n18, c18, rfl, hq, sq, uq, op, frop, b19⟩
  have av_op_p := frop.av (hlt hp)
  have av_op_z := frop.av (hlt hz)
  have av_op_r := frop.av (hlt hr)
  have av_op_d := frop.av (hlt hd)
  replace hb := hb.away av_hb_r b19
  replace hp := blk_a hp b19 d_p_r
  replace hz := blk_a hz b19 d_z_r
  replace hd := blk_a hd b19 (ne_symm d_r_d)
  replace bel := below_grown bel b19 or bel.size
  clear b19
  clear hr rest
  have hr := hq
  have rest := sq
  clear hq sq
  have av18_rest_p := av16_rest_p.sub uq
  have av18_rest_z := av16_rest_z.sub uq
  have av18_rest_r := av16_rest_r.sub uq
  have av18_rest_d := av16_rest_d.sub uq
  clear uq
  have fr_op := frop.mono ob1
  go_wp2_with (first | ((with_reducible show wpList _ _ _ (⟨none, Op.store _ (.tmp 53) _, _, _, _, _⟩ :: _) _ _); refine wpList_store_part rfl 36 (.tmp 53) (.tmp 52) rfl g5 7 rfl [.slice Aop k cop] rfl [.int .i64 (be [h0, h1] : Nat), .int .i64 (be [h2, h3] : Nat), .int .u32 (be [h4, h5, h6, h7] : Nat), .int .u32 (be [h8, h9, h10, h11] : Nat), .int .i64 fg, .int .i64 (be [h14, h15] : Nat), .int .i64 (be [h18, h19] : Nat), .slice none 0 0, .slice none 0 0] 105 hd (by simp) [.int .i64 (be [h0, h1] : Nat), .int .i64 (be [h2, h3] : Nat), .int .u32 (be [h4, h5, h6, h7] : Nat), .int .u32 (be [h8, h9, h10, h11] : Nat), .int .i64 fg, .int .i64 (be [h14, h15] : Nat), .int .i64 (be [h18, h19] : Nat), .slice Aop k cop, .slice none 0 0] rfl (by kernel_rfl) (by rfl) ?_; intro w20 hq gr; replace hb := hb.away av_hb_d gr; replace rest := rest.away av18_rest_d gr; replace op := op.away av_op_d gr; replace hp := blk_a hp gr d_p_d; replace hz := blk_a hz gr d_z_d; replace hr := blk_a hr gr d_r_d; replace bel := below_grown bel gr od bel.size; clear hd; have hd := hq; clear hq gr))
  with_reducible refine (rd_short _ _ _ _ _ _ _ hr rest).mono ?_
  rintro e _ ⟨rfl, rfl⟩
  have R57 := Lib.hid (range_lit hp 0 16 [.int .i64 tos, .int .i64 id, .int .i64 fl, .int .i64 pt, .int .i64 ttl, .int .i64 6, .int .u8 (a0.toNat : Int), .int .u8 (a1.toNat : Int), .int .u8 (a2.toNat : Int), .int .u8 (a3.toNat : Int), .int .u8 (a4.toNat : Int), .int .u8 (a5.toNat : Int), .int .u8 (a6.toNat : Int), .int .u8 (a7.toNat : Int), .slice So no co, .slice Sb nb cb] rfl)
  go_wp2_with (first | ((with_reducible show wpList _ _ _ (⟨some 57, _, _, _, _, _⟩ :: _) _ _); refine wpList_load_rng 38 (.tmp 1) rfl (by kernel_rfl) _ _ rfl _ R57.out _ Tryz.underlying38 rfl (by kernel_rfl) ?_))
  try clear R57
  with_reducible refine (tcfits_any _ _ _ _ _ 6 _ _ _ _ _ _ _ _ _ _ _ _ _ _ _ _ hb HM.out).mono ?_
  rintro e w21 ⟨rfl, b21⟩
  replace hp := blk_u hp b21
  replace hz := blk_u hz b21
  replace hr := blk_u hr b21
  replace hd := blk_u hd b21
  replace hb := hb.below b21
  replace rest := rest.below b21
  replace op := op.below b21
  replace bel := bel.trans (b21.mono bel.size)
  clear b21
  rw [HC.out]
  go_wp2_with fail
  with_reducible refine (rd_left _ _ _ _ _ _ _ hr rest).mono ?_
  rintro e _ ⟨rfl, rfl⟩
  rw [HM2.out]
  go_wp2_with fail
  have ob2 := bel.size
  with_reducible refine (rd_bytes (m) _ _ _ _ _ _ _ hr rest (by rw [HM2.out]; exact Nat.le_refl _) (by have := HM3.out; omega)).mono ?_
  rintro e w22 ⟨Abd, cbd, A21, n21, c21, rfl, hq, sq, uq, bd, frbd, b22⟩
  have av_bd_p := frbd.av (hlt hp)
  have av_bd_z := frbd.av (hlt hz)
  have av_bd_r := frbd.av (hlt hr)
  have av_bd_d := frbd.av (hlt hd)
  replace hb := hb.away av_hb_r b22
  replace op := op.away av_op_r b22
  replace hp := blk_a hp b22 d_p_r
  replace hz := blk_a hz b22 d_z_r
  replace hd := blk_a hd b22 (ne_symm d_r_d)
  replace bel := below_grown bel b22 or bel.size
  clear b22
  clear hr rest
  have hr := hq
  have rest := sq
  clear hq sq
  have av21_rest_p := av18_rest_p.sub uq
  have av21_rest_z := av18_rest_z.sub uq
  have av21_rest_r := av18_rest_r.sub uq
  have av21_rest_d := av18_rest_d.sub uq
  clear uq
  have fr_bd := frbd.mono ob2
  go_wp2_with (first | ((with_reducible show wpList _ _ _ (⟨none, Op.store _ (.tmp 65) _, _, _, _, _⟩ :: _) _ _); refine wpList_store_part rfl 36 (.tmp 65) (.tmp 64) rfl g5 8 rfl [.slice Abd m cbd] rfl [.int .i64 (be [h0, h1] : Nat), .int .i64 (be [h2, h3] : Nat), .int .u32 (be [h4, h5, h6, h7] : Nat), .int .u32 (be [h8, h9, h10, h11] : Nat), .int .i64 fg, .int .i64 (be [h14, h15] : Nat), .int .i64 (be [h18, h19] : Nat), .slice Aop k cop, .slice none 0 0] 105 hd (by simp) [.int .i64 (be [h0, h1] : Nat), .int .i64 (be [h2, h3] : Nat), .int .u32 (be [h4, h5, h6, h7] : Nat), .int .u32 (be [h8, h9, h10, h11] : Nat), .int .i64 fg, .int .i64 (be [h14, h15] : Nat), .int .i64 (be [h18, h19] : Nat), .slice Aop k cop, .slice Abd m cbd] rfl (by kernel_rfl) (by rfl) ?_; intro w23 hq gr; replace hb := hb.away av_hb_d gr; replace rest := rest.away av21_rest_d gr; replace op := op.away av_op_d gr; replace bd := bd.away av_bd_d gr; replace hp := blk_a hp gr d_p_d; replace hz := blk_a hz gr d_z_d; replace hr := blk_a hr gr d_r_d; replace bel := below_grown bel gr od bel.size; clear hd; have hd := hq; clear hq gr; have R66 := Lib.hid (range_lit hd 0 9 [.int .i64 (be [h0, h1] : Nat), .int .i64 (be [h2, h3] : Nat), .int .u32 (be [h4, h5, h6, h7] : Nat), .int .u32 (be [h8, h9, h10, h11] : Nat), .int .i64 fg, .int .i64 (be [h14, h15] : Nat), .int .i64 (be [h18, h19] : Nat), .slice Aop k cop, .slice Abd m cbd] rfl)) | ((with_reducible show wpList _ _ _ (⟨some 66, _, _, _, _, _⟩ :: _) _ _); refine wpList_load_rng 105 (.tmp 5) rfl (by kernel_rfl) _ _ rfl _ R66.out _ Tryz.underlying105 rfl (by kernel_rfl) ?_) | ((with_reducible show wpList _ _ _ (⟨none, Op.store _ (.tmp 2) _, _, _, _, _⟩ :: _) _ _); refine wpList_store_blk rfl 105 (.tmp 2) (.tmp 66) rfl g2 rfl _ rfl _ 105 hz (by rfl) (by kernel_rfl) (by kernel_rfl) ?_; intro w24 hq gr; replace hb := hb.away av_hb_z gr; replace rest := rest.away av21_rest_z gr; replace op := op.away av_op_z gr; replace bd := bd.away av_bd_z gr; replace hp := blk_a hp gr d_p_z; replace hr := blk_a hr gr (ne_symm d_z_r); replace hd := blk_a hd gr (ne_symm d_z_d); replace bel := below_grown bel gr oz bel.size; clear hz; have hz := hq; clear hq gr))
  try clear R66
  exact bodyPost_ret (results_cell_tmp_row rfl _ _ _ _ _ _ _ rfl hz Tryz.underlying105 rfl (by kernel_rfl) (.int .i64 0) rfl) rfl ⟨_, _, _, _, fg, _, _, r.take k, r.drop k, Aop, Abd, cop, cbd, 0, by rw [HKL.out, HM2.out], by rw [HKL.out]; exact op, by rw [List.take_of_length_le (Nat.le_of_eq HM2.out)] at bd; rw [HM2.out]; exact bd, by rw [HKL.out]; exact fr_op, by rw [HM2.out]; exact fr_bd, bel, HP.out.symm⟩
theorem tcget_any (tos id fl pt ttl pr : Int) (a0 a1 a2 a3 a4 a5 a6 a7 : UInt8) (So Sb : Option Addr) (no co nb cb : Nat) (lb : List UInt8) (w : World) (hb : Sl w Sb nb cb lb) (hm : nb ≤ 100000) : Calls Tryz.prog 68 #[.agg #[.int .i64 tos, .int .i64 id, .int .i64 fl, .int .i64 pt, .int .i64 ttl, .int .i64 pr, .int .u8 (a0.toNat : Int), .int .u8 (a1.toNat : Int), .int .u8 (a2.toNat : Int), .int .u8 (a3.toNat : Int), .int .u8 (a4.toNat : Int), .int .u8 (a5.toNat : Int), .int .u8 (a6.toNat : Int), .int .u8 (a7.toNat : Int), .slice So no co, .slice Sb nb cb]] w (SgPost (tcGet fl pt pr a0 a1 a2 a3 a4 a5 a6 a7 lb) w) := by
  by_cases hp : pr = 6
  · subst hp
    rcases (by decide : ∀ b : Bool, b = true ∨ b = false) (decide (pt = 0) && decide (fl % 2 = 0)) with hw | hw
    · by_cases hn : nb < 20
      · exact tcget_3 tos id fl pt ttl a0 a1 a2 a3 a4 a5 a6 a7 So Sb no co nb cb lb w hb hw hn
      · obtain ⟨h0, h1, h2, h3, h4, h5, h6, h7, h8, h9, h10, h11, h12, h13, h14, h15, h16, h17, h18, h19, r, rfl⟩ := list20 lb (by rw [hb.1]; omega)
        have h63 := i64_and63 (h13.toNat : Int)
        have h64 : ((h13.toNat % 64 : Nat) : Int) = (h13.toNat : Int) % 64 := by omega
        by_cases hx : 20 ≤ h12.toNat / 16 * 4
        · by_cases hy : h12.toNat / 16 * 4 ≤ nb
          · by_cases hc : ck (l4Ps a0 a1 a2 a3 a4 a5 a6 a7 6 (nb : Int) ++ (h0 :: h1 :: h2 :: h3 :: h4 :: h5 :: h6 :: h7 :: h8 :: h9 :: h10 :: h11 :: h12 :: h13 :: h14 :: h15 :: h16 :: h17 :: h18 :: h19 :: r)) = 0
            · exact tcget_7 tos id fl pt ttl a0 a1 a2 a3 a4 a5 a6 a7 So Sb no co nb cb h0 h1 h2 h3 h4 h5 h6 h7 h8 h9 h10 h11 h12 h13 h14 h15 h16 h17 h18 h19 r _ _ _ w hb hm rfl rfl h63 h64 hw hy hx hc
            · exact tcget_6 tos id fl pt ttl a0 a1 a2 a3 a4 a5 a6 a7 So Sb no co nb cb h0 h1 h2 h3 h4 h5 h6 h7 h8 h9 h10 h11 h12 h13 h14 h15 h16 h17 h18 h19 r _ _ _ w hb hm rfl rfl h63 h64 hw hy hx hc
          · exact tcget_5 tos id fl pt ttl a0 a1 a2 a3 a4 a5 a6 a7 So Sb no co nb cb h0 h1 h2 h3 h4 h5 h6 h7 h8 h9 h10 h11 h12 h13 h14 h15 h16 h17 h18 h19 r _ _ _ w hb hm rfl rfl h63 h64 hw (by omega) hx
        · exact tcget_4 tos id fl pt ttl a0 a1 a2 a3 a4 a5 a6 a7 So Sb no co nb cb h0 h1 h2 h3 h4 h5 h6 h7 h8 h9 h10 h11 h12 h13 h14 h15 h16 h17 h18 h19 r _ _ _ w hb hm rfl rfl h63 h64 hw (by omega)
    · exact tcget_2 tos id fl pt ttl a0 a1 a2 a3 a4 a5 a6 a7 So Sb no co nb cb lb w hw
  · exact tcget_1 tos id fl pt ttl pr a0 a1 a2 a3 a4 a5 a6 a7 So Sb no co nb cb lb w hp
open Go.RowKit

/-- An echo message's Type; an error message's. -/
def echoT (v : Int) : Bool := decide (v = 8) || decide (v = 0)
def faultT (v : Int) : Bool := decide (v = 3) || (decide (v = 11) || decide (v = 12))
/-- The error of Get. -/
def icErr (fl pt pr : Int) (b : List UInt8) : Int :=
  if pr ≠ 1 then 1 else if ¬ (pt = 0 ∧ fl % 2 = 0) then 10 else if b.length < 8 then 3 else if ck b ≠ 0 then 5 else 0
/-- A message in lists: its numbers, its body; an error. -/
abbrev MsL := List Int × List UInt8 × Int
def msNone (er : Int) : MsL := ([0, 0, 0], [], er)
def icGet (fl pt pr : Int) (b : List UInt8) : MsL :=
  if icErr fl pt pr b ≠ 0 then msNone (icErr fl pt pr b)
  else ([((b.getD 0 0).toNat : Int), ((b.getD 1 0).toNat : Int), (be ((b.drop 4).take 4) : Nat)], b.drop 8, 0)
/-- What Get answers. -/
def MsPost (R : MsL) (w : World) (e : Ending) (w' : World) : Prop :=
  ∃ (f0 f1 f2 : Int) (lb : List UInt8) (A : Option Addr) (c : Nat) (er : Int), e = .returned (.tuple #[.agg #[.int .i64 f0, .int .i64 f1, .int .u32 f2, .slice A lb.length c], .int .i64 er]) ∧ Sl w' A lb.length c lb ∧ Fr w.heap.size A lb.length ∧ Below w.heap.size w w' ∧ ([f0, f1, f2], lb, er) = R
theorem MsPost.none {er : Int} {R : MsL} {w w' : World} (h : msNone er = R) (b : Below w.heap.size w w') : MsPost R w (.returned (.tuple #[.agg #[.int .i64 0, .int .i64 0, .int .u32 0, .slice Option.none 0 0], .int .i64 er])) w' :=
  ⟨0, 0, 0, [], Option.none, 0, er, rfl, Sl.nil _, fun h => absurd h (by simp), b, h⟩
theorem ic_err {fl pt pr : Int} {b : List UInt8} {er : Int} (e : icErr fl pt pr b = er) (h : er ≠ 0) : icGet fl pt pr b = msNone er := by
  unfold icGet
  rw [if_pos (by rw [e]; exact h), e]
theorem ic_at {fl pt : Int} {b : List UInt8} (hn : 8 ≤ b.length) (hw : (decide (pt = 0) && decide (fl % 2 = 0)) = true) : icErr fl pt 1 b = if ck b ≠ 0 then 5 else 0 := by
  unfold icErr
  rw [if_neg (by decide), if_neg (by simpa using hw), if_neg (by omega)]
theorem ic_ok {fl pt pr : Int} {h0 h1 h2 h3 h4 h5 h6 h7 : UInt8} {r : List UInt8} (e : icErr fl pt pr (h0 :: h1 :: h2 :: h3 :: h4 :: h5 :: h6 :: h7 :: r) = 0) : icGet fl pt pr (h0 :: h1 :: h2 :: h3 :: h4 :: h5 :: h6 :: h7 :: r) = ([(h0.toNat : Int), (h1.toNat : Int), ((be [h4, h5, h6, h7] : Nat) : Int)], r, 0) := by
  unfold icGet
  rw [if_neg (by rw [e]; decide)]
  rfl
theorem icGet_er (fl pt pr : Int) (b : List UInt8) : (icGet fl pt pr b).2.2 = icErr fl pt pr b := by
  unfold icGet
  split
  · rfl
  · rename_i h
    simp only [ne_eq, Decidable.not_not] at h
    exact h.symm
open Go.RowKit

set_option maxRecDepth 100000 in
set_option maxHeartbeats 16000000 in
theorem isecho_any (v : Int) (w : World) : Calls Tryz.prog 90 #[.int .i64 v] w fun e w' => e = .returned (.bool (echoT v)) ∧ w = w' := by
  unfold echoT
  by_cases h0 : v = 8
  · have e0 : (v == 8) = true := by simpa using h0
    rw [decide_eq_true h0, Bool.true_or]
    clear h0
    go_enter Tryz.func90, Tryz.ntmps90
    go_wp2
    go_ret
    exact ⟨rfl, rfl⟩
  · have e0 : (v == 8) = false := by simpa using h0
    rw [decide_eq_false h0, Bool.false_or]
    clear h0
    by_cases h1 : v = 0
    · have e1 : (v == 0) = true := by simpa using h1
      rw [decide_eq_true h1]
      clear h1
      go_enter Tryz.func90, Tryz.ntmps90
      go_wp2
      go_ret
      exact ⟨rfl, rfl⟩
    · have e1 : (v == 0) = false := by simpa using h1
      rw [decide_eq_false h1]
      clear h1
      go_enter Tryz.func90, Tryz.ntmps90
      go_wp2
      go_ret
      exact ⟨rfl, rfl⟩
set_option maxRecDepth 100000 in
set_option maxHeartbeats 16000000 in
theorem icfault_0 (ty cd re : Int) (D : Option Addr) (nd qd : Nat) (h0 : (ty == 3) = true) (w : World) : Calls Tryz.prog 73 #[.agg #[.int .i64 ty, .int .i64 cd, .int .u32 re, .slice D nd qd]] w fun e w' => e = .returned (.bool true) ∧ Below w.heap.size w w' := by
  have bel := Below.refl w.heap.size w
  go_enter Tryz.func73, Tryz.ntmps73
  go_wp2_with (first | ((with_reducible show wpList _ _ _ (⟨some 1, _, _, _, _, _⟩ :: _) _ _); refine wpList_box_n rfl 47 (.tmp 0) rfl #[.int .i64 ty, .int .i64 cd, .int .u32 re, .slice D nd qd] rfl ?_; intro g1 w1 ge lt hh bb; have om := Nat.le_trans bel.size ge; replace bel := bel.trans (bb.mono bel.size); have hm := hh; clear hh lt ge bb; have R4 := cell_lit hm 0 _ rfl))
  try clear R4
  go_ret
  exact ⟨rfl, bel⟩
set_option maxRecDepth 100000 in
set_option maxHeartbeats 16000000 in
theorem icfault_1 (ty cd re : Int) (D : Option Addr) (nd qd : Nat) (h0 : (ty == 3) = false) (h1 : (ty == 11) = true) (w : World) : Calls Tryz.prog 73 #[.agg #[.int .i64 ty, .int .i64 cd, .int .u32 re, .slice D nd qd]] w fun e w' => e = .returned (.bool true) ∧ Below w.heap.size w w' := by
  have bel := Below.refl w.heap.size w
  go_enter Tryz.func73, Tryz.ntmps73
  go_wp2_with (first | ((with_reducible show wpList _ _ _ (⟨some 1, _, _, _, _, _⟩ :: _) _ _); refine wpList_box_n rfl 47 (.tmp 0) rfl #[.int .i64 ty, .int .i64 cd, .int .u32 re, .slice D nd qd] rfl ?_; intro g1 w1 ge lt hh bb; have om := Nat.le_trans bel.size ge; replace bel := bel.trans (bb.mono bel.size); have hm := hh; clear hh lt ge bb; have R4 := cell_lit hm 0 _ rfl; have R8 := cell_lit hm 0 _ rfl))
  try clear R4
  try clear R8
  go_ret
  exact ⟨rfl, bel⟩
set_option maxRecDepth 100000 in
set_option maxHeartbeats 16000000 in
theorem icfault_2 (ty cd re : Int) (D : Option Addr) (nd qd : Nat) (h0 : (ty == 3) = false) (h1 : (ty == 11) = false) (h2 : (ty == 12) = true) (w : World) : Calls Tryz.prog 73 #[.agg #[.int .i64 ty, .int .i64 cd, .int .u32 re, .slice D nd qd]] w fun e w' => e = .returned (.bool true) ∧ Below w.heap.size w w' := by
  have bel := Below.refl w.heap.size w
  go_enter Tryz.func73, Tryz.ntmps73
  go_wp2_with (first | ((with_reducible show wpList _ _ _ (⟨some 1, _, _, _, _, _⟩ :: _) _ _); refine wpList_box_n rfl 47 (.tmp 0) rfl #[.int .i64 ty, .int .i64 cd, .int .u32 re, .slice D nd qd] rfl ?_; intro g1 w1 ge lt hh bb; have om := Nat.le_trans bel.size ge; replace bel := bel.trans (bb.mono bel.size); have hm := hh; clear hh lt ge bb; have R4 := cell_lit hm 0 _ rfl; have R8 := cell_lit hm 0 _ rfl; have R13 := cell_lit hm 0 _ rfl))
  try clear R4
  try clear R8
  try clear R13
  go_ret
  exact ⟨rfl, bel⟩
set_option maxRecDepth 100000 in
set_option maxHeartbeats 16000000 in
theorem icfault_3 (ty cd re : Int) (D : Option Addr) (nd qd : Nat) (h0 : (ty == 3) = false) (h1 : (ty == 11) = false) (h2 : (ty == 12) = false) (w : World) : Calls Tryz.prog 73 #[.agg #[.int .i64 ty, .int .i64 cd, .int .u32 re, .slice D nd qd]] w fun e w' => e = .returned (.bool false) ∧ Below w.heap.size w w' := by
  have bel := Below.refl w.heap.size w
  go_enter Tryz.func73, Tryz.ntmps73
  go_wp2_with (first | ((with_reducible show wpList _ _ _ (⟨some 1, _, _, _, _, _⟩ :: _) _ _); refine wpList_box_n rfl 47 (.tmp 0) rfl #[.int .i64 ty, .int .i64 cd, .int .u32 re, .slice D nd qd] rfl ?_; intro g1 w1 ge lt hh bb; have om := Nat.le_trans bel.size ge; replace bel := bel.trans (bb.mono bel.size); have hm := hh; clear hh lt ge bb; have R4 := cell_lit hm 0 _ rfl; have R8 := cell_lit hm 0 _ rfl; have R13 := cell_lit hm 0 _ rfl))
  try clear R4
  try clear R8
  try clear R13
  go_ret
  exact ⟨rfl, bel⟩
theorem icfault_any (ty cd re : Int) (D : Option Addr) (nd qd : Nat) (w : World) : Calls Tryz.prog 73 #[.agg #[.int .i64 ty, .int .i64 cd, .int .u32 re, .slice D nd qd]] w fun e w' => e = .returned (.bool (faultT ty)) ∧ Below w.heap.size w w' := by
  unfold faultT
  by_cases h0 : ty = 3
  · rw [decide_eq_true h0, Bool.true_or]
    exact icfault_0 ty cd re D nd qd (by simpa using h0) w
  by_cases h1 : ty = 11
  · rw [decide_eq_false h0, decide_eq_true h1, Bool.false_or, Bool.true_or]
    exact icfault_1 ty cd re D nd qd (by simpa using h0) (by simpa using h1) w
  by_cases h2 : ty = 12
  · rw [decide_eq_false h0, decide_eq_false h1, decide_eq_true h2, Bool.false_or, Bool.false_or]
    exact icfault_2 ty cd re D nd qd (by simpa using h0) (by simpa using h1) (by simpa using h2) w
  · rw [decide_eq_false h0, decide_eq_false h1, decide_eq_false h2, Bool.false_or, Bool.false_or]
    exact icfault_3 ty cd re D nd qd (by simpa using h0) (by simpa using h1) (by simpa using h2) w
set_option maxRecDepth 100000 in
set_option maxHeartbeats 16000000 in
theorem icquery_0 (ty cd re : Int) (D : Option Addr) (nd qd : Nat) (h0 : echoT ty = false) (w : World) : Calls Tryz.prog 71 #[.agg #[.int .i64 ty, .int .i64 cd, .int .u32 re, .slice D nd qd]] w fun e w' => e = .returned (.tuple #[.int .i64 0, .bool false]) ∧ Below w.heap.size w w' := by
  have HE := Lib.hid h0
  clear h0
  have bel := Below.refl w.heap.size w
  go_enter Tryz.func71, Tryz.ntmps71
  go_wp2_with (first | ((with_reducible show wpList _ _ _ (⟨some 1, _, _, _, _, _⟩ :: _) _ _); refine wpList_box_n rfl 47 (.tmp 0) rfl #[.int .i64 ty, .int .i64 cd, .int .u32 re, .slice D nd qd] rfl ?_; intro g1 w1 ge lt hh bb; have om := Nat.le_trans bel.size ge; replace bel := bel.trans (bb.mono bel.size); have hm := hh; clear hh lt ge bb; have R5 := cell_lit hm 0 _ rfl))
  try clear R5
  with_reducible refine (isecho_any _ _).mono ?_
  rintro e _ ⟨rfl, rfl⟩
  rw [HE.out]
  go_wp2_with fail
  exact bodyPost_ret (v := .tuple #[.int .i64 0, .bool false]) (by simp [results, Tryz.results71, go_sem]) rfl ⟨rfl, bel⟩
set_option maxRecDepth 100000 in
set_option maxHeartbeats 16000000 in
theorem icquery_1 (ty cd re : Int) (D : Option Addr) (nd qd : Nat) (h0 : echoT ty = true) (h1 : cd ≠ 0) (w : World) : Calls Tryz.prog 71 #[.agg #[.int .i64 ty, .int .i64 cd, .int .u32 re, .slice D nd qd]] w fun e w' => e = .returned (.tuple #[.int .i64 0, .bool false]) ∧ Below w.heap.size w w' := by
  have HE := Lib.hid h0
  have t0 : (cd == 0) = false := by simpa using h1
  have t1 : (cd != 0) = true := by simpa using h1
  clear h0 h1
  have bel := Below.refl w.heap.size w
  go_enter Tryz.func71, Tryz.ntmps71
  go_wp2_with (first | ((with_reducible show wpList _ _ _ (⟨some 1, _, _, _, _, _⟩ :: _) _ _); refine wpList_box_n rfl 47 (.tmp 0) rfl #[.int .i64 ty, .int .i64 cd, .int .u32 re, .slice D nd qd] rfl ?_; intro g1 w1 ge lt hh bb; have om := Nat.le_trans bel.size ge; replace bel := bel.trans (bb.mono bel.size); have hm := hh; clear hh lt ge bb; have R5 := cell_lit hm 0 _ rfl))
  try clear R5
  with_reducible refine (isecho_any _ _).mono ?_
  rintro e _ ⟨rfl, rfl⟩
  rw [HE.out]
  have R10 := cell_lit hm 1 _ rfl
  go_wp2_with fail
  clear R10
  exact bodyPost_ret (v := .tuple #[.int .i64 0, .bool false]) (by simp [results, Tryz.results71, go_sem]) rfl ⟨rfl, bel⟩
set_option maxRecDepth 100000 in
set_option maxHeartbeats 16000000 in
theorem icquery_2 (ty cd re : Int) (D : Option Addr) (nd qd : Nat) (h0 : echoT ty = true) (h1 : cd = 0) (e0 : 0 ≤ re) (e1 : re < 4294967296) (w : World) : Calls Tryz.prog 71 #[.agg #[.int .i64 ty, .int .i64 cd, .int .u32 re, .slice D nd qd]] w fun e w' => e = .returned (.tuple #[.int .i64 (re / 65536), .bool true]) ∧ Below w.heap.size w w' := by
  have HE := Lib.hid h0
  have t0 : (cd == 0) = true := by simpa using h1
  have t1 : (cd != 0) = false := by simpa using h1
  clear h0 h1
  have bel := Below.refl w.heap.size w
  go_enter Tryz.func71, Tryz.ntmps71
  go_wp2_with (first | ((with_reducible show wpList _ _ _ (⟨some 1, _, _, _, _, _⟩ :: _) _ _); refine wpList_box_n rfl 47 (.tmp 0) rfl #[.int .i64 ty, .int .i64 cd, .int .u32 re, .slice D nd qd] rfl ?_; intro g1 w1 ge lt hh bb; have om := Nat.le_trans bel.size ge; replace bel := bel.trans (bb.mono bel.size); have hm := hh; clear hh lt ge bb; have R5 := cell_lit hm 0 _ rfl))
  try clear R5
  with_reducible refine (isecho_any _ _).mono ?_
  rintro e _ ⟨rfl, rfl⟩
  rw [HE.out]
  have R10 := cell_lit hm 1 _ rfl
  have R14 := cell_lit hm 2 _ rfl
  go_wp2_with fail
  clear R10 R14
  exact bodyPost_ret (v := .tuple #[.int .i64 (re / 65536), .bool true]) (by simp [results, Tryz.results71, go_sem]) rfl ⟨rfl, bel⟩
open Go.RowKit

set_option linter.unusedVariables false in
set_option maxRecDepth 100000 in
set_option maxHeartbeats 16000000 in
theorem icget_1 (tos id fl pt ttl pr : Int) (a0 a1 a2 a3 a4 a5 a6 a7 : UInt8) (So Sb : Option Addr) (no co nb cb : Nat) (lb : List UInt8) (w : World) (hp : pr ≠ 1) : Calls Tryz.prog 21 #[.agg #[.int .i64 tos, .int .i64 id, .int .i64 fl, .int .i64 pt, .int .i64 ttl, .int .i64 pr, .int .u8 (a0.toNat : Int), .int .u8 (a1.toNat : Int), .int .u8 (a2.toNat : Int), .int .u8 (a3.toNat : Int), .int .u8 (a4.toNat : Int), .int .u8 (a5.toNat : Int), .int .u8 (a6.toNat : Int), .int .u8 (a7.toNat : Int), .slice So no co, .slice Sb nb cb]] w (MsPost (icGet fl pt pr (lb)) w) := by
  have HP : Hid (icGet fl pt pr (lb) = msNone 1) := Lib.hid (ic_err (by exact if_pos hp) (by decide))
  have t0 : (pr == 1) = false := by simpa using hp
  have t1 : (pr != 1) = true := by simpa using hp
  clear hp
  have bel := Below.refl w.heap.size w
  go_enter Tryz.func21, Tryz.ntmps21
  go_wp2_with (first | ((with_reducible show wpList _ _ _ (⟨some 1, _, _, _, _, _⟩ :: _) _ _); refine wpList_box_n rfl 38 (.tmp 0) rfl #[.int .i64 tos, .int .i64 id, .int .i64 fl, .int .i64 pt, .int .i64 ttl, .int .i64 pr, .int .u8 (a0.toNat : Int), .int .u8 (a1.toNat : Int), .int .u8 (a2.toNat : Int), .int .u8 (a3.toNat : Int), .int .u8 (a4.toNat : Int), .int .u8 (a5.toNat : Int), .int .u8 (a6.toNat : Int), .int .u8 (a7.toNat : Int), .slice So no co, .slice Sb nb cb] rfl ?_; intro g1 w1 ge lt hh bb; have op := Nat.le_trans bel.size ge; replace bel := bel.trans (bb.mono bel.size); have hp := hh; clear hh lt ge bb) | ((with_reducible show wpList _ _ _ (⟨some 2, _, _, _, _, _⟩ :: _) _ _); refine wpList_new_a rfl 47 rfl #[.int .i64 0, .int .i64 0, .int .u32 0, .slice none 0 0] (by kernel_rfl) ?_; intro g2 w2 ge hh bb; have d_p_z := ne_new (hlt hp) ge; have oz := Nat.le_trans bel.size ge; replace hp := blk_u hp bb; replace bel := bel.trans (bb.mono bel.size); have hz := hh; clear hh ge bb; have R7 := cell_lit hp 5 _ rfl) | ((with_reducible show wpList _ _ _ (⟨none, Op.store _ (.tmp 2) _, _, _, _, _⟩ :: _) _ _); refine wpList_store_blk rfl 47 (.tmp 2) (.tmp 9) rfl g2 rfl _ rfl _ 47 hz (by rfl) (by kernel_rfl) (by kernel_rfl) ?_; intro w3 hq gr; replace hp := blk_a hp gr d_p_z; replace bel := below_grown bel gr oz bel.size; clear hz; have hz := hq; clear hq gr))
  try clear R7
  exact bodyPost_ret (results_cell_tmp_row rfl _ _ _ _ _ _ _ rfl hz Tryz.underlying47 rfl (by kernel_rfl) (.int .i64 1) rfl) rfl (MsPost.none HP.out.symm bel)
set_option linter.unusedVariables false in
set_option maxRecDepth 100000 in
set_option maxHeartbeats 16000000 in
theorem icget_2 (tos id fl pt ttl : Int) (a0 a1 a2 a3 a4 a5 a6 a7 : UInt8) (So Sb : Option Addr) (no co nb cb : Nat) (lb : List UInt8) (w : World) (hw : (decide (pt = 0) && decide (fl % 2 = 0)) = false) : Calls Tryz.prog 21 #[.agg #[.int .i64 tos, .int .i64 id, .int .i64 fl, .int .i64 pt, .int .i64 ttl, .int .i64 1, .int .u8 (a0.toNat : Int), .int .u8 (a1.toNat : Int), .int .u8 (a2.toNat : Int), .int .u8 (a3.toNat : Int), .int .u8 (a4.toNat : Int), .int .u8 (a5.toNat : Int), .int .u8 (a6.toNat : Int), .int .u8 (a7.toNat : Int), .slice So no co, .slice Sb nb cb]] w (MsPost (icGet fl pt 1 (lb)) w) := by
  have HP : Hid (icGet fl pt 1 (lb) = msNone 10) := Lib.hid (ic_err (by unfold icErr; rw [if_neg (by decide), if_pos (by simpa using hw)]) (by decide))
  have HW := Lib.hid hw
  clear hw
  have bel := Below.refl w.heap.size w
  go_enter Tryz.func21, Tryz.ntmps21
  go_wp2_with (first | ((with_reducible show wpList _ _ _ (⟨some 1, _, _, _, _, _⟩ :: _) _ _); refine wpList_box_n rfl 38 (.tmp 0) rfl #[.int .i64 tos, .int .i64 id, .int .i64 fl, .int .i64 pt, .int .i64 ttl, .int .i64 1, .int .u8 (a0.toNat : Int), .int .u8 (a1.toNat : Int), .int .u8 (a2.toNat : Int), .int .u8 (a3.toNat : Int), .int .u8 (a4.toNat : Int), .int .u8 (a5.toNat : Int), .int .u8 (a6.toNat : Int), .int .u8 (a7.toNat : Int), .slice So no co, .slice Sb nb cb] rfl ?_; intro g1 w1 ge lt hh bb; have op := Nat.le_trans bel.size ge; replace bel := bel.trans (bb.mono bel.size); have hp := hh; clear hh lt ge bb) | ((with_reducible show wpList _ _ _ (⟨some 2, _, _, _, _, _⟩ :: _) _ _); refine wpList_new_a rfl 47 rfl #[.int .i64 0, .int .i64 0, .int .u32 0, .slice none 0 0] (by kernel_rfl) ?_; intro g2 w2 ge hh bb; have d_p_z := ne_new (hlt hp) ge; have oz := Nat.le_trans bel.size ge; replace hp := blk_u hp bb; replace bel := bel.trans (bb.mono bel.size); have hz := hh; clear hh ge bb; have R7 := cell_lit hp 5 _ rfl; have R10 := Lib.hid (range_lit hp 0 16 [.int .i64 tos, .int .i64 id, .int .i64 fl, .int .i64 pt, .int .i64 ttl, .int .i64 1, .int .u8 (a0.toNat : Int), .int .u8 (a1.toNat : Int), .int .u8 (a2.toNat : Int), .int .u8 (a3.toNat : Int), .int .u8 (a4.toNat : Int), .int .u8 (a5.toNat : Int), .int .u8 (a6.toNat : Int), .int .u8 (a7.toNat : Int), .slice So no co, .slice Sb nb cb] rfl)) | ((with_reducible show wpList _ _ _ (⟨some 10, _, _, _, _, _⟩ :: _) _ _); refine wpList_load_rng 38 (.tmp 1) rfl (by kernel_rfl) _ _ rfl _ R10.out _ Tryz.underlying38 rfl (by kernel_rfl) ?_))
  try clear R7
  try clear R10
  with_reducible refine (ipwhole_any _ _ _ _ _ _ _ _ _ _ _ _ _ _ _ _ _ _ _ _ _).mono ?_
  rintro e w3 ⟨rfl, b3⟩
  replace hp := blk_u hp b3
  replace hz := blk_u hz b3
  replace bel := bel.trans (b3.mono bel.size)
  clear b3
  rw [HW.out]
  go_wp2_with (first | ((with_reducible show wpList _ _ _ (⟨none, Op.store _ (.tmp 2) _, _, _, _, _⟩ :: _) _ _); refine wpList_store_blk rfl 47 (.tmp 2) (.tmp 13) rfl g2 rfl _ rfl _ 47 hz (by rfl) (by kernel_rfl) (by kernel_rfl) ?_; intro w4 hq gr; replace hp := blk_a hp gr d_p_z; replace bel := below_grown bel gr oz bel.size; clear hz; have hz := hq; clear hq gr))
  exact bodyPost_ret (results_cell_tmp_row rfl _ _ _ _ _ _ _ rfl hz Tryz.underlying47 rfl (by kernel_rfl) (.int .i64 10) rfl) rfl (MsPost.none HP.out.symm bel)
set_option linter.unusedVariables false in
set_option maxRecDepth 100000 in
set_option maxHeartbeats 16000000 in
theorem icget_3 (tos id fl pt ttl : Int) (a0 a1 a2 a3 a4 a5 a6 a7 : UInt8) (So Sb : Option Addr) (no co nb cb : Nat) (lb : List UInt8) (w : World) (hb : Sl w Sb nb cb lb) (hw : (decide (pt = 0) && decide (fl % 2 = 0)) = true) (hn : nb < 8) : Calls Tryz.prog 21 #[.agg #[.int .i64 tos, .int .i64 id, .int .i64 fl, .int .i64 pt, .int .i64 ttl, .int .i64 1, .int .u8 (a0.toNat : Int), .int .u8 (a1.toNat : Int), .int .u8 (a2.toNat : Int), .int .u8 (a3.toNat : Int), .int .u8 (a4.toNat : Int), .int .u8 (a5.toNat : Int), .int .u8 (a6.toNat : Int), .int .u8 (a7.toNat : Int), .slice So no co, .slice Sb nb cb]] w (MsPost (icGet fl pt 1 (lb)) w) := by
  have HP : Hid (icGet fl pt 1 (lb) = msNone 3) := Lib.hid (ic_err (by unfold icErr; rw [if_neg (by decide), if_neg (by simpa using hw), if_pos (by rw [hb.1]; exact hn)]) (by decide))
  have HW := Lib.hid hw
  have HN := Lib.hid hn
  have HL := Lib.hid hb.1
  clear hw hn
  have bel := Below.refl w.heap.size w
  go_enter Tryz.func21, Tryz.ntmps21
  go_wp2_with (first | ((with_reducible show wpList _ _ _ (⟨some 1, _, _, _, _, _⟩ :: _) _ _); refine wpList_box_n rfl 38 (.tmp 0) rfl #[.int .i64 tos, .int .i64 id, .int .i64 fl, .int .i64 pt, .int .i64 ttl, .int .i64 1, .int .u8 (a0.toNat : Int), .int .u8 (a1.toNat : Int), .int .u8 (a2.toNat : Int), .int .u8 (a3.toNat : Int), .int .u8 (a4.toNat : Int), .int .u8 (a5.toNat : Int), .int .u8 (a6.toNat : Int), .int .u8 (a7.toNat : Int), .slice So no co, .slice Sb nb cb] rfl ?_; intro g1 w1 ge lt hh bb; have av_hb_p := hb.av_new ge; have op := Nat.le_trans bel.size ge; replace hb := hb.below bb; replace bel := bel.trans (bb.mono bel.size); have hp := hh; clear hh lt ge bb) | ((with_reducible show wpList _ _ _ (⟨some 2, _, _, _, _, _⟩ :: _) _ _); refine wpList_new_a rfl 47 rfl #[.int .i64 0, .int .i64 0, .int .u32 0, .slice none 0 0] (by kernel_rfl) ?_; intro g2 w2 ge hh bb; have d_p_z := ne_new (hlt hp) ge; have av_hb_z := hb.av_new ge; have oz := Nat.le_trans bel.size ge; replace hp := blk_u hp bb; replace hb := hb.below bb; replace bel := bel.trans (bb.mono bel.size); have hz := hh; clear hh ge bb; have R7 := cell_lit hp 5 _ rfl; have R10 := Lib.hid (range_lit hp 0 16 [.int .i64 tos, .int .i64 id, .int .i64 fl, .int .i64 pt, .int .i64 ttl, .int .i64 1, .int .u8 (a0.toNat : Int), .int .u8 (a1.toNat : Int), .int .u8 (a2.toNat : Int), .int .u8 (a3.toNat : Int), .int .u8 (a4.toNat : Int), .int .u8 (a5.toNat : Int), .int .u8 (a6.toNat : Int), .int .u8 (a7.toNat : Int), .slice So no co, .slice Sb nb cb] rfl)) | ((with_reducible show wpList _ _ _ (⟨some 10, _, _, _, _, _⟩ :: _) _ _); refine wpList_load_rng 38 (.tmp 1) rfl (by kernel_rfl) _ _ rfl _ R10.out _ Tryz.underlying38 rfl (by kernel_rfl) ?_))
  try clear R7
  try clear R10
  with_reducible refine (ipwhole_any _ _ _ _ _ _ _ _ _ _ _ _ _ _ _ _ _ _ _ _ _).mono ?_
  rintro e w3 ⟨rfl, b3⟩
  replace hp := blk_u hp b3
  replace hz := blk_u hz b3
  replace hb := hb.below b3
  replace bel := bel.trans (b3.mono bel.size)
  clear b3
  rw [HW.out]
  have R15 := cell_lit hp 15 _ rfl
  go_wp2_with fail
  clear R15
  with_reducible refine (rd_read _ _ _ _ _ hb (by have := HN.out; omega)).mono ?_
  rintro e w4 ⟨gr, Ar3, cr3, rfl, ge, hh, rest, frr, avr, b4⟩
  have av_rest_p := frr.av (hlt hp)
  have av_rest_z := frr.av (hlt hz)
  have d_p_r := ne_new (hlt hp) ge
  have d_z_r := ne_new (hlt hz) ge
  have av_hb_r := hb.av_new ge
  have or := Nat.le_trans bel.size ge
  replace hp := blk_u hp b4
  replace hz := blk_u hz b4
  replace hb := hb.below b4
  replace bel := bel.trans (b4.mono bel.size)
  have hr := hh
  clear hh ge b4
  replace rest : Sl w4 (Ar3) (nb) (cr3) (lb) := rest
  go_wp2_with fail
  with_reducible refine (rd_u8e _ _ _ _ _ _ _ hr rest).mono ?_
  rintro e w5 ⟨A4, n4, c4, x1, s1, es1, xb1, rfl, hq, sq, uq, b5⟩
  replace hb := hb.away av_hb_r b5
  replace hp := blk_a hp b5 d_p_r
  replace hz := blk_a hz b5 d_z_r
  replace bel := below_grown bel b5 or bel.size
  clear b5
  clear hr rest
  have hr := hq
  have rest := sq
  clear hq sq
  have av4_rest_p := av_rest_p.sub uq
  have av4_rest_z := av_rest_z.sub uq
  have av4_rest_r := avr.sub uq
  clear uq
  go_wp2_with fail
  with_reducible refine (rd_u8e _ _ _ _ _ _ _ hr rest).mono ?_
  rintro e w6 ⟨A5, n5, c5, x2, s2, es2, xb2, rfl, hq, sq, uq, b6⟩
  replace hb := hb.away av_hb_r b6
  replace hp := blk_a hp b6 d_p_r
  replace hz := blk_a hz b6 d_z_r
  replace bel := below_grown bel b6 or bel.size
  clear b6
  clear hr rest
  have hr := hq
  have rest := sq
  clear hq sq
  have av5_rest_p := av4_rest_p.sub uq
  have av5_rest_z := av4_rest_z.sub uq
  have av5_rest_r := av4_rest_r.sub uq
  clear uq
  go_wp2_with (first | ((with_reducible show wpList _ _ _ (⟨some 5, _, _, _, _, _⟩ :: _) _ _); refine wpList_new_a rfl 47 rfl #[.int .i64 0, .int .i64 0, .int .u32 0, .slice none 0 0] (by kernel_rfl) ?_; intro g5 w7 ge hh bb; have d_p_d := ne_new (hlt hp) ge; have d_z_d := ne_new (hlt hz) ge; have d_r_d := ne_new (hlt hr) ge; have av_hb_d := hb.av_new ge; have av_rest_d := rest.av_new ge; have od := Nat.le_trans bel.size ge; replace hp := blk_u hp bb; replace hz := blk_u hz bb; replace hr := blk_u hr bb; replace hb := hb.below bb; replace rest := rest.below bb; replace bel := bel.trans (bb.mono bel.size); have hd := hh; clear hh ge bb) | ((with_reducible show wpList _ _ _ (⟨none, Op.store _ (.tmp 5) _, _, _, _, _⟩ :: _) _ _); refine wpList_store_blk rfl 47 (.tmp 5) (.tmp 21) rfl g5 rfl _ rfl _ 47 hd (by rfl) (by kernel_rfl) (by kernel_rfl) ?_; intro w8 hq gr; replace hb := hb.away av_hb_d gr; replace rest := rest.away av_rest_d gr; replace hp := blk_a hp gr d_p_d; replace hz := blk_a hz gr d_z_d; replace hr := blk_a hr gr d_r_d; replace bel := below_grown bel gr od bel.size; clear hd; have hd := hq; clear hq gr))
  with_reducible refine (rd_u16e _ _ _ _ _ _ _ hr rest).mono ?_
  rintro e w9 ⟨A8, n8, c8, x3, s3, es3, rfl, hq, sq, uq, b9⟩
  replace hb := hb.away av_hb_r b9
  replace hp := blk_a hp b9 d_p_r
  replace hz := blk_a hz b9 d_z_r
  replace hd := blk_a hd b9 (ne_symm d_r_d)
  replace bel := below_grown bel b9 or bel.size
  clear b9
  clear hr rest
  have hr := hq
  have rest := sq
  clear hq sq
  have av8_rest_p := av5_rest_p.sub uq
  have av8_rest_z := av5_rest_z.sub uq
  have av8_rest_r := av5_rest_r.sub uq
  have av8_rest_d := av_rest_d.sub uq
  clear uq
  go_wp2_with fail
  with_reducible refine (rd_u32e _ _ _ _ _ _ _ hr rest).mono ?_
  rintro e w10 ⟨A9, n9, c9, x4, s4, es4, rfl, hq, sq, uq, b10⟩
  replace hb := hb.away av_hb_r b10
  replace hp := blk_a hp b10 d_p_r
  replace hz := blk_a hz b10 d_z_r
  replace hd := blk_a hd b10 (ne_symm d_r_d)
  replace bel := below_grown bel b10 or bel.size
  clear b10
  clear hr rest
  have hr := hq
  have rest := sq
  clear hq sq
  have av9_rest_p := av8_rest_p.sub uq
  have av9_rest_z := av8_rest_z.sub uq
  have av9_rest_r := av8_rest_r.sub uq
  have av9_rest_d := av8_rest_d.sub uq
  clear uq
  go_wp2_with (first | ((with_reducible show wpList _ _ _ (⟨none, Op.store _ (.tmp 26) _, _, _, _, _⟩ :: _) _ _); refine wpList_store_part rfl 45 (.tmp 26) (.tmp 25) rfl g5 2 rfl [.int .u32 (x4 : Int)] rfl [.int .i64 (x1 : Int), .int .i64 (x2 : Int), .int .u32 0, .slice none 0 0] 47 hd (by simp) [.int .i64 (x1 : Int), .int .i64 (x2 : Int), .int .u32 (x4 : Int), .slice none 0 0] rfl (by kernel_rfl) (by rfl) ?_; intro w11 hq gr; replace hb := hb.away av_hb_d gr; replace rest := rest.away av9_rest_d gr; replace hp := blk_a hp gr d_p_d; replace hz := blk_a hz gr d_z_d; replace hr := blk_a hr gr d_r_d; replace bel := below_grown bel gr od bel.size; clear hd; have hd := hq; clear hq gr))
  with_reducible refine (rd_short _ _ _ _ _ _ _ hr rest).mono ?_
  rintro e _ ⟨rfl, rfl⟩
  obtain rfl : s4 = true := by rw [es4.out, decide_eq_true (by have := HL.out; have := HN.out; simp only [List.length_drop]; omega), Bool.or_true]
  go_wp2_with (first | ((with_reducible show wpList _ _ _ (⟨none, Op.store _ (.tmp 2) _, _, _, _, _⟩ :: _) _ _); refine wpList_store_blk rfl 47 (.tmp 2) (.tmp 29) rfl g2 rfl _ rfl _ 47 hz (by rfl) (by kernel_rfl) (by kernel_rfl) ?_; intro w12 hq gr; replace hb := hb.away av_hb_z gr; replace rest := rest.away av9_rest_z gr; replace hp := blk_a hp gr d_p_z; replace hr := blk_a hr gr (ne_symm d_z_r); replace hd := blk_a hd gr (ne_symm d_z_d); replace bel := below_grown bel gr oz bel.size; clear hz; have hz := hq; clear hq gr))
  exact bodyPost_ret (results_cell_tmp_row rfl _ _ _ _ _ _ _ rfl hz Tryz.underlying47 rfl (by kernel_rfl) (.int .i64 3) rfl) rfl (MsPost.none HP.out.symm bel)
set_option linter.unusedVariables false in
set_option maxRecDepth 100000 in
set_option maxHeartbeats 16000000 in
theorem icget_4 (tos id fl pt ttl : Int) (a0 a1 a2 a3 a4 a5 a6 a7 : UInt8) (So Sb : Option Addr) (no co nb cb : Nat) (h0 h1 h2 h3 h4 h5 h6 h7 : UInt8) (r : List UInt8) (w : World) (hb : Sl w Sb nb cb (h0 :: h1 :: h2 :: h3 :: h4 :: h5 :: h6 :: h7 :: r)) (hm : nb ≤ 100000) (hw : (decide (pt = 0) && decide (fl % 2 = 0)) = true) (hc : ck (h0 :: h1 :: h2 :: h3 :: h4 :: h5 :: h6 :: h7 :: r) ≠ 0) : Calls Tryz.prog 21 #[.agg #[.int .i64 tos, .int .i64 id, .int .i64 fl, .int .i64 pt, .int .i64 ttl, .int .i64 1, .int .u8 (a0.toNat : Int), .int .u8 (a1.toNat : Int), .int .u8 (a2.toNat : Int), .int .u8 (a3.toNat : Int), .int .u8 (a4.toNat : Int), .int .u8 (a5.toNat : Int), .int .u8 (a6.toNat : Int), .int .u8 (a7.toNat : Int), .slice So no co, .slice Sb nb cb]] w (MsPost (icGet fl pt 1 (h0 :: h1 :: h2 :: h3 :: h4 :: h5 :: h6 :: h7 :: r)) w) := by
  have HP : Hid (icGet fl pt 1 (h0 :: h1 :: h2 :: h3 :: h4 :: h5 :: h6 :: h7 :: r) = msNone 5) := Lib.hid (ic_err (by rw [ic_at (by simp) hw, if_pos hc]) (by decide))
  have HM := Lib.hid hm
  have HW := Lib.hid hw
  have HL := Lib.hid hb.1
  clear hm hw
  have HC : Hid (decide (ck (h0 :: h1 :: h2 :: h3 :: h4 :: h5 :: h6 :: h7 :: r) = 0) = false) := Lib.hid (decide_eq_false hc)
  clear hc
  have bel := Below.refl w.heap.size w
  go_enter Tryz.func21, Tryz.ntmps21
  go_wp2_with (first | ((with_reducible show wpList _ _ _ (⟨some 1, _, _, _, _, _⟩ :: _) _ _); refine wpList_box_n rfl 38 (.tmp 0) rfl #[.int .i64 tos, .int .i64 id, .int .i64 fl, .int .i64 pt, .int .i64 ttl, .int .i64 1, .int .u8 (a0.toNat : Int), .int .u8 (a1.toNat : Int), .int .u8 (a2.toNat : Int), .int .u8 (a3.toNat : Int), .int .u8 (a4.toNat : Int), .int .u8 (a5.toNat : Int), .int .u8 (a6.toNat : Int), .int .u8 (a7.toNat : Int), .slice So no co, .slice Sb nb cb] rfl ?_; intro g1 w1 ge lt hh bb; have av_hb_p := hb.av_new ge; have op := Nat.le_trans bel.size ge; replace hb := hb.below bb; replace bel := bel.trans (bb.mono bel.size); have hp := hh; clear hh lt ge bb) | ((with_reducible show wpList _ _ _ (⟨some 2, _, _, _, _, _⟩ :: _) _ _); refine wpList_new_a rfl 47 rfl #[.int .i64 0, .int .i64 0, .int .u32 0, .slice none 0 0] (by kernel_rfl) ?_; intro g2 w2 ge hh bb; have d_p_z := ne_new (hlt hp) ge; have av_hb_z := hb.av_new ge; have oz := Nat.le_trans bel.size ge; replace hp := blk_u hp bb; replace hb := hb.below bb; replace bel := bel.trans (bb.mono bel.size); have hz := hh; clear hh ge bb; have R7 := cell_lit hp 5 _ rfl; have R10 := Lib.hid (range_lit hp 0 16 [.int .i64 tos, .int .i64 id, .int .i64 fl, .int .i64 pt, .int .i64 ttl, .int .i64 1, .int .u8 (a0.toNat : Int), .int .u8 (a1.toNat : Int), .int .u8 (a2.toNat : Int), .int .u8 (a3.toNat : Int), .int .u8 (a4.toNat : Int), .int .u8 (a5.toNat : Int), .int .u8 (a6.toNat : Int), .int .u8 (a7.toNat : Int), .slice So no co, .slice Sb nb cb] rfl)) | ((with_reducible show wpList _ _ _ (⟨some 10, _, _, _, _, _⟩ :: _) _ _); refine wpList_load_rng 38 (.tmp 1) rfl (by kernel_rfl) _ _ rfl _ R10.out _ Tryz.underlying38 rfl (by kernel_rfl) ?_))
  try clear R7
  try clear R10
  with_reducible refine (ipwhole_any _ _ _ _ _ _ _ _ _ _ _ _ _ _ _ _ _ _ _ _ _).mono ?_
  rintro e w3 ⟨rfl, b3⟩
  replace hp := blk_u hp b3
  replace hz := blk_u hz b3
  replace hb := hb.below b3
  replace bel := bel.trans (b3.mono bel.size)
  clear b3
  rw [HW.out]
  have R15 := cell_lit hp 15 _ rfl
  go_wp2_with fail
  clear R15
  with_reducible refine (rd_read _ _ _ _ _ hb (by have := HM.out; omega)).mono ?_
  rintro e w4 ⟨gr, Ar3, cr3, rfl, ge, hh, rest, frr, avr, b4⟩
  have av_rest_p := frr.av (hlt hp)
  have av_rest_z := frr.av (hlt hz)
  have d_p_r := ne_new (hlt hp) ge
  have d_z_r := ne_new (hlt hz) ge
  have av_hb_r := hb.av_new ge
  have or := Nat.le_trans bel.size ge
  replace hp := blk_u hp b4
  replace hz := blk_u hz b4
  replace hb := hb.below b4
  replace bel := bel.trans (b4.mono bel.size)
  have hr := hh
  clear hh ge b4
  replace rest : Sl w4 (Ar3) (nb) (cr3) (h0 :: h1 :: h2 :: h3 :: h4 :: h5 :: h6 :: h7 :: r) := rest
  go_wp2_with fail
  with_reducible refine (rd_u8c _ _ _ _ _ _ _ _ hr rest).mono ?_
  rintro e w5 ⟨A4, n4, c4, rfl, hq, sq, uq, b5⟩
  replace hb := hb.away av_hb_r b5
  replace hp := blk_a hp b5 d_p_r
  replace hz := blk_a hz b5 d_z_r
  replace bel := below_grown bel b5 or bel.size
  clear b5
  clear hr rest
  have hr := hq
  have rest := sq
  clear hq sq
  have av4_rest_p := av_rest_p.sub uq
  have av4_rest_z := av_rest_z.sub uq
  have av4_rest_r := avr.sub uq
  clear uq
  go_wp2_with fail
  with_reducible refine (rd_u8c _ _ _ _ _ _ _ _ hr rest).mono ?_
  rintro e w6 ⟨A5, n5, c5, rfl, hq, sq, uq, b6⟩
  replace hb := hb.away av_hb_r b6
  replace hp := blk_a hp b6 d_p_r
  replace hz := blk_a hz b6 d_z_r
  replace bel := below_grown bel b6 or bel.size
  clear b6
  clear hr rest
  have hr := hq
  have rest := sq
  clear hq sq
  have av5_rest_p := av4_rest_p.sub uq
  have av5_rest_z := av4_rest_z.sub uq
  have av5_rest_r := av4_rest_r.sub uq
  clear uq
  go_wp2_with (first | ((with_reducible show wpList _ _ _ (⟨some 5, _, _, _, _, _⟩ :: _) _ _); refine wpList_new_a rfl 47 rfl #[.int .i64 0, .int .i64 0, .int .u32 0, .slice none 0 0] (by kernel_rfl) ?_; intro g5 w7 ge hh bb; have d_p_d := ne_new (hlt hp) ge; have d_z_d := ne_new (hlt hz) ge; have d_r_d := ne_new (hlt hr) ge; have av_hb_d := hb.av_new ge; have av_rest_d := rest.av_new ge; have od := Nat.le_trans bel.size ge; replace hp := blk_u hp bb; replace hz := blk_u hz bb; replace hr := blk_u hr bb; replace hb := hb.below bb; replace rest := rest.below bb; replace bel := bel.trans (bb.mono bel.size); have hd := hh; clear hh ge bb) | ((with_reducible show wpList _ _ _ (⟨none, Op.store _ (.tmp 5) _, _, _, _, _⟩ :: _) _ _); refine wpList_store_blk rfl 47 (.tmp 5) (.tmp 21) rfl g5 rfl _ rfl _ 47 hd (by rfl) (by kernel_rfl) (by kernel_rfl) ?_; intro w8 hq gr; replace hb := hb.away av_hb_d gr; replace rest := rest.away av_rest_d gr; replace hp := blk_a hp gr d_p_d; replace hz := blk_a hz gr d_z_d; replace hr := blk_a hr gr d_r_d; replace bel := below_grown bel gr od bel.size; clear hd; have hd := hq; clear hq gr))
  with_reducible refine (rd_u16c _ _ _ _ _ _ _ _ _ hr rest).mono ?_
  rintro e w9 ⟨A8, n8, c8, rfl, hq, sq, uq, b9⟩
  replace hb := hb.away av_hb_r b9
  replace hp := blk_a hp b9 d_p_r
  replace hz := blk_a hz b9 d_z_r
  replace hd := blk_a hd b9 (ne_symm d_r_d)
  replace bel := below_grown bel b9 or bel.size
  clear b9
  clear hr rest
  have hr := hq
  have rest := sq
  clear hq sq
  have av8_rest_p := av5_rest_p.sub uq
  have av8_rest_z := av5_rest_z.sub uq
  have av8_rest_r := av5_rest_r.sub uq
  have av8_rest_d := av_rest_d.sub uq
  clear uq
  go_wp2_with fail
  with_reducible refine (rd_u32c _ _ _ _ _ _ _ _ _ _ _ hr rest).mono ?_
  rintro e w10 ⟨A9, n9, c9, rfl, hq, sq, uq, b10⟩
  replace hb := hb.away av_hb_r b10
  replace hp := blk_a hp b10 d_p_r
  replace hz := blk_a hz b10 d_z_r
  replace hd := blk_a hd b10 (ne_symm d_r_d)
  replace bel := below_grown bel b10 or bel.size
  clear b10
  clear hr rest
  have hr := hq
  have rest := sq
  clear hq sq
  have av9_rest_p := av8_rest_p.sub uq
  have av9_rest_z := av8_rest_z.sub uq
  have av9_rest_r := av8_rest_r.sub uq
  have av9_rest_d := av8_rest_d.sub uq
  clear uq
  go_wp2_with (first | ((with_reducible show wpList _ _ _ (⟨none, Op.store _ (.tmp 26) _, _, _, _, _⟩ :: _) _ _); refine wpList_store_part rfl 45 (.tmp 26) (.tmp 25) rfl g5 2 rfl [.int .u32 (be [h4, h5, h6, h7] : Nat)] rfl [.int .i64 (h0.toNat : Int), .int .i64 (h1.toNat : Int), .int .u32 0, .slice none 0 0] 47 hd (by simp) [.int .i64 (h0.toNat : Int), .int .i64 (h1.toNat : Int), .int .u32 (be [h4, h5, h6, h7] : Nat), .slice none 0 0] rfl (by kernel_rfl) (by rfl) ?_; intro w11 hq gr; replace hb := hb.away av_hb_d gr; replace rest := rest.away av9_rest_d gr; replace hp := blk_a hp gr d_p_d; replace hz := blk_a hz gr d_z_d; replace hr := blk_a hr gr d_r_d; replace bel := below_grown bel gr od bel.size; clear hd; have hd := hq; clear hq gr))
  with_reducible refine (rd_short _ _ _ _ _ _ _ hr rest).mono ?_
  rintro e _ ⟨rfl, rfl⟩
  have R31 := cell_lit hp 15 _ rfl
  go_wp2_with fail
  clear R31
  with_reducible refine (fitsd _ _ _ _ _ hb).mono ?_
  rintro e w12 ⟨rfl, b12⟩
  replace hp := blk_u hp b12
  replace hz := blk_u hz b12
  replace hr := blk_u hr b12
  replace hd := blk_u hd b12
  replace hb := hb.below b12
  replace rest := rest.below b12
  replace bel := bel.trans (b12.mono bel.size)
  clear b12
  rw [HC.out]
  go_wp2_with (first | ((with_reducible show wpList _ _ _ (⟨none, Op.store _ (.tmp 2) _, _, _, _, _⟩ :: _) _ _); refine wpList_store_blk rfl 47 (.tmp 2) (.tmp 34) rfl g2 rfl _ rfl _ 47 hz (by rfl) (by kernel_rfl) (by kernel_rfl) ?_; intro w13 hq gr; replace hb := hb.away av_hb_z gr; replace rest := rest.away av9_rest_z gr; replace hp := blk_a hp gr d_p_z; replace hr := blk_a hr gr (ne_symm d_z_r); replace hd := blk_a hd gr (ne_symm d_z_d); replace bel := below_grown bel gr oz bel.size; clear hz; have hz := hq; clear hq gr))
  exact bodyPost_ret (results_cell_tmp_row rfl _ _ _ _ _ _ _ rfl hz Tryz.underlying47 rfl (by kernel_rfl) (.int .i64 5) rfl) rfl (MsPost.none HP.out.symm bel)
set_option linter.unusedVariables false in
set_option maxRecDepth 100000 in
set_option maxHeartbeats 16000000 in
theorem icget_5 (tos id fl pt ttl : Int) (a0 a1 a2 a3 a4 a5 a6 a7 : UInt8) (So Sb : Option Addr) (no co nb cb : Nat) (h0 h1 h2 h3 h4 h5 h6 h7 : UInt8) (r : List UInt8) (w : World) (hb : Sl w Sb nb cb (h0 :: h1 :: h2 :: h3 :: h4 :: h5 :: h6 :: h7 :: r)) (hm : nb ≤ 100000) (hw : (decide (pt = 0) && decide (fl % 2 = 0)) = true) (hc : ck (h0 :: h1 :: h2 :: h3 :: h4 :: h5 :: h6 :: h7 :: r) = 0) : Calls Tryz.prog 21 #[.agg #[.int .i64 tos, .int .i64 id, .int .i64 fl, .int .i64 pt, .int .i64 ttl, .int .i64 1, .int .u8 (a0.toNat : Int), .int .u8 (a1.toNat : Int), .int .u8 (a2.toNat : Int), .int .u8 (a3.toNat : Int), .int .u8 (a4.toNat : Int), .int .u8 (a5.toNat : Int), .int .u8 (a6.toNat : Int), .int .u8 (a7.toNat : Int), .slice So no co, .slice Sb nb cb]] w (MsPost (icGet fl pt 1 (h0 :: h1 :: h2 :: h3 :: h4 :: h5 :: h6 :: h7 :: r)) w) := by
  have HP : Hid (icGet fl pt 1 (h0 :: h1 :: h2 :: h3 :: h4 :: h5 :: h6 :: h7 :: r) = ([(h0.toNat : Int), (h1.toNat : Int), ((be [h4, h5, h6, h7] : Nat) : Int)], r, 0)) := Lib.hid (ic_ok (by rw [ic_at (by simp) hw, if_neg (fun h => h hc)]))
  have HM := Lib.hid hm
  have HW := Lib.hid hw
  have HL := Lib.hid hb.1
  clear hm hw
  obtain ⟨m, hm2⟩ : ∃ m, r.length = m := ⟨_, rfl⟩
  have HM2 := Lib.hid hm2
  have hm3 : m ≤ 100000 := by have h9 := HL.out; have := HM.out; simp only [List.length_cons] at h9; omega
  have HM3 := Lib.hid hm3
  clear hm2 hm3
  have HC : Hid (decide (ck (h0 :: h1 :: h2 :: h3 :: h4 :: h5 :: h6 :: h7 :: r) = 0) = true) := Lib.hid (decide_eq_true hc)
  clear hc
  have bel := Below.refl w.heap.size w
  go_enter Tryz.func21, Tryz.ntmps21
  go_wp2_with (first | ((with_reducible show wpList _ _ _ (⟨some 1, _, _, _, _, _⟩ :: _) _ _); refine wpList_box_n rfl 38 (.tmp 0) rfl #[.int .i64 tos, .int .i64 id, .int .i64 fl, .int .i64 pt, .int .i64 ttl, .int .i64 1, .int .u8 (a0.toNat : Int), .int .u8 (a1.toNat : Int), .int .u8 (a2.toNat : Int), .int .u8 (a3.toNat : Int), .int .u8 (a4.toNat : Int), .int .u8 (a5.toNat : Int), .int .u8 (a6.toNat : Int), .int .u8 (a7.toNat : Int), .slice So no co, .slice Sb nb cb] rfl ?_; intro g1 w1 ge lt hh bb; have av_hb_p := hb.av_new ge; have op := Nat.le_trans bel.size ge; replace hb := hb.below bb; replace bel := bel.trans (bb.mono bel.size); have hp := hh; clear hh lt ge bb) | ((with_reducible show wpList _ _ _ (⟨some 2, _, _, _, _, _⟩ :: _) _ _); refine wpList_new_a rfl 47 rfl #[.int .i64 0, .int .i64 0, .int .u32 0, .slice none 0 0] (by kernel_rfl) ?_; intro g2 w2 ge hh bb; have d_p_z := ne_new (hlt hp) ge; have av_hb_z := hb.av_new ge; have oz := Nat.le_trans bel.size ge; replace hp := blk_u hp bb; replace hb := hb.below bb; replace bel := bel.trans (bb.mono bel.size); have hz := hh; clear hh ge bb; have R7 := cell_lit hp 5 _ rfl; have R10 := Lib.hid (range_lit hp 0 16 [.int .i64 tos, .int .i64 id, .int .i64 fl, .int .i64 pt, .int .i64 ttl, .int .i64 1, .int .u8 (a0.toNat : Int), .int .u8 (a1.toNat : Int), .int .u8 (a2.toNat : Int), .int .u8 (a3.toNat : Int), .int .u8 (a4.toNat : Int), .int .u8 (a5.toNat : Int), .int .u8 (a6.toNat : Int), .int .u8 (a7.toNat : Int), .slice So no co, .slice Sb nb cb] rfl)) | ((with_reducible show wpList _ _ _ (⟨some 10, _, _, _, _, _⟩ :: _) _ _); refine wpList_load_rng 38 (.tmp 1) rfl (by kernel_rfl) _ _ rfl _ R10.out _ Tryz.underlying38 rfl (by kernel_rfl) ?_))
  try clear R7
  try clear R10
  with_reducible refine (ipwhole_any _ _ _ _ _ _ _ _ _ _ _ _ _ _ _ _ _ _ _ _ _).mono ?_
  rintro e w3 ⟨rfl, b3⟩
  replace hp := blk_u hp b3
  replace hz := blk_u hz b3
  replace hb := hb.below b3
  replace bel := bel.trans (b3.mono bel.size)
  clear b3
  rw [HW.out]
  have R15 := cell_lit hp 15 _ rfl
  go_wp2_with fail
  clear R15
  with_reducible refine (rd_read _ _ _ _ _ hb (by have := HM.out; omega)).mono ?_
  rintro e w4 ⟨gr, Ar3, cr3, rfl, ge, hh, rest, frr, avr, b4⟩
  have av_rest_p := frr.av (hlt hp)
  have av_rest_z := frr.av (hlt hz)
  have d_p_r := ne_new (hlt hp) ge
  have d_z_r := ne_new (hlt hz) ge
  have av_hb_r := hb.av_new ge
  have or := Nat.le_trans bel.size ge
  replace hp := blk_u hp b4
  replace hz := blk_u hz b4
  replace hb := hb.below b4
  replace bel := bel.trans (b4.mono bel.size)
  have hr := hh
  clear hh ge b4
  replace rest : Sl w4 (Ar3) (nb) (cr3) (h0 :: h1 :: h2 :: h3 :: h4 :: h5 :: h6 :: h7 :: r) := rest
  go_wp2_with fail
  with_reducible refine (rd_u8c _ _ _ _ _ _ _ _ hr rest).mono ?_
  rintro e w5 ⟨A4, n4, c4, rfl, hq, sq, uq, b5⟩
  replace hb := hb.away av_hb_r b5
  replace hp := blk_a hp b5 d_p_r
  replace hz := blk_a hz b5 d_z_r
  replace bel := below_grown bel b5 or bel.size
  clear b5
  clear hr rest
  have hr := hq
  have rest := sq
  clear hq sq
  have av4_rest_p := av_rest_p.sub uq
  have av4_rest_z := av_rest_z.sub uq
  have av4_rest_r := avr.sub uq
  clear uq
  go_wp2_with fail
  with_reducible refine (rd_u8c _ _ _ _ _ _ _ _ hr rest).mono ?_
  rintro e w6 ⟨A5, n5, c5, rfl, hq, sq, uq, b6⟩
  replace hb := hb.away av_hb_r b6
  replace hp := blk_a hp b6 d_p_r
  replace hz := blk_a hz b6 d_z_r
  replace bel := below_grown bel b6 or bel.size
  clear b6
  clear hr rest
  have hr := hq
  have rest := sq
  clear hq sq
  have av5_rest_p := av4_rest_p.sub uq
  have av5_rest_z := av4_rest_z.sub uq
  have av5_rest_r := av4_rest_r.sub uq
  clear uq
  go_wp2_with (first | ((with_reducible show wpList _ _ _ (⟨some 5, _, _, _, _, _⟩ :: _) _ _); refine wpList_new_a rfl 47 rfl #[.int .i64 0, .int .i64 0, .int .u32 0, .slice none 0 0] (by kernel_rfl) ?_; intro g5 w7 ge hh bb; have d_p_d := ne_new (hlt hp) ge; have d_z_d := ne_new (hlt hz) ge; have d_r_d := ne_new (hlt hr) ge; have av_hb_d := hb.av_new ge; have av_rest_d := rest.av_new ge; have od := Nat.le_trans bel.size ge; replace hp := blk_u hp bb; replace hz := blk_u hz bb; replace hr := blk_u hr bb; replace hb := hb.below bb; replace rest := rest.below bb; replace bel := bel.trans (bb.mono bel.size); have hd := hh; clear hh ge bb) | ((with_reducible show wpList _ _ _ (⟨none, Op.store _ (.tmp 5) _, _, _, _, _⟩ :: _) _ _); refine wpList_store_blk rfl 47 (.tmp 5) (.tmp 21) rfl g5 rfl _ rfl _ 47 hd (by rfl) (by kernel_rfl) (by kernel_rfl) ?_; intro w8 hq gr; replace hb := hb.away av_hb_d gr; replace rest := rest.away av_rest_d gr; replace hp := blk_a hp gr d_p_d; replace hz := blk_a hz gr d_z_d; replace hr := blk_a hr gr d_r_d; replace bel := below_grown bel gr od bel.size; clear hd; have hd := hq; clear hq gr))
  with_reducible refine (rd_u16c _ _ _ _ _ _ _ _ _ hr rest).mono ?_
  rintro e w9 ⟨A8, n8, c8, rfl, hq, sq, uq, b9⟩
  replace hb := hb.away av_hb_r b9
  replace hp := blk_a hp b9 d_p_r
  replace hz := blk_a hz b9 d_z_r
  replace hd := blk_a hd b9 (ne_symm d_r_d)
  replace bel := below_grown bel b9 or bel.size
  clear b9
  clear hr rest
  have hr := hq
  have rest := sq
  clear hq sq
  have av8_rest_p := av5_rest_p.sub uq
  have av8_rest_z := av5_rest_z.sub uq
  have av8_rest_r := av5_rest_r.sub uq
  have av8_rest_d := av_rest_d.sub uq
  clear uq
  go_wp2_with fail
  with_reducible refine (rd_u32c _ _ _ _ _ _ _ _ _ _ _ hr rest).mono ?_
  rintro e w10 ⟨A9, n9, c9, rfl, hq, sq, uq, b10⟩
  replace hb := hb.away av_hb_r b10
  replace hp := blk_a hp b10 d_p_r
  replace hz := blk_a hz b10 d_z_r
  replace hd := blk_a hd b10 (ne_symm d_r_d)
  replace bel := below_grown bel b10 or bel.size
  clear b10
  clear hr rest
  have hr := hq
  have rest := sq
  clear hq sq
  have av9_rest_p := av8_rest_p.sub uq
  have av9_rest_z := av8_rest_z.sub uq
  have av9_rest_r := av8_rest_r.sub uq
  have av9_rest_d := av8_rest_d.sub uq
  clear uq
  go_wp2_with (first | ((with_reducible show wpList _ _ _ (⟨none, Op.store _ (.tmp 26) _, _, _, _, _⟩ :: _) _ _); refine wpList_store_part rfl 45 (.tmp 26) (.tmp 25) rfl g5 2 rfl [.int .u32 (be [h4, h5, h6, h7] : Nat)] rfl [.int .i64 (h0.toNat : Int), .int .i64 (h1.toNat : Int), .int .u32 0, .slice none 0 0] 47 hd (by simp) [.int .i64 (h0.toNat : Int), .int .i64 (h1.toNat : Int), .int .u32 (be [h4, h5, h6, h7] : Nat), .slice none 0 0] rfl (by kernel_rfl) (by rfl) ?_; intro w11 hq gr; replace hb := hb.away av_hb_d gr; replace rest := rest.away av9_rest_d gr; replace hp := blk_a hp gr d_p_d; replace hz := blk_a hz gr d_z_d; replace hr := blk_a hr gr d_r_d; replace bel := below_grown bel gr od bel.size; clear hd; have hd := hq; clear hq gr))
  with_reducible refine (rd_short _ _ _ _ _ _ _ hr rest).mono ?_
  rintro e _ ⟨rfl, rfl⟩
  have R31 := cell_lit hp 15 _ rfl
  go_wp2_with fail
  clear R31
  with_reducible refine (fitsd _ _ _ _ _ hb).mono ?_
  rintro e w12 ⟨rfl, b12⟩
  replace hp := blk_u hp b12
  replace hz := blk_u hz b12
  replace hr := blk_u hr b12
  replace hd := blk_u hd b12
  replace hb := hb.below b12
  replace rest := rest.below b12
  replace bel := bel.trans (b12.mono bel.size)
  clear b12
  rw [HC.out]
  go_wp2_with fail
  with_reducible refine (rd_left _ _ _ _ _ _ _ hr rest).mono ?_
  rintro e _ ⟨rfl, rfl⟩
  rw [HM2.out]
  go_wp2_with fail
  have ob2 := bel.size
  with_reducible refine (rd_bytes (m) _ _ _ _ _ _ _ hr rest (by rw [HM2.out]; exact Nat.le_refl _) (by have := HM3.out; omega)).mono ?_
  rintro e w13 ⟨Abd, cbd, A12, n12, c12, rfl, hq, sq, uq, bd, frbd, b13⟩
  have av_bd_p := frbd.av (hlt hp)
  have av_bd_z := frbd.av (hlt hz)
  have av_bd_r := frbd.av (hlt hr)
  have av_bd_d := frbd.av (hlt hd)
  replace hb := hb.away av_hb_r b13
  replace hp := blk_a hp b13 d_p_r
  replace hz := blk_a hz b13 d_z_r
  replace hd := blk_a hd b13 (ne_symm d_r_d)
  replace bel := below_grown bel b13 or bel.size
  clear b13
  clear hr rest
  have hr := hq
  have rest := sq
  clear hq sq
  have av12_rest_p := av9_rest_p.sub uq
  have av12_rest_z := av9_rest_z.sub uq
  have av12_rest_r := av9_rest_r.sub uq
  have av12_rest_d := av9_rest_d.sub uq
  clear uq
  have fr_bd := frbd.mono ob2
  go_wp2_with (first | ((with_reducible show wpList _ _ _ (⟨none, Op.store _ (.tmp 39) _, _, _, _, _⟩ :: _) _ _); refine wpList_store_part rfl 36 (.tmp 39) (.tmp 38) rfl g5 3 rfl [.slice Abd m cbd] rfl [.int .i64 (h0.toNat : Int), .int .i64 (h1.toNat : Int), .int .u32 (be [h4, h5, h6, h7] : Nat), .slice none 0 0] 47 hd (by simp) [.int .i64 (h0.toNat : Int), .int .i64 (h1.toNat : Int), .int .u32 (be [h4, h5, h6, h7] : Nat), .slice Abd m cbd] rfl (by kernel_rfl) (by rfl) ?_; intro w14 hq gr; replace hb := hb.away av_hb_d gr; replace rest := rest.away av12_rest_d gr; replace bd := bd.away av_bd_d gr; replace hp := blk_a hp gr d_p_d; replace hz := blk_a hz gr d_z_d; replace hr := blk_a hr gr d_r_d; replace bel := below_grown bel gr od bel.size; clear hd; have hd := hq; clear hq gr; have R40 := Lib.hid (range_lit hd 0 4 [.int .i64 (h0.toNat : Int), .int .i64 (h1.toNat : Int), .int .u32 (be [h4, h5, h6, h7] : Nat), .slice Abd m cbd] rfl)) | ((with_reducible show wpList _ _ _ (⟨some 40, _, _, _, _, _⟩ :: _) _ _); refine wpList_load_rng 47 (.tmp 5) rfl (by kernel_rfl) _ _ rfl _ R40.out _ Tryz.underlying47 rfl (by kernel_rfl) ?_) | ((with_reducible show wpList _ _ _ (⟨none, Op.store _ (.tmp 2) _, _, _, _, _⟩ :: _) _ _); refine wpList_store_blk rfl 47 (.tmp 2) (.tmp 40) rfl g2 rfl _ rfl _ 47 hz (by rfl) (by kernel_rfl) (by kernel_rfl) ?_; intro w15 hq gr; replace hb := hb.away av_hb_z gr; replace rest := rest.away av12_rest_z gr; replace bd := bd.away av_bd_z gr; replace hp := blk_a hp gr d_p_z; replace hr := blk_a hr gr (ne_symm d_z_r); replace hd := blk_a hd gr (ne_symm d_z_d); replace bel := below_grown bel gr oz bel.size; clear hz; have hz := hq; clear hq gr))
  try clear R40
  exact bodyPost_ret (results_cell_tmp_row rfl _ _ _ _ _ _ _ rfl hz Tryz.underlying47 rfl (by kernel_rfl) (.int .i64 0) rfl) rfl ⟨_, _, _, r, Abd, cbd, 0, by rw [HM2.out], by rw [List.take_of_length_le (Nat.le_of_eq HM2.out)] at bd; rw [HM2.out]; exact bd, by rw [HM2.out]; exact fr_bd, bel, HP.out.symm⟩
theorem icget_any (tos id fl pt ttl pr : Int) (a0 a1 a2 a3 a4 a5 a6 a7 : UInt8) (So Sb : Option Addr) (no co nb cb : Nat) (lb : List UInt8) (w : World) (hb : Sl w Sb nb cb lb) (hm : nb ≤ 100000) : Calls Tryz.prog 21 #[.agg #[.int .i64 tos, .int .i64 id, .int .i64 fl, .int .i64 pt, .int .i64 ttl, .int .i64 pr, .int .u8 (a0.toNat : Int), .int .u8 (a1.toNat : Int), .int .u8 (a2.toNat : Int), .int .u8 (a3.toNat : Int), .int .u8 (a4.toNat : Int), .int .u8 (a5.toNat : Int), .int .u8 (a6.toNat : Int), .int .u8 (a7.toNat : Int), .slice So no co, .slice Sb nb cb]] w (MsPost (icGet fl pt pr lb) w) := by
  by_cases hp : pr = 1
  · subst hp
    rcases (by decide : ∀ b : Bool, b = true ∨ b = false) (decide (pt = 0) && decide (fl % 2 = 0)) with hw | hw
    · by_cases hn : nb < 8
      · exact icget_3 tos id fl pt ttl a0 a1 a2 a3 a4 a5 a6 a7 So Sb no co nb cb lb w hb hw hn
      · obtain ⟨h0, h1, h2, h3, h4, h5, h6, h7, r, rfl⟩ := list8 lb (by rw [hb.1]; omega)
        by_cases hc : ck (h0 :: h1 :: h2 :: h3 :: h4 :: h5 :: h6 :: h7 :: r) = 0
        · exact icget_5 tos id fl pt ttl a0 a1 a2 a3 a4 a5 a6 a7 So Sb no co nb cb h0 h1 h2 h3 h4 h5 h6 h7 r w hb hm hw hc
        · exact icget_4 tos id fl pt ttl a0 a1 a2 a3 a4 a5 a6 a7 So Sb no co nb cb h0 h1 h2 h3 h4 h5 h6 h7 r w hb hm hw hc
    · exact icget_2 tos id fl pt ttl a0 a1 a2 a3 a4 a5 a6 a7 So Sb no co nb cb lb w hw
  · exact icget_1 tos id fl pt ttl pr a0 a1 a2 a3 a4 a5 a6 a7 So Sb no co nb cb lb w hp
end Go.Proofs.YtbdaejodbcjmfaaGreat
