/- OptReads. -/
import Derived.Test.YtmbkjkcehodghaaOp7
namespace Go.Proofs.Ytmbkjkcehodghaa
open Go.RowKit

theorem eql12 (a b c d : UInt8) (W : World) : (binOp .eql 33 (.agg #[.int .u8 (a.toNat : Int), .int .u8 (b.toNat : Int), .int .u8 (c.toNat : Int), .int .u8 (d.toNat : Int)]) (.agg #[.int .u8 (a.toNat : Int), .int .u8 (b.toNat : Int), .int .u8 (c.toNat : Int), .int .u8 (d.toNat : Int)])).run Try.prog W = .ok (.bool true) W := by
  have h := run_eql_bytes (P := Try.prog) W 33 5 4 (by kernel_rfl) (by kernel_rfl) (fun w => by kernel_rfl) [a, b, c, d] [a, b, c, d] rfl rfl
  rw [beq_self_eq_true] at h
  exact h
theorem guard12 (op : BinOp) (y z : Operand) (a b : Array Value) (W : World) : (eqGuard op 33 y z (.agg a) (.agg b)).run Try.prog W = .ok () W := run_eqGuard_agg W op 33 y z _ _ (by kernel_rfl)
set_option linter.unusedVariables false in
set_option linter.unusedSimpArgs false in
set_option maxRecDepth 100000 in
set_option maxHeartbeats 16000000 in
theorem optReads_walk (A : Option Addr) (n c : Nat) (l : List UInt8) (code : Int) (w : World) (bs : Sl w A n c l) : Calls Try.prog 4 #[.slice A n c, .int .i64 code] w fun e w' => e = .returned (.bool true) ∧ Below w.heap.size w w' := by
  have gg := guard12
  have g4 := eql12
  obtain ⟨ii, hii, hz0, hz1, hz2⟩ := info_parts Try.info_u8
  have bel := Below.refl w.heap.size w
  go_enter Try.func4, Try.ntmps4
  go_wp2_with fail
  with_reducible refine (awake12_any _).mono ?_
  rintro e w1 ⟨rfl, b1⟩
  replace bs := bs.below b1
  replace bel := bel.trans (b1.mono bel.size)
  clear b1
  by_cases h15 : 1500 < n
  · have h15i : (1500 : Int) < n := by omega
    go_wp2_with fail
    go_ret
    exact ⟨rfl, bel⟩
  have h15i : decide ((1500 : Int) < n) = false := decide_eq_false (by omega)
  rcases hq : getL l [] with _ | L0
  rotate_left
  · have HG1 : Hid ((getS l).1 = L0) := Lib.hid (by rw [gets_ok hq])
    have HG2 : Hid ((getS l).2 = 0) := Lib.hid (by rw [gets_ok hq])
    have HG3 : Hid ((getL l []).isSome = true) := Lib.hid (by rw [hq]; rfl)
    clear hq
    obtain ⟨lf, hlf⟩ : ∃ x, (findL (L0) code).getD [] = x := ⟨_, rfl⟩
    obtain ⟨fo, hfo⟩ : ∃ x, (findL (L0) code).isSome = x := ⟨_, rfl⟩
    obtain ⟨fa, hfa⟩ : ∃ x, (fourL (findL (L0) code)).2 = x := ⟨_, rfl⟩
    obtain ⟨sa, hsa⟩ : ∃ x, ((be (fourL (findL (L0) code)).1 : Nat) : Int) = x := ⟨_, rfl⟩
    have HLF := Lib.hid hlf
    have HFO := Lib.hid hfo
    have HFA := Lib.hid hfa
    have HSA := Lib.hid hsa
    clear hlf hfo hfa hsa
    go_wp2_with (first | ((with_reducible show wpList _ _ _ (⟨some 27, _, _, _, _, _⟩ :: _) _ _); refine wpList_lit_n rfl 27 5 0 _ rfl #[] (.int .u8 0) Try.underlying27 (by kernel_rfl) 1 (by kernel_rfl) (by decide) (by kernel_rfl) ?_; intro g27 w2 ge lt hh bb; have hl : w2.heap[g27]? = some (.cells (([] : List UInt8).map u8v).toArray 5 (0, 0)) := (by simpa [u8v, byteOf_val] using hh); have ebw := own_lit (B := w1.heap.size) ([]) hl ge 0 rfl (by simp [maxLen]); have eb := (own_sl ebw).1; have eblo := bel.size; clear hl; have ebge := ge; have lz_eb := bb.size; have bl_bs_eb := bs.bl_new; replace bs := bs.below bb; replace bel := bel.trans (bb.mono bel.size); clear hh lt ge bb) | ((with_reducible show wpList _ _ _ (⟨some 29, _, _, _, _, _⟩ :: _) _ _); refine wpList_append_bb _ rfl (.tmp 27) (.tmp 28) 27 rfl (w1.heap.size) 5 ii (.int .u8 0) Try.underlying27 hii hz0 hz1 hz2 rfl _ (0) ([]) rfl ebw (A) (n) (c) (l) rfl bs (by omega) lz_eb ?_; intro v29 w3 own_ bb; replace bs := bs.under bl_bs_eb bb; replace bel := bel.trans (bb.mono eblo); have lz_rb := Nat.le_trans lz_eb bb.size; clear bb; clear eb ebw lz_eb; replace own_ : w3.ownsRow (w1.heap.size) 5 1 v29 (n) ((l : List UInt8).map u8v) := (by simpa using own_); obtain ⟨A29, c29, rfl⟩ := own_val own_; have rbw := own_; have rb := (own_sl own_).1; have fr_rb := (own_sl own_).2; clear own_))
    with_reducible refine (oget_any _ rb (by omega)).mono ?_
    rintro e w4 ⟨A1, n1, c1, hs, rfl, ⟨en, hbd⟩, hn1, hb1, b4⟩
    replace bs := bs.below b4
    replace rb := rb.below b4
    replace rbw := own_under rbw b4
    replace lz_rb := Nat.le_trans lz_rb b4.size
    replace bel := bel.trans (b4.mono bel.size)
    clear b4
    replace en : Sle opE 2 w4 (A1) (n1) (c1) (hs) := en
    rw [HG1.out] at hbd
    rw [HG2.out]
    have HBD := Lib.hid hbd
    have HN1 := Lib.hid hn1
    have HB1 := Lib.hid hb1
    have HWD := Lib.hid (Below.refl w4.heap.size w4)
    clear hn1 hb1 hbd
    have bd1 := Below.refl w4.heap.size w4
    go_wp2_with fail
    replace HWD := HWD
    with_reducible refine (rget12_any _ bs (by omega)).mono ?_
    rintro e w5 ⟨A7, n7, c7, hs7, rfl, ⟨em, hbe⟩, hn7, hb7, b5⟩
    replace bs := bs.below b5
    replace rb := rb.below b5
    replace rbw := own_under rbw b5
    replace en := en.below b5
    replace lz_rb := Nat.le_trans lz_rb b5.size
    replace bd1 := bd1.trans (b5.mono bd1.size)
    replace bel := bel.trans (b5.mono bel.size)
    clear b5
    replace em : Sle opE 2 w5 (A7) (n7) (c7) (hs7) := em
    rw [HG1.out] at hbe
    rw [HG3.out]
    have HBE := Lib.hid hbe
    have HN7 := Lib.hid hn7
    have HWE := Lib.hid (Below.refl w5.heap.size w5)
    clear hn7 hb7 hbe
    have bd2 := Below.refl w5.heap.size w5
    go_wp2_with fail
    with_reducible refine (own12_any _ en HN1.out).mono ?_
    rintro e w6 ⟨A52, c52, rfl, eo, b6⟩
    replace bs := bs.below b6
    replace rb := rb.below b6
    replace rbw := own_under rbw b6
    replace en := en.below b6
    replace em := em.below b6
    replace lz_rb := Nat.le_trans lz_rb b6.size
    replace bd1 := bd1.trans (b6.mono bd1.size)
    replace bd2 := bd2.trans (b6.mono bd2.size)
    replace bel := bel.trans (b6.mono bel.size)
    clear b6
    replace eo : Sle opE 2 w6 (A52) (n1) (c52) (hs) := eo
    go_wp2_with fail
    with_reducible refine (same12_any _ eo (HBD.out.below bd1) em (HBE.out.below bd2) HN1.out).mono ?_
    rintro e w7 ⟨rfl, b7⟩
    replace bs := bs.below b7
    replace rb := rb.below b7
    replace rbw := own_under rbw b7
    replace en := en.below b7
    replace em := em.below b7
    replace eo := eo.below b7
    replace lz_rb := Nat.le_trans lz_rb b7.size
    replace bd1 := bd1.trans (b7.mono bd1.size)
    replace bd2 := bd2.trans (b7.mono bd2.size)
    replace bel := bel.trans (b7.mono bel.size)
    clear b7
    go_wp2_with fail
    with_reducible refine (ofind_any _ en (HBD.out.below bd1) HN1.out HB1.out).mono ?_
    rintro e w8 ⟨A57, n57, c57, rfl, xa, b8⟩
    replace bs := bs.below b8
    replace rb := rb.below b8
    replace rbw := own_under rbw b8
    replace en := en.below b8
    replace em := em.below b8
    replace eo := eo.below b8
    replace lz_rb := Nat.le_trans lz_rb b8.size
    replace bd1 := bd1.trans (b8.mono bd1.size)
    replace bd2 := bd2.trans (b8.mono bd2.size)
    replace bel := bel.trans (b8.mono bel.size)
    clear b8
    rw [HLF.out] at xa
    rw [HFO.out]
    go_wp2_with fail
    with_reducible refine (rfind_any _ em (HBE.out.below bd2) HN7.out).mono ?_
    rintro e w9 ⟨A63, n63, c63, rfl, xc, b9⟩
    replace bs := bs.below b9
    replace rb := rb.below b9
    replace rbw := own_under rbw b9
    replace en := en.below b9
    replace em := em.below b9
    replace eo := eo.below b9
    replace xa := xa.below b9
    replace lz_rb := Nat.le_trans lz_rb b9.size
    replace bd1 := bd1.trans (b9.mono bd1.size)
    replace bd2 := bd2.trans (b9.mono bd2.size)
    replace bel := bel.trans (b9.mono bel.size)
    clear b9
    rw [HLF.out] at xc
    rw [HFO.out]
    go_wp2_with fail
    with_reducible refine (oaddr_any _ en (HBD.out.below bd1) HN1.out HB1.out).mono ?_
    rintro e w10 ⟨x1, y1, z1, u1, hq1, rfl, b10⟩
    replace bs := bs.below b10
    replace rb := rb.below b10
    replace rbw := own_under rbw b10
    replace en := en.below b10
    replace em := em.below b10
    replace eo := eo.below b10
    replace xa := xa.below b10
    replace xc := xc.below b10
    replace lz_rb := Nat.le_trans lz_rb b10.size
    replace bd1 := bd1.trans (b10.mono bd1.size)
    replace bd2 := bd2.trans (b10.mono bd2.size)
    replace bel := bel.trans (b10.mono bel.size)
    clear b10
    rw [HFA.out]
    go_wp2_with (first | ((with_reducible show wpList _ _ _ (⟨some 13, _, _, _, _, _⟩ :: _) _ _); refine wpList_new_a rfl 33 rfl #[.int .u8 0, .int .u8 0, .int .u8 0, .int .u8 0] (by kernel_rfl) ?_; intro g13 w11 ge hh bb; have av_bs_ub := bs.av_new ge; have av_rb_ub := rb.av_new ge; have of_rb_ub := own_new rbw ge; have av_en_ub := en.av_new ge; have av_em_ub := em.av_new ge; have av_eo_ub := eo.av_new ge; have av_xa_ub := xa.av_new ge; have av_xc_ub := xc.av_new ge; have oub := Nat.le_trans bel.size ge; have o1_ub := Nat.le_trans bd1.size ge; have o2_ub := Nat.le_trans bd2.size ge; replace bs := bs.below bb; replace rb := rb.below bb; replace rbw := own_under rbw bb; replace en := en.below bb; replace em := em.below bb; replace eo := eo.below bb; replace xa := xa.below bb; replace xc := xc.below bb; replace lz_rb := Nat.le_trans lz_rb bb.size; replace bd1 := bd1.trans (bb.mono bd1.size); replace bd2 := bd2.trans (bb.mono bd2.size); replace bel := bel.trans (bb.mono bel.size); have hub := hh; clear hh ge bb) | ((with_reducible show wpList _ _ _ (⟨none, Op.store _ (.tmp 13) _, _, _, _, _⟩ :: _) _ _); refine wpList_store_blk rfl 33 (.tmp 13) (.tmp 73) rfl g13 rfl _ rfl _ 33 hub (by rfl) (by kernel_rfl) (by kernel_rfl) ?_; intro w12 hq gr; replace bs := bs.away av_bs_ub gr; replace rb := rb.away av_rb_ub gr; replace rbw := own_off rbw of_rb_ub gr; replace en := en.away av_en_ub gr; replace em := em.away av_em_ub gr; replace eo := eo.away av_eo_ub gr; replace xa := xa.away av_xa_ub gr; replace xc := xc.away av_xc_ub gr; replace lz_rb := Nat.le_trans lz_rb gr.size; replace bd1 := below_grown bd1 gr o1_ub bd1.size; replace bd2 := below_grown bd2 gr o2_ub bd2.size; replace bel := below_grown bel gr oub bel.size; clear hub; have hub := hq; clear hq gr))
    with_reducible refine (raddr_any _ em (HBE.out.below bd2) HN7.out).mono ?_
    rintro e w13 ⟨x2, y2, z2, u2, hq2, rfl, b13⟩
    replace hub := blk_u hub b13
    replace bs := bs.below b13
    replace rb := rb.below b13
    replace rbw := own_under rbw b13
    replace en := en.below b13
    replace em := em.below b13
    replace eo := eo.below b13
    replace xa := xa.below b13
    replace xc := xc.below b13
    replace lz_rb := Nat.le_trans lz_rb b13.size
    replace bd1 := bd1.trans (b13.mono bd1.size)
    replace bd2 := bd2.trans (b13.mono bd2.size)
    replace bel := bel.trans (b13.mono bel.size)
    clear b13
    rw [HFA.out]
    have hh := hq1.symm.trans hq2
    simp only [List.cons.injEq, and_true] at hh
    obtain ⟨rfl, rfl, rfl, rfl⟩ := hh
    clear hq1 hq2
    go_wp2_with (first | ((with_reducible show wpList _ _ _ (⟨some 15, _, _, _, _, _⟩ :: _) _ _); refine wpList_new_a rfl 33 rfl #[.int .u8 0, .int .u8 0, .int .u8 0, .int .u8 0] (by kernel_rfl) ?_; intro g15 w14 ge hh bb; have d_ub_vb := ne_new (hlt hub) ge; have av_bs_vb := bs.av_new ge; have av_rb_vb := rb.av_new ge; have of_rb_vb := own_new rbw ge; have av_en_vb := en.av_new ge; have av_em_vb := em.av_new ge; have av_eo_vb := eo.av_new ge; have av_xa_vb := xa.av_new ge; have av_xc_vb := xc.av_new ge; have ovb := Nat.le_trans bel.size ge; have o1_vb := Nat.le_trans bd1.size ge; have o2_vb := Nat.le_trans bd2.size ge; replace hub := blk_u hub bb; replace bs := bs.below bb; replace rb := rb.below bb; replace rbw := own_under rbw bb; replace en := en.below bb; replace em := em.below bb; replace eo := eo.below bb; replace xa := xa.below bb; replace xc := xc.below bb; replace lz_rb := Nat.le_trans lz_rb bb.size; replace bd1 := bd1.trans (bb.mono bd1.size); replace bd2 := bd2.trans (bb.mono bd2.size); replace bel := bel.trans (bb.mono bel.size); have hvb := hh; clear hh ge bb) | ((with_reducible show wpList _ _ _ (⟨none, Op.store _ (.tmp 15) _, _, _, _, _⟩ :: _) _ _); refine wpList_store_blk rfl 33 (.tmp 15) (.tmp 79) rfl g15 rfl _ rfl _ 33 hvb (by rfl) (by kernel_rfl) (by kernel_rfl) ?_; intro w15 hq gr; replace bs := bs.away av_bs_vb gr; replace rb := rb.away av_rb_vb gr; replace rbw := own_off rbw of_rb_vb gr; replace en := en.away av_en_vb gr; replace em := em.away av_em_vb gr; replace eo := eo.away av_eo_vb gr; replace xa := xa.away av_xa_vb gr; replace xc := xc.away av_xc_vb gr; replace lz_rb := Nat.le_trans lz_rb gr.size; replace hub := blk_a hub gr d_ub_vb; replace bd1 := below_grown bd1 gr o1_vb bd1.size; replace bd2 := below_grown bd2 gr o2_vb bd2.size; replace bel := below_grown bel gr ovb bel.size; clear hvb; have hvb := hq; clear hq gr))
    with_reducible refine (osecs_any _ en (HBD.out.below bd1) HN1.out HB1.out).mono ?_
    rintro e w16 ⟨rfl, b16⟩
    replace hub := blk_u hub b16
    replace hvb := blk_u hvb b16
    replace bs := bs.below b16
    replace rb := rb.below b16
    replace rbw := own_under rbw b16
    replace en := en.below b16
    replace em := em.below b16
    replace eo := eo.below b16
    replace xa := xa.below b16
    replace xc := xc.below b16
    replace lz_rb := Nat.le_trans lz_rb b16.size
    replace bd1 := bd1.trans (b16.mono bd1.size)
    replace bd2 := bd2.trans (b16.mono bd2.size)
    replace bel := bel.trans (b16.mono bel.size)
    clear b16
    rw [HFA.out, HSA.out]
    go_wp2_with fail
    with_reducible refine (rsecs_any _ em (HBE.out.below bd2) HN7.out).mono ?_
    rintro e w17 ⟨rfl, b17⟩
    replace hub := blk_u hub b17
    replace hvb := blk_u hvb b17
    replace bs := bs.below b17
    replace rb := rb.below b17
    replace rbw := own_under rbw b17
    replace en := en.below b17
    replace em := em.below b17
    replace eo := eo.below b17
    replace xa := xa.below b17
    replace xc := xc.below b17
    replace lz_rb := Nat.le_trans lz_rb b17.size
    replace bd1 := bd1.trans (b17.mono bd1.size)
    replace bd2 := bd2.trans (b17.mono bd2.size)
    replace bel := bel.trans (b17.mono bel.size)
    clear b17
    rw [HFA.out, HSA.out]
    have st94 := xa.str (P := Try.prog) 27 5 9 Try.underlying27 Try.underlying5 Try.underlying9
    have st96 := xc.str (P := Try.prog) 27 5 9 Try.underlying27 Try.underlying5 Try.underlying9
    have R104 := Lib.hid (range_lit hub 0 4 [.int .u8 (x1.toNat : Int), .int .u8 (y1.toNat : Int), .int .u8 (z1.toNat : Int), .int .u8 (u1.toNat : Int)] rfl)
    go_wp2_with (first | ((with_reducible show wpList _ _ _ (⟨some 104, _, _, _, _, _⟩ :: _) _ _); refine wpList_load_rng 33 (.tmp 13) rfl (by kernel_rfl) _ _ rfl _ R104.out _ Try.underlying33 rfl (by kernel_rfl) ?_; have R105 := Lib.hid (range_lit hvb 0 4 [.int .u8 (x1.toNat : Int), .int .u8 (y1.toNat : Int), .int .u8 (z1.toNat : Int), .int .u8 (u1.toNat : Int)] rfl)) | ((with_reducible show wpList _ _ _ (⟨some 105, _, _, _, _, _⟩ :: _) _ _); refine wpList_load_rng 33 (.tmp 15) rfl (by kernel_rfl) _ _ rfl _ R105.out _ Try.underlying33 rfl (by kernel_rfl) ?_))
    try clear st94
    try clear st96
    try clear R104
    try clear R105
    go_ret
    exact ⟨rfl, bel⟩
  have HG1 : Hid ((getS l).1 = []) := Lib.hid (by rw [gets_no hq])
  have HG2 : Hid ((getS l).2 = 3) := Lib.hid (by rw [gets_no hq])
  have HG3 : Hid ((getL l []).isSome = false) := Lib.hid (by rw [hq]; rfl)
  clear hq
  obtain ⟨lf, hlf⟩ : ∃ x, (findL ([]) code).getD [] = x := ⟨_, rfl⟩
  obtain ⟨fo, hfo⟩ : ∃ x, (findL ([]) code).isSome = x := ⟨_, rfl⟩
  obtain ⟨fa, hfa⟩ : ∃ x, (fourL (findL ([]) code)).2 = x := ⟨_, rfl⟩
  obtain ⟨sa, hsa⟩ : ∃ x, ((be (fourL (findL ([]) code)).1 : Nat) : Int) = x := ⟨_, rfl⟩
  have HLF := Lib.hid hlf
  have HFO := Lib.hid hfo
  have HFA := Lib.hid hfa
  have HSA := Lib.hid hsa
  clear hlf hfo hfa hsa
  go_wp2_with (first | ((with_reducible show wpList _ _ _ (⟨some 27, _, _, _, _, _⟩ :: _) _ _); refine wpList_lit_n rfl 27 5 0 _ rfl #[] (.int .u8 0) Try.underlying27 (by kernel_rfl) 1 (by kernel_rfl) (by decide) (by kernel_rfl) ?_; intro g27 w2 ge lt hh bb; have hl : w2.heap[g27]? = some (.cells (([] : List UInt8).map u8v).toArray 5 (0, 0)) := (by simpa [u8v, byteOf_val] using hh); have ebw := own_lit (B := w1.heap.size) ([]) hl ge 0 rfl (by simp [maxLen]); have eb := (own_sl ebw).1; have eblo := bel.size; clear hl; have ebge := ge; have lz_eb := bb.size; have bl_bs_eb := bs.bl_new; replace bs := bs.below bb; replace bel := bel.trans (bb.mono bel.size); clear hh lt ge bb) | ((with_reducible show wpList _ _ _ (⟨some 29, _, _, _, _, _⟩ :: _) _ _); refine wpList_append_bb _ rfl (.tmp 27) (.tmp 28) 27 rfl (w1.heap.size) 5 ii (.int .u8 0) Try.underlying27 hii hz0 hz1 hz2 rfl _ (0) ([]) rfl ebw (A) (n) (c) (l) rfl bs (by omega) lz_eb ?_; intro v29 w3 own_ bb; replace bs := bs.under bl_bs_eb bb; replace bel := bel.trans (bb.mono eblo); have lz_rb := Nat.le_trans lz_eb bb.size; clear bb; clear eb ebw lz_eb; replace own_ : w3.ownsRow (w1.heap.size) 5 1 v29 (n) ((l : List UInt8).map u8v) := (by simpa using own_); obtain ⟨A29, c29, rfl⟩ := own_val own_; have rbw := own_; have rb := (own_sl own_).1; have fr_rb := (own_sl own_).2; clear own_))
  with_reducible refine (oget_any _ rb (by omega)).mono ?_
  rintro e w4 ⟨A1, n1, c1, hs, rfl, ⟨en, hbd⟩, hn1, hb1, b4⟩
  replace bs := bs.below b4
  replace rb := rb.below b4
  replace rbw := own_under rbw b4
  replace lz_rb := Nat.le_trans lz_rb b4.size
  replace bel := bel.trans (b4.mono bel.size)
  clear b4
  replace en : Sle opE 2 w4 (A1) (n1) (c1) (hs) := en
  rw [HG1.out] at hbd
  rw [HG2.out]
  have HBD := Lib.hid hbd
  have HN1 := Lib.hid hn1
  have HB1 := Lib.hid hb1
  have HWD := Lib.hid (Below.refl w4.heap.size w4)
  clear hn1 hb1 hbd
  have bd1 := Below.refl w4.heap.size w4
  go_wp2_with fail
  replace HWD := HWD
  with_reducible refine (rget12_any _ bs (by omega)).mono ?_
  rintro e w5 ⟨A7, n7, c7, hs7, rfl, ⟨em, hbe⟩, hn7, hb7, b5⟩
  replace bs := bs.below b5
  replace rb := rb.below b5
  replace rbw := own_under rbw b5
  replace en := en.below b5
  replace lz_rb := Nat.le_trans lz_rb b5.size
  replace bd1 := bd1.trans (b5.mono bd1.size)
  replace bel := bel.trans (b5.mono bel.size)
  clear b5
  replace em : Sle opE 2 w5 (A7) (n7) (c7) (hs7) := em
  rw [HG1.out] at hbe
  rw [HG3.out]
  have HBE := Lib.hid hbe
  have HN7 := Lib.hid hn7
  have HWE := Lib.hid (Below.refl w5.heap.size w5)
  clear hn7 hb7 hbe
  have bd2 := Below.refl w5.heap.size w5
  go_wp2_with fail
  with_reducible refine (own12_any _ en HN1.out).mono ?_
  rintro e w6 ⟨A52, c52, rfl, eo, b6⟩
  replace bs := bs.below b6
  replace rb := rb.below b6
  replace rbw := own_under rbw b6
  replace en := en.below b6
  replace em := em.below b6
  replace lz_rb := Nat.le_trans lz_rb b6.size
  replace bd1 := bd1.trans (b6.mono bd1.size)
  replace bd2 := bd2.trans (b6.mono bd2.size)
  replace bel := bel.trans (b6.mono bel.size)
  clear b6
  replace eo : Sle opE 2 w6 (A52) (n1) (c52) (hs) := eo
  go_wp2_with fail
  with_reducible refine (same12_any _ eo (HBD.out.below bd1) em (HBE.out.below bd2) HN1.out).mono ?_
  rintro e w7 ⟨rfl, b7⟩
  replace bs := bs.below b7
  replace rb := rb.below b7
  replace rbw := own_under rbw b7
  replace en := en.below b7
  replace em := em.below b7
  replace eo := eo.below b7
  replace lz_rb := Nat.le_trans lz_rb b7.size
  replace bd1 := bd1.trans (b7.mono bd1.size)
  replace bd2 := bd2.trans (b7.mono bd2.size)
  replace bel := bel.trans (b7.mono bel.size)
  clear b7
  go_wp2_with fail
  with_reducible refine (ofind_any _ en (HBD.out.below bd1) HN1.out HB1.out).mono ?_
  rintro e w8 ⟨A57, n57, c57, rfl, xa, b8⟩
  replace bs := bs.below b8
  replace rb := rb.below b8
  replace rbw := own_under rbw b8
  replace en := en.below b8
  replace em := em.below b8
  replace eo := eo.below b8
  replace lz_rb := Nat.le_trans lz_rb b8.size
  replace bd1 := bd1.trans (b8.mono bd1.size)
  replace bd2 := bd2.trans (b8.mono bd2.size)
  replace bel := bel.trans (b8.mono bel.size)
  clear b8
  rw [HLF.out] at xa
  rw [HFO.out]
  go_wp2_with fail
  with_reducible refine (rfind_any _ em (HBE.out.below bd2) HN7.out).mono ?_
  rintro e w9 ⟨A63, n63, c63, rfl, xc, b9⟩
  replace bs := bs.below b9
  replace rb := rb.below b9
  replace rbw := own_under rbw b9
  replace en := en.below b9
  replace em := em.below b9
  replace eo := eo.below b9
  replace xa := xa.below b9
  replace lz_rb := Nat.le_trans lz_rb b9.size
  replace bd1 := bd1.trans (b9.mono bd1.size)
  replace bd2 := bd2.trans (b9.mono bd2.size)
  replace bel := bel.trans (b9.mono bel.size)
  clear b9
  rw [HLF.out] at xc
  rw [HFO.out]
  go_wp2_with fail
  with_reducible refine (oaddr_any _ en (HBD.out.below bd1) HN1.out HB1.out).mono ?_
  rintro e w10 ⟨x1, y1, z1, u1, hq1, rfl, b10⟩
  replace bs := bs.below b10
  replace rb := rb.below b10
  replace rbw := own_under rbw b10
  replace en := en.below b10
  replace em := em.below b10
  replace eo := eo.below b10
  replace xa := xa.below b10
  replace xc := xc.below b10
  replace lz_rb := Nat.le_trans lz_rb b10.size
  replace bd1 := bd1.trans (b10.mono bd1.size)
  replace bd2 := bd2.trans (b10.mono bd2.size)
  replace bel := bel.trans (b10.mono bel.size)
  clear b10
  rw [HFA.out]
  go_wp2_with (first | ((with_reducible show wpList _ _ _ (⟨some 13, _, _, _, _, _⟩ :: _) _ _); refine wpList_new_a rfl 33 rfl #[.int .u8 0, .int .u8 0, .int .u8 0, .int .u8 0] (by kernel_rfl) ?_; intro g13 w11 ge hh bb; have av_bs_ub := bs.av_new ge; have av_rb_ub := rb.av_new ge; have of_rb_ub := own_new rbw ge; have av_en_ub := en.av_new ge; have av_em_ub := em.av_new ge; have av_eo_ub := eo.av_new ge; have av_xa_ub := xa.av_new ge; have av_xc_ub := xc.av_new ge; have oub := Nat.le_trans bel.size ge; have o1_ub := Nat.le_trans bd1.size ge; have o2_ub := Nat.le_trans bd2.size ge; replace bs := bs.below bb; replace rb := rb.below bb; replace rbw := own_under rbw bb; replace en := en.below bb; replace em := em.below bb; replace eo := eo.below bb; replace xa := xa.below bb; replace xc := xc.below bb; replace lz_rb := Nat.le_trans lz_rb bb.size; replace bd1 := bd1.trans (bb.mono bd1.size); replace bd2 := bd2.trans (bb.mono bd2.size); replace bel := bel.trans (bb.mono bel.size); have hub := hh; clear hh ge bb) | ((with_reducible show wpList _ _ _ (⟨none, Op.store _ (.tmp 13) _, _, _, _, _⟩ :: _) _ _); refine wpList_store_blk rfl 33 (.tmp 13) (.tmp 73) rfl g13 rfl _ rfl _ 33 hub (by rfl) (by kernel_rfl) (by kernel_rfl) ?_; intro w12 hq gr; replace bs := bs.away av_bs_ub gr; replace rb := rb.away av_rb_ub gr; replace rbw := own_off rbw of_rb_ub gr; replace en := en.away av_en_ub gr; replace em := em.away av_em_ub gr; replace eo := eo.away av_eo_ub gr; replace xa := xa.away av_xa_ub gr; replace xc := xc.away av_xc_ub gr; replace lz_rb := Nat.le_trans lz_rb gr.size; replace bd1 := below_grown bd1 gr o1_ub bd1.size; replace bd2 := below_grown bd2 gr o2_ub bd2.size; replace bel := below_grown bel gr oub bel.size; clear hub; have hub := hq; clear hq gr))
  with_reducible refine (raddr_any _ em (HBE.out.below bd2) HN7.out).mono ?_
  rintro e w13 ⟨x2, y2, z2, u2, hq2, rfl, b13⟩
  replace hub := blk_u hub b13
  replace bs := bs.below b13
  replace rb := rb.below b13
  replace rbw := own_under rbw b13
  replace en := en.below b13
  replace em := em.below b13
  replace eo := eo.below b13
  replace xa := xa.below b13
  replace xc := xc.below b13
  replace lz_rb := Nat.le_trans lz_rb b13.size
  replace bd1 := bd1.trans (b13.mono bd1.size)
  replace bd2 := bd2.trans (b13.mono bd2.size)
  replace bel := bel.trans (b13.mono bel.size)
  clear b13
  rw [HFA.out]
  have hh := hq1.symm.trans hq2
  simp only [List.cons.injEq, and_true] at hh
  obtain ⟨rfl, rfl, rfl, rfl⟩ := hh
  clear hq1 hq2
  go_wp2_with (first | ((with_reducible show wpList _ _ _ (⟨some 15, _, _, _, _, _⟩ :: _) _ _); refine wpList_new_a rfl 33 rfl #[.int .u8 0, .int .u8 0, .int .u8 0, .int .u8 0] (by kernel_rfl) ?_; intro g15 w14 ge hh bb; have d_ub_vb := ne_new (hlt hub) ge; have av_bs_vb := bs.av_new ge; have av_rb_vb := rb.av_new ge; have of_rb_vb := own_new rbw ge; have av_en_vb := en.av_new ge; have av_em_vb := em.av_new ge; have av_eo_vb := eo.av_new ge; have av_xa_vb := xa.av_new ge; have av_xc_vb := xc.av_new ge; have ovb := Nat.le_trans bel.size ge; have o1_vb := Nat.le_trans bd1.size ge; have o2_vb := Nat.le_trans bd2.size ge; replace hub := blk_u hub bb; replace bs := bs.below bb; replace rb := rb.below bb; replace rbw := own_under rbw bb; replace en := en.below bb; replace em := em.below bb; replace eo := eo.below bb; replace xa := xa.below bb; replace xc := xc.below bb; replace lz_rb := Nat.le_trans lz_rb bb.size; replace bd1 := bd1.trans (bb.mono bd1.size); replace bd2 := bd2.trans (bb.mono bd2.size); replace bel := bel.trans (bb.mono bel.size); have hvb := hh; clear hh ge bb) | ((with_reducible show wpList _ _ _ (⟨none, Op.store _ (.tmp 15) _, _, _, _, _⟩ :: _) _ _); refine wpList_store_blk rfl 33 (.tmp 15) (.tmp 79) rfl g15 rfl _ rfl _ 33 hvb (by rfl) (by kernel_rfl) (by kernel_rfl) ?_; intro w15 hq gr; replace bs := bs.away av_bs_vb gr; replace rb := rb.away av_rb_vb gr; replace rbw := own_off rbw of_rb_vb gr; replace en := en.away av_en_vb gr; replace em := em.away av_em_vb gr; replace eo := eo.away av_eo_vb gr; replace xa := xa.away av_xa_vb gr; replace xc := xc.away av_xc_vb gr; replace lz_rb := Nat.le_trans lz_rb gr.size; replace hub := blk_a hub gr d_ub_vb; replace bd1 := below_grown bd1 gr o1_vb bd1.size; replace bd2 := below_grown bd2 gr o2_vb bd2.size; replace bel := below_grown bel gr ovb bel.size; clear hvb; have hvb := hq; clear hq gr))
  with_reducible refine (osecs_any _ en (HBD.out.below bd1) HN1.out HB1.out).mono ?_
  rintro e w16 ⟨rfl, b16⟩
  replace hub := blk_u hub b16
  replace hvb := blk_u hvb b16
  replace bs := bs.below b16
  replace rb := rb.below b16
  replace rbw := own_under rbw b16
  replace en := en.below b16
  replace em := em.below b16
  replace eo := eo.below b16
  replace xa := xa.below b16
  replace xc := xc.below b16
  replace lz_rb := Nat.le_trans lz_rb b16.size
  replace bd1 := bd1.trans (b16.mono bd1.size)
  replace bd2 := bd2.trans (b16.mono bd2.size)
  replace bel := bel.trans (b16.mono bel.size)
  clear b16
  rw [HFA.out, HSA.out]
  go_wp2_with fail
  with_reducible refine (rsecs_any _ em (HBE.out.below bd2) HN7.out).mono ?_
  rintro e w17 ⟨rfl, b17⟩
  replace hub := blk_u hub b17
  replace hvb := blk_u hvb b17
  replace bs := bs.below b17
  replace rb := rb.below b17
  replace rbw := own_under rbw b17
  replace en := en.below b17
  replace em := em.below b17
  replace eo := eo.below b17
  replace xa := xa.below b17
  replace xc := xc.below b17
  replace lz_rb := Nat.le_trans lz_rb b17.size
  replace bd1 := bd1.trans (b17.mono bd1.size)
  replace bd2 := bd2.trans (b17.mono bd2.size)
  replace bel := bel.trans (b17.mono bel.size)
  clear b17
  rw [HFA.out, HSA.out]
  have st94 := xa.str (P := Try.prog) 27 5 9 Try.underlying27 Try.underlying5 Try.underlying9
  have st96 := xc.str (P := Try.prog) 27 5 9 Try.underlying27 Try.underlying5 Try.underlying9
  have R104 := Lib.hid (range_lit hub 0 4 [.int .u8 (x1.toNat : Int), .int .u8 (y1.toNat : Int), .int .u8 (z1.toNat : Int), .int .u8 (u1.toNat : Int)] rfl)
  go_wp2_with (first | ((with_reducible show wpList _ _ _ (⟨some 104, _, _, _, _, _⟩ :: _) _ _); refine wpList_load_rng 33 (.tmp 13) rfl (by kernel_rfl) _ _ rfl _ R104.out _ Try.underlying33 rfl (by kernel_rfl) ?_; have R105 := Lib.hid (range_lit hvb 0 4 [.int .u8 (x1.toNat : Int), .int .u8 (y1.toNat : Int), .int .u8 (z1.toNat : Int), .int .u8 (u1.toNat : Int)] rfl)) | ((with_reducible show wpList _ _ _ (⟨some 105, _, _, _, _, _⟩ :: _) _ _); refine wpList_load_rng 33 (.tmp 15) rfl (by kernel_rfl) _ _ rfl _ R105.out _ Try.underlying33 rfl (by kernel_rfl) ?_))
  try clear st94
  try clear st96
  try clear R104
  try clear R105
  go_ret
  exact ⟨rfl, bel⟩
end Go.Proofs.Ytmbkjkcehodghaa
