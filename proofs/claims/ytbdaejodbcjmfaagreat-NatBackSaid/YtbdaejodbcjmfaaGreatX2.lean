/- Texts put together: Law19b. -/
import Derived.Test.YtbdaejodbcjmfaaGreatQ1
import Derived.Test.YtbdaejodbcjmfaaGreatQ2
import Derived.Test.YtbdaejodbcjmfaaGreatQ3
import Derived.Test.YtbdaejodbcjmfaaGreatQ4
import Derived.Test.YtbdaejodbcjmfaaGreatQ5
import Derived.Test.YtbdaejodbcjmfaaGreatQ6
import Derived.Test.YtbdaejodbcjmfaaGreatQ7
import Derived.Test.YtbdaejodbcjmfaaGreatQ8
import Derived.Test.YtbdaejodbcjmfaaGreatQ9
import Derived.Test.YtbdaejodbcjmfaaGreatQ10
import Derived.Test.YtbdaejodbcjmfaaGreatQ11
import Derived.Test.YtbdaejodbcjmfaaGreatQ12
import Derived.Test.YtbdaejodbcjmfaaGreatQ13
import Derived.Test.YtbdaejodbcjmfaaGreatX1
namespace Go.Proofs.YtbdaejodbcjmfaaGreat
open Go.RowKit
open Go.RowKit

set_option linter.unusedVariables false in
set_option maxRecDepth 100000 in
theorem b_put {m0 m1 m2 m3 : UInt8} {port fp : Int} {n : Nat} {L : List UInt8} {So D : Option Addr} {co cd : Nat} (w : World) (po : Sl w So 4 co [1, 1, 1, 0]) (pb : Sl w D n cd L) (h1 : 1 ≤ port) (h2 : port ≤ 65535) (h3 : 0 ≤ fp) (h4 : fp ≤ 65535) (hn : n ≤ 1000) (hld : L.length = n) : Calls Tryz.prog 25 #[.agg #[.int .i64 3, .int .i64 9, .int .i64 2, .int .i64 0, .int .i64 55, .int .i64 0, .int .u8 (m0.toNat : Int), .int .u8 (m1.toNat : Int), .int .u8 (m2.toNat : Int), .int .u8 (m3.toNat : Int), .int .u8 203, .int .u8 0, .int .u8 113, .int .u8 7, .slice So 4 co, .slice none 0 0], .agg #[.int .i64 fp, .int .i64 (nQ port), .slice D n cd]] w fun e w' => ∃ Ao co' Ab cb', e = .returned (.tuple #[.agg #[.int .i64 3, .int .i64 9, .int .i64 2, .int .i64 0, .int .i64 55, .int .i64 17, .int .u8 (m0.toNat : Int), .int .u8 (m1.toNat : Int), .int .u8 (m2.toNat : Int), .int .u8 (m3.toNat : Int), .int .u8 203, .int .u8 0, .int .u8 113, .int .u8 7, .slice Ao 4 co', .slice Ab (8 + n) cb'], .int .i64 0]) ∧ Sl w' Ao 4 co' [1, 1, 1, 0] ∧ Sl w' Ab (8 + n) cb' (udBytes m0 m1 m2 m3 203 0 113 7 fp (nQ port) L) ∧ Fr w.heap.size Ao 4 ∧ Fr w.heap.size Ab (8 + n) ∧ Below w.heap.size w w' := udput_is 3 9 2 0 55 0 m0 m1 m2 m3 203 0 113 7 So none 4 co 0 0 fp (nQ port) D n cd w po pb (portOk_of h3 h4) (portOk_of (Int.le_trans (by decide) (nQ_ok h2).1) (nQ_ok h2).2) (by omega) (by decide)
set_option linter.unusedVariables false in
set_option maxRecDepth 100000 in
theorem b_in {lo gn gt gk : Nat} {m0 m1 m2 m3 : UInt8} {host port fp : Int} {n : Nat} {L : List UInt8} {Ao Ab : Option Addr} {co cb : Nat} (w : World) (hT : Np lo gn gt gk w (nS host port 0 120) nK0) (po : Sl w Ao 4 co [1, 1, 1, 0]) (pb : Sl w Ab (8 + n) cb (udBytes m0 m1 m2 m3 203 0 113 7 fp (nQ port) L)) (an_po : An gn gt gk w Ao 4) (h1 : 1 ≤ port) (h2 : port ≤ 65535) (h3 : 0 ≤ fp) (h4 : fp ≤ 65535) (hn : n ≤ 1000) (hld : L.length = n)  : Calls Tryz.prog 14 #[.pointer (some ⟨gn, 0, none⟩), .agg #[.int .i64 3, .int .i64 9, .int .i64 2, .int .i64 0, .int .i64 55, .int .i64 17, .int .u8 (m0.toNat : Int), .int .u8 (m1.toNat : Int), .int .u8 (m2.toNat : Int), .int .u8 (m3.toNat : Int), .int .u8 203, .int .u8 0, .int .u8 113, .int .u8 7, .slice Ao 4 co, .slice Ab (8 + n) cb], .agg #[.int .u8 203, .int .u8 0, .int .u8 113, .int .u8 7], .int .i64 1] w fun e w' => ∃ Ao co' Ab cb', e = .returned (.tuple #[.agg #[.int .i64 3, .int .i64 9, .int .i64 2, .int .i64 0, .int .i64 55, .int .i64 17, .int .u8 (m0.toNat : Int), .int .u8 (m1.toNat : Int), .int .u8 (m2.toNat : Int), .int .u8 (m3.toNat : Int), .int .u8 10, .int .u8 0, .int .u8 0, .int .u8 ((byteOf host).toNat : Int), .slice Ao 4 co', .slice Ab (8 + n) cb'], .int .i64 0]) ∧ Np lo gn gt gk w' (nS host port 1 121) nK0 ∧ Fn gn gt gk w w' ∧ Below lo w w' ∧ Sl w' Ao 4 co' [1, 1, 1, 0] ∧ Sl w' Ab (8 + n) cb' (udBytes m0 m1 m2 m3 10 0 0 (byteOf host) fp port L) ∧ An gn gt gk w' Ao 4 ∧ An gn gt gk w' Ab (8 + n) ∧ Fr w.heap.size Ao 4 ∧ Fr w.heap.size Ab (8 + n) := by
  have h_ := nin_ok (m := nM host port 120) (tos := 3) (id := 9) (fl := 2) (pt := 0) (ttl := 55) (t := 1) (df := fp) (dt := (nQ port)) (ld := L) (nd := n) (lp := [1, 1, 1, 0]) (a0 := m0) (a1 := m1) (a2 := m2) (a3 := m3) (b0 := 203) (b1 := 0) (b2 := 113) (b3 := 7) w hT po pb an_po (by omega) (by decide) (by decide) (udp_back (by decide) m0 m1 m2 m3 203 0 113 7 (portOk_of h3 h4) (portOk_of (Int.le_trans (by decide) (nQ_ok h2).1) (nQ_ok h2).2) L (by omega)) hld (one_in h2 (by decide) (by decide) (by decide)) (one_live h2 (by decide) (by decide) rfl (by decide)) (portOk_of h3 h4) (portOk_of (Int.le_trans (by decide) h1) h2) (by omega)
  exact h_
set_option linter.unusedVariables false in
set_option maxRecDepth 100000 in
theorem b_g1 {port : Int} {So Sb : Option Addr} {no co cb : Nat} (w : World) (pb : Sl w Sb 9 cb (udBytes 203 0 113 7 8 8 8 8 (nQ port) 53 [120])) (h1 : 1 ≤ port) (h2 : port ≤ 65535)  : Calls Tryz.prog 24 #[.agg #[.int .i64 0, .int .i64 0, .int .i64 0, .int .i64 0, .int .i64 64, .int .i64 17, .int .u8 203, .int .u8 0, .int .u8 113, .int .u8 7, .int .u8 8, .int .u8 8, .int .u8 8, .int .u8 8, .slice So no co, .slice Sb 9 cb]] w fun e w' => ∃ A c, e = .returned (.tuple #[.agg #[.int .i64 (nQ port), .int .i64 53, .slice A 1 c], .int .i64 0]) ∧ Sl w' A 1 c [120] ∧ Fr w.heap.size A 1 ∧ Below w.heap.size w w' := udget_is _ _ 0 0 _ 203 0 113 7 8 8 8 8 _ _ _ _ _ _ w pb (by decide) (udp_back (by decide) 203 0 113 7 8 8 8 8 (portOk_of (Int.le_trans (by decide) (nQ_ok h2).1) (nQ_ok h2).2) (by decide) [120] (by decide)) rfl
set_option linter.unusedVariables false in
set_option maxRecDepth 100000 in
theorem b_g2 {m0 m1 m2 m3 : UInt8} {host port fp : Int} {n : Nat} {L : List UInt8} {So Sb : Option Addr} {no co cb : Nat} (w : World) (pb : Sl w Sb (8 + n) cb (udBytes m0 m1 m2 m3 10 0 0 (byteOf host) fp port L)) (h1 : 1 ≤ port) (h2 : port ≤ 65535) (h3 : 0 ≤ fp) (h4 : fp ≤ 65535) (hn : n ≤ 1000) (hld : L.length = n)  : Calls Tryz.prog 24 #[.agg #[.int .i64 3, .int .i64 9, .int .i64 2, .int .i64 0, .int .i64 55, .int .i64 17, .int .u8 (m0.toNat : Int), .int .u8 (m1.toNat : Int), .int .u8 (m2.toNat : Int), .int .u8 (m3.toNat : Int), .int .u8 10, .int .u8 0, .int .u8 0, .int .u8 ((byteOf host).toNat : Int), .slice So no co, .slice Sb (8 + n) cb]] w fun e w' => ∃ A c, e = .returned (.tuple #[.agg #[.int .i64 fp, .int .i64 port, .slice A n c], .int .i64 0]) ∧ Sl w' A n c L ∧ Fr w.heap.size A n ∧ Below w.heap.size w w' := udget_is _ _ 2 0 _ m0 m1 m2 m3 10 0 0 (byteOf host) _ _ _ _ _ _ w pb (by omega) (udp_back (by decide) m0 m1 m2 m3 10 0 0 (byteOf host) (portOk_of h3 h4) (portOk_of (Int.le_trans (by decide) h1) h2) L (by omega)) hld
set_option linter.unusedVariables false in
set_option linter.unusedVariables false in
set_option linter.unusedSimpArgs false in
set_option maxRecDepth 100000 in
set_option maxHeartbeats 16000000 in
theorem natBack_walk (host port : Int) (m0 m1 m2 m3 : UInt8) (fp : Int) (A : Option Addr) (n cp : Nat) (L : List UInt8) (w : World) (ll : Sl w A n cp L) : Calls Tryz.prog 4 #[.int .i64 host, .int .i64 port, .agg #[.int .u8 (m0.toNat : Int), .int .u8 (m1.toNat : Int), .int .u8 (m2.toNat : Int), .int .u8 (m3.toNat : Int)], .int .i64 fp, .slice A n cp] w fun e w' => e = .returned (.bool true) ∧ Below w.heap.size w w' := by
  have HL0 := Lib.hid ll
  have HLL : Hid (L.length = n) := Lib.hid ll.1
  obtain ⟨ii, hii, hz0, hz1, hz2⟩ := info_parts Tryz.info5
  have e1 : ∀ W, (binOp .eql 35 (.agg #[.int .u8 10, .int .u8 0, .int .u8 0, .int .u8 ((byteOf host).toNat : Int)]) (.agg #[.int .u8 10, .int .u8 0, .int .u8 0, .int .u8 ((byteOf host).toNat : Int)])).run Tryz.prog W = .ok (.bool true) W := fun W => by have h_ := eqa_b ⟨10, 0, 0, (byteOf host)⟩ ⟨10, 0, 0, (byteOf host)⟩ W; rw [Ad4.eqB_self] at h_; exact h_
  have e2 : ∀ W, (binOp .eql 35 (.agg #[.int .u8 (m0.toNat : Int), .int .u8 (m1.toNat : Int), .int .u8 (m2.toNat : Int), .int .u8 (m3.toNat : Int)]) (.agg #[.int .u8 (m0.toNat : Int), .int .u8 (m1.toNat : Int), .int .u8 (m2.toNat : Int), .int .u8 (m3.toNat : Int)])).run Tryz.prog W = .ok (.bool true) W := fun W => by have h_ := eqa_b ⟨m0, m1, m2, m3⟩ ⟨m0, m1, m2, m3⟩ W; rw [Ad4.eqB_self] at h_; exact h_
  have bel := Below.refl w.heap.size w
  go_enter Tryz.func4, Tryz.ntmps4
  go_wp2_with (first | ((with_reducible show wpList _ _ _ (⟨some 7, _, _, _, _, _⟩ :: _) _ _); refine wpList_box_n rfl 35 (.tmp 2) rfl #[.int .u8 (m0.toNat : Int), .int .u8 (m1.toNat : Int), .int .u8 (m2.toNat : Int), .int .u8 (m3.toNat : Int)] rfl ?_; intro g7 w1 ge lt hh bb; have av_ll_fB := ll.av_new ge; have ofB := Nat.le_trans bel.size ge; replace ll := ll.below bb; replace bel := bel.trans (bb.mono bel.size); have hfB := hh; clear hh lt ge bb))
  with_reducible refine (awake19 _).mono ?_
  rintro e w2 ⟨rfl, b2⟩
  replace hfB := blk_u hfB b2
  replace ll := ll.below b2
  replace bel := bel.trans (b2.mono bel.size)
  clear b2
  by_cases c1 : port < 1
  · go_wp2_with fail
    go_ret
    exact ⟨rfl, bel⟩
  have Hc1 : Hid (1 ≤ port) := Lib.hid (by omega)
  replace c1 : decide (port < 1) = false := decide_eq_false c1
  by_cases c2 : 65535 < port
  · go_wp2_with fail
    go_ret
    exact ⟨rfl, bel⟩
  have Hc2 : Hid (port ≤ 65535) := Lib.hid (by omega)
  replace c2 : decide (65535 < port) = false := decide_eq_false c2
  by_cases c3 : fp < 0
  · go_wp2_with fail
    go_ret
    exact ⟨rfl, bel⟩
  have Hc3 : Hid (0 ≤ fp) := Lib.hid (by omega)
  replace c3 : decide (fp < 0) = false := decide_eq_false c3
  by_cases c4 : 65535 < fp
  · go_wp2_with fail
    go_ret
    exact ⟨rfl, bel⟩
  have Hc4 : Hid (fp ≤ 65535) := Lib.hid (by omega)
  replace c4 : decide (65535 < fp) = false := decide_eq_false c4
  by_cases c5 : (1000 : Int) < n
  · go_wp2_with fail
    go_ret
    exact ⟨rfl, bel⟩
  have Hc5 : Hid ((n : Int) ≤ 1000) := Lib.hid (by omega)
  replace c5 : decide ((1000 : Int) < n) = false := decide_eq_false c5
  have HN : Hid (n ≤ 1000) := Lib.hid (by have := Hc5.out; omega)
  go_wp2_with fail
  have HLO_ := bel.size
  have lt_fB := hlt hfB
  with_reducible refine (begun19 _).mono ?_
  rintro e w3 ⟨gn, gt, gk, rfl, hT, b3⟩
  replace hfB := blk_u hfB b3
  replace ll := ll.below b3
  replace bel := bel.trans (b3.mono bel.size)
  clear b3
  have ap_fB := hT.old lt_fB
  clear lt_fB
  replace hT : Np w.heap.size gn gt gk w3 nS0 nK0 := hT.lo_mono HLO_
  clear HLO_
  go_wp2_with fail
  with_reducible refine (at19 host _).mono ?_
  rintro e w4 ⟨rfl, b4⟩
  replace hfB := blk_u hfB b4
  replace ll := ll.below b4
  replace hT := hT.below b4
  replace ap_fB := ap_fB.below b4
  replace bel := bel.trans (b4.mono bel.size)
  clear b4
  go_wp2_with fail
  with_reducible refine (far19 _).mono ?_
  rintro e w5 ⟨rfl, b5⟩
  replace hfB := blk_u hfB b5
  replace ll := ll.below b5
  replace hT := hT.below b5
  replace ap_fB := ap_fB.below b5
  replace bel := bel.trans (b5.mono bel.size)
  clear b5
  go_wp2_with fail
  with_reducible refine (dg_out host port _ (portOk_of (Int.le_trans (by decide) Hc1.out) Hc2.out)).mono ?_
  rintro e w6 ⟨Auo, cuo, Aub, cub, rfl, uo, ub, fuo, fub, b6⟩
  have av_uo_fB := fuo.av (hlt hfB)
  have av_ub_fB := fub.av (hlt hfB)
  have an_uo := hT.an fuo
  have an_ub := hT.an fub
  replace hfB := blk_u hfB b6
  replace ll := ll.below b6
  replace hT := hT.below b6
  replace ap_fB := ap_fB.below b6
  replace an_uo := an_uo.below b6
  replace an_ub := an_ub.below b6
  replace bel := bel.trans (b6.mono bel.size)
  clear b6
  replace uo : Sl w6 (Auo) (0) (cuo) ([]) := uo
  replace ub : Sl w6 (Aub) (9) (cub) (udBytes 10 0 0 (byteOf host) 8 8 8 8 port 53 [120]) := ub
  go_wp2_with fail
  with_reducible refine (wan19 _).mono ?_
  rintro e w7 ⟨rfl, b7⟩
  replace hfB := blk_u hfB b7
  replace ll := ll.below b7
  replace uo := uo.below b7
  replace ub := ub.below b7
  replace hT := hT.below b7
  replace ap_fB := ap_fB.below b7
  replace an_uo := an_uo.below b7
  replace an_ub := an_ub.below b7
  replace bel := bel.trans (b7.mono bel.size)
  clear b7
  go_wp2_with fail
  have lt_fB := hlt hfB
  with_reducible refine (o_dg _ hT uo ub Hc1.out Hc2.out).mono ?_
  rintro e w8 ⟨Apo, cpo, Apb, cpb, rfl, hT_, f_, bb, po, pb, an_po, an_pb, fpo, fpb⟩
  have x_ := f_ _ _ _ _ hfB ap_fB
  replace hfB := x_.1
  replace ap_fB := x_.2
  clear x_
  have x_ := f_.sl uo an_uo
  replace uo := x_.1
  replace an_uo := x_.2
  clear x_
  have x_ := f_.sl ub an_ub
  replace ub := x_.1
  replace an_ub := x_.2
  clear x_
  clear hT
  have hT := hT_
  replace bel := bel.trans bb
  clear bb f_ hT_
  replace ll := HL0.out.below bel
  have av_po_fB := fpo.av lt_fB
  have av_pb_fB := fpb.av lt_fB
  clear lt_fB
  clear fpo fpb
  go_wp2_with (first | ((with_reducible show wpList _ _ _ (⟨some 13, _, _, _, _, _⟩ :: _) _ _); refine wpList_new_a rfl 38 rfl #[.int .i64 0, .int .i64 0, .int .i64 0, .int .i64 0, .int .i64 0, .int .i64 0, .int .u8 0, .int .u8 0, .int .u8 0, .int .u8 0, .int .u8 0, .int .u8 0, .int .u8 0, .int .u8 0, .slice none 0 0, .slice none 0 0] (by kernel_rfl) ?_; intro g13 w9 ge hh bb; have ap_pB := hT.ap ge; have d_fB_pB := ne_new (hlt hfB) ge; have av_ll_pB := ll.av_new ge; have av_uo_pB := uo.av_new ge; have av_ub_pB := ub.av_new ge; have av_po_pB := po.av_new ge; have av_pb_pB := pb.av_new ge; have opB := Nat.le_trans bel.size ge; replace hfB := blk_u hfB bb; replace ll := ll.below bb; replace uo := uo.below bb; replace ub := ub.below bb; replace po := po.below bb; replace pb := pb.below bb; replace hT := hT.below bb; replace ap_fB := ap_fB.below bb; replace an_uo := an_uo.below bb; replace an_ub := an_ub.below bb; replace an_po := an_po.below bb; replace an_pb := an_pb.below bb; replace ap_pB := ap_pB.below bb; replace bel := bel.trans (bb.mono bel.size); have hpB := hh; clear hh ge bb) | ((with_reducible show wpList _ _ _ (⟨none, Op.store _ (.tmp 13) _, _, _, _, _⟩ :: _) _ _); refine wpList_store_blk rfl 38 (.tmp 13) (.tmp 57) rfl g13 rfl _ rfl _ 38 hpB (by rfl) (by kernel_rfl) (by kernel_rfl) ?_; intro w10 hq gr; replace ll := ll.away av_ll_pB gr; replace uo := uo.away av_uo_pB gr; replace ub := ub.away av_ub_pB gr; replace po := po.away av_po_pB gr; replace pb := pb.away av_pb_pB gr; replace hfB := blk_a hfB gr d_fB_pB; replace hT := hT.away ap_pB gr hpB; replace ap_fB := ap_fB.grown ap_pB gr; replace an_uo := an_uo.grown ap_pB gr; replace an_ub := an_ub.grown ap_pB gr; replace an_po := an_po.grown ap_pB gr; replace an_pb := an_pb.grown ap_pB gr; replace ap_pB := ap_pB.grown ap_pB gr; replace bel := below_grown bel gr opB bel.size; clear hpB; have hpB := hq; clear hq gr; have R60 := Lib.hid (range_lit hpB 0 16 [.int .i64 0, .int .i64 0, .int .i64 0, .int .i64 0, .int .i64 64, .int .i64 17, .int .u8 203, .int .u8 0, .int .u8 113, .int .u8 7, .int .u8 8, .int .u8 8, .int .u8 8, .int .u8 8, .slice Apo 0 cpo, .slice Apb 9 cpb] rfl)) | ((with_reducible show wpList _ _ _ (⟨some 60, _, _, _, _, _⟩ :: _) _ _); refine wpList_load_rng 38 (.tmp 13) rfl (by kernel_rfl) _ _ rfl _ R60.out _ Tryz.underlying38 rfl (by kernel_rfl) ?_))
  try clear R60
  with_reducible refine (b_g1 _ pb Hc1.out Hc2.out).mono ?_
  rintro e w11 ⟨Agd, cgd, rfl, gd, fgd, b11⟩
  have av_gd_fB := fgd.av (hlt hfB)
  have av_gd_pB := fgd.av (hlt hpB)
  have an_gd := hT.an fgd
  replace hfB := blk_u hfB b11
  replace hpB := blk_u hpB b11
  replace ll := ll.below b11
  replace uo := uo.below b11
  replace ub := ub.below b11
  replace po := po.below b11
  replace pb := pb.below b11
  replace hT := hT.below b11
  replace ap_fB := ap_fB.below b11
  replace an_uo := an_uo.below b11
  replace an_ub := an_ub.below b11
  replace an_po := an_po.below b11
  replace an_pb := an_pb.below b11
  replace ap_pB := ap_pB.below b11
  replace an_gd := an_gd.below b11
  replace bel := bel.trans (b11.mono bel.size)
  clear b11
  replace gd : Sl w11 (Agd) (1) (cgd) ([120]) := gd
  go_wp2_with (first | ((with_reducible show wpList _ _ _ (⟨some 15, _, _, _, _, _⟩ :: _) _ _); refine wpList_new_a rfl 54 rfl #[.int .i64 0, .int .i64 0, .slice none 0 0] (by kernel_rfl) ?_; intro g15 w12 ge hh bb; have ap_dB := hT.ap ge; have d_fB_dB := ne_new (hlt hfB) ge; have d_pB_dB := ne_new (hlt hpB) ge; have av_ll_dB := ll.av_new ge; have av_uo_dB := uo.av_new ge; have av_ub_dB := ub.av_new ge; have av_po_dB := po.av_new ge; have av_pb_dB := pb.av_new ge; have av_gd_dB := gd.av_new ge; have odB := Nat.le_trans bel.size ge; replace hfB := blk_u hfB bb; replace hpB := blk_u hpB bb; replace ll := ll.below bb; replace uo := uo.below bb; replace ub := ub.below bb; replace po := po.below bb; replace pb := pb.below bb; replace gd := gd.below bb; replace hT := hT.below bb; replace ap_fB := ap_fB.below bb; replace an_uo := an_uo.below bb; replace an_ub := an_ub.below bb; replace an_po := an_po.below bb; replace an_pb := an_pb.below bb; replace ap_pB := ap_pB.below bb; replace an_gd := an_gd.below bb; replace ap_dB := ap_dB.below bb; replace bel := bel.trans (bb.mono bel.size); have hdB := hh; clear hh ge bb) | ((with_reducible show wpList _ _ _ (⟨none, Op.store _ (.tmp 15) _, _, _, _, _⟩ :: _) _ _); refine wpList_store_blk rfl 54 (.tmp 15) (.tmp 62) rfl g15 rfl _ rfl _ 54 hdB (by rfl) (by kernel_rfl) (by kernel_rfl) ?_; intro w13 hq gr; replace ll := ll.away av_ll_dB gr; replace uo := uo.away av_uo_dB gr; replace ub := ub.away av_ub_dB gr; replace po := po.away av_po_dB gr; replace pb := pb.away av_pb_dB gr; replace gd := gd.away av_gd_dB gr; replace hfB := blk_a hfB gr d_fB_dB; replace hpB := blk_a hpB gr d_pB_dB; replace hT := hT.away ap_dB gr hdB; replace ap_fB := ap_fB.grown ap_dB gr; replace an_uo := an_uo.grown ap_dB gr; replace an_ub := an_ub.grown ap_dB gr; replace an_po := an_po.grown ap_dB gr; replace an_pb := an_pb.grown ap_dB gr; replace ap_pB := ap_pB.grown ap_dB gr; replace an_gd := an_gd.grown ap_dB gr; replace ap_dB := ap_dB.grown ap_dB gr; replace bel := below_grown bel gr odB bel.size; clear hdB; have hdB := hq; clear hq gr))
  go_cut [17, 18] from 9999 (fun s17 s18 W => ∃ g67 : Nat, ∃ g17 : Nat, ∃ Aqo : Option Addr, ∃ cqo : Nat, ∃ Aqb : Option Addr, ∃ cqb : Nat, s17 = .pointer (some ⟨g17, 0, none⟩) ∧ s18 = .int .i64 0 ∧ W.heap[g7]? = some (.cells #[.int .u8 (m0.toNat : Int), .int .u8 (m1.toNat : Int), .int .u8 (m2.toNat : Int), .int .u8 (m3.toNat : Int)] 35 (0, 0)) ∧ W.heap[g13]? = some (.cells #[.int .i64 0, .int .i64 0, .int .i64 0, .int .i64 0, .int .i64 64, .int .i64 17, .int .u8 203, .int .u8 0, .int .u8 113, .int .u8 7, .int .u8 8, .int .u8 8, .int .u8 8, .int .u8 8, .slice Apo 0 cpo, .slice Apb 9 cpb] 38 (0, 0)) ∧ W.heap[g15]? = some (.cells #[.int .i64 (nQ port), .int .i64 53, .slice Agd 1 cgd] 54 (0, 0)) ∧ W.heap[g67]? = some (.cells #[.int .u8 1, .int .u8 1, .int .u8 1, .int .u8 0] 5 (0, 0)) ∧ w.heap.size ≤ g67 ∧ W.heap[g17]? = some (.cells #[.int .i64 3, .int .i64 9, .int .i64 2, .int .i64 0, .int .i64 55, .int .i64 17, .int .u8 (m0.toNat : Int), .int .u8 (m1.toNat : Int), .int .u8 (m2.toNat : Int), .int .u8 (m3.toNat : Int), .int .u8 203, .int .u8 0, .int .u8 113, .int .u8 7, .slice Aqo 4 cqo, .slice Aqb (8 + n) cqb] 38 (0, 0)) ∧ w.heap.size ≤ g17 ∧ Hid (g67 ≠ g15) ∧ Hid (g67 ≠ g7) ∧ Hid (g67 ≠ g13) ∧ Hid (g67 ≠ g17) ∧ Hid (g15 ≠ g7) ∧ Hid (g15 ≠ g13) ∧ Hid (g15 ≠ g17) ∧ Hid (g7 ≠ g13) ∧ Hid (g7 ≠ g17) ∧ Hid (g13 ≠ g17) ∧ Sl W (A) (n) (cp) (L) ∧ Av (A) (n) g67 ∧ Av (A) (n) g15 ∧ Av (A) (n) g7 ∧ Av (A) (n) g13 ∧ Av (A) (n) g17 ∧ Sl W (Auo) (0) (cuo) ([]) ∧ Av (Auo) (0) g67 ∧ Av (Auo) (0) g15 ∧ Av (Auo) (0) g7 ∧ Av (Auo) (0) g13 ∧ Av (Auo) (0) g17 ∧ Sl W (Aub) (9) (cub) (udBytes 10 0 0 (byteOf host) 8 8 8 8 port 53 [120]) ∧ Av (Aub) (9) g67 ∧ Av (Aub) (9) g15 ∧ Av (Aub) (9) g7 ∧ Av (Aub) (9) g13 ∧ Av (Aub) (9) g17 ∧ Sl W (Apo) (0) (cpo) ([]) ∧ Av (Apo) (0) g67 ∧ Av (Apo) (0) g15 ∧ Av (Apo) (0) g7 ∧ Av (Apo) (0) g13 ∧ Av (Apo) (0) g17 ∧ Sl W (Apb) (9) (cpb) (udBytes 203 0 113 7 8 8 8 8 (nQ port) 53 [120]) ∧ Av (Apb) (9) g67 ∧ Av (Apb) (9) g15 ∧ Av (Apb) (9) g7 ∧ Av (Apb) (9) g13 ∧ Av (Apb) (9) g17 ∧ Sl W (Agd) (1) (cgd) ([120]) ∧ Av (Agd) (1) g67 ∧ Av (Agd) (1) g15 ∧ Av (Agd) (1) g7 ∧ Av (Agd) (1) g13 ∧ Av (Agd) (1) g17 ∧ Sl W (some ⟨g67, 0, none⟩) (4) (4) ([1, 1, 1, 0]) ∧ Av (some ⟨g67, 0, none⟩) (4) g15 ∧ Av (some ⟨g67, 0, none⟩) (4) g7 ∧ Av (some ⟨g67, 0, none⟩) (4) g13 ∧ Av (some ⟨g67, 0, none⟩) (4) g17 ∧ Sl W (Aqo) (4) (cqo) ([1, 1, 1, 0]) ∧ Av (Aqo) (4) g67 ∧ Av (Aqo) (4) g15 ∧ Av (Aqo) (4) g7 ∧ Av (Aqo) (4) g13 ∧ Av (Aqo) (4) g17 ∧ Sl W (Aqb) (8 + n) (cqb) (udBytes m0 m1 m2 m3 203 0 113 7 fp (nQ port) L) ∧ Av (Aqb) (8 + n) g67 ∧ Av (Aqb) (8 + n) g15 ∧ Av (Aqb) (8 + n) g7 ∧ Av (Aqb) (8 + n) g13 ∧ Av (Aqb) (8 + n) g17 ∧ Np w.heap.size gn gt gk W (nS host port 0 120) nK0 ∧ Anp gn gt gk W g7 ∧ An gn gt gk W (Auo) (0) ∧ An gn gt gk W (Aub) (9) ∧ An gn gt gk W (Apo) (0) ∧ An gn gt gk W (Apb) (9) ∧ Anp gn gt gk W g13 ∧ An gn gt gk W (Agd) (1) ∧ Anp gn gt gk W g15 ∧ Anp gn gt gk W g67 ∧ An gn gt gk W (Aqo) (4) ∧ An gn gt gk W (Aqb) (8 + n) ∧ Anp gn gt gk W g17 ∧ Below w.heap.size w W)
  case first =>
    replace bel := bel.drew
    replace hfB : w13.drew.heap[g7]? = _ := hfB
    replace hpB : w13.drew.heap[g13]? = _ := hpB
    replace hdB : w13.drew.heap[g15]? = _ := hdB
    replace ll := ll.drew
    replace uo := uo.drew
    replace ub := ub.drew
    replace po := po.drew
    replace pb := pb.drew
    replace gd := gd.drew
    replace hT := np_drew hT
    replace ap_fB := anp_drew ap_fB
    replace an_uo := an_drew an_uo
    replace an_ub := an_drew an_ub
    replace an_po := an_drew an_po
    replace an_pb := an_drew an_pb
    replace ap_pB := anp_drew ap_pB
    replace an_gd := an_drew an_gd
    replace ap_dB := anp_drew ap_dB
    refine wp_region_held_drew (S := fun W => W.heap[g7]? = some (.cells #[.int .u8 (m0.toNat : Int), .int .u8 (m1.toNat : Int), .int .u8 (m2.toNat : Int), .int .u8 (m3.toNat : Int)] 35 (0, 0)) ∧ W.heap[g15]? = some (.cells #[.int .i64 (nQ port), .int .i64 53, .slice Agd 1 cgd] 54 (0, 0))) (by kernel_rfl) ⟨hfB, hdB⟩ (fun hH => ?_)
    generalize w13.drew = w14 at bel hfB hpB hdB ll uo ub po pb gd hT ap_fB an_uo an_ub an_po an_pb ap_pB an_gd ap_dB hH ⊢
    refine wpAnyH_take (i := 0) (v := .agg #[.int .u8 (m0.toNat : Int), .int .u8 (m1.toNat : Int), .int .u8 (m2.toNat : Int), .int .u8 (m3.toNat : Int)]) rfl (by kernel_rfl) (by kernel_rfl) (by kernel_rfl) (fun _ _ _ h => h) (yieldsIf_load_part (by kernel_rfl) 35 _ rfl g7 0 4 rfl _ 35 (0, 0) (fun W hW => hW.1) _ rfl _ Tryz.underlying35 rfl (by kernel_rfl)) hH ?_
    simp only [Act.put, List.getElem_toArray, List.getElem_cons_zero, List.setIfInBounds_toArray, List.set_cons_zero, List.set_cons_succ]
    refine wpAnyH_take (i := 4) (v := ?_) rfl (by kernel_rfl) (by kernel_rfl) (by kernel_rfl) (fun _ _ _ h => h) (Or.inl ⟨by rfl, ?_⟩) hH ?_
    rotate_left
    · ((intro W hW; clear hW; go_simp) <;> with_reducible rfl)
    simp only [sq3, sq4]
    refine wpAnyH_take (i := 5) (v := ?_) rfl (by kernel_rfl) (by kernel_rfl) (by kernel_rfl) (fun _ _ _ h => h) (Or.inl ⟨by rfl, ?_⟩) hH ?_
    rotate_left
    · ((intro W hW; clear hW; go_simp) <;> with_reducible rfl)
    simp only [sq3, sq4]
    refine wpAnyH_take (i := 6) (v := ?_) rfl (by kernel_rfl) (by kernel_rfl) (by kernel_rfl) (fun _ _ _ h => h) (Or.inl ⟨by rfl, ?_⟩) hH ?_
    rotate_left
    · ((intro W hW; have hk := cell_lit (hW.2) 0 _ rfl; clear hW; go_simp) <;> with_reducible rfl)
    simp only [sq3, sq4]
    refine wpAnyH_take (i := 7) (v := ?_) rfl (by kernel_rfl) (by kernel_rfl) (by kernel_rfl) (fun _ _ _ h => h) (Or.inl ⟨by rfl, ?_⟩) hH ?_
    rotate_left
    · ((intro W hW; clear hW; go_simp) <;> with_reducible rfl)
    simp only [sq3, sq4]
    refine wpAnyH_take (i := 8) (v := ?_) rfl (by kernel_rfl) (by kernel_rfl) (by kernel_rfl) (fun _ _ _ h => h) (Or.inl ⟨by rfl, ?_⟩) hH ?_
    rotate_left
    · ((intro W hW; clear hW; go_simp) <;> with_reducible rfl)
    simp only [sq3, sq4]
    refine wpAnyH_ready (rs := [1, 2, 13]) (by kernel_rfl) (by simp) ?_
    refine AllReadyH.cons (o := _) rfl (fun K hK => ?_) (AllReadyH.cons (o := _) rfl (fun K hK => ?_) (AllReadyH.cons (o := _) rfl (fun K hK => ?_) AllReadyH.nil))
    rotate_left
    · simp only [sq3]
      rw [if_pos (by rfl)]
      refine wp_lit_n 36 5 4 _ rfl #[.int .u8 1, .int .u8 1, .int .u8 1, .int .u8 0] (.int .u8 0) Tryz.underlying36 (by kernel_rfl) 1 (by kernel_rfl) (by decide) (by kernel_rfl) ?_
      intro g67 w15 ge lt hh bb
      have hl : w15.heap[g67]? = some (.cells (([1, 1, 1, 0] : List UInt8).map u8v).toArray 5 (0, 0)) := (by simpa [u8v, byteOf_val] using hh)
      have opsw := own_lit (B := w14.heap.size) ([1, 1, 1, 0]) hl ge 4 rfl (by simp [maxLen])
      have ops := (own_sl opsw).1
      have opslo := bel.size
      clear hl
      have opsge := ge
      have lz_ops := bb.size
      have y_ops_fB := Lib.hid (hlt hfB)
      have y_ops_pB := Lib.hid (hlt hpB)
      have y_ops_dB := Lib.hid (hlt hdB)
      have bl_ll_ops := ll.bl_new
      have bl_uo_ops := uo.bl_new
      have bl_ub_ops := ub.bl_new
      have bl_po_ops := po.bl_new
      have bl_pb_ops := pb.bl_new
      have bl_gd_ops := gd.bl_new
      have ap_b67 := hT.ap ge
      have d_fB_b67 := ne_new (hlt hfB) ge
      have d_pB_b67 := ne_new (hlt hpB) ge
      have d_dB_b67 := ne_new (hlt hdB) ge
      have av_ll_b67 := ll.av_new ge
      have av_uo_b67 := uo.av_new ge
      have av_ub_b67 := ub.av_new ge
      have av_po_b67 := po.av_new ge
      have av_pb_b67 := pb.av_new ge
      have av_gd_b67 := gd.av_new ge
      have ob67 := Nat.le_trans bel.size ge
      replace hfB := blk_u hfB bb
      replace hpB := blk_u hpB bb
      replace hdB := blk_u hdB bb
      replace ll := ll.below bb
      replace uo := uo.below bb
      replace ub := ub.below bb
      replace po := po.below bb
      replace pb := pb.below bb
      replace gd := gd.below bb
      replace hT := hT.below bb
      replace ap_fB := ap_fB.below bb
      replace an_uo := an_uo.below bb
      replace an_ub := an_ub.below bb
      replace an_po := an_po.below bb
      replace an_pb := an_pb.below bb
      replace ap_pB := ap_pB.below bb
      replace an_gd := an_gd.below bb
      replace ap_dB := ap_dB.below bb
      replace ap_b67 := ap_b67.below bb
      replace bel := bel.trans (bb.mono bel.size)
      have hb67 := hh
      clear hh lt ge bb
      have av_ops_fB := (own_sl opsw).2.av y_ops_fB.out
      have av_ops_pB := (own_sl opsw).2.av y_ops_pB.out
      have av_ops_dB := (own_sl opsw).2.av y_ops_dB.out
      refine hK.out _ _ ⟨hfB, hdB⟩ (fun hH16 => ?_)
      clear hK K
      simp only [sq4]
      refine wpAnyH_ready (rs := [1, 13]) (by kernel_rfl) (by simp) ?_
      refine AllReadyH.cons (o := _) rfl (fun K hK => ?_) (AllReadyH.cons (o := _) rfl (fun K hK => ?_) AllReadyH.nil)
      rotate_left
      · simp only [sq3]
        rw [if_pos (by rfl)]
        refine wp_new_a 38 rfl #[.int .i64 0, .int .i64 0, .int .i64 0, .int .i64 0, .int .i64 0, .int .i64 0, .int .u8 0, .int .u8 0, .int .u8 0, .int .u8 0, .int .u8 0, .int .u8 0, .int .u8 0, .int .u8 0, .slice none 0 0, .slice none 0 0] (by kernel_rfl) ?_
        intro g17 w17 ge hh bb
        have ap_qB := hT.ap ge
        have d_fB_qB := ne_new (hlt hfB) ge
        have d_pB_qB := ne_new (hlt hpB) ge
        have d_dB_qB := ne_new (hlt hdB) ge
        have d_b67_qB := ne_new (hlt hb67) ge
        have av_ll_qB := ll.av_new ge
        have av_uo_qB := uo.av_new ge
        have av_ub_qB := ub.av_new ge
        have av_po_qB := po.av_new ge
        have av_pb_qB := pb.av_new ge
        have av_gd_qB := gd.av_new ge
        have av_ops_qB := ops.av_new ge
        have of_ops_qB := own_new opsw ge
        have oqB := Nat.le_trans bel.size ge
        replace hfB := blk_u hfB bb
        replace hpB := blk_u hpB bb
        replace hdB := blk_u hdB bb
        replace hb67 := blk_u hb67 bb
        replace ll := ll.below bb
        replace uo := uo.below bb
        replace ub := ub.below bb
        replace po := po.below bb
        replace pb := pb.below bb
        replace gd := gd.below bb
        replace ops := ops.below bb
        replace opsw := own_under opsw bb
        replace lz_ops := Nat.le_trans lz_ops bb.size
        replace hT := hT.below bb
        replace ap_fB := ap_fB.below bb
        replace an_uo := an_uo.below bb
        replace an_ub := an_ub.below bb
        replace an_po := an_po.below bb
        replace an_pb := an_pb.below bb
        replace ap_pB := ap_pB.below bb
        replace an_gd := an_gd.below bb
        replace ap_dB := ap_dB.below bb
        replace ap_b67 := ap_b67.below bb
        replace ap_qB := ap_qB.below bb
        replace bel := bel.trans (bb.mono bel.size)
        have hqB := hh
        clear hh ge bb
        refine hK.out _ _ ⟨hfB, hdB⟩ (fun hH18 => ?_)
        clear hK K
        simp only [sq4]
        refine wpAnyH_ready (rs := [1]) (by kernel_rfl) (by simp) ?_
        refine AllReadyH.cons (o := _) rfl (fun K hK => ?_) AllReadyH.nil
        simp only [sq3]
        go_simp
        with_reducible refine (wan19 _).mono ?_
        rintro e w19 ⟨rfl, b19⟩
        dsimp only
        replace hfB := blk_u hfB b19
        replace hpB := blk_u hpB b19
        replace hdB := blk_u hdB b19
        replace hb67 := blk_u hb67 b19
        replace hqB := blk_u hqB b19
        replace ll := ll.below b19
        replace uo := uo.below b19
        replace ub := ub.below b19
        replace po := po.below b19
        replace pb := pb.below b19
        replace gd := gd.below b19
        replace ops := ops.below b19
        replace opsw := own_under opsw b19
        replace lz_ops := Nat.le_trans lz_ops b19.size
        replace hT := hT.below b19
        replace ap_fB := ap_fB.below b19
        replace an_uo := an_uo.below b19
        replace an_ub := an_ub.below b19
        replace an_po := an_po.below b19
        replace an_pb := an_pb.below b19
        replace ap_pB := ap_pB.below b19
        replace an_gd := an_gd.below b19
        replace ap_dB := ap_dB.below b19
        replace ap_b67 := ap_b67.below b19
        replace ap_qB := ap_qB.below b19
        replace bel := bel.trans (b19.mono bel.size)
        clear b19
        refine hK.out _ _ ⟨hfB, hdB⟩ (fun hH20 => ?_)
        clear hK K
        refine wpAnyH_take (i := 3) (v := ?_) rfl (by kernel_rfl) (by kernel_rfl) (by kernel_rfl) (fun _ _ _ h => h) (Or.inl ⟨by rfl, ?_⟩) hH20 ?_
        rotate_left
        · ((intro W hW; clear hW; go_simp) <;> with_reducible rfl)
        simp only [sq3, sq4]
        refine wpAnyH_ready (rs := [9]) (by kernel_rfl) (by simp) ?_
        refine AllReadyH.cons (o := _) rfl (fun K hK => ?_) AllReadyH.nil
        simp only [sq3]
        go_simp
        with_reducible refine (b_put _ ops ll Hc1.out Hc2.out Hc3.out Hc4.out HN.out HLL.out).mono ?_
        rintro e w21 ⟨Aqo, cqo, Aqb, cqb, rfl, qo, qb, fqo, fqb, b21⟩
        dsimp only
        have av_qo_fB := fqo.av (hlt hfB)
        have av_qo_pB := fqo.av (hlt hpB)
        have av_qo_dB := fqo.av (hlt hdB)
        have av_qo_b67 := fqo.av (hlt hb67)
        have av_qo_qB := fqo.av (hlt hqB)
        have av_qb_fB := fqb.av (hlt hfB)
        have av_qb_pB := fqb.av (hlt hpB)
        have av_qb_dB := fqb.av (hlt hdB)
        have av_qb_b67 := fqb.av (hlt hb67)
        have av_qb_qB := fqb.av (hlt hqB)
        have an_qo := hT.an fqo
        have an_qb := hT.an fqb
        replace hfB := blk_u hfB b21
        replace hpB := blk_u hpB b21
        replace hdB := blk_u hdB b21
        replace hb67 := blk_u hb67 b21
        replace hqB := blk_u hqB b21
        replace ll := ll.below b21
        replace uo := uo.below b21
        replace ub := ub.below b21
        replace po := po.below b21
        replace pb := pb.below b21
        replace gd := gd.below b21
        replace ops := ops.below b21
        replace opsw := own_under opsw b21
        replace lz_ops := Nat.le_trans lz_ops b21.size
        replace hT := hT.below b21
        replace ap_fB := ap_fB.below b21
        replace an_uo := an_uo.below b21
        replace an_ub := an_ub.below b21
        replace an_po := an_po.below b21
        replace an_pb := an_pb.below b21
        replace ap_pB := ap_pB.below b21
        replace an_gd := an_gd.below b21
        replace ap_dB := ap_dB.below b21
        replace ap_b67 := ap_b67.below b21
        replace ap_qB := ap_qB.below b21
        replace an_qo := an_qo.below b21
        replace an_qb := an_qb.below b21
        replace bel := bel.trans (b21.mono bel.size)
        clear b21
        replace qo : Sl w21 (Aqo) (4) (cqo) ([1, 1, 1, 0]) := qo
        replace qb : Sl w21 (Aqb) (8 + n) (cqb) (udBytes m0 m1 m2 m3 203 0 113 7 fp (nQ port) L) := qb
        refine hK.out _ _ ⟨hfB, hdB⟩ (fun hH22 => ?_)
        clear hK K
        refine wpAnyH_take (i := 10) (v := ?_) rfl (by kernel_rfl) (by kernel_rfl) (by kernel_rfl) (fun _ _ _ h => h) (Or.inl ⟨by rfl, ?_⟩) hH22 ?_
        rotate_left
        · ((intro W hW; clear hW; go_simp) <;> with_reducible rfl)
        simp only [sq3, sq4]
        refine wpAnyH_take (i := 11) (v := ?_) rfl (by kernel_rfl) (by kernel_rfl) (by kernel_rfl) (fun _ _ _ h => h) (Or.inl ⟨by rfl, ?_⟩) hH22 ?_
        rotate_left
        · ((intro W hW; clear hW; go_simp) <;> with_reducible rfl)
        simp only [sq3, sq4]
        refine wpAnyH_take (i := 12) (v := ?_) rfl (by kernel_rfl) (by kernel_rfl) (by kernel_rfl) (fun _ _ _ h => h) (Or.inl ⟨by rfl, ?_⟩) hH22 ?_
        rotate_left
        · ((intro W hW; clear hW; go_simp) <;> with_reducible rfl)
        simp only [sq3, sq4]
        refine wpAnyH_ready (rs := [14]) (by kernel_rfl) (by simp) ?_
        refine AllReadyH.cons (o := _) rfl (fun K hK => ?_) AllReadyH.nil
        simp only [sq3]
        rw [if_pos (by rfl)]
        refine wp_store_blk 38 (.tmp 17) (.tmp 75) rfl g17 rfl _ rfl _ 38 hqB (by rfl) (by kernel_rfl) (by kernel_rfl) ?_
        intro w23 hq gr
        replace ll := ll.away av_ll_qB gr
        replace uo := uo.away av_uo_qB gr
        replace ub := ub.away av_ub_qB gr
        replace po := po.away av_po_qB gr
        replace pb := pb.away av_pb_qB gr
        replace gd := gd.away av_gd_qB gr
        replace ops := ops.away av_ops_qB gr
        replace opsw := own_off opsw of_ops_qB gr
        replace qo := qo.away av_qo_qB gr
        replace qb := qb.away av_qb_qB gr
        replace lz_ops := Nat.le_trans lz_ops gr.size
        replace hfB := blk_a hfB gr d_fB_qB
        replace hpB := blk_a hpB gr d_pB_qB
        replace hdB := blk_a hdB gr d_dB_qB
        replace hb67 := blk_a hb67 gr d_b67_qB
        replace hT := hT.away ap_qB gr hqB
        replace ap_fB := ap_fB.grown ap_qB gr
        replace an_uo := an_uo.grown ap_qB gr
        replace an_ub := an_ub.grown ap_qB gr
        replace an_po := an_po.grown ap_qB gr
        replace an_pb := an_pb.grown ap_qB gr
        replace ap_pB := ap_pB.grown ap_qB gr
        replace an_gd := an_gd.grown ap_qB gr
        replace ap_dB := ap_dB.grown ap_qB gr
        replace ap_b67 := ap_b67.grown ap_qB gr
        replace ap_qB := ap_qB.grown ap_qB gr
        replace an_qo := an_qo.grown ap_qB gr
        replace an_qb := an_qb.grown ap_qB gr
        replace bel := below_grown bel gr oqB bel.size
        clear hqB
        have hqB := hq
        clear hq gr
        refine hK.out _ _ ⟨hfB, hdB⟩ (fun hH24 => ?_)
        clear hK K
        simp only [Act.put]
        refine wpAnyH_take (i := 15) (v := ?_) rfl (by kernel_rfl) (by kernel_rfl) (by kernel_rfl) (fun _ _ _ h => h) (Or.inl ⟨by rfl, ?_⟩) hH24 ?_
        rotate_left
        · ((intro W hW; clear hW; go_simp) <;> with_reducible rfl)
        simp only [sq3, sq4]
        refine wpAnyH_done (by kernel_rfl) ?_ _
        go_wp2_with fail
        go_meet
        case rel => exact ⟨g67, g17, Aqo, cqo, Aqb, cqb, rfl, rfl, hfB, hpB, hdB, hb67, ob67, hqB, oqB, (ne_symm d_dB_b67), (ne_symm d_fB_b67), (ne_symm d_pB_b67), d_b67_qB, (ne_symm d_fB_dB), (ne_symm d_pB_dB), d_dB_qB, d_fB_pB, d_fB_qB, d_pB_qB, ll, av_ll_b67, av_ll_dB, av_ll_fB, av_ll_pB, av_ll_qB, uo, av_uo_b67, av_uo_dB, av_uo_fB, av_uo_pB, av_uo_qB, ub, av_ub_b67, av_ub_dB, av_ub_fB, av_ub_pB, av_ub_qB, po, av_po_b67, av_po_dB, av_po_fB, av_po_pB, av_po_qB, pb, av_pb_b67, av_pb_dB, av_pb_fB, av_pb_pB, av_pb_qB, gd, av_gd_b67, av_gd_dB, av_gd_fB, av_gd_pB, av_gd_qB, ops, av_ops_dB, av_ops_fB, av_ops_pB, av_ops_qB, qo, av_qo_b67, av_qo_dB, av_qo_fB, av_qo_pB, av_qo_qB, qb, av_qb_b67, av_qb_dB, av_qb_fB, av_qb_pB, av_qb_qB, hT, ap_fB, an_uo, an_ub, an_po, an_pb, ap_pB, an_gd, ap_dB, ap_b67, an_qo, an_qb, ap_qB, bel⟩
      simp only [sq3]
      go_simp
      with_reducible refine (wan19 _).mono ?_
      rintro e w17 ⟨rfl, b17⟩
      dsimp only
      replace hfB := blk_u hfB b17
      replace hpB := blk_u hpB b17
      replace hdB := blk_u hdB b17
      replace hb67 := blk_u hb67 b17
      replace ll := ll.below b17
      replace uo := uo.below b17
      replace ub := ub.below b17
      replace po := po.below b17
      replace pb := pb.below b17
      replace gd := gd.below b17
      replace ops := ops.below b17
      replace opsw := own_under opsw b17
      replace lz_ops := Nat.le_trans lz_ops b17.size
      replace hT := hT.below b17
      replace ap_fB := ap_fB.below b17
      replace an_uo := an_uo.below b17
      replace an_ub := an_ub.below b17
      replace an_po := an_po.below b17
      replace an_pb := an_pb.below b17
      replace ap_pB := ap_pB.below b17
      replace an_gd := an_gd.below b17
      replace ap_dB := ap_dB.below b17
      replace ap_b67 := ap_b67.below b17
      replace bel := bel.trans (b17.mono bel.size)
      clear b17
      refine hK.out _ _ ⟨hfB, hdB⟩ (fun hH18 => ?_)
      clear hK K
      refine wpAnyH_take (i := 3) (v := ?_) rfl (by kernel_rfl) (by kernel_rfl) (by kernel_rfl) (fun _ _ _ h => h) (Or.inl ⟨by rfl, ?_⟩) hH18 ?_
      rotate_left
      · ((intro W hW; clear hW; go_simp) <;> with_reducible rfl)
      simp only [sq3, sq4]
      refine wpAnyH_ready (rs := [9, 13]) (by kernel_rfl) (by simp) ?_
      refine AllReadyH.cons (o := _) rfl (fun K hK => ?_) (AllReadyH.cons (o := _) rfl (fun K hK => ?_) AllReadyH.nil)
      rotate_left
      · simp only [sq3]
        rw [if_pos (by rfl)]
        refine wp_new_a 38 rfl #[.int .i64 0, .int .i64 0, .int .i64 0, .int .i64 0, .int .i64 0, .int .i64 0, .int .u8 0, .int .u8 0, .int .u8 0, .int .u8 0, .int .u8 0, .int .u8 0, .int .u8 0, .int .u8 0, .slice none 0 0, .slice none 0 0] (by kernel_rfl) ?_
        intro g17 w19 ge hh bb
        have ap_qB := hT.ap ge
        have d_fB_qB := ne_new (hlt hfB) ge
        have d_pB_qB := ne_new (hlt hpB) ge
        have d_dB_qB := ne_new (hlt hdB) ge
        have d_b67_qB := ne_new (hlt hb67) ge
        have av_ll_qB := ll.av_new ge
        have av_uo_qB := uo.av_new ge
        have av_ub_qB := ub.av_new ge
        have av_po_qB := po.av_new ge
        have av_pb_qB := pb.av_new ge
        have av_gd_qB := gd.av_new ge
        have av_ops_qB := ops.av_new ge
        have of_ops_qB := own_new opsw ge
        have oqB := Nat.le_trans bel.size ge
        replace hfB := blk_u hfB bb
        replace hpB := blk_u hpB bb
        replace hdB := blk_u hdB bb
        replace hb67 := blk_u hb67 bb
        replace ll := ll.below bb
        replace uo := uo.below bb
        replace ub := ub.below bb
        replace po := po.below bb
        replace pb := pb.below bb
        replace gd := gd.below bb
        replace ops := ops.below bb
        replace opsw := own_under opsw bb
        replace lz_ops := Nat.le_trans lz_ops bb.size
        replace hT := hT.below bb
        replace ap_fB := ap_fB.below bb
        replace an_uo := an_uo.below bb
        replace an_ub := an_ub.below bb
        replace an_po := an_po.below bb
        replace an_pb := an_pb.below bb
        replace ap_pB := ap_pB.below bb
        replace an_gd := an_gd.below bb
        replace ap_dB := ap_dB.below bb
        replace ap_b67 := ap_b67.below bb
        replace ap_qB := ap_qB.below bb
        replace bel := bel.trans (bb.mono bel.size)
        have hqB := hh
        clear hh ge bb
        refine hK.out _ _ ⟨hfB, hdB⟩ (fun hH20 => ?_)
        clear hK K
        simp only [sq4]
        refine wpAnyH_ready (rs := [9]) (by kernel_rfl) (by simp) ?_
        refine AllReadyH.cons (o := _) rfl (fun K hK => ?_) AllReadyH.nil
        simp only [sq3]
        go_simp
        with_reducible refine (b_put _ ops ll Hc1.out Hc2.out Hc3.out Hc4.out HN.out HLL.out).mono ?_
        rintro e w21 ⟨Aqo, cqo, Aqb, cqb, rfl, qo, qb, fqo, fqb, b21⟩
        dsimp only
        have av_qo_fB := fqo.av (hlt hfB)
        have av_qo_pB := fqo.av (hlt hpB)
        have av_qo_dB := fqo.av (hlt hdB)
        have av_qo_b67 := fqo.av (hlt hb67)
        have av_qo_qB := fqo.av (hlt hqB)
        have av_qb_fB := fqb.av (hlt hfB)
        have av_qb_pB := fqb.av (hlt hpB)
        have av_qb_dB := fqb.av (hlt hdB)
        have av_qb_b67 := fqb.av (hlt hb67)
        have av_qb_qB := fqb.av (hlt hqB)
        have an_qo := hT.an fqo
        have an_qb := hT.an fqb
        replace hfB := blk_u hfB b21
        replace hpB := blk_u hpB b21
        replace hdB := blk_u hdB b21
        replace hb67 := blk_u hb67 b21
        replace hqB := blk_u hqB b21
        replace ll := ll.below b21
        replace uo := uo.below b21
        replace ub := ub.below b21
        replace po := po.below b21
        replace pb := pb.below b21
        replace gd := gd.below b21
        replace ops := ops.below b21
        replace opsw := own_under opsw b21
        replace lz_ops := Nat.le_trans lz_ops b21.size
        replace hT := hT.below b21
        replace ap_fB := ap_fB.below b21
        replace an_uo := an_uo.below b21
        replace an_ub := an_ub.below b21
        replace an_po := an_po.below b21
        replace an_pb := an_pb.below b21
        replace ap_pB := ap_pB.below b21
        replace an_gd := an_gd.below b21
        replace ap_dB := ap_dB.below b21
        replace ap_b67 := ap_b67.below b21
        replace ap_qB := ap_qB.below b21
        replace an_qo := an_qo.below b21
        replace an_qb := an_qb.below b21
        replace bel := bel.trans (b21.mono bel.size)
        clear b21
        replace qo : Sl w21 (Aqo) (4) (cqo) ([1, 1, 1, 0]) := qo
        replace qb : Sl w21 (Aqb) (8 + n) (cqb) (udBytes m0 m1 m2 m3 203 0 113 7 fp (nQ port) L) := qb
        refine hK.out _ _ ⟨hfB, hdB⟩ (fun hH22 => ?_)
        clear hK K
        refine wpAnyH_take (i := 10) (v := ?_) rfl (by kernel_rfl) (by kernel_rfl) (by kernel_rfl) (fun _ _ _ h => h) (Or.inl ⟨by rfl, ?_⟩) hH22 ?_
        rotate_left
        · ((intro W hW; clear hW; go_simp) <;> with_reducible rfl)
        simp only [sq3, sq4]
        refine wpAnyH_take (i := 11) (v := ?_) rfl (by kernel_rfl) (by kernel_rfl) (by kernel_rfl) (fun _ _ _ h => h) (Or.inl ⟨by rfl, ?_⟩) hH22 ?_
        rotate_left
        · ((intro W hW; clear hW; go_simp) <;> with_reducible rfl)
        simp only [sq3, sq4]
        refine wpAnyH_take (i := 12) (v := ?_) rfl (by kernel_rfl) (by kernel_rfl) (by kernel_rfl) (fun _ _ _ h => h) (Or.inl ⟨by rfl, ?_⟩) hH22 ?_
        rotate_left
        · ((intro W hW; clear hW; go_simp) <;> with_reducible rfl)
        simp only [sq3, sq4]
        refine wpAnyH_ready (rs := [14]) (by kernel_rfl) (by simp) ?_
        refine AllReadyH.cons (o := _) rfl (fun K hK => ?_) AllReadyH.nil
        simp only [sq3]
        rw [if_pos (by rfl)]
        refine wp_store_blk 38 (.tmp 17) (.tmp 75) rfl g17 rfl _ rfl _ 38 hqB (by rfl) (by kernel_rfl) (by kernel_rfl) ?_
        intro w23 hq gr
        replace ll := ll.away av_ll_qB gr
        replace uo := uo.away av_uo_qB gr
        replace ub := ub.away av_ub_qB gr
        replace po := po.away av_po_qB gr
        replace pb := pb.away av_pb_qB gr
        replace gd := gd.away av_gd_qB gr
        replace ops := ops.away av_ops_qB gr
        replace opsw := own_off opsw of_ops_qB gr
        replace qo := qo.away av_qo_qB gr
        replace qb := qb.away av_qb_qB gr
        replace lz_ops := Nat.le_trans lz_ops gr.size
        replace hfB := blk_a hfB gr d_fB_qB
        replace hpB := blk_a hpB gr d_pB_qB
        replace hdB := blk_a hdB gr d_dB_qB
        replace hb67 := blk_a hb67 gr d_b67_qB
        replace hT := hT.away ap_qB gr hqB
        replace ap_fB := ap_fB.grown ap_qB gr
        replace an_uo := an_uo.grown ap_qB gr
        replace an_ub := an_ub.grown ap_qB gr
        replace an_po := an_po.grown ap_qB gr
        replace an_pb := an_pb.grown ap_qB gr
        replace ap_pB := ap_pB.grown ap_qB gr
        replace an_gd := an_gd.grown ap_qB gr
        replace ap_dB := ap_dB.grown ap_qB gr
        replace ap_b67 := ap_b67.grown ap_qB gr
        replace ap_qB := ap_qB.grown ap_qB gr
        replace an_qo := an_qo.grown ap_qB gr
        replace an_qb := an_qb.grown ap_qB gr
        replace bel := below_grown bel gr oqB bel.size
        clear hqB
        have hqB := hq
        clear hq gr
        refine hK.out _ _ ⟨hfB, hdB⟩ (fun hH24 => ?_)
        clear hK K
        simp only [Act.put]
        refine wpAnyH_take (i := 15) (v := ?_) rfl (by kernel_rfl) (by kernel_rfl) (by kernel_rfl) (fun _ _ _ h => h) (Or.inl ⟨by rfl, ?_⟩) hH24 ?_
        rotate_left
        · ((intro W hW; clear hW; go_simp) <;> with_reducible rfl)
        simp only [sq3, sq4]
        refine wpAnyH_done (by kernel_rfl) ?_ _
        go_wp2_with fail
        go_meet
        case rel => exact ⟨g67, g17, Aqo, cqo, Aqb, cqb, rfl, rfl, hfB, hpB, hdB, hb67, ob67, hqB, oqB, (ne_symm d_dB_b67), (ne_symm d_fB_b67), (ne_symm d_pB_b67), d_b67_qB, (ne_symm d_fB_dB), (ne_symm d_pB_dB), d_dB_qB, d_fB_pB, d_fB_qB, d_pB_qB, ll, av_ll_b67, av_ll_dB, av_ll_fB, av_ll_pB, av_ll_qB, uo, av_uo_b67, av_uo_dB, av_uo_fB, av_uo_pB, av_uo_qB, ub, av_ub_b67, av_ub_dB, av_ub_fB, av_ub_pB, av_ub_qB, po, av_po_b67, av_po_dB, av_po_fB, av_po_pB, av_po_qB, pb, av_pb_b67, av_pb_dB, av_pb_fB, av_pb_pB, av_pb_qB, gd, av_gd_b67, av_gd_dB, av_gd_fB, av_gd_pB, av_gd_qB, ops, av_ops_dB, av_ops_fB, av_ops_pB, av_ops_qB, qo, av_qo_b67, av_qo_dB, av_qo_fB, av_qo_pB, av_qo_qB, qb, av_qb_b67, av_qb_dB, av_qb_fB, av_qb_pB, av_qb_qB, hT, ap_fB, an_uo, an_ub, an_po, an_pb, ap_pB, an_gd, ap_dB, ap_b67, an_qo, an_qb, ap_qB, bel⟩
      simp only [sq3]
      go_simp
      with_reducible refine (b_put _ ops ll Hc1.out Hc2.out Hc3.out Hc4.out HN.out HLL.out).mono ?_
      rintro e w19 ⟨Aqo, cqo, Aqb, cqb, rfl, qo, qb, fqo, fqb, b19⟩
      dsimp only
      have av_qo_fB := fqo.av (hlt hfB)
      have av_qo_pB := fqo.av (hlt hpB)
      have av_qo_dB := fqo.av (hlt hdB)
      have av_qo_b67 := fqo.av (hlt hb67)
      have av_qb_fB := fqb.av (hlt hfB)
      have av_qb_pB := fqb.av (hlt hpB)
      have av_qb_dB := fqb.av (hlt hdB)
      have av_qb_b67 := fqb.av (hlt hb67)
      have an_qo := hT.an fqo
      have an_qb := hT.an fqb
      replace hfB := blk_u hfB b19
      replace hpB := blk_u hpB b19
      replace hdB := blk_u hdB b19
      replace hb67 := blk_u hb67 b19
      replace ll := ll.below b19
      replace uo := uo.below b19
      replace ub := ub.below b19
      replace po := po.below b19
      replace pb := pb.below b19
      replace gd := gd.below b19
      replace ops := ops.below b19
      replace opsw := own_under opsw b19
      replace lz_ops := Nat.le_trans lz_ops b19.size
      replace hT := hT.below b19
      replace ap_fB := ap_fB.below b19
      replace an_uo := an_uo.below b19
      replace an_ub := an_ub.below b19
      replace an_po := an_po.below b19
      replace an_pb := an_pb.below b19
      replace ap_pB := ap_pB.below b19
      replace an_gd := an_gd.below b19
      replace ap_dB := ap_dB.below b19
      replace ap_b67 := ap_b67.below b19
      replace an_qo := an_qo.below b19
      replace an_qb := an_qb.below b19
      replace bel := bel.trans (b19.mono bel.size)
      clear b19
      replace qo : Sl w19 (Aqo) (4) (cqo) ([1, 1, 1, 0]) := qo
      replace qb : Sl w19 (Aqb) (8 + n) (cqb) (udBytes m0 m1 m2 m3 203 0 113 7 fp (nQ port) L) := qb
      refine hK.out _ _ ⟨hfB, hdB⟩ (fun hH20 => ?_)
      clear hK K
      refine wpAnyH_take (i := 10) (v := ?_) rfl (by kernel_rfl) (by kernel_rfl) (by kernel_rfl) (fun _ _ _ h => h) (Or.inl ⟨by rfl, ?_⟩) hH20 ?_
      rotate_left
      · ((intro W hW; clear hW; go_simp) <;> with_reducible rfl)
      simp only [sq3, sq4]
      refine wpAnyH_take (i := 11) (v := ?_) rfl (by kernel_rfl) (by kernel_rfl) (by kernel_rfl) (fun _ _ _ h => h) (Or.inl ⟨by rfl, ?_⟩) hH20 ?_
      rotate_left
      · ((intro W hW; clear hW; go_simp) <;> with_reducible rfl)
      simp only [sq3, sq4]
      refine wpAnyH_take (i := 12) (v := ?_) rfl (by kernel_rfl) (by kernel_rfl) (by kernel_rfl) (fun _ _ _ h => h) (Or.inl ⟨by rfl, ?_⟩) hH20 ?_
      rotate_left
      · ((intro W hW; clear hW; go_simp) <;> with_reducible rfl)
      simp only [sq3, sq4]
      refine wpAnyH_ready (rs := [13]) (by kernel_rfl) (by simp) ?_
      refine AllReadyH.cons (o := _) rfl (fun K hK => ?_) AllReadyH.nil
      simp only [sq3]
      rw [if_pos (by rfl)]
      refine wp_new_a 38 rfl #[.int .i64 0, .int .i64 0, .int .i64 0, .int .i64 0, .int .i64 0, .int .i64 0, .int .u8 0, .int .u8 0, .int .u8 0, .int .u8 0, .int .u8 0, .int .u8 0, .int .u8 0, .int .u8 0, .slice none 0 0, .slice none 0 0] (by kernel_rfl) ?_
      intro g17 w21 ge hh bb
      have ap_qB := hT.ap ge
      have d_fB_qB := ne_new (hlt hfB) ge
      have d_pB_qB := ne_new (hlt hpB) ge
      have d_dB_qB := ne_new (hlt hdB) ge
      have d_b67_qB := ne_new (hlt hb67) ge
      have av_ll_qB := ll.av_new ge
      have av_uo_qB := uo.av_new ge
      have av_ub_qB := ub.av_new ge
      have av_po_qB := po.av_new ge
      have av_pb_qB := pb.av_new ge
      have av_gd_qB := gd.av_new ge
      have av_ops_qB := ops.av_new ge
      have of_ops_qB := own_new opsw ge
      have av_qo_qB := qo.av_new ge
      have av_qb_qB := qb.av_new ge
      have oqB := Nat.le_trans bel.size ge
      replace hfB := blk_u hfB bb
      replace hpB := blk_u hpB bb
      replace hdB := blk_u hdB bb
      replace hb67 := blk_u hb67 bb
      replace ll := ll.below bb
      replace uo := uo.below bb
      replace ub := ub.below bb
      replace po := po.below bb
      replace pb := pb.below bb
      replace gd := gd.below bb
      replace ops := ops.below bb
      replace opsw := own_under opsw bb
      replace qo := qo.below bb
      replace qb := qb.below bb
      replace lz_ops := Nat.le_trans lz_ops bb.size
      replace hT := hT.below bb
      replace ap_fB := ap_fB.below bb
      replace an_uo := an_uo.below bb
      replace an_ub := an_ub.below bb
      replace an_po := an_po.below bb
      replace an_pb := an_pb.below bb
      replace ap_pB := ap_pB.below bb
      replace an_gd := an_gd.below bb
      replace ap_dB := ap_dB.below bb
      replace ap_b67 := ap_b67.below bb
      replace an_qo := an_qo.below bb
      replace an_qb := an_qb.below bb
      replace ap_qB := ap_qB.below bb
      replace bel := bel.trans (bb.mono bel.size)
      have hqB := hh
      clear hh ge bb
      refine hK.out _ _ ⟨hfB, hdB⟩ (fun hH22 => ?_)
      clear hK K
      simp only [sq4]
      refine wpAnyH_ready (rs := [14]) (by kernel_rfl) (by simp) ?_
      refine AllReadyH.cons (o := _) rfl (fun K hK => ?_) AllReadyH.nil
      simp only [sq3]
      rw [if_pos (by rfl)]
      refine wp_store_blk 38 (.tmp 17) (.tmp 75) rfl g17 rfl _ rfl _ 38 hqB (by rfl) (by kernel_rfl) (by kernel_rfl) ?_
      intro w23 hq gr
      replace ll := ll.away av_ll_qB gr
      replace uo := uo.away av_uo_qB gr
      replace ub := ub.away av_ub_qB gr
      replace po := po.away av_po_qB gr
      replace pb := pb.away av_pb_qB gr
      replace gd := gd.away av_gd_qB gr
      replace ops := ops.away av_ops_qB gr
      replace opsw := own_off opsw of_ops_qB gr
      replace qo := qo.away av_qo_qB gr
      replace qb := qb.away av_qb_qB gr
      replace lz_ops := Nat.le_trans lz_ops gr.size
      replace hfB := blk_a hfB gr d_fB_qB
      replace hpB := blk_a hpB gr d_pB_qB
      replace hdB := blk_a hdB gr d_dB_qB
      replace hb67 := blk_a hb67 gr d_b67_qB
      replace hT := hT.away ap_qB gr hqB
      replace ap_fB := ap_fB.grown ap_qB gr
      replace an_uo := an_uo.grown ap_qB gr
      replace an_ub := an_ub.grown ap_qB gr
      replace an_po := an_po.grown ap_qB gr
      replace an_pb := an_pb.grown ap_qB gr
      replace ap_pB := ap_pB.grown ap_qB gr
      replace an_gd := an_gd.grown ap_qB gr
      replace ap_dB := ap_dB.grown ap_qB gr
      replace ap_b67 := ap_b67.grown ap_qB gr
      replace an_qo := an_qo.grown ap_qB gr
      replace an_qb := an_qb.grown ap_qB gr
      replace ap_qB := ap_qB.grown ap_qB gr
      replace bel := below_grown bel gr oqB bel.size
      clear hqB
      have hqB := hq
      clear hq gr
      refine hK.out _ _ ⟨hfB, hdB⟩ (fun hH24 => ?_)
      clear hK K
      simp only [Act.put]
      refine wpAnyH_take (i := 15) (v := ?_) rfl (by kernel_rfl) (by kernel_rfl) (by kernel_rfl) (fun _ _ _ h => h) (Or.inl ⟨by rfl, ?_⟩) hH24 ?_
      rotate_left
      · ((intro W hW; clear hW; go_simp) <;> with_reducible rfl)
      simp only [sq3, sq4]
      refine wpAnyH_done (by kernel_rfl) ?_ _
      go_wp2_with fail
      go_meet
      case rel => exact ⟨g67, g17, Aqo, cqo, Aqb, cqb, rfl, rfl, hfB, hpB, hdB, hb67, ob67, hqB, oqB, (ne_symm d_dB_b67), (ne_symm d_fB_b67), (ne_symm d_pB_b67), d_b67_qB, (ne_symm d_fB_dB), (ne_symm d_pB_dB), d_dB_qB, d_fB_pB, d_fB_qB, d_pB_qB, ll, av_ll_b67, av_ll_dB, av_ll_fB, av_ll_pB, av_ll_qB, uo, av_uo_b67, av_uo_dB, av_uo_fB, av_uo_pB, av_uo_qB, ub, av_ub_b67, av_ub_dB, av_ub_fB, av_ub_pB, av_ub_qB, po, av_po_b67, av_po_dB, av_po_fB, av_po_pB, av_po_qB, pb, av_pb_b67, av_pb_dB, av_pb_fB, av_pb_pB, av_pb_qB, gd, av_gd_b67, av_gd_dB, av_gd_fB, av_gd_pB, av_gd_qB, ops, av_ops_dB, av_ops_fB, av_ops_pB, av_ops_qB, qo, av_qo_b67, av_qo_dB, av_qo_fB, av_qo_pB, av_qo_qB, qb, av_qb_b67, av_qb_dB, av_qb_fB, av_qb_pB, av_qb_qB, hT, ap_fB, an_uo, an_ub, an_po, an_pb, ap_pB, an_gd, ap_dB, ap_b67, an_qo, an_qb, ap_qB, bel⟩
    · simp only [sq3]
      rw [if_pos (by rfl)]
      refine wp_new_a 38 rfl #[.int .i64 0, .int .i64 0, .int .i64 0, .int .i64 0, .int .i64 0, .int .i64 0, .int .u8 0, .int .u8 0, .int .u8 0, .int .u8 0, .int .u8 0, .int .u8 0, .int .u8 0, .int .u8 0, .slice none 0 0, .slice none 0 0] (by kernel_rfl) ?_
      intro g17 w15 ge hh bb
      have ap_qB := hT.ap ge
      have d_fB_qB := ne_new (hlt hfB) ge
      have d_pB_qB := ne_new (hlt hpB) ge
      have d_dB_qB := ne_new (hlt hdB) ge
      have av_ll_qB := ll.av_new ge
      have av_uo_qB := uo.av_new ge
      have av_ub_qB := ub.av_new ge
      have av_po_qB := po.av_new ge
      have av_pb_qB := pb.av_new ge
      have av_gd_qB := gd.av_new ge
      have oqB := Nat.le_trans bel.size ge
      replace hfB := blk_u hfB bb
      replace hpB := blk_u hpB bb
      replace hdB := blk_u hdB bb
      replace ll := ll.below bb
      replace uo := uo.below bb
      replace ub := ub.below bb
      replace po := po.below bb
      replace pb := pb.below bb
      replace gd := gd.below bb
      replace hT := hT.below bb
      replace ap_fB := ap_fB.below bb
      replace an_uo := an_uo.below bb
      replace an_ub := an_ub.below bb
      replace an_po := an_po.below bb
      replace an_pb := an_pb.below bb
      replace ap_pB := ap_pB.below bb
      replace an_gd := an_gd.below bb
      replace ap_dB := ap_dB.below bb
      replace ap_qB := ap_qB.below bb
      replace bel := bel.trans (bb.mono bel.size)
      have hqB := hh
      clear hh ge bb
      refine hK.out _ _ ⟨hfB, hdB⟩ (fun hH16 => ?_)
      clear hK K
      simp only [sq4]
      refine wpAnyH_ready (rs := [1, 2]) (by kernel_rfl) (by simp) ?_
      refine AllReadyH.cons (o := _) rfl (fun K hK => ?_) (AllReadyH.cons (o := _) rfl (fun K hK => ?_) AllReadyH.nil)
      · simp only [sq3]
        go_simp
        with_reducible refine (wan19 _).mono ?_
        rintro e w17 ⟨rfl, b17⟩
        dsimp only
        replace hfB := blk_u hfB b17
        replace hpB := blk_u hpB b17
        replace hdB := blk_u hdB b17
        replace hqB := blk_u hqB b17
        replace ll := ll.below b17
        replace uo := uo.below b17
        replace ub := ub.below b17
        replace po := po.below b17
        replace pb := pb.below b17
        replace gd := gd.below b17
        replace hT := hT.below b17
        replace ap_fB := ap_fB.below b17
        replace an_uo := an_uo.below b17
        replace an_ub := an_ub.below b17
        replace an_po := an_po.below b17
        replace an_pb := an_pb.below b17
        replace ap_pB := ap_pB.below b17
        replace an_gd := an_gd.below b17
        replace ap_dB := ap_dB.below b17
        replace ap_qB := ap_qB.below b17
        replace bel := bel.trans (b17.mono bel.size)
        clear b17
        refine hK.out _ _ ⟨hfB, hdB⟩ (fun hH18 => ?_)
        clear hK K
        refine wpAnyH_ready (rs := [2]) (by kernel_rfl) (by simp) ?_
        refine AllReadyH.cons (o := _) rfl (fun K hK => ?_) AllReadyH.nil
        simp only [sq3]
        rw [if_pos (by rfl)]
        refine wp_lit_n 36 5 4 _ rfl #[.int .u8 1, .int .u8 1, .int .u8 1, .int .u8 0] (.int .u8 0) Tryz.underlying36 (by kernel_rfl) 1 (by kernel_rfl) (by decide) (by kernel_rfl) ?_
        intro g67 w19 ge lt hh bb
        have hl : w19.heap[g67]? = some (.cells (([1, 1, 1, 0] : List UInt8).map u8v).toArray 5 (0, 0)) := (by simpa [u8v, byteOf_val] using hh)
        have opsw := own_lit (B := w17.heap.size) ([1, 1, 1, 0]) hl ge 4 rfl (by simp [maxLen])
        have ops := (own_sl opsw).1
        have opslo := bel.size
        clear hl
        have opsge := ge
        have lz_ops := bb.size
        have y_ops_fB := Lib.hid (hlt hfB)
        have y_ops_pB := Lib.hid (hlt hpB)
        have y_ops_dB := Lib.hid (hlt hdB)
        have y_ops_qB := Lib.hid (hlt hqB)
        have bl_ll_ops := ll.bl_new
        have bl_uo_ops := uo.bl_new
        have bl_ub_ops := ub.bl_new
        have bl_po_ops := po.bl_new
        have bl_pb_ops := pb.bl_new
        have bl_gd_ops := gd.bl_new
        have ap_b67 := hT.ap ge
        have d_fB_b67 := ne_new (hlt hfB) ge
        have d_pB_b67 := ne_new (hlt hpB) ge
        have d_dB_b67 := ne_new (hlt hdB) ge
        have d_qB_b67 := ne_new (hlt hqB) ge
        have av_ll_b67 := ll.av_new ge
        have av_uo_b67 := uo.av_new ge
        have av_ub_b67 := ub.av_new ge
        have av_po_b67 := po.av_new ge
        have av_pb_b67 := pb.av_new ge
        have av_gd_b67 := gd.av_new ge
        have ob67 := Nat.le_trans bel.size ge
        replace hfB := blk_u hfB bb
        replace hpB := blk_u hpB bb
        replace hdB := blk_u hdB bb
        replace hqB := blk_u hqB bb
        replace ll := ll.below bb
        replace uo := uo.below bb
        replace ub := ub.below bb
        replace po := po.below bb
        replace pb := pb.below bb
        replace gd := gd.below bb
        replace hT := hT.below bb
        replace ap_fB := ap_fB.below bb
        replace an_uo := an_uo.below bb
        replace an_ub := an_ub.below bb
        replace an_po := an_po.below bb
        replace an_pb := an_pb.below bb
        replace ap_pB := ap_pB.below bb
        replace an_gd := an_gd.below bb
        replace ap_dB := ap_dB.below bb
        replace ap_qB := ap_qB.below bb
        replace ap_b67 := ap_b67.below bb
        replace bel := bel.trans (bb.mono bel.size)
        have hb67 := hh
        clear hh lt ge bb
        have av_ops_fB := (own_sl opsw).2.av y_ops_fB.out
        have av_ops_pB := (own_sl opsw).2.av y_ops_pB.out
        have av_ops_dB := (own_sl opsw).2.av y_ops_dB.out
        have av_ops_qB := (own_sl opsw).2.av y_ops_qB.out
        refine hK.out _ _ ⟨hfB, hdB⟩ (fun hH20 => ?_)
        clear hK K
        simp only [sq4]
        refine wpAnyH_take (i := 3) (v := ?_) rfl (by kernel_rfl) (by kernel_rfl) (by kernel_rfl) (fun _ _ _ h => h) (Or.inl ⟨by rfl, ?_⟩) hH20 ?_
        rotate_left
        · ((intro W hW; clear hW; go_simp) <;> with_reducible rfl)
        simp only [sq3, sq4]
        refine wpAnyH_ready (rs := [9]) (by kernel_rfl) (by simp) ?_
        refine AllReadyH.cons (o := _) rfl (fun K hK => ?_) AllReadyH.nil
        simp only [sq3]
        go_simp
        with_reducible refine (b_put _ ops ll Hc1.out Hc2.out Hc3.out Hc4.out HN.out HLL.out).mono ?_
        rintro e w21 ⟨Aqo, cqo, Aqb, cqb, rfl, qo, qb, fqo, fqb, b21⟩
        dsimp only
        have av_qo_fB := fqo.av (hlt hfB)
        have av_qo_pB := fqo.av (hlt hpB)
        have av_qo_dB := fqo.av (hlt hdB)
        have av_qo_qB := fqo.av (hlt hqB)
        have av_qo_b67 := fqo.av (hlt hb67)
        have av_qb_fB := fqb.av (hlt hfB)
        have av_qb_pB := fqb.av (hlt hpB)
        have av_qb_dB := fqb.av (hlt hdB)
        have av_qb_qB := fqb.av (hlt hqB)
        have av_qb_b67 := fqb.av (hlt hb67)
        have an_qo := hT.an fqo
        have an_qb := hT.an fqb
        replace hfB := blk_u hfB b21
        replace hpB := blk_u hpB b21
        replace hdB := blk_u hdB b21
        replace hqB := blk_u hqB b21
        replace hb67 := blk_u hb67 b21
        replace ll := ll.below b21
        replace uo := uo.below b21
        replace ub := ub.below b21
        replace po := po.below b21
        replace pb := pb.below b21
        replace gd := gd.below b21
        replace ops := ops.below b21
        replace opsw := own_under opsw b21
        replace lz_ops := Nat.le_trans lz_ops b21.size
        replace hT := hT.below b21
        replace ap_fB := ap_fB.below b21
        replace an_uo := an_uo.below b21
        replace an_ub := an_ub.below b21
        replace an_po := an_po.below b21
        replace an_pb := an_pb.below b21
        replace ap_pB := ap_pB.below b21
        replace an_gd := an_gd.below b21
        replace ap_dB := ap_dB.below b21
        replace ap_qB := ap_qB.below b21
        replace ap_b67 := ap_b67.below b21
        replace an_qo := an_qo.below b21
        replace an_qb := an_qb.below b21
        replace bel := bel.trans (b21.mono bel.size)
        clear b21
        replace qo : Sl w21 (Aqo) (4) (cqo) ([1, 1, 1, 0]) := qo
        replace qb : Sl w21 (Aqb) (8 + n) (cqb) (udBytes m0 m1 m2 m3 203 0 113 7 fp (nQ port) L) := qb
        refine hK.out _ _ ⟨hfB, hdB⟩ (fun hH22 => ?_)
        clear hK K
        refine wpAnyH_take (i := 10) (v := ?_) rfl (by kernel_rfl) (by kernel_rfl) (by kernel_rfl) (fun _ _ _ h => h) (Or.inl ⟨by rfl, ?_⟩) hH22 ?_
        rotate_left
        · ((intro W hW; clear hW; go_simp) <;> with_reducible rfl)
        simp only [sq3, sq4]
        refine wpAnyH_take (i := 11) (v := ?_) rfl (by kernel_rfl) (by kernel_rfl) (by kernel_rfl) (fun _ _ _ h => h) (Or.inl ⟨by rfl, ?_⟩) hH22 ?_
        rotate_left
        · ((intro W hW; clear hW; go_simp) <;> with_reducible rfl)
        simp only [sq3, sq4]
        refine wpAnyH_take (i := 12) (v := ?_) rfl (by kernel_rfl) (by kernel_rfl) (by kernel_rfl) (fun _ _ _ h => h) (Or.inl ⟨by rfl, ?_⟩) hH22 ?_
        rotate_left
        · ((intro W hW; clear hW; go_simp) <;> with_reducible rfl)
        simp only [sq3, sq4]
        refine wpAnyH_ready (rs := [14]) (by kernel_rfl) (by simp) ?_
        refine AllReadyH.cons (o := _) rfl (fun K hK => ?_) AllReadyH.nil
        simp only [sq3]
        rw [if_pos (by rfl)]
        refine wp_store_blk 38 (.tmp 17) (.tmp 75) rfl g17 rfl _ rfl _ 38 hqB (by rfl) (by kernel_rfl) (by kernel_rfl) ?_
        intro w23 hq gr
        replace ll := ll.away av_ll_qB gr
        replace uo := uo.away av_uo_qB gr
        replace ub := ub.away av_ub_qB gr
        replace po := po.away av_po_qB gr
        replace pb := pb.away av_pb_qB gr
        replace gd := gd.away av_gd_qB gr
        replace ops := ops.away av_ops_qB gr
        replace opsw := own_away opsw y_ops_qB.out gr
        replace qo := qo.away av_qo_qB gr
        replace qb := qb.away av_qb_qB gr
        replace lz_ops := Nat.le_trans lz_ops gr.size
        replace hfB := blk_a hfB gr d_fB_qB
        replace hpB := blk_a hpB gr d_pB_qB
        replace hdB := blk_a hdB gr d_dB_qB
        replace hb67 := blk_a hb67 gr (ne_symm d_qB_b67)
        replace hT := hT.away ap_qB gr hqB
        replace ap_fB := ap_fB.grown ap_qB gr
        replace an_uo := an_uo.grown ap_qB gr
        replace an_ub := an_ub.grown ap_qB gr
        replace an_po := an_po.grown ap_qB gr
        replace an_pb := an_pb.grown ap_qB gr
        replace ap_pB := ap_pB.grown ap_qB gr
        replace an_gd := an_gd.grown ap_qB gr
        replace ap_dB := ap_dB.grown ap_qB gr
        replace ap_qB := ap_qB.grown ap_qB gr
        replace ap_b67 := ap_b67.grown ap_qB gr
        replace an_qo := an_qo.grown ap_qB gr
        replace an_qb := an_qb.grown ap_qB gr
        replace bel := below_grown bel gr oqB bel.size
        clear hqB
        have hqB := hq
        clear hq gr
        refine hK.out _ _ ⟨hfB, hdB⟩ (fun hH24 => ?_)
        clear hK K
        simp only [Act.put]
        refine wpAnyH_take (i := 15) (v := ?_) rfl (by kernel_rfl) (by kernel_rfl) (by kernel_rfl) (fun _ _ _ h => h) (Or.inl ⟨by rfl, ?_⟩) hH24 ?_
        rotate_left
        · ((intro W hW; clear hW; go_simp) <;> with_reducible rfl)
        simp only [sq3, sq4]
        refine wpAnyH_done (by kernel_rfl) ?_ _
        go_wp2_with fail
        go_meet
        case rel => exact ⟨g67, g17, Aqo, cqo, Aqb, cqb, rfl, rfl, hfB, hpB, hdB, hb67, ob67, hqB, oqB, (ne_symm d_dB_b67), (ne_symm d_fB_b67), (ne_symm d_pB_b67), (ne_symm d_qB_b67), (ne_symm d_fB_dB), (ne_symm d_pB_dB), d_dB_qB, d_fB_pB, d_fB_qB, d_pB_qB, ll, av_ll_b67, av_ll_dB, av_ll_fB, av_ll_pB, av_ll_qB, uo, av_uo_b67, av_uo_dB, av_uo_fB, av_uo_pB, av_uo_qB, ub, av_ub_b67, av_ub_dB, av_ub_fB, av_ub_pB, av_ub_qB, po, av_po_b67, av_po_dB, av_po_fB, av_po_pB, av_po_qB, pb, av_pb_b67, av_pb_dB, av_pb_fB, av_pb_pB, av_pb_qB, gd, av_gd_b67, av_gd_dB, av_gd_fB, av_gd_pB, av_gd_qB, ops, av_ops_dB, av_ops_fB, av_ops_pB, av_ops_qB, qo, av_qo_b67, av_qo_dB, av_qo_fB, av_qo_pB, av_qo_qB, qb, av_qb_b67, av_qb_dB, av_qb_fB, av_qb_pB, av_qb_qB, hT, ap_fB, an_uo, an_ub, an_po, an_pb, ap_pB, an_gd, ap_dB, ap_b67, an_qo, an_qb, ap_qB, bel⟩
      simp only [sq3]
      rw [if_pos (by rfl)]
      refine wp_lit_n 36 5 4 _ rfl #[.int .u8 1, .int .u8 1, .int .u8 1, .int .u8 0] (.int .u8 0) Tryz.underlying36 (by kernel_rfl) 1 (by kernel_rfl) (by decide) (by kernel_rfl) ?_
      intro g67 w17 ge lt hh bb
      have hl : w17.heap[g67]? = some (.cells (([1, 1, 1, 0] : List UInt8).map u8v).toArray 5 (0, 0)) := (by simpa [u8v, byteOf_val] using hh)
      have opsw := own_lit (B := w15.heap.size) ([1, 1, 1, 0]) hl ge 4 rfl (by simp [maxLen])
      have ops := (own_sl opsw).1
      have opslo := bel.size
      clear hl
      have opsge := ge
      have lz_ops := bb.size
      have y_ops_fB := Lib.hid (hlt hfB)
      have y_ops_pB := Lib.hid (hlt hpB)
      have y_ops_dB := Lib.hid (hlt hdB)
      have y_ops_qB := Lib.hid (hlt hqB)
      have bl_ll_ops := ll.bl_new
      have bl_uo_ops := uo.bl_new
      have bl_ub_ops := ub.bl_new
      have bl_po_ops := po.bl_new
      have bl_pb_ops := pb.bl_new
      have bl_gd_ops := gd.bl_new
      have ap_b67 := hT.ap ge
      have d_fB_b67 := ne_new (hlt hfB) ge
      have d_pB_b67 := ne_new (hlt hpB) ge
      have d_dB_b67 := ne_new (hlt hdB) ge
      have d_qB_b67 := ne_new (hlt hqB) ge
      have av_ll_b67 := ll.av_new ge
      have av_uo_b67 := uo.av_new ge
      have av_ub_b67 := ub.av_new ge
      have av_po_b67 := po.av_new ge
      have av_pb_b67 := pb.av_new ge
      have av_gd_b67 := gd.av_new ge
      have ob67 := Nat.le_trans bel.size ge
      replace hfB := blk_u hfB bb
      replace hpB := blk_u hpB bb
      replace hdB := blk_u hdB bb
      replace hqB := blk_u hqB bb
      replace ll := ll.below bb
      replace uo := uo.below bb
      replace ub := ub.below bb
      replace po := po.below bb
      replace pb := pb.below bb
      replace gd := gd.below bb
      replace hT := hT.below bb
      replace ap_fB := ap_fB.below bb
      replace an_uo := an_uo.below bb
      replace an_ub := an_ub.below bb
      replace an_po := an_po.below bb
      replace an_pb := an_pb.below bb
      replace ap_pB := ap_pB.below bb
      replace an_gd := an_gd.below bb
      replace ap_dB := ap_dB.below bb
      replace ap_qB := ap_qB.below bb
      replace ap_b67 := ap_b67.below bb
      replace bel := bel.trans (bb.mono bel.size)
      have hb67 := hh
      clear hh lt ge bb
      have av_ops_fB := (own_sl opsw).2.av y_ops_fB.out
      have av_ops_pB := (own_sl opsw).2.av y_ops_pB.out
      have av_ops_dB := (own_sl opsw).2.av y_ops_dB.out
      have av_ops_qB := (own_sl opsw).2.av y_ops_qB.out
      refine hK.out _ _ ⟨hfB, hdB⟩ (fun hH18 => ?_)
      clear hK K
      simp only [sq4]
      refine wpAnyH_ready (rs := [1]) (by kernel_rfl) (by simp) ?_
      refine AllReadyH.cons (o := _) rfl (fun K hK => ?_) AllReadyH.nil
      simp only [sq3]
      go_simp
      with_reducible refine (wan19 _).mono ?_
      rintro e w19 ⟨rfl, b19⟩
      dsimp only
      replace hfB := blk_u hfB b19
      replace hpB := blk_u hpB b19
      replace hdB := blk_u hdB b19
      replace hqB := blk_u hqB b19
      replace hb67 := blk_u hb67 b19
      replace ll := ll.below b19
      replace uo := uo.below b19
      replace ub := ub.below b19
      replace po := po.below b19
      replace pb := pb.below b19
      replace gd := gd.below b19
      replace ops := ops.below b19
      replace opsw := own_under opsw b19
      replace lz_ops := Nat.le_trans lz_ops b19.size
      replace hT := hT.below b19
      replace ap_fB := ap_fB.below b19
      replace an_uo := an_uo.below b19
      replace an_ub := an_ub.below b19
      replace an_po := an_po.below b19
      replace an_pb := an_pb.below b19
      replace ap_pB := ap_pB.below b19
      replace an_gd := an_gd.below b19
      replace ap_dB := ap_dB.below b19
      replace ap_qB := ap_qB.below b19
      replace ap_b67 := ap_b67.below b19
      replace bel := bel.trans (b19.mono bel.size)
      clear b19
      refine hK.out _ _ ⟨hfB, hdB⟩ (fun hH20 => ?_)
      clear hK K
      refine wpAnyH_take (i := 3) (v := ?_) rfl (by kernel_rfl) (by kernel_rfl) (by kernel_rfl) (fun _ _ _ h => h) (Or.inl ⟨by rfl, ?_⟩) hH20 ?_
      rotate_left
      · ((intro W hW; clear hW; go_simp) <;> with_reducible rfl)
      simp only [sq3, sq4]
      refine wpAnyH_ready (rs := [9]) (by kernel_rfl) (by simp) ?_
      refine AllReadyH.cons (o := _) rfl (fun K hK => ?_) AllReadyH.nil
      simp only [sq3]
      go_simp
      with_reducible refine (b_put _ ops ll Hc1.out Hc2.out Hc3.out Hc4.out HN.out HLL.out).mono ?_
      rintro e w21 ⟨Aqo, cqo, Aqb, cqb, rfl, qo, qb, fqo, fqb, b21⟩
      dsimp only
      have av_qo_fB := fqo.av (hlt hfB)
      have av_qo_pB := fqo.av (hlt hpB)
      have av_qo_dB := fqo.av (hlt hdB)
      have av_qo_qB := fqo.av (hlt hqB)
      have av_qo_b67 := fqo.av (hlt hb67)
      have av_qb_fB := fqb.av (hlt hfB)
      have av_qb_pB := fqb.av (hlt hpB)
      have av_qb_dB := fqb.av (hlt hdB)
      have av_qb_qB := fqb.av (hlt hqB)
      have av_qb_b67 := fqb.av (hlt hb67)
      have an_qo := hT.an fqo
      have an_qb := hT.an fqb
      replace hfB := blk_u hfB b21
      replace hpB := blk_u hpB b21
      replace hdB := blk_u hdB b21
      replace hqB := blk_u hqB b21
      replace hb67 := blk_u hb67 b21
      replace ll := ll.below b21
      replace uo := uo.below b21
      replace ub := ub.below b21
      replace po := po.below b21
      replace pb := pb.below b21
      replace gd := gd.below b21
      replace ops := ops.below b21
      replace opsw := own_under opsw b21
      replace lz_ops := Nat.le_trans lz_ops b21.size
      replace hT := hT.below b21
      replace ap_fB := ap_fB.below b21
      replace an_uo := an_uo.below b21
      replace an_ub := an_ub.below b21
      replace an_po := an_po.below b21
      replace an_pb := an_pb.below b21
      replace ap_pB := ap_pB.below b21
      replace an_gd := an_gd.below b21
      replace ap_dB := ap_dB.below b21
      replace ap_qB := ap_qB.below b21
      replace ap_b67 := ap_b67.below b21
      replace an_qo := an_qo.below b21
      replace an_qb := an_qb.below b21
      replace bel := bel.trans (b21.mono bel.size)
      clear b21
      replace qo : Sl w21 (Aqo) (4) (cqo) ([1, 1, 1, 0]) := qo
      replace qb : Sl w21 (Aqb) (8 + n) (cqb) (udBytes m0 m1 m2 m3 203 0 113 7 fp (nQ port) L) := qb
      refine hK.out _ _ ⟨hfB, hdB⟩ (fun hH22 => ?_)
      clear hK K
      refine wpAnyH_take (i := 10) (v := ?_) rfl (by kernel_rfl) (by kernel_rfl) (by kernel_rfl) (fun _ _ _ h => h) (Or.inl ⟨by rfl, ?_⟩) hH22 ?_
      rotate_left
      · ((intro W hW; clear hW; go_simp) <;> with_reducible rfl)
      simp only [sq3, sq4]
      refine wpAnyH_take (i := 11) (v := ?_) rfl (by kernel_rfl) (by kernel_rfl) (by kernel_rfl) (fun _ _ _ h => h) (Or.inl ⟨by rfl, ?_⟩) hH22 ?_
      rotate_left
      · ((intro W hW; clear hW; go_simp) <;> with_reducible rfl)
      simp only [sq3, sq4]
      refine wpAnyH_take (i := 12) (v := ?_) rfl (by kernel_rfl) (by kernel_rfl) (by kernel_rfl) (fun _ _ _ h => h) (Or.inl ⟨by rfl, ?_⟩) hH22 ?_
      rotate_left
      · ((intro W hW; clear hW; go_simp) <;> with_reducible rfl)
      simp only [sq3, sq4]
      refine wpAnyH_ready (rs := [14]) (by kernel_rfl) (by simp) ?_
      refine AllReadyH.cons (o := _) rfl (fun K hK => ?_) AllReadyH.nil
      simp only [sq3]
      rw [if_pos (by rfl)]
      refine wp_store_blk 38 (.tmp 17) (.tmp 75) rfl g17 rfl _ rfl _ 38 hqB (by rfl) (by kernel_rfl) (by kernel_rfl) ?_
      intro w23 hq gr
      replace ll := ll.away av_ll_qB gr
      replace uo := uo.away av_uo_qB gr
      replace ub := ub.away av_ub_qB gr
      replace po := po.away av_po_qB gr
      replace pb := pb.away av_pb_qB gr
      replace gd := gd.away av_gd_qB gr
      replace ops := ops.away av_ops_qB gr
      replace opsw := own_away opsw y_ops_qB.out gr
      replace qo := qo.away av_qo_qB gr
      replace qb := qb.away av_qb_qB gr
      replace lz_ops := Nat.le_trans lz_ops gr.size
      replace hfB := blk_a hfB gr d_fB_qB
      replace hpB := blk_a hpB gr d_pB_qB
      replace hdB := blk_a hdB gr d_dB_qB
      replace hb67 := blk_a hb67 gr (ne_symm d_qB_b67)
      replace hT := hT.away ap_qB gr hqB
      replace ap_fB := ap_fB.grown ap_qB gr
      replace an_uo := an_uo.grown ap_qB gr
      replace an_ub := an_ub.grown ap_qB gr
      replace an_po := an_po.grown ap_qB gr
      replace an_pb := an_pb.grown ap_qB gr
      replace ap_pB := ap_pB.grown ap_qB gr
      replace an_gd := an_gd.grown ap_qB gr
      replace ap_dB := ap_dB.grown ap_qB gr
      replace ap_qB := ap_qB.grown ap_qB gr
      replace ap_b67 := ap_b67.grown ap_qB gr
      replace an_qo := an_qo.grown ap_qB gr
      replace an_qb := an_qb.grown ap_qB gr
      replace bel := below_grown bel gr oqB bel.size
      clear hqB
      have hqB := hq
      clear hq gr
      refine hK.out _ _ ⟨hfB, hdB⟩ (fun hH24 => ?_)
      clear hK K
      simp only [Act.put]
      refine wpAnyH_take (i := 15) (v := ?_) rfl (by kernel_rfl) (by kernel_rfl) (by kernel_rfl) (fun _ _ _ h => h) (Or.inl ⟨by rfl, ?_⟩) hH24 ?_
      rotate_left
      · ((intro W hW; clear hW; go_simp) <;> with_reducible rfl)
      simp only [sq3, sq4]
      refine wpAnyH_done (by kernel_rfl) ?_ _
      go_wp2_with fail
      go_meet
      case rel => exact ⟨g67, g17, Aqo, cqo, Aqb, cqb, rfl, rfl, hfB, hpB, hdB, hb67, ob67, hqB, oqB, (ne_symm d_dB_b67), (ne_symm d_fB_b67), (ne_symm d_pB_b67), (ne_symm d_qB_b67), (ne_symm d_fB_dB), (ne_symm d_pB_dB), d_dB_qB, d_fB_pB, d_fB_qB, d_pB_qB, ll, av_ll_b67, av_ll_dB, av_ll_fB, av_ll_pB, av_ll_qB, uo, av_uo_b67, av_uo_dB, av_uo_fB, av_uo_pB, av_uo_qB, ub, av_ub_b67, av_ub_dB, av_ub_fB, av_ub_pB, av_ub_qB, po, av_po_b67, av_po_dB, av_po_fB, av_po_pB, av_po_qB, pb, av_pb_b67, av_pb_dB, av_pb_fB, av_pb_pB, av_pb_qB, gd, av_gd_b67, av_gd_dB, av_gd_fB, av_gd_pB, av_gd_qB, ops, av_ops_dB, av_ops_fB, av_ops_pB, av_ops_qB, qo, av_qo_b67, av_qo_dB, av_qo_fB, av_qo_pB, av_qo_qB, qb, av_qb_b67, av_qb_dB, av_qb_fB, av_qb_pB, av_qb_qB, hT, ap_fB, an_uo, an_ub, an_po, an_pb, ap_pB, an_gd, ap_dB, ap_b67, an_qo, an_qb, ap_qB, bel⟩
    simp only [sq3]
    go_simp
    with_reducible refine (wan19 _).mono ?_
    rintro e w15 ⟨rfl, b15⟩
    dsimp only
    replace hfB := blk_u hfB b15
    replace hpB := blk_u hpB b15
    replace hdB := blk_u hdB b15
    replace ll := ll.below b15
    replace uo := uo.below b15
    replace ub := ub.below b15
    replace po := po.below b15
    replace pb := pb.below b15
    replace gd := gd.below b15
    replace hT := hT.below b15
    replace ap_fB := ap_fB.below b15
    replace an_uo := an_uo.below b15
    replace an_ub := an_ub.below b15
    replace an_po := an_po.below b15
    replace an_pb := an_pb.below b15
    replace ap_pB := ap_pB.below b15
    replace an_gd := an_gd.below b15
    replace ap_dB := ap_dB.below b15
    replace bel := bel.trans (b15.mono bel.size)
    clear b15
    refine hK.out _ _ ⟨hfB, hdB⟩ (fun hH16 => ?_)
    clear hK K
    refine wpAnyH_ready (rs := [2, 13]) (by kernel_rfl) (by simp) ?_
    refine AllReadyH.cons (o := _) rfl (fun K hK => ?_) (AllReadyH.cons (o := _) rfl (fun K hK => ?_) AllReadyH.nil)
    rotate_left
    · simp only [sq3]
      rw [if_pos (by rfl)]
      refine wp_new_a 38 rfl #[.int .i64 0, .int .i64 0, .int .i64 0, .int .i64 0, .int .i64 0, .int .i64 0, .int .u8 0, .int .u8 0, .int .u8 0, .int .u8 0, .int .u8 0, .int .u8 0, .int .u8 0, .int .u8 0, .slice none 0 0, .slice none 0 0] (by kernel_rfl) ?_
      intro g17 w17 ge hh bb
      have ap_qB := hT.ap ge
      have d_fB_qB := ne_new (hlt hfB) ge
      have d_pB_qB := ne_new (hlt hpB) ge
      have d_dB_qB := ne_new (hlt hdB) ge
      have av_ll_qB := ll.av_new ge
      have av_uo_qB := uo.av_new ge
      have av_ub_qB := ub.av_new ge
      have av_po_qB := po.av_new ge
      have av_pb_qB := pb.av_new ge
      have av_gd_qB := gd.av_new ge
      have oqB := Nat.le_trans bel.size ge
      replace hfB := blk_u hfB bb
      replace hpB := blk_u hpB bb
      replace hdB := blk_u hdB bb
      replace ll := ll.below bb
      replace uo := uo.below bb
      replace ub := ub.below bb
      replace po := po.below bb
      replace pb := pb.below bb
      replace gd := gd.below bb
      replace hT := hT.below bb
      replace ap_fB := ap_fB.below bb
      replace an_uo := an_uo.below bb
      replace an_ub := an_ub.below bb
      replace an_po := an_po.below bb
      replace an_pb := an_pb.below bb
      replace ap_pB := ap_pB.below bb
      replace an_gd := an_gd.below bb
      replace ap_dB := ap_dB.below bb
      replace ap_qB := ap_qB.below bb
      replace bel := bel.trans (bb.mono bel.size)
      have hqB := hh
      clear hh ge bb
      refine hK.out _ _ ⟨hfB, hdB⟩ (fun hH18 => ?_)
      clear hK K
      simp only [sq4]
      refine wpAnyH_ready (rs := [2]) (by kernel_rfl) (by simp) ?_
      refine AllReadyH.cons (o := _) rfl (fun K hK => ?_) AllReadyH.nil
      simp only [sq3]
      rw [if_pos (by rfl)]
      refine wp_lit_n 36 5 4 _ rfl #[.int .u8 1, .int .u8 1, .int .u8 1, .int .u8 0] (.int .u8 0) Tryz.underlying36 (by kernel_rfl) 1 (by kernel_rfl) (by decide) (by kernel_rfl) ?_
      intro g67 w19 ge lt hh bb
      have hl : w19.heap[g67]? = some (.cells (([1, 1, 1, 0] : List UInt8).map u8v).toArray 5 (0, 0)) := (by simpa [u8v, byteOf_val] using hh)
      have opsw := own_lit (B := w17.heap.size) ([1, 1, 1, 0]) hl ge 4 rfl (by simp [maxLen])
      have ops := (own_sl opsw).1
      have opslo := bel.size
      clear hl
      have opsge := ge
      have lz_ops := bb.size
      have y_ops_fB := Lib.hid (hlt hfB)
      have y_ops_pB := Lib.hid (hlt hpB)
      have y_ops_dB := Lib.hid (hlt hdB)
      have y_ops_qB := Lib.hid (hlt hqB)
      have bl_ll_ops := ll.bl_new
      have bl_uo_ops := uo.bl_new
      have bl_ub_ops := ub.bl_new
      have bl_po_ops := po.bl_new
      have bl_pb_ops := pb.bl_new
      have bl_gd_ops := gd.bl_new
      have ap_b67 := hT.ap ge
      have d_fB_b67 := ne_new (hlt hfB) ge
      have d_pB_b67 := ne_new (hlt hpB) ge
      have d_dB_b67 := ne_new (hlt hdB) ge
      have d_qB_b67 := ne_new (hlt hqB) ge
      have av_ll_b67 := ll.av_new ge
      have av_uo_b67 := uo.av_new ge
      have av_ub_b67 := ub.av_new ge
      have av_po_b67 := po.av_new ge
      have av_pb_b67 := pb.av_new ge
      have av_gd_b67 := gd.av_new ge
      have ob67 := Nat.le_trans bel.size ge
      replace hfB := blk_u hfB bb
      replace hpB := blk_u hpB bb
      replace hdB := blk_u hdB bb
      replace hqB := blk_u hqB bb
      replace ll := ll.below bb
      replace uo := uo.below bb
      replace ub := ub.below bb
      replace po := po.below bb
      replace pb := pb.below bb
      replace gd := gd.below bb
      replace hT := hT.below bb
      replace ap_fB := ap_fB.below bb
      replace an_uo := an_uo.below bb
      replace an_ub := an_ub.below bb
      replace an_po := an_po.below bb
      replace an_pb := an_pb.below bb
      replace ap_pB := ap_pB.below bb
      replace an_gd := an_gd.below bb
      replace ap_dB := ap_dB.below bb
      replace ap_qB := ap_qB.below bb
      replace ap_b67 := ap_b67.below bb
      replace bel := bel.trans (bb.mono bel.size)
      have hb67 := hh
      clear hh lt ge bb
      have av_ops_fB := (own_sl opsw).2.av y_ops_fB.out
      have av_ops_pB := (own_sl opsw).2.av y_ops_pB.out
      have av_ops_dB := (own_sl opsw).2.av y_ops_dB.out
      have av_ops_qB := (own_sl opsw).2.av y_ops_qB.out
      refine hK.out _ _ ⟨hfB, hdB⟩ (fun hH20 => ?_)
      clear hK K
      simp only [sq4]
      refine wpAnyH_take (i := 3) (v := ?_) rfl (by kernel_rfl) (by kernel_rfl) (by kernel_rfl) (fun _ _ _ h => h) (Or.inl ⟨by rfl, ?_⟩) hH20 ?_
      rotate_left
      · ((intro W hW; clear hW; go_simp) <;> with_reducible rfl)
      simp only [sq3, sq4]
      refine wpAnyH_ready (rs := [9]) (by kernel_rfl) (by simp) ?_
      refine AllReadyH.cons (o := _) rfl (fun K hK => ?_) AllReadyH.nil
      simp only [sq3]
      go_simp
      with_reducible refine (b_put _ ops ll Hc1.out Hc2.out Hc3.out Hc4.out HN.out HLL.out).mono ?_
      rintro e w21 ⟨Aqo, cqo, Aqb, cqb, rfl, qo, qb, fqo, fqb, b21⟩
      dsimp only
      have av_qo_fB := fqo.av (hlt hfB)
      have av_qo_pB := fqo.av (hlt hpB)
      have av_qo_dB := fqo.av (hlt hdB)
      have av_qo_qB := fqo.av (hlt hqB)
      have av_qo_b67 := fqo.av (hlt hb67)
      have av_qb_fB := fqb.av (hlt hfB)
      have av_qb_pB := fqb.av (hlt hpB)
      have av_qb_dB := fqb.av (hlt hdB)
      have av_qb_qB := fqb.av (hlt hqB)
      have av_qb_b67 := fqb.av (hlt hb67)
      have an_qo := hT.an fqo
      have an_qb := hT.an fqb
      replace hfB := blk_u hfB b21
      replace hpB := blk_u hpB b21
      replace hdB := blk_u hdB b21
      replace hqB := blk_u hqB b21
      replace hb67 := blk_u hb67 b21
      replace ll := ll.below b21
      replace uo := uo.below b21
      replace ub := ub.below b21
      replace po := po.below b21
      replace pb := pb.below b21
      replace gd := gd.below b21
      replace ops := ops.below b21
      replace opsw := own_under opsw b21
      replace lz_ops := Nat.le_trans lz_ops b21.size
      replace hT := hT.below b21
      replace ap_fB := ap_fB.below b21
      replace an_uo := an_uo.below b21
      replace an_ub := an_ub.below b21
      replace an_po := an_po.below b21
      replace an_pb := an_pb.below b21
      replace ap_pB := ap_pB.below b21
      replace an_gd := an_gd.below b21
      replace ap_dB := ap_dB.below b21
      replace ap_qB := ap_qB.below b21
      replace ap_b67 := ap_b67.below b21
      replace an_qo := an_qo.below b21
      replace an_qb := an_qb.below b21
      replace bel := bel.trans (b21.mono bel.size)
      clear b21
      replace qo : Sl w21 (Aqo) (4) (cqo) ([1, 1, 1, 0]) := qo
      replace qb : Sl w21 (Aqb) (8 + n) (cqb) (udBytes m0 m1 m2 m3 203 0 113 7 fp (nQ port) L) := qb
      refine hK.out _ _ ⟨hfB, hdB⟩ (fun hH22 => ?_)
      clear hK K
      refine wpAnyH_take (i := 10) (v := ?_) rfl (by kernel_rfl) (by kernel_rfl) (by kernel_rfl) (fun _ _ _ h => h) (Or.inl ⟨by rfl, ?_⟩) hH22 ?_
      rotate_left
      · ((intro W hW; clear hW; go_simp) <;> with_reducible rfl)
      simp only [sq3, sq4]
      refine wpAnyH_take (i := 11) (v := ?_) rfl (by kernel_rfl) (by kernel_rfl) (by kernel_rfl) (fun _ _ _ h => h) (Or.inl ⟨by rfl, ?_⟩) hH22 ?_
      rotate_left
      · ((intro W hW; clear hW; go_simp) <;> with_reducible rfl)
      simp only [sq3, sq4]
      refine wpAnyH_take (i := 12) (v := ?_) rfl (by kernel_rfl) (by kernel_rfl) (by kernel_rfl) (fun _ _ _ h => h) (Or.inl ⟨by rfl, ?_⟩) hH22 ?_
      rotate_left
      · ((intro W hW; clear hW; go_simp) <;> with_reducible rfl)
      simp only [sq3, sq4]
      refine wpAnyH_ready (rs := [14]) (by kernel_rfl) (by simp) ?_
      refine AllReadyH.cons (o := _) rfl (fun K hK => ?_) AllReadyH.nil
      simp only [sq3]
      rw [if_pos (by rfl)]
      refine wp_store_blk 38 (.tmp 17) (.tmp 75) rfl g17 rfl _ rfl _ 38 hqB (by rfl) (by kernel_rfl) (by kernel_rfl) ?_
      intro w23 hq gr
      replace ll := ll.away av_ll_qB gr
      replace uo := uo.away av_uo_qB gr
      replace ub := ub.away av_ub_qB gr
      replace po := po.away av_po_qB gr
      replace pb := pb.away av_pb_qB gr
      replace gd := gd.away av_gd_qB gr
      replace ops := ops.away av_ops_qB gr
      replace opsw := own_away opsw y_ops_qB.out gr
      replace qo := qo.away av_qo_qB gr
      replace qb := qb.away av_qb_qB gr
      replace lz_ops := Nat.le_trans lz_ops gr.size
      replace hfB := blk_a hfB gr d_fB_qB
      replace hpB := blk_a hpB gr d_pB_qB
      replace hdB := blk_a hdB gr d_dB_qB
      replace hb67 := blk_a hb67 gr (ne_symm d_qB_b67)
      replace hT := hT.away ap_qB gr hqB
      replace ap_fB := ap_fB.grown ap_qB gr
      replace an_uo := an_uo.grown ap_qB gr
      replace an_ub := an_ub.grown ap_qB gr
      replace an_po := an_po.grown ap_qB gr
      replace an_pb := an_pb.grown ap_qB gr
      replace ap_pB := ap_pB.grown ap_qB gr
      replace an_gd := an_gd.grown ap_qB gr
      replace ap_dB := ap_dB.grown ap_qB gr
      replace ap_qB := ap_qB.grown ap_qB gr
      replace ap_b67 := ap_b67.grown ap_qB gr
      replace an_qo := an_qo.grown ap_qB gr
      replace an_qb := an_qb.grown ap_qB gr
      replace bel := below_grown bel gr oqB bel.size
      clear hqB
      have hqB := hq
      clear hq gr
      refine hK.out _ _ ⟨hfB, hdB⟩ (fun hH24 => ?_)
      clear hK K
      simp only [Act.put]
      refine wpAnyH_take (i := 15) (v := ?_) rfl (by kernel_rfl) (by kernel_rfl) (by kernel_rfl) (fun _ _ _ h => h) (Or.inl ⟨by rfl, ?_⟩) hH24 ?_
      rotate_left
      · ((intro W hW; clear hW; go_simp) <;> with_reducible rfl)
      simp only [sq3, sq4]
      refine wpAnyH_done (by kernel_rfl) ?_ _
      go_wp2_with fail
      go_meet
      case rel => exact ⟨g67, g17, Aqo, cqo, Aqb, cqb, rfl, rfl, hfB, hpB, hdB, hb67, ob67, hqB, oqB, (ne_symm d_dB_b67), (ne_symm d_fB_b67), (ne_symm d_pB_b67), (ne_symm d_qB_b67), (ne_symm d_fB_dB), (ne_symm d_pB_dB), d_dB_qB, d_fB_pB, d_fB_qB, d_pB_qB, ll, av_ll_b67, av_ll_dB, av_ll_fB, av_ll_pB, av_ll_qB, uo, av_uo_b67, av_uo_dB, av_uo_fB, av_uo_pB, av_uo_qB, ub, av_ub_b67, av_ub_dB, av_ub_fB, av_ub_pB, av_ub_qB, po, av_po_b67, av_po_dB, av_po_fB, av_po_pB, av_po_qB, pb, av_pb_b67, av_pb_dB, av_pb_fB, av_pb_pB, av_pb_qB, gd, av_gd_b67, av_gd_dB, av_gd_fB, av_gd_pB, av_gd_qB, ops, av_ops_dB, av_ops_fB, av_ops_pB, av_ops_qB, qo, av_qo_b67, av_qo_dB, av_qo_fB, av_qo_pB, av_qo_qB, qb, av_qb_b67, av_qb_dB, av_qb_fB, av_qb_pB, av_qb_qB, hT, ap_fB, an_uo, an_ub, an_po, an_pb, ap_pB, an_gd, ap_dB, ap_b67, an_qo, an_qb, ap_qB, bel⟩
    simp only [sq3]
    rw [if_pos (by rfl)]
    refine wp_lit_n 36 5 4 _ rfl #[.int .u8 1, .int .u8 1, .int .u8 1, .int .u8 0] (.int .u8 0) Tryz.underlying36 (by kernel_rfl) 1 (by kernel_rfl) (by decide) (by kernel_rfl) ?_
    intro g67 w17 ge lt hh bb
    have hl : w17.heap[g67]? = some (.cells (([1, 1, 1, 0] : List UInt8).map u8v).toArray 5 (0, 0)) := (by simpa [u8v, byteOf_val] using hh)
    have opsw := own_lit (B := w15.heap.size) ([1, 1, 1, 0]) hl ge 4 rfl (by simp [maxLen])
    have ops := (own_sl opsw).1
    have opslo := bel.size
    clear hl
    have opsge := ge
    have lz_ops := bb.size
    have y_ops_fB := Lib.hid (hlt hfB)
    have y_ops_pB := Lib.hid (hlt hpB)
    have y_ops_dB := Lib.hid (hlt hdB)
    have bl_ll_ops := ll.bl_new
    have bl_uo_ops := uo.bl_new
    have bl_ub_ops := ub.bl_new
    have bl_po_ops := po.bl_new
    have bl_pb_ops := pb.bl_new
    have bl_gd_ops := gd.bl_new
    have ap_b67 := hT.ap ge
    have d_fB_b67 := ne_new (hlt hfB) ge
    have d_pB_b67 := ne_new (hlt hpB) ge
    have d_dB_b67 := ne_new (hlt hdB) ge
    have av_ll_b67 := ll.av_new ge
    have av_uo_b67 := uo.av_new ge
    have av_ub_b67 := ub.av_new ge
    have av_po_b67 := po.av_new ge
    have av_pb_b67 := pb.av_new ge
    have av_gd_b67 := gd.av_new ge
    have ob67 := Nat.le_trans bel.size ge
    replace hfB := blk_u hfB bb
    replace hpB := blk_u hpB bb
    replace hdB := blk_u hdB bb
    replace ll := ll.below bb
    replace uo := uo.below bb
    replace ub := ub.below bb
    replace po := po.below bb
    replace pb := pb.below bb
    replace gd := gd.below bb
    replace hT := hT.below bb
    replace ap_fB := ap_fB.below bb
    replace an_uo := an_uo.below bb
    replace an_ub := an_ub.below bb
    replace an_po := an_po.below bb
    replace an_pb := an_pb.below bb
    replace ap_pB := ap_pB.below bb
    replace an_gd := an_gd.below bb
    replace ap_dB := ap_dB.below bb
    replace ap_b67 := ap_b67.below bb
    replace bel := bel.trans (bb.mono bel.size)
    have hb67 := hh
    clear hh lt ge bb
    have av_ops_fB := (own_sl opsw).2.av y_ops_fB.out
    have av_ops_pB := (own_sl opsw).2.av y_ops_pB.out
    have av_ops_dB := (own_sl opsw).2.av y_ops_dB.out
    refine hK.out _ _ ⟨hfB, hdB⟩ (fun hH18 => ?_)
    clear hK K
    simp only [sq4]
    refine wpAnyH_take (i := 3) (v := ?_) rfl (by kernel_rfl) (by kernel_rfl) (by kernel_rfl) (fun _ _ _ h => h) (Or.inl ⟨by rfl, ?_⟩) hH18 ?_
    rotate_left
    · ((intro W hW; clear hW; go_simp) <;> with_reducible rfl)
    simp only [sq3, sq4]
    refine wpAnyH_ready (rs := [9, 13]) (by kernel_rfl) (by simp) ?_
    refine AllReadyH.cons (o := _) rfl (fun K hK => ?_) (AllReadyH.cons (o := _) rfl (fun K hK => ?_) AllReadyH.nil)
    rotate_left
    · simp only [sq3]
      rw [if_pos (by rfl)]
      refine wp_new_a 38 rfl #[.int .i64 0, .int .i64 0, .int .i64 0, .int .i64 0, .int .i64 0, .int .i64 0, .int .u8 0, .int .u8 0, .int .u8 0, .int .u8 0, .int .u8 0, .int .u8 0, .int .u8 0, .int .u8 0, .slice none 0 0, .slice none 0 0] (by kernel_rfl) ?_
      intro g17 w19 ge hh bb
      have ap_qB := hT.ap ge
      have d_fB_qB := ne_new (hlt hfB) ge
      have d_pB_qB := ne_new (hlt hpB) ge
      have d_dB_qB := ne_new (hlt hdB) ge
      have d_b67_qB := ne_new (hlt hb67) ge
      have av_ll_qB := ll.av_new ge
      have av_uo_qB := uo.av_new ge
      have av_ub_qB := ub.av_new ge
      have av_po_qB := po.av_new ge
      have av_pb_qB := pb.av_new ge
      have av_gd_qB := gd.av_new ge
      have av_ops_qB := ops.av_new ge
      have of_ops_qB := own_new opsw ge
      have oqB := Nat.le_trans bel.size ge
      replace hfB := blk_u hfB bb
      replace hpB := blk_u hpB bb
      replace hdB := blk_u hdB bb
      replace hb67 := blk_u hb67 bb
      replace ll := ll.below bb
      replace uo := uo.below bb
      replace ub := ub.below bb
      replace po := po.below bb
      replace pb := pb.below bb
      replace gd := gd.below bb
      replace ops := ops.below bb
      replace opsw := own_under opsw bb
      replace lz_ops := Nat.le_trans lz_ops bb.size
      replace hT := hT.below bb
      replace ap_fB := ap_fB.below bb
      replace an_uo := an_uo.below bb
      replace an_ub := an_ub.below bb
      replace an_po := an_po.below bb
      replace an_pb := an_pb.below bb
      replace ap_pB := ap_pB.below bb
      replace an_gd := an_gd.below bb
      replace ap_dB := ap_dB.below bb
      replace ap_b67 := ap_b67.below bb
      replace ap_qB := ap_qB.below bb
      replace bel := bel.trans (bb.mono bel.size)
      have hqB := hh
      clear hh ge bb
      refine hK.out _ _ ⟨hfB, hdB⟩ (fun hH20 => ?_)
      clear hK K
      simp only [sq4]
      refine wpAnyH_ready (rs := [9]) (by kernel_rfl) (by simp) ?_
      refine AllReadyH.cons (o := _) rfl (fun K hK => ?_) AllReadyH.nil
      simp only [sq3]
      go_simp
      with_reducible refine (b_put _ ops ll Hc1.out Hc2.out Hc3.out Hc4.out HN.out HLL.out).mono ?_
      rintro e w21 ⟨Aqo, cqo, Aqb, cqb, rfl, qo, qb, fqo, fqb, b21⟩
      dsimp only
      have av_qo_fB := fqo.av (hlt hfB)
      have av_qo_pB := fqo.av (hlt hpB)
      have av_qo_dB := fqo.av (hlt hdB)
      have av_qo_b67 := fqo.av (hlt hb67)
      have av_qo_qB := fqo.av (hlt hqB)
      have av_qb_fB := fqb.av (hlt hfB)
      have av_qb_pB := fqb.av (hlt hpB)
      have av_qb_dB := fqb.av (hlt hdB)
      have av_qb_b67 := fqb.av (hlt hb67)
      have av_qb_qB := fqb.av (hlt hqB)
      have an_qo := hT.an fqo
      have an_qb := hT.an fqb
      replace hfB := blk_u hfB b21
      replace hpB := blk_u hpB b21
      replace hdB := blk_u hdB b21
      replace hb67 := blk_u hb67 b21
      replace hqB := blk_u hqB b21
      replace ll := ll.below b21
      replace uo := uo.below b21
      replace ub := ub.below b21
      replace po := po.below b21
      replace pb := pb.below b21
      replace gd := gd.below b21
      replace ops := ops.below b21
      replace opsw := own_under opsw b21
      replace lz_ops := Nat.le_trans lz_ops b21.size
      replace hT := hT.below b21
      replace ap_fB := ap_fB.below b21
      replace an_uo := an_uo.below b21
      replace an_ub := an_ub.below b21
      replace an_po := an_po.below b21
      replace an_pb := an_pb.below b21
      replace ap_pB := ap_pB.below b21
      replace an_gd := an_gd.below b21
      replace ap_dB := ap_dB.below b21
      replace ap_b67 := ap_b67.below b21
      replace ap_qB := ap_qB.below b21
      replace an_qo := an_qo.below b21
      replace an_qb := an_qb.below b21
      replace bel := bel.trans (b21.mono bel.size)
      clear b21
      replace qo : Sl w21 (Aqo) (4) (cqo) ([1, 1, 1, 0]) := qo
      replace qb : Sl w21 (Aqb) (8 + n) (cqb) (udBytes m0 m1 m2 m3 203 0 113 7 fp (nQ port) L) := qb
      refine hK.out _ _ ⟨hfB, hdB⟩ (fun hH22 => ?_)
      clear hK K
      refine wpAnyH_take (i := 10) (v := ?_) rfl (by kernel_rfl) (by kernel_rfl) (by kernel_rfl) (fun _ _ _ h => h) (Or.inl ⟨by rfl, ?_⟩) hH22 ?_
      rotate_left
      · ((intro W hW; clear hW; go_simp) <;> with_reducible rfl)
      simp only [sq3, sq4]
      refine wpAnyH_take (i := 11) (v := ?_) rfl (by kernel_rfl) (by kernel_rfl) (by kernel_rfl) (fun _ _ _ h => h) (Or.inl ⟨by rfl, ?_⟩) hH22 ?_
      rotate_left
      · ((intro W hW; clear hW; go_simp) <;> with_reducible rfl)
      simp only [sq3, sq4]
      refine wpAnyH_take (i := 12) (v := ?_) rfl (by kernel_rfl) (by kernel_rfl) (by kernel_rfl) (fun _ _ _ h => h) (Or.inl ⟨by rfl, ?_⟩) hH22 ?_
      rotate_left
      · ((intro W hW; clear hW; go_simp) <;> with_reducible rfl)
      simp only [sq3, sq4]
      refine wpAnyH_ready (rs := [14]) (by kernel_rfl) (by simp) ?_
      refine AllReadyH.cons (o := _) rfl (fun K hK => ?_) AllReadyH.nil
      simp only [sq3]
      rw [if_pos (by rfl)]
      refine wp_store_blk 38 (.tmp 17) (.tmp 75) rfl g17 rfl _ rfl _ 38 hqB (by rfl) (by kernel_rfl) (by kernel_rfl) ?_
      intro w23 hq gr
      replace ll := ll.away av_ll_qB gr
      replace uo := uo.away av_uo_qB gr
      replace ub := ub.away av_ub_qB gr
      replace po := po.away av_po_qB gr
      replace pb := pb.away av_pb_qB gr
      replace gd := gd.away av_gd_qB gr
      replace ops := ops.away av_ops_qB gr
      replace opsw := own_off opsw of_ops_qB gr
      replace qo := qo.away av_qo_qB gr
      replace qb := qb.away av_qb_qB gr
      replace lz_ops := Nat.le_trans lz_ops gr.size
      replace hfB := blk_a hfB gr d_fB_qB
      replace hpB := blk_a hpB gr d_pB_qB
      replace hdB := blk_a hdB gr d_dB_qB
      replace hb67 := blk_a hb67 gr d_b67_qB
      replace hT := hT.away ap_qB gr hqB
      replace ap_fB := ap_fB.grown ap_qB gr
      replace an_uo := an_uo.grown ap_qB gr
      replace an_ub := an_ub.grown ap_qB gr
      replace an_po := an_po.grown ap_qB gr
      replace an_pb := an_pb.grown ap_qB gr
      replace ap_pB := ap_pB.grown ap_qB gr
      replace an_gd := an_gd.grown ap_qB gr
      replace ap_dB := ap_dB.grown ap_qB gr
      replace ap_b67 := ap_b67.grown ap_qB gr
      replace ap_qB := ap_qB.grown ap_qB gr
      replace an_qo := an_qo.grown ap_qB gr
      replace an_qb := an_qb.grown ap_qB gr
      replace bel := below_grown bel gr oqB bel.size
      clear hqB
      have hqB := hq
      clear hq gr
      refine hK.out _ _ ⟨hfB, hdB⟩ (fun hH24 => ?_)
      clear hK K
      simp only [Act.put]
      refine wpAnyH_take (i := 15) (v := ?_) rfl (by kernel_rfl) (by kernel_rfl) (by kernel_rfl) (fun _ _ _ h => h) (Or.inl ⟨by rfl, ?_⟩) hH24 ?_
      rotate_left
      · ((intro W hW; clear hW; go_simp) <;> with_reducible rfl)
      simp only [sq3, sq4]
      refine wpAnyH_done (by kernel_rfl) ?_ _
      go_wp2_with fail
      go_meet
      case rel => exact ⟨g67, g17, Aqo, cqo, Aqb, cqb, rfl, rfl, hfB, hpB, hdB, hb67, ob67, hqB, oqB, (ne_symm d_dB_b67), (ne_symm d_fB_b67), (ne_symm d_pB_b67), d_b67_qB, (ne_symm d_fB_dB), (ne_symm d_pB_dB), d_dB_qB, d_fB_pB, d_fB_qB, d_pB_qB, ll, av_ll_b67, av_ll_dB, av_ll_fB, av_ll_pB, av_ll_qB, uo, av_uo_b67, av_uo_dB, av_uo_fB, av_uo_pB, av_uo_qB, ub, av_ub_b67, av_ub_dB, av_ub_fB, av_ub_pB, av_ub_qB, po, av_po_b67, av_po_dB, av_po_fB, av_po_pB, av_po_qB, pb, av_pb_b67, av_pb_dB, av_pb_fB, av_pb_pB, av_pb_qB, gd, av_gd_b67, av_gd_dB, av_gd_fB, av_gd_pB, av_gd_qB, ops, av_ops_dB, av_ops_fB, av_ops_pB, av_ops_qB, qo, av_qo_b67, av_qo_dB, av_qo_fB, av_qo_pB, av_qo_qB, qb, av_qb_b67, av_qb_dB, av_qb_fB, av_qb_pB, av_qb_qB, hT, ap_fB, an_uo, an_ub, an_po, an_pb, ap_pB, an_gd, ap_dB, ap_b67, an_qo, an_qb, ap_qB, bel⟩
    simp only [sq3]
    go_simp
    with_reducible refine (b_put _ ops ll Hc1.out Hc2.out Hc3.out Hc4.out HN.out HLL.out).mono ?_
    rintro e w19 ⟨Aqo, cqo, Aqb, cqb, rfl, qo, qb, fqo, fqb, b19⟩
    dsimp only
    have av_qo_fB := fqo.av (hlt hfB)
    have av_qo_pB := fqo.av (hlt hpB)
    have av_qo_dB := fqo.av (hlt hdB)
    have av_qo_b67 := fqo.av (hlt hb67)
    have av_qb_fB := fqb.av (hlt hfB)
    have av_qb_pB := fqb.av (hlt hpB)
    have av_qb_dB := fqb.av (hlt hdB)
    have av_qb_b67 := fqb.av (hlt hb67)
    have an_qo := hT.an fqo
    have an_qb := hT.an fqb
    replace hfB := blk_u hfB b19
    replace hpB := blk_u hpB b19
    replace hdB := blk_u hdB b19
    replace hb67 := blk_u hb67 b19
    replace ll := ll.below b19
    replace uo := uo.below b19
    replace ub := ub.below b19
    replace po := po.below b19
    replace pb := pb.below b19
    replace gd := gd.below b19
    replace ops := ops.below b19
    replace opsw := own_under opsw b19
    replace lz_ops := Nat.le_trans lz_ops b19.size
    replace hT := hT.below b19
    replace ap_fB := ap_fB.below b19
    replace an_uo := an_uo.below b19
    replace an_ub := an_ub.below b19
    replace an_po := an_po.below b19
    replace an_pb := an_pb.below b19
    replace ap_pB := ap_pB.below b19
    replace an_gd := an_gd.below b19
    replace ap_dB := ap_dB.below b19
    replace ap_b67 := ap_b67.below b19
    replace an_qo := an_qo.below b19
    replace an_qb := an_qb.below b19
    replace bel := bel.trans (b19.mono bel.size)
    clear b19
    replace qo : Sl w19 (Aqo) (4) (cqo) ([1, 1, 1, 0]) := qo
    replace qb : Sl w19 (Aqb) (8 + n) (cqb) (udBytes m0 m1 m2 m3 203 0 113 7 fp (nQ port) L) := qb
    refine hK.out _ _ ⟨hfB, hdB⟩ (fun hH20 => ?_)
    clear hK K
    refine wpAnyH_take (i := 10) (v := ?_) rfl (by kernel_rfl) (by kernel_rfl) (by kernel_rfl) (fun _ _ _ h => h) (Or.inl ⟨by rfl, ?_⟩) hH20 ?_
    rotate_left
    · ((intro W hW; clear hW; go_simp) <;> with_reducible rfl)
    simp only [sq3, sq4]
    refine wpAnyH_take (i := 11) (v := ?_) rfl (by kernel_rfl) (by kernel_rfl) (by kernel_rfl) (fun _ _ _ h => h) (Or.inl ⟨by rfl, ?_⟩) hH20 ?_
    rotate_left
    · ((intro W hW; clear hW; go_simp) <;> with_reducible rfl)
    simp only [sq3, sq4]
    refine wpAnyH_take (i := 12) (v := ?_) rfl (by kernel_rfl) (by kernel_rfl) (by kernel_rfl) (fun _ _ _ h => h) (Or.inl ⟨by rfl, ?_⟩) hH20 ?_
    rotate_left
    · ((intro W hW; clear hW; go_simp) <;> with_reducible rfl)
    simp only [sq3, sq4]
    refine wpAnyH_ready (rs := [13]) (by kernel_rfl) (by simp) ?_
    refine AllReadyH.cons (o := _) rfl (fun K hK => ?_) AllReadyH.nil
    simp only [sq3]
    rw [if_pos (by rfl)]
    refine wp_new_a 38 rfl #[.int .i64 0, .int .i64 0, .int .i64 0, .int .i64 0, .int .i64 0, .int .i64 0, .int .u8 0, .int .u8 0, .int .u8 0, .int .u8 0, .int .u8 0, .int .u8 0, .int .u8 0, .int .u8 0, .slice none 0 0, .slice none 0 0] (by kernel_rfl) ?_
    intro g17 w21 ge hh bb
    have ap_qB := hT.ap ge
    have d_fB_qB := ne_new (hlt hfB) ge
    have d_pB_qB := ne_new (hlt hpB) ge
    have d_dB_qB := ne_new (hlt hdB) ge
    have d_b67_qB := ne_new (hlt hb67) ge
    have av_ll_qB := ll.av_new ge
    have av_uo_qB := uo.av_new ge
    have av_ub_qB := ub.av_new ge
    have av_po_qB := po.av_new ge
    have av_pb_qB := pb.av_new ge
    have av_gd_qB := gd.av_new ge
    have av_ops_qB := ops.av_new ge
    have of_ops_qB := own_new opsw ge
    have av_qo_qB := qo.av_new ge
    have av_qb_qB := qb.av_new ge
    have oqB := Nat.le_trans bel.size ge
    replace hfB := blk_u hfB bb
    replace hpB := blk_u hpB bb
    replace hdB := blk_u hdB bb
    replace hb67 := blk_u hb67 bb
    replace ll := ll.below bb
    replace uo := uo.below bb
    replace ub := ub.below bb
    replace po := po.below bb
    replace pb := pb.below bb
    replace gd := gd.below bb
    replace ops := ops.below bb
    replace opsw := own_under opsw bb
    replace qo := qo.below bb
    replace qb := qb.below bb
    replace lz_ops := Nat.le_trans lz_ops bb.size
    replace hT := hT.below bb
    replace ap_fB := ap_fB.below bb
    replace an_uo := an_uo.below bb
    replace an_ub := an_ub.below bb
    replace an_po := an_po.below bb
    replace an_pb := an_pb.below bb
    replace ap_pB := ap_pB.below bb
    replace an_gd := an_gd.below bb
    replace ap_dB := ap_dB.below bb
    replace ap_b67 := ap_b67.below bb
    replace an_qo := an_qo.below bb
    replace an_qb := an_qb.below bb
    replace ap_qB := ap_qB.below bb
    replace bel := bel.trans (bb.mono bel.size)
    have hqB := hh
    clear hh ge bb
    refine hK.out _ _ ⟨hfB, hdB⟩ (fun hH22 => ?_)
    clear hK K
    simp only [sq4]
    refine wpAnyH_ready (rs := [14]) (by kernel_rfl) (by simp) ?_
    refine AllReadyH.cons (o := _) rfl (fun K hK => ?_) AllReadyH.nil
    simp only [sq3]
    rw [if_pos (by rfl)]
    refine wp_store_blk 38 (.tmp 17) (.tmp 75) rfl g17 rfl _ rfl _ 38 hqB (by rfl) (by kernel_rfl) (by kernel_rfl) ?_
    intro w23 hq gr
    replace ll := ll.away av_ll_qB gr
    replace uo := uo.away av_uo_qB gr
    replace ub := ub.away av_ub_qB gr
    replace po := po.away av_po_qB gr
    replace pb := pb.away av_pb_qB gr
    replace gd := gd.away av_gd_qB gr
    replace ops := ops.away av_ops_qB gr
    replace opsw := own_off opsw of_ops_qB gr
    replace qo := qo.away av_qo_qB gr
    replace qb := qb.away av_qb_qB gr
    replace lz_ops := Nat.le_trans lz_ops gr.size
    replace hfB := blk_a hfB gr d_fB_qB
    replace hpB := blk_a hpB gr d_pB_qB
    replace hdB := blk_a hdB gr d_dB_qB
    replace hb67 := blk_a hb67 gr d_b67_qB
    replace hT := hT.away ap_qB gr hqB
    replace ap_fB := ap_fB.grown ap_qB gr
    replace an_uo := an_uo.grown ap_qB gr
    replace an_ub := an_ub.grown ap_qB gr
    replace an_po := an_po.grown ap_qB gr
    replace an_pb := an_pb.grown ap_qB gr
    replace ap_pB := ap_pB.grown ap_qB gr
    replace an_gd := an_gd.grown ap_qB gr
    replace ap_dB := ap_dB.grown ap_qB gr
    replace ap_b67 := ap_b67.grown ap_qB gr
    replace an_qo := an_qo.grown ap_qB gr
    replace an_qb := an_qb.grown ap_qB gr
    replace ap_qB := ap_qB.grown ap_qB gr
    replace bel := below_grown bel gr oqB bel.size
    clear hqB
    have hqB := hq
    clear hq gr
    refine hK.out _ _ ⟨hfB, hdB⟩ (fun hH24 => ?_)
    clear hK K
    simp only [Act.put]
    refine wpAnyH_take (i := 15) (v := ?_) rfl (by kernel_rfl) (by kernel_rfl) (by kernel_rfl) (fun _ _ _ h => h) (Or.inl ⟨by rfl, ?_⟩) hH24 ?_
    rotate_left
    · ((intro W hW; clear hW; go_simp) <;> with_reducible rfl)
    simp only [sq3, sq4]
    refine wpAnyH_done (by kernel_rfl) ?_ _
    go_wp2_with fail
    go_meet
    case rel => exact ⟨g67, g17, Aqo, cqo, Aqb, cqb, rfl, rfl, hfB, hpB, hdB, hb67, ob67, hqB, oqB, (ne_symm d_dB_b67), (ne_symm d_fB_b67), (ne_symm d_pB_b67), d_b67_qB, (ne_symm d_fB_dB), (ne_symm d_pB_dB), d_dB_qB, d_fB_pB, d_fB_qB, d_pB_qB, ll, av_ll_b67, av_ll_dB, av_ll_fB, av_ll_pB, av_ll_qB, uo, av_uo_b67, av_uo_dB, av_uo_fB, av_uo_pB, av_uo_qB, ub, av_ub_b67, av_ub_dB, av_ub_fB, av_ub_pB, av_ub_qB, po, av_po_b67, av_po_dB, av_po_fB, av_po_pB, av_po_qB, pb, av_pb_b67, av_pb_dB, av_pb_fB, av_pb_pB, av_pb_qB, gd, av_gd_b67, av_gd_dB, av_gd_fB, av_gd_pB, av_gd_qB, ops, av_ops_dB, av_ops_fB, av_ops_pB, av_ops_qB, qo, av_qo_b67, av_qo_dB, av_qo_fB, av_qo_pB, av_qo_qB, qb, av_qb_b67, av_qb_dB, av_qb_fB, av_qb_pB, av_qb_qB, hT, ap_fB, an_uo, an_ub, an_po, an_pb, ap_pB, an_gd, ap_dB, ap_b67, an_qo, an_qb, ap_qB, bel⟩
  obtain ⟨w25, hw_⟩ : ∃ x, x = wc := ⟨_, rfl⟩
  subst hw_
  obtain ⟨g67, g17, Aqo, cqo, Aqb, cqb, rfl, rfl, hfB, hpB, hdB, hb67, ob67, hqB, oqB, d_b67_dB, d_b67_fB, d_b67_pB, d_b67_qB, d_dB_fB, d_dB_pB, d_dB_qB, d_fB_pB, d_fB_qB, d_pB_qB, ll, av_ll_b67, av_ll_dB, av_ll_fB, av_ll_pB, av_ll_qB, uo, av_uo_b67, av_uo_dB, av_uo_fB, av_uo_pB, av_uo_qB, ub, av_ub_b67, av_ub_dB, av_ub_fB, av_ub_pB, av_ub_qB, po, av_po_b67, av_po_dB, av_po_fB, av_po_pB, av_po_qB, pb, av_pb_b67, av_pb_dB, av_pb_fB, av_pb_pB, av_pb_qB, gd, av_gd_b67, av_gd_dB, av_gd_fB, av_gd_pB, av_gd_qB, ops, av_ops_dB, av_ops_fB, av_ops_pB, av_ops_qB, qo, av_qo_b67, av_qo_dB, av_qo_fB, av_qo_pB, av_qo_qB, qb, av_qb_b67, av_qb_dB, av_qb_fB, av_qb_pB, av_qb_qB, hT, ap_fB, an_uo, an_ub, an_po, an_pb, ap_pB, an_gd, ap_dB, ap_b67, an_qo, an_qb, ap_qB, bel⟩ := hcut
  go_wp2_with fail
  go_cut [19, 20] from 9999 (fun s19 s20 W => ∃ g19 : Nat, ∃ Aro : Option Addr, ∃ cro : Nat, ∃ Arb : Option Addr, ∃ crb : Nat, s19 = .pointer (some ⟨g19, 0, none⟩) ∧ s20 = .int .i64 0 ∧ W.heap[g7]? = some (.cells #[.int .u8 (m0.toNat : Int), .int .u8 (m1.toNat : Int), .int .u8 (m2.toNat : Int), .int .u8 (m3.toNat : Int)] 35 (0, 0)) ∧ W.heap[g13]? = some (.cells #[.int .i64 0, .int .i64 0, .int .i64 0, .int .i64 0, .int .i64 64, .int .i64 17, .int .u8 203, .int .u8 0, .int .u8 113, .int .u8 7, .int .u8 8, .int .u8 8, .int .u8 8, .int .u8 8, .slice Apo 0 cpo, .slice Apb 9 cpb] 38 (0, 0)) ∧ W.heap[g15]? = some (.cells #[.int .i64 (nQ port), .int .i64 53, .slice Agd 1 cgd] 54 (0, 0)) ∧ W.heap[g67]? = some (.cells #[.int .u8 1, .int .u8 1, .int .u8 1, .int .u8 0] 5 (0, 0)) ∧ W.heap[g17]? = some (.cells #[.int .i64 3, .int .i64 9, .int .i64 2, .int .i64 0, .int .i64 55, .int .i64 17, .int .u8 (m0.toNat : Int), .int .u8 (m1.toNat : Int), .int .u8 (m2.toNat : Int), .int .u8 (m3.toNat : Int), .int .u8 203, .int .u8 0, .int .u8 113, .int .u8 7, .slice Aqo 4 cqo, .slice Aqb (8 + n) cqb] 38 (0, 0)) ∧ W.heap[g19]? = some (.cells #[.int .i64 3, .int .i64 9, .int .i64 2, .int .i64 0, .int .i64 55, .int .i64 17, .int .u8 (m0.toNat : Int), .int .u8 (m1.toNat : Int), .int .u8 (m2.toNat : Int), .int .u8 (m3.toNat : Int), .int .u8 10, .int .u8 0, .int .u8 0, .int .u8 ((byteOf host).toNat : Int), .slice Aro 4 cro, .slice Arb (8 + n) crb] 38 (0, 0)) ∧ w.heap.size ≤ g19 ∧ Hid (g67 ≠ g15) ∧ Hid (g67 ≠ g7) ∧ Hid (g67 ≠ g13) ∧ Hid (g67 ≠ g17) ∧ Hid (g67 ≠ g19) ∧ Hid (g15 ≠ g7) ∧ Hid (g15 ≠ g13) ∧ Hid (g15 ≠ g17) ∧ Hid (g15 ≠ g19) ∧ Hid (g7 ≠ g13) ∧ Hid (g7 ≠ g17) ∧ Hid (g7 ≠ g19) ∧ Hid (g13 ≠ g17) ∧ Hid (g13 ≠ g19) ∧ Hid (g17 ≠ g19) ∧ Sl W (A) (n) (cp) (L) ∧ Av (A) (n) g67 ∧ Av (A) (n) g15 ∧ Av (A) (n) g7 ∧ Av (A) (n) g13 ∧ Av (A) (n) g17 ∧ Av (A) (n) g19 ∧ Sl W (Auo) (0) (cuo) ([]) ∧ Av (Auo) (0) g67 ∧ Av (Auo) (0) g15 ∧ Av (Auo) (0) g7 ∧ Av (Auo) (0) g13 ∧ Av (Auo) (0) g17 ∧ Av (Auo) (0) g19 ∧ Sl W (Aub) (9) (cub) (udBytes 10 0 0 (byteOf host) 8 8 8 8 port 53 [120]) ∧ Av (Aub) (9) g67 ∧ Av (Aub) (9) g15 ∧ Av (Aub) (9) g7 ∧ Av (Aub) (9) g13 ∧ Av (Aub) (9) g17 ∧ Av (Aub) (9) g19 ∧ Sl W (Apo) (0) (cpo) ([]) ∧ Av (Apo) (0) g67 ∧ Av (Apo) (0) g15 ∧ Av (Apo) (0) g7 ∧ Av (Apo) (0) g13 ∧ Av (Apo) (0) g17 ∧ Av (Apo) (0) g19 ∧ Sl W (Apb) (9) (cpb) (udBytes 203 0 113 7 8 8 8 8 (nQ port) 53 [120]) ∧ Av (Apb) (9) g67 ∧ Av (Apb) (9) g15 ∧ Av (Apb) (9) g7 ∧ Av (Apb) (9) g13 ∧ Av (Apb) (9) g17 ∧ Av (Apb) (9) g19 ∧ Sl W (Agd) (1) (cgd) ([120]) ∧ Av (Agd) (1) g67 ∧ Av (Agd) (1) g15 ∧ Av (Agd) (1) g7 ∧ Av (Agd) (1) g13 ∧ Av (Agd) (1) g17 ∧ Av (Agd) (1) g19 ∧ Sl W (Aqo) (4) (cqo) ([1, 1, 1, 0]) ∧ Av (Aqo) (4) g67 ∧ Av (Aqo) (4) g15 ∧ Av (Aqo) (4) g7 ∧ Av (Aqo) (4) g13 ∧ Av (Aqo) (4) g17 ∧ Av (Aqo) (4) g19 ∧ Sl W (Aqb) (8 + n) (cqb) (udBytes m0 m1 m2 m3 203 0 113 7 fp (nQ port) L) ∧ Av (Aqb) (8 + n) g67 ∧ Av (Aqb) (8 + n) g15 ∧ Av (Aqb) (8 + n) g7 ∧ Av (Aqb) (8 + n) g13 ∧ Av (Aqb) (8 + n) g17 ∧ Av (Aqb) (8 + n) g19 ∧ Sl W (Aro) (4) (cro) ([1, 1, 1, 0]) ∧ Av (Aro) (4) g67 ∧ Av (Aro) (4) g15 ∧ Av (Aro) (4) g7 ∧ Av (Aro) (4) g13 ∧ Av (Aro) (4) g17 ∧ Av (Aro) (4) g19 ∧ Sl W (Arb) (8 + n) (crb) (udBytes m0 m1 m2 m3 10 0 0 (byteOf host) fp port L) ∧ Av (Arb) (8 + n) g67 ∧ Av (Arb) (8 + n) g15 ∧ Av (Arb) (8 + n) g7 ∧ Av (Arb) (8 + n) g13 ∧ Av (Arb) (8 + n) g17 ∧ Av (Arb) (8 + n) g19 ∧ Np w.heap.size gn gt gk W (nS host port 1 121) nK0 ∧ Anp gn gt gk W g7 ∧ An gn gt gk W (Auo) (0) ∧ An gn gt gk W (Aub) (9) ∧ An gn gt gk W (Apo) (0) ∧ An gn gt gk W (Apb) (9) ∧ Anp gn gt gk W g13 ∧ An gn gt gk W (Agd) (1) ∧ Anp gn gt gk W g15 ∧ Anp gn gt gk W g67 ∧ An gn gt gk W (Aqo) (4) ∧ An gn gt gk W (Aqb) (8 + n) ∧ Anp gn gt gk W g17 ∧ An gn gt gk W (Aro) (4) ∧ An gn gt gk W (Arb) (8 + n) ∧ Anp gn gt gk W g19 ∧ Below w.heap.size w W)
  case first =>
    replace bel := bel.drew
    replace hfB : w25.drew.heap[g7]? = _ := hfB
    replace hpB : w25.drew.heap[g13]? = _ := hpB
    replace hdB : w25.drew.heap[g15]? = _ := hdB
    replace hb67 : w25.drew.heap[g67]? = _ := hb67
    replace hqB : w25.drew.heap[g17]? = _ := hqB
    replace ll := ll.drew
    replace uo := uo.drew
    replace ub := ub.drew
    replace po := po.drew
    replace pb := pb.drew
    replace gd := gd.drew
    replace ops := ops.drew
    replace qo := qo.drew
    replace qb := qb.drew
    replace hT := np_drew hT
    replace ap_fB := anp_drew ap_fB
    replace an_uo := an_drew an_uo
    replace an_ub := an_drew an_ub
    replace an_po := an_drew an_po
    replace an_pb := an_drew an_pb
    replace ap_pB := anp_drew ap_pB
    replace an_gd := an_drew an_gd
    replace ap_dB := anp_drew ap_dB
    replace ap_b67 := anp_drew ap_b67
    replace an_qo := an_drew an_qo
    replace an_qb := an_drew an_qb
    replace ap_qB := anp_drew ap_qB
    refine wp_region_held_drew (S := fun W => W.heap[g17]? = some (.cells #[.int .i64 3, .int .i64 9, .int .i64 2, .int .i64 0, .int .i64 55, .int .i64 17, .int .u8 (m0.toNat : Int), .int .u8 (m1.toNat : Int), .int .u8 (m2.toNat : Int), .int .u8 (m3.toNat : Int), .int .u8 203, .int .u8 0, .int .u8 113, .int .u8 7, .slice Aqo 4 cqo, .slice Aqb (8 + n) cqb] 38 (0, 0))) (by kernel_rfl) hqB (fun hH => ?_)
    generalize w25.drew = w26 at bel hfB hpB hdB hb67 hqB ll uo ub po pb gd ops qo qb hT ap_fB an_uo an_ub an_po an_pb ap_pB an_gd ap_dB ap_b67 an_qo an_qb ap_qB hH ⊢
    refine wpAnyH_take (i := 0) (v := ?_) rfl (by kernel_rfl) (by kernel_rfl) (by kernel_rfl) (fun _ _ _ h => h) (Or.inl ⟨by rfl, ?_⟩) hH ?_
    rotate_left
    · ((intro W hW; clear hW; go_simp) <;> with_reducible rfl)
    simp only [Act.put, List.getElem_toArray, List.getElem_cons_zero, List.setIfInBounds_toArray, List.set_cons_zero, List.set_cons_succ]
    refine wpAnyH_take (i := 1) (v := .agg #[.int .i64 3, .int .i64 9, .int .i64 2, .int .i64 0, .int .i64 55, .int .i64 17, .int .u8 (m0.toNat : Int), .int .u8 (m1.toNat : Int), .int .u8 (m2.toNat : Int), .int .u8 (m3.toNat : Int), .int .u8 203, .int .u8 0, .int .u8 113, .int .u8 7, .slice Aqo 4 cqo, .slice Aqb (8 + n) cqb]) rfl (by kernel_rfl) (by kernel_rfl) (by kernel_rfl) (fun _ _ _ h => h) (yieldsIf_load_part (by kernel_rfl) 38 _ rfl g17 0 16 rfl _ 38 (0, 0) (fun W hW => hW) _ rfl _ Tryz.underlying38 rfl (by kernel_rfl)) hH ?_
    simp only [sq3, sq4]
    refine wpAnyH_ready (rs := [2, 7]) (by kernel_rfl) (by simp) ?_
    refine AllReadyH.cons (o := _) rfl (fun K hK => ?_) (AllReadyH.cons (o := _) rfl (fun K hK => ?_) AllReadyH.nil)
    rotate_left
    · simp only [sq3]
      rw [if_pos (by rfl)]
      refine wp_new_a 38 rfl #[.int .i64 0, .int .i64 0, .int .i64 0, .int .i64 0, .int .i64 0, .int .i64 0, .int .u8 0, .int .u8 0, .int .u8 0, .int .u8 0, .int .u8 0, .int .u8 0, .int .u8 0, .int .u8 0, .slice none 0 0, .slice none 0 0] (by kernel_rfl) ?_
      intro g19 w27 ge hh bb
      have ap_rB := hT.ap ge
      have d_fB_rB := ne_new (hlt hfB) ge
      have d_pB_rB := ne_new (hlt hpB) ge
      have d_dB_rB := ne_new (hlt hdB) ge
      have d_b67_rB := ne_new (hlt hb67) ge
      have d_qB_rB := ne_new (hlt hqB) ge
      have av_ll_rB := ll.av_new ge
      have av_uo_rB := uo.av_new ge
      have av_ub_rB := ub.av_new ge
      have av_po_rB := po.av_new ge
      have av_pb_rB := pb.av_new ge
      have av_gd_rB := gd.av_new ge
      have av_ops_rB := ops.av_new ge
      have av_qo_rB := qo.av_new ge
      have av_qb_rB := qb.av_new ge
      have orB := Nat.le_trans bel.size ge
      replace hfB := blk_u hfB bb
      replace hpB := blk_u hpB bb
      replace hdB := blk_u hdB bb
      replace hb67 := blk_u hb67 bb
      replace hqB := blk_u hqB bb
      replace ll := ll.below bb
      replace uo := uo.below bb
      replace ub := ub.below bb
      replace po := po.below bb
      replace pb := pb.below bb
      replace gd := gd.below bb
      replace ops := ops.below bb
      replace qo := qo.below bb
      replace qb := qb.below bb
      replace hT := hT.below bb
      replace ap_fB := ap_fB.below bb
      replace an_uo := an_uo.below bb
      replace an_ub := an_ub.below bb
      replace an_po := an_po.below bb
      replace an_pb := an_pb.below bb
      replace ap_pB := ap_pB.below bb
      replace an_gd := an_gd.below bb
      replace ap_dB := ap_dB.below bb
      replace ap_b67 := ap_b67.below bb
      replace an_qo := an_qo.below bb
      replace an_qb := an_qb.below bb
      replace ap_qB := ap_qB.below bb
      replace ap_rB := ap_rB.below bb
      replace bel := bel.trans (bb.mono bel.size)
      have hrB := hh
      clear hh ge bb
      refine hK.out _ _ hqB (fun hH28 => ?_)
      clear hK K
      simp only [sq4]
      refine wpAnyH_ready (rs := [2]) (by kernel_rfl) (by simp) ?_
      refine AllReadyH.cons (o := _) rfl (fun K hK => ?_) AllReadyH.nil
      simp only [sq3]
      go_simp
      with_reducible refine (wan19 _).mono ?_
      rintro e w29 ⟨rfl, b29⟩
      dsimp only
      replace hfB := blk_u hfB b29
      replace hpB := blk_u hpB b29
      replace hdB := blk_u hdB b29
      replace hb67 := blk_u hb67 b29
      replace hqB := blk_u hqB b29
      replace hrB := blk_u hrB b29
      replace ll := ll.below b29
      replace uo := uo.below b29
      replace ub := ub.below b29
      replace po := po.below b29
      replace pb := pb.below b29
      replace gd := gd.below b29
      replace ops := ops.below b29
      replace qo := qo.below b29
      replace qb := qb.below b29
      replace hT := hT.below b29
      replace ap_fB := ap_fB.below b29
      replace an_uo := an_uo.below b29
      replace an_ub := an_ub.below b29
      replace an_po := an_po.below b29
      replace an_pb := an_pb.below b29
      replace ap_pB := ap_pB.below b29
      replace an_gd := an_gd.below b29
      replace ap_dB := ap_dB.below b29
      replace ap_b67 := ap_b67.below b29
      replace an_qo := an_qo.below b29
      replace an_qb := an_qb.below b29
      replace ap_qB := ap_qB.below b29
      replace ap_rB := ap_rB.below b29
      replace bel := bel.trans (b29.mono bel.size)
      clear b29
      refine hK.out _ _ hqB (fun hH30 => ?_)
      clear hK K
      refine wpAnyH_ready (rs := [3]) (by kernel_rfl) (by simp) ?_
      refine AllReadyH.cons (o := _) rfl (fun K hK => ?_) AllReadyH.nil
      simp only [sq3]
      go_simp
      have lt_fB := hlt hfB
      have lt_pB := hlt hpB
      have lt_dB := hlt hdB
      have lt_b67 := hlt hb67
      have lt_qB := hlt hqB
      have lt_rB := hlt hrB
      with_reducible refine (b_in _ hT qo qb an_qo Hc1.out Hc2.out Hc3.out Hc4.out HN.out HLL.out).mono ?_
      rintro e w31 ⟨Aro, cro, Arb, crb, rfl, hT_, f_, bb, ro, rb, an_ro, an_rb, fro, frb⟩
      dsimp only
      have x_ := f_ _ _ _ _ hfB ap_fB
      replace hfB := x_.1
      replace ap_fB := x_.2
      clear x_
      have x_ := f_ _ _ _ _ hpB ap_pB
      replace hpB := x_.1
      replace ap_pB := x_.2
      clear x_
      have x_ := f_ _ _ _ _ hdB ap_dB
      replace hdB := x_.1
      replace ap_dB := x_.2
      clear x_
      have x_ := f_ _ _ _ _ hb67 ap_b67
      replace hb67 := x_.1
      replace ap_b67 := x_.2
      clear x_
      have x_ := f_ _ _ _ _ hqB ap_qB
      replace hqB := x_.1
      replace ap_qB := x_.2
      clear x_
      have x_ := f_ _ _ _ _ hrB ap_rB
      replace hrB := x_.1
      replace ap_rB := x_.2
      clear x_
      have x_ := f_.sl uo an_uo
      replace uo := x_.1
      replace an_uo := x_.2
      clear x_
      have x_ := f_.sl ub an_ub
      replace ub := x_.1
      replace an_ub := x_.2
      clear x_
      have x_ := f_.sl po an_po
      replace po := x_.1
      replace an_po := x_.2
      clear x_
      have x_ := f_.sl pb an_pb
      replace pb := x_.1
      replace an_pb := x_.2
      clear x_
      have x_ := f_.sl gd an_gd
      replace gd := x_.1
      replace an_gd := x_.2
      clear x_
      clear ops
      have x_ := f_.sl qo an_qo
      replace qo := x_.1
      replace an_qo := x_.2
      clear x_
      have x_ := f_.sl qb an_qb
      replace qb := x_.1
      replace an_qb := x_.2
      clear x_
      clear hT
      have hT := hT_
      replace bel := bel.trans bb
      clear bb f_ hT_
      replace ll := HL0.out.below bel
      have av_ro_fB := fro.av lt_fB
      have av_ro_pB := fro.av lt_pB
      have av_ro_dB := fro.av lt_dB
      have av_ro_b67 := fro.av lt_b67
      have av_ro_qB := fro.av lt_qB
      have av_ro_rB := fro.av lt_rB
      have av_rb_fB := frb.av lt_fB
      have av_rb_pB := frb.av lt_pB
      have av_rb_dB := frb.av lt_dB
      have av_rb_b67 := frb.av lt_b67
      have av_rb_qB := frb.av lt_qB
      have av_rb_rB := frb.av lt_rB
      clear lt_fB lt_pB lt_dB lt_b67 lt_qB lt_rB
      clear fro frb
      refine hK.out _ _ hqB (fun hH32 => ?_)
      clear hK K
      refine wpAnyH_take (i := 4) (v := ?_) rfl (by kernel_rfl) (by kernel_rfl) (by kernel_rfl) (fun _ _ _ h => h) (Or.inl ⟨by rfl, ?_⟩) hH32 ?_
      rotate_left
      · ((intro W hW; clear hW; go_simp) <;> with_reducible rfl)
      simp only [sq3, sq4]
      refine wpAnyH_take (i := 5) (v := ?_) rfl (by kernel_rfl) (by kernel_rfl) (by kernel_rfl) (fun _ _ _ h => h) (Or.inl ⟨by rfl, ?_⟩) hH32 ?_
      rotate_left
      · ((intro W hW; clear hW; go_simp) <;> with_reducible rfl)
      simp only [sq3, sq4]
      refine wpAnyH_take (i := 6) (v := ?_) rfl (by kernel_rfl) (by kernel_rfl) (by kernel_rfl) (fun _ _ _ h => h) (Or.inl ⟨by rfl, ?_⟩) hH32 ?_
      rotate_left
      · ((intro W hW; clear hW; go_simp) <;> with_reducible rfl)
      simp only [sq3, sq4]
      refine wpAnyH_ready (rs := [8]) (by kernel_rfl) (by simp) ?_
      refine AllReadyH.cons (o := _) rfl (fun K hK => ?_) AllReadyH.nil
      simp only [sq3]
      rw [if_pos (by rfl)]
      refine wp_store_blk 38 (.tmp 19) (.tmp 82) rfl g19 rfl _ rfl _ 38 hrB (by rfl) (by kernel_rfl) (by kernel_rfl) ?_
      intro w33 hq gr
      replace ll := ll.away av_ll_rB gr
      replace uo := uo.away av_uo_rB gr
      replace ub := ub.away av_ub_rB gr
      replace po := po.away av_po_rB gr
      replace pb := pb.away av_pb_rB gr
      replace gd := gd.away av_gd_rB gr
      replace qo := qo.away av_qo_rB gr
      replace qb := qb.away av_qb_rB gr
      replace ro := ro.away av_ro_rB gr
      replace rb := rb.away av_rb_rB gr
      replace hfB := blk_a hfB gr d_fB_rB
      replace hpB := blk_a hpB gr d_pB_rB
      replace hdB := blk_a hdB gr d_dB_rB
      replace hb67 := blk_a hb67 gr d_b67_rB
      replace hqB := blk_a hqB gr d_qB_rB
      replace hT := hT.away ap_rB gr hrB
      replace ap_fB := ap_fB.grown ap_rB gr
      replace an_uo := an_uo.grown ap_rB gr
      replace an_ub := an_ub.grown ap_rB gr
      replace an_po := an_po.grown ap_rB gr
      replace an_pb := an_pb.grown ap_rB gr
      replace ap_pB := ap_pB.grown ap_rB gr
      replace an_gd := an_gd.grown ap_rB gr
      replace ap_dB := ap_dB.grown ap_rB gr
      replace ap_b67 := ap_b67.grown ap_rB gr
      replace an_qo := an_qo.grown ap_rB gr
      replace an_qb := an_qb.grown ap_rB gr
      replace ap_qB := ap_qB.grown ap_rB gr
      replace ap_rB := ap_rB.grown ap_rB gr
      replace an_ro := an_ro.grown ap_rB gr
      replace an_rb := an_rb.grown ap_rB gr
      replace bel := below_grown bel gr orB bel.size
      clear hrB
      have hrB := hq
      clear hq gr
      refine hK.out _ _ hqB (fun hH34 => ?_)
      clear hK K
      simp only [Act.put]
      refine wpAnyH_take (i := 9) (v := ?_) rfl (by kernel_rfl) (by kernel_rfl) (by kernel_rfl) (fun _ _ _ h => h) (Or.inl ⟨by rfl, ?_⟩) hH34 ?_
      rotate_left
      · ((intro W hW; clear hW; go_simp) <;> with_reducible rfl)
      simp only [sq3, sq4]
      refine wpAnyH_done (by kernel_rfl) ?_ _
      go_wp2_with fail
      go_meet
      case rel => exact ⟨g19, Aro, cro, Arb, crb, rfl, rfl, hfB, hpB, hdB, hb67, hqB, hrB, orB, d_b67_dB, d_b67_fB, d_b67_pB, d_b67_qB, d_b67_rB, d_dB_fB, d_dB_pB, d_dB_qB, d_dB_rB, d_fB_pB, d_fB_qB, d_fB_rB, d_pB_qB, d_pB_rB, d_qB_rB, ll, av_ll_b67, av_ll_dB, av_ll_fB, av_ll_pB, av_ll_qB, av_ll_rB, uo, av_uo_b67, av_uo_dB, av_uo_fB, av_uo_pB, av_uo_qB, av_uo_rB, ub, av_ub_b67, av_ub_dB, av_ub_fB, av_ub_pB, av_ub_qB, av_ub_rB, po, av_po_b67, av_po_dB, av_po_fB, av_po_pB, av_po_qB, av_po_rB, pb, av_pb_b67, av_pb_dB, av_pb_fB, av_pb_pB, av_pb_qB, av_pb_rB, gd, av_gd_b67, av_gd_dB, av_gd_fB, av_gd_pB, av_gd_qB, av_gd_rB, qo, av_qo_b67, av_qo_dB, av_qo_fB, av_qo_pB, av_qo_qB, av_qo_rB, qb, av_qb_b67, av_qb_dB, av_qb_fB, av_qb_pB, av_qb_qB, av_qb_rB, ro, av_ro_b67, av_ro_dB, av_ro_fB, av_ro_pB, av_ro_qB, av_ro_rB, rb, av_rb_b67, av_rb_dB, av_rb_fB, av_rb_pB, av_rb_qB, av_rb_rB, hT, ap_fB, an_uo, an_ub, an_po, an_pb, ap_pB, an_gd, ap_dB, ap_b67, an_qo, an_qb, ap_qB, an_ro, an_rb, ap_rB, bel⟩
    simp only [sq3]
    go_simp
    with_reducible refine (wan19 _).mono ?_
    rintro e w27 ⟨rfl, b27⟩
    dsimp only
    replace hfB := blk_u hfB b27
    replace hpB := blk_u hpB b27
    replace hdB := blk_u hdB b27
    replace hb67 := blk_u hb67 b27
    replace hqB := blk_u hqB b27
    replace ll := ll.below b27
    replace uo := uo.below b27
    replace ub := ub.below b27
    replace po := po.below b27
    replace pb := pb.below b27
    replace gd := gd.below b27
    replace ops := ops.below b27
    replace qo := qo.below b27
    replace qb := qb.below b27
    replace hT := hT.below b27
    replace ap_fB := ap_fB.below b27
    replace an_uo := an_uo.below b27
    replace an_ub := an_ub.below b27
    replace an_po := an_po.below b27
    replace an_pb := an_pb.below b27
    replace ap_pB := ap_pB.below b27
    replace an_gd := an_gd.below b27
    replace ap_dB := ap_dB.below b27
    replace ap_b67 := ap_b67.below b27
    replace an_qo := an_qo.below b27
    replace an_qb := an_qb.below b27
    replace ap_qB := ap_qB.below b27
    replace bel := bel.trans (b27.mono bel.size)
    clear b27
    refine hK.out _ _ hqB (fun hH28 => ?_)
    clear hK K
    refine wpAnyH_ready (rs := [3, 7]) (by kernel_rfl) (by simp) ?_
    refine AllReadyH.cons (o := _) rfl (fun K hK => ?_) (AllReadyH.cons (o := _) rfl (fun K hK => ?_) AllReadyH.nil)
    · simp only [sq3]
      go_simp
      have lt_fB := hlt hfB
      have lt_pB := hlt hpB
      have lt_dB := hlt hdB
      have lt_b67 := hlt hb67
      have lt_qB := hlt hqB
      with_reducible refine (b_in _ hT qo qb an_qo Hc1.out Hc2.out Hc3.out Hc4.out HN.out HLL.out).mono ?_
      rintro e w29 ⟨Aro, cro, Arb, crb, rfl, hT_, f_, bb, ro, rb, an_ro, an_rb, fro, frb⟩
      dsimp only
      have x_ := f_ _ _ _ _ hfB ap_fB
      replace hfB := x_.1
      replace ap_fB := x_.2
      clear x_
      have x_ := f_ _ _ _ _ hpB ap_pB
      replace hpB := x_.1
      replace ap_pB := x_.2
      clear x_
      have x_ := f_ _ _ _ _ hdB ap_dB
      replace hdB := x_.1
      replace ap_dB := x_.2
      clear x_
      have x_ := f_ _ _ _ _ hb67 ap_b67
      replace hb67 := x_.1
      replace ap_b67 := x_.2
      clear x_
      have x_ := f_ _ _ _ _ hqB ap_qB
      replace hqB := x_.1
      replace ap_qB := x_.2
      clear x_
      have x_ := f_.sl uo an_uo
      replace uo := x_.1
      replace an_uo := x_.2
      clear x_
      have x_ := f_.sl ub an_ub
      replace ub := x_.1
      replace an_ub := x_.2
      clear x_
      have x_ := f_.sl po an_po
      replace po := x_.1
      replace an_po := x_.2
      clear x_
      have x_ := f_.sl pb an_pb
      replace pb := x_.1
      replace an_pb := x_.2
      clear x_
      have x_ := f_.sl gd an_gd
      replace gd := x_.1
      replace an_gd := x_.2
      clear x_
      clear ops
      have x_ := f_.sl qo an_qo
      replace qo := x_.1
      replace an_qo := x_.2
      clear x_
      have x_ := f_.sl qb an_qb
      replace qb := x_.1
      replace an_qb := x_.2
      clear x_
      clear hT
      have hT := hT_
      replace bel := bel.trans bb
      clear bb f_ hT_
      replace ll := HL0.out.below bel
      have av_ro_fB := fro.av lt_fB
      have av_ro_pB := fro.av lt_pB
      have av_ro_dB := fro.av lt_dB
      have av_ro_b67 := fro.av lt_b67
      have av_ro_qB := fro.av lt_qB
      have av_rb_fB := frb.av lt_fB
      have av_rb_pB := frb.av lt_pB
      have av_rb_dB := frb.av lt_dB
      have av_rb_b67 := frb.av lt_b67
      have av_rb_qB := frb.av lt_qB
      clear lt_fB lt_pB lt_dB lt_b67 lt_qB
      clear fro frb
      refine hK.out _ _ hqB (fun hH30 => ?_)
      clear hK K
      refine wpAnyH_take (i := 4) (v := ?_) rfl (by kernel_rfl) (by kernel_rfl) (by kernel_rfl) (fun _ _ _ h => h) (Or.inl ⟨by rfl, ?_⟩) hH30 ?_
      rotate_left
      · ((intro W hW; clear hW; go_simp) <;> with_reducible rfl)
      simp only [sq3, sq4]
      refine wpAnyH_take (i := 5) (v := ?_) rfl (by kernel_rfl) (by kernel_rfl) (by kernel_rfl) (fun _ _ _ h => h) (Or.inl ⟨by rfl, ?_⟩) hH30 ?_
      rotate_left
      · ((intro W hW; clear hW; go_simp) <;> with_reducible rfl)
      simp only [sq3, sq4]
      refine wpAnyH_take (i := 6) (v := ?_) rfl (by kernel_rfl) (by kernel_rfl) (by kernel_rfl) (fun _ _ _ h => h) (Or.inl ⟨by rfl, ?_⟩) hH30 ?_
      rotate_left
      · ((intro W hW; clear hW; go_simp) <;> with_reducible rfl)
      simp only [sq3, sq4]
      refine wpAnyH_ready (rs := [7]) (by kernel_rfl) (by simp) ?_
      refine AllReadyH.cons (o := _) rfl (fun K hK => ?_) AllReadyH.nil
      simp only [sq3]
      rw [if_pos (by rfl)]
      refine wp_new_a 38 rfl #[.int .i64 0, .int .i64 0, .int .i64 0, .int .i64 0, .int .i64 0, .int .i64 0, .int .u8 0, .int .u8 0, .int .u8 0, .int .u8 0, .int .u8 0, .int .u8 0, .int .u8 0, .int .u8 0, .slice none 0 0, .slice none 0 0] (by kernel_rfl) ?_
      intro g19 w31 ge hh bb
      have ap_rB := hT.ap ge
      have d_fB_rB := ne_new (hlt hfB) ge
      have d_pB_rB := ne_new (hlt hpB) ge
      have d_dB_rB := ne_new (hlt hdB) ge
      have d_b67_rB := ne_new (hlt hb67) ge
      have d_qB_rB := ne_new (hlt hqB) ge
      have av_ll_rB := ll.av_new ge
      have av_uo_rB := uo.av_new ge
      have av_ub_rB := ub.av_new ge
      have av_po_rB := po.av_new ge
      have av_pb_rB := pb.av_new ge
      have av_gd_rB := gd.av_new ge
      have av_qo_rB := qo.av_new ge
      have av_qb_rB := qb.av_new ge
      have av_ro_rB := ro.av_new ge
      have av_rb_rB := rb.av_new ge
      have orB := Nat.le_trans bel.size ge
      replace hfB := blk_u hfB bb
      replace hpB := blk_u hpB bb
      replace hdB := blk_u hdB bb
      replace hb67 := blk_u hb67 bb
      replace hqB := blk_u hqB bb
      replace ll := ll.below bb
      replace uo := uo.below bb
      replace ub := ub.below bb
      replace po := po.below bb
      replace pb := pb.below bb
      replace gd := gd.below bb
      replace qo := qo.below bb
      replace qb := qb.below bb
      replace ro := ro.below bb
      replace rb := rb.below bb
      replace hT := hT.below bb
      replace ap_fB := ap_fB.below bb
      replace an_uo := an_uo.below bb
      replace an_ub := an_ub.below bb
      replace an_po := an_po.below bb
      replace an_pb := an_pb.below bb
      replace ap_pB := ap_pB.below bb
      replace an_gd := an_gd.below bb
      replace ap_dB := ap_dB.below bb
      replace ap_b67 := ap_b67.below bb
      replace an_qo := an_qo.below bb
      replace an_qb := an_qb.below bb
      replace ap_qB := ap_qB.below bb
      replace an_ro := an_ro.below bb
      replace an_rb := an_rb.below bb
      replace ap_rB := ap_rB.below bb
      replace bel := bel.trans (bb.mono bel.size)
      have hrB := hh
      clear hh ge bb
      refine hK.out _ _ hqB (fun hH32 => ?_)
      clear hK K
      simp only [sq4]
      refine wpAnyH_ready (rs := [8]) (by kernel_rfl) (by simp) ?_
      refine AllReadyH.cons (o := _) rfl (fun K hK => ?_) AllReadyH.nil
      simp only [sq3]
      rw [if_pos (by rfl)]
      refine wp_store_blk 38 (.tmp 19) (.tmp 82) rfl g19 rfl _ rfl _ 38 hrB (by rfl) (by kernel_rfl) (by kernel_rfl) ?_
      intro w33 hq gr
      replace ll := ll.away av_ll_rB gr
      replace uo := uo.away av_uo_rB gr
      replace ub := ub.away av_ub_rB gr
      replace po := po.away av_po_rB gr
      replace pb := pb.away av_pb_rB gr
      replace gd := gd.away av_gd_rB gr
      replace qo := qo.away av_qo_rB gr
      replace qb := qb.away av_qb_rB gr
      replace ro := ro.away av_ro_rB gr
      replace rb := rb.away av_rb_rB gr
      replace hfB := blk_a hfB gr d_fB_rB
      replace hpB := blk_a hpB gr d_pB_rB
      replace hdB := blk_a hdB gr d_dB_rB
      replace hb67 := blk_a hb67 gr d_b67_rB
      replace hqB := blk_a hqB gr d_qB_rB
      replace hT := hT.away ap_rB gr hrB
      replace ap_fB := ap_fB.grown ap_rB gr
      replace an_uo := an_uo.grown ap_rB gr
      replace an_ub := an_ub.grown ap_rB gr
      replace an_po := an_po.grown ap_rB gr
      replace an_pb := an_pb.grown ap_rB gr
      replace ap_pB := ap_pB.grown ap_rB gr
      replace an_gd := an_gd.grown ap_rB gr
      replace ap_dB := ap_dB.grown ap_rB gr
      replace ap_b67 := ap_b67.grown ap_rB gr
      replace an_qo := an_qo.grown ap_rB gr
      replace an_qb := an_qb.grown ap_rB gr
      replace ap_qB := ap_qB.grown ap_rB gr
      replace an_ro := an_ro.grown ap_rB gr
      replace an_rb := an_rb.grown ap_rB gr
      replace ap_rB := ap_rB.grown ap_rB gr
      replace bel := below_grown bel gr orB bel.size
      clear hrB
      have hrB := hq
      clear hq gr
      refine hK.out _ _ hqB (fun hH34 => ?_)
      clear hK K
      simp only [Act.put]
      refine wpAnyH_take (i := 9) (v := ?_) rfl (by kernel_rfl) (by kernel_rfl) (by kernel_rfl) (fun _ _ _ h => h) (Or.inl ⟨by rfl, ?_⟩) hH34 ?_
      rotate_left
      · ((intro W hW; clear hW; go_simp) <;> with_reducible rfl)
      simp only [sq3, sq4]
      refine wpAnyH_done (by kernel_rfl) ?_ _
      go_wp2_with fail
      go_meet
      case rel => exact ⟨g19, Aro, cro, Arb, crb, rfl, rfl, hfB, hpB, hdB, hb67, hqB, hrB, orB, d_b67_dB, d_b67_fB, d_b67_pB, d_b67_qB, d_b67_rB, d_dB_fB, d_dB_pB, d_dB_qB, d_dB_rB, d_fB_pB, d_fB_qB, d_fB_rB, d_pB_qB, d_pB_rB, d_qB_rB, ll, av_ll_b67, av_ll_dB, av_ll_fB, av_ll_pB, av_ll_qB, av_ll_rB, uo, av_uo_b67, av_uo_dB, av_uo_fB, av_uo_pB, av_uo_qB, av_uo_rB, ub, av_ub_b67, av_ub_dB, av_ub_fB, av_ub_pB, av_ub_qB, av_ub_rB, po, av_po_b67, av_po_dB, av_po_fB, av_po_pB, av_po_qB, av_po_rB, pb, av_pb_b67, av_pb_dB, av_pb_fB, av_pb_pB, av_pb_qB, av_pb_rB, gd, av_gd_b67, av_gd_dB, av_gd_fB, av_gd_pB, av_gd_qB, av_gd_rB, qo, av_qo_b67, av_qo_dB, av_qo_fB, av_qo_pB, av_qo_qB, av_qo_rB, qb, av_qb_b67, av_qb_dB, av_qb_fB, av_qb_pB, av_qb_qB, av_qb_rB, ro, av_ro_b67, av_ro_dB, av_ro_fB, av_ro_pB, av_ro_qB, av_ro_rB, rb, av_rb_b67, av_rb_dB, av_rb_fB, av_rb_pB, av_rb_qB, av_rb_rB, hT, ap_fB, an_uo, an_ub, an_po, an_pb, ap_pB, an_gd, ap_dB, ap_b67, an_qo, an_qb, ap_qB, an_ro, an_rb, ap_rB, bel⟩
    simp only [sq3]
    rw [if_pos (by rfl)]
    refine wp_new_a 38 rfl #[.int .i64 0, .int .i64 0, .int .i64 0, .int .i64 0, .int .i64 0, .int .i64 0, .int .u8 0, .int .u8 0, .int .u8 0, .int .u8 0, .int .u8 0, .int .u8 0, .int .u8 0, .int .u8 0, .slice none 0 0, .slice none 0 0] (by kernel_rfl) ?_
    intro g19 w29 ge hh bb
    have ap_rB := hT.ap ge
    have d_fB_rB := ne_new (hlt hfB) ge
    have d_pB_rB := ne_new (hlt hpB) ge
    have d_dB_rB := ne_new (hlt hdB) ge
    have d_b67_rB := ne_new (hlt hb67) ge
    have d_qB_rB := ne_new (hlt hqB) ge
    have av_ll_rB := ll.av_new ge
    have av_uo_rB := uo.av_new ge
    have av_ub_rB := ub.av_new ge
    have av_po_rB := po.av_new ge
    have av_pb_rB := pb.av_new ge
    have av_gd_rB := gd.av_new ge
    have av_ops_rB := ops.av_new ge
    have av_qo_rB := qo.av_new ge
    have av_qb_rB := qb.av_new ge
    have orB := Nat.le_trans bel.size ge
    replace hfB := blk_u hfB bb
    replace hpB := blk_u hpB bb
    replace hdB := blk_u hdB bb
    replace hb67 := blk_u hb67 bb
    replace hqB := blk_u hqB bb
    replace ll := ll.below bb
    replace uo := uo.below bb
    replace ub := ub.below bb
    replace po := po.below bb
    replace pb := pb.below bb
    replace gd := gd.below bb
    replace ops := ops.below bb
    replace qo := qo.below bb
    replace qb := qb.below bb
    replace hT := hT.below bb
    replace ap_fB := ap_fB.below bb
    replace an_uo := an_uo.below bb
    replace an_ub := an_ub.below bb
    replace an_po := an_po.below bb
    replace an_pb := an_pb.below bb
    replace ap_pB := ap_pB.below bb
    replace an_gd := an_gd.below bb
    replace ap_dB := ap_dB.below bb
    replace ap_b67 := ap_b67.below bb
    replace an_qo := an_qo.below bb
    replace an_qb := an_qb.below bb
    replace ap_qB := ap_qB.below bb
    replace ap_rB := ap_rB.below bb
    replace bel := bel.trans (bb.mono bel.size)
    have hrB := hh
    clear hh ge bb
    refine hK.out _ _ hqB (fun hH30 => ?_)
    clear hK K
    simp only [sq4]
    refine wpAnyH_ready (rs := [3]) (by kernel_rfl) (by simp) ?_
    refine AllReadyH.cons (o := _) rfl (fun K hK => ?_) AllReadyH.nil
    simp only [sq3]
    go_simp
    have lt_fB := hlt hfB
    have lt_pB := hlt hpB
    have lt_dB := hlt hdB
    have lt_b67 := hlt hb67
    have lt_qB := hlt hqB
    have lt_rB := hlt hrB
    with_reducible refine (b_in _ hT qo qb an_qo Hc1.out Hc2.out Hc3.out Hc4.out HN.out HLL.out).mono ?_
    rintro e w31 ⟨Aro, cro, Arb, crb, rfl, hT_, f_, bb, ro, rb, an_ro, an_rb, fro, frb⟩
    dsimp only
    have x_ := f_ _ _ _ _ hfB ap_fB
    replace hfB := x_.1
    replace ap_fB := x_.2
    clear x_
    have x_ := f_ _ _ _ _ hpB ap_pB
    replace hpB := x_.1
    replace ap_pB := x_.2
    clear x_
    have x_ := f_ _ _ _ _ hdB ap_dB
    replace hdB := x_.1
    replace ap_dB := x_.2
    clear x_
    have x_ := f_ _ _ _ _ hb67 ap_b67
    replace hb67 := x_.1
    replace ap_b67 := x_.2
    clear x_
    have x_ := f_ _ _ _ _ hqB ap_qB
    replace hqB := x_.1
    replace ap_qB := x_.2
    clear x_
    have x_ := f_ _ _ _ _ hrB ap_rB
    replace hrB := x_.1
    replace ap_rB := x_.2
    clear x_
    have x_ := f_.sl uo an_uo
    replace uo := x_.1
    replace an_uo := x_.2
    clear x_
    have x_ := f_.sl ub an_ub
    replace ub := x_.1
    replace an_ub := x_.2
    clear x_
    have x_ := f_.sl po an_po
    replace po := x_.1
    replace an_po := x_.2
    clear x_
    have x_ := f_.sl pb an_pb
    replace pb := x_.1
    replace an_pb := x_.2
    clear x_
    have x_ := f_.sl gd an_gd
    replace gd := x_.1
    replace an_gd := x_.2
    clear x_
    clear ops
    have x_ := f_.sl qo an_qo
    replace qo := x_.1
    replace an_qo := x_.2
    clear x_
    have x_ := f_.sl qb an_qb
    replace qb := x_.1
    replace an_qb := x_.2
    clear x_
    clear hT
    have hT := hT_
    replace bel := bel.trans bb
    clear bb f_ hT_
    replace ll := HL0.out.below bel
    have av_ro_fB := fro.av lt_fB
    have av_ro_pB := fro.av lt_pB
    have av_ro_dB := fro.av lt_dB
    have av_ro_b67 := fro.av lt_b67
    have av_ro_qB := fro.av lt_qB
    have av_ro_rB := fro.av lt_rB
    have av_rb_fB := frb.av lt_fB
    have av_rb_pB := frb.av lt_pB
    have av_rb_dB := frb.av lt_dB
    have av_rb_b67 := frb.av lt_b67
    have av_rb_qB := frb.av lt_qB
    have av_rb_rB := frb.av lt_rB
    clear lt_fB lt_pB lt_dB lt_b67 lt_qB lt_rB
    clear fro frb
    refine hK.out _ _ hqB (fun hH32 => ?_)
    clear hK K
    refine wpAnyH_take (i := 4) (v := ?_) rfl (by kernel_rfl) (by kernel_rfl) (by kernel_rfl) (fun _ _ _ h => h) (Or.inl ⟨by rfl, ?_⟩) hH32 ?_
    rotate_left
    · ((intro W hW; clear hW; go_simp) <;> with_reducible rfl)
    simp only [sq3, sq4]
    refine wpAnyH_take (i := 5) (v := ?_) rfl (by kernel_rfl) (by kernel_rfl) (by kernel_rfl) (fun _ _ _ h => h) (Or.inl ⟨by rfl, ?_⟩) hH32 ?_
    rotate_left
    · ((intro W hW; clear hW; go_simp) <;> with_reducible rfl)
    simp only [sq3, sq4]
    refine wpAnyH_take (i := 6) (v := ?_) rfl (by kernel_rfl) (by kernel_rfl) (by kernel_rfl) (fun _ _ _ h => h) (Or.inl ⟨by rfl, ?_⟩) hH32 ?_
    rotate_left
    · ((intro W hW; clear hW; go_simp) <;> with_reducible rfl)
    simp only [sq3, sq4]
    refine wpAnyH_ready (rs := [8]) (by kernel_rfl) (by simp) ?_
    refine AllReadyH.cons (o := _) rfl (fun K hK => ?_) AllReadyH.nil
    simp only [sq3]
    rw [if_pos (by rfl)]
    refine wp_store_blk 38 (.tmp 19) (.tmp 82) rfl g19 rfl _ rfl _ 38 hrB (by rfl) (by kernel_rfl) (by kernel_rfl) ?_
    intro w33 hq gr
    replace ll := ll.away av_ll_rB gr
    replace uo := uo.away av_uo_rB gr
    replace ub := ub.away av_ub_rB gr
    replace po := po.away av_po_rB gr
    replace pb := pb.away av_pb_rB gr
    replace gd := gd.away av_gd_rB gr
    replace qo := qo.away av_qo_rB gr
    replace qb := qb.away av_qb_rB gr
    replace ro := ro.away av_ro_rB gr
    replace rb := rb.away av_rb_rB gr
    replace hfB := blk_a hfB gr d_fB_rB
    replace hpB := blk_a hpB gr d_pB_rB
    replace hdB := blk_a hdB gr d_dB_rB
    replace hb67 := blk_a hb67 gr d_b67_rB
    replace hqB := blk_a hqB gr d_qB_rB
    replace hT := hT.away ap_rB gr hrB
    replace ap_fB := ap_fB.grown ap_rB gr
    replace an_uo := an_uo.grown ap_rB gr
    replace an_ub := an_ub.grown ap_rB gr
    replace an_po := an_po.grown ap_rB gr
    replace an_pb := an_pb.grown ap_rB gr
    replace ap_pB := ap_pB.grown ap_rB gr
    replace an_gd := an_gd.grown ap_rB gr
    replace ap_dB := ap_dB.grown ap_rB gr
    replace ap_b67 := ap_b67.grown ap_rB gr
    replace an_qo := an_qo.grown ap_rB gr
    replace an_qb := an_qb.grown ap_rB gr
    replace ap_qB := ap_qB.grown ap_rB gr
    replace ap_rB := ap_rB.grown ap_rB gr
    replace an_ro := an_ro.grown ap_rB gr
    replace an_rb := an_rb.grown ap_rB gr
    replace bel := below_grown bel gr orB bel.size
    clear hrB
    have hrB := hq
    clear hq gr
    refine hK.out _ _ hqB (fun hH34 => ?_)
    clear hK K
    simp only [Act.put]
    refine wpAnyH_take (i := 9) (v := ?_) rfl (by kernel_rfl) (by kernel_rfl) (by kernel_rfl) (fun _ _ _ h => h) (Or.inl ⟨by rfl, ?_⟩) hH34 ?_
    rotate_left
    · ((intro W hW; clear hW; go_simp) <;> with_reducible rfl)
    simp only [sq3, sq4]
    refine wpAnyH_done (by kernel_rfl) ?_ _
    go_wp2_with fail
    go_meet
    case rel => exact ⟨g19, Aro, cro, Arb, crb, rfl, rfl, hfB, hpB, hdB, hb67, hqB, hrB, orB, d_b67_dB, d_b67_fB, d_b67_pB, d_b67_qB, d_b67_rB, d_dB_fB, d_dB_pB, d_dB_qB, d_dB_rB, d_fB_pB, d_fB_qB, d_fB_rB, d_pB_qB, d_pB_rB, d_qB_rB, ll, av_ll_b67, av_ll_dB, av_ll_fB, av_ll_pB, av_ll_qB, av_ll_rB, uo, av_uo_b67, av_uo_dB, av_uo_fB, av_uo_pB, av_uo_qB, av_uo_rB, ub, av_ub_b67, av_ub_dB, av_ub_fB, av_ub_pB, av_ub_qB, av_ub_rB, po, av_po_b67, av_po_dB, av_po_fB, av_po_pB, av_po_qB, av_po_rB, pb, av_pb_b67, av_pb_dB, av_pb_fB, av_pb_pB, av_pb_qB, av_pb_rB, gd, av_gd_b67, av_gd_dB, av_gd_fB, av_gd_pB, av_gd_qB, av_gd_rB, qo, av_qo_b67, av_qo_dB, av_qo_fB, av_qo_pB, av_qo_qB, av_qo_rB, qb, av_qb_b67, av_qb_dB, av_qb_fB, av_qb_pB, av_qb_qB, av_qb_rB, ro, av_ro_b67, av_ro_dB, av_ro_fB, av_ro_pB, av_ro_qB, av_ro_rB, rb, av_rb_b67, av_rb_dB, av_rb_fB, av_rb_pB, av_rb_qB, av_rb_rB, hT, ap_fB, an_uo, an_ub, an_po, an_pb, ap_pB, an_gd, ap_dB, ap_b67, an_qo, an_qb, ap_qB, an_ro, an_rb, ap_rB, bel⟩
  obtain ⟨w35, hw_⟩ : ∃ x, x = wc := ⟨_, rfl⟩
  subst hw_
  obtain ⟨g19, Aro, cro, Arb, crb, rfl, rfl, hfB, hpB, hdB, hb67, hqB, hrB, orB, d_b67_dB, d_b67_fB, d_b67_pB, d_b67_qB, d_b67_rB, d_dB_fB, d_dB_pB, d_dB_qB, d_dB_rB, d_fB_pB, d_fB_qB, d_fB_rB, d_pB_qB, d_pB_rB, d_qB_rB, ll, av_ll_b67, av_ll_dB, av_ll_fB, av_ll_pB, av_ll_qB, av_ll_rB, uo, av_uo_b67, av_uo_dB, av_uo_fB, av_uo_pB, av_uo_qB, av_uo_rB, ub, av_ub_b67, av_ub_dB, av_ub_fB, av_ub_pB, av_ub_qB, av_ub_rB, po, av_po_b67, av_po_dB, av_po_fB, av_po_pB, av_po_qB, av_po_rB, pb, av_pb_b67, av_pb_dB, av_pb_fB, av_pb_pB, av_pb_qB, av_pb_rB, gd, av_gd_b67, av_gd_dB, av_gd_fB, av_gd_pB, av_gd_qB, av_gd_rB, qo, av_qo_b67, av_qo_dB, av_qo_fB, av_qo_pB, av_qo_qB, av_qo_rB, qb, av_qb_b67, av_qb_dB, av_qb_fB, av_qb_pB, av_qb_qB, av_qb_rB, ro, av_ro_b67, av_ro_dB, av_ro_fB, av_ro_pB, av_ro_qB, av_ro_rB, rb, av_rb_b67, av_rb_dB, av_rb_fB, av_rb_pB, av_rb_qB, av_rb_rB, hT, ap_fB, an_uo, an_ub, an_po, an_pb, ap_pB, an_gd, ap_dB, ap_b67, an_qo, an_qb, ap_qB, an_ro, an_rb, ap_rB, bel⟩ := hcut
  have R85 := Lib.hid (range_lit hrB 0 16 [.int .i64 3, .int .i64 9, .int .i64 2, .int .i64 0, .int .i64 55, .int .i64 17, .int .u8 (m0.toNat : Int), .int .u8 (m1.toNat : Int), .int .u8 (m2.toNat : Int), .int .u8 (m3.toNat : Int), .int .u8 10, .int .u8 0, .int .u8 0, .int .u8 ((byteOf host).toNat : Int), .slice Aro 4 cro, .slice Arb (8 + n) crb] rfl)
  go_wp2_with (first | ((with_reducible show wpList _ _ _ (⟨some 85, _, _, _, _, _⟩ :: _) _ _); refine wpList_load_rng 38 (.tmp 19) rfl (by kernel_rfl) _ _ rfl _ R85.out _ Tryz.underlying38 rfl (by kernel_rfl) ?_))
  try clear R85
  with_reducible refine (b_g2 _ rb Hc1.out Hc2.out Hc3.out Hc4.out HN.out HLL.out).mono ?_
  rintro e w36 ⟨Agx, cgx, rfl, gx, fgx, b36⟩
  have av_gx_fB := fgx.av (hlt hfB)
  have av_gx_pB := fgx.av (hlt hpB)
  have av_gx_dB := fgx.av (hlt hdB)
  have av_gx_b67 := fgx.av (hlt hb67)
  have av_gx_qB := fgx.av (hlt hqB)
  have av_gx_rB := fgx.av (hlt hrB)
  have an_gx := hT.an fgx
  replace hfB := blk_u hfB b36
  replace hpB := blk_u hpB b36
  replace hdB := blk_u hdB b36
  replace hb67 := blk_u hb67 b36
  replace hqB := blk_u hqB b36
  replace hrB := blk_u hrB b36
  replace ll := ll.below b36
  replace uo := uo.below b36
  replace ub := ub.below b36
  replace po := po.below b36
  replace pb := pb.below b36
  replace gd := gd.below b36
  replace qo := qo.below b36
  replace qb := qb.below b36
  replace ro := ro.below b36
  replace rb := rb.below b36
  replace hT := hT.below b36
  replace ap_fB := ap_fB.below b36
  replace an_uo := an_uo.below b36
  replace an_ub := an_ub.below b36
  replace an_po := an_po.below b36
  replace an_pb := an_pb.below b36
  replace ap_pB := ap_pB.below b36
  replace an_gd := an_gd.below b36
  replace ap_dB := ap_dB.below b36
  replace ap_b67 := ap_b67.below b36
  replace an_qo := an_qo.below b36
  replace an_qb := an_qb.below b36
  replace ap_qB := ap_qB.below b36
  replace an_ro := an_ro.below b36
  replace an_rb := an_rb.below b36
  replace ap_rB := ap_rB.below b36
  replace an_gx := an_gx.below b36
  replace bel := bel.trans (b36.mono bel.size)
  clear b36
  replace gx : Sl w36 (Agx) (n) (cgx) (L) := gx
  go_upto_region 11 with (first | ((with_reducible show wpList _ _ _ (⟨some 21, _, _, _, _, _⟩ :: _) _ _); refine wpList_new_a rfl 54 rfl #[.int .i64 0, .int .i64 0, .slice none 0 0] (by kernel_rfl) ?_; intro g21 w37 ge hh bb; have ap_xB := hT.ap ge; have d_fB_xB := ne_new (hlt hfB) ge; have d_pB_xB := ne_new (hlt hpB) ge; have d_dB_xB := ne_new (hlt hdB) ge; have d_b67_xB := ne_new (hlt hb67) ge; have d_qB_xB := ne_new (hlt hqB) ge; have d_rB_xB := ne_new (hlt hrB) ge; have av_ll_xB := ll.av_new ge; have av_uo_xB := uo.av_new ge; have av_ub_xB := ub.av_new ge; have av_po_xB := po.av_new ge; have av_pb_xB := pb.av_new ge; have av_gd_xB := gd.av_new ge; have av_qo_xB := qo.av_new ge; have av_qb_xB := qb.av_new ge; have av_ro_xB := ro.av_new ge; have av_rb_xB := rb.av_new ge; have av_gx_xB := gx.av_new ge; have oxB := Nat.le_trans bel.size ge; replace hfB := blk_u hfB bb; replace hpB := blk_u hpB bb; replace hdB := blk_u hdB bb; replace hb67 := blk_u hb67 bb; replace hqB := blk_u hqB bb; replace hrB := blk_u hrB bb; replace ll := ll.below bb; replace uo := uo.below bb; replace ub := ub.below bb; replace po := po.below bb; replace pb := pb.below bb; replace gd := gd.below bb; replace qo := qo.below bb; replace qb := qb.below bb; replace ro := ro.below bb; replace rb := rb.below bb; replace gx := gx.below bb; replace hT := hT.below bb; replace ap_fB := ap_fB.below bb; replace an_uo := an_uo.below bb; replace an_ub := an_ub.below bb; replace an_po := an_po.below bb; replace an_pb := an_pb.below bb; replace ap_pB := ap_pB.below bb; replace an_gd := an_gd.below bb; replace ap_dB := ap_dB.below bb; replace ap_b67 := ap_b67.below bb; replace an_qo := an_qo.below bb; replace an_qb := an_qb.below bb; replace ap_qB := ap_qB.below bb; replace an_ro := an_ro.below bb; replace an_rb := an_rb.below bb; replace ap_rB := ap_rB.below bb; replace an_gx := an_gx.below bb; replace ap_xB := ap_xB.below bb; replace bel := bel.trans (bb.mono bel.size); have hxB := hh; clear hh ge bb) | ((with_reducible show wpList _ _ _ (⟨none, Op.store _ (.tmp 21) _, _, _, _, _⟩ :: _) _ _); refine wpList_store_blk rfl 54 (.tmp 21) (.tmp 87) rfl g21 rfl _ rfl _ 54 hxB (by rfl) (by kernel_rfl) (by kernel_rfl) ?_; intro w38 hq gr; replace ll := ll.away av_ll_xB gr; replace uo := uo.away av_uo_xB gr; replace ub := ub.away av_ub_xB gr; replace po := po.away av_po_xB gr; replace pb := pb.away av_pb_xB gr; replace gd := gd.away av_gd_xB gr; replace qo := qo.away av_qo_xB gr; replace qb := qb.away av_qb_xB gr; replace ro := ro.away av_ro_xB gr; replace rb := rb.away av_rb_xB gr; replace gx := gx.away av_gx_xB gr; replace hfB := blk_a hfB gr d_fB_xB; replace hpB := blk_a hpB gr d_pB_xB; replace hdB := blk_a hdB gr d_dB_xB; replace hb67 := blk_a hb67 gr d_b67_xB; replace hqB := blk_a hqB gr d_qB_xB; replace hrB := blk_a hrB gr d_rB_xB; replace hT := hT.away ap_xB gr hxB; replace ap_fB := ap_fB.grown ap_xB gr; replace an_uo := an_uo.grown ap_xB gr; replace an_ub := an_ub.grown ap_xB gr; replace an_po := an_po.grown ap_xB gr; replace an_pb := an_pb.grown ap_xB gr; replace ap_pB := ap_pB.grown ap_xB gr; replace an_gd := an_gd.grown ap_xB gr; replace ap_dB := ap_dB.grown ap_xB gr; replace ap_b67 := ap_b67.grown ap_xB gr; replace an_qo := an_qo.grown ap_xB gr; replace an_qb := an_qb.grown ap_xB gr; replace ap_qB := ap_qB.grown ap_xB gr; replace an_ro := an_ro.grown ap_xB gr; replace an_rb := an_rb.grown ap_xB gr; replace ap_rB := ap_rB.grown ap_xB gr; replace an_gx := an_gx.grown ap_xB gr; replace ap_xB := ap_xB.grown ap_xB gr; replace bel := below_grown bel gr oxB bel.size; clear hxB; have hxB := hq; clear hq gr))
  simp only [List.append_eq, List.cons_append, List.nil_append]
  go_wp2_with fail
  replace bel := bel.drew
  replace hfB : w38.drew.heap[g7]? = _ := hfB
  replace hpB : w38.drew.heap[g13]? = _ := hpB
  replace hdB : w38.drew.heap[g15]? = _ := hdB
  replace hb67 : w38.drew.heap[g67]? = _ := hb67
  replace hqB : w38.drew.heap[g17]? = _ := hqB
  replace hrB : w38.drew.heap[g19]? = _ := hrB
  replace hxB : w38.drew.heap[g21]? = _ := hxB
  replace ll := ll.drew
  replace uo := uo.drew
  replace ub := ub.drew
  replace po := po.drew
  replace pb := pb.drew
  replace gd := gd.drew
  replace qo := qo.drew
  replace qb := qb.drew
  replace ro := ro.drew
  replace rb := rb.drew
  replace gx := gx.drew
  replace hT := np_drew hT
  replace ap_fB := anp_drew ap_fB
  replace an_uo := an_drew an_uo
  replace an_ub := an_drew an_ub
  replace an_po := an_drew an_po
  replace an_pb := an_drew an_pb
  replace ap_pB := anp_drew ap_pB
  replace an_gd := an_drew an_gd
  replace ap_dB := anp_drew ap_dB
  replace ap_b67 := anp_drew ap_b67
  replace an_qo := an_drew an_qo
  replace an_qb := an_drew an_qb
  replace ap_qB := anp_drew ap_qB
  replace an_ro := an_drew an_ro
  replace an_rb := an_drew an_rb
  replace ap_rB := anp_drew ap_rB
  replace an_gx := an_drew an_gx
  replace ap_xB := anp_drew ap_xB
  refine wp_region_held_drew (S := fun W => W.heap[g19]? = some (.cells #[.int .i64 3, .int .i64 9, .int .i64 2, .int .i64 0, .int .i64 55, .int .i64 17, .int .u8 (m0.toNat : Int), .int .u8 (m1.toNat : Int), .int .u8 (m2.toNat : Int), .int .u8 (m3.toNat : Int), .int .u8 10, .int .u8 0, .int .u8 0, .int .u8 ((byteOf host).toNat : Int), .slice Aro 4 cro, .slice Arb (8 + n) crb] 38 (0, 0)) ∧ W.heap[g21]? = some (.cells #[.int .i64 fp, .int .i64 port, .slice Agx n cgx] 54 (0, 0)) ∧ W.heap[g7]? = some (.cells #[.int .u8 (m0.toNat : Int), .int .u8 (m1.toNat : Int), .int .u8 (m2.toNat : Int), .int .u8 (m3.toNat : Int)] 35 (0, 0)) ∧ W.heap[g17]? = some (.cells #[.int .i64 3, .int .i64 9, .int .i64 2, .int .i64 0, .int .i64 55, .int .i64 17, .int .u8 (m0.toNat : Int), .int .u8 (m1.toNat : Int), .int .u8 (m2.toNat : Int), .int .u8 (m3.toNat : Int), .int .u8 203, .int .u8 0, .int .u8 113, .int .u8 7, .slice Aqo 4 cqo, .slice Aqb (8 + n) cqb] 38 (0, 0)) ∧ Sl W (Agx) (n) (cgx) (L) ∧ Sl W (A) (n) (cp) (L) ∧ Sl W (Aro) (4) (cro) ([1, 1, 1, 0]) ∧ Sl W (Aqo) (4) (cqo) ([1, 1, 1, 0])) (by kernel_rfl) ⟨hrB, hxB, hfB, hqB, gx, ll, ro, qo⟩ (fun hH => ?_)
  generalize w38.drew = w39 at bel hfB hpB hdB hb67 hqB hrB hxB ll uo ub po pb gd qo qb ro rb gx hT ap_fB an_uo an_ub an_po an_pb ap_pB an_gd ap_dB ap_b67 an_qo an_qb ap_qB an_ro an_rb ap_rB an_gx ap_xB hH ⊢
  refine wpAnyH_take (i := 0) (v := ?_) rfl (by kernel_rfl) (by kernel_rfl) (by kernel_rfl) (fun _ _ _ h => h) (Or.inl ⟨by rfl, ?_⟩) hH ?_
  rotate_left
  · ((intro W hW; clear hW; go_simp) <;> with_reducible rfl)
  simp only [Act.put, List.getElem_toArray, List.getElem_cons_zero, List.setIfInBounds_toArray, List.set_cons_zero, List.set_cons_succ]
  refine wpAnyH_take (i := 1) (v := ?_) rfl (by kernel_rfl) (by kernel_rfl) (by kernel_rfl) (fun _ _ _ h => h) (Or.inl ⟨by rfl, ?_⟩) hH ?_
  rotate_left
  · ((intro W hW; clear hW; go_simp) <;> with_reducible rfl)
  simp only [sq3, sq4]
  refine wpAnyH_take (i := 2) (v := ?_) rfl (by kernel_rfl) (by kernel_rfl) (by kernel_rfl) (fun _ _ _ h => h) (Or.inl ⟨by rfl, ?_⟩) hH ?_
  rotate_left
  · ((intro W hW; clear hW; go_simp) <;> with_reducible rfl)
  simp only [sq3, sq4]
  refine wpAnyH_take (i := 3) (v := ?_) rfl (by kernel_rfl) (by kernel_rfl) (by kernel_rfl) (fun _ _ _ h => h) (Or.inl ⟨by rfl, ?_⟩) hH ?_
  rotate_left
  · ((intro W hW; clear hW; go_simp) <;> with_reducible rfl)
  simp only [sq3, sq4]
  refine wpAnyH_take (i := 4) (v := ?_) rfl (by kernel_rfl) (by kernel_rfl) (by kernel_rfl) (fun _ _ _ h => h) (Or.inl ⟨by rfl, ?_⟩) hH ?_
  rotate_left
  · ((intro W hW; clear hW; go_simp) <;> with_reducible rfl)
  simp only [sq3, sq4]
  refine wpAnyH_take (i := 5) (v := ?_) rfl (by kernel_rfl) (by kernel_rfl) (by kernel_rfl) (fun _ _ _ h => h) (Or.inl ⟨by rfl, ?_⟩) hH ?_
  rotate_left
  · ((intro W hW; clear hW; go_simp) <;> with_reducible rfl)
  simp only [sq3, sq4]
  refine wpAnyH_take (i := 6) (v := ?_) rfl (by kernel_rfl) (by kernel_rfl) (by kernel_rfl) (fun _ _ _ h => h) (Or.inl ⟨by rfl, ?_⟩) hH ?_
  rotate_left
  · ((intro W hW; clear hW; go_simp) <;> with_reducible rfl)
  simp only [sq3, sq4]
  refine wpAnyH_take (i := 7) (v := ?_) rfl (by kernel_rfl) (by kernel_rfl) (by kernel_rfl) (fun _ _ _ h => h) (Or.inl ⟨by rfl, ?_⟩) hH ?_
  rotate_left
  · ((intro W hW; clear hW; go_simp) <;> with_reducible rfl)
  simp only [sq3, sq4]
  refine wpAnyH_take (i := 8) (v := ?_) rfl (by kernel_rfl) (by kernel_rfl) (by kernel_rfl) (fun _ _ _ h => h) (Or.inl ⟨by rfl, ?_⟩) hH ?_
  rotate_left
  · ((intro W hW; clear hW; go_simp) <;> with_reducible rfl)
  simp only [sq3, sq4]
  refine wpAnyH_take (i := 9) (v := ?_) rfl (by kernel_rfl) (by kernel_rfl) (by kernel_rfl) (fun _ _ _ h => h) (Or.inl ⟨by rfl, ?_⟩) hH ?_
  rotate_left
  · ((intro W hW; clear hW; go_simp) <;> with_reducible rfl)
  simp only [sq3, sq4]
  refine wpAnyH_take (i := 10) (v := ?_) rfl (by kernel_rfl) (by kernel_rfl) (by kernel_rfl) (fun _ _ _ h => h) (Or.inl ⟨by rfl, ?_⟩) hH ?_
  rotate_left
  · ((intro W hW; clear hW; go_simp) <;> with_reducible rfl)
  simp only [sq3, sq4]
  refine wpAnyH_take (i := 11) (v := ?_) rfl (by kernel_rfl) (by kernel_rfl) (by kernel_rfl) (fun _ _ _ h => h) (Or.inl ⟨by rfl, ?_⟩) hH ?_
  rotate_left
  · ((intro W hW; clear hW; go_simp) <;> with_reducible rfl)
  simp only [sq3, sq4]
  refine wpAnyH_take (i := 12) (v := ?_) rfl (by kernel_rfl) (by kernel_rfl) (by kernel_rfl) (fun _ _ _ h => h) (Or.inl ⟨by rfl, ?_⟩) hH ?_
  rotate_left
  · ((intro W hW; clear hW; go_simp) <;> with_reducible rfl)
  simp only [sq3, sq4]
  refine wpAnyH_take (i := 13) (v := ?_) rfl (by kernel_rfl) (by kernel_rfl) (by kernel_rfl) (fun _ _ _ h => h) (Or.inl ⟨by rfl, ?_⟩) hH ?_
  rotate_left
  · ((intro W hW; clear hW; go_simp) <;> with_reducible rfl)
  simp only [sq3, sq4]
  refine wpAnyH_take (i := 14) (v := ?_) rfl (by kernel_rfl) (by kernel_rfl) (by kernel_rfl) (fun _ _ _ h => h) (Or.inl ⟨by rfl, ?_⟩) hH ?_
  rotate_left
  · ((intro W hW; clear hW; go_simp) <;> with_reducible rfl)
  simp only [sq3, sq4]
  refine wpAnyH_take (i := 15) (v := ?_) rfl (by kernel_rfl) (by kernel_rfl) (by kernel_rfl) (fun _ _ _ h => h) (Or.inl ⟨by rfl, ?_⟩) hH ?_
  rotate_left
  · ((intro W hW; clear hW; go_simp) <;> with_reducible rfl)
  simp only [sq3, sq4]
  refine wpAnyH_take (i := 16) (v := ?_) rfl (by kernel_rfl) (by kernel_rfl) (by kernel_rfl) (fun _ _ _ h => h) (Or.inl ⟨by rfl, ?_⟩) hH ?_
  rotate_left
  · ((intro W hW; clear hW; go_simp) <;> with_reducible rfl)
  simp only [sq3, sq4]
  refine wpAnyH_take (i := 17) (v := ?_) rfl (by kernel_rfl) (by kernel_rfl) (by kernel_rfl) (fun _ _ _ h => h) (Or.inl ⟨by rfl, ?_⟩) hH ?_
  rotate_left
  · ((intro W hW; clear hW; go_simp) <;> with_reducible rfl)
  simp only [sq3, sq4]
  refine wpAnyH_take (i := 18) (v := ?_) rfl (by kernel_rfl) (by kernel_rfl) (by kernel_rfl) (fun _ _ _ h => h) (Or.inl ⟨by rfl, ?_⟩) hH ?_
  rotate_left
  · ((intro W hW; clear hW; go_simp) <;> with_reducible rfl)
  simp only [sq3, sq4]
  refine wpAnyH_take (i := 19) (v := ?_) rfl (by kernel_rfl) (by kernel_rfl) (by kernel_rfl) (fun _ _ _ h => h) (Or.inl ⟨by rfl, ?_⟩) hH ?_
  rotate_left
  · ((intro W hW; clear hW; go_simp) <;> with_reducible rfl)
  simp only [sq3, sq4]
  refine wpAnyH_take (i := 20) (v := .agg #[.int .u8 10, .int .u8 0, .int .u8 0, .int .u8 ((byteOf host).toNat : Int)]) rfl (by kernel_rfl) (by kernel_rfl) (by kernel_rfl) (fun _ _ _ h => h) (yieldsIf_load_part (by kernel_rfl) 35 _ rfl g19 10 4 rfl _ 38 (0, 0) (fun W hW => hW.1) _ rfl _ Tryz.underlying35 rfl (by kernel_rfl)) hH ?_
  simp only [sq3, sq4]
  refine wpAnyH_take (i := 21) (v := ?_) rfl (by kernel_rfl) (by kernel_rfl) (by kernel_rfl) (fun _ _ _ h => h) (Or.inl ⟨by rfl, ?_⟩) hH ?_
  rotate_left
  · ((intro W hW; clear hW; go_simp) <;> with_reducible rfl)
  simp only [sq3, sq4]
  refine wpAnyH_ready (rs := [22]) (by kernel_rfl) (by simp) ?_
  refine AllReadyH.cons (o := _) rfl (fun K hK => ?_) AllReadyH.nil
  simp only [sq3]
  go_simp
  with_reducible refine (at19 host _).mono ?_
  rintro e w40 ⟨rfl, b40⟩
  dsimp only
  replace hfB := blk_u hfB b40
  replace hpB := blk_u hpB b40
  replace hdB := blk_u hdB b40
  replace hb67 := blk_u hb67 b40
  replace hqB := blk_u hqB b40
  replace hrB := blk_u hrB b40
  replace hxB := blk_u hxB b40
  replace ll := ll.below b40
  replace uo := uo.below b40
  replace ub := ub.below b40
  replace po := po.below b40
  replace pb := pb.below b40
  replace gd := gd.below b40
  replace qo := qo.below b40
  replace qb := qb.below b40
  replace ro := ro.below b40
  replace rb := rb.below b40
  replace gx := gx.below b40
  replace hT := hT.below b40
  replace ap_fB := ap_fB.below b40
  replace an_uo := an_uo.below b40
  replace an_ub := an_ub.below b40
  replace an_po := an_po.below b40
  replace an_pb := an_pb.below b40
  replace ap_pB := ap_pB.below b40
  replace an_gd := an_gd.below b40
  replace ap_dB := ap_dB.below b40
  replace ap_b67 := ap_b67.below b40
  replace an_qo := an_qo.below b40
  replace an_qb := an_qb.below b40
  replace ap_qB := ap_qB.below b40
  replace an_ro := an_ro.below b40
  replace an_rb := an_rb.below b40
  replace ap_rB := ap_rB.below b40
  replace an_gx := an_gx.below b40
  replace ap_xB := ap_xB.below b40
  replace bel := bel.trans (b40.mono bel.size)
  clear b40
  refine hK.out _ _ ⟨hrB, hxB, hfB, hqB, gx, ll, ro, qo⟩ (fun hH41 => ?_)
  clear hK K
  refine wpAnyH_take (i := 23) (v := ?_) rfl (by kernel_rfl) (by kernel_rfl) (by kernel_rfl) (fun _ _ _ h => h) (Or.inl ⟨by rfl, ?_⟩) hH41 ?_
  rotate_left
  · ((intro W hW; clear hW; go_simp) <;> with_reducible rfl)
  simp only [sq3, sq4]
  refine wpAnyH_take (i := 24) (v := ?_) rfl (by kernel_rfl) (by kernel_rfl) (by kernel_rfl) (fun _ _ _ h => h) (Or.inl ⟨by rfl, ?_⟩) hH41 ?_
  rotate_left
  · ((intro W hW; clear hW; go_simp) <;> with_reducible rfl)
  simp only [sq3, sq4]
  refine wpAnyH_take (i := 25) (v := ?_) rfl (by kernel_rfl) (by kernel_rfl) (by kernel_rfl) (fun _ _ _ h => h) (Or.inl ⟨by rfl, ?_⟩) hH41 ?_
  rotate_left
  · ((intro W hW; clear hW; go_simp) <;> with_reducible rfl)
  simp only [sq3, sq4]
  refine wpAnyH_take (i := 26) (v := ?_) rfl (by kernel_rfl) (by kernel_rfl) (by kernel_rfl) (fun _ _ _ h => h) (Or.inl ⟨by rfl, ?_⟩) hH41 ?_
  rotate_left
  · ((intro W hW; clear hW; go_simp) <;> with_reducible rfl)
  simp only [sq3, sq4]
  refine wpAnyH_take (i := 27) (v := ?_) rfl (by kernel_rfl) (by kernel_rfl) (by kernel_rfl) (fun _ _ _ h => h) (Or.inl ⟨by rfl, ?_⟩) hH41 ?_
  rotate_left
  · ((intro W hW; have hk := cell_lit (hW.2.1) 1 _ rfl; clear hW; go_simp) <;> with_reducible rfl)
  simp only [sq3, sq4]
  refine wpAnyH_take (i := 28) (v := ?_) rfl (by kernel_rfl) (by kernel_rfl) (by kernel_rfl) (fun _ _ _ h => h) (Or.inl ⟨by rfl, ?_⟩) hH41 ?_
  rotate_left
  · ((intro W hW; clear hW; go_simp) <;> with_reducible rfl)
  simp only [sq3, sq4]
  refine wpAnyH_take (i := 29) (v := ?_) rfl (by kernel_rfl) (by kernel_rfl) (by kernel_rfl) (fun _ _ _ h => h) (Or.inl ⟨by rfl, ?_⟩) hH41 ?_
  rotate_left
  · ((intro W hW; clear hW; go_simp) <;> with_reducible rfl)
  simp only [sq3, sq4]
  refine wpAnyH_take (i := 30) (v := ?_) rfl (by kernel_rfl) (by kernel_rfl) (by kernel_rfl) (fun _ _ _ h => h) (Or.inl ⟨by rfl, ?_⟩) hH41 ?_
  rotate_left
  · ((intro W hW; clear hW; go_simp) <;> with_reducible rfl)
  simp only [sq3, sq4]
  refine wpAnyH_take (i := 31) (v := ?_) rfl (by kernel_rfl) (by kernel_rfl) (by kernel_rfl) (fun _ _ _ h => h) (Or.inl ⟨by rfl, ?_⟩) hH41 ?_
  rotate_left
  · ((intro W hW; clear hW; go_simp) <;> with_reducible rfl)
  simp only [sq3, sq4]
  refine wpAnyH_take (i := 32) (v := ?_) rfl (by kernel_rfl) (by kernel_rfl) (by kernel_rfl) (fun _ _ _ h => h) (Or.inl ⟨by rfl, ?_⟩) hH41 ?_
  rotate_left
  · ((intro W hW; clear hW; go_simp) <;> with_reducible rfl)
  simp only [sq3, sq4]
  refine wpAnyH_take (i := 33) (v := .agg #[.int .u8 (m0.toNat : Int), .int .u8 (m1.toNat : Int), .int .u8 (m2.toNat : Int), .int .u8 (m3.toNat : Int)]) rfl (by kernel_rfl) (by kernel_rfl) (by kernel_rfl) (fun _ _ _ h => h) (yieldsIf_load_part (by kernel_rfl) 35 _ rfl g19 6 4 rfl _ 38 (0, 0) (fun W hW => hW.1) _ rfl _ Tryz.underlying35 rfl (by kernel_rfl)) hH41 ?_
  simp only [sq3, sq4]
  refine wpAnyH_take (i := 34) (v := .agg #[.int .u8 (m0.toNat : Int), .int .u8 (m1.toNat : Int), .int .u8 (m2.toNat : Int), .int .u8 (m3.toNat : Int)]) rfl (by kernel_rfl) (by kernel_rfl) (by kernel_rfl) (fun _ _ _ h => h) (yieldsIf_load_part (by kernel_rfl) 35 _ rfl g7 0 4 rfl _ 35 (0, 0) (fun W hW => hW.2.2.1) _ rfl _ Tryz.underlying35 rfl (by kernel_rfl)) hH41 ?_
  simp only [sq3, sq4]
  refine wpAnyH_take (i := 35) (v := ?_) rfl (by kernel_rfl) (by kernel_rfl) (by kernel_rfl) (fun _ _ _ h => h) (Or.inl ⟨by rfl, ?_⟩) hH41 ?_
  rotate_left
  · ((intro W hW; clear hW; go_simp) <;> with_reducible rfl)
  simp only [sq3, sq4]
  refine wpAnyH_take (i := 36) (v := ?_) rfl (by kernel_rfl) (by kernel_rfl) (by kernel_rfl) (fun _ _ _ h => h) (Or.inl ⟨by rfl, ?_⟩) hH41 ?_
  rotate_left
  · ((intro W hW; clear hW; go_simp) <;> with_reducible rfl)
  simp only [sq3, sq4]
  refine wpAnyH_take (i := 37) (v := ?_) rfl (by kernel_rfl) (by kernel_rfl) (by kernel_rfl) (fun _ _ _ h => h) (Or.inl ⟨by rfl, ?_⟩) hH41 ?_
  rotate_left
  · ((intro W hW; clear hW; go_simp) <;> with_reducible rfl)
  simp only [sq3, sq4]
  refine wpAnyH_take (i := 38) (v := ?_) rfl (by kernel_rfl) (by kernel_rfl) (by kernel_rfl) (fun _ _ _ h => h) (Or.inl ⟨by rfl, ?_⟩) hH41 ?_
  rotate_left
  · ((intro W hW; clear hW; go_simp) <;> with_reducible rfl)
  simp only [sq3, sq4]
  refine wpAnyH_take (i := 39) (v := ?_) rfl (by kernel_rfl) (by kernel_rfl) (by kernel_rfl) (fun _ _ _ h => h) (Or.inl ⟨by rfl, ?_⟩) hH41 ?_
  rotate_left
  · ((intro W hW; have hk := cell_lit (hW.2.1) 0 _ rfl; clear hW; go_simp) <;> with_reducible rfl)
  simp only [sq3, sq4]
  refine wpAnyH_take (i := 40) (v := ?_) rfl (by kernel_rfl) (by kernel_rfl) (by kernel_rfl) (fun _ _ _ h => h) (Or.inl ⟨by rfl, ?_⟩) hH41 ?_
  rotate_left
  · ((intro W hW; clear hW; go_simp) <;> with_reducible rfl)
  simp only [sq3, sq4]
  refine wpAnyH_take (i := 41) (v := ?_) rfl (by kernel_rfl) (by kernel_rfl) (by kernel_rfl) (fun _ _ _ h => h) (Or.inl ⟨by rfl, ?_⟩) hH41 ?_
  rotate_left
  · ((intro W hW; clear hW; go_simp) <;> with_reducible rfl)
  simp only [sq3, sq4]
  refine wpAnyH_take (i := 42) (v := ?_) rfl (by kernel_rfl) (by kernel_rfl) (by kernel_rfl) (fun _ _ _ h => h) (Or.inl ⟨by rfl, ?_⟩) hH41 ?_
  rotate_left
  · ((intro W hW; clear hW; go_simp) <;> with_reducible rfl)
  simp only [sq3, sq4]
  refine wpAnyH_take (i := 43) (v := ?_) rfl (by kernel_rfl) (by kernel_rfl) (by kernel_rfl) (fun _ _ _ h => h) (Or.inl ⟨by rfl, ?_⟩) hH41 ?_
  rotate_left
  · ((intro W hW; clear hW; go_simp) <;> with_reducible rfl)
  simp only [sq3, sq4]
  refine wpAnyH_take (i := 44) (v := ?_) rfl (by kernel_rfl) (by kernel_rfl) (by kernel_rfl) (fun _ _ _ h => h) (Or.inl ⟨by rfl, ?_⟩) hH41 ?_
  rotate_left
  · ((intro W hW; clear hW; go_simp) <;> with_reducible rfl)
  simp only [sq3, sq4]
  refine wpAnyH_take (i := 45) (v := ?_) rfl (by kernel_rfl) (by kernel_rfl) (by kernel_rfl) (fun _ _ _ h => h) (Or.inl ⟨by rfl, ?_⟩) hH41 ?_
  rotate_left
  · ((intro W hW; have hk := cell_lit (hW.2.1) 2 _ rfl; clear hW; go_simp) <;> with_reducible rfl)
  simp only [sq3, sq4]
  refine wpAnyH_take (i := 46) (v := ?_) rfl (by kernel_rfl) (by kernel_rfl) (by kernel_rfl) (fun _ _ _ h => h) (Or.inl ⟨by rfl, ?_⟩) hH41 ?_
  rotate_left
  · ((intro W hW; have st0 := (hW.2.2.2.2.1).str (P := Tryz.prog) 36 5 9 Tryz.underlying36 Tryz.underlying5 Tryz.underlying9; clear hW; go_simp) <;> with_reducible rfl)
  simp only [sq3, sq4]
  refine wpAnyH_take (i := 47) (v := ?_) rfl (by kernel_rfl) (by kernel_rfl) (by kernel_rfl) (fun _ _ _ h => h) (Or.inl ⟨by rfl, ?_⟩) hH41 ?_
  rotate_left
  · ((intro W hW; clear hW; go_simp) <;> with_reducible rfl)
  simp only [sq3, sq4]
  refine wpAnyH_take (i := 48) (v := ?_) rfl (by kernel_rfl) (by kernel_rfl) (by kernel_rfl) (fun _ _ _ h => h) (Or.inl ⟨by rfl, ?_⟩) hH41 ?_
  rotate_left
  · ((intro W hW; have st0 := (hW.2.2.2.2.2.1).str (P := Tryz.prog) 36 5 9 Tryz.underlying36 Tryz.underlying5 Tryz.underlying9; clear hW; go_simp) <;> with_reducible rfl)
  simp only [sq3, sq4]
  refine wpAnyH_take (i := 49) (v := ?_) rfl (by kernel_rfl) (by kernel_rfl) (by kernel_rfl) (fun _ _ _ h => h) (Or.inl ⟨by rfl, ?_⟩) hH41 ?_
  rotate_left
  · ((intro W hW; clear hW; go_simp) <;> with_reducible rfl)
  simp only [sq3, sq4]
  refine wpAnyH_take (i := 50) (v := ?_) rfl (by kernel_rfl) (by kernel_rfl) (by kernel_rfl) (fun _ _ _ h => h) (Or.inl ⟨by rfl, ?_⟩) hH41 ?_
  rotate_left
  · ((intro W hW; clear hW; go_simp) <;> with_reducible rfl)
  simp only [sq3, sq4]
  refine wpAnyH_take (i := 51) (v := ?_) rfl (by kernel_rfl) (by kernel_rfl) (by kernel_rfl) (fun _ _ _ h => h) (Or.inl ⟨by rfl, ?_⟩) hH41 ?_
  rotate_left
  · ((intro W hW; clear hW; go_simp) <;> with_reducible rfl)
  simp only [sq3, sq4]
  refine wpAnyH_take (i := 52) (v := ?_) rfl (by kernel_rfl) (by kernel_rfl) (by kernel_rfl) (fun _ _ _ h => h) (Or.inl ⟨by rfl, ?_⟩) hH41 ?_
  rotate_left
  · ((intro W hW; clear hW; go_simp) <;> with_reducible rfl)
  simp only [sq3, sq4]
  refine wpAnyH_take (i := 53) (v := ?_) rfl (by kernel_rfl) (by kernel_rfl) (by kernel_rfl) (fun _ _ _ h => h) (Or.inl ⟨by rfl, ?_⟩) hH41 ?_
  rotate_left
  · ((intro W hW; have hk := cell_lit (hW.1) 0 _ rfl; clear hW; go_simp) <;> with_reducible rfl)
  simp only [sq3, sq4]
  refine wpAnyH_take (i := 54) (v := ?_) rfl (by kernel_rfl) (by kernel_rfl) (by kernel_rfl) (fun _ _ _ h => h) (Or.inl ⟨by rfl, ?_⟩) hH41 ?_
  rotate_left
  · ((intro W hW; clear hW; go_simp) <;> with_reducible rfl)
  simp only [sq3, sq4]
  refine wpAnyH_take (i := 55) (v := ?_) rfl (by kernel_rfl) (by kernel_rfl) (by kernel_rfl) (fun _ _ _ h => h) (Or.inl ⟨by rfl, ?_⟩) hH41 ?_
  rotate_left
  · ((intro W hW; clear hW; go_simp) <;> with_reducible rfl)
  simp only [sq3, sq4]
  refine wpAnyH_take (i := 56) (v := ?_) rfl (by kernel_rfl) (by kernel_rfl) (by kernel_rfl) (fun _ _ _ h => h) (Or.inl ⟨by rfl, ?_⟩) hH41 ?_
  rotate_left
  · ((intro W hW; clear hW; go_simp) <;> with_reducible rfl)
  simp only [sq3, sq4]
  refine wpAnyH_take (i := 57) (v := ?_) rfl (by kernel_rfl) (by kernel_rfl) (by kernel_rfl) (fun _ _ _ h => h) (Or.inl ⟨by rfl, ?_⟩) hH41 ?_
  rotate_left
  · ((intro W hW; clear hW; go_simp) <;> with_reducible rfl)
  simp only [sq3, sq4]
  refine wpAnyH_take (i := 58) (v := ?_) rfl (by kernel_rfl) (by kernel_rfl) (by kernel_rfl) (fun _ _ _ h => h) (Or.inl ⟨by rfl, ?_⟩) hH41 ?_
  rotate_left
  · ((intro W hW; have hk := cell_lit (hW.1) 1 _ rfl; clear hW; go_simp) <;> with_reducible rfl)
  simp only [sq3, sq4]
  refine wpAnyH_take (i := 59) (v := ?_) rfl (by kernel_rfl) (by kernel_rfl) (by kernel_rfl) (fun _ _ _ h => h) (Or.inl ⟨by rfl, ?_⟩) hH41 ?_
  rotate_left
  · ((intro W hW; clear hW; go_simp) <;> with_reducible rfl)
  simp only [sq3, sq4]
  refine wpAnyH_take (i := 60) (v := ?_) rfl (by kernel_rfl) (by kernel_rfl) (by kernel_rfl) (fun _ _ _ h => h) (Or.inl ⟨by rfl, ?_⟩) hH41 ?_
  rotate_left
  · ((intro W hW; clear hW; go_simp) <;> with_reducible rfl)
  simp only [sq3, sq4]
  refine wpAnyH_take (i := 61) (v := ?_) rfl (by kernel_rfl) (by kernel_rfl) (by kernel_rfl) (fun _ _ _ h => h) (Or.inl ⟨by rfl, ?_⟩) hH41 ?_
  rotate_left
  · ((intro W hW; clear hW; go_simp) <;> with_reducible rfl)
  simp only [sq3, sq4]
  refine wpAnyH_take (i := 62) (v := ?_) rfl (by kernel_rfl) (by kernel_rfl) (by kernel_rfl) (fun _ _ _ h => h) (Or.inl ⟨by rfl, ?_⟩) hH41 ?_
  rotate_left
  · ((intro W hW; clear hW; go_simp) <;> with_reducible rfl)
  simp only [sq3, sq4]
  refine wpAnyH_take (i := 63) (v := ?_) rfl (by kernel_rfl) (by kernel_rfl) (by kernel_rfl) (fun _ _ _ h => h) (Or.inl ⟨by rfl, ?_⟩) hH41 ?_
  rotate_left
  · ((intro W hW; have hk := cell_lit (hW.1) 2 _ rfl; clear hW; go_simp) <;> with_reducible rfl)
  simp only [sq3, sq4]
  refine wpAnyH_take (i := 64) (v := ?_) rfl (by kernel_rfl) (by kernel_rfl) (by kernel_rfl) (fun _ _ _ h => h) (Or.inl ⟨by rfl, ?_⟩) hH41 ?_
  rotate_left
  · ((intro W hW; clear hW; go_simp) <;> with_reducible rfl)
  simp only [sq3, sq4]
  refine wpAnyH_take (i := 65) (v := ?_) rfl (by kernel_rfl) (by kernel_rfl) (by kernel_rfl) (fun _ _ _ h => h) (Or.inl ⟨by rfl, ?_⟩) hH41 ?_
  rotate_left
  · ((intro W hW; clear hW; go_simp) <;> with_reducible rfl)
  simp only [sq3, sq4]
  refine wpAnyH_take (i := 66) (v := ?_) rfl (by kernel_rfl) (by kernel_rfl) (by kernel_rfl) (fun _ _ _ h => h) (Or.inl ⟨by rfl, ?_⟩) hH41 ?_
  rotate_left
  · ((intro W hW; clear hW; go_simp) <;> with_reducible rfl)
  simp only [sq3, sq4]
  refine wpAnyH_take (i := 67) (v := ?_) rfl (by kernel_rfl) (by kernel_rfl) (by kernel_rfl) (fun _ _ _ h => h) (Or.inl ⟨by rfl, ?_⟩) hH41 ?_
  rotate_left
  · ((intro W hW; clear hW; go_simp) <;> with_reducible rfl)
  simp only [sq3, sq4]
  refine wpAnyH_take (i := 68) (v := ?_) rfl (by kernel_rfl) (by kernel_rfl) (by kernel_rfl) (fun _ _ _ h => h) (Or.inl ⟨by rfl, ?_⟩) hH41 ?_
  rotate_left
  · ((intro W hW; have hk := cell_lit (hW.1) 4 _ rfl; clear hW; go_simp) <;> with_reducible rfl)
  simp only [sq3, sq4]
  refine wpAnyH_take (i := 69) (v := ?_) rfl (by kernel_rfl) (by kernel_rfl) (by kernel_rfl) (fun _ _ _ h => h) (Or.inl ⟨by rfl, ?_⟩) hH41 ?_
  rotate_left
  · ((intro W hW; clear hW; go_simp) <;> with_reducible rfl)
  simp only [sq3, sq4]
  refine wpAnyH_take (i := 70) (v := ?_) rfl (by kernel_rfl) (by kernel_rfl) (by kernel_rfl) (fun _ _ _ h => h) (Or.inl ⟨by rfl, ?_⟩) hH41 ?_
  rotate_left
  · ((intro W hW; clear hW; go_simp) <;> with_reducible rfl)
  simp only [sq3, sq4]
  refine wpAnyH_take (i := 71) (v := ?_) rfl (by kernel_rfl) (by kernel_rfl) (by kernel_rfl) (fun _ _ _ h => h) (Or.inl ⟨by rfl, ?_⟩) hH41 ?_
  rotate_left
  · ((intro W hW; clear hW; go_simp) <;> with_reducible rfl)
  simp only [sq3, sq4]
  refine wpAnyH_take (i := 72) (v := ?_) rfl (by kernel_rfl) (by kernel_rfl) (by kernel_rfl) (fun _ _ _ h => h) (Or.inl ⟨by rfl, ?_⟩) hH41 ?_
  rotate_left
  · ((intro W hW; clear hW; go_simp) <;> with_reducible rfl)
  simp only [sq3, sq4]
  refine wpAnyH_take (i := 73) (v := ?_) rfl (by kernel_rfl) (by kernel_rfl) (by kernel_rfl) (fun _ _ _ h => h) (Or.inl ⟨by rfl, ?_⟩) hH41 ?_
  rotate_left
  · ((intro W hW; have hk := cell_lit (hW.1) 14 _ rfl; clear hW; go_simp) <;> with_reducible rfl)
  simp only [sq3, sq4]
  refine wpAnyH_take (i := 74) (v := ?_) rfl (by kernel_rfl) (by kernel_rfl) (by kernel_rfl) (fun _ _ _ h => h) (Or.inl ⟨by rfl, ?_⟩) hH41 ?_
  rotate_left
  · ((intro W hW; have st0 := (hW.2.2.2.2.2.2.1).str (P := Tryz.prog) 36 5 9 Tryz.underlying36 Tryz.underlying5 Tryz.underlying9; clear hW; go_simp) <;> with_reducible rfl)
  simp only [sq3, sq4]
  refine wpAnyH_take (i := 75) (v := ?_) rfl (by kernel_rfl) (by kernel_rfl) (by kernel_rfl) (fun _ _ _ h => h) (Or.inl ⟨by rfl, ?_⟩) hH41 ?_
  rotate_left
  · ((intro W hW; clear hW; go_simp) <;> with_reducible rfl)
  simp only [sq3, sq4]
  refine wpAnyH_take (i := 76) (v := ?_) rfl (by kernel_rfl) (by kernel_rfl) (by kernel_rfl) (fun _ _ _ h => h) (Or.inl ⟨by rfl, ?_⟩) hH41 ?_
  rotate_left
  · ((intro W hW; have hk := cell_lit (hW.2.2.2.1) 14 _ rfl; clear hW; go_simp) <;> with_reducible rfl)
  simp only [sq3, sq4]
  refine wpAnyH_take (i := 77) (v := ?_) rfl (by kernel_rfl) (by kernel_rfl) (by kernel_rfl) (fun _ _ _ h => h) (Or.inl ⟨by rfl, ?_⟩) hH41 ?_
  rotate_left
  · ((intro W hW; have st0 := (hW.2.2.2.2.2.2.2).str (P := Tryz.prog) 36 5 9 Tryz.underlying36 Tryz.underlying5 Tryz.underlying9; clear hW; go_simp) <;> with_reducible rfl)
  simp only [sq3, sq4]
  refine wpAnyH_take (i := 78) (v := ?_) rfl (by kernel_rfl) (by kernel_rfl) (by kernel_rfl) (fun _ _ _ h => h) (Or.inl ⟨by rfl, ?_⟩) hH41 ?_
  rotate_left
  · ((intro W hW; clear hW; go_simp) <;> with_reducible rfl)
  simp only [sq3, sq4]
  refine wpAnyH_take (i := 79) (v := ?_) rfl (by kernel_rfl) (by kernel_rfl) (by kernel_rfl) (fun _ _ _ h => h) (Or.inl ⟨by rfl, ?_⟩) hH41 ?_
  rotate_left
  · ((intro W hW; clear hW; go_simp) <;> with_reducible rfl)
  simp only [sq3, sq4]
  refine wpAnyH_take (i := 80) (v := ?_) rfl (by kernel_rfl) (by kernel_rfl) (by kernel_rfl) (fun _ _ _ h => h) (Or.inl ⟨by rfl, ?_⟩) hH41 ?_
  rotate_left
  · ((intro W hW; clear hW; go_simp) <;> with_reducible rfl)
  simp only [sq3, sq4]
  refine wpAnyH_done (by kernel_rfl) ?_ _
  go_wp2_with fail
  go_ret
  exact ⟨rfl, bel⟩
end Go.Proofs.YtbdaejodbcjmfaaGreat
