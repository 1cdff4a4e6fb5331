/- Layer 9: IcmpKnown. -/
import Derived.Test.YtfmllopeeiecjaaLaw9d
import Derived.Deep.CutRange
namespace Go.Proofs.Ytfmllopeeiecjaa
open Go.RowKit

abbrev kb9 (ty : Int) : List UInt8 := ipBytes 0 0 0 0 64 1 10 0 0 1 10 0 0 2 [] (icBytes ty 0 0 [])
theorem k9_0 : ipPut 0 0 0 0 64 1 10 0 0 1 10 0 0 2 [] (icBytes 3 0 0 []) = (kb9 3, 0) := by decide +kernel
theorem k9_1 : ipPut 0 0 0 0 64 1 10 0 0 1 10 0 0 2 [] (icBytes 8 0 0 []) = (kb9 8, 0) := by decide +kernel
theorem k9_2 : (icAbout 10 0 0 9 (kb9 3) 11 0).2.2 = 11 := by decide +kernel
theorem k9_3 : icAbout 10 0 0 9 (kb9 8) 11 0 = (([0, 0, 0, 0, 64, 1], [10, 0, 0, 9, 10, 0, 0, 1]), ([], icBytes 11 0 0 (kb9 8)), 0) := by decide +kernel
theorem k9_4 : (icAbout 0 0 0 0 (kb9 8) 256 0).2.2 = 1 := by decide +kernel
theorem k9_5 : (icPut 0 0 0 0 64 10 0 0 1 10 0 0 2 [] 0 (-1) 0 []).2.2 = 1 := by decide +kernel
theorem k9_6 (ty : Int) : (kb9 ty).length = 28 := rfl
theorem kput9 (Ao Ab : Option Addr) (co cb : Nat) (ty : Int) (w : World) (ho : Sl w Ao 0 co []) (hb : Sl w Ab 8 cb (icBytes ty 0 0 [])) (h : ipPut 0 0 0 0 64 1 10 0 0 1 10 0 0 2 [] (icBytes ty 0 0 []) = (kb9 ty, 0)) : Calls Try.prog 13 #[.agg #[.int .i64 0, .int .i64 0, .int .i64 0, .int .i64 0, .int .i64 64, .int .i64 1, .int .u8 10, .int .u8 0, .int .u8 0, .int .u8 1, .int .u8 10, .int .u8 0, .int .u8 0, .int .u8 2, .slice Ao 0 co, .slice Ab 8 cb]] w fun e w' => ∃ v, e = .returned (.tuple #[v, .int .i64 0]) ∧ w'.ownsRow w.heap.size 5 1 v 28 ((kb9 ty).map u8v) ∧ Below w.heap.size w w' :=
  ipput_n 0 0 0 0 64 1 10 0 0 1 10 0 0 2 Ao Ab 0 co 8 cb [] (icBytes ty 0 0 []) (kb9 ty) 28 0 w ho hb (by omega) h rfl
theorem kab9_a (B : Option Addr) (nB cB : Nat) (l : List UInt8) (ty er : Int) (w : World) (hB : Sl w B nB cB l) (hm : nB ≤ 100000) (hr : (icAbout 10 0 0 9 l ty 0).2.2 = er) : Calls Try.prog 14 #[.agg #[.int .u8 10, .int .u8 0, .int .u8 0, .int .u8 9], .slice B nB cB, .int .i64 ty, .int .i64 0] w fun e w' => ∃ (f0 f1 f2 f3 f4 f5 : Int) (g0 g1 g2 g3 g4 g5 g6 g7 : UInt8) (Ao : Option Addr) (no co : Nat) (Ab : Option Addr) (nb cb : Nat), e = .returned (.tuple #[.agg #[.int .i64 f0, .int .i64 f1, .int .i64 f2, .int .i64 f3, .int .i64 f4, .int .i64 f5, .int .u8 (g0.toNat : Int), .int .u8 (g1.toNat : Int), .int .u8 (g2.toNat : Int), .int .u8 (g3.toNat : Int), .int .u8 (g4.toNat : Int), .int .u8 (g5.toNat : Int), .int .u8 (g6.toNat : Int), .int .u8 (g7.toNat : Int), .slice Ao no co, .slice Ab nb cb], .int .i64 er]) ∧ Below w.heap.size w w' :=
  icabout_er 10 0 0 9 B nB cB l ty 0 er w hB hm hr
theorem kab9_z (B : Option Addr) (nB cB : Nat) (l : List UInt8) (ty er : Int) (w : World) (hB : Sl w B nB cB l) (hm : nB ≤ 100000) (hr : (icAbout 0 0 0 0 l ty 0).2.2 = er) : Calls Try.prog 14 #[.agg #[.int .u8 0, .int .u8 0, .int .u8 0, .int .u8 0], .slice B nB cB, .int .i64 ty, .int .i64 0] w fun e w' => ∃ (f0 f1 f2 f3 f4 f5 : Int) (g0 g1 g2 g3 g4 g5 g6 g7 : UInt8) (Ao : Option Addr) (no co : Nat) (Ab : Option Addr) (nb cb : Nat), e = .returned (.tuple #[.agg #[.int .i64 f0, .int .i64 f1, .int .i64 f2, .int .i64 f3, .int .i64 f4, .int .i64 f5, .int .u8 (g0.toNat : Int), .int .u8 (g1.toNat : Int), .int .u8 (g2.toNat : Int), .int .u8 (g3.toNat : Int), .int .u8 (g4.toNat : Int), .int .u8 (g5.toNat : Int), .int .u8 (g6.toNat : Int), .int .u8 (g7.toNat : Int), .slice Ao no co, .slice Ab nb cb], .int .i64 er]) ∧ Below w.heap.size w w' :=
  icabout_er 0 0 0 0 B nB cB l ty 0 er w hB hm hr
theorem kab9_ok (B : Option Addr) (cB : Nat) (w : World) (hB : Sl w B 28 cB (kb9 8)) : Calls Try.prog 14 #[.agg #[.int .u8 10, .int .u8 0, .int .u8 0, .int .u8 9], .slice B 28 cB, .int .i64 11, .int .i64 0] w fun e w' => ∃ Ao co Ab cb, e = .returned (.tuple #[.agg #[.int .i64 0, .int .i64 0, .int .i64 0, .int .i64 0, .int .i64 64, .int .i64 1, .int .u8 10, .int .u8 0, .int .u8 0, .int .u8 9, .int .u8 10, .int .u8 0, .int .u8 0, .int .u8 1, .slice Ao 0 co, .slice Ab 36 cb], .int .i64 0]) ∧ Sl w' Ao 0 co [] ∧ Sl w' Ab 36 cb (icBytes 11 0 0 (kb9 8)) ∧ Fr w.heap.size Ao 0 ∧ Fr w.heap.size Ab 36 ∧ Below w.heap.size w w' :=
  icabout_n 10 0 0 9 B 28 cB (kb9 8) 11 0 10 0 0 1 (icBytes 11 0 0 (kb9 8)) 36 w hB (by omega) k9_3 (by rw [icBytes_len]; rfl)
theorem kget9 (Ao Ab : Option Addr) (co cb : Nat) (w : World) (h : Sl w Ab 36 cb (icBytes 11 0 0 (kb9 8))) : Calls Try.prog 15 #[.agg #[.int .i64 0, .int .i64 0, .int .i64 0, .int .i64 0, .int .i64 64, .int .i64 1, .int .u8 10, .int .u8 0, .int .u8 0, .int .u8 9, .int .u8 10, .int .u8 0, .int .u8 0, .int .u8 1, .slice Ao 0 co, .slice Ab 36 cb]] w fun e w' => ∃ B d, e = .returned (.tuple #[.agg #[.int .i64 11, .int .i64 0, .int .u32 0, .slice B 28 d], .int .i64 0]) ∧ Sl w' B 28 d (kb9 8) ∧ Fr w.heap.size B 28 ∧ Below w.heap.size w w' :=
  icget_good 0 0 0 0 64 1 10 0 0 9 10 0 0 1 Ao Ab 0 co 36 cb (icBytes 11 0 0 (kb9 8)) (kb9 8) 11 0 0 28 w h (by omega) (ic_back (by decide) (by decide) (by decide) (by decide) (by decide) _) rfl
theorem eql4k (W : World) (a b c d : UInt8) : (binOp .eql 24 (.agg #[.int .u8 (a.toNat : Int), .int .u8 (b.toNat : Int), .int .u8 (c.toNat : Int), .int .u8 (d.toNat : Int)]) (.agg #[.int .u8 (a.toNat : Int), .int .u8 (b.toNat : Int), .int .u8 (c.toNat : Int), .int .u8 (d.toNat : Int)])).run Try.prog W = .ok (.bool true) W := eql4s a b c d W
set_option maxRecDepth 100000 in
set_option maxHeartbeats 16000000 in
theorem icmpKnown_walk (w : World) : Calls Try.prog 3 #[] w fun e w' => e = .returned (.bool true) ∧ Below w.heap.size w w' := by
  obtain ⟨ii, hii, hz0, hz1, hz2⟩ := info_parts Try.info5
  have q4a : ∀ W, (binOp .eql 24 (.agg #[.int .u8 10, .int .u8 0, .int .u8 0, .int .u8 1]) (.agg #[.int .u8 10, .int .u8 0, .int .u8 0, .int .u8 1])).run Try.prog W = .ok (.bool true) W := fun W => eql4k W 10 0 0 1
  have q4b : ∀ W, (binOp .eql 24 (.agg #[.int .u8 10, .int .u8 0, .int .u8 0, .int .u8 9]) (.agg #[.int .u8 10, .int .u8 0, .int .u8 0, .int .u8 9])).run Try.prog W = .ok (.bool true) W := fun W => eql4k W 10 0 0 9
  have g4 := guard4
  have bel := Below.refl w.heap.size w
  go_enter Try.func3, Try.ntmps3
  go_wp2_with fail
  with_reducible refine (awake9 _).mono ?_
  rintro e w1 ⟨rfl, b1⟩
  replace bel := bel.trans (b1.mono bel.size)
  clear b1
  go_wp2_with fail
  with_reducible refine (base9 _).mono ?_
  rintro e w2 ⟨rfl, b2⟩
  replace bel := bel.trans (b2.mono bel.size)
  clear b2
  go_wp2_with fail
  with_reducible refine (kput_ok 3 0 0 none 0 0 [] _ (Sl.nil _) (by decide) (by decide) (by omega) (by decide) (by decide)).mono ?_
  rintro e w3 ⟨Ao1, co1, Ab1, cb1, rfl, ao1, pb1, fb1, b3⟩
  replace bel := bel.trans (b3.mono bel.size)
  clear b3
  replace ao1 : Sl w3 (Ao1) (0) (co1) ([]) := ao1
  replace pb1 : Sl w3 (Ab1) (8) (cb1) (icBytes 3 0 0 []) := pb1
  go_wp2_with (first | ((with_reducible show wpList _ _ _ (⟨some 1, _, _, _, _, _⟩ :: _) _ _); refine wpList_new_a rfl 27 rfl #[.int .i64 0, .int .i64 0, .int .i64 0, .int .i64 0, .int .i64 0, .int .i64 0, .int .u8 0, .int .u8 0, .int .u8 0, .int .u8 0, .int .u8 0, .int .u8 0, .int .u8 0, .int .u8 0, .slice none 0 0, .slice none 0 0] (by kernel_rfl) ?_; intro g1 w4 ge hh bb; have av_ao1_p1 := ao1.av_new ge; have av_pb1_p1 := pb1.av_new ge; have op1 := Nat.le_trans bel.size ge; replace ao1 := ao1.below bb; replace pb1 := pb1.below bb; replace bel := bel.trans (bb.mono bel.size); have hp1 := hh; clear hh ge bb) | ((with_reducible show wpList _ _ _ (⟨none, Op.store _ (.tmp 1) _, _, _, _, _⟩ :: _) _ _); refine wpList_store_blk rfl 27 (.tmp 1) (.tmp 27) rfl g1 rfl _ rfl _ 27 hp1 (by rfl) (by kernel_rfl) (by kernel_rfl) ?_; intro w5 hq gr; replace ao1 := ao1.away av_ao1_p1 gr; replace pb1 := pb1.away av_pb1_p1 gr; replace bel := below_grown bel gr op1 bel.size; clear hp1; have hp1 := hq; clear hq gr; have R30 := Lib.hid (range_lit hp1 0 16 [.int .i64 0, .int .i64 0, .int .i64 0, .int .i64 0, .int .i64 64, .int .i64 1, .int .u8 10, .int .u8 0, .int .u8 0, .int .u8 1, .int .u8 10, .int .u8 0, .int .u8 0, .int .u8 2, .slice Ao1 0 co1, .slice Ab1 8 cb1] rfl)) | ((with_reducible show wpList _ _ _ (⟨some 30, _, _, _, _, _⟩ :: _) _ _); refine wpList_load_rng 27 (.tmp 1) rfl (by kernel_rfl) _ _ rfl _ R30.out _ Try.underlying27 rfl (by kernel_rfl) ?_))
  try clear R30
  with_reducible refine (kput9 _ _ _ _ 3 _ ao1 pb1 k9_0).mono ?_
  rintro e w6 ⟨v, rfl, kc1w, b6⟩
  have y_kc1_p1 := Lib.hid (hlt hp1)
  have bl_ao1_kc1 := ao1.bl_new
  have bl_pb1_kc1 := pb1.bl_new
  have kc1lo := bel.size
  have lz_kc1 := b6.size
  replace hp1 := blk_u hp1 b6
  replace ao1 := ao1.below b6
  replace pb1 := pb1.below b6
  replace bel := bel.trans (b6.mono bel.size)
  clear b6
  obtain ⟨Akc1, ckc1, rfl⟩ := own_val kc1w
  have kc1 := (own_sl kc1w).1
  have fr_kc1 := (own_sl kc1w).2
  have av_kc1_p1 := fr_kc1.av y_kc1_p1.out
  go_wp2_with fail
  with_reducible refine (kab9_a _ _ _ _ 11 11 _ kc1 (by omega) k9_2).mono ?_
  rintro e w7 ⟨f0_3, f1_3, f2_3, f3_3, f4_3, f5_3, j0_3, j1_3, j2_3, j3_3, j4_3, j5_3, j6_3, j7_3, Bo3, no3, do3, Bb3, nb3, db3, rfl, b7⟩
  replace hp1 := blk_u hp1 b7
  replace ao1 := ao1.below b7
  replace pb1 := pb1.below b7
  replace kc1 := kc1.below b7
  replace kc1w := own_under kc1w b7
  replace lz_kc1 := Nat.le_trans lz_kc1 b7.size
  replace bel := bel.trans (b7.mono bel.size)
  clear b7
  go_wp2_with (first | ((with_reducible show wpList _ _ _ (⟨some 5, _, _, _, _, _⟩ :: _) _ _); refine wpList_new_a rfl 27 rfl #[.int .i64 0, .int .i64 0, .int .i64 0, .int .i64 0, .int .i64 0, .int .i64 0, .int .u8 0, .int .u8 0, .int .u8 0, .int .u8 0, .int .u8 0, .int .u8 0, .int .u8 0, .int .u8 0, .slice none 0 0, .slice none 0 0] (by kernel_rfl) ?_; intro g5 w8 ge hh bb; have d_p1_p5 := ne_new (hlt hp1) ge; have av_ao1_p5 := ao1.av_new ge; have av_pb1_p5 := pb1.av_new ge; have av_kc1_p5 := kc1.av_new ge; have of_kc1_p5 := own_new kc1w ge; have op5 := Nat.le_trans bel.size ge; replace hp1 := blk_u hp1 bb; replace ao1 := ao1.below bb; replace pb1 := pb1.below bb; replace kc1 := kc1.below bb; replace kc1w := own_under kc1w bb; replace lz_kc1 := Nat.le_trans lz_kc1 bb.size; replace bel := bel.trans (bb.mono bel.size); have hp5 := hh; clear hh ge bb) | ((with_reducible show wpList _ _ _ (⟨none, Op.store _ (.tmp 5) _, _, _, _, _⟩ :: _) _ _); refine wpList_store_blk rfl 27 (.tmp 5) (.tmp 38) rfl g5 rfl _ rfl _ 27 hp5 (by rfl) (by kernel_rfl) (by kernel_rfl) ?_; intro w9 hq gr; replace ao1 := ao1.away av_ao1_p5 gr; replace pb1 := pb1.away av_pb1_p5 gr; replace kc1 := kc1.away av_kc1_p5 gr; replace kc1w := own_off kc1w of_kc1_p5 gr; replace lz_kc1 := Nat.le_trans lz_kc1 gr.size; replace hp1 := blk_a hp1 gr d_p1_p5; replace bel := below_grown bel gr op5 bel.size; clear hp5; have hp5 := hq; clear hq gr))
  with_reducible refine (base9 _).mono ?_
  rintro e w10 ⟨rfl, b10⟩
  replace hp1 := blk_u hp1 b10
  replace hp5 := blk_u hp5 b10
  replace ao1 := ao1.below b10
  replace pb1 := pb1.below b10
  replace kc1 := kc1.below b10
  replace kc1w := own_under kc1w b10
  replace lz_kc1 := Nat.le_trans lz_kc1 b10.size
  replace bel := bel.trans (b10.mono bel.size)
  clear b10
  go_wp2_with fail
  with_reducible refine (kput_ok 8 0 0 none 0 0 [] _ (Sl.nil _) (by decide) (by decide) (by omega) (by decide) (by decide)).mono ?_
  rintro e w11 ⟨Ao2, co2, Ab2, cb2, rfl, ao2, pb2, fb2, b11⟩
  have av_pb2_p1 := fb2.av (hlt hp1)
  have av_pb2_p5 := fb2.av (hlt hp5)
  replace hp1 := blk_u hp1 b11
  replace hp5 := blk_u hp5 b11
  replace ao1 := ao1.below b11
  replace pb1 := pb1.below b11
  replace kc1 := kc1.below b11
  replace kc1w := own_under kc1w b11
  replace lz_kc1 := Nat.le_trans lz_kc1 b11.size
  replace bel := bel.trans (b11.mono bel.size)
  clear b11
  replace ao2 : Sl w11 (Ao2) (0) (co2) ([]) := ao2
  replace pb2 : Sl w11 (Ab2) (8) (cb2) (icBytes 8 0 0 []) := pb2
  go_wp2_with (first | ((with_reducible show wpList _ _ _ (⟨some 7, _, _, _, _, _⟩ :: _) _ _); refine wpList_new_a rfl 27 rfl #[.int .i64 0, .int .i64 0, .int .i64 0, .int .i64 0, .int .i64 0, .int .i64 0, .int .u8 0, .int .u8 0, .int .u8 0, .int .u8 0, .int .u8 0, .int .u8 0, .int .u8 0, .int .u8 0, .slice none 0 0, .slice none 0 0] (by kernel_rfl) ?_; intro g7 w12 ge hh bb; have d_p1_p7 := ne_new (hlt hp1) ge; have d_p5_p7 := ne_new (hlt hp5) ge; have av_ao1_p7 := ao1.av_new ge; have av_pb1_p7 := pb1.av_new ge; have av_kc1_p7 := kc1.av_new ge; have of_kc1_p7 := own_new kc1w ge; have av_ao2_p7 := ao2.av_new ge; have av_pb2_p7 := pb2.av_new ge; have op7 := Nat.le_trans bel.size ge; replace hp1 := blk_u hp1 bb; replace hp5 := blk_u hp5 bb; replace ao1 := ao1.below bb; replace pb1 := pb1.below bb; replace kc1 := kc1.below bb; replace kc1w := own_under kc1w bb; replace ao2 := ao2.below bb; replace pb2 := pb2.below bb; replace lz_kc1 := Nat.le_trans lz_kc1 bb.size; replace bel := bel.trans (bb.mono bel.size); have hp7 := hh; clear hh ge bb) | ((with_reducible show wpList _ _ _ (⟨none, Op.store _ (.tmp 7) _, _, _, _, _⟩ :: _) _ _); refine wpList_store_blk rfl 27 (.tmp 7) (.tmp 44) rfl g7 rfl _ rfl _ 27 hp7 (by rfl) (by kernel_rfl) (by kernel_rfl) ?_; intro w13 hq gr; replace ao1 := ao1.away av_ao1_p7 gr; replace pb1 := pb1.away av_pb1_p7 gr; replace kc1 := kc1.away av_kc1_p7 gr; replace kc1w := own_off kc1w of_kc1_p7 gr; replace ao2 := ao2.away av_ao2_p7 gr; replace pb2 := pb2.away av_pb2_p7 gr; replace lz_kc1 := Nat.le_trans lz_kc1 gr.size; replace hp1 := blk_a hp1 gr d_p1_p7; replace hp5 := blk_a hp5 gr d_p5_p7; replace bel := below_grown bel gr op7 bel.size; clear hp7; have hp7 := hq; clear hq gr; have R47 := Lib.hid (range_lit hp7 0 16 [.int .i64 0, .int .i64 0, .int .i64 0, .int .i64 0, .int .i64 64, .int .i64 1, .int .u8 10, .int .u8 0, .int .u8 0, .int .u8 1, .int .u8 10, .int .u8 0, .int .u8 0, .int .u8 2, .slice Ao2 0 co2, .slice Ab2 8 cb2] rfl)) | ((with_reducible show wpList _ _ _ (⟨some 47, _, _, _, _, _⟩ :: _) _ _); refine wpList_load_rng 27 (.tmp 7) rfl (by kernel_rfl) _ _ rfl _ R47.out _ Try.underlying27 rfl (by kernel_rfl) ?_))
  try clear R47
  with_reducible refine (kput9 _ _ _ _ 8 _ ao2 pb2 k9_1).mono ?_
  rintro e w14 ⟨v, rfl, kc2w, b14⟩
  have y_kc2_p1 := Lib.hid (hlt hp1)
  have y_kc2_p5 := Lib.hid (hlt hp5)
  have y_kc2_p7 := Lib.hid (hlt hp7)
  have bl_ao1_kc2 := ao1.bl_new
  have bl_pb1_kc2 := pb1.bl_new
  have bl_kc1_kc2 := kc1.bl_new
  have bl_ao2_kc2 := ao2.bl_new
  have bl_pb2_kc2 := pb2.bl_new
  have kc2lo := bel.size
  have lz_kc2 := b14.size
  replace hp1 := blk_u hp1 b14
  replace hp5 := blk_u hp5 b14
  replace hp7 := blk_u hp7 b14
  replace ao1 := ao1.below b14
  replace pb1 := pb1.below b14
  replace kc1 := kc1.below b14
  replace kc1w := own_under kc1w b14
  replace ao2 := ao2.below b14
  replace pb2 := pb2.below b14
  replace lz_kc1 := Nat.le_trans lz_kc1 b14.size
  replace bel := bel.trans (b14.mono bel.size)
  clear b14
  obtain ⟨Akc2, ckc2, rfl⟩ := own_val kc2w
  have kc2 := (own_sl kc2w).1
  have fr_kc2 := (own_sl kc2w).2
  have av_kc2_p1 := fr_kc2.av y_kc2_p1.out
  have av_kc2_p5 := fr_kc2.av y_kc2_p5.out
  have av_kc2_p7 := fr_kc2.av y_kc2_p7.out
  go_wp2_with fail
  with_reducible refine (kab9_ok _ _ _ kc2).mono ?_
  rintro e w15 ⟨Ao5, co5, Ab5, cb5, rfl, qo, qb, fo, fb5, b15⟩
  have av_qo_p1 := fo.av (hlt hp1)
  have av_qo_p5 := fo.av (hlt hp5)
  have av_qo_p7 := fo.av (hlt hp7)
  have av_qb_p1 := fb5.av (hlt hp1)
  have av_qb_p5 := fb5.av (hlt hp5)
  have av_qb_p7 := fb5.av (hlt hp7)
  replace hp1 := blk_u hp1 b15
  replace hp5 := blk_u hp5 b15
  replace hp7 := blk_u hp7 b15
  replace ao1 := ao1.below b15
  replace pb1 := pb1.below b15
  replace kc1 := kc1.below b15
  replace kc1w := own_under kc1w b15
  replace ao2 := ao2.below b15
  replace pb2 := pb2.below b15
  replace kc2 := kc2.below b15
  replace kc2w := own_under kc2w b15
  replace lz_kc1 := Nat.le_trans lz_kc1 b15.size
  replace lz_kc2 := Nat.le_trans lz_kc2 b15.size
  replace bel := bel.trans (b15.mono bel.size)
  clear b15
  replace qo : Sl w15 (Ao5) (0) (co5) ([]) := qo
  replace qb : Sl w15 (Ab5) (36) (cb5) (icBytes 11 0 0 (kb9 8)) := qb
  go_wp2_with (first | ((with_reducible show wpList _ _ _ (⟨some 11, _, _, _, _, _⟩ :: _) _ _); refine wpList_new_a rfl 27 rfl #[.int .i64 0, .int .i64 0, .int .i64 0, .int .i64 0, .int .i64 0, .int .i64 0, .int .u8 0, .int .u8 0, .int .u8 0, .int .u8 0, .int .u8 0, .int .u8 0, .int .u8 0, .int .u8 0, .slice none 0 0, .slice none 0 0] (by kernel_rfl) ?_; intro g11 w16 ge hh bb; have d_p1_p11 := ne_new (hlt hp1) ge; have d_p5_p11 := ne_new (hlt hp5) ge; have d_p7_p11 := ne_new (hlt hp7) ge; have av_ao1_p11 := ao1.av_new ge; have av_pb1_p11 := pb1.av_new ge; have av_kc1_p11 := kc1.av_new ge; have of_kc1_p11 := own_new kc1w ge; have av_ao2_p11 := ao2.av_new ge; have av_pb2_p11 := pb2.av_new ge; have av_kc2_p11 := kc2.av_new ge; have of_kc2_p11 := own_new kc2w ge; have av_qo_p11 := qo.av_new ge; have av_qb_p11 := qb.av_new ge; have op11 := Nat.le_trans bel.size ge; replace hp1 := blk_u hp1 bb; replace hp5 := blk_u hp5 bb; replace hp7 := blk_u hp7 bb; replace ao1 := ao1.below bb; replace pb1 := pb1.below bb; replace kc1 := kc1.below bb; replace kc1w := own_under kc1w bb; replace ao2 := ao2.below bb; replace pb2 := pb2.below bb; replace kc2 := kc2.below bb; replace kc2w := own_under kc2w bb; replace qo := qo.below bb; replace qb := qb.below bb; replace lz_kc1 := Nat.le_trans lz_kc1 bb.size; replace lz_kc2 := Nat.le_trans lz_kc2 bb.size; replace bel := bel.trans (bb.mono bel.size); have hp11 := hh; clear hh ge bb) | ((with_reducible show wpList _ _ _ (⟨none, Op.store _ (.tmp 11) _, _, _, _, _⟩ :: _) _ _); refine wpList_store_blk rfl 27 (.tmp 11) (.tmp 55) rfl g11 rfl _ rfl _ 27 hp11 (by rfl) (by kernel_rfl) (by kernel_rfl) ?_; intro w17 hq gr; replace ao1 := ao1.away av_ao1_p11 gr; replace pb1 := pb1.away av_pb1_p11 gr; replace kc1 := kc1.away av_kc1_p11 gr; replace kc1w := own_off kc1w of_kc1_p11 gr; replace ao2 := ao2.away av_ao2_p11 gr; replace pb2 := pb2.away av_pb2_p11 gr; replace kc2 := kc2.away av_kc2_p11 gr; replace kc2w := own_off kc2w of_kc2_p11 gr; replace qo := qo.away av_qo_p11 gr; replace qb := qb.away av_qb_p11 gr; replace lz_kc1 := Nat.le_trans lz_kc1 gr.size; replace lz_kc2 := Nat.le_trans lz_kc2 gr.size; replace hp1 := blk_a hp1 gr d_p1_p11; replace hp5 := blk_a hp5 gr d_p5_p11; replace hp7 := blk_a hp7 gr d_p7_p11; replace bel := below_grown bel gr op11 bel.size; clear hp11; have hp11 := hq; clear hq gr; have R58 := Lib.hid (range_lit hp11 0 16 [.int .i64 0, .int .i64 0, .int .i64 0, .int .i64 0, .int .i64 64, .int .i64 1, .int .u8 10, .int .u8 0, .int .u8 0, .int .u8 9, .int .u8 10, .int .u8 0, .int .u8 0, .int .u8 1, .slice Ao5 0 co5, .slice Ab5 36 cb5] rfl)) | ((with_reducible show wpList _ _ _ (⟨some 58, _, _, _, _, _⟩ :: _) _ _); refine wpList_load_rng 27 (.tmp 11) rfl (by kernel_rfl) _ _ rfl _ R58.out _ Try.underlying27 rfl (by kernel_rfl) ?_))
  try clear R58
  with_reducible refine (kget9 _ _ _ _ _ qb).mono ?_
  rintro e w18 ⟨Bm, dm, rfl, mb, fm, b18⟩
  have av_mb_p1 := fm.av (hlt hp1)
  have av_mb_p5 := fm.av (hlt hp5)
  have av_mb_p7 := fm.av (hlt hp7)
  have av_mb_p11 := fm.av (hlt hp11)
  replace hp1 := blk_u hp1 b18
  replace hp5 := blk_u hp5 b18
  replace hp7 := blk_u hp7 b18
  replace hp11 := blk_u hp11 b18
  replace ao1 := ao1.below b18
  replace pb1 := pb1.below b18
  replace kc1 := kc1.below b18
  replace kc1w := own_under kc1w b18
  replace ao2 := ao2.below b18
  replace pb2 := pb2.below b18
  replace kc2 := kc2.below b18
  replace kc2w := own_under kc2w b18
  replace qo := qo.below b18
  replace qb := qb.below b18
  replace lz_kc1 := Nat.le_trans lz_kc1 b18.size
  replace lz_kc2 := Nat.le_trans lz_kc2 b18.size
  replace bel := bel.trans (b18.mono bel.size)
  clear b18
  replace mb : Sl w18 (Bm) (28) (dm) (kb9 8) := mb
  go_wp2_with (first | ((with_reducible show wpList _ _ _ (⟨some 13, _, _, _, _, _⟩ :: _) _ _); refine wpList_new_a rfl 34 rfl #[.int .i64 0, .int .i64 0, .int .u32 0, .slice none 0 0] (by kernel_rfl) ?_; intro g13 w19 ge hh bb; have d_p1_p13 := ne_new (hlt hp1) ge; have d_p5_p13 := ne_new (hlt hp5) ge; have d_p7_p13 := ne_new (hlt hp7) ge; have d_p11_p13 := ne_new (hlt hp11) ge; have av_ao1_p13 := ao1.av_new ge; have av_pb1_p13 := pb1.av_new ge; have av_kc1_p13 := kc1.av_new ge; have of_kc1_p13 := own_new kc1w ge; have av_ao2_p13 := ao2.av_new ge; have av_pb2_p13 := pb2.av_new ge; have av_kc2_p13 := kc2.av_new ge; have of_kc2_p13 := own_new kc2w ge; have av_qo_p13 := qo.av_new ge; have av_qb_p13 := qb.av_new ge; have av_mb_p13 := mb.av_new ge; have op13 := Nat.le_trans bel.size ge; replace hp1 := blk_u hp1 bb; replace hp5 := blk_u hp5 bb; replace hp7 := blk_u hp7 bb; replace hp11 := blk_u hp11 bb; replace ao1 := ao1.below bb; replace pb1 := pb1.below bb; replace kc1 := kc1.below bb; replace kc1w := own_under kc1w bb; replace ao2 := ao2.below bb; replace pb2 := pb2.below bb; replace kc2 := kc2.below bb; replace kc2w := own_under kc2w bb; replace qo := qo.below bb; replace qb := qb.below bb; replace mb := mb.below bb; replace lz_kc1 := Nat.le_trans lz_kc1 bb.size; replace lz_kc2 := Nat.le_trans lz_kc2 bb.size; replace bel := bel.trans (bb.mono bel.size); have hp13 := hh; clear hh ge bb) | ((with_reducible show wpList _ _ _ (⟨none, Op.store _ (.tmp 13) _, _, _, _, _⟩ :: _) _ _); refine wpList_store_blk rfl 34 (.tmp 13) (.tmp 60) rfl g13 rfl _ rfl _ 34 hp13 (by rfl) (by kernel_rfl) (by kernel_rfl) ?_; intro w20 hq gr; replace ao1 := ao1.away av_ao1_p13 gr; replace pb1 := pb1.away av_pb1_p13 gr; replace kc1 := kc1.away av_kc1_p13 gr; replace kc1w := own_off kc1w of_kc1_p13 gr; replace ao2 := ao2.away av_ao2_p13 gr; replace pb2 := pb2.away av_pb2_p13 gr; replace kc2 := kc2.away av_kc2_p13 gr; replace kc2w := own_off kc2w of_kc2_p13 gr; replace qo := qo.away av_qo_p13 gr; replace qb := qb.away av_qb_p13 gr; replace mb := mb.away av_mb_p13 gr; replace lz_kc1 := Nat.le_trans lz_kc1 gr.size; replace lz_kc2 := Nat.le_trans lz_kc2 gr.size; replace hp1 := blk_a hp1 gr d_p1_p13; replace hp5 := blk_a hp5 gr d_p5_p13; replace hp7 := blk_a hp7 gr d_p7_p13; replace hp11 := blk_a hp11 gr d_p11_p13; replace bel := below_grown bel gr op13 bel.size; clear hp13; have hp13 := hq; clear hq gr))
  with_reducible refine (kab9_z _ _ _ _ 256 1 _ kc2 (by omega) k9_4).mono ?_
  rintro e w21 ⟨f0_6, f1_6, f2_6, f3_6, f4_6, f5_6, j0_6, j1_6, j2_6, j3_6, j4_6, j5_6, j6_6, j7_6, Bo6, no6, do6, Bb6, nb6, db6, rfl, b21⟩
  replace hp1 := blk_u hp1 b21
  replace hp5 := blk_u hp5 b21
  replace hp7 := blk_u hp7 b21
  replace hp11 := blk_u hp11 b21
  replace hp13 := blk_u hp13 b21
  replace ao1 := ao1.below b21
  replace pb1 := pb1.below b21
  replace kc1 := kc1.below b21
  replace kc1w := own_under kc1w b21
  replace ao2 := ao2.below b21
  replace pb2 := pb2.below b21
  replace kc2 := kc2.below b21
  replace kc2w := own_under kc2w b21
  replace qo := qo.below b21
  replace qb := qb.below b21
  replace mb := mb.below b21
  replace lz_kc1 := Nat.le_trans lz_kc1 b21.size
  replace lz_kc2 := Nat.le_trans lz_kc2 b21.size
  replace bel := bel.trans (b21.mono bel.size)
  clear b21
  go_wp2_with (first | ((with_reducible show wpList _ _ _ (⟨some 15, _, _, _, _, _⟩ :: _) _ _); refine wpList_new_a rfl 27 rfl #[.int .i64 0, .int .i64 0, .int .i64 0, .int .i64 0, .int .i64 0, .int .i64 0, .int .u8 0, .int .u8 0, .int .u8 0, .int .u8 0, .int .u8 0, .int .u8 0, .int .u8 0, .int .u8 0, .slice none 0 0, .slice none 0 0] (by kernel_rfl) ?_; intro g15 w22 ge hh bb; have d_p1_p15 := ne_new (hlt hp1) ge; have d_p5_p15 := ne_new (hlt hp5) ge; have d_p7_p15 := ne_new (hlt hp7) ge; have d_p11_p15 := ne_new (hlt hp11) ge; have d_p13_p15 := ne_new (hlt hp13) ge; have av_ao1_p15 := ao1.av_new ge; have av_pb1_p15 := pb1.av_new ge; have av_kc1_p15 := kc1.av_new ge; have of_kc1_p15 := own_new kc1w ge; have av_ao2_p15 := ao2.av_new ge; have av_pb2_p15 := pb2.av_new ge; have av_kc2_p15 := kc2.av_new ge; have of_kc2_p15 := own_new kc2w ge; have av_qo_p15 := qo.av_new ge; have av_qb_p15 := qb.av_new ge; have av_mb_p15 := mb.av_new ge; have op15 := Nat.le_trans bel.size ge; replace hp1 := blk_u hp1 bb; replace hp5 := blk_u hp5 bb; replace hp7 := blk_u hp7 bb; replace hp11 := blk_u hp11 bb; replace hp13 := blk_u hp13 bb; replace ao1 := ao1.below bb; replace pb1 := pb1.below bb; replace kc1 := kc1.below bb; replace kc1w := own_under kc1w bb; replace ao2 := ao2.below bb; replace pb2 := pb2.below bb; replace kc2 := kc2.below bb; replace kc2w := own_under kc2w bb; replace qo := qo.below bb; replace qb := qb.below bb; replace mb := mb.below bb; replace lz_kc1 := Nat.le_trans lz_kc1 bb.size; replace lz_kc2 := Nat.le_trans lz_kc2 bb.size; replace bel := bel.trans (bb.mono bel.size); have hp15 := hh; clear hh ge bb) | ((with_reducible show wpList _ _ _ (⟨none, Op.store _ (.tmp 15) _, _, _, _, _⟩ :: _) _ _); refine wpList_store_blk rfl 27 (.tmp 15) (.tmp 66) rfl g15 rfl _ rfl _ 27 hp15 (by rfl) (by kernel_rfl) (by kernel_rfl) ?_; intro w23 hq gr; replace ao1 := ao1.away av_ao1_p15 gr; replace pb1 := pb1.away av_pb1_p15 gr; replace kc1 := kc1.away av_kc1_p15 gr; replace kc1w := own_off kc1w of_kc1_p15 gr; replace ao2 := ao2.away av_ao2_p15 gr; replace pb2 := pb2.away av_pb2_p15 gr; replace kc2 := kc2.away av_kc2_p15 gr; replace kc2w := own_off kc2w of_kc2_p15 gr; replace qo := qo.away av_qo_p15 gr; replace qb := qb.away av_qb_p15 gr; replace mb := mb.away av_mb_p15 gr; replace lz_kc1 := Nat.le_trans lz_kc1 gr.size; replace lz_kc2 := Nat.le_trans lz_kc2 gr.size; replace hp1 := blk_a hp1 gr d_p1_p15; replace hp5 := blk_a hp5 gr d_p5_p15; replace hp7 := blk_a hp7 gr d_p7_p15; replace hp11 := blk_a hp11 gr d_p11_p15; replace hp13 := blk_a hp13 gr d_p13_p15; replace bel := below_grown bel gr op15 bel.size; clear hp15; have hp15 := hq; clear hq gr))
  with_reducible refine (base9 _).mono ?_
  rintro e w24 ⟨rfl, b24⟩
  replace hp1 := blk_u hp1 b24
  replace hp5 := blk_u hp5 b24
  replace hp7 := blk_u hp7 b24
  replace hp11 := blk_u hp11 b24
  replace hp13 := blk_u hp13 b24
  replace hp15 := blk_u hp15 b24
  replace ao1 := ao1.below b24
  replace pb1 := pb1.below b24
  replace kc1 := kc1.below b24
  replace kc1w := own_under kc1w b24
  replace ao2 := ao2.below b24
  replace pb2 := pb2.below b24
  replace kc2 := kc2.below b24
  replace kc2w := own_under kc2w b24
  replace qo := qo.below b24
  replace qb := qb.below b24
  replace mb := mb.below b24
  replace lz_kc1 := Nat.le_trans lz_kc1 b24.size
  replace lz_kc2 := Nat.le_trans lz_kc2 b24.size
  replace bel := bel.trans (b24.mono bel.size)
  clear b24
  go_wp2_with fail
  with_reducible refine (kput_er 0 (-1) 0 none 0 0 [] 1 _ (Sl.nil _) (by decide) (by decide) k9_5).mono ?_
  rintro e w25 ⟨f0_8, f1_8, f2_8, f3_8, f4_8, f5_8, j0_8, j1_8, j2_8, j3_8, j4_8, j5_8, j6_8, j7_8, Ao9, no9, co9, Ab9, nb9, cb9, rfl, b25⟩
  replace hp1 := blk_u hp1 b25
  replace hp5 := blk_u hp5 b25
  replace hp7 := blk_u hp7 b25
  replace hp11 := blk_u hp11 b25
  replace hp13 := blk_u hp13 b25
  replace hp15 := blk_u hp15 b25
  replace ao1 := ao1.below b25
  replace pb1 := pb1.below b25
  replace kc1 := kc1.below b25
  replace kc1w := own_under kc1w b25
  replace ao2 := ao2.below b25
  replace pb2 := pb2.below b25
  replace kc2 := kc2.below b25
  replace kc2w := own_under kc2w b25
  replace qo := qo.below b25
  replace qb := qb.below b25
  replace mb := mb.below b25
  replace lz_kc1 := Nat.le_trans lz_kc1 b25.size
  replace lz_kc2 := Nat.le_trans lz_kc2 b25.size
  replace bel := bel.trans (b25.mono bel.size)
  clear b25
  go_wp2_with (first | ((with_reducible show wpList _ _ _ (⟨some 17, _, _, _, _, _⟩ :: _) _ _); refine wpList_new_a rfl 27 rfl #[.int .i64 0, .int .i64 0, .int .i64 0, .int .i64 0, .int .i64 0, .int .i64 0, .int .u8 0, .int .u8 0, .int .u8 0, .int .u8 0, .int .u8 0, .int .u8 0, .int .u8 0, .int .u8 0, .slice none 0 0, .slice none 0 0] (by kernel_rfl) ?_; intro g17 w26 ge hh bb; have d_p1_p17 := ne_new (hlt hp1) ge; have d_p5_p17 := ne_new (hlt hp5) ge; have d_p7_p17 := ne_new (hlt hp7) ge; have d_p11_p17 := ne_new (hlt hp11) ge; have d_p13_p17 := ne_new (hlt hp13) ge; have d_p15_p17 := ne_new (hlt hp15) ge; have av_ao1_p17 := ao1.av_new ge; have av_pb1_p17 := pb1.av_new ge; have av_kc1_p17 := kc1.av_new ge; have of_kc1_p17 := own_new kc1w ge; have av_ao2_p17 := ao2.av_new ge; have av_pb2_p17 := pb2.av_new ge; have av_kc2_p17 := kc2.av_new ge; have of_kc2_p17 := own_new kc2w ge; have av_qo_p17 := qo.av_new ge; have av_qb_p17 := qb.av_new ge; have av_mb_p17 := mb.av_new ge; have op17 := Nat.le_trans bel.size ge; replace hp1 := blk_u hp1 bb; replace hp5 := blk_u hp5 bb; replace hp7 := blk_u hp7 bb; replace hp11 := blk_u hp11 bb; replace hp13 := blk_u hp13 bb; replace hp15 := blk_u hp15 bb; replace ao1 := ao1.below bb; replace pb1 := pb1.below bb; replace kc1 := kc1.below bb; replace kc1w := own_under kc1w bb; replace ao2 := ao2.below bb; replace pb2 := pb2.below bb; replace kc2 := kc2.below bb; replace kc2w := own_under kc2w bb; replace qo := qo.below bb; replace qb := qb.below bb; replace mb := mb.below bb; replace lz_kc1 := Nat.le_trans lz_kc1 bb.size; replace lz_kc2 := Nat.le_trans lz_kc2 bb.size; replace bel := bel.trans (bb.mono bel.size); have hp17 := hh; clear hh ge bb) | ((with_reducible show wpList _ _ _ (⟨none, Op.store _ (.tmp 17) _, _, _, _, _⟩ :: _) _ _); refine wpList_store_blk rfl 27 (.tmp 17) (.tmp 72) rfl g17 rfl _ rfl _ 27 hp17 (by rfl) (by kernel_rfl) (by kernel_rfl) ?_; intro w27 hq gr; replace ao1 := ao1.away av_ao1_p17 gr; replace pb1 := pb1.away av_pb1_p17 gr; replace kc1 := kc1.away av_kc1_p17 gr; replace kc1w := own_off kc1w of_kc1_p17 gr; replace ao2 := ao2.away av_ao2_p17 gr; replace pb2 := pb2.away av_pb2_p17 gr; replace kc2 := kc2.away av_kc2_p17 gr; replace kc2w := own_off kc2w of_kc2_p17 gr; replace qo := qo.away av_qo_p17 gr; replace qb := qb.away av_qb_p17 gr; replace mb := mb.away av_mb_p17 gr; replace lz_kc1 := Nat.le_trans lz_kc1 gr.size; replace lz_kc2 := Nat.le_trans lz_kc2 gr.size; replace hp1 := blk_a hp1 gr d_p1_p17; replace hp5 := blk_a hp5 gr d_p5_p17; replace hp7 := blk_a hp7 gr d_p7_p17; replace hp11 := blk_a hp11 gr d_p11_p17; replace hp13 := blk_a hp13 gr d_p13_p17; replace hp15 := blk_a hp15 gr d_p15_p17; replace bel := below_grown bel gr op17 bel.size; clear hp17; have hp17 := hq; clear hq gr))
  with_reducible refine (icquery_1 _ _ _ _ _ _ (by decide) (by decide) _).mono ?_
  rintro e w28 ⟨rfl, b28⟩
  replace hp1 := blk_u hp1 b28
  replace hp5 := blk_u hp5 b28
  replace hp7 := blk_u hp7 b28
  replace hp11 := blk_u hp11 b28
  replace hp13 := blk_u hp13 b28
  replace hp15 := blk_u hp15 b28
  replace hp17 := blk_u hp17 b28
  replace ao1 := ao1.below b28
  replace pb1 := pb1.below b28
  replace kc1 := kc1.below b28
  replace kc1w := own_under kc1w b28
  replace ao2 := ao2.below b28
  replace pb2 := pb2.below b28
  replace kc2 := kc2.below b28
  replace kc2w := own_under kc2w b28
  replace qo := qo.below b28
  replace qb := qb.below b28
  replace mb := mb.below b28
  replace lz_kc1 := Nat.le_trans lz_kc1 b28.size
  replace lz_kc2 := Nat.le_trans lz_kc2 b28.size
  replace bel := bel.trans (b28.mono bel.size)
  clear b28
  have R91 := Lib.hid (range_lit hp11 10 4 [.int .u8 10, .int .u8 0, .int .u8 0, .int .u8 1] rfl)
  go_wp2_with (first | ((with_reducible show wpList _ _ _ (⟨some 91, _, _, _, _, _⟩ :: _) _ _); refine wpList_load_rng 24 (.tmp 90) rfl (by kernel_rfl) _ _ rfl _ R91.out _ Try.underlying24 rfl (by kernel_rfl) ?_; have R97 := Lib.hid (range_lit hp11 6 4 [.int .u8 10, .int .u8 0, .int .u8 0, .int .u8 9] rfl)) | ((with_reducible show wpList _ _ _ (⟨some 97, _, _, _, _, _⟩ :: _) _ _); refine wpList_load_rng 24 (.tmp 96) rfl (by kernel_rfl) _ _ rfl _ R97.out _ Try.underlying24 rfl (by kernel_rfl) ?_; have R103 := cell_lit hp13 0 _ rfl; have R108 := cell_lit hp13 3 _ rfl; have st109 := mb.str (P := Try.prog) 25 5 9 Try.underlying25 Try.underlying5 Try.underlying9; have st111 := kc2.str (P := Try.prog) 25 5 9 Try.underlying25 Try.underlying5 Try.underlying9))
  try clear R91
  try clear R97
  try clear R103
  try clear R108
  try clear st109
  try clear st111
  go_ret
  exact ⟨rfl, bel⟩
end Go.Proofs.Ytfmllopeeiecjaa
