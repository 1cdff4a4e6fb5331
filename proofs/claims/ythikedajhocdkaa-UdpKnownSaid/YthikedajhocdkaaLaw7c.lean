/- Layer 7: UdpKnown. -/
import Derived.Test.YthikedajhocdkaaLaw7b
import Derived.Test.YthikedajhocdkaaMak
import Derived.Test.YthikedajhocdkaaVfs
import Derived.Deep.CutRange
namespace Go.Proofs.Ythikedajhocdkaa
open Go.RowKit

abbrev pb7 : List UInt8 := udBytes 10 0 0 1 10 0 0 2 5 6 [120]
theorem k7_1 : udErr 0 0 6 10 0 0 1 10 0 0 2 pb7 = 1 := by decide +kernel
theorem k7_2 : udErr 0 1 17 10 0 0 1 10 0 0 2 pb7 = 10 := by decide +kernel
theorem k7_3 : udErr 0 0 17 10 0 0 1 10 0 0 2 (pb7.take 7) = 3 := by decide +kernel
theorem k7_4 : udErr 0 0 17 10 0 0 1 10 0 0 2 (pb7.set 8 121) = 5 := by decide +kernel
theorem k7_5 : udErr 0 0 17 10 0 0 1 10 0 0 2 (((pb7.set 8 121).set 6 0).set 7 0) = 0 := by decide +kernel
theorem k7_6 : (udPut 0 0 0 0 64 10 0 0 1 10 0 0 2 [] (-1) 0 []).2.2 = 1 := by decide +kernel
theorem k7_7 : (udPut 0 0 0 0 64 10 0 0 1 10 0 0 2 [] 0 0 (List.replicate 1473 0)).2.2 = 2 := by
  unfold udPut
  rw [if_neg (by decide), if_pos (by rw [List.length_replicate]; omega)]
  rfl
theorem kput_er (df dt : Int) (D : Option Addr) (nd cd : Nat) (ld : List UInt8) (er : Int) (w : World) (hb : Sl w D nd cd ld) (hn : nd ≤ 100000) (h : (udPut 0 0 0 0 64 10 0 0 1 10 0 0 2 [] df dt ld).2.2 = er) : Calls Try.prog 9 #[.agg #[.int .i64 0, .int .i64 0, .int .i64 0, .int .i64 0, .int .i64 64, .int .i64 0, .int .u8 10, .int .u8 0, .int .u8 0, .int .u8 1, .int .u8 10, .int .u8 0, .int .u8 0, .int .u8 2, .slice none 0 0, .slice none 0 0], .agg #[.int .i64 df, .int .i64 dt, .slice D nd cd]] w fun e w' => ∃ f0 f1 f2 f3 f4 f5 : Int, ∃ j0 j1 j2 j3 j4 j5 j6 j7 : UInt8, ∃ Ao no co Ab nb cb, e = .returned (.tuple #[.agg #[.int .i64 f0, .int .i64 f1, .int .i64 f2, .int .i64 f3, .int .i64 f4, .int .i64 f5, .int .u8 (j0.toNat : Int), .int .u8 (j1.toNat : Int), .int .u8 (j2.toNat : Int), .int .u8 (j3.toNat : Int), .int .u8 (j4.toNat : Int), .int .u8 (j5.toNat : Int), .int .u8 (j6.toNat : Int), .int .u8 (j7.toNat : Int), .slice Ao no co, .slice Ab nb cb], .int .i64 er]) ∧ Below w.heap.size w w' := by
  subst h
  exact udput_er 0 0 0 0 64 0 10 0 0 1 10 0 0 2 none none 0 0 0 0 df dt D nd cd [] ld w (Sl.nil w) hb hn (by omega)
set_option maxRecDepth 100000 in
set_option maxHeartbeats 16000000 in
theorem udpKnown_walk (w : World) : Calls Try.prog 3 #[] w fun e w' => e = .returned (.bool true) ∧ Below w.heap.size w w' := by
  obtain ⟨ii, hii, hz0, hz1, hz2⟩ := info_parts Try.info5
  have bel := Below.refl w.heap.size w
  go_enter Try.func3, Try.ntmps3
  go_wp2_with fail
  with_reducible refine (awake7 _).mono ?_
  rintro e w1 ⟨rfl, b1⟩
  replace bel := bel.trans (b1.mono bel.size)
  clear b1
  go_wp2_with fail
  with_reducible refine (base7 _).mono ?_
  rintro e w2 ⟨rfl, b2⟩
  replace bel := bel.trans (b2.mono bel.size)
  clear b2
  go_wp2_with (first | ((with_reducible show wpList _ _ _ (⟨some 25, _, _, _, _, _⟩ :: _) _ _); refine wpList_lit_n rfl 25 5 1 _ rfl #[.int .u8 120] (.int .u8 0) Try.underlying25 (by kernel_rfl) 1 (by kernel_rfl) (by decide) (by kernel_rfl) ?_; intro g25 w3 ge lt hh bb; have hl : w3.heap[g25]? = some (.cells (([120] : List UInt8).map u8v).toArray 5 (0, 0)) := (by simpa [u8v, byteOf_val] using hh); have sxw := own_lit (B := w2.heap.size) ([120]) hl ge 1 rfl (by simp [maxLen]); have sx := (own_sl sxw).1; have sxlo := bel.size; clear hl; have sxge := ge; have lz_sx := bb.size; have ob25 := Nat.le_trans bel.size ge; replace bel := bel.trans (bb.mono bel.size); have hb25 := hh; clear hh lt ge bb) | ((with_reducible show wpList _ _ _ (⟨some 26, _, _, _, _, _⟩ :: _) _ _); refine wpList_mark_n rfl 25 5 (.tmp 25) rfl Try.underlying25 Try.underlying5 g25 #[.int .u8 120] _ _ rfl hb25 ?_; intro w4 hq gr; replace lz_sx := Nat.le_trans lz_sx gr.size; replace bel := below_grown bel gr ob25 bel.size; clear hb25; have hb25 := hq; clear hq gr; replace sx : Sl w4 (some ⟨g25, 0, none⟩) 1 1 ([120]) := sl_lit ([120]) hb25 rfl (by simp [maxLen]); clear sxw))
  with_reducible refine (kput_ok 5 6 _ 1 1 [120] _ sx (by decide) (by decide) (by omega)).mono ?_
  rintro e w5 ⟨Ao, co, Ab, cb, rfl, po, pb, fb, b5⟩
  have av_pb_b25 := fb.av (hlt hb25)
  replace hb25 := blk_u hb25 b5
  replace sx := sx.below b5
  replace lz_sx := Nat.le_trans lz_sx b5.size
  replace bel := bel.trans (b5.mono bel.size)
  clear b5
  replace pb : Sl w5 (Ab) (9) (cb) (pb7) := pb
  clear po
  clear sx lz_sx
  clear hb25
  go_wp2_with (first | ((with_reducible show wpList _ _ _ (⟨some 1, _, _, _, _, _⟩ :: _) _ _); refine wpList_new_a rfl 27 rfl #[.int .i64 0, .int .i64 0, .int .i64 0, .int .i64 0, .int .i64 0, .int .i64 0, .int .u8 0, .int .u8 0, .int .u8 0, .int .u8 0, .int .u8 0, .int .u8 0, .int .u8 0, .int .u8 0, .slice none 0 0, .slice none 0 0] (by kernel_rfl) ?_; intro g1 w6 ge hh bb; have av_pb_p := pb.av_new ge; have op := Nat.le_trans bel.size ge; replace pb := pb.below bb; replace bel := bel.trans (bb.mono bel.size); have hp := hh; clear hh ge bb) | ((with_reducible show wpList _ _ _ (⟨none, Op.store _ (.tmp 1) _, _, _, _, _⟩ :: _) _ _); refine wpList_store_blk rfl 27 (.tmp 1) (.tmp 29) rfl g1 rfl _ rfl _ 27 hp (by rfl) (by kernel_rfl) (by kernel_rfl) ?_; intro w7 hq gr; replace pb := pb.away av_pb_p gr; replace bel := below_grown bel gr op bel.size; clear hp; have hp := hq; clear hq gr))
  go_cut [3, 4, 5, 6] from 9999 (fun s3 s4 s5 s6 W => ∃ g3 : Nat, ∃ g4 : Nat, ∃ g5 : Nat, ∃ g6 : Nat, s3 = .pointer (some ⟨g3, 0, none⟩) ∧ s4 = .pointer (some ⟨g4, 0, none⟩) ∧ s5 = .pointer (some ⟨g5, 0, none⟩) ∧ s6 = .pointer (some ⟨g6, 0, none⟩) ∧ W.heap[g1]? = some (.cells #[.int .i64 0, .int .i64 0, .int .i64 0, .int .i64 0, .int .i64 64, .int .i64 17, .int .u8 10, .int .u8 0, .int .u8 0, .int .u8 1, .int .u8 10, .int .u8 0, .int .u8 0, .int .u8 2, .slice Ao 0 co, .slice Ab 9 cb] 27 (0, 0)) ∧ W.heap[g3]? = some (.cells #[.int .i64 0, .int .i64 0, .int .i64 0, .int .i64 0, .int .i64 64, .int .i64 17, .int .u8 10, .int .u8 0, .int .u8 0, .int .u8 1, .int .u8 10, .int .u8 0, .int .u8 0, .int .u8 2, .slice Ao 0 co, .slice Ab 9 cb] 27 (0, 0)) ∧ w.heap.size ≤ g3 ∧ W.heap[g4]? = some (.cells #[.int .i64 0, .int .i64 0, .int .i64 0, .int .i64 0, .int .i64 64, .int .i64 17, .int .u8 10, .int .u8 0, .int .u8 0, .int .u8 1, .int .u8 10, .int .u8 0, .int .u8 0, .int .u8 2, .slice Ao 0 co, .slice Ab 9 cb] 27 (0, 0)) ∧ w.heap.size ≤ g4 ∧ W.heap[g5]? = some (.cells #[.int .i64 0, .int .i64 0, .int .i64 0, .int .i64 0, .int .i64 64, .int .i64 17, .int .u8 10, .int .u8 0, .int .u8 0, .int .u8 1, .int .u8 10, .int .u8 0, .int .u8 0, .int .u8 2, .slice Ao 0 co, .slice Ab 9 cb] 27 (0, 0)) ∧ w.heap.size ≤ g5 ∧ W.heap[g6]? = some (.cells #[.int .i64 0, .int .i64 0, .int .i64 0, .int .i64 0, .int .i64 64, .int .i64 17, .int .u8 10, .int .u8 0, .int .u8 0, .int .u8 1, .int .u8 10, .int .u8 0, .int .u8 0, .int .u8 2, .slice Ao 0 co, .slice Ab 9 cb] 27 (0, 0)) ∧ w.heap.size ≤ g6 ∧ Hid (g3 ≠ g4) ∧ Hid (g3 ≠ g5) ∧ Hid (g3 ≠ g6) ∧ Hid (g3 ≠ g1) ∧ Hid (g4 ≠ g5) ∧ Hid (g4 ≠ g6) ∧ Hid (g4 ≠ g1) ∧ Hid (g5 ≠ g6) ∧ Hid (g5 ≠ g1) ∧ Hid (g6 ≠ g1) ∧ Sl W (Ab) (9) (cb) (pb7) ∧ Av (Ab) (9) g3 ∧ Av (Ab) (9) g4 ∧ Av (Ab) (9) g5 ∧ Av (Ab) (9) g6 ∧ Av (Ab) (9) g1 ∧ Below w.heap.size w W)
  case first =>
    replace bel := bel.drew
    replace hp : w7.drew.heap[g1]? = _ := hp
    replace pb := pb.drew
    refine wp_region_held_drew (S := fun W => W.heap[g1]? = some (.cells #[.int .i64 0, .int .i64 0, .int .i64 0, .int .i64 0, .int .i64 64, .int .i64 17, .int .u8 10, .int .u8 0, .int .u8 0, .int .u8 1, .int .u8 10, .int .u8 0, .int .u8 0, .int .u8 2, .slice Ao 0 co, .slice Ab 9 cb] 27 (0, 0))) (by kernel_rfl) hp (fun hH => ?_)
    generalize w7.drew = w8 at bel hp pb hH ⊢
    refine wpAnyH_take (i := 0) (v := .agg #[.int .i64 0, .int .i64 0, .int .i64 0, .int .i64 0, .int .i64 64, .int .i64 17, .int .u8 10, .int .u8 0, .int .u8 0, .int .u8 1, .int .u8 10, .int .u8 0, .int .u8 0, .int .u8 2, .slice Ao 0 co, .slice Ab 9 cb]) rfl (by kernel_rfl) (by kernel_rfl) (by kernel_rfl) (fun _ _ _ h => h) (yieldsIf_load_part (by kernel_rfl) 27 _ rfl g1 0 16 rfl _ 27 (0, 0) (fun W hW => hW) _ rfl _ Try.underlying27 rfl (by kernel_rfl)) hH ?_
    simp only [Act.put, List.getElem_toArray, List.getElem_cons_zero, List.setIfInBounds_toArray, List.set_cons_zero, List.set_cons_succ]
    refine wpAnyH_take (i := 1) (v := .agg #[.int .i64 0, .int .i64 0, .int .i64 0, .int .i64 0, .int .i64 64, .int .i64 17, .int .u8 10, .int .u8 0, .int .u8 0, .int .u8 1, .int .u8 10, .int .u8 0, .int .u8 0, .int .u8 2, .slice Ao 0 co, .slice Ab 9 cb]) rfl (by kernel_rfl) (by kernel_rfl) (by kernel_rfl) (fun _ _ _ h => h) (yieldsIf_load_part (by kernel_rfl) 27 _ rfl g1 0 16 rfl _ 27 (0, 0) (fun W hW => hW) _ rfl _ Try.underlying27 rfl (by kernel_rfl)) hH ?_
    simp only [Act.put, List.getElem_toArray, List.getElem_cons_zero, List.getElem_cons_succ, List.setIfInBounds_toArray, List.set_cons_zero, List.set_cons_succ]
    refine wpAnyH_take (i := 2) (v := .agg #[.int .i64 0, .int .i64 0, .int .i64 0, .int .i64 0, .int .i64 64, .int .i64 17, .int .u8 10, .int .u8 0, .int .u8 0, .int .u8 1, .int .u8 10, .int .u8 0, .int .u8 0, .int .u8 2, .slice Ao 0 co, .slice Ab 9 cb]) rfl (by kernel_rfl) (by kernel_rfl) (by kernel_rfl) (fun _ _ _ h => h) (yieldsIf_load_part (by kernel_rfl) 27 _ rfl g1 0 16 rfl _ 27 (0, 0) (fun W hW => hW) _ rfl _ Try.underlying27 rfl (by kernel_rfl)) hH ?_
    simp only [Act.put, List.getElem_toArray, List.getElem_cons_zero, List.getElem_cons_succ, List.setIfInBounds_toArray, List.set_cons_zero, List.set_cons_succ]
    refine wpAnyH_take (i := 3) (v := .agg #[.int .i64 0, .int .i64 0, .int .i64 0, .int .i64 0, .int .i64 64, .int .i64 17, .int .u8 10, .int .u8 0, .int .u8 0, .int .u8 1, .int .u8 10, .int .u8 0, .int .u8 0, .int .u8 2, .slice Ao 0 co, .slice Ab 9 cb]) rfl (by kernel_rfl) (by kernel_rfl) (by kernel_rfl) (fun _ _ _ h => h) (yieldsIf_load_part (by kernel_rfl) 27 _ rfl g1 0 16 rfl _ 27 (0, 0) (fun W hW => hW) _ rfl _ Try.underlying27 rfl (by kernel_rfl)) hH ?_
    simp only [Act.put, List.getElem_toArray, List.getElem_cons_zero, List.getElem_cons_succ, List.setIfInBounds_toArray, List.set_cons_zero, List.set_cons_succ]
    refine wpAnyH_ready (rs := [4, 5, 6, 7]) (by kernel_rfl) (by simp) ?_
    refine AllReadyH.cons (o := _) rfl (fun K hK => ?_) (AllReadyH.cons (o := _) rfl (fun K hK => ?_) (AllReadyH.cons (o := _) rfl (fun K hK => ?_) (AllReadyH.cons (o := _) rfl (fun K hK => ?_) AllReadyH.nil)))
    · simp only [List.getElem_toArray, List.getElem_cons_zero, List.getElem_cons_succ]
      rw [if_pos (by rfl)]
      refine wp_new_a 27 rfl #[.int .i64 0, .int .i64 0, .int .i64 0, .int .i64 0, .int .i64 0, .int .i64 0, .int .u8 0, .int .u8 0, .int .u8 0, .int .u8 0, .int .u8 0, .int .u8 0, .int .u8 0, .int .u8 0, .slice none 0 0, .slice none 0 0] (by kernel_rfl) ?_
      intro g3 w9 ge hh bb
      have d_p_a3 := ne_new (hlt hp) ge
      have av_pb_a3 := pb.av_new ge
      have oa3 := Nat.le_trans bel.size ge
      replace hp := blk_u hp bb
      replace pb := pb.below bb
      replace bel := bel.trans (bb.mono bel.size)
      have ha3 := hh
      clear hh ge bb
      refine hK.out _ _ hp (fun hH10 => ?_)
      clear hK K
      simp only [Act.put, List.setIfInBounds_toArray, List.set_cons_zero, List.set_cons_succ]
      refine wpAnyH_ready (rs := [5, 6, 7]) (by kernel_rfl) (by simp) ?_
      refine AllReadyH.cons (o := _) rfl (fun K hK => ?_) (AllReadyH.cons (o := _) rfl (fun K hK => ?_) (AllReadyH.cons (o := _) rfl (fun K hK => ?_) AllReadyH.nil))
      · simp only [List.getElem_toArray, List.getElem_cons_zero, List.getElem_cons_succ]
        rw [if_pos (by rfl)]
        refine wp_new_a 27 rfl #[.int .i64 0, .int .i64 0, .int .i64 0, .int .i64 0, .int .i64 0, .int .i64 0, .int .u8 0, .int .u8 0, .int .u8 0, .int .u8 0, .int .u8 0, .int .u8 0, .int .u8 0, .int .u8 0, .slice none 0 0, .slice none 0 0] (by kernel_rfl) ?_
        intro g4 w11 ge hh bb
        have d_p_a4 := ne_new (hlt hp) ge
        have d_a3_a4 := ne_new (hlt ha3) ge
        have av_pb_a4 := pb.av_new ge
        have oa4 := Nat.le_trans bel.size ge
        replace hp := blk_u hp bb
        replace ha3 := blk_u ha3 bb
        replace pb := pb.below bb
        replace bel := bel.trans (bb.mono bel.size)
        have ha4 := hh
        clear hh ge bb
        refine hK.out _ _ hp (fun hH12 => ?_)
        clear hK K
        simp only [Act.put, List.setIfInBounds_toArray, List.set_cons_zero, List.set_cons_succ]
        refine wpAnyH_ready (rs := [6, 7]) (by kernel_rfl) (by simp) ?_
        refine AllReadyH.cons (o := _) rfl (fun K hK => ?_) (AllReadyH.cons (o := _) rfl (fun K hK => ?_) AllReadyH.nil)
        · simp only [List.getElem_toArray, List.getElem_cons_zero, List.getElem_cons_succ]
          rw [if_pos (by rfl)]
          refine wp_new_a 27 rfl #[.int .i64 0, .int .i64 0, .int .i64 0, .int .i64 0, .int .i64 0, .int .i64 0, .int .u8 0, .int .u8 0, .int .u8 0, .int .u8 0, .int .u8 0, .int .u8 0, .int .u8 0, .int .u8 0, .slice none 0 0, .slice none 0 0] (by kernel_rfl) ?_
          intro g5 w13 ge hh bb
          have d_p_a5 := ne_new (hlt hp) ge
          have d_a3_a5 := ne_new (hlt ha3) ge
          have d_a4_a5 := ne_new (hlt ha4) ge
          have av_pb_a5 := pb.av_new ge
          have oa5 := Nat.le_trans bel.size ge
          replace hp := blk_u hp bb
          replace ha3 := blk_u ha3 bb
          replace ha4 := blk_u ha4 bb
          replace pb := pb.below bb
          replace bel := bel.trans (bb.mono bel.size)
          have ha5 := hh
          clear hh ge bb
          refine hK.out _ _ hp (fun hH14 => ?_)
          clear hK K
          simp only [Act.put, List.setIfInBounds_toArray, List.set_cons_zero, List.set_cons_succ]
          refine wpAnyH_ready (rs := [7]) (by kernel_rfl) (by simp) ?_
          refine AllReadyH.cons (o := _) rfl (fun K hK => ?_) AllReadyH.nil
          simp only [List.getElem_toArray, List.getElem_cons_zero, List.getElem_cons_succ]
          rw [if_pos (by rfl)]
          refine wp_new_a 27 rfl #[.int .i64 0, .int .i64 0, .int .i64 0, .int .i64 0, .int .i64 0, .int .i64 0, .int .u8 0, .int .u8 0, .int .u8 0, .int .u8 0, .int .u8 0, .int .u8 0, .int .u8 0, .int .u8 0, .slice none 0 0, .slice none 0 0] (by kernel_rfl) ?_
          intro g6 w15 ge hh bb
          have d_p_a6 := ne_new (hlt hp) ge
          have d_a3_a6 := ne_new (hlt ha3) ge
          have d_a4_a6 := ne_new (hlt ha4) ge
          have d_a5_a6 := ne_new (hlt ha5) ge
          have av_pb_a6 := pb.av_new ge
          have oa6 := Nat.le_trans bel.size ge
          replace hp := blk_u hp bb
          replace ha3 := blk_u ha3 bb
          replace ha4 := blk_u ha4 bb
          replace ha5 := blk_u ha5 bb
          replace pb := pb.below bb
          replace bel := bel.trans (bb.mono bel.size)
          have ha6 := hh
          clear hh ge bb
          refine hK.out _ _ hp (fun hH16 => ?_)
          clear hK K
          simp only [Act.put, List.setIfInBounds_toArray, List.set_cons_zero, List.set_cons_succ]
          refine wpAnyH_ready (rs := [8]) (by kernel_rfl) (by simp) ?_
          refine AllReadyH.cons (o := _) rfl (fun K hK => ?_) AllReadyH.nil
          simp only [List.getElem_toArray, List.getElem_cons_zero, List.getElem_cons_succ]
          rw [if_pos (by rfl)]
          refine wp_store_blk 27 (.tmp 3) (.tmp 31) rfl g3 rfl _ rfl _ 27 ha3 (by rfl) (by kernel_rfl) (by kernel_rfl) ?_
          intro w17 hq gr
          replace pb := pb.away av_pb_a3 gr
          replace hp := blk_a hp gr d_p_a3
          replace ha4 := blk_a ha4 gr (ne_symm d_a3_a4)
          replace ha5 := blk_a ha5 gr (ne_symm d_a3_a5)
          replace ha6 := blk_a ha6 gr (ne_symm d_a3_a6)
          replace bel := below_grown bel gr oa3 bel.size
          clear ha3
          have ha3 := hq
          clear hq gr
          refine hK.out _ _ hp (fun hH18 => ?_)
          clear hK K
          simp only [Act.put]
          refine wpAnyH_ready (rs := [9]) (by kernel_rfl) (by simp) ?_
          refine AllReadyH.cons (o := _) rfl (fun K hK => ?_) AllReadyH.nil
          simp only [List.getElem_toArray, List.getElem_cons_zero, List.getElem_cons_succ]
          rw [if_pos (by rfl)]
          refine wp_store_blk 27 (.tmp 4) (.tmp 32) rfl g4 rfl _ rfl _ 27 ha4 (by rfl) (by kernel_rfl) (by kernel_rfl) ?_
          intro w19 hq gr
          replace pb := pb.away av_pb_a4 gr
          replace hp := blk_a hp gr d_p_a4
          replace ha3 := blk_a ha3 gr d_a3_a4
          replace ha5 := blk_a ha5 gr (ne_symm d_a4_a5)
          replace ha6 := blk_a ha6 gr (ne_symm d_a4_a6)
          replace bel := below_grown bel gr oa4 bel.size
          clear ha4
          have ha4 := hq
          clear hq gr
          refine hK.out _ _ hp (fun hH20 => ?_)
          clear hK K
          simp only [Act.put]
          refine wpAnyH_ready (rs := [10]) (by kernel_rfl) (by simp) ?_
          refine AllReadyH.cons (o := _) rfl (fun K hK => ?_) AllReadyH.nil
          simp only [List.getElem_toArray, List.getElem_cons_zero, List.getElem_cons_succ]
          rw [if_pos (by rfl)]
          refine wp_store_blk 27 (.tmp 5) (.tmp 33) rfl g5 rfl _ rfl _ 27 ha5 (by rfl) (by kernel_rfl) (by kernel_rfl) ?_
          intro w21 hq gr
          replace pb := pb.away av_pb_a5 gr
          replace hp := blk_a hp gr d_p_a5
          replace ha3 := blk_a ha3 gr d_a3_a5
          replace ha4 := blk_a ha4 gr d_a4_a5
          replace ha6 := blk_a ha6 gr (ne_symm d_a5_a6)
          replace bel := below_grown bel gr oa5 bel.size
          clear ha5
          have ha5 := hq
          clear hq gr
          refine hK.out _ _ hp (fun hH22 => ?_)
          clear hK K
          simp only [Act.put]
          refine wpAnyH_ready (rs := [11]) (by kernel_rfl) (by simp) ?_
          refine AllReadyH.cons (o := _) rfl (fun K hK => ?_) AllReadyH.nil
          simp only [List.getElem_toArray, List.getElem_cons_zero, List.getElem_cons_succ]
          rw [if_pos (by rfl)]
          refine wp_store_blk 27 (.tmp 6) (.tmp 34) rfl g6 rfl _ rfl _ 27 ha6 (by rfl) (by kernel_rfl) (by kernel_rfl) ?_
          intro w23 hq gr
          replace pb := pb.away av_pb_a6 gr
          replace hp := blk_a hp gr d_p_a6
          replace ha3 := blk_a ha3 gr d_a3_a6
          replace ha4 := blk_a ha4 gr d_a4_a6
          replace ha5 := blk_a ha5 gr d_a5_a6
          replace bel := below_grown bel gr oa6 bel.size
          clear ha6
          have ha6 := hq
          clear hq gr
          refine hK.out _ _ hp (fun hH24 => ?_)
          clear hK K
          simp only [Act.put]
          refine wpAnyH_done (by kernel_rfl) ?_ _
          go_wp2_with fail
          go_meet
          case rel => exact ⟨g3, g4, g5, g6, rfl, rfl, rfl, rfl, hp, ha3, oa3, ha4, oa4, ha5, oa5, ha6, oa6, d_a3_a4, d_a3_a5, d_a3_a6, (ne_symm d_p_a3), d_a4_a5, d_a4_a6, (ne_symm d_p_a4), d_a5_a6, (ne_symm d_p_a5), (ne_symm d_p_a6), pb, av_pb_a3, av_pb_a4, av_pb_a5, av_pb_a6, av_pb_p, bel⟩
        · simp only [List.getElem_toArray, List.getElem_cons_zero, List.getElem_cons_succ]
          rw [if_pos (by rfl)]
          refine wp_new_a 27 rfl #[.int .i64 0, .int .i64 0, .int .i64 0, .int .i64 0, .int .i64 0, .int .i64 0, .int .u8 0, .int .u8 0, .int .u8 0, .int .u8 0, .int .u8 0, .int .u8 0, .int .u8 0, .int .u8 0, .slice none 0 0, .slice none 0 0] (by kernel_rfl) ?_
          intro g6 w13 ge hh bb
          have d_p_a6 := ne_new (hlt hp) ge
          have d_a3_a6 := ne_new (hlt ha3) ge
          have d_a4_a6 := ne_new (hlt ha4) ge
          have av_pb_a6 := pb.av_new ge
          have oa6 := Nat.le_trans bel.size ge
          replace hp := blk_u hp bb
          replace ha3 := blk_u ha3 bb
          replace ha4 := blk_u ha4 bb
          replace pb := pb.below bb
          replace bel := bel.trans (bb.mono bel.size)
          have ha6 := hh
          clear hh ge bb
          refine hK.out _ _ hp (fun hH14 => ?_)
          clear hK K
          simp only [Act.put, List.setIfInBounds_toArray, List.set_cons_zero, List.set_cons_succ]
          refine wpAnyH_ready (rs := [6]) (by kernel_rfl) (by simp) ?_
          refine AllReadyH.cons (o := _) rfl (fun K hK => ?_) AllReadyH.nil
          simp only [List.getElem_toArray, List.getElem_cons_zero, List.getElem_cons_succ]
          rw [if_pos (by rfl)]
          refine wp_new_a 27 rfl #[.int .i64 0, .int .i64 0, .int .i64 0, .int .i64 0, .int .i64 0, .int .i64 0, .int .u8 0, .int .u8 0, .int .u8 0, .int .u8 0, .int .u8 0, .int .u8 0, .int .u8 0, .int .u8 0, .slice none 0 0, .slice none 0 0] (by kernel_rfl) ?_
          intro g5 w15 ge hh bb
          have d_p_a5 := ne_new (hlt hp) ge
          have d_a3_a5 := ne_new (hlt ha3) ge
          have d_a4_a5 := ne_new (hlt ha4) ge
          have d_a6_a5 := ne_new (hlt ha6) ge
          have av_pb_a5 := pb.av_new ge
          have oa5 := Nat.le_trans bel.size ge
          replace hp := blk_u hp bb
          replace ha3 := blk_u ha3 bb
          replace ha4 := blk_u ha4 bb
          replace ha6 := blk_u ha6 bb
          replace pb := pb.below bb
          replace bel := bel.trans (bb.mono bel.size)
          have ha5 := hh
          clear hh ge bb
          refine hK.out _ _ hp (fun hH16 => ?_)
          clear hK K
          simp only [Act.put, List.setIfInBounds_toArray, List.set_cons_zero, List.set_cons_succ]
          refine wpAnyH_ready (rs := [8]) (by kernel_rfl) (by simp) ?_
          refine AllReadyH.cons (o := _) rfl (fun K hK => ?_) AllReadyH.nil
          simp only [List.getElem_toArray, List.getElem_cons_zero, List.getElem_cons_succ]
          rw [if_pos (by rfl)]
          refine wp_store_blk 27 (.tmp 3) (.tmp 31) rfl g3 rfl _ rfl _ 27 ha3 (by rfl) (by kernel_rfl) (by kernel_rfl) ?_
          intro w17 hq gr
          replace pb := pb.away av_pb_a3 gr
          replace hp := blk_a hp gr d_p_a3
          replace ha4 := blk_a ha4 gr (ne_symm d_a3_a4)
          replace ha6 := blk_a ha6 gr (ne_symm d_a3_a6)
          replace ha5 := blk_a ha5 gr (ne_symm d_a3_a5)
          replace bel := below_grown bel gr oa3 bel.size
          clear ha3
          have ha3 := hq
          clear hq gr
          refine hK.out _ _ hp (fun hH18 => ?_)
          clear hK K
          simp only [Act.put]
          refine wpAnyH_ready (rs := [9]) (by kernel_rfl) (by simp) ?_
          refine AllReadyH.cons (o := _) rfl (fun K hK => ?_) AllReadyH.nil
          simp only [List.getElem_toArray, List.getElem_cons_zero, List.getElem_cons_succ]
          rw [if_pos (by rfl)]
          refine wp_store_blk 27 (.tmp 4) (.tmp 32) rfl g4 rfl _ rfl _ 27 ha4 (by rfl) (by kernel_rfl) (by kernel_rfl) ?_
          intro w19 hq gr
          replace pb := pb.away av_pb_a4 gr
          replace hp := blk_a hp gr d_p_a4
          replace ha3 := blk_a ha3 gr d_a3_a4
          replace ha6 := blk_a ha6 gr (ne_symm d_a4_a6)
          replace ha5 := blk_a ha5 gr (ne_symm d_a4_a5)
          replace bel := below_grown bel gr oa4 bel.size
          clear ha4
          have ha4 := hq
          clear hq gr
          refine hK.out _ _ hp (fun hH20 => ?_)
          clear hK K
          simp only [Act.put]
          refine wpAnyH_ready (rs := [10]) (by kernel_rfl) (by simp) ?_
          refine AllReadyH.cons (o := _) rfl (fun K hK => ?_) AllReadyH.nil
          simp only [List.getElem_toArray, List.getElem_cons_zero, List.getElem_cons_succ]
          rw [if_pos (by rfl)]
          refine wp_store_blk 27 (.tmp 5) (.tmp 33) rfl g5 rfl _ rfl _ 27 ha5 (by rfl) (by kernel_rfl) (by kernel_rfl) ?_
          intro w21 hq gr
          replace pb := pb.away av_pb_a5 gr
          replace hp := blk_a hp gr d_p_a5
          replace ha3 := blk_a ha3 gr d_a3_a5
          replace ha4 := blk_a ha4 gr d_a4_a5
          replace ha6 := blk_a ha6 gr d_a6_a5
          replace bel := below_grown bel gr oa5 bel.size
          clear ha5
          have ha5 := hq
          clear hq gr
          refine hK.out _ _ hp (fun hH22 => ?_)
          clear hK K
          simp only [Act.put]
          refine wpAnyH_ready (rs := [11]) (by kernel_rfl) (by simp) ?_
          refine AllReadyH.cons (o := _) rfl (fun K hK => ?_) AllReadyH.nil
          simp only [List.getElem_toArray, List.getElem_cons_zero, List.getElem_cons_succ]
          rw [if_pos (by rfl)]
          refine wp_store_blk 27 (.tmp 6) (.tmp 34) rfl g6 rfl _ rfl _ 27 ha6 (by rfl) (by kernel_rfl) (by kernel_rfl) ?_
          intro w23 hq gr
          replace pb := pb.away av_pb_a6 gr
          replace hp := blk_a hp gr d_p_a6
          replace ha3 := blk_a ha3 gr d_a3_a6
          replace ha4 := blk_a ha4 gr d_a4_a6
          replace ha5 := blk_a ha5 gr (ne_symm d_a6_a5)
          replace bel := below_grown bel gr oa6 bel.size
          clear ha6
          have ha6 := hq
          clear hq gr
          refine hK.out _ _ hp (fun hH24 => ?_)
          clear hK K
          simp only [Act.put]
          refine wpAnyH_done (by kernel_rfl) ?_ _
          go_wp2_with fail
          go_meet
          case rel => exact ⟨g3, g4, g5, g6, rfl, rfl, rfl, rfl, hp, ha3, oa3, ha4, oa4, ha5, oa5, ha6, oa6, d_a3_a4, d_a3_a5, d_a3_a6, (ne_symm d_p_a3), d_a4_a5, d_a4_a6, (ne_symm d_p_a4), (ne_symm d_a6_a5), (ne_symm d_p_a5), (ne_symm d_p_a6), pb, av_pb_a3, av_pb_a4, av_pb_a5, av_pb_a6, av_pb_p, bel⟩
      · simp only [List.getElem_toArray, List.getElem_cons_zero, List.getElem_cons_succ]
        rw [if_pos (by rfl)]
        refine wp_new_a 27 rfl #[.int .i64 0, .int .i64 0, .int .i64 0, .int .i64 0, .int .i64 0, .int .i64 0, .int .u8 0, .int .u8 0, .int .u8 0, .int .u8 0, .int .u8 0, .int .u8 0, .int .u8 0, .int .u8 0, .slice none 0 0, .slice none 0 0] (by kernel_rfl) ?_
        intro g5 w11 ge hh bb
        have d_p_a5 := ne_new (hlt hp) ge
        have d_a3_a5 := ne_new (hlt ha3) ge
        have av_pb_a5 := pb.av_new ge
        have oa5 := Nat.le_trans bel.size ge
        replace hp := blk_u hp bb
        replace ha3 := blk_u ha3 bb
        replace pb := pb.below bb
        replace bel := bel.trans (bb.mono bel.size)
        have ha5 := hh
        clear hh ge bb
        refine hK.out _ _ hp (fun hH12 => ?_)
        clear hK K
        simp only [Act.put, List.setIfInBounds_toArray, List.set_cons_zero, List.set_cons_succ]
        refine wpAnyH_ready (rs := [5, 7]) (by kernel_rfl) (by simp) ?_
        refine AllReadyH.cons (o := _) rfl (fun K hK => ?_) (AllReadyH.cons (o := _) rfl (fun K hK => ?_) AllReadyH.nil)
        · simp only [List.getElem_toArray, List.getElem_cons_zero, List.getElem_cons_succ]
          rw [if_pos (by rfl)]
          refine wp_new_a 27 rfl #[.int .i64 0, .int .i64 0, .int .i64 0, .int .i64 0, .int .i64 0, .int .i64 0, .int .u8 0, .int .u8 0, .int .u8 0, .int .u8 0, .int .u8 0, .int .u8 0, .int .u8 0, .int .u8 0, .slice none 0 0, .slice none 0 0] (by kernel_rfl) ?_
          intro g4 w13 ge hh bb
          have d_p_a4 := ne_new (hlt hp) ge
          have d_a3_a4 := ne_new (hlt ha3) ge
          have d_a5_a4 := ne_new (hlt ha5) ge
          have av_pb_a4 := pb.av_new ge
          have oa4 := Nat.le_trans bel.size ge
          replace hp := blk_u hp bb
          replace ha3 := blk_u ha3 bb
          replace ha5 := blk_u ha5 bb
          replace pb := pb.below bb
          replace bel := bel.trans (bb.mono bel.size)
          have ha4 := hh
          clear hh ge bb
          refine hK.out _ _ hp (fun hH14 => ?_)
          clear hK K
          simp only [Act.put, List.setIfInBounds_toArray, List.set_cons_zero, List.set_cons_succ]
          refine wpAnyH_ready (rs := [7]) (by kernel_rfl) (by simp) ?_
          refine AllReadyH.cons (o := _) rfl (fun K hK => ?_) AllReadyH.nil
          simp only [List.getElem_toArray, List.getElem_cons_zero, List.getElem_cons_succ]
          rw [if_pos (by rfl)]
          refine wp_new_a 27 rfl #[.int .i64 0, .int .i64 0, .int .i64 0, .int .i64 0, .int .i64 0, .int .i64 0, .int .u8 0, .int .u8 0, .int .u8 0, .int .u8 0, .int .u8 0, .int .u8 0, .int .u8 0, .int .u8 0, .slice none 0 0, .slice none 0 0] (by kernel_rfl) ?_
          intro g6 w15 ge hh bb
          have d_p_a6 := ne_new (hlt hp) ge
          have d_a3_a6 := ne_new (hlt ha3) ge
          have d_a5_a6 := ne_new (hlt ha5) ge
          have d_a4_a6 := ne_new (hlt ha4) ge
          have av_pb_a6 := pb.av_new ge
          have oa6 := Nat.le_trans bel.size ge
          replace hp := blk_u hp bb
          replace ha3 := blk_u ha3 bb
          replace ha5 := blk_u ha5 bb
          replace ha4 := blk_u ha4 bb
          replace pb := pb.below bb
          replace bel := bel.trans (bb.mono bel.size)
          have ha6 := hh
          clear hh ge bb
          refine hK.out _ _ hp (fun hH16 => ?_)
          clear hK K
          simp only [Act.put, List.setIfInBounds_toArray, List.set_cons_zero, List.set_cons_succ]
          refine wpAnyH_ready (rs := [8]) (by kernel_rfl) (by simp) ?_
          refine AllReadyH.cons (o := _) rfl (fun K hK => ?_) AllReadyH.nil
          simp only [List.getElem_toArray, List.getElem_cons_zero, List.getElem_cons_succ]
          rw [if_pos (by rfl)]
          refine wp_store_blk 27 (.tmp 3) (.tmp 31) rfl g3 rfl _ rfl _ 27 ha3 (by rfl) (by kernel_rfl) (by kernel_rfl) ?_
          intro w17 hq gr
          replace pb := pb.away av_pb_a3 gr
          replace hp := blk_a hp gr d_p_a3
          replace ha5 := blk_a ha5 gr (ne_symm d_a3_a5)
          replace ha4 := blk_a ha4 gr (ne_symm d_a3_a4)
          replace ha6 := blk_a ha6 gr (ne_symm d_a3_a6)
          replace bel := below_grown bel gr oa3 bel.size
          clear ha3
          have ha3 := hq
          clear hq gr
          refine hK.out _ _ hp (fun hH18 => ?_)
          clear hK K
          simp only [Act.put]
          refine wpAnyH_ready (rs := [9]) (by kernel_rfl) (by simp) ?_
          refine AllReadyH.cons (o := _) rfl (fun K hK => ?_) AllReadyH.nil
          simp only [List.getElem_toArray, List.getElem_cons_zero, List.getElem_cons_succ]
          rw [if_pos (by rfl)]
          refine wp_store_blk 27 (.tmp 4) (.tmp 32) rfl g4 rfl _ rfl _ 27 ha4 (by rfl) (by kernel_rfl) (by kernel_rfl) ?_
          intro w19 hq gr
          replace pb := pb.away av_pb_a4 gr
          replace hp := blk_a hp gr d_p_a4
          replace ha3 := blk_a ha3 gr d_a3_a4
          replace ha5 := blk_a ha5 gr d_a5_a4
          replace ha6 := blk_a ha6 gr (ne_symm d_a4_a6)
          replace bel := below_grown bel gr oa4 bel.size
          clear ha4
          have ha4 := hq
          clear hq gr
          refine hK.out _ _ hp (fun hH20 => ?_)
          clear hK K
          simp only [Act.put]
          refine wpAnyH_ready (rs := [10]) (by kernel_rfl) (by simp) ?_
          refine AllReadyH.cons (o := _) rfl (fun K hK => ?_) AllReadyH.nil
          simp only [List.getElem_toArray, List.getElem_cons_zero, List.getElem_cons_succ]
          rw [if_pos (by rfl)]
          refine wp_store_blk 27 (.tmp 5) (.tmp 33) rfl g5 rfl _ rfl _ 27 ha5 (by rfl) (by kernel_rfl) (by kernel_rfl) ?_
          intro w21 hq gr
          replace pb := pb.away av_pb_a5 gr
          replace hp := blk_a hp gr d_p_a5
          replace ha3 := blk_a ha3 gr d_a3_a5
          replace ha4 := blk_a ha4 gr (ne_symm d_a5_a4)
          replace ha6 := blk_a ha6 gr (ne_symm d_a5_a6)
          replace bel := below_grown bel gr oa5 bel.size
          clear ha5
          have ha5 := hq
          clear hq gr
          refine hK.out _ _ hp (fun hH22 => ?_)
          clear hK K
          simp only [Act.put]
          refine wpAnyH_ready (rs := [11]) (by kernel_rfl) (by simp) ?_
          refine AllReadyH.cons (o := _) rfl (fun K hK => ?_) AllReadyH.nil
          simp only [List.getElem_toArray, List.getElem_cons_zero, List.getElem_cons_succ]
          rw [if_pos (by rfl)]
          refine wp_store_blk 27 (.tmp 6) (.tmp 34) rfl g6 rfl _ rfl _ 27 ha6 (by rfl) (by kernel_rfl) (by kernel_rfl) ?_
          intro w23 hq gr
          replace pb := pb.away av_pb_a6 gr
          replace hp := blk_a hp gr d_p_a6
          replace ha3 := blk_a ha3 gr d_a3_a6
          replace ha5 := blk_a ha5 gr d_a5_a6
          replace ha4 := blk_a ha4 gr d_a4_a6
          replace bel := below_grown bel gr oa6 bel.size
          clear ha6
          have ha6 := hq
          clear hq gr
          refine hK.out _ _ hp (fun hH24 => ?_)
          clear hK K
          simp only [Act.put]
          refine wpAnyH_done (by kernel_rfl) ?_ _
          go_wp2_with fail
          go_meet
          case rel => exact ⟨g3, g4, g5, g6, rfl, rfl, rfl, rfl, hp, ha3, oa3, ha4, oa4, ha5, oa5, ha6, oa6, d_a3_a4, d_a3_a5, d_a3_a6, (ne_symm d_p_a3), (ne_symm d_a5_a4), d_a4_a6, (ne_symm d_p_a4), d_a5_a6, (ne_symm d_p_a5), (ne_symm d_p_a6), pb, av_pb_a3, av_pb_a4, av_pb_a5, av_pb_a6, av_pb_p, bel⟩
        · simp only [List.getElem_toArray, List.getElem_cons_zero, List.getElem_cons_succ]
          rw [if_pos (by rfl)]
          refine wp_new_a 27 rfl #[.int .i64 0, .int .i64 0, .int .i64 0, .int .i64 0, .int .i64 0, .int .i64 0, .int .u8 0, .int .u8 0, .int .u8 0, .int .u8 0, .int .u8 0, .int .u8 0, .int .u8 0, .int .u8 0, .slice none 0 0, .slice none 0 0] (by kernel_rfl) ?_
          intro g6 w13 ge hh bb
          have d_p_a6 := ne_new (hlt hp) ge
          have d_a3_a6 := ne_new (hlt ha3) ge
          have d_a5_a6 := ne_new (hlt ha5) ge
          have av_pb_a6 := pb.av_new ge
          have oa6 := Nat.le_trans bel.size ge
          replace hp := blk_u hp bb
          replace ha3 := blk_u ha3 bb
          replace ha5 := blk_u ha5 bb
          replace pb := pb.below bb
          replace bel := bel.trans (bb.mono bel.size)
          have ha6 := hh
          clear hh ge bb
          refine hK.out _ _ hp (fun hH14 => ?_)
          clear hK K
          simp only [Act.put, List.setIfInBounds_toArray, List.set_cons_zero, List.set_cons_succ]
          refine wpAnyH_ready (rs := [5]) (by kernel_rfl) (by simp) ?_
          refine AllReadyH.cons (o := _) rfl (fun K hK => ?_) AllReadyH.nil
          simp only [List.getElem_toArray, List.getElem_cons_zero, List.getElem_cons_succ]
          rw [if_pos (by rfl)]
          refine wp_new_a 27 rfl #[.int .i64 0, .int .i64 0, .int .i64 0, .int .i64 0, .int .i64 0, .int .i64 0, .int .u8 0, .int .u8 0, .int .u8 0, .int .u8 0, .int .u8 0, .int .u8 0, .int .u8 0, .int .u8 0, .slice none 0 0, .slice none 0 0] (by kernel_rfl) ?_
          intro g4 w15 ge hh bb
          have d_p_a4 := ne_new (hlt hp) ge
          have d_a3_a4 := ne_new (hlt ha3) ge
          have d_a5_a4 := ne_new (hlt ha5) ge
          have d_a6_a4 := ne_new (hlt ha6) ge
          have av_pb_a4 := pb.av_new ge
          have oa4 := Nat.le_trans bel.size ge
          replace hp := blk_u hp bb
          replace ha3 := blk_u ha3 bb
          replace ha5 := blk_u ha5 bb
          replace ha6 := blk_u ha6 bb
          replace pb := pb.below bb
          replace bel := bel.trans (bb.mono bel.size)
          have ha4 := hh
          clear hh ge bb
          refine hK.out _ _ hp (fun hH16 => ?_)
          clear hK K
          simp only [Act.put, List.setIfInBounds_toArray, List.set_cons_zero, List.set_cons_succ]
          refine wpAnyH_ready (rs := [8]) (by kernel_rfl) (by simp) ?_
          refine AllReadyH.cons (o := _) rfl (fun K hK => ?_) AllReadyH.nil
          simp only [List.getElem_toArray, List.getElem_cons_zero, List.getElem_cons_succ]
          rw [if_pos (by rfl)]
          refine wp_store_blk 27 (.tmp 3) (.tmp 31) rfl g3 rfl _ rfl _ 27 ha3 (by rfl) (by kernel_rfl) (by kernel_rfl) ?_
          intro w17 hq gr
          replace pb := pb.away av_pb_a3 gr
          replace hp := blk_a hp gr d_p_a3
          replace ha5 := blk_a ha5 gr (ne_symm d_a3_a5)
          replace ha6 := blk_a ha6 gr (ne_symm d_a3_a6)
          replace ha4 := blk_a ha4 gr (ne_symm d_a3_a4)
          replace bel := below_grown bel gr oa3 bel.size
          clear ha3
          have ha3 := hq
          clear hq gr
          refine hK.out _ _ hp (fun hH18 => ?_)
          clear hK K
          simp only [Act.put]
          refine wpAnyH_ready (rs := [9]) (by kernel_rfl) (by simp) ?_
          refine AllReadyH.cons (o := _) rfl (fun K hK => ?_) AllReadyH.nil
          simp only [List.getElem_toArray, List.getElem_cons_zero, List.getElem_cons_succ]
          rw [if_pos (by rfl)]
          refine wp_store_blk 27 (.tmp 4) (.tmp 32) rfl g4 rfl _ rfl _ 27 ha4 (by rfl) (by kernel_rfl) (by kernel_rfl) ?_
          intro w19 hq gr
          replace pb := pb.away av_pb_a4 gr
          replace hp := blk_a hp gr d_p_a4
          replace ha3 := blk_a ha3 gr d_a3_a4
          replace ha5 := blk_a ha5 gr d_a5_a4
          replace ha6 := blk_a ha6 gr d_a6_a4
          replace bel := below_grown bel gr oa4 bel.size
          clear ha4
          have ha4 := hq
          clear hq gr
          refine hK.out _ _ hp (fun hH20 => ?_)
          clear hK K
          simp only [Act.put]
          refine wpAnyH_ready (rs := [10]) (by kernel_rfl) (by simp) ?_
          refine AllReadyH.cons (o := _) rfl (fun K hK => ?_) AllReadyH.nil
          simp only [List.getElem_toArray, List.getElem_cons_zero, List.getElem_cons_succ]
          rw [if_pos (by rfl)]
          refine wp_store_blk 27 (.tmp 5) (.tmp 33) rfl g5 rfl _ rfl _ 27 ha5 (by rfl) (by kernel_rfl) (by kernel_rfl) ?_
          intro w21 hq gr
          replace pb := pb.away av_pb_a5 gr
          replace hp := blk_a hp gr d_p_a5
          replace ha3 := blk_a ha3 gr d_a3_a5
          replace ha6 := blk_a ha6 gr (ne_symm d_a5_a6)
          replace ha4 := blk_a ha4 gr (ne_symm d_a5_a4)
          replace bel := below_grown bel gr oa5 bel.size
          clear ha5
          have ha5 := hq
          clear hq gr
          refine hK.out _ _ hp (fun hH22 => ?_)
          clear hK K
          simp only [Act.put]
          refine wpAnyH_ready (rs := [11]) (by kernel_rfl) (by simp) ?_
          refine AllReadyH.cons (o := _) rfl (fun K hK => ?_) AllReadyH.nil
          simp only [List.getElem_toArray, List.getElem_cons_zero, List.getElem_cons_succ]
          rw [if_pos (by rfl)]
          refine wp_store_blk 27 (.tmp 6) (.tmp 34) rfl g6 rfl _ rfl _ 27 ha6 (by rfl) (by kernel_rfl) (by kernel_rfl) ?_
          intro w23 hq gr
          replace pb := pb.away av_pb_a6 gr
          replace hp := blk_a hp gr d_p_a6
          replace ha3 := blk_a ha3 gr d_a3_a6
          replace ha5 := blk_a ha5 gr d_a5_a6
          replace ha4 := blk_a ha4 gr (ne_symm d_a6_a4)
          replace bel := below_grown bel gr oa6 bel.size
          clear ha6
          have ha6 := hq
          clear hq gr
          refine hK.out _ _ hp (fun hH24 => ?_)
          clear hK K
          simp only [Act.put]
          refine wpAnyH_done (by kernel_rfl) ?_ _
          go_wp2_with fail
          go_meet
          case rel => exact ⟨g3, g4, g5, g6, rfl, rfl, rfl, rfl, hp, ha3, oa3, ha4, oa4, ha5, oa5, ha6, oa6, d_a3_a4, d_a3_a5, d_a3_a6, (ne_symm d_p_a3), (ne_symm d_a5_a4), (ne_symm d_a6_a4), (ne_symm d_p_a4), d_a5_a6, (ne_symm d_p_a5), (ne_symm d_p_a6), pb, av_pb_a3, av_pb_a4, av_pb_a5, av_pb_a6, av_pb_p, bel⟩
      · simp only [List.getElem_toArray, List.getElem_cons_zero, List.getElem_cons_succ]
        rw [if_pos (by rfl)]
        refine wp_new_a 27 rfl #[.int .i64 0, .int .i64 0, .int .i64 0, .int .i64 0, .int .i64 0, .int .i64 0, .int .u8 0, .int .u8 0, .int .u8 0, .int .u8 0, .int .u8 0, .int .u8 0, .int .u8 0, .int .u8 0, .slice none 0 0, .slice none 0 0] (by kernel_rfl) ?_
        intro g6 w11 ge hh bb
        have d_p_a6 := ne_new (hlt hp) ge
        have d_a3_a6 := ne_new (hlt ha3) ge
        have av_pb_a6 := pb.av_new ge
        have oa6 := Nat.le_trans bel.size ge
        replace hp := blk_u hp bb
        replace ha3 := blk_u ha3 bb
        replace pb := pb.below bb
        replace bel := bel.trans (bb.mono bel.size)
        have ha6 := hh
        clear hh ge bb
        refine hK.out _ _ hp (fun hH12 => ?_)
        clear hK K
        simp only [Act.put, List.setIfInBounds_toArray, List.set_cons_zero, List.set_cons_succ]
        refine wpAnyH_ready (rs := [5, 6]) (by kernel_rfl) (by simp) ?_
        refine AllReadyH.cons (o := _) rfl (fun K hK => ?_) (AllReadyH.cons (o := _) rfl (fun K hK => ?_) AllReadyH.nil)
        · simp only [List.getElem_toArray, List.getElem_cons_zero, List.getElem_cons_succ]
          rw [if_pos (by rfl)]
          refine wp_new_a 27 rfl #[.int .i64 0, .int .i64 0, .int .i64 0, .int .i64 0, .int .i64 0, .int .i64 0, .int .u8 0, .int .u8 0, .int .u8 0, .int .u8 0, .int .u8 0, .int .u8 0, .int .u8 0, .int .u8 0, .slice none 0 0, .slice none 0 0] (by kernel_rfl) ?_
          intro g4 w13 ge hh bb
          have d_p_a4 := ne_new (hlt hp) ge
          have d_a3_a4 := ne_new (hlt ha3) ge
          have d_a6_a4 := ne_new (hlt ha6) ge
          have av_pb_a4 := pb.av_new ge
          have oa4 := Nat.le_trans bel.size ge
          replace hp := blk_u hp bb
          replace ha3 := blk_u ha3 bb
          replace ha6 := blk_u ha6 bb
          replace pb := pb.below bb
          replace bel := bel.trans (bb.mono bel.size)
          have ha4 := hh
          clear hh ge bb
          refine hK.out _ _ hp (fun hH14 => ?_)
          clear hK K
          simp only [Act.put, List.setIfInBounds_toArray, List.set_cons_zero, List.set_cons_succ]
          refine wpAnyH_ready (rs := [6]) (by kernel_rfl) (by simp) ?_
          refine AllReadyH.cons (o := _) rfl (fun K hK => ?_) AllReadyH.nil
          simp only [List.getElem_toArray, List.getElem_cons_zero, List.getElem_cons_succ]
          rw [if_pos (by rfl)]
          refine wp_new_a 27 rfl #[.int .i64 0, .int .i64 0, .int .i64 0, .int .i64 0, .int .i64 0, .int .i64 0, .int .u8 0, .int .u8 0, .int .u8 0, .int .u8 0, .int .u8 0, .int .u8 0, .int .u8 0, .int .u8 0, .slice none 0 0, .slice none 0 0] (by kernel_rfl) ?_
          intro g5 w15 ge hh bb
          have d_p_a5 := ne_new (hlt hp) ge
          have d_a3_a5 := ne_new (hlt ha3) ge
          have d_a6_a5 := ne_new (hlt ha6) ge
          have d_a4_a5 := ne_new (hlt ha4) ge
          have av_pb_a5 := pb.av_new ge
          have oa5 := Nat.le_trans bel.size ge
          replace hp := blk_u hp bb
          replace ha3 := blk_u ha3 bb
          replace ha6 := blk_u ha6 bb
          replace ha4 := blk_u ha4 bb
          replace pb := pb.below bb
          replace bel := bel.trans (bb.mono bel.size)
          have ha5 := hh
          clear hh ge bb
          refine hK.out _ _ hp (fun hH16 => ?_)
          clear hK K
          simp only [Act.put, List.setIfInBounds_toArray, List.set_cons_zero, List.set_cons_succ]
          refine wpAnyH_ready (rs := [8]) (by kernel_rfl) (by simp) ?_
          refine AllReadyH.cons (o := _) rfl (fun K hK => ?_) AllReadyH.nil
          simp only [List.getElem_toArray, List.getElem_cons_zero, List.getElem_cons_succ]
          rw [if_pos (by rfl)]
          refine wp_store_blk 27 (.tmp 3) (.tmp 31) rfl g3 rfl _ rfl _ 27 ha3 (by rfl) (by kernel_rfl) (by kernel_rfl) ?_
          intro w17 hq gr
          replace pb := pb.away av_pb_a3 gr
          replace hp := blk_a hp gr d_p_a3
          replace ha6 := blk_a ha6 gr (ne_symm d_a3_a6)
          replace ha4 := blk_a ha4 gr (ne_symm d_a3_a4)
          replace ha5 := blk_a ha5 gr (ne_symm d_a3_a5)
          replace bel := below_grown bel gr oa3 bel.size
          clear ha3
          have ha3 := hq
          clear hq gr
          refine hK.out _ _ hp (fun hH18 => ?_)
          clear hK K
          simp only [Act.put]
          refine wpAnyH_ready (rs := [9]) (by kernel_rfl) (by simp) ?_
          refine AllReadyH.cons (o := _) rfl (fun K hK => ?_) AllReadyH.nil
          simp only [List.getElem_toArray, List.getElem_cons_zero, List.getElem_cons_succ]
          rw [if_pos (by rfl)]
          refine wp_store_blk 27 (.tmp 4) (.tmp 32) rfl g4 rfl _ rfl _ 27 ha4 (by rfl) (by kernel_rfl) (by kernel_rfl) ?_
          intro w19 hq gr
          replace pb := pb.away av_pb_a4 gr
          replace hp := blk_a hp gr d_p_a4
          replace ha3 := blk_a ha3 gr d_a3_a4
          replace ha6 := blk_a ha6 gr d_a6_a4
          replace ha5 := blk_a ha5 gr (ne_symm d_a4_a5)
          replace bel := below_grown bel gr oa4 bel.size
          clear ha4
          have ha4 := hq
          clear hq gr
          refine hK.out _ _ hp (fun hH20 => ?_)
          clear hK K
          simp only [Act.put]
          refine wpAnyH_ready (rs := [10]) (by kernel_rfl) (by simp) ?_
          refine AllReadyH.cons (o := _) rfl (fun K hK => ?_) AllReadyH.nil
          simp only [List.getElem_toArray, List.getElem_cons_zero, List.getElem_cons_succ]
          rw [if_pos (by rfl)]
          refine wp_store_blk 27 (.tmp 5) (.tmp 33) rfl g5 rfl _ rfl _ 27 ha5 (by rfl) (by kernel_rfl) (by kernel_rfl) ?_
          intro w21 hq gr
          replace pb := pb.away av_pb_a5 gr
          replace hp := blk_a hp gr d_p_a5
          replace ha3 := blk_a ha3 gr d_a3_a5
          replace ha6 := blk_a ha6 gr d_a6_a5
          replace ha4 := blk_a ha4 gr d_a4_a5
          replace bel := below_grown bel gr oa5 bel.size
          clear ha5
          have ha5 := hq
          clear hq gr
          refine hK.out _ _ hp (fun hH22 => ?_)
          clear hK K
          simp only [Act.put]
          refine wpAnyH_ready (rs := [11]) (by kernel_rfl) (by simp) ?_
          refine AllReadyH.cons (o := _) rfl (fun K hK => ?_) AllReadyH.nil
          simp only [List.getElem_toArray, List.getElem_cons_zero, List.getElem_cons_succ]
          rw [if_pos (by rfl)]
          refine wp_store_blk 27 (.tmp 6) (.tmp 34) rfl g6 rfl _ rfl _ 27 ha6 (by rfl) (by kernel_rfl) (by kernel_rfl) ?_
          intro w23 hq gr
          replace pb := pb.away av_pb_a6 gr
          replace hp := blk_a hp gr d_p_a6
          replace ha3 := blk_a ha3 gr d_a3_a6
          replace ha4 := blk_a ha4 gr (ne_symm d_a6_a4)
          replace ha5 := blk_a ha5 gr (ne_symm d_a6_a5)
          replace bel := below_grown bel gr oa6 bel.size
          clear ha6
          have ha6 := hq
          clear hq gr
          refine hK.out _ _ hp (fun hH24 => ?_)
          clear hK K
          simp only [Act.put]
          refine wpAnyH_done (by kernel_rfl) ?_ _
          go_wp2_with fail
          go_meet
          case rel => exact ⟨g3, g4, g5, g6, rfl, rfl, rfl, rfl, hp, ha3, oa3, ha4, oa4, ha5, oa5, ha6, oa6, d_a3_a4, d_a3_a5, d_a3_a6, (ne_symm d_p_a3), d_a4_a5, (ne_symm d_a6_a4), (ne_symm d_p_a4), (ne_symm d_a6_a5), (ne_symm d_p_a5), (ne_symm d_p_a6), pb, av_pb_a3, av_pb_a4, av_pb_a5, av_pb_a6, av_pb_p, bel⟩
        · simp only [List.getElem_toArray, List.getElem_cons_zero, List.getElem_cons_succ]
          rw [if_pos (by rfl)]
          refine wp_new_a 27 rfl #[.int .i64 0, .int .i64 0, .int .i64 0, .int .i64 0, .int .i64 0, .int .i64 0, .int .u8 0, .int .u8 0, .int .u8 0, .int .u8 0, .int .u8 0, .int .u8 0, .int .u8 0, .int .u8 0, .slice none 0 0, .slice none 0 0] (by kernel_rfl) ?_
          intro g5 w13 ge hh bb
          have d_p_a5 := ne_new (hlt hp) ge
          have d_a3_a5 := ne_new (hlt ha3) ge
          have d_a6_a5 := ne_new (hlt ha6) ge
          have av_pb_a5 := pb.av_new ge
          have oa5 := Nat.le_trans bel.size ge
          replace hp := blk_u hp bb
          replace ha3 := blk_u ha3 bb
          replace ha6 := blk_u ha6 bb
          replace pb := pb.below bb
          replace bel := bel.trans (bb.mono bel.size)
          have ha5 := hh
          clear hh ge bb
          refine hK.out _ _ hp (fun hH14 => ?_)
          clear hK K
          simp only [Act.put, List.setIfInBounds_toArray, List.set_cons_zero, List.set_cons_succ]
          refine wpAnyH_ready (rs := [5]) (by kernel_rfl) (by simp) ?_
          refine AllReadyH.cons (o := _) rfl (fun K hK => ?_) AllReadyH.nil
          simp only [List.getElem_toArray, List.getElem_cons_zero, List.getElem_cons_succ]
          rw [if_pos (by rfl)]
          refine wp_new_a 27 rfl #[.int .i64 0, .int .i64 0, .int .i64 0, .int .i64 0, .int .i64 0, .int .i64 0, .int .u8 0, .int .u8 0, .int .u8 0, .int .u8 0, .int .u8 0, .int .u8 0, .int .u8 0, .int .u8 0, .slice none 0 0, .slice none 0 0] (by kernel_rfl) ?_
          intro g4 w15 ge hh bb
          have d_p_a4 := ne_new (hlt hp) ge
          have d_a3_a4 := ne_new (hlt ha3) ge
          have d_a6_a4 := ne_new (hlt ha6) ge
          have d_a5_a4 := ne_new (hlt ha5) ge
          have av_pb_a4 := pb.av_new ge
          have oa4 := Nat.le_trans bel.size ge
          replace hp := blk_u hp bb
          replace ha3 := blk_u ha3 bb
          replace ha6 := blk_u ha6 bb
          replace ha5 := blk_u ha5 bb
          replace pb := pb.below bb
          replace bel := bel.trans (bb.mono bel.size)
          have ha4 := hh
          clear hh ge bb
          refine hK.out _ _ hp (fun hH16 => ?_)
          clear hK K
          simp only [Act.put, List.setIfInBounds_toArray, List.set_cons_zero, List.set_cons_succ]
          refine wpAnyH_ready (rs := [8]) (by kernel_rfl) (by simp) ?_
          refine AllReadyH.cons (o := _) rfl (fun K hK => ?_) AllReadyH.nil
          simp only [List.getElem_toArray, List.getElem_cons_zero, List.getElem_cons_succ]
          rw [if_pos (by rfl)]
          refine wp_store_blk 27 (.tmp 3) (.tmp 31) rfl g3 rfl _ rfl _ 27 ha3 (by rfl) (by kernel_rfl) (by kernel_rfl) ?_
          intro w17 hq gr
          replace pb := pb.away av_pb_a3 gr
          replace hp := blk_a hp gr d_p_a3
          replace ha6 := blk_a ha6 gr (ne_symm d_a3_a6)
          replace ha5 := blk_a ha5 gr (ne_symm d_a3_a5)
          replace ha4 := blk_a ha4 gr (ne_symm d_a3_a4)
          replace bel := below_grown bel gr oa3 bel.size
          clear ha3
          have ha3 := hq
          clear hq gr
          refine hK.out _ _ hp (fun hH18 => ?_)
          clear hK K
          simp only [Act.put]
          refine wpAnyH_ready (rs := [9]) (by kernel_rfl) (by simp) ?_
          refine AllReadyH.cons (o := _) rfl (fun K hK => ?_) AllReadyH.nil
          simp only [List.getElem_toArray, List.getElem_cons_zero, List.getElem_cons_succ]
          rw [if_pos (by rfl)]
          refine wp_store_blk 27 (.tmp 4) (.tmp 32) rfl g4 rfl _ rfl _ 27 ha4 (by rfl) (by kernel_rfl) (by kernel_rfl) ?_
          intro w19 hq gr
          replace pb := pb.away av_pb_a4 gr
          replace hp := blk_a hp gr d_p_a4
          replace ha3 := blk_a ha3 gr d_a3_a4
          replace ha6 := blk_a ha6 gr d_a6_a4
          replace ha5 := blk_a ha5 gr d_a5_a4
          replace bel := below_grown bel gr oa4 bel.size
          clear ha4
          have ha4 := hq
          clear hq gr
          refine hK.out _ _ hp (fun hH20 => ?_)
          clear hK K
          simp only [Act.put]
          refine wpAnyH_ready (rs := [10]) (by kernel_rfl) (by simp) ?_
          refine AllReadyH.cons (o := _) rfl (fun K hK => ?_) AllReadyH.nil
          simp only [List.getElem_toArray, List.getElem_cons_zero, List.getElem_cons_succ]
          rw [if_pos (by rfl)]
          refine wp_store_blk 27 (.tmp 5) (.tmp 33) rfl g5 rfl _ rfl _ 27 ha5 (by rfl) (by kernel_rfl) (by kernel_rfl) ?_
          intro w21 hq gr
          replace pb := pb.away av_pb_a5 gr
          replace hp := blk_a hp gr d_p_a5
          replace ha3 := blk_a ha3 gr d_a3_a5
          replace ha6 := blk_a ha6 gr d_a6_a5
          replace ha4 := blk_a ha4 gr (ne_symm d_a5_a4)
          replace bel := below_grown bel gr oa5 bel.size
          clear ha5
          have ha5 := hq
          clear hq gr
          refine hK.out _ _ hp (fun hH22 => ?_)
          clear hK K
          simp only [Act.put]
          refine wpAnyH_ready (rs := [11]) (by kernel_rfl) (by simp) ?_
          refine AllReadyH.cons (o := _) rfl (fun K hK => ?_) AllReadyH.nil
          simp only [List.getElem_toArray, List.getElem_cons_zero, List.getElem_cons_succ]
          rw [if_pos (by rfl)]
          refine wp_store_blk 27 (.tmp 6) (.tmp 34) rfl g6 rfl _ rfl _ 27 ha6 (by rfl) (by kernel_rfl) (by kernel_rfl) ?_
          intro w23 hq gr
          replace pb := pb.away av_pb_a6 gr
          replace hp := blk_a hp gr d_p_a6
          replace ha3 := blk_a ha3 gr d_a3_a6
          replace ha5 := blk_a ha5 gr (ne_symm d_a6_a5)
          replace ha4 := blk_a ha4 gr (ne_symm d_a6_a4)
          replace bel := below_grown bel gr oa6 bel.size
          clear ha6
          have ha6 := hq
          clear hq gr
          refine hK.out _ _ hp (fun hH24 => ?_)
          clear hK K
          simp only [Act.put]
          refine wpAnyH_done (by kernel_rfl) ?_ _
          go_wp2_with fail
          go_meet
          case rel => exact ⟨g3, g4, g5, g6, rfl, rfl, rfl, rfl, hp, ha3, oa3, ha4, oa4, ha5, oa5, ha6, oa6, d_a3_a4, d_a3_a5, d_a3_a6, (ne_symm d_p_a3), (ne_symm d_a5_a4), (ne_symm d_a6_a4), (ne_symm d_p_a4), (ne_symm d_a6_a5), (ne_symm d_p_a5), (ne_symm d_p_a6), pb, av_pb_a3, av_pb_a4, av_pb_a5, av_pb_a6, av_pb_p, bel⟩
    · simp only [List.getElem_toArray, List.getElem_cons_zero, List.getElem_cons_succ]
      rw [if_pos (by rfl)]
      refine wp_new_a 27 rfl #[.int .i64 0, .int .i64 0, .int .i64 0, .int .i64 0, .int .i64 0, .int .i64 0, .int .u8 0, .int .u8 0, .int .u8 0, .int .u8 0, .int .u8 0, .int .u8 0, .int .u8 0, .int .u8 0, .slice none 0 0, .slice none 0 0] (by kernel_rfl) ?_
      intro g4 w9 ge hh bb
      have d_p_a4 := ne_new (hlt hp) ge
      have av_pb_a4 := pb.av_new ge
      have oa4 := Nat.le_trans bel.size ge
      replace hp := blk_u hp bb
      replace pb := pb.below bb
      replace bel := bel.trans (bb.mono bel.size)
      have ha4 := hh
      clear hh ge bb
      refine hK.out _ _ hp (fun hH10 => ?_)
      clear hK K
      simp only [Act.put, List.setIfInBounds_toArray, List.set_cons_zero, List.set_cons_succ]
      refine wpAnyH_ready (rs := [4, 6, 7]) (by kernel_rfl) (by simp) ?_
      refine AllReadyH.cons (o := _) rfl (fun K hK => ?_) (AllReadyH.cons (o := _) rfl (fun K hK => ?_) (AllReadyH.cons (o := _) rfl (fun K hK => ?_) AllReadyH.nil))
      · simp only [List.getElem_toArray, List.getElem_cons_zero, List.getElem_cons_succ]
        rw [if_pos (by rfl)]
        refine wp_new_a 27 rfl #[.int .i64 0, .int .i64 0, .int .i64 0, .int .i64 0, .int .i64 0, .int .i64 0, .int .u8 0, .int .u8 0, .int .u8 0, .int .u8 0, .int .u8 0, .int .u8 0, .int .u8 0, .int .u8 0, .slice none 0 0, .slice none 0 0] (by kernel_rfl) ?_
        intro g3 w11 ge hh bb
        have d_p_a3 := ne_new (hlt hp) ge
        have d_a4_a3 := ne_new (hlt ha4) ge
        have av_pb_a3 := pb.av_new ge
        have oa3 := Nat.le_trans bel.size ge
        replace hp := blk_u hp bb
        replace ha4 := blk_u ha4 bb
        replace pb := pb.below bb
        replace bel := bel.trans (bb.mono bel.size)
        have ha3 := hh
        clear hh ge bb
        refine hK.out _ _ hp (fun hH12 => ?_)
        clear hK K
        simp only [Act.put, List.setIfInBounds_toArray, List.set_cons_zero, List.set_cons_succ]
        refine wpAnyH_ready (rs := [6, 7]) (by kernel_rfl) (by simp) ?_
        refine AllReadyH.cons (o := _) rfl (fun K hK => ?_) (AllReadyH.cons (o := _) rfl (fun K hK => ?_) AllReadyH.nil)
        · simp only [List.getElem_toArray, List.getElem_cons_zero, List.getElem_cons_succ]
          rw [if_pos (by rfl)]
          refine wp_new_a 27 rfl #[.int .i64 0, .int .i64 0, .int .i64 0, .int .i64 0, .int .i64 0, .int .i64 0, .int .u8 0, .int .u8 0, .int .u8 0, .int .u8 0, .int .u8 0, .int .u8 0, .int .u8 0, .int .u8 0, .slice none 0 0, .slice none 0 0] (by kernel_rfl) ?_
          intro g5 w13 ge hh bb
          have d_p_a5 := ne_new (hlt hp) ge
          have d_a4_a5 := ne_new (hlt ha4) ge
          have d_a3_a5 := ne_new (hlt ha3) ge
          have av_pb_a5 := pb.av_new ge
          have oa5 := Nat.le_trans bel.size ge
          replace hp := blk_u hp bb
          replace ha4 := blk_u ha4 bb
          replace ha3 := blk_u ha3 bb
          replace pb := pb.below bb
          replace bel := bel.trans (bb.mono bel.size)
          have ha5 := hh
          clear hh ge bb
          refine hK.out _ _ hp (fun hH14 => ?_)
          clear hK K
          simp only [Act.put, List.setIfInBounds_toArray, List.set_cons_zero, List.set_cons_succ]
          refine wpAnyH_ready (rs := [7]) (by kernel_rfl) (by simp) ?_
          refine AllReadyH.cons (o := _) rfl (fun K hK => ?_) AllReadyH.nil
          simp only [List.getElem_toArray, List.getElem_cons_zero, List.getElem_cons_succ]
          rw [if_pos (by rfl)]
          refine wp_new_a 27 rfl #[.int .i64 0, .int .i64 0, .int .i64 0, .int .i64 0, .int .i64 0, .int .i64 0, .int .u8 0, .int .u8 0, .int .u8 0, .int .u8 0, .int .u8 0, .int .u8 0, .int .u8 0, .int .u8 0, .slice none 0 0, .slice none 0 0] (by kernel_rfl) ?_
          intro g6 w15 ge hh bb
          have d_p_a6 := ne_new (hlt hp) ge
          have d_a4_a6 := ne_new (hlt ha4) ge
          have d_a3_a6 := ne_new (hlt ha3) ge
          have d_a5_a6 := ne_new (hlt ha5) ge
          have av_pb_a6 := pb.av_new ge
          have oa6 := Nat.le_trans bel.size ge
          replace hp := blk_u hp bb
          replace ha4 := blk_u ha4 bb
          replace ha3 := blk_u ha3 bb
          replace ha5 := blk_u ha5 bb
          replace pb := pb.below bb
          replace bel := bel.trans (bb.mono bel.size)
          have ha6 := hh
          clear hh ge bb
          refine hK.out _ _ hp (fun hH16 => ?_)
          clear hK K
          simp only [Act.put, List.setIfInBounds_toArray, List.set_cons_zero, List.set_cons_succ]
          refine wpAnyH_ready (rs := [8]) (by kernel_rfl) (by simp) ?_
          refine AllReadyH.cons (o := _) rfl (fun K hK => ?_) AllReadyH.nil
          simp only [List.getElem_toArray, List.getElem_cons_zero, List.getElem_cons_succ]
          rw [if_pos (by rfl)]
          refine wp_store_blk 27 (.tmp 3) (.tmp 31) rfl g3 rfl _ rfl _ 27 ha3 (by rfl) (by kernel_rfl) (by kernel_rfl) ?_
          intro w17 hq gr
          replace pb := pb.away av_pb_a3 gr
          replace hp := blk_a hp gr d_p_a3
          replace ha4 := blk_a ha4 gr d_a4_a3
          replace ha5 := blk_a ha5 gr (ne_symm d_a3_a5)
          replace ha6 := blk_a ha6 gr (ne_symm d_a3_a6)
          replace bel := below_grown bel gr oa3 bel.size
          clear ha3
          have ha3 := hq
          clear hq gr
          refine hK.out _ _ hp (fun hH18 => ?_)
          clear hK K
          simp only [Act.put]
          refine wpAnyH_ready (rs := [9]) (by kernel_rfl) (by simp) ?_
          refine AllReadyH.cons (o := _) rfl (fun K hK => ?_) AllReadyH.nil
          simp only [List.getElem_toArray, List.getElem_cons_zero, List.getElem_cons_succ]
          rw [if_pos (by rfl)]
          refine wp_store_blk 27 (.tmp 4) (.tmp 32) rfl g4 rfl _ rfl _ 27 ha4 (by rfl) (by kernel_rfl) (by kernel_rfl) ?_
          intro w19 hq gr
          replace pb := pb.away av_pb_a4 gr
          replace hp := blk_a hp gr d_p_a4
          replace ha3 := blk_a ha3 gr (ne_symm d_a4_a3)
          replace ha5 := blk_a ha5 gr (ne_symm d_a4_a5)
          replace ha6 := blk_a ha6 gr (ne_symm d_a4_a6)
          replace bel := below_grown bel gr oa4 bel.size
          clear ha4
          have ha4 := hq
          clear hq gr
          refine hK.out _ _ hp (fun hH20 => ?_)
          clear hK K
          simp only [Act.put]
          refine wpAnyH_ready (rs := [10]) (by kernel_rfl) (by simp) ?_
          refine AllReadyH.cons (o := _) rfl (fun K hK => ?_) AllReadyH.nil
          simp only [List.getElem_toArray, List.getElem_cons_zero, List.getElem_cons_succ]
          rw [if_pos (by rfl)]
          refine wp_store_blk 27 (.tmp 5) (.tmp 33) rfl g5 rfl _ rfl _ 27 ha5 (by rfl) (by kernel_rfl) (by kernel_rfl) ?_
          intro w21 hq gr
          replace pb := pb.away av_pb_a5 gr
          replace hp := blk_a hp gr d_p_a5
          replace ha4 := blk_a ha4 gr d_a4_a5
          replace ha3 := blk_a ha3 gr d_a3_a5
          replace ha6 := blk_a ha6 gr (ne_symm d_a5_a6)
          replace bel := below_grown bel gr oa5 bel.size
          clear ha5
          have ha5 := hq
          clear hq gr
          refine hK.out _ _ hp (fun hH22 => ?_)
          clear hK K
          simp only [Act.put]
          refine wpAnyH_ready (rs := [11]) (by kernel_rfl) (by simp) ?_
          refine AllReadyH.cons (o := _) rfl (fun K hK => ?_) AllReadyH.nil
          simp only [List.getElem_toArray, List.getElem_cons_zero, List.getElem_cons_succ]
          rw [if_pos (by rfl)]
          refine wp_store_blk 27 (.tmp 6) (.tmp 34) rfl g6 rfl _ rfl _ 27 ha6 (by rfl) (by kernel_rfl) (by kernel_rfl) ?_
          intro w23 hq gr
          replace pb := pb.away av_pb_a6 gr
          replace hp := blk_a hp gr d_p_a6
          replace ha4 := blk_a ha4 gr d_a4_a6
          replace ha3 := blk_a ha3 gr d_a3_a6
          replace ha5 := blk_a ha5 gr d_a5_a6
          replace bel := below_grown bel gr oa6 bel.size
          clear ha6
          have ha6 := hq
          clear hq gr
          refine hK.out _ _ hp (fun hH24 => ?_)
          clear hK K
          simp only [Act.put]
          refine wpAnyH_done (by kernel_rfl) ?_ _
          go_wp2_with fail
          go_meet
          case rel => exact ⟨g3, g4, g5, g6, rfl, rfl, rfl, rfl, hp, ha3, oa3, ha4, oa4, ha5, oa5, ha6, oa6, (ne_symm d_a4_a3), d_a3_a5, d_a3_a6, (ne_symm d_p_a3), d_a4_a5, d_a4_a6, (ne_symm d_p_a4), d_a5_a6, (ne_symm d_p_a5), (ne_symm d_p_a6), pb, av_pb_a3, av_pb_a4, av_pb_a5, av_pb_a6, av_pb_p, bel⟩
        · simp only [List.getElem_toArray, List.getElem_cons_zero, List.getElem_cons_succ]
          rw [if_pos (by rfl)]
          refine wp_new_a 27 rfl #[.int .i64 0, .int .i64 0, .int .i64 0, .int .i64 0, .int .i64 0, .int .i64 0, .int .u8 0, .int .u8 0, .int .u8 0, .int .u8 0, .int .u8 0, .int .u8 0, .int .u8 0, .int .u8 0, .slice none 0 0, .slice none 0 0] (by kernel_rfl) ?_
          intro g6 w13 ge hh bb
          have d_p_a6 := ne_new (hlt hp) ge
          have d_a4_a6 := ne_new (hlt ha4) ge
          have d_a3_a6 := ne_new (hlt ha3) ge
          have av_pb_a6 := pb.av_new ge
          have oa6 := Nat.le_trans bel.size ge
          replace hp := blk_u hp bb
          replace ha4 := blk_u ha4 bb
          replace ha3 := blk_u ha3 bb
          replace pb := pb.below bb
          replace bel := bel.trans (bb.mono bel.size)
          have ha6 := hh
          clear hh ge bb
          refine hK.out _ _ hp (fun hH14 => ?_)
          clear hK K
          simp only [Act.put, List.setIfInBounds_toArray, List.set_cons_zero, List.set_cons_succ]
          refine wpAnyH_ready (rs := [6]) (by kernel_rfl) (by simp) ?_
          refine AllReadyH.cons (o := _) rfl (fun K hK => ?_) AllReadyH.nil
          simp only [List.getElem_toArray, List.getElem_cons_zero, List.getElem_cons_succ]
          rw [if_pos (by rfl)]
          refine wp_new_a 27 rfl #[.int .i64 0, .int .i64 0, .int .i64 0, .int .i64 0, .int .i64 0, .int .i64 0, .int .u8 0, .int .u8 0, .int .u8 0, .int .u8 0, .int .u8 0, .int .u8 0, .int .u8 0, .int .u8 0, .slice none 0 0, .slice none 0 0] (by kernel_rfl) ?_
          intro g5 w15 ge hh bb
          have d_p_a5 := ne_new (hlt hp) ge
          have d_a4_a5 := ne_new (hlt ha4) ge
          have d_a3_a5 := ne_new (hlt ha3) ge
          have d_a6_a5 := ne_new (hlt ha6) ge
          have av_pb_a5 := pb.av_new ge
          have oa5 := Nat.le_trans bel.size ge
          replace hp := blk_u hp bb
          replace ha4 := blk_u ha4 bb
          replace ha3 := blk_u ha3 bb
          replace ha6 := blk_u ha6 bb
          replace pb := pb.below bb
          replace bel := bel.trans (bb.mono bel.size)
          have ha5 := hh
          clear hh ge bb
          refine hK.out _ _ hp (fun hH16 => ?_)
          clear hK K
          simp only [Act.put, List.setIfInBounds_toArray, List.set_cons_zero, List.set_cons_succ]
          refine wpAnyH_ready (rs := [8]) (by kernel_rfl) (by simp) ?_
          refine AllReadyH.cons (o := _) rfl (fun K hK => ?_) AllReadyH.nil
          simp only [List.getElem_toArray, List.getElem_cons_zero, List.getElem_cons_succ]
          rw [if_pos (by rfl)]
          refine wp_store_blk 27 (.tmp 3) (.tmp 31) rfl g3 rfl _ rfl _ 27 ha3 (by rfl) (by kernel_rfl) (by kernel_rfl) ?_
          intro w17 hq gr
          replace pb := pb.away av_pb_a3 gr
          replace hp := blk_a hp gr d_p_a3
          replace ha4 := blk_a ha4 gr d_a4_a3
          replace ha6 := blk_a ha6 gr (ne_symm d_a3_a6)
          replace ha5 := blk_a ha5 gr (ne_symm d_a3_a5)
          replace bel := below_grown bel gr oa3 bel.size
          clear ha3
          have ha3 := hq
          clear hq gr
          refine hK.out _ _ hp (fun hH18 => ?_)
          clear hK K
          simp only [Act.put]
          refine wpAnyH_ready (rs := [9]) (by kernel_rfl) (by simp) ?_
          refine AllReadyH.cons (o := _) rfl (fun K hK => ?_) AllReadyH.nil
          simp only [List.getElem_toArray, List.getElem_cons_zero, List.getElem_cons_succ]
          rw [if_pos (by rfl)]
          refine wp_store_blk 27 (.tmp 4) (.tmp 32) rfl g4 rfl _ rfl _ 27 ha4 (by rfl) (by kernel_rfl) (by kernel_rfl) ?_
          intro w19 hq gr
          replace pb := pb.away av_pb_a4 gr
          replace hp := blk_a hp gr d_p_a4
          replace ha3 := blk_a ha3 gr (ne_symm d_a4_a3)
          replace ha6 := blk_a ha6 gr (ne_symm d_a4_a6)
          replace ha5 := blk_a ha5 gr (ne_symm d_a4_a5)
          replace bel := below_grown bel gr oa4 bel.size
          clear ha4
          have ha4 := hq
          clear hq gr
          refine hK.out _ _ hp (fun hH20 => ?_)
          clear hK K
          simp only [Act.put]
          refine wpAnyH_ready (rs := [10]) (by kernel_rfl) (by simp) ?_
          refine AllReadyH.cons (o := _) rfl (fun K hK => ?_) AllReadyH.nil
          simp only [List.getElem_toArray, List.getElem_cons_zero, List.getElem_cons_succ]
          rw [if_pos (by rfl)]
          refine wp_store_blk 27 (.tmp 5) (.tmp 33) rfl g5 rfl _ rfl _ 27 ha5 (by rfl) (by kernel_rfl) (by kernel_rfl) ?_
          intro w21 hq gr
          replace pb := pb.away av_pb_a5 gr
          replace hp := blk_a hp gr d_p_a5
          replace ha4 := blk_a ha4 gr d_a4_a5
          replace ha3 := blk_a ha3 gr d_a3_a5
          replace ha6 := blk_a ha6 gr d_a6_a5
          replace bel := below_grown bel gr oa5 bel.size
          clear ha5
          have ha5 := hq
          clear hq gr
          refine hK.out _ _ hp (fun hH22 => ?_)
          clear hK K
          simp only [Act.put]
          refine wpAnyH_ready (rs := [11]) (by kernel_rfl) (by simp) ?_
          refine AllReadyH.cons (o := _) rfl (fun K hK => ?_) AllReadyH.nil
          simp only [List.getElem_toArray, List.getElem_cons_zero, List.getElem_cons_succ]
          rw [if_pos (by rfl)]
          refine wp_store_blk 27 (.tmp 6) (.tmp 34) rfl g6 rfl _ rfl _ 27 ha6 (by rfl) (by kernel_rfl) (by kernel_rfl) ?_
          intro w23 hq gr
          replace pb := pb.away av_pb_a6 gr
          replace hp := blk_a hp gr d_p_a6
          replace ha4 := blk_a ha4 gr d_a4_a6
          replace ha3 := blk_a ha3 gr d_a3_a6
          replace ha5 := blk_a ha5 gr (ne_symm d_a6_a5)
          replace bel := below_grown bel gr oa6 bel.size
          clear ha6
          have ha6 := hq
          clear hq gr
          refine hK.out _ _ hp (fun hH24 => ?_)
          clear hK K
          simp only [Act.put]
          refine wpAnyH_done (by kernel_rfl) ?_ _
          go_wp2_with fail
          go_meet
          case rel => exact ⟨g3, g4, g5, g6, rfl, rfl, rfl, rfl, hp, ha3, oa3, ha4, oa4, ha5, oa5, ha6, oa6, (ne_symm d_a4_a3), d_a3_a5, d_a3_a6, (ne_symm d_p_a3), d_a4_a5, d_a4_a6, (ne_symm d_p_a4), (ne_symm d_a6_a5), (ne_symm d_p_a5), (ne_symm d_p_a6), pb, av_pb_a3, av_pb_a4, av_pb_a5, av_pb_a6, av_pb_p, bel⟩
      · simp only [List.getElem_toArray, List.getElem_cons_zero, List.getElem_cons_succ]
        rw [if_pos (by rfl)]
        refine wp_new_a 27 rfl #[.int .i64 0, .int .i64 0, .int .i64 0, .int .i64 0, .int .i64 0, .int .i64 0, .int .u8 0, .int .u8 0, .int .u8 0, .int .u8 0, .int .u8 0, .int .u8 0, .int .u8 0, .int .u8 0, .slice none 0 0, .slice none 0 0] (by kernel_rfl) ?_
        intro g5 w11 ge hh bb
        have d_p_a5 := ne_new (hlt hp) ge
        have d_a4_a5 := ne_new (hlt ha4) ge
        have av_pb_a5 := pb.av_new ge
        have oa5 := Nat.le_trans bel.size ge
        replace hp := blk_u hp bb
        replace ha4 := blk_u ha4 bb
        replace pb := pb.below bb
        replace bel := bel.trans (bb.mono bel.size)
        have ha5 := hh
        clear hh ge bb
        refine hK.out _ _ hp (fun hH12 => ?_)
        clear hK K
        simp only [Act.put, List.setIfInBounds_toArray, List.set_cons_zero, List.set_cons_succ]
        refine wpAnyH_ready (rs := [4, 7]) (by kernel_rfl) (by simp) ?_
        refine AllReadyH.cons (o := _) rfl (fun K hK => ?_) (AllReadyH.cons (o := _) rfl (fun K hK => ?_) AllReadyH.nil)
        · simp only [List.getElem_toArray, List.getElem_cons_zero, List.getElem_cons_succ]
          rw [if_pos (by rfl)]
          refine wp_new_a 27 rfl #[.int .i64 0, .int .i64 0, .int .i64 0, .int .i64 0, .int .i64 0, .int .i64 0, .int .u8 0, .int .u8 0, .int .u8 0, .int .u8 0, .int .u8 0, .int .u8 0, .int .u8 0, .int .u8 0, .slice none 0 0, .slice none 0 0] (by kernel_rfl) ?_
          intro g3 w13 ge hh bb
          have d_p_a3 := ne_new (hlt hp) ge
          have d_a4_a3 := ne_new (hlt ha4) ge
          have d_a5_a3 := ne_new (hlt ha5) ge
          have av_pb_a3 := pb.av_new ge
          have oa3 := Nat.le_trans bel.size ge
          replace hp := blk_u hp bb
          replace ha4 := blk_u ha4 bb
          replace ha5 := blk_u ha5 bb
          replace pb := pb.below bb
          replace bel := bel.trans (bb.mono bel.size)
          have ha3 := hh
          clear hh ge bb
          refine hK.out _ _ hp (fun hH14 => ?_)
          clear hK K
          simp only [Act.put, List.setIfInBounds_toArray, List.set_cons_zero, List.set_cons_succ]
          refine wpAnyH_ready (rs := [7]) (by kernel_rfl) (by simp) ?_
          refine AllReadyH.cons (o := _) rfl (fun K hK => ?_) AllReadyH.nil
          simp only [List.getElem_toArray, List.getElem_cons_zero, List.getElem_cons_succ]
          rw [if_pos (by rfl)]
          refine wp_new_a 27 rfl #[.int .i64 0, .int .i64 0, .int .i64 0, .int .i64 0, .int .i64 0, .int .i64 0, .int .u8 0, .int .u8 0, .int .u8 0, .int .u8 0, .int .u8 0, .int .u8 0, .int .u8 0, .int .u8 0, .slice none 0 0, .slice none 0 0] (by kernel_rfl) ?_
          intro g6 w15 ge hh bb
          have d_p_a6 := ne_new (hlt hp) ge
          have d_a4_a6 := ne_new (hlt ha4) ge
          have d_a5_a6 := ne_new (hlt ha5) ge
          have d_a3_a6 := ne_new (hlt ha3) ge
          have av_pb_a6 := pb.av_new ge
          have oa6 := Nat.le_trans bel.size ge
          replace hp := blk_u hp bb
          replace ha4 := blk_u ha4 bb
          replace ha5 := blk_u ha5 bb
          replace ha3 := blk_u ha3 bb
          replace pb := pb.below bb
          replace bel := bel.trans (bb.mono bel.size)
          have ha6 := hh
          clear hh ge bb
          refine hK.out _ _ hp (fun hH16 => ?_)
          clear hK K
          simp only [Act.put, List.setIfInBounds_toArray, List.set_cons_zero, List.set_cons_succ]
          refine wpAnyH_ready (rs := [8]) (by kernel_rfl) (by simp) ?_
          refine AllReadyH.cons (o := _) rfl (fun K hK => ?_) AllReadyH.nil
          simp only [List.getElem_toArray, List.getElem_cons_zero, List.getElem_cons_succ]
          rw [if_pos (by rfl)]
          refine wp_store_blk 27 (.tmp 3) (.tmp 31) rfl g3 rfl _ rfl _ 27 ha3 (by rfl) (by kernel_rfl) (by kernel_rfl) ?_
          intro w17 hq gr
          replace pb := pb.away av_pb_a3 gr
          replace hp := blk_a hp gr d_p_a3
          replace ha4 := blk_a ha4 gr d_a4_a3
          replace ha5 := blk_a ha5 gr d_a5_a3
          replace ha6 := blk_a ha6 gr (ne_symm d_a3_a6)
          replace bel := below_grown bel gr oa3 bel.size
          clear ha3
          have ha3 := hq
          clear hq gr
          refine hK.out _ _ hp (fun hH18 => ?_)
          clear hK K
          simp only [Act.put]
          refine wpAnyH_ready (rs := [9]) (by kernel_rfl) (by simp) ?_
          refine AllReadyH.cons (o := _) rfl (fun K hK => ?_) AllReadyH.nil
          simp only [List.getElem_toArray, List.getElem_cons_zero, List.getElem_cons_succ]
          rw [if_pos (by rfl)]
          refine wp_store_blk 27 (.tmp 4) (.tmp 32) rfl g4 rfl _ rfl _ 27 ha4 (by rfl) (by kernel_rfl) (by kernel_rfl) ?_
          intro w19 hq gr
          replace pb := pb.away av_pb_a4 gr
          replace hp := blk_a hp gr d_p_a4
          replace ha5 := blk_a ha5 gr (ne_symm d_a4_a5)
          replace ha3 := blk_a ha3 gr (ne_symm d_a4_a3)
          replace ha6 := blk_a ha6 gr (ne_symm d_a4_a6)
          replace bel := below_grown bel gr oa4 bel.size
          clear ha4
          have ha4 := hq
          clear hq gr
          refine hK.out _ _ hp (fun hH20 => ?_)
          clear hK K
          simp only [Act.put]
          refine wpAnyH_ready (rs := [10]) (by kernel_rfl) (by simp) ?_
          refine AllReadyH.cons (o := _) rfl (fun K hK => ?_) AllReadyH.nil
          simp only [List.getElem_toArray, List.getElem_cons_zero, List.getElem_cons_succ]
          rw [if_pos (by rfl)]
          refine wp_store_blk 27 (.tmp 5) (.tmp 33) rfl g5 rfl _ rfl _ 27 ha5 (by rfl) (by kernel_rfl) (by kernel_rfl) ?_
          intro w21 hq gr
          replace pb := pb.away av_pb_a5 gr
          replace hp := blk_a hp gr d_p_a5
          replace ha4 := blk_a ha4 gr d_a4_a5
          replace ha3 := blk_a ha3 gr (ne_symm d_a5_a3)
          replace ha6 := blk_a ha6 gr (ne_symm d_a5_a6)
          replace bel := below_grown bel gr oa5 bel.size
          clear ha5
          have ha5 := hq
          clear hq gr
          refine hK.out _ _ hp (fun hH22 => ?_)
          clear hK K
          simp only [Act.put]
          refine wpAnyH_ready (rs := [11]) (by kernel_rfl) (by simp) ?_
          refine AllReadyH.cons (o := _) rfl (fun K hK => ?_) AllReadyH.nil
          simp only [List.getElem_toArray, List.getElem_cons_zero, List.getElem_cons_succ]
          rw [if_pos (by rfl)]
          refine wp_store_blk 27 (.tmp 6) (.tmp 34) rfl g6 rfl _ rfl _ 27 ha6 (by rfl) (by kernel_rfl) (by kernel_rfl) ?_
          intro w23 hq gr
          replace pb := pb.away av_pb_a6 gr
          replace hp := blk_a hp gr d_p_a6
          replace ha4 := blk_a ha4 gr d_a4_a6
          replace ha5 := blk_a ha5 gr d_a5_a6
          replace ha3 := blk_a ha3 gr d_a3_a6
          replace bel := below_grown bel gr oa6 bel.size
          clear ha6
          have ha6 := hq
          clear hq gr
          refine hK.out _ _ hp (fun hH24 => ?_)
          clear hK K
          simp only [Act.put]
          refine wpAnyH_done (by kernel_rfl) ?_ _
          go_wp2_with fail
          go_meet
          case rel => exact ⟨g3, g4, g5, g6, rfl, rfl, rfl, rfl, hp, ha3, oa3, ha4, oa4, ha5, oa5, ha6, oa6, (ne_symm d_a4_a3), (ne_symm d_a5_a3), d_a3_a6, (ne_symm d_p_a3), d_a4_a5, d_a4_a6, (ne_symm d_p_a4), d_a5_a6, (ne_symm d_p_a5), (ne_symm d_p_a6), pb, av_pb_a3, av_pb_a4, av_pb_a5, av_pb_a6, av_pb_p, bel⟩
        · simp only [List.getElem_toArray, List.getElem_cons_zero, List.getElem_cons_succ]
          rw [if_pos (by rfl)]
          refine wp_new_a 27 rfl #[.int .i64 0, .int .i64 0, .int .i64 0, .int .i64 0, .int .i64 0, .int .i64 0, .int .u8 0, .int .u8 0, .int .u8 0, .int .u8 0, .int .u8 0, .int .u8 0, .int .u8 0, .int .u8 0, .slice none 0 0, .slice none 0 0] (by kernel_rfl) ?_
          intro g6 w13 ge hh bb
          have d_p_a6 := ne_new (hlt hp) ge
          have d_a4_a6 := ne_new (hlt ha4) ge
          have d_a5_a6 := ne_new (hlt ha5) ge
          have av_pb_a6 := pb.av_new ge
          have oa6 := Nat.le_trans bel.size ge
          replace hp := blk_u hp bb
          replace ha4 := blk_u ha4 bb
          replace ha5 := blk_u ha5 bb
          replace pb := pb.below bb
          replace bel := bel.trans (bb.mono bel.size)
          have ha6 := hh
          clear hh ge bb
          refine hK.out _ _ hp (fun hH14 => ?_)
          clear hK K
          simp only [Act.put, List.setIfInBounds_toArray, List.set_cons_zero, List.set_cons_succ]
          refine wpAnyH_ready (rs := [4]) (by kernel_rfl) (by simp) ?_
          refine AllReadyH.cons (o := _) rfl (fun K hK => ?_) AllReadyH.nil
          simp only [List.getElem_toArray, List.getElem_cons_zero, List.getElem_cons_succ]
          rw [if_pos (by rfl)]
          refine wp_new_a 27 rfl #[.int .i64 0, .int .i64 0, .int .i64 0, .int .i64 0, .int .i64 0, .int .i64 0, .int .u8 0, .int .u8 0, .int .u8 0, .int .u8 0, .int .u8 0, .int .u8 0, .int .u8 0, .int .u8 0, .slice none 0 0, .slice none 0 0] (by kernel_rfl) ?_
          intro g3 w15 ge hh bb
          have d_p_a3 := ne_new (hlt hp) ge
          have d_a4_a3 := ne_new (hlt ha4) ge
          have d_a5_a3 := ne_new (hlt ha5) ge
          have d_a6_a3 := ne_new (hlt ha6) ge
          have av_pb_a3 := pb.av_new ge
          have oa3 := Nat.le_trans bel.size ge
          replace hp := blk_u hp bb
          replace ha4 := blk_u ha4 bb
          replace ha5 := blk_u ha5 bb
          replace ha6 := blk_u ha6 bb
          replace pb := pb.below bb
          replace bel := bel.trans (bb.mono bel.size)
          have ha3 := hh
          clear hh ge bb
          refine hK.out _ _ hp (fun hH16 => ?_)
          clear hK K
          simp only [Act.put, List.setIfInBounds_toArray, List.set_cons_zero, List.set_cons_succ]
          refine wpAnyH_ready (rs := [8]) (by kernel_rfl) (by simp) ?_
          refine AllReadyH.cons (o := _) rfl (fun K hK => ?_) AllReadyH.nil
          simp only [List.getElem_toArray, List.getElem_cons_zero, List.getElem_cons_succ]
          rw [if_pos (by rfl)]
          refine wp_store_blk 27 (.tmp 3) (.tmp 31) rfl g3 rfl _ rfl _ 27 ha3 (by rfl) (by kernel_rfl) (by kernel_rfl) ?_
          intro w17 hq gr
          replace pb := pb.away av_pb_a3 gr
          replace hp := blk_a hp gr d_p_a3
          replace ha4 := blk_a ha4 gr d_a4_a3
          replace ha5 := blk_a ha5 gr d_a5_a3
          replace ha6 := blk_a ha6 gr d_a6_a3
          replace bel := below_grown bel gr oa3 bel.size
          clear ha3
          have ha3 := hq
          clear hq gr
          refine hK.out _ _ hp (fun hH18 => ?_)
          clear hK K
          simp only [Act.put]
          refine wpAnyH_ready (rs := [9]) (by kernel_rfl) (by simp) ?_
          refine AllReadyH.cons (o := _) rfl (fun K hK => ?_) AllReadyH.nil
          simp only [List.getElem_toArray, List.getElem_cons_zero, List.getElem_cons_succ]
          rw [if_pos (by rfl)]
          refine wp_store_blk 27 (.tmp 4) (.tmp 32) rfl g4 rfl _ rfl _ 27 ha4 (by rfl) (by kernel_rfl) (by kernel_rfl) ?_
          intro w19 hq gr
          replace pb := pb.away av_pb_a4 gr
          replace hp := blk_a hp gr d_p_a4
          replace ha5 := blk_a ha5 gr (ne_symm d_a4_a5)
          replace ha6 := blk_a ha6 gr (ne_symm d_a4_a6)
          replace ha3 := blk_a ha3 gr (ne_symm d_a4_a3)
          replace bel := below_grown bel gr oa4 bel.size
          clear ha4
          have ha4 := hq
          clear hq gr
          refine hK.out _ _ hp (fun hH20 => ?_)
          clear hK K
          simp only [Act.put]
          refine wpAnyH_ready (rs := [10]) (by kernel_rfl) (by simp) ?_
          refine AllReadyH.cons (o := _) rfl (fun K hK => ?_) AllReadyH.nil
          simp only [List.getElem_toArray, List.getElem_cons_zero, List.getElem_cons_succ]
          rw [if_pos (by rfl)]
          refine wp_store_blk 27 (.tmp 5) (.tmp 33) rfl g5 rfl _ rfl _ 27 ha5 (by rfl) (by kernel_rfl) (by kernel_rfl) ?_
          intro w21 hq gr
          replace pb := pb.away av_pb_a5 gr
          replace hp := blk_a hp gr d_p_a5
          replace ha4 := blk_a ha4 gr d_a4_a5
          replace ha6 := blk_a ha6 gr (ne_symm d_a5_a6)
          replace ha3 := blk_a ha3 gr (ne_symm d_a5_a3)
          replace bel := below_grown bel gr oa5 bel.size
          clear ha5
          have ha5 := hq
          clear hq gr
          refine hK.out _ _ hp (fun hH22 => ?_)
          clear hK K
          simp only [Act.put]
          refine wpAnyH_ready (rs := [11]) (by kernel_rfl) (by simp) ?_
          refine AllReadyH.cons (o := _) rfl (fun K hK => ?_) AllReadyH.nil
          simp only [List.getElem_toArray, List.getElem_cons_zero, List.getElem_cons_succ]
          rw [if_pos (by rfl)]
          refine wp_store_blk 27 (.tmp 6) (.tmp 34) rfl g6 rfl _ rfl _ 27 ha6 (by rfl) (by kernel_rfl) (by kernel_rfl) ?_
          intro w23 hq gr
          replace pb := pb.away av_pb_a6 gr
          replace hp := blk_a hp gr d_p_a6
          replace ha4 := blk_a ha4 gr d_a4_a6
          replace ha5 := blk_a ha5 gr d_a5_a6
          replace ha3 := blk_a ha3 gr (ne_symm d_a6_a3)
          replace bel := below_grown bel gr oa6 bel.size
          clear ha6
          have ha6 := hq
          clear hq gr
          refine hK.out _ _ hp (fun hH24 => ?_)
          clear hK K
          simp only [Act.put]
          refine wpAnyH_done (by kernel_rfl) ?_ _
          go_wp2_with fail
          go_meet
          case rel => exact ⟨g3, g4, g5, g6, rfl, rfl, rfl, rfl, hp, ha3, oa3, ha4, oa4, ha5, oa5, ha6, oa6, (ne_symm d_a4_a3), (ne_symm d_a5_a3), (ne_symm d_a6_a3), (ne_symm d_p_a3), d_a4_a5, d_a4_a6, (ne_symm d_p_a4), d_a5_a6, (ne_symm d_p_a5), (ne_symm d_p_a6), pb, av_pb_a3, av_pb_a4, av_pb_a5, av_pb_a6, av_pb_p, bel⟩
      · simp only [List.getElem_toArray, List.getElem_cons_zero, List.getElem_cons_succ]
        rw [if_pos (by rfl)]
        refine wp_new_a 27 rfl #[.int .i64 0, .int .i64 0, .int .i64 0, .int .i64 0, .int .i64 0, .int .i64 0, .int .u8 0, .int .u8 0, .int .u8 0, .int .u8 0, .int .u8 0, .int .u8 0, .int .u8 0, .int .u8 0, .slice none 0 0, .slice none 0 0] (by kernel_rfl) ?_
        intro g6 w11 ge hh bb
        have d_p_a6 := ne_new (hlt hp) ge
        have d_a4_a6 := ne_new (hlt ha4) ge
        have av_pb_a6 := pb.av_new ge
        have oa6 := Nat.le_trans bel.size ge
        replace hp := blk_u hp bb
        replace ha4 := blk_u ha4 bb
        replace pb := pb.below bb
        replace bel := bel.trans (bb.mono bel.size)
        have ha6 := hh
        clear hh ge bb
        refine hK.out _ _ hp (fun hH12 => ?_)
        clear hK K
        simp only [Act.put, List.setIfInBounds_toArray, List.set_cons_zero, List.set_cons_succ]
        refine wpAnyH_ready (rs := [4, 6]) (by kernel_rfl) (by simp) ?_
        refine AllReadyH.cons (o := _) rfl (fun K hK => ?_) (AllReadyH.cons (o := _) rfl (fun K hK => ?_) AllReadyH.nil)
        · simp only [List.getElem_toArray, List.getElem_cons_zero, List.getElem_cons_succ]
          rw [if_pos (by rfl)]
          refine wp_new_a 27 rfl #[.int .i64 0, .int .i64 0, .int .i64 0, .int .i64 0, .int .i64 0, .int .i64 0, .int .u8 0, .int .u8 0, .int .u8 0, .int .u8 0, .int .u8 0, .int .u8 0, .int .u8 0, .int .u8 0, .slice none 0 0, .slice none 0 0] (by kernel_rfl) ?_
          intro g3 w13 ge hh bb
          have d_p_a3 := ne_new (hlt hp) ge
          have d_a4_a3 := ne_new (hlt ha4) ge
          have d_a6_a3 := ne_new (hlt ha6) ge
          have av_pb_a3 := pb.av_new ge
          have oa3 := Nat.le_trans bel.size ge
          replace hp := blk_u hp bb
          replace ha4 := blk_u ha4 bb
          replace ha6 := blk_u ha6 bb
          replace pb := pb.below bb
          replace bel := bel.trans (bb.mono bel.size)
          have ha3 := hh
          clear hh ge bb
          refine hK.out _ _ hp (fun hH14 => ?_)
          clear hK K
          simp only [Act.put, List.setIfInBounds_toArray, List.set_cons_zero, List.set_cons_succ]
          refine wpAnyH_ready (rs := [6]) (by kernel_rfl) (by simp) ?_
          refine AllReadyH.cons (o := _) rfl (fun K hK => ?_) AllReadyH.nil
          simp only [List.getElem_toArray, List.getElem_cons_zero, List.getElem_cons_succ]
          rw [if_pos (by rfl)]
          refine wp_new_a 27 rfl #[.int .i64 0, .int .i64 0, .int .i64 0, .int .i64 0, .int .i64 0, .int .i64 0, .int .u8 0, .int .u8 0, .int .u8 0, .int .u8 0, .int .u8 0, .int .u8 0, .int .u8 0, .int .u8 0, .slice none 0 0, .slice none 0 0] (by kernel_rfl) ?_
          intro g5 w15 ge hh bb
          have d_p_a5 := ne_new (hlt hp) ge
          have d_a4_a5 := ne_new (hlt ha4) ge
          have d_a6_a5 := ne_new (hlt ha6) ge
          have d_a3_a5 := ne_new (hlt ha3) ge
          have av_pb_a5 := pb.av_new ge
          have oa5 := Nat.le_trans bel.size ge
          replace hp := blk_u hp bb
          replace ha4 := blk_u ha4 bb
          replace ha6 := blk_u ha6 bb
          replace ha3 := blk_u ha3 bb
          replace pb := pb.below bb
          replace bel := bel.trans (bb.mono bel.size)
          have ha5 := hh
          clear hh ge bb
          refine hK.out _ _ hp (fun hH16 => ?_)
          clear hK K
          simp only [Act.put, List.setIfInBounds_toArray, List.set_cons_zero, List.set_cons_succ]
          refine wpAnyH_ready (rs := [8]) (by kernel_rfl) (by simp) ?_
          refine AllReadyH.cons (o := _) rfl (fun K hK => ?_) AllReadyH.nil
          simp only [List.getElem_toArray, List.getElem_cons_zero, List.getElem_cons_succ]
          rw [if_pos (by rfl)]
          refine wp_store_blk 27 (.tmp 3) (.tmp 31) rfl g3 rfl _ rfl _ 27 ha3 (by rfl) (by kernel_rfl) (by kernel_rfl) ?_
          intro w17 hq gr
          replace pb := pb.away av_pb_a3 gr
          replace hp := blk_a hp gr d_p_a3
          replace ha4 := blk_a ha4 gr d_a4_a3
          replace ha6 := blk_a ha6 gr d_a6_a3
          replace ha5 := blk_a ha5 gr (ne_symm d_a3_a5)
          replace bel := below_grown bel gr oa3 bel.size
          clear ha3
          have ha3 := hq
          clear hq gr
          refine hK.out _ _ hp (fun hH18 => ?_)
          clear hK K
          simp only [Act.put]
          refine wpAnyH_ready (rs := [9]) (by kernel_rfl) (by simp) ?_
          refine AllReadyH.cons (o := _) rfl (fun K hK => ?_) AllReadyH.nil
          simp only [List.getElem_toArray, List.getElem_cons_zero, List.getElem_cons_succ]
          rw [if_pos (by rfl)]
          refine wp_store_blk 27 (.tmp 4) (.tmp 32) rfl g4 rfl _ rfl _ 27 ha4 (by rfl) (by kernel_rfl) (by kernel_rfl) ?_
          intro w19 hq gr
          replace pb := pb.away av_pb_a4 gr
          replace hp := blk_a hp gr d_p_a4
          replace ha6 := blk_a ha6 gr (ne_symm d_a4_a6)
          replace ha3 := blk_a ha3 gr (ne_symm d_a4_a3)
          replace ha5 := blk_a ha5 gr (ne_symm d_a4_a5)
          replace bel := below_grown bel gr oa4 bel.size
          clear ha4
          have ha4 := hq
          clear hq gr
          refine hK.out _ _ hp (fun hH20 => ?_)
          clear hK K
          simp only [Act.put]
          refine wpAnyH_ready (rs := [10]) (by kernel_rfl) (by simp) ?_
          refine AllReadyH.cons (o := _) rfl (fun K hK => ?_) AllReadyH.nil
          simp only [List.getElem_toArray, List.getElem_cons_zero, List.getElem_cons_succ]
          rw [if_pos (by rfl)]
          refine wp_store_blk 27 (.tmp 5) (.tmp 33) rfl g5 rfl _ rfl _ 27 ha5 (by rfl) (by kernel_rfl) (by kernel_rfl) ?_
          intro w21 hq gr
          replace pb := pb.away av_pb_a5 gr
          replace hp := blk_a hp gr d_p_a5
          replace ha4 := blk_a ha4 gr d_a4_a5
          replace ha6 := blk_a ha6 gr d_a6_a5
          replace ha3 := blk_a ha3 gr d_a3_a5
          replace bel := below_grown bel gr oa5 bel.size
          clear ha5
          have ha5 := hq
          clear hq gr
          refine hK.out _ _ hp (fun hH22 => ?_)
          clear hK K
          simp only [Act.put]
          refine wpAnyH_ready (rs := [11]) (by kernel_rfl) (by simp) ?_
          refine AllReadyH.cons (o := _) rfl (fun K hK => ?_) AllReadyH.nil
          simp only [List.getElem_toArray, List.getElem_cons_zero, List.getElem_cons_succ]
          rw [if_pos (by rfl)]
          refine wp_store_blk 27 (.tmp 6) (.tmp 34) rfl g6 rfl _ rfl _ 27 ha6 (by rfl) (by kernel_rfl) (by kernel_rfl) ?_
          intro w23 hq gr
          replace pb := pb.away av_pb_a6 gr
          replace hp := blk_a hp gr d_p_a6
          replace ha4 := blk_a ha4 gr d_a4_a6
          replace ha3 := blk_a ha3 gr (ne_symm d_a6_a3)
          replace ha5 := blk_a ha5 gr (ne_symm d_a6_a5)
          replace bel := below_grown bel gr oa6 bel.size
          clear ha6
          have ha6 := hq
          clear hq gr
          refine hK.out _ _ hp (fun hH24 => ?_)
          clear hK K
          simp only [Act.put]
          refine wpAnyH_done (by kernel_rfl) ?_ _
          go_wp2_with fail
          go_meet
          case rel => exact ⟨g3, g4, g5, g6, rfl, rfl, rfl, rfl, hp, ha3, oa3, ha4, oa4, ha5, oa5, ha6, oa6, (ne_symm d_a4_a3), d_a3_a5, (ne_symm d_a6_a3), (ne_symm d_p_a3), d_a4_a5, d_a4_a6, (ne_symm d_p_a4), (ne_symm d_a6_a5), (ne_symm d_p_a5), (ne_symm d_p_a6), pb, av_pb_a3, av_pb_a4, av_pb_a5, av_pb_a6, av_pb_p, bel⟩
        · simp only [List.getElem_toArray, List.getElem_cons_zero, List.getElem_cons_succ]
          rw [if_pos (by rfl)]
          refine wp_new_a 27 rfl #[.int .i64 0, .int .i64 0, .int .i64 0, .int .i64 0, .int .i64 0, .int .i64 0, .int .u8 0, .int .u8 0, .int .u8 0, .int .u8 0, .int .u8 0, .int .u8 0, .int .u8 0, .int .u8 0, .slice none 0 0, .slice none 0 0] (by kernel_rfl) ?_
          intro g5 w13 ge hh bb
          have d_p_a5 := ne_new (hlt hp) ge
          have d_a4_a5 := ne_new (hlt ha4) ge
          have d_a6_a5 := ne_new (hlt ha6) ge
          have av_pb_a5 := pb.av_new ge
          have oa5 := Nat.le_trans bel.size ge
          replace hp := blk_u hp bb
          replace ha4 := blk_u ha4 bb
          replace ha6 := blk_u ha6 bb
          replace pb := pb.below bb
          replace bel := bel.trans (bb.mono bel.size)
          have ha5 := hh
          clear hh ge bb
          refine hK.out _ _ hp (fun hH14 => ?_)
          clear hK K
          simp only [Act.put, List.setIfInBounds_toArray, List.set_cons_zero, List.set_cons_succ]
          refine wpAnyH_ready (rs := [4]) (by kernel_rfl) (by simp) ?_
          refine AllReadyH.cons (o := _) rfl (fun K hK => ?_) AllReadyH.nil
          simp only [List.getElem_toArray, List.getElem_cons_zero, List.getElem_cons_succ]
          rw [if_pos (by rfl)]
          refine wp_new_a 27 rfl #[.int .i64 0, .int .i64 0, .int .i64 0, .int .i64 0, .int .i64 0, .int .i64 0, .int .u8 0, .int .u8 0, .int .u8 0, .int .u8 0, .int .u8 0, .int .u8 0, .int .u8 0, .int .u8 0, .slice none 0 0, .slice none 0 0] (by kernel_rfl) ?_
          intro g3 w15 ge hh bb
          have d_p_a3 := ne_new (hlt hp) ge
          have d_a4_a3 := ne_new (hlt ha4) ge
          have d_a6_a3 := ne_new (hlt ha6) ge
          have d_a5_a3 := ne_new (hlt ha5) ge
          have av_pb_a3 := pb.av_new ge
          have oa3 := Nat.le_trans bel.size ge
          replace hp := blk_u hp bb
          replace ha4 := blk_u ha4 bb
          replace ha6 := blk_u ha6 bb
          replace ha5 := blk_u ha5 bb
          replace pb := pb.below bb
          replace bel := bel.trans (bb.mono bel.size)
          have ha3 := hh
          clear hh ge bb
          refine hK.out _ _ hp (fun hH16 => ?_)
          clear hK K
          simp only [Act.put, List.setIfInBounds_toArray, List.set_cons_zero, List.set_cons_succ]
          refine wpAnyH_ready (rs := [8]) (by kernel_rfl) (by simp) ?_
          refine AllReadyH.cons (o := _) rfl (fun K hK => ?_) AllReadyH.nil
          simp only [List.getElem_toArray, List.getElem_cons_zero, List.getElem_cons_succ]
          rw [if_pos (by rfl)]
          refine wp_store_blk 27 (.tmp 3) (.tmp 31) rfl g3 rfl _ rfl _ 27 ha3 (by rfl) (by kernel_rfl) (by kernel_rfl) ?_
          intro w17 hq gr
          replace pb := pb.away av_pb_a3 gr
          replace hp := blk_a hp gr d_p_a3
          replace ha4 := blk_a ha4 gr d_a4_a3
          replace ha6 := blk_a ha6 gr d_a6_a3
          replace ha5 := blk_a ha5 gr d_a5_a3
          replace bel := below_grown bel gr oa3 bel.size
          clear ha3
          have ha3 := hq
          clear hq gr
          refine hK.out _ _ hp (fun hH18 => ?_)
          clear hK K
          simp only [Act.put]
          refine wpAnyH_ready (rs := [9]) (by kernel_rfl) (by simp) ?_
          refine AllReadyH.cons (o := _) rfl (fun K hK => ?_) AllReadyH.nil
          simp only [List.getElem_toArray, List.getElem_cons_zero, List.getElem_cons_succ]
          rw [if_pos (by rfl)]
          refine wp_store_blk 27 (.tmp 4) (.tmp 32) rfl g4 rfl _ rfl _ 27 ha4 (by rfl) (by kernel_rfl) (by kernel_rfl) ?_
          intro w19 hq gr
          replace pb := pb.away av_pb_a4 gr
          replace hp := blk_a hp gr d_p_a4
          replace ha6 := blk_a ha6 gr (ne_symm d_a4_a6)
          replace ha5 := blk_a ha5 gr (ne_symm d_a4_a5)
          replace ha3 := blk_a ha3 gr (ne_symm d_a4_a3)
          replace bel := below_grown bel gr oa4 bel.size
          clear ha4
          have ha4 := hq
          clear hq gr
          refine hK.out _ _ hp (fun hH20 => ?_)
          clear hK K
          simp only [Act.put]
          refine wpAnyH_ready (rs := [10]) (by kernel_rfl) (by simp) ?_
          refine AllReadyH.cons (o := _) rfl (fun K hK => ?_) AllReadyH.nil
          simp only [List.getElem_toArray, List.getElem_cons_zero, List.getElem_cons_succ]
          rw [if_pos (by rfl)]
          refine wp_store_blk 27 (.tmp 5) (.tmp 33) rfl g5 rfl _ rfl _ 27 ha5 (by rfl) (by kernel_rfl) (by kernel_rfl) ?_
          intro w21 hq gr
          replace pb := pb.away av_pb_a5 gr
          replace hp := blk_a hp gr d_p_a5
          replace ha4 := blk_a ha4 gr d_a4_a5
          replace ha6 := blk_a ha6 gr d_a6_a5
          replace ha3 := blk_a ha3 gr (ne_symm d_a5_a3)
          replace bel := below_grown bel gr oa5 bel.size
          clear ha5
          have ha5 := hq
          clear hq gr
          refine hK.out _ _ hp (fun hH22 => ?_)
          clear hK K
          simp only [Act.put]
          refine wpAnyH_ready (rs := [11]) (by kernel_rfl) (by simp) ?_
          refine AllReadyH.cons (o := _) rfl (fun K hK => ?_) AllReadyH.nil
          simp only [List.getElem_toArray, List.getElem_cons_zero, List.getElem_cons_succ]
          rw [if_pos (by rfl)]
          refine wp_store_blk 27 (.tmp 6) (.tmp 34) rfl g6 rfl _ rfl _ 27 ha6 (by rfl) (by kernel_rfl) (by kernel_rfl) ?_
          intro w23 hq gr
          replace pb := pb.away av_pb_a6 gr
          replace hp := blk_a hp gr d_p_a6
          replace ha4 := blk_a ha4 gr d_a4_a6
          replace ha5 := blk_a ha5 gr (ne_symm d_a6_a5)
          replace ha3 := blk_a ha3 gr (ne_symm d_a6_a3)
          replace bel := below_grown bel gr oa6 bel.size
          clear ha6
          have ha6 := hq
          clear hq gr
          refine hK.out _ _ hp (fun hH24 => ?_)
          clear hK K
          simp only [Act.put]
          refine wpAnyH_done (by kernel_rfl) ?_ _
          go_wp2_with fail
          go_meet
          case rel => exact ⟨g3, g4, g5, g6, rfl, rfl, rfl, rfl, hp, ha3, oa3, ha4, oa4, ha5, oa5, ha6, oa6, (ne_symm d_a4_a3), (ne_symm d_a5_a3), (ne_symm d_a6_a3), (ne_symm d_p_a3), d_a4_a5, d_a4_a6, (ne_symm d_p_a4), (ne_symm d_a6_a5), (ne_symm d_p_a5), (ne_symm d_p_a6), pb, av_pb_a3, av_pb_a4, av_pb_a5, av_pb_a6, av_pb_p, bel⟩
    · simp only [List.getElem_toArray, List.getElem_cons_zero, List.getElem_cons_succ]
      rw [if_pos (by rfl)]
      refine wp_new_a 27 rfl #[.int .i64 0, .int .i64 0, .int .i64 0, .int .i64 0, .int .i64 0, .int .i64 0, .int .u8 0, .int .u8 0, .int .u8 0, .int .u8 0, .int .u8 0, .int .u8 0, .int .u8 0, .int .u8 0, .slice none 0 0, .slice none 0 0] (by kernel_rfl) ?_
      intro g5 w9 ge hh bb
      have d_p_a5 := ne_new (hlt hp) ge
      have av_pb_a5 := pb.av_new ge
      have oa5 := Nat.le_trans bel.size ge
      replace hp := blk_u hp bb
      replace pb := pb.below bb
      replace bel := bel.trans (bb.mono bel.size)
      have ha5 := hh
      clear hh ge bb
      refine hK.out _ _ hp (fun hH10 => ?_)
      clear hK K
      simp only [Act.put, List.setIfInBounds_toArray, List.set_cons_zero, List.set_cons_succ]
      refine wpAnyH_ready (rs := [4, 5, 7]) (by kernel_rfl) (by simp) ?_
      refine AllReadyH.cons (o := _) rfl (fun K hK => ?_) (AllReadyH.cons (o := _) rfl (fun K hK => ?_) (AllReadyH.cons (o := _) rfl (fun K hK => ?_) AllReadyH.nil))
      · simp only [List.getElem_toArray, List.getElem_cons_zero, List.getElem_cons_succ]
        rw [if_pos (by rfl)]
        refine wp_new_a 27 rfl #[.int .i64 0, .int .i64 0, .int .i64 0, .int .i64 0, .int .i64 0, .int .i64 0, .int .u8 0, .int .u8 0, .int .u8 0, .int .u8 0, .int .u8 0, .int .u8 0, .int .u8 0, .int .u8 0, .slice none 0 0, .slice none 0 0] (by kernel_rfl) ?_
        intro g3 w11 ge hh bb
        have d_p_a3 := ne_new (hlt hp) ge
        have d_a5_a3 := ne_new (hlt ha5) ge
        have av_pb_a3 := pb.av_new ge
        have oa3 := Nat.le_trans bel.size ge
        replace hp := blk_u hp bb
        replace ha5 := blk_u ha5 bb
        replace pb := pb.below bb
        replace bel := bel.trans (bb.mono bel.size)
        have ha3 := hh
        clear hh ge bb
        refine hK.out _ _ hp (fun hH12 => ?_)
        clear hK K
        simp only [Act.put, List.setIfInBounds_toArray, List.set_cons_zero, List.set_cons_succ]
        refine wpAnyH_ready (rs := [5, 7]) (by kernel_rfl) (by simp) ?_
        refine AllReadyH.cons (o := _) rfl (fun K hK => ?_) (AllReadyH.cons (o := _) rfl (fun K hK => ?_) AllReadyH.nil)
        · simp only [List.getElem_toArray, List.getElem_cons_zero, List.getElem_cons_succ]
          rw [if_pos (by rfl)]
          refine wp_new_a 27 rfl #[.int .i64 0, .int .i64 0, .int .i64 0, .int .i64 0, .int .i64 0, .int .i64 0, .int .u8 0, .int .u8 0, .int .u8 0, .int .u8 0, .int .u8 0, .int .u8 0, .int .u8 0, .int .u8 0, .slice none 0 0, .slice none 0 0] (by kernel_rfl) ?_
          intro g4 w13 ge hh bb
          have d_p_a4 := ne_new (hlt hp) ge
          have d_a5_a4 := ne_new (hlt ha5) ge
          have d_a3_a4 := ne_new (hlt ha3) ge
          have av_pb_a4 := pb.av_new ge
          have oa4 := Nat.le_trans bel.size ge
          replace hp := blk_u hp bb
          replace ha5 := blk_u ha5 bb
          replace ha3 := blk_u ha3 bb
          replace pb := pb.below bb
          replace bel := bel.trans (bb.mono bel.size)
          have ha4 := hh
          clear hh ge bb
          refine hK.out _ _ hp (fun hH14 => ?_)
          clear hK K
          simp only [Act.put, List.setIfInBounds_toArray, List.set_cons_zero, List.set_cons_succ]
          refine wpAnyH_ready (rs := [7]) (by kernel_rfl) (by simp) ?_
          refine AllReadyH.cons (o := _) rfl (fun K hK => ?_) AllReadyH.nil
          simp only [List.getElem_toArray, List.getElem_cons_zero, List.getElem_cons_succ]
          rw [if_pos (by rfl)]
          refine wp_new_a 27 rfl #[.int .i64 0, .int .i64 0, .int .i64 0, .int .i64 0, .int .i64 0, .int .i64 0, .int .u8 0, .int .u8 0, .int .u8 0, .int .u8 0, .int .u8 0, .int .u8 0, .int .u8 0, .int .u8 0, .slice none 0 0, .slice none 0 0] (by kernel_rfl) ?_
          intro g6 w15 ge hh bb
          have d_p_a6 := ne_new (hlt hp) ge
          have d_a5_a6 := ne_new (hlt ha5) ge
          have d_a3_a6 := ne_new (hlt ha3) ge
          have d_a4_a6 := ne_new (hlt ha4) ge
          have av_pb_a6 := pb.av_new ge
          have oa6 := Nat.le_trans bel.size ge
          replace hp := blk_u hp bb
          replace ha5 := blk_u ha5 bb
          replace ha3 := blk_u ha3 bb
          replace ha4 := blk_u ha4 bb
          replace pb := pb.below bb
          replace bel := bel.trans (bb.mono bel.size)
          have ha6 := hh
          clear hh ge bb
          refine hK.out _ _ hp (fun hH16 => ?_)
          clear hK K
          simp only [Act.put, List.setIfInBounds_toArray, List.set_cons_zero, List.set_cons_succ]
          refine wpAnyH_ready (rs := [8]) (by kernel_rfl) (by simp) ?_
          refine AllReadyH.cons (o := _) rfl (fun K hK => ?_) AllReadyH.nil
          simp only [List.getElem_toArray, List.getElem_cons_zero, List.getElem_cons_succ]
          rw [if_pos (by rfl)]
          refine wp_store_blk 27 (.tmp 3) (.tmp 31) rfl g3 rfl _ rfl _ 27 ha3 (by rfl) (by kernel_rfl) (by kernel_rfl) ?_
          intro w17 hq gr
          replace pb := pb.away av_pb_a3 gr
          replace hp := blk_a hp gr d_p_a3
          replace ha5 := blk_a ha5 gr d_a5_a3
          replace ha4 := blk_a ha4 gr (ne_symm d_a3_a4)
          replace ha6 := blk_a ha6 gr (ne_symm d_a3_a6)
          replace bel := below_grown bel gr oa3 bel.size
          clear ha3
          have ha3 := hq
          clear hq gr
          refine hK.out _ _ hp (fun hH18 => ?_)
          clear hK K
          simp only [Act.put]
          refine wpAnyH_ready (rs := [9]) (by kernel_rfl) (by simp) ?_
          refine AllReadyH.cons (o := _) rfl (fun K hK => ?_) AllReadyH.nil
          simp only [List.getElem_toArray, List.getElem_cons_zero, List.getElem_cons_succ]
          rw [if_pos (by rfl)]
          refine wp_store_blk 27 (.tmp 4) (.tmp 32) rfl g4 rfl _ rfl _ 27 ha4 (by rfl) (by kernel_rfl) (by kernel_rfl) ?_
          intro w19 hq gr
          replace pb := pb.away av_pb_a4 gr
          replace hp := blk_a hp gr d_p_a4
          replace ha5 := blk_a ha5 gr d_a5_a4
          replace ha3 := blk_a ha3 gr d_a3_a4
          replace ha6 := blk_a ha6 gr (ne_symm d_a4_a6)
          replace bel := below_grown bel gr oa4 bel.size
          clear ha4
          have ha4 := hq
          clear hq gr
          refine hK.out _ _ hp (fun hH20 => ?_)
          clear hK K
          simp only [Act.put]
          refine wpAnyH_ready (rs := [10]) (by kernel_rfl) (by simp) ?_
          refine AllReadyH.cons (o := _) rfl (fun K hK => ?_) AllReadyH.nil
          simp only [List.getElem_toArray, List.getElem_cons_zero, List.getElem_cons_succ]
          rw [if_pos (by rfl)]
          refine wp_store_blk 27 (.tmp 5) (.tmp 33) rfl g5 rfl _ rfl _ 27 ha5 (by rfl) (by kernel_rfl) (by kernel_rfl) ?_
          intro w21 hq gr
          replace pb := pb.away av_pb_a5 gr
          replace hp := blk_a hp gr d_p_a5
          replace ha3 := blk_a ha3 gr (ne_symm d_a5_a3)
          replace ha4 := blk_a ha4 gr (ne_symm d_a5_a4)
          replace ha6 := blk_a ha6 gr (ne_symm d_a5_a6)
          replace bel := below_grown bel gr oa5 bel.size
          clear ha5
          have ha5 := hq
          clear hq gr
          refine hK.out _ _ hp (fun hH22 => ?_)
          clear hK K
          simp only [Act.put]
          refine wpAnyH_ready (rs := [11]) (by kernel_rfl) (by simp) ?_
          refine AllReadyH.cons (o := _) rfl (fun K hK => ?_) AllReadyH.nil
          simp only [List.getElem_toArray, List.getElem_cons_zero, List.getElem_cons_succ]
          rw [if_pos (by rfl)]
          refine wp_store_blk 27 (.tmp 6) (.tmp 34) rfl g6 rfl _ rfl _ 27 ha6 (by rfl) (by kernel_rfl) (by kernel_rfl) ?_
          intro w23 hq gr
          replace pb := pb.away av_pb_a6 gr
          replace hp := blk_a hp gr d_p_a6
          replace ha5 := blk_a ha5 gr d_a5_a6
          replace ha3 := blk_a ha3 gr d_a3_a6
          replace ha4 := blk_a ha4 gr d_a4_a6
          replace bel := below_grown bel gr oa6 bel.size
          clear ha6
          have ha6 := hq
          clear hq gr
          refine hK.out _ _ hp (fun hH24 => ?_)
          clear hK K
          simp only [Act.put]
          refine wpAnyH_done (by kernel_rfl) ?_ _
          go_wp2_with fail
          go_meet
          case rel => exact ⟨g3, g4, g5, g6, rfl, rfl, rfl, rfl, hp, ha3, oa3, ha4, oa4, ha5, oa5, ha6, oa6, d_a3_a4, (ne_symm d_a5_a3), d_a3_a6, (ne_symm d_p_a3), (ne_symm d_a5_a4), d_a4_a6, (ne_symm d_p_a4), d_a5_a6, (ne_symm d_p_a5), (ne_symm d_p_a6), pb, av_pb_a3, av_pb_a4, av_pb_a5, av_pb_a6, av_pb_p, bel⟩
        · simp only [List.getElem_toArray, List.getElem_cons_zero, List.getElem_cons_succ]
          rw [if_pos (by rfl)]
          refine wp_new_a 27 rfl #[.int .i64 0, .int .i64 0, .int .i64 0, .int .i64 0, .int .i64 0, .int .i64 0, .int .u8 0, .int .u8 0, .int .u8 0, .int .u8 0, .int .u8 0, .int .u8 0, .int .u8 0, .int .u8 0, .slice none 0 0, .slice none 0 0] (by kernel_rfl) ?_
          intro g6 w13 ge hh bb
          have d_p_a6 := ne_new (hlt hp) ge
          have d_a5_a6 := ne_new (hlt ha5) ge
          have d_a3_a6 := ne_new (hlt ha3) ge
          have av_pb_a6 := pb.av_new ge
          have oa6 := Nat.le_trans bel.size ge
          replace hp := blk_u hp bb
          replace ha5 := blk_u ha5 bb
          replace ha3 := blk_u ha3 bb
          replace pb := pb.below bb
          replace bel := bel.trans (bb.mono bel.size)
          have ha6 := hh
          clear hh ge bb
          refine hK.out _ _ hp (fun hH14 => ?_)
          clear hK K
          simp only [Act.put, List.setIfInBounds_toArray, List.set_cons_zero, List.set_cons_succ]
          refine wpAnyH_ready (rs := [5]) (by kernel_rfl) (by simp) ?_
          refine AllReadyH.cons (o := _) rfl (fun K hK => ?_) AllReadyH.nil
          simp only [List.getElem_toArray, List.getElem_cons_zero, List.getElem_cons_succ]
          rw [if_pos (by rfl)]
          refine wp_new_a 27 rfl #[.int .i64 0, .int .i64 0, .int .i64 0, .int .i64 0, .int .i64 0, .int .i64 0, .int .u8 0, .int .u8 0, .int .u8 0, .int .u8 0, .int .u8 0, .int .u8 0, .int .u8 0, .int .u8 0, .slice none 0 0, .slice none 0 0] (by kernel_rfl) ?_
          intro g4 w15 ge hh bb
          have d_p_a4 := ne_new (hlt hp) ge
          have d_a5_a4 := ne_new (hlt ha5) ge
          have d_a3_a4 := ne_new (hlt ha3) ge
          have d_a6_a4 := ne_new (hlt ha6) ge
          have av_pb_a4 := pb.av_new ge
          have oa4 := Nat.le_trans bel.size ge
          replace hp := blk_u hp bb
          replace ha5 := blk_u ha5 bb
          replace ha3 := blk_u ha3 bb
          replace ha6 := blk_u ha6 bb
          replace pb := pb.below bb
          replace bel := bel.trans (bb.mono bel.size)
          have ha4 := hh
          clear hh ge bb
          refine hK.out _ _ hp (fun hH16 => ?_)
          clear hK K
          simp only [Act.put, List.setIfInBounds_toArray, List.set_cons_zero, List.set_cons_succ]
          refine wpAnyH_ready (rs := [8]) (by kernel_rfl) (by simp) ?_
          refine AllReadyH.cons (o := _) rfl (fun K hK => ?_) AllReadyH.nil
          simp only [List.getElem_toArray, List.getElem_cons_zero, List.getElem_cons_succ]
          rw [if_pos (by rfl)]
          refine wp_store_blk 27 (.tmp 3) (.tmp 31) rfl g3 rfl _ rfl _ 27 ha3 (by rfl) (by kernel_rfl) (by kernel_rfl) ?_
          intro w17 hq gr
          replace pb := pb.away av_pb_a3 gr
          replace hp := blk_a hp gr d_p_a3
          replace ha5 := blk_a ha5 gr d_a5_a3
          replace ha6 := blk_a ha6 gr (ne_symm d_a3_a6)
          replace ha4 := blk_a ha4 gr (ne_symm d_a3_a4)
          replace bel := below_grown bel gr oa3 bel.size
          clear ha3
          have ha3 := hq
          clear hq gr
          refine hK.out _ _ hp (fun hH18 => ?_)
          clear hK K
          simp only [Act.put]
          refine wpAnyH_ready (rs := [9]) (by kernel_rfl) (by simp) ?_
          refine AllReadyH.cons (o := _) rfl (fun K hK => ?_) AllReadyH.nil
          simp only [List.getElem_toArray, List.getElem_cons_zero, List.getElem_cons_succ]
          rw [if_pos (by rfl)]
          refine wp_store_blk 27 (.tmp 4) (.tmp 32) rfl g4 rfl _ rfl _ 27 ha4 (by rfl) (by kernel_rfl) (by kernel_rfl) ?_
          intro w19 hq gr
          replace pb := pb.away av_pb_a4 gr
          replace hp := blk_a hp gr d_p_a4
          replace ha5 := blk_a ha5 gr d_a5_a4
          replace ha3 := blk_a ha3 gr d_a3_a4
          replace ha6 := blk_a ha6 gr d_a6_a4
          replace bel := below_grown bel gr oa4 bel.size
          clear ha4
          have ha4 := hq
          clear hq gr
          refine hK.out _ _ hp (fun hH20 => ?_)
          clear hK K
          simp only [Act.put]
          refine wpAnyH_ready (rs := [10]) (by kernel_rfl) (by simp) ?_
          refine AllReadyH.cons (o := _) rfl (fun K hK => ?_) AllReadyH.nil
          simp only [List.getElem_toArray, List.getElem_cons_zero, List.getElem_cons_succ]
          rw [if_pos (by rfl)]
          refine wp_store_blk 27 (.tmp 5) (.tmp 33) rfl g5 rfl _ rfl _ 27 ha5 (by rfl) (by kernel_rfl) (by kernel_rfl) ?_
          intro w21 hq gr
          replace pb := pb.away av_pb_a5 gr
          replace hp := blk_a hp gr d_p_a5
          replace ha3 := blk_a ha3 gr (ne_symm d_a5_a3)
          replace ha6 := blk_a ha6 gr (ne_symm d_a5_a6)
          replace ha4 := blk_a ha4 gr (ne_symm d_a5_a4)
          replace bel := below_grown bel gr oa5 bel.size
          clear ha5
          have ha5 := hq
          clear hq gr
          refine hK.out _ _ hp (fun hH22 => ?_)
          clear hK K
          simp only [Act.put]
          refine wpAnyH_ready (rs := [11]) (by kernel_rfl) (by simp) ?_
          refine AllReadyH.cons (o := _) rfl (fun K hK => ?_) AllReadyH.nil
          simp only [List.getElem_toArray, List.getElem_cons_zero, List.getElem_cons_succ]
          rw [if_pos (by rfl)]
          refine wp_store_blk 27 (.tmp 6) (.tmp 34) rfl g6 rfl _ rfl _ 27 ha6 (by rfl) (by kernel_rfl) (by kernel_rfl) ?_
          intro w23 hq gr
          replace pb := pb.away av_pb_a6 gr
          replace hp := blk_a hp gr d_p_a6
          replace ha5 := blk_a ha5 gr d_a5_a6
          replace ha3 := blk_a ha3 gr d_a3_a6
          replace ha4 := blk_a ha4 gr (ne_symm d_a6_a4)
          replace bel := below_grown bel gr oa6 bel.size
          clear ha6
          have ha6 := hq
          clear hq gr
          refine hK.out _ _ hp (fun hH24 => ?_)
          clear hK K
          simp only [Act.put]
          refine wpAnyH_done (by kernel_rfl) ?_ _
          go_wp2_with fail
          go_meet
          case rel => exact ⟨g3, g4, g5, g6, rfl, rfl, rfl, rfl, hp, ha3, oa3, ha4, oa4, ha5, oa5, ha6, oa6, d_a3_a4, (ne_symm d_a5_a3), d_a3_a6, (ne_symm d_p_a3), (ne_symm d_a5_a4), (ne_symm d_a6_a4), (ne_symm d_p_a4), d_a5_a6, (ne_symm d_p_a5), (ne_symm d_p_a6), pb, av_pb_a3, av_pb_a4, av_pb_a5, av_pb_a6, av_pb_p, bel⟩
      · simp only [List.getElem_toArray, List.getElem_cons_zero, List.getElem_cons_succ]
        rw [if_pos (by rfl)]
        refine wp_new_a 27 rfl #[.int .i64 0, .int .i64 0, .int .i64 0, .int .i64 0, .int .i64 0, .int .i64 0, .int .u8 0, .int .u8 0, .int .u8 0, .int .u8 0, .int .u8 0, .int .u8 0, .int .u8 0, .int .u8 0, .slice none 0 0, .slice none 0 0] (by kernel_rfl) ?_
        intro g4 w11 ge hh bb
        have d_p_a4 := ne_new (hlt hp) ge
        have d_a5_a4 := ne_new (hlt ha5) ge
        have av_pb_a4 := pb.av_new ge
        have oa4 := Nat.le_trans bel.size ge
        replace hp := blk_u hp bb
        replace ha5 := blk_u ha5 bb
        replace pb := pb.below bb
        replace bel := bel.trans (bb.mono bel.size)
        have ha4 := hh
        clear hh ge bb
        refine hK.out _ _ hp (fun hH12 => ?_)
        clear hK K
        simp only [Act.put, List.setIfInBounds_toArray, List.set_cons_zero, List.set_cons_succ]
        refine wpAnyH_ready (rs := [4, 7]) (by kernel_rfl) (by simp) ?_
        refine AllReadyH.cons (o := _) rfl (fun K hK => ?_) (AllReadyH.cons (o := _) rfl (fun K hK => ?_) AllReadyH.nil)
        · simp only [List.getElem_toArray, List.getElem_cons_zero, List.getElem_cons_succ]
          rw [if_pos (by rfl)]
          refine wp_new_a 27 rfl #[.int .i64 0, .int .i64 0, .int .i64 0, .int .i64 0, .int .i64 0, .int .i64 0, .int .u8 0, .int .u8 0, .int .u8 0, .int .u8 0, .int .u8 0, .int .u8 0, .int .u8 0, .int .u8 0, .slice none 0 0, .slice none 0 0] (by kernel_rfl) ?_
          intro g3 w13 ge hh bb
          have d_p_a3 := ne_new (hlt hp) ge
          have d_a5_a3 := ne_new (hlt ha5) ge
          have d_a4_a3 := ne_new (hlt ha4) ge
          have av_pb_a3 := pb.av_new ge
          have oa3 := Nat.le_trans bel.size ge
          replace hp := blk_u hp bb
          replace ha5 := blk_u ha5 bb
          replace ha4 := blk_u ha4 bb
          replace pb := pb.below bb
          replace bel := bel.trans (bb.mono bel.size)
          have ha3 := hh
          clear hh ge bb
          refine hK.out _ _ hp (fun hH14 => ?_)
          clear hK K
          simp only [Act.put, List.setIfInBounds_toArray, List.set_cons_zero, List.set_cons_succ]
          refine wpAnyH_ready (rs := [7]) (by kernel_rfl) (by simp) ?_
          refine AllReadyH.cons (o := _) rfl (fun K hK => ?_) AllReadyH.nil
          simp only [List.getElem_toArray, List.getElem_cons_zero, List.getElem_cons_succ]
          rw [if_pos (by rfl)]
          refine wp_new_a 27 rfl #[.int .i64 0, .int .i64 0, .int .i64 0, .int .i64 0, .int .i64 0, .int .i64 0, .int .u8 0, .int .u8 0, .int .u8 0, .int .u8 0, .int .u8 0, .int .u8 0, .int .u8 0, .int .u8 0, .slice none 0 0, .slice none 0 0] (by kernel_rfl) ?_
          intro g6 w15 ge hh bb
          have d_p_a6 := ne_new (hlt hp) ge
          have d_a5_a6 := ne_new (hlt ha5) ge
          have d_a4_a6 := ne_new (hlt ha4) ge
          have d_a3_a6 := ne_new (hlt ha3) ge
          have av_pb_a6 := pb.av_new ge
          have oa6 := Nat.le_trans bel.size ge
          replace hp := blk_u hp bb
          replace ha5 := blk_u ha5 bb
          replace ha4 := blk_u ha4 bb
          replace ha3 := blk_u ha3 bb
          replace pb := pb.below bb
          replace bel := bel.trans (bb.mono bel.size)
          have ha6 := hh
          clear hh ge bb
          refine hK.out _ _ hp (fun hH16 => ?_)
          clear hK K
          simp only [Act.put, List.setIfInBounds_toArray, List.set_cons_zero, List.set_cons_succ]
          refine wpAnyH_ready (rs := [8]) (by kernel_rfl) (by simp) ?_
          refine AllReadyH.cons (o := _) rfl (fun K hK => ?_) AllReadyH.nil
          simp only [List.getElem_toArray, List.getElem_cons_zero, List.getElem_cons_succ]
          rw [if_pos (by rfl)]
          refine wp_store_blk 27 (.tmp 3) (.tmp 31) rfl g3 rfl _ rfl _ 27 ha3 (by rfl) (by kernel_rfl) (by kernel_rfl) ?_
          intro w17 hq gr
          replace pb := pb.away av_pb_a3 gr
          replace hp := blk_a hp gr d_p_a3
          replace ha5 := blk_a ha5 gr d_a5_a3
          replace ha4 := blk_a ha4 gr d_a4_a3
          replace ha6 := blk_a ha6 gr (ne_symm d_a3_a6)
          replace bel := below_grown bel gr oa3 bel.size
          clear ha3
          have ha3 := hq
          clear hq gr
          refine hK.out _ _ hp (fun hH18 => ?_)
          clear hK K
          simp only [Act.put]
          refine wpAnyH_ready (rs := [9]) (by kernel_rfl) (by simp) ?_
          refine AllReadyH.cons (o := _) rfl (fun K hK => ?_) AllReadyH.nil
          simp only [List.getElem_toArray, List.getElem_cons_zero, List.getElem_cons_succ]
          rw [if_pos (by rfl)]
          refine wp_store_blk 27 (.tmp 4) (.tmp 32) rfl g4 rfl _ rfl _ 27 ha4 (by rfl) (by kernel_rfl) (by kernel_rfl) ?_
          intro w19 hq gr
          replace pb := pb.away av_pb_a4 gr
          replace hp := blk_a hp gr d_p_a4
          replace ha5 := blk_a ha5 gr d_a5_a4
          replace ha3 := blk_a ha3 gr (ne_symm d_a4_a3)
          replace ha6 := blk_a ha6 gr (ne_symm d_a4_a6)
          replace bel := below_grown bel gr oa4 bel.size
          clear ha4
          have ha4 := hq
          clear hq gr
          refine hK.out _ _ hp (fun hH20 => ?_)
          clear hK K
          simp only [Act.put]
          refine wpAnyH_ready (rs := [10]) (by kernel_rfl) (by simp) ?_
          refine AllReadyH.cons (o := _) rfl (fun K hK => ?_) AllReadyH.nil
          simp only [List.getElem_toArray, List.getElem_cons_zero, List.getElem_cons_succ]
          rw [if_pos (by rfl)]
          refine wp_store_blk 27 (.tmp 5) (.tmp 33) rfl g5 rfl _ rfl _ 27 ha5 (by rfl) (by kernel_rfl) (by kernel_rfl) ?_
          intro w21 hq gr
          replace pb := pb.away av_pb_a5 gr
          replace hp := blk_a hp gr d_p_a5
          replace ha4 := blk_a ha4 gr (ne_symm d_a5_a4)
          replace ha3 := blk_a ha3 gr (ne_symm d_a5_a3)
          replace ha6 := blk_a ha6 gr (ne_symm d_a5_a6)
          replace bel := below_grown bel gr oa5 bel.size
          clear ha5
          have ha5 := hq
          clear hq gr
          refine hK.out _ _ hp (fun hH22 => ?_)
          clear hK K
          simp only [Act.put]
          refine wpAnyH_ready (rs := [11]) (by kernel_rfl) (by simp) ?_
          refine AllReadyH.cons (o := _) rfl (fun K hK => ?_) AllReadyH.nil
          simp only [List.getElem_toArray, List.getElem_cons_zero, List.getElem_cons_succ]
          rw [if_pos (by rfl)]
          refine wp_store_blk 27 (.tmp 6) (.tmp 34) rfl g6 rfl _ rfl _ 27 ha6 (by rfl) (by kernel_rfl) (by kernel_rfl) ?_
          intro w23 hq gr
          replace pb := pb.away av_pb_a6 gr
          replace hp := blk_a hp gr d_p_a6
          replace ha5 := blk_a ha5 gr d_a5_a6
          replace ha4 := blk_a ha4 gr d_a4_a6
          replace ha3 := blk_a ha3 gr d_a3_a6
          replace bel := below_grown bel gr oa6 bel.size
          clear ha6
          have ha6 := hq
          clear hq gr
          refine hK.out _ _ hp (fun hH24 => ?_)
          clear hK K
          simp only [Act.put]
          refine wpAnyH_done (by kernel_rfl) ?_ _
          go_wp2_with fail
          go_meet
          case rel => exact ⟨g3, g4, g5, g6, rfl, rfl, rfl, rfl, hp, ha3, oa3, ha4, oa4, ha5, oa5, ha6, oa6, (ne_symm d_a4_a3), (ne_symm d_a5_a3), d_a3_a6, (ne_symm d_p_a3), (ne_symm d_a5_a4), d_a4_a6, (ne_symm d_p_a4), d_a5_a6, (ne_symm d_p_a5), (ne_symm d_p_a6), pb, av_pb_a3, av_pb_a4, av_pb_a5, av_pb_a6, av_pb_p, bel⟩
        · simp only [List.getElem_toArray, List.getElem_cons_zero, List.getElem_cons_succ]
          rw [if_pos (by rfl)]
          refine wp_new_a 27 rfl #[.int .i64 0, .int .i64 0, .int .i64 0, .int .i64 0, .int .i64 0, .int .i64 0, .int .u8 0, .int .u8 0, .int .u8 0, .int .u8 0, .int .u8 0, .int .u8 0, .int .u8 0, .int .u8 0, .slice none 0 0, .slice none 0 0] (by kernel_rfl) ?_
          intro g6 w13 ge hh bb
          have d_p_a6 := ne_new (hlt hp) ge
          have d_a5_a6 := ne_new (hlt ha5) ge
          have d_a4_a6 := ne_new (hlt ha4) ge
          have av_pb_a6 := pb.av_new ge
          have oa6 := Nat.le_trans bel.size ge
          replace hp := blk_u hp bb
          replace ha5 := blk_u ha5 bb
          replace ha4 := blk_u ha4 bb
          replace pb := pb.below bb
          replace bel := bel.trans (bb.mono bel.size)
          have ha6 := hh
          clear hh ge bb
          refine hK.out _ _ hp (fun hH14 => ?_)
          clear hK K
          simp only [Act.put, List.setIfInBounds_toArray, List.set_cons_zero, List.set_cons_succ]
          refine wpAnyH_ready (rs := [4]) (by kernel_rfl) (by simp) ?_
          refine AllReadyH.cons (o := _) rfl (fun K hK => ?_) AllReadyH.nil
          simp only [List.getElem_toArray, List.getElem_cons_zero, List.getElem_cons_succ]
          rw [if_pos (by rfl)]
          refine wp_new_a 27 rfl #[.int .i64 0, .int .i64 0, .int .i64 0, .int .i64 0, .int .i64 0, .int .i64 0, .int .u8 0, .int .u8 0, .int .u8 0, .int .u8 0, .int .u8 0, .int .u8 0, .int .u8 0, .int .u8 0, .slice none 0 0, .slice none 0 0] (by kernel_rfl) ?_
          intro g3 w15 ge hh bb
          have d_p_a3 := ne_new (hlt hp) ge
          have d_a5_a3 := ne_new (hlt ha5) ge
          have d_a4_a3 := ne_new (hlt ha4) ge
          have d_a6_a3 := ne_new (hlt ha6) ge
          have av_pb_a3 := pb.av_new ge
          have oa3 := Nat.le_trans bel.size ge
          replace hp := blk_u hp bb
          replace ha5 := blk_u ha5 bb
          replace ha4 := blk_u ha4 bb
          replace ha6 := blk_u ha6 bb
          replace pb := pb.below bb
          replace bel := bel.trans (bb.mono bel.size)
          have ha3 := hh
          clear hh ge bb
          refine hK.out _ _ hp (fun hH16 => ?_)
          clear hK K
          simp only [Act.put, List.setIfInBounds_toArray, List.set_cons_zero, List.set_cons_succ]
          refine wpAnyH_ready (rs := [8]) (by kernel_rfl) (by simp) ?_
          refine AllReadyH.cons (o := _) rfl (fun K hK => ?_) AllReadyH.nil
          simp only [List.getElem_toArray, List.getElem_cons_zero, List.getElem_cons_succ]
          rw [if_pos (by rfl)]
          refine wp_store_blk 27 (.tmp 3) (.tmp 31) rfl g3 rfl _ rfl _ 27 ha3 (by rfl) (by kernel_rfl) (by kernel_rfl) ?_
          intro w17 hq gr
          replace pb := pb.away av_pb_a3 gr
          replace hp := blk_a hp gr d_p_a3
          replace ha5 := blk_a ha5 gr d_a5_a3
          replace ha4 := blk_a ha4 gr d_a4_a3
          replace ha6 := blk_a ha6 gr d_a6_a3
          replace bel := below_grown bel gr oa3 bel.size
          clear ha3
          have ha3 := hq
          clear hq gr
          refine hK.out _ _ hp (fun hH18 => ?_)
          clear hK K
          simp only [Act.put]
          refine wpAnyH_ready (rs := [9]) (by kernel_rfl) (by simp) ?_
          refine AllReadyH.cons (o := _) rfl (fun K hK => ?_) AllReadyH.nil
          simp only [List.getElem_toArray, List.getElem_cons_zero, List.getElem_cons_succ]
          rw [if_pos (by rfl)]
          refine wp_store_blk 27 (.tmp 4) (.tmp 32) rfl g4 rfl _ rfl _ 27 ha4 (by rfl) (by kernel_rfl) (by kernel_rfl) ?_
          intro w19 hq gr
          replace pb := pb.away av_pb_a4 gr
          replace hp := blk_a hp gr d_p_a4
          replace ha5 := blk_a ha5 gr d_a5_a4
          replace ha6 := blk_a ha6 gr (ne_symm d_a4_a6)
          replace ha3 := blk_a ha3 gr (ne_symm d_a4_a3)
          replace bel := below_grown bel gr oa4 bel.size
          clear ha4
          have ha4 := hq
          clear hq gr
          refine hK.out _ _ hp (fun hH20 => ?_)
          clear hK K
          simp only [Act.put]
          refine wpAnyH_ready (rs := [10]) (by kernel_rfl) (by simp) ?_
          refine AllReadyH.cons (o := _) rfl (fun K hK => ?_) AllReadyH.nil
          simp only [List.getElem_toArray, List.getElem_cons_zero, List.getElem_cons_succ]
          rw [if_pos (by rfl)]
          refine wp_store_blk 27 (.tmp 5) (.tmp 33) rfl g5 rfl _ rfl _ 27 ha5 (by rfl) (by kernel_rfl) (by kernel_rfl) ?_
          intro w21 hq gr
          replace pb := pb.away av_pb_a5 gr
          replace hp := blk_a hp gr d_p_a5
          replace ha4 := blk_a ha4 gr (ne_symm d_a5_a4)
          replace ha6 := blk_a ha6 gr (ne_symm d_a5_a6)
          replace ha3 := blk_a ha3 gr (ne_symm d_a5_a3)
          replace bel := below_grown bel gr oa5 bel.size
          clear ha5
          have ha5 := hq
          clear hq gr
          refine hK.out _ _ hp (fun hH22 => ?_)
          clear hK K
          simp only [Act.put]
          refine wpAnyH_ready (rs := [11]) (by kernel_rfl) (by simp) ?_
          refine AllReadyH.cons (o := _) rfl (fun K hK => ?_) AllReadyH.nil
          simp only [List.getElem_toArray, List.getElem_cons_zero, List.getElem_cons_succ]
          rw [if_pos (by rfl)]
          refine wp_store_blk 27 (.tmp 6) (.tmp 34) rfl g6 rfl _ rfl _ 27 ha6 (by rfl) (by kernel_rfl) (by kernel_rfl) ?_
          intro w23 hq gr
          replace pb := pb.away av_pb_a6 gr
          replace hp := blk_a hp gr d_p_a6
          replace ha5 := blk_a ha5 gr d_a5_a6
          replace ha4 := blk_a ha4 gr d_a4_a6
          replace ha3 := blk_a ha3 gr (ne_symm d_a6_a3)
          replace bel := below_grown bel gr oa6 bel.size
          clear ha6
          have ha6 := hq
          clear hq gr
          refine hK.out _ _ hp (fun hH24 => ?_)
          clear hK K
          simp only [Act.put]
          refine wpAnyH_done (by kernel_rfl) ?_ _
          go_wp2_with fail
          go_meet
          case rel => exact ⟨g3, g4, g5, g6, rfl, rfl, rfl, rfl, hp, ha3, oa3, ha4, oa4, ha5, oa5, ha6, oa6, (ne_symm d_a4_a3), (ne_symm d_a5_a3), (ne_symm d_a6_a3), (ne_symm d_p_a3), (ne_symm d_a5_a4), d_a4_a6, (ne_symm d_p_a4), d_a5_a6, (ne_symm d_p_a5), (ne_symm d_p_a6), pb, av_pb_a3, av_pb_a4, av_pb_a5, av_pb_a6, av_pb_p, bel⟩
      · simp only [List.getElem_toArray, List.getElem_cons_zero, List.getElem_cons_succ]
        rw [if_pos (by rfl)]
        refine wp_new_a 27 rfl #[.int .i64 0, .int .i64 0, .int .i64 0, .int .i64 0, .int .i64 0, .int .i64 0, .int .u8 0, .int .u8 0, .int .u8 0, .int .u8 0, .int .u8 0, .int .u8 0, .int .u8 0, .int .u8 0, .slice none 0 0, .slice none 0 0] (by kernel_rfl) ?_
        intro g6 w11 ge hh bb
        have d_p_a6 := ne_new (hlt hp) ge
        have d_a5_a6 := ne_new (hlt ha5) ge
        have av_pb_a6 := pb.av_new ge
        have oa6 := Nat.le_trans bel.size ge
        replace hp := blk_u hp bb
        replace ha5 := blk_u ha5 bb
        replace pb := pb.below bb
        replace bel := bel.trans (bb.mono bel.size)
        have ha6 := hh
        clear hh ge bb
        refine hK.out _ _ hp (fun hH12 => ?_)
        clear hK K
        simp only [Act.put, List.setIfInBounds_toArray, List.set_cons_zero, List.set_cons_succ]
        refine wpAnyH_ready (rs := [4, 5]) (by kernel_rfl) (by simp) ?_
        refine AllReadyH.cons (o := _) rfl (fun K hK => ?_) (AllReadyH.cons (o := _) rfl (fun K hK => ?_) AllReadyH.nil)
        · simp only [List.getElem_toArray, List.getElem_cons_zero, List.getElem_cons_succ]
          rw [if_pos (by rfl)]
          refine wp_new_a 27 rfl #[.int .i64 0, .int .i64 0, .int .i64 0, .int .i64 0, .int .i64 0, .int .i64 0, .int .u8 0, .int .u8 0, .int .u8 0, .int .u8 0, .int .u8 0, .int .u8 0, .int .u8 0, .int .u8 0, .slice none 0 0, .slice none 0 0] (by kernel_rfl) ?_
          intro g3 w13 ge hh bb
          have d_p_a3 := ne_new (hlt hp) ge
          have d_a5_a3 := ne_new (hlt ha5) ge
          have d_a6_a3 := ne_new (hlt ha6) ge
          have av_pb_a3 := pb.av_new ge
          have oa3 := Nat.le_trans bel.size ge
          replace hp := blk_u hp bb
          replace ha5 := blk_u ha5 bb
          replace ha6 := blk_u ha6 bb
          replace pb := pb.below bb
          replace bel := bel.trans (bb.mono bel.size)
          have ha3 := hh
          clear hh ge bb
          refine hK.out _ _ hp (fun hH14 => ?_)
          clear hK K
          simp only [Act.put, List.setIfInBounds_toArray, List.set_cons_zero, List.set_cons_succ]
          refine wpAnyH_ready (rs := [5]) (by kernel_rfl) (by simp) ?_
          refine AllReadyH.cons (o := _) rfl (fun K hK => ?_) AllReadyH.nil
          simp only [List.getElem_toArray, List.getElem_cons_zero, List.getElem_cons_succ]
          rw [if_pos (by rfl)]
          refine wp_new_a 27 rfl #[.int .i64 0, .int .i64 0, .int .i64 0, .int .i64 0, .int .i64 0, .int .i64 0, .int .u8 0, .int .u8 0, .int .u8 0, .int .u8 0, .int .u8 0, .int .u8 0, .int .u8 0, .int .u8 0, .slice none 0 0, .slice none 0 0] (by kernel_rfl) ?_
          intro g4 w15 ge hh bb
          have d_p_a4 := ne_new (hlt hp) ge
          have d_a5_a4 := ne_new (hlt ha5) ge
          have d_a6_a4 := ne_new (hlt ha6) ge
          have d_a3_a4 := ne_new (hlt ha3) ge
          have av_pb_a4 := pb.av_new ge
          have oa4 := Nat.le_trans bel.size ge
          replace hp := blk_u hp bb
          replace ha5 := blk_u ha5 bb
          replace ha6 := blk_u ha6 bb
          replace ha3 := blk_u ha3 bb
          replace pb := pb.below bb
          replace bel := bel.trans (bb.mono bel.size)
          have ha4 := hh
          clear hh ge bb
          refine hK.out _ _ hp (fun hH16 => ?_)
          clear hK K
          simp only [Act.put, List.setIfInBounds_toArray, List.set_cons_zero, List.set_cons_succ]
          refine wpAnyH_ready (rs := [8]) (by kernel_rfl) (by simp) ?_
          refine AllReadyH.cons (o := _) rfl (fun K hK => ?_) AllReadyH.nil
          simp only [List.getElem_toArray, List.getElem_cons_zero, List.getElem_cons_succ]
          rw [if_pos (by rfl)]
          refine wp_store_blk 27 (.tmp 3) (.tmp 31) rfl g3 rfl _ rfl _ 27 ha3 (by rfl) (by kernel_rfl) (by kernel_rfl) ?_
          intro w17 hq gr
          replace pb := pb.away av_pb_a3 gr
          replace hp := blk_a hp gr d_p_a3
          replace ha5 := blk_a ha5 gr d_a5_a3
          replace ha6 := blk_a ha6 gr d_a6_a3
          replace ha4 := blk_a ha4 gr (ne_symm d_a3_a4)
          replace bel := below_grown bel gr oa3 bel.size
          clear ha3
          have ha3 := hq
          clear hq gr
          refine hK.out _ _ hp (fun hH18 => ?_)
          clear hK K
          simp only [Act.put]
          refine wpAnyH_ready (rs := [9]) (by kernel_rfl) (by simp) ?_
          refine AllReadyH.cons (o := _) rfl (fun K hK => ?_) AllReadyH.nil
          simp only [List.getElem_toArray, List.getElem_cons_zero, List.getElem_cons_succ]
          rw [if_pos (by rfl)]
          refine wp_store_blk 27 (.tmp 4) (.tmp 32) rfl g4 rfl _ rfl _ 27 ha4 (by rfl) (by kernel_rfl) (by kernel_rfl) ?_
          intro w19 hq gr
          replace pb := pb.away av_pb_a4 gr
          replace hp := blk_a hp gr d_p_a4
          replace ha5 := blk_a ha5 gr d_a5_a4
          replace ha6 := blk_a ha6 gr d_a6_a4
          replace ha3 := blk_a ha3 gr d_a3_a4
          replace bel := below_grown bel gr oa4 bel.size
          clear ha4
          have ha4 := hq
          clear hq gr
          refine hK.out _ _ hp (fun hH20 => ?_)
          clear hK K
          simp only [Act.put]
          refine wpAnyH_ready (rs := [10]) (by kernel_rfl) (by simp) ?_
          refine AllReadyH.cons (o := _) rfl (fun K hK => ?_) AllReadyH.nil
          simp only [List.getElem_toArray, List.getElem_cons_zero, List.getElem_cons_succ]
          rw [if_pos (by rfl)]
          refine wp_store_blk 27 (.tmp 5) (.tmp 33) rfl g5 rfl _ rfl _ 27 ha5 (by rfl) (by kernel_rfl) (by kernel_rfl) ?_
          intro w21 hq gr
          replace pb := pb.away av_pb_a5 gr
          replace hp := blk_a hp gr d_p_a5
          replace ha6 := blk_a ha6 gr (ne_symm d_a5_a6)
          replace ha3 := blk_a ha3 gr (ne_symm d_a5_a3)
          replace ha4 := blk_a ha4 gr (ne_symm d_a5_a4)
          replace bel := below_grown bel gr oa5 bel.size
          clear ha5
          have ha5 := hq
          clear hq gr
          refine hK.out _ _ hp (fun hH22 => ?_)
          clear hK K
          simp only [Act.put]
          refine wpAnyH_ready (rs := [11]) (by kernel_rfl) (by simp) ?_
          refine AllReadyH.cons (o := _) rfl (fun K hK => ?_) AllReadyH.nil
          simp only [List.getElem_toArray, List.getElem_cons_zero, List.getElem_cons_succ]
          rw [if_pos (by rfl)]
          refine wp_store_blk 27 (.tmp 6) (.tmp 34) rfl g6 rfl _ rfl _ 27 ha6 (by rfl) (by kernel_rfl) (by kernel_rfl) ?_
          intro w23 hq gr
          replace pb := pb.away av_pb_a6 gr
          replace hp := blk_a hp gr d_p_a6
          replace ha5 := blk_a ha5 gr d_a5_a6
          replace ha3 := blk_a ha3 gr (ne_symm d_a6_a3)
          replace ha4 := blk_a ha4 gr (ne_symm d_a6_a4)
          replace bel := below_grown bel gr oa6 bel.size
          clear ha6
          have ha6 := hq
          clear hq gr
          refine hK.out _ _ hp (fun hH24 => ?_)
          clear hK K
          simp only [Act.put]
          refine wpAnyH_done (by kernel_rfl) ?_ _
          go_wp2_with fail
          go_meet
          case rel => exact ⟨g3, g4, g5, g6, rfl, rfl, rfl, rfl, hp, ha3, oa3, ha4, oa4, ha5, oa5, ha6, oa6, d_a3_a4, (ne_symm d_a5_a3), (ne_symm d_a6_a3), (ne_symm d_p_a3), (ne_symm d_a5_a4), (ne_symm d_a6_a4), (ne_symm d_p_a4), d_a5_a6, (ne_symm d_p_a5), (ne_symm d_p_a6), pb, av_pb_a3, av_pb_a4, av_pb_a5, av_pb_a6, av_pb_p, bel⟩
        · simp only [List.getElem_toArray, List.getElem_cons_zero, List.getElem_cons_succ]
          rw [if_pos (by rfl)]
          refine wp_new_a 27 rfl #[.int .i64 0, .int .i64 0, .int .i64 0, .int .i64 0, .int .i64 0, .int .i64 0, .int .u8 0, .int .u8 0, .int .u8 0, .int .u8 0, .int .u8 0, .int .u8 0, .int .u8 0, .int .u8 0, .slice none 0 0, .slice none 0 0] (by kernel_rfl) ?_
          intro g4 w13 ge hh bb
          have d_p_a4 := ne_new (hlt hp) ge
          have d_a5_a4 := ne_new (hlt ha5) ge
          have d_a6_a4 := ne_new (hlt ha6) ge
          have av_pb_a4 := pb.av_new ge
          have oa4 := Nat.le_trans bel.size ge
          replace hp := blk_u hp bb
          replace ha5 := blk_u ha5 bb
          replace ha6 := blk_u ha6 bb
          replace pb := pb.below bb
          replace bel := bel.trans (bb.mono bel.size)
          have ha4 := hh
          clear hh ge bb
          refine hK.out _ _ hp (fun hH14 => ?_)
          clear hK K
          simp only [Act.put, List.setIfInBounds_toArray, List.set_cons_zero, List.set_cons_succ]
          refine wpAnyH_ready (rs := [4]) (by kernel_rfl) (by simp) ?_
          refine AllReadyH.cons (o := _) rfl (fun K hK => ?_) AllReadyH.nil
          simp only [List.getElem_toArray, List.getElem_cons_zero, List.getElem_cons_succ]
          rw [if_pos (by rfl)]
          refine wp_new_a 27 rfl #[.int .i64 0, .int .i64 0, .int .i64 0, .int .i64 0, .int .i64 0, .int .i64 0, .int .u8 0, .int .u8 0, .int .u8 0, .int .u8 0, .int .u8 0, .int .u8 0, .int .u8 0, .int .u8 0, .slice none 0 0, .slice none 0 0] (by kernel_rfl) ?_
          intro g3 w15 ge hh bb
          have d_p_a3 := ne_new (hlt hp) ge
          have d_a5_a3 := ne_new (hlt ha5) ge
          have d_a6_a3 := ne_new (hlt ha6) ge
          have d_a4_a3 := ne_new (hlt ha4) ge
          have av_pb_a3 := pb.av_new ge
          have oa3 := Nat.le_trans bel.size ge
          replace hp := blk_u hp bb
          replace ha5 := blk_u ha5 bb
          replace ha6 := blk_u ha6 bb
          replace ha4 := blk_u ha4 bb
          replace pb := pb.below bb
          replace bel := bel.trans (bb.mono bel.size)
          have ha3 := hh
          clear hh ge bb
          refine hK.out _ _ hp (fun hH16 => ?_)
          clear hK K
          simp only [Act.put, List.setIfInBounds_toArray, List.set_cons_zero, List.set_cons_succ]
          refine wpAnyH_ready (rs := [8]) (by kernel_rfl) (by simp) ?_
          refine AllReadyH.cons (o := _) rfl (fun K hK => ?_) AllReadyH.nil
          simp only [List.getElem_toArray, List.getElem_cons_zero, List.getElem_cons_succ]
          rw [if_pos (by rfl)]
          refine wp_store_blk 27 (.tmp 3) (.tmp 31) rfl g3 rfl _ rfl _ 27 ha3 (by rfl) (by kernel_rfl) (by kernel_rfl) ?_
          intro w17 hq gr
          replace pb := pb.away av_pb_a3 gr
          replace hp := blk_a hp gr d_p_a3
          replace ha5 := blk_a ha5 gr d_a5_a3
          replace ha6 := blk_a ha6 gr d_a6_a3
          replace ha4 := blk_a ha4 gr d_a4_a3
          replace bel := below_grown bel gr oa3 bel.size
          clear ha3
          have ha3 := hq
          clear hq gr
          refine hK.out _ _ hp (fun hH18 => ?_)
          clear hK K
          simp only [Act.put]
          refine wpAnyH_ready (rs := [9]) (by kernel_rfl) (by simp) ?_
          refine AllReadyH.cons (o := _) rfl (fun K hK => ?_) AllReadyH.nil
          simp only [List.getElem_toArray, List.getElem_cons_zero, List.getElem_cons_succ]
          rw [if_pos (by rfl)]
          refine wp_store_blk 27 (.tmp 4) (.tmp 32) rfl g4 rfl _ rfl _ 27 ha4 (by rfl) (by kernel_rfl) (by kernel_rfl) ?_
          intro w19 hq gr
          replace pb := pb.away av_pb_a4 gr
          replace hp := blk_a hp gr d_p_a4
          replace ha5 := blk_a ha5 gr d_a5_a4
          replace ha6 := blk_a ha6 gr d_a6_a4
          replace ha3 := blk_a ha3 gr (ne_symm d_a4_a3)
          replace bel := below_grown bel gr oa4 bel.size
          clear ha4
          have ha4 := hq
          clear hq gr
          refine hK.out _ _ hp (fun hH20 => ?_)
          clear hK K
          simp only [Act.put]
          refine wpAnyH_ready (rs := [10]) (by kernel_rfl) (by simp) ?_
          refine AllReadyH.cons (o := _) rfl (fun K hK => ?_) AllReadyH.nil
          simp only [List.getElem_toArray, List.getElem_cons_zero, List.getElem_cons_succ]
          rw [if_pos (by rfl)]
          refine wp_store_blk 27 (.tmp 5) (.tmp 33) rfl g5 rfl _ rfl _ 27 ha5 (by rfl) (by kernel_rfl) (by kernel_rfl) ?_
          intro w21 hq gr
          replace pb := pb.away av_pb_a5 gr
          replace hp := blk_a hp gr d_p_a5
          replace ha6 := blk_a ha6 gr (ne_symm d_a5_a6)
          replace ha4 := blk_a ha4 gr (ne_symm d_a5_a4)
          replace ha3 := blk_a ha3 gr (ne_symm d_a5_a3)
          replace bel := below_grown bel gr oa5 bel.size
          clear ha5
          have ha5 := hq
          clear hq gr
          refine hK.out _ _ hp (fun hH22 => ?_)
          clear hK K
          simp only [Act.put]
          refine wpAnyH_ready (rs := [11]) (by kernel_rfl) (by simp) ?_
          refine AllReadyH.cons (o := _) rfl (fun K hK => ?_) AllReadyH.nil
          simp only [List.getElem_toArray, List.getElem_cons_zero, List.getElem_cons_succ]
          rw [if_pos (by rfl)]
          refine wp_store_blk 27 (.tmp 6) (.tmp 34) rfl g6 rfl _ rfl _ 27 ha6 (by rfl) (by kernel_rfl) (by kernel_rfl) ?_
          intro w23 hq gr
          replace pb := pb.away av_pb_a6 gr
          replace hp := blk_a hp gr d_p_a6
          replace ha5 := blk_a ha5 gr d_a5_a6
          replace ha4 := blk_a ha4 gr (ne_symm d_a6_a4)
          replace ha3 := blk_a ha3 gr (ne_symm d_a6_a3)
          replace bel := below_grown bel gr oa6 bel.size
          clear ha6
          have ha6 := hq
          clear hq gr
          refine hK.out _ _ hp (fun hH24 => ?_)
          clear hK K
          simp only [Act.put]
          refine wpAnyH_done (by kernel_rfl) ?_ _
          go_wp2_with fail
          go_meet
          case rel => exact ⟨g3, g4, g5, g6, rfl, rfl, rfl, rfl, hp, ha3, oa3, ha4, oa4, ha5, oa5, ha6, oa6, (ne_symm d_a4_a3), (ne_symm d_a5_a3), (ne_symm d_a6_a3), (ne_symm d_p_a3), (ne_symm d_a5_a4), (ne_symm d_a6_a4), (ne_symm d_p_a4), d_a5_a6, (ne_symm d_p_a5), (ne_symm d_p_a6), pb, av_pb_a3, av_pb_a4, av_pb_a5, av_pb_a6, av_pb_p, bel⟩
    · simp only [List.getElem_toArray, List.getElem_cons_zero, List.getElem_cons_succ]
      rw [if_pos (by rfl)]
      refine wp_new_a 27 rfl #[.int .i64 0, .int .i64 0, .int .i64 0, .int .i64 0, .int .i64 0, .int .i64 0, .int .u8 0, .int .u8 0, .int .u8 0, .int .u8 0, .int .u8 0, .int .u8 0, .int .u8 0, .int .u8 0, .slice none 0 0, .slice none 0 0] (by kernel_rfl) ?_
      intro g6 w9 ge hh bb
      have d_p_a6 := ne_new (hlt hp) ge
      have av_pb_a6 := pb.av_new ge
      have oa6 := Nat.le_trans bel.size ge
      replace hp := blk_u hp bb
      replace pb := pb.below bb
      replace bel := bel.trans (bb.mono bel.size)
      have ha6 := hh
      clear hh ge bb
      refine hK.out _ _ hp (fun hH10 => ?_)
      clear hK K
      simp only [Act.put, List.setIfInBounds_toArray, List.set_cons_zero, List.set_cons_succ]
      refine wpAnyH_ready (rs := [4, 5, 6]) (by kernel_rfl) (by simp) ?_
      refine AllReadyH.cons (o := _) rfl (fun K hK => ?_) (AllReadyH.cons (o := _) rfl (fun K hK => ?_) (AllReadyH.cons (o := _) rfl (fun K hK => ?_) AllReadyH.nil))
      · simp only [List.getElem_toArray, List.getElem_cons_zero, List.getElem_cons_succ]
        rw [if_pos (by rfl)]
        refine wp_new_a 27 rfl #[.int .i64 0, .int .i64 0, .int .i64 0, .int .i64 0, .int .i64 0, .int .i64 0, .int .u8 0, .int .u8 0, .int .u8 0, .int .u8 0, .int .u8 0, .int .u8 0, .int .u8 0, .int .u8 0, .slice none 0 0, .slice none 0 0] (by kernel_rfl) ?_
        intro g3 w11 ge hh bb
        have d_p_a3 := ne_new (hlt hp) ge
        have d_a6_a3 := ne_new (hlt ha6) ge
        have av_pb_a3 := pb.av_new ge
        have oa3 := Nat.le_trans bel.size ge
        replace hp := blk_u hp bb
        replace ha6 := blk_u ha6 bb
        replace pb := pb.below bb
        replace bel := bel.trans (bb.mono bel.size)
        have ha3 := hh
        clear hh ge bb
        refine hK.out _ _ hp (fun hH12 => ?_)
        clear hK K
        simp only [Act.put, List.setIfInBounds_toArray, List.set_cons_zero, List.set_cons_succ]
        refine wpAnyH_ready (rs := [5, 6]) (by kernel_rfl) (by simp) ?_
        refine AllReadyH.cons (o := _) rfl (fun K hK => ?_) (AllReadyH.cons (o := _) rfl (fun K hK => ?_) AllReadyH.nil)
        · simp only [List.getElem_toArray, List.getElem_cons_zero, List.getElem_cons_succ]
          rw [if_pos (by rfl)]
          refine wp_new_a 27 rfl #[.int .i64 0, .int .i64 0, .int .i64 0, .int .i64 0, .int .i64 0, .int .i64 0, .int .u8 0, .int .u8 0, .int .u8 0, .int .u8 0, .int .u8 0, .int .u8 0, .int .u8 0, .int .u8 0, .slice none 0 0, .slice none 0 0] (by kernel_rfl) ?_
          intro g4 w13 ge hh bb
          have d_p_a4 := ne_new (hlt hp) ge
          have d_a6_a4 := ne_new (hlt ha6) ge
          have d_a3_a4 := ne_new (hlt ha3) ge
          have av_pb_a4 := pb.av_new ge
          have oa4 := Nat.le_trans bel.size ge
          replace hp := blk_u hp bb
          replace ha6 := blk_u ha6 bb
          replace ha3 := blk_u ha3 bb
          replace pb := pb.below bb
          replace bel := bel.trans (bb.mono bel.size)
          have ha4 := hh
          clear hh ge bb
          refine hK.out _ _ hp (fun hH14 => ?_)
          clear hK K
          simp only [Act.put, List.setIfInBounds_toArray, List.set_cons_zero, List.set_cons_succ]
          refine wpAnyH_ready (rs := [6]) (by kernel_rfl) (by simp) ?_
          refine AllReadyH.cons (o := _) rfl (fun K hK => ?_) AllReadyH.nil
          simp only [List.getElem_toArray, List.getElem_cons_zero, List.getElem_cons_succ]
          rw [if_pos (by rfl)]
          refine wp_new_a 27 rfl #[.int .i64 0, .int .i64 0, .int .i64 0, .int .i64 0, .int .i64 0, .int .i64 0, .int .u8 0, .int .u8 0, .int .u8 0, .int .u8 0, .int .u8 0, .int .u8 0, .int .u8 0, .int .u8 0, .slice none 0 0, .slice none 0 0] (by kernel_rfl) ?_
          intro g5 w15 ge hh bb
          have d_p_a5 := ne_new (hlt hp) ge
          have d_a6_a5 := ne_new (hlt ha6) ge
          have d_a3_a5 := ne_new (hlt ha3) ge
          have d_a4_a5 := ne_new (hlt ha4) ge
          have av_pb_a5 := pb.av_new ge
          have oa5 := Nat.le_trans bel.size ge
          replace hp := blk_u hp bb
          replace ha6 := blk_u ha6 bb
          replace ha3 := blk_u ha3 bb
          replace ha4 := blk_u ha4 bb
          replace pb := pb.below bb
          replace bel := bel.trans (bb.mono bel.size)
          have ha5 := hh
          clear hh ge bb
          refine hK.out _ _ hp (fun hH16 => ?_)
          clear hK K
          simp only [Act.put, List.setIfInBounds_toArray, List.set_cons_zero, List.set_cons_succ]
          refine wpAnyH_ready (rs := [8]) (by kernel_rfl) (by simp) ?_
          refine AllReadyH.cons (o := _) rfl (fun K hK => ?_) AllReadyH.nil
          simp only [List.getElem_toArray, List.getElem_cons_zero, List.getElem_cons_succ]
          rw [if_pos (by rfl)]
          refine wp_store_blk 27 (.tmp 3) (.tmp 31) rfl g3 rfl _ rfl _ 27 ha3 (by rfl) (by kernel_rfl) (by kernel_rfl) ?_
          intro w17 hq gr
          replace pb := pb.away av_pb_a3 gr
          replace hp := blk_a hp gr d_p_a3
          replace ha6 := blk_a ha6 gr d_a6_a3
          replace ha4 := blk_a ha4 gr (ne_symm d_a3_a4)
          replace ha5 := blk_a ha5 gr (ne_symm d_a3_a5)
          replace bel := below_grown bel gr oa3 bel.size
          clear ha3
          have ha3 := hq
          clear hq gr
          refine hK.out _ _ hp (fun hH18 => ?_)
          clear hK K
          simp only [Act.put]
          refine wpAnyH_ready (rs := [9]) (by kernel_rfl) (by simp) ?_
          refine AllReadyH.cons (o := _) rfl (fun K hK => ?_) AllReadyH.nil
          simp only [List.getElem_toArray, List.getElem_cons_zero, List.getElem_cons_succ]
          rw [if_pos (by rfl)]
          refine wp_store_blk 27 (.tmp 4) (.tmp 32) rfl g4 rfl _ rfl _ 27 ha4 (by rfl) (by kernel_rfl) (by kernel_rfl) ?_
          intro w19 hq gr
          replace pb := pb.away av_pb_a4 gr
          replace hp := blk_a hp gr d_p_a4
          replace ha6 := blk_a ha6 gr d_a6_a4
          replace ha3 := blk_a ha3 gr d_a3_a4
          replace ha5 := blk_a ha5 gr (ne_symm d_a4_a5)
          replace bel := below_grown bel gr oa4 bel.size
          clear ha4
          have ha4 := hq
          clear hq gr
          refine hK.out _ _ hp (fun hH20 => ?_)
          clear hK K
          simp only [Act.put]
          refine wpAnyH_ready (rs := [10]) (by kernel_rfl) (by simp) ?_
          refine AllReadyH.cons (o := _) rfl (fun K hK => ?_) AllReadyH.nil
          simp only [List.getElem_toArray, List.getElem_cons_zero, List.getElem_cons_succ]
          rw [if_pos (by rfl)]
          refine wp_store_blk 27 (.tmp 5) (.tmp 33) rfl g5 rfl _ rfl _ 27 ha5 (by rfl) (by kernel_rfl) (by kernel_rfl) ?_
          intro w21 hq gr
          replace pb := pb.away av_pb_a5 gr
          replace hp := blk_a hp gr d_p_a5
          replace ha6 := blk_a ha6 gr d_a6_a5
          replace ha3 := blk_a ha3 gr d_a3_a5
          replace ha4 := blk_a ha4 gr d_a4_a5
          replace bel := below_grown bel gr oa5 bel.size
          clear ha5
          have ha5 := hq
          clear hq gr
          refine hK.out _ _ hp (fun hH22 => ?_)
          clear hK K
          simp only [Act.put]
          refine wpAnyH_ready (rs := [11]) (by kernel_rfl) (by simp) ?_
          refine AllReadyH.cons (o := _) rfl (fun K hK => ?_) AllReadyH.nil
          simp only [List.getElem_toArray, List.getElem_cons_zero, List.getElem_cons_succ]
          rw [if_pos (by rfl)]
          refine wp_store_blk 27 (.tmp 6) (.tmp 34) rfl g6 rfl _ rfl _ 27 ha6 (by rfl) (by kernel_rfl) (by kernel_rfl) ?_
          intro w23 hq gr
          replace pb := pb.away av_pb_a6 gr
          replace hp := blk_a hp gr d_p_a6
          replace ha3 := blk_a ha3 gr (ne_symm d_a6_a3)
          replace ha4 := blk_a ha4 gr (ne_symm d_a6_a4)
          replace ha5 := blk_a ha5 gr (ne_symm d_a6_a5)
          replace bel := below_grown bel gr oa6 bel.size
          clear ha6
          have ha6 := hq
          clear hq gr
          refine hK.out _ _ hp (fun hH24 => ?_)
          clear hK K
          simp only [Act.put]
          refine wpAnyH_done (by kernel_rfl) ?_ _
          go_wp2_with fail
          go_meet
          case rel => exact ⟨g3, g4, g5, g6, rfl, rfl, rfl, rfl, hp, ha3, oa3, ha4, oa4, ha5, oa5, ha6, oa6, d_a3_a4, d_a3_a5, (ne_symm d_a6_a3), (ne_symm d_p_a3), d_a4_a5, (ne_symm d_a6_a4), (ne_symm d_p_a4), (ne_symm d_a6_a5), (ne_symm d_p_a5), (ne_symm d_p_a6), pb, av_pb_a3, av_pb_a4, av_pb_a5, av_pb_a6, av_pb_p, bel⟩
        · simp only [List.getElem_toArray, List.getElem_cons_zero, List.getElem_cons_succ]
          rw [if_pos (by rfl)]
          refine wp_new_a 27 rfl #[.int .i64 0, .int .i64 0, .int .i64 0, .int .i64 0, .int .i64 0, .int .i64 0, .int .u8 0, .int .u8 0, .int .u8 0, .int .u8 0, .int .u8 0, .int .u8 0, .int .u8 0, .int .u8 0, .slice none 0 0, .slice none 0 0] (by kernel_rfl) ?_
          intro g5 w13 ge hh bb
          have d_p_a5 := ne_new (hlt hp) ge
          have d_a6_a5 := ne_new (hlt ha6) ge
          have d_a3_a5 := ne_new (hlt ha3) ge
          have av_pb_a5 := pb.av_new ge
          have oa5 := Nat.le_trans bel.size ge
          replace hp := blk_u hp bb
          replace ha6 := blk_u ha6 bb
          replace ha3 := blk_u ha3 bb
          replace pb := pb.below bb
          replace bel := bel.trans (bb.mono bel.size)
          have ha5 := hh
          clear hh ge bb
          refine hK.out _ _ hp (fun hH14 => ?_)
          clear hK K
          simp only [Act.put, List.setIfInBounds_toArray, List.set_cons_zero, List.set_cons_succ]
          refine wpAnyH_ready (rs := [5]) (by kernel_rfl) (by simp) ?_
          refine AllReadyH.cons (o := _) rfl (fun K hK => ?_) AllReadyH.nil
          simp only [List.getElem_toArray, List.getElem_cons_zero, List.getElem_cons_succ]
          rw [if_pos (by rfl)]
          refine wp_new_a 27 rfl #[.int .i64 0, .int .i64 0, .int .i64 0, .int .i64 0, .int .i64 0, .int .i64 0, .int .u8 0, .int .u8 0, .int .u8 0, .int .u8 0, .int .u8 0, .int .u8 0, .int .u8 0, .int .u8 0, .slice none 0 0, .slice none 0 0] (by kernel_rfl) ?_
          intro g4 w15 ge hh bb
          have d_p_a4 := ne_new (hlt hp) ge
          have d_a6_a4 := ne_new (hlt ha6) ge
          have d_a3_a4 := ne_new (hlt ha3) ge
          have d_a5_a4 := ne_new (hlt ha5) ge
          have av_pb_a4 := pb.av_new ge
          have oa4 := Nat.le_trans bel.size ge
          replace hp := blk_u hp bb
          replace ha6 := blk_u ha6 bb
          replace ha3 := blk_u ha3 bb
          replace ha5 := blk_u ha5 bb
          replace pb := pb.below bb
          replace bel := bel.trans (bb.mono bel.size)
          have ha4 := hh
          clear hh ge bb
          refine hK.out _ _ hp (fun hH16 => ?_)
          clear hK K
          simp only [Act.put, List.setIfInBounds_toArray, List.set_cons_zero, List.set_cons_succ]
          refine wpAnyH_ready (rs := [8]) (by kernel_rfl) (by simp) ?_
          refine AllReadyH.cons (o := _) rfl (fun K hK => ?_) AllReadyH.nil
          simp only [List.getElem_toArray, List.getElem_cons_zero, List.getElem_cons_succ]
          rw [if_pos (by rfl)]
          refine wp_store_blk 27 (.tmp 3) (.tmp 31) rfl g3 rfl _ rfl _ 27 ha3 (by rfl) (by kernel_rfl) (by kernel_rfl) ?_
          intro w17 hq gr
          replace pb := pb.away av_pb_a3 gr
          replace hp := blk_a hp gr d_p_a3
          replace ha6 := blk_a ha6 gr d_a6_a3
          replace ha5 := blk_a ha5 gr (ne_symm d_a3_a5)
          replace ha4 := blk_a ha4 gr (ne_symm d_a3_a4)
          replace bel := below_grown bel gr oa3 bel.size
          clear ha3
          have ha3 := hq
          clear hq gr
          refine hK.out _ _ hp (fun hH18 => ?_)
          clear hK K
          simp only [Act.put]
          refine wpAnyH_ready (rs := [9]) (by kernel_rfl) (by simp) ?_
          refine AllReadyH.cons (o := _) rfl (fun K hK => ?_) AllReadyH.nil
          simp only [List.getElem_toArray, List.getElem_cons_zero, List.getElem_cons_succ]
          rw [if_pos (by rfl)]
          refine wp_store_blk 27 (.tmp 4) (.tmp 32) rfl g4 rfl _ rfl _ 27 ha4 (by rfl) (by kernel_rfl) (by kernel_rfl) ?_
          intro w19 hq gr
          replace pb := pb.away av_pb_a4 gr
          replace hp := blk_a hp gr d_p_a4
          replace ha6 := blk_a ha6 gr d_a6_a4
          replace ha3 := blk_a ha3 gr d_a3_a4
          replace ha5 := blk_a ha5 gr d_a5_a4
          replace bel := below_grown bel gr oa4 bel.size
          clear ha4
          have ha4 := hq
          clear hq gr
          refine hK.out _ _ hp (fun hH20 => ?_)
          clear hK K
          simp only [Act.put]
          refine wpAnyH_ready (rs := [10]) (by kernel_rfl) (by simp) ?_
          refine AllReadyH.cons (o := _) rfl (fun K hK => ?_) AllReadyH.nil
          simp only [List.getElem_toArray, List.getElem_cons_zero, List.getElem_cons_succ]
          rw [if_pos (by rfl)]
          refine wp_store_blk 27 (.tmp 5) (.tmp 33) rfl g5 rfl _ rfl _ 27 ha5 (by rfl) (by kernel_rfl) (by kernel_rfl) ?_
          intro w21 hq gr
          replace pb := pb.away av_pb_a5 gr
          replace hp := blk_a hp gr d_p_a5
          replace ha6 := blk_a ha6 gr d_a6_a5
          replace ha3 := blk_a ha3 gr d_a3_a5
          replace ha4 := blk_a ha4 gr (ne_symm d_a5_a4)
          replace bel := below_grown bel gr oa5 bel.size
          clear ha5
          have ha5 := hq
          clear hq gr
          refine hK.out _ _ hp (fun hH22 => ?_)
          clear hK K
          simp only [Act.put]
          refine wpAnyH_ready (rs := [11]) (by kernel_rfl) (by simp) ?_
          refine AllReadyH.cons (o := _) rfl (fun K hK => ?_) AllReadyH.nil
          simp only [List.getElem_toArray, List.getElem_cons_zero, List.getElem_cons_succ]
          rw [if_pos (by rfl)]
          refine wp_store_blk 27 (.tmp 6) (.tmp 34) rfl g6 rfl _ rfl _ 27 ha6 (by rfl) (by kernel_rfl) (by kernel_rfl) ?_
          intro w23 hq gr
          replace pb := pb.away av_pb_a6 gr
          replace hp := blk_a hp gr d_p_a6
          replace ha3 := blk_a ha3 gr (ne_symm d_a6_a3)
          replace ha5 := blk_a ha5 gr (ne_symm d_a6_a5)
          replace ha4 := blk_a ha4 gr (ne_symm d_a6_a4)
          replace bel := below_grown bel gr oa6 bel.size
          clear ha6
          have ha6 := hq
          clear hq gr
          refine hK.out _ _ hp (fun hH24 => ?_)
          clear hK K
          simp only [Act.put]
          refine wpAnyH_done (by kernel_rfl) ?_ _
          go_wp2_with fail
          go_meet
          case rel => exact ⟨g3, g4, g5, g6, rfl, rfl, rfl, rfl, hp, ha3, oa3, ha4, oa4, ha5, oa5, ha6, oa6, d_a3_a4, d_a3_a5, (ne_symm d_a6_a3), (ne_symm d_p_a3), (ne_symm d_a5_a4), (ne_symm d_a6_a4), (ne_symm d_p_a4), (ne_symm d_a6_a5), (ne_symm d_p_a5), (ne_symm d_p_a6), pb, av_pb_a3, av_pb_a4, av_pb_a5, av_pb_a6, av_pb_p, bel⟩
      · simp only [List.getElem_toArray, List.getElem_cons_zero, List.getElem_cons_succ]
        rw [if_pos (by rfl)]
        refine wp_new_a 27 rfl #[.int .i64 0, .int .i64 0, .int .i64 0, .int .i64 0, .int .i64 0, .int .i64 0, .int .u8 0, .int .u8 0, .int .u8 0, .int .u8 0, .int .u8 0, .int .u8 0, .int .u8 0, .int .u8 0, .slice none 0 0, .slice none 0 0] (by kernel_rfl) ?_
        intro g4 w11 ge hh bb
        have d_p_a4 := ne_new (hlt hp) ge
        have d_a6_a4 := ne_new (hlt ha6) ge
        have av_pb_a4 := pb.av_new ge
        have oa4 := Nat.le_trans bel.size ge
        replace hp := blk_u hp bb
        replace ha6 := blk_u ha6 bb
        replace pb := pb.below bb
        replace bel := bel.trans (bb.mono bel.size)
        have ha4 := hh
        clear hh ge bb
        refine hK.out _ _ hp (fun hH12 => ?_)
        clear hK K
        simp only [Act.put, List.setIfInBounds_toArray, List.set_cons_zero, List.set_cons_succ]
        refine wpAnyH_ready (rs := [4, 6]) (by kernel_rfl) (by simp) ?_
        refine AllReadyH.cons (o := _) rfl (fun K hK => ?_) (AllReadyH.cons (o := _) rfl (fun K hK => ?_) AllReadyH.nil)
        · simp only [List.getElem_toArray, List.getElem_cons_zero, List.getElem_cons_succ]
          rw [if_pos (by rfl)]
          refine wp_new_a 27 rfl #[.int .i64 0, .int .i64 0, .int .i64 0, .int .i64 0, .int .i64 0, .int .i64 0, .int .u8 0, .int .u8 0, .int .u8 0, .int .u8 0, .int .u8 0, .int .u8 0, .int .u8 0, .int .u8 0, .slice none 0 0, .slice none 0 0] (by kernel_rfl) ?_
          intro g3 w13 ge hh bb
          have d_p_a3 := ne_new (hlt hp) ge
          have d_a6_a3 := ne_new (hlt ha6) ge
          have d_a4_a3 := ne_new (hlt ha4) ge
          have av_pb_a3 := pb.av_new ge
          have oa3 := Nat.le_trans bel.size ge
          replace hp := blk_u hp bb
          replace ha6 := blk_u ha6 bb
          replace ha4 := blk_u ha4 bb
          replace pb := pb.below bb
          replace bel := bel.trans (bb.mono bel.size)
          have ha3 := hh
          clear hh ge bb
          refine hK.out _ _ hp (fun hH14 => ?_)
          clear hK K
          simp only [Act.put, List.setIfInBounds_toArray, List.set_cons_zero, List.set_cons_succ]
          refine wpAnyH_ready (rs := [6]) (by kernel_rfl) (by simp) ?_
          refine AllReadyH.cons (o := _) rfl (fun K hK => ?_) AllReadyH.nil
          simp only [List.getElem_toArray, List.getElem_cons_zero, List.getElem_cons_succ]
          rw [if_pos (by rfl)]
          refine wp_new_a 27 rfl #[.int .i64 0, .int .i64 0, .int .i64 0, .int .i64 0, .int .i64 0, .int .i64 0, .int .u8 0, .int .u8 0, .int .u8 0, .int .u8 0, .int .u8 0, .int .u8 0, .int .u8 0, .int .u8 0, .slice none 0 0, .slice none 0 0] (by kernel_rfl) ?_
          intro g5 w15 ge hh bb
          have d_p_a5 := ne_new (hlt hp) ge
          have d_a6_a5 := ne_new (hlt ha6) ge
          have d_a4_a5 := ne_new (hlt ha4) ge
          have d_a3_a5 := ne_new (hlt ha3) ge
          have av_pb_a5 := pb.av_new ge
          have oa5 := Nat.le_trans bel.size ge
          replace hp := blk_u hp bb
          replace ha6 := blk_u ha6 bb
          replace ha4 := blk_u ha4 bb
          replace ha3 := blk_u ha3 bb
          replace pb := pb.below bb
          replace bel := bel.trans (bb.mono bel.size)
          have ha5 := hh
          clear hh ge bb
          refine hK.out _ _ hp (fun hH16 => ?_)
          clear hK K
          simp only [Act.put, List.setIfInBounds_toArray, List.set_cons_zero, List.set_cons_succ]
          refine wpAnyH_ready (rs := [8]) (by kernel_rfl) (by simp) ?_
          refine AllReadyH.cons (o := _) rfl (fun K hK => ?_) AllReadyH.nil
          simp only [List.getElem_toArray, List.getElem_cons_zero, List.getElem_cons_succ]
          rw [if_pos (by rfl)]
          refine wp_store_blk 27 (.tmp 3) (.tmp 31) rfl g3 rfl _ rfl _ 27 ha3 (by rfl) (by kernel_rfl) (by kernel_rfl) ?_
          intro w17 hq gr
          replace pb := pb.away av_pb_a3 gr
          replace hp := blk_a hp gr d_p_a3
          replace ha6 := blk_a ha6 gr d_a6_a3
          replace ha4 := blk_a ha4 gr d_a4_a3
          replace ha5 := blk_a ha5 gr (ne_symm d_a3_a5)
          replace bel := below_grown bel gr oa3 bel.size
          clear ha3
          have ha3 := hq
          clear hq gr
          refine hK.out _ _ hp (fun hH18 => ?_)
          clear hK K
          simp only [Act.put]
          refine wpAnyH_ready (rs := [9]) (by kernel_rfl) (by simp) ?_
          refine AllReadyH.cons (o := _) rfl (fun K hK => ?_) AllReadyH.nil
          simp only [List.getElem_toArray, List.getElem_cons_zero, List.getElem_cons_succ]
          rw [if_pos (by rfl)]
          refine wp_store_blk 27 (.tmp 4) (.tmp 32) rfl g4 rfl _ rfl _ 27 ha4 (by rfl) (by kernel_rfl) (by kernel_rfl) ?_
          intro w19 hq gr
          replace pb := pb.away av_pb_a4 gr
          replace hp := blk_a hp gr d_p_a4
          replace ha6 := blk_a ha6 gr d_a6_a4
          replace ha3 := blk_a ha3 gr (ne_symm d_a4_a3)
          replace ha5 := blk_a ha5 gr (ne_symm d_a4_a5)
          replace bel := below_grown bel gr oa4 bel.size
          clear ha4
          have ha4 := hq
          clear hq gr
          refine hK.out _ _ hp (fun hH20 => ?_)
          clear hK K
          simp only [Act.put]
          refine wpAnyH_ready (rs := [10]) (by kernel_rfl) (by simp) ?_
          refine AllReadyH.cons (o := _) rfl (fun K hK => ?_) AllReadyH.nil
          simp only [List.getElem_toArray, List.getElem_cons_zero, List.getElem_cons_succ]
          rw [if_pos (by rfl)]
          refine wp_store_blk 27 (.tmp 5) (.tmp 33) rfl g5 rfl _ rfl _ 27 ha5 (by rfl) (by kernel_rfl) (by kernel_rfl) ?_
          intro w21 hq gr
          replace pb := pb.away av_pb_a5 gr
          replace hp := blk_a hp gr d_p_a5
          replace ha6 := blk_a ha6 gr d_a6_a5
          replace ha4 := blk_a ha4 gr d_a4_a5
          replace ha3 := blk_a ha3 gr d_a3_a5
          replace bel := below_grown bel gr oa5 bel.size
          clear ha5
          have ha5 := hq
          clear hq gr
          refine hK.out _ _ hp (fun hH22 => ?_)
          clear hK K
          simp only [Act.put]
          refine wpAnyH_ready (rs := [11]) (by kernel_rfl) (by simp) ?_
          refine AllReadyH.cons (o := _) rfl (fun K hK => ?_) AllReadyH.nil
          simp only [List.getElem_toArray, List.getElem_cons_zero, List.getElem_cons_succ]
          rw [if_pos (by rfl)]
          refine wp_store_blk 27 (.tmp 6) (.tmp 34) rfl g6 rfl _ rfl _ 27 ha6 (by rfl) (by kernel_rfl) (by kernel_rfl) ?_
          intro w23 hq gr
          replace pb := pb.away av_pb_a6 gr
          replace hp := blk_a hp gr d_p_a6
          replace ha4 := blk_a ha4 gr (ne_symm d_a6_a4)
          replace ha3 := blk_a ha3 gr (ne_symm d_a6_a3)
          replace ha5 := blk_a ha5 gr (ne_symm d_a6_a5)
          replace bel := below_grown bel gr oa6 bel.size
          clear ha6
          have ha6 := hq
          clear hq gr
          refine hK.out _ _ hp (fun hH24 => ?_)
          clear hK K
          simp only [Act.put]
          refine wpAnyH_done (by kernel_rfl) ?_ _
          go_wp2_with fail
          go_meet
          case rel => exact ⟨g3, g4, g5, g6, rfl, rfl, rfl, rfl, hp, ha3, oa3, ha4, oa4, ha5, oa5, ha6, oa6, (ne_symm d_a4_a3), d_a3_a5, (ne_symm d_a6_a3), (ne_symm d_p_a3), d_a4_a5, (ne_symm d_a6_a4), (ne_symm d_p_a4), (ne_symm d_a6_a5), (ne_symm d_p_a5), (ne_symm d_p_a6), pb, av_pb_a3, av_pb_a4, av_pb_a5, av_pb_a6, av_pb_p, bel⟩
        · simp only [List.getElem_toArray, List.getElem_cons_zero, List.getElem_cons_succ]
          rw [if_pos (by rfl)]
          refine wp_new_a 27 rfl #[.int .i64 0, .int .i64 0, .int .i64 0, .int .i64 0, .int .i64 0, .int .i64 0, .int .u8 0, .int .u8 0, .int .u8 0, .int .u8 0, .int .u8 0, .int .u8 0, .int .u8 0, .int .u8 0, .slice none 0 0, .slice none 0 0] (by kernel_rfl) ?_
          intro g5 w13 ge hh bb
          have d_p_a5 := ne_new (hlt hp) ge
          have d_a6_a5 := ne_new (hlt ha6) ge
          have d_a4_a5 := ne_new (hlt ha4) ge
          have av_pb_a5 := pb.av_new ge
          have oa5 := Nat.le_trans bel.size ge
          replace hp := blk_u hp bb
          replace ha6 := blk_u ha6 bb
          replace ha4 := blk_u ha4 bb
          replace pb := pb.below bb
          replace bel := bel.trans (bb.mono bel.size)
          have ha5 := hh
          clear hh ge bb
          refine hK.out _ _ hp (fun hH14 => ?_)
          clear hK K
          simp only [Act.put, List.setIfInBounds_toArray, List.set_cons_zero, List.set_cons_succ]
          refine wpAnyH_ready (rs := [4]) (by kernel_rfl) (by simp) ?_
          refine AllReadyH.cons (o := _) rfl (fun K hK => ?_) AllReadyH.nil
          simp only [List.getElem_toArray, List.getElem_cons_zero, List.getElem_cons_succ]
          rw [if_pos (by rfl)]
          refine wp_new_a 27 rfl #[.int .i64 0, .int .i64 0, .int .i64 0, .int .i64 0, .int .i64 0, .int .i64 0, .int .u8 0, .int .u8 0, .int .u8 0, .int .u8 0, .int .u8 0, .int .u8 0, .int .u8 0, .int .u8 0, .slice none 0 0, .slice none 0 0] (by kernel_rfl) ?_
          intro g3 w15 ge hh bb
          have d_p_a3 := ne_new (hlt hp) ge
          have d_a6_a3 := ne_new (hlt ha6) ge
          have d_a4_a3 := ne_new (hlt ha4) ge
          have d_a5_a3 := ne_new (hlt ha5) ge
          have av_pb_a3 := pb.av_new ge
          have oa3 := Nat.le_trans bel.size ge
          replace hp := blk_u hp bb
          replace ha6 := blk_u ha6 bb
          replace ha4 := blk_u ha4 bb
          replace ha5 := blk_u ha5 bb
          replace pb := pb.below bb
          replace bel := bel.trans (bb.mono bel.size)
          have ha3 := hh
          clear hh ge bb
          refine hK.out _ _ hp (fun hH16 => ?_)
          clear hK K
          simp only [Act.put, List.setIfInBounds_toArray, List.set_cons_zero, List.set_cons_succ]
          refine wpAnyH_ready (rs := [8]) (by kernel_rfl) (by simp) ?_
          refine AllReadyH.cons (o := _) rfl (fun K hK => ?_) AllReadyH.nil
          simp only [List.getElem_toArray, List.getElem_cons_zero, List.getElem_cons_succ]
          rw [if_pos (by rfl)]
          refine wp_store_blk 27 (.tmp 3) (.tmp 31) rfl g3 rfl _ rfl _ 27 ha3 (by rfl) (by kernel_rfl) (by kernel_rfl) ?_
          intro w17 hq gr
          replace pb := pb.away av_pb_a3 gr
          replace hp := blk_a hp gr d_p_a3
          replace ha6 := blk_a ha6 gr d_a6_a3
          replace ha4 := blk_a ha4 gr d_a4_a3
          replace ha5 := blk_a ha5 gr d_a5_a3
          replace bel := below_grown bel gr oa3 bel.size
          clear ha3
          have ha3 := hq
          clear hq gr
          refine hK.out _ _ hp (fun hH18 => ?_)
          clear hK K
          simp only [Act.put]
          refine wpAnyH_ready (rs := [9]) (by kernel_rfl) (by simp) ?_
          refine AllReadyH.cons (o := _) rfl (fun K hK => ?_) AllReadyH.nil
          simp only [List.getElem_toArray, List.getElem_cons_zero, List.getElem_cons_succ]
          rw [if_pos (by rfl)]
          refine wp_store_blk 27 (.tmp 4) (.tmp 32) rfl g4 rfl _ rfl _ 27 ha4 (by rfl) (by kernel_rfl) (by kernel_rfl) ?_
          intro w19 hq gr
          replace pb := pb.away av_pb_a4 gr
          replace hp := blk_a hp gr d_p_a4
          replace ha6 := blk_a ha6 gr d_a6_a4
          replace ha5 := blk_a ha5 gr (ne_symm d_a4_a5)
          replace ha3 := blk_a ha3 gr (ne_symm d_a4_a3)
          replace bel := below_grown bel gr oa4 bel.size
          clear ha4
          have ha4 := hq
          clear hq gr
          refine hK.out _ _ hp (fun hH20 => ?_)
          clear hK K
          simp only [Act.put]
          refine wpAnyH_ready (rs := [10]) (by kernel_rfl) (by simp) ?_
          refine AllReadyH.cons (o := _) rfl (fun K hK => ?_) AllReadyH.nil
          simp only [List.getElem_toArray, List.getElem_cons_zero, List.getElem_cons_succ]
          rw [if_pos (by rfl)]
          refine wp_store_blk 27 (.tmp 5) (.tmp 33) rfl g5 rfl _ rfl _ 27 ha5 (by rfl) (by kernel_rfl) (by kernel_rfl) ?_
          intro w21 hq gr
          replace pb := pb.away av_pb_a5 gr
          replace hp := blk_a hp gr d_p_a5
          replace ha6 := blk_a ha6 gr d_a6_a5
          replace ha4 := blk_a ha4 gr d_a4_a5
          replace ha3 := blk_a ha3 gr (ne_symm d_a5_a3)
          replace bel := below_grown bel gr oa5 bel.size
          clear ha5
          have ha5 := hq
          clear hq gr
          refine hK.out _ _ hp (fun hH22 => ?_)
          clear hK K
          simp only [Act.put]
          refine wpAnyH_ready (rs := [11]) (by kernel_rfl) (by simp) ?_
          refine AllReadyH.cons (o := _) rfl (fun K hK => ?_) AllReadyH.nil
          simp only [List.getElem_toArray, List.getElem_cons_zero, List.getElem_cons_succ]
          rw [if_pos (by rfl)]
          refine wp_store_blk 27 (.tmp 6) (.tmp 34) rfl g6 rfl _ rfl _ 27 ha6 (by rfl) (by kernel_rfl) (by kernel_rfl) ?_
          intro w23 hq gr
          replace pb := pb.away av_pb_a6 gr
          replace hp := blk_a hp gr d_p_a6
          replace ha4 := blk_a ha4 gr (ne_symm d_a6_a4)
          replace ha5 := blk_a ha5 gr (ne_symm d_a6_a5)
          replace ha3 := blk_a ha3 gr (ne_symm d_a6_a3)
          replace bel := below_grown bel gr oa6 bel.size
          clear ha6
          have ha6 := hq
          clear hq gr
          refine hK.out _ _ hp (fun hH24 => ?_)
          clear hK K
          simp only [Act.put]
          refine wpAnyH_done (by kernel_rfl) ?_ _
          go_wp2_with fail
          go_meet
          case rel => exact ⟨g3, g4, g5, g6, rfl, rfl, rfl, rfl, hp, ha3, oa3, ha4, oa4, ha5, oa5, ha6, oa6, (ne_symm d_a4_a3), (ne_symm d_a5_a3), (ne_symm d_a6_a3), (ne_symm d_p_a3), d_a4_a5, (ne_symm d_a6_a4), (ne_symm d_p_a4), (ne_symm d_a6_a5), (ne_symm d_p_a5), (ne_symm d_p_a6), pb, av_pb_a3, av_pb_a4, av_pb_a5, av_pb_a6, av_pb_p, bel⟩
      · simp only [List.getElem_toArray, List.getElem_cons_zero, List.getElem_cons_succ]
        rw [if_pos (by rfl)]
        refine wp_new_a 27 rfl #[.int .i64 0, .int .i64 0, .int .i64 0, .int .i64 0, .int .i64 0, .int .i64 0, .int .u8 0, .int .u8 0, .int .u8 0, .int .u8 0, .int .u8 0, .int .u8 0, .int .u8 0, .int .u8 0, .slice none 0 0, .slice none 0 0] (by kernel_rfl) ?_
        intro g5 w11 ge hh bb
        have d_p_a5 := ne_new (hlt hp) ge
        have d_a6_a5 := ne_new (hlt ha6) ge
        have av_pb_a5 := pb.av_new ge
        have oa5 := Nat.le_trans bel.size ge
        replace hp := blk_u hp bb
        replace ha6 := blk_u ha6 bb
        replace pb := pb.below bb
        replace bel := bel.trans (bb.mono bel.size)
        have ha5 := hh
        clear hh ge bb
        refine hK.out _ _ hp (fun hH12 => ?_)
        clear hK K
        simp only [Act.put, List.setIfInBounds_toArray, List.set_cons_zero, List.set_cons_succ]
        refine wpAnyH_ready (rs := [4, 5]) (by kernel_rfl) (by simp) ?_
        refine AllReadyH.cons (o := _) rfl (fun K hK => ?_) (AllReadyH.cons (o := _) rfl (fun K hK => ?_) AllReadyH.nil)
        · simp only [List.getElem_toArray, List.getElem_cons_zero, List.getElem_cons_succ]
          rw [if_pos (by rfl)]
          refine wp_new_a 27 rfl #[.int .i64 0, .int .i64 0, .int .i64 0, .int .i64 0, .int .i64 0, .int .i64 0, .int .u8 0, .int .u8 0, .int .u8 0, .int .u8 0, .int .u8 0, .int .u8 0, .int .u8 0, .int .u8 0, .slice none 0 0, .slice none 0 0] (by kernel_rfl) ?_
          intro g3 w13 ge hh bb
          have d_p_a3 := ne_new (hlt hp) ge
          have d_a6_a3 := ne_new (hlt ha6) ge
          have d_a5_a3 := ne_new (hlt ha5) ge
          have av_pb_a3 := pb.av_new ge
          have oa3 := Nat.le_trans bel.size ge
          replace hp := blk_u hp bb
          replace ha6 := blk_u ha6 bb
          replace ha5 := blk_u ha5 bb
          replace pb := pb.below bb
          replace bel := bel.trans (bb.mono bel.size)
          have ha3 := hh
          clear hh ge bb
          refine hK.out _ _ hp (fun hH14 => ?_)
          clear hK K
          simp only [Act.put, List.setIfInBounds_toArray, List.set_cons_zero, List.set_cons_succ]
          refine wpAnyH_ready (rs := [5]) (by kernel_rfl) (by simp) ?_
          refine AllReadyH.cons (o := _) rfl (fun K hK => ?_) AllReadyH.nil
          simp only [List.getElem_toArray, List.getElem_cons_zero, List.getElem_cons_succ]
          rw [if_pos (by rfl)]
          refine wp_new_a 27 rfl #[.int .i64 0, .int .i64 0, .int .i64 0, .int .i64 0, .int .i64 0, .int .i64 0, .int .u8 0, .int .u8 0, .int .u8 0, .int .u8 0, .int .u8 0, .int .u8 0, .int .u8 0, .int .u8 0, .slice none 0 0, .slice none 0 0] (by kernel_rfl) ?_
          intro g4 w15 ge hh bb
          have d_p_a4 := ne_new (hlt hp) ge
          have d_a6_a4 := ne_new (hlt ha6) ge
          have d_a5_a4 := ne_new (hlt ha5) ge
          have d_a3_a4 := ne_new (hlt ha3) ge
          have av_pb_a4 := pb.av_new ge
          have oa4 := Nat.le_trans bel.size ge
          replace hp := blk_u hp bb
          replace ha6 := blk_u ha6 bb
          replace ha5 := blk_u ha5 bb
          replace ha3 := blk_u ha3 bb
          replace pb := pb.below bb
          replace bel := bel.trans (bb.mono bel.size)
          have ha4 := hh
          clear hh ge bb
          refine hK.out _ _ hp (fun hH16 => ?_)
          clear hK K
          simp only [Act.put, List.setIfInBounds_toArray, List.set_cons_zero, List.set_cons_succ]
          refine wpAnyH_ready (rs := [8]) (by kernel_rfl) (by simp) ?_
          refine AllReadyH.cons (o := _) rfl (fun K hK => ?_) AllReadyH.nil
          simp only [List.getElem_toArray, List.getElem_cons_zero, List.getElem_cons_succ]
          rw [if_pos (by rfl)]
          refine wp_store_blk 27 (.tmp 3) (.tmp 31) rfl g3 rfl _ rfl _ 27 ha3 (by rfl) (by kernel_rfl) (by kernel_rfl) ?_
          intro w17 hq gr
          replace pb := pb.away av_pb_a3 gr
          replace hp := blk_a hp gr d_p_a3
          replace ha6 := blk_a ha6 gr d_a6_a3
          replace ha5 := blk_a ha5 gr d_a5_a3
          replace ha4 := blk_a ha4 gr (ne_symm d_a3_a4)
          replace bel := below_grown bel gr oa3 bel.size
          clear ha3
          have ha3 := hq
          clear hq gr
          refine hK.out _ _ hp (fun hH18 => ?_)
          clear hK K
          simp only [Act.put]
          refine wpAnyH_ready (rs := [9]) (by kernel_rfl) (by simp) ?_
          refine AllReadyH.cons (o := _) rfl (fun K hK => ?_) AllReadyH.nil
          simp only [List.getElem_toArray, List.getElem_cons_zero, List.getElem_cons_succ]
          rw [if_pos (by rfl)]
          refine wp_store_blk 27 (.tmp 4) (.tmp 32) rfl g4 rfl _ rfl _ 27 ha4 (by rfl) (by kernel_rfl) (by kernel_rfl) ?_
          intro w19 hq gr
          replace pb := pb.away av_pb_a4 gr
          replace hp := blk_a hp gr d_p_a4
          replace ha6 := blk_a ha6 gr d_a6_a4
          replace ha5 := blk_a ha5 gr d_a5_a4
          replace ha3 := blk_a ha3 gr d_a3_a4
          replace bel := below_grown bel gr oa4 bel.size
          clear ha4
          have ha4 := hq
          clear hq gr
          refine hK.out _ _ hp (fun hH20 => ?_)
          clear hK K
          simp only [Act.put]
          refine wpAnyH_ready (rs := [10]) (by kernel_rfl) (by simp) ?_
          refine AllReadyH.cons (o := _) rfl (fun K hK => ?_) AllReadyH.nil
          simp only [List.getElem_toArray, List.getElem_cons_zero, List.getElem_cons_succ]
          rw [if_pos (by rfl)]
          refine wp_store_blk 27 (.tmp 5) (.tmp 33) rfl g5 rfl _ rfl _ 27 ha5 (by rfl) (by kernel_rfl) (by kernel_rfl) ?_
          intro w21 hq gr
          replace pb := pb.away av_pb_a5 gr
          replace hp := blk_a hp gr d_p_a5
          replace ha6 := blk_a ha6 gr d_a6_a5
          replace ha3 := blk_a ha3 gr (ne_symm d_a5_a3)
          replace ha4 := blk_a ha4 gr (ne_symm d_a5_a4)
          replace bel := below_grown bel gr oa5 bel.size
          clear ha5
          have ha5 := hq
          clear hq gr
          refine hK.out _ _ hp (fun hH22 => ?_)
          clear hK K
          simp only [Act.put]
          refine wpAnyH_ready (rs := [11]) (by kernel_rfl) (by simp) ?_
          refine AllReadyH.cons (o := _) rfl (fun K hK => ?_) AllReadyH.nil
          simp only [List.getElem_toArray, List.getElem_cons_zero, List.getElem_cons_succ]
          rw [if_pos (by rfl)]
          refine wp_store_blk 27 (.tmp 6) (.tmp 34) rfl g6 rfl _ rfl _ 27 ha6 (by rfl) (by kernel_rfl) (by kernel_rfl) ?_
          intro w23 hq gr
          replace pb := pb.away av_pb_a6 gr
          replace hp := blk_a hp gr d_p_a6
          replace ha5 := blk_a ha5 gr (ne_symm d_a6_a5)
          replace ha3 := blk_a ha3 gr (ne_symm d_a6_a3)
          replace ha4 := blk_a ha4 gr (ne_symm d_a6_a4)
          replace bel := below_grown bel gr oa6 bel.size
          clear ha6
          have ha6 := hq
          clear hq gr
          refine hK.out _ _ hp (fun hH24 => ?_)
          clear hK K
          simp only [Act.put]
          refine wpAnyH_done (by kernel_rfl) ?_ _
          go_wp2_with fail
          go_meet
          case rel => exact ⟨g3, g4, g5, g6, rfl, rfl, rfl, rfl, hp, ha3, oa3, ha4, oa4, ha5, oa5, ha6, oa6, d_a3_a4, (ne_symm d_a5_a3), (ne_symm d_a6_a3), (ne_symm d_p_a3), (ne_symm d_a5_a4), (ne_symm d_a6_a4), (ne_symm d_p_a4), (ne_symm d_a6_a5), (ne_symm d_p_a5), (ne_symm d_p_a6), pb, av_pb_a3, av_pb_a4, av_pb_a5, av_pb_a6, av_pb_p, bel⟩
        · simp only [List.getElem_toArray, List.getElem_cons_zero, List.getElem_cons_succ]
          rw [if_pos (by rfl)]
          refine wp_new_a 27 rfl #[.int .i64 0, .int .i64 0, .int .i64 0, .int .i64 0, .int .i64 0, .int .i64 0, .int .u8 0, .int .u8 0, .int .u8 0, .int .u8 0, .int .u8 0, .int .u8 0, .int .u8 0, .int .u8 0, .slice none 0 0, .slice none 0 0] (by kernel_rfl) ?_
          intro g4 w13 ge hh bb
          have d_p_a4 := ne_new (hlt hp) ge
          have d_a6_a4 := ne_new (hlt ha6) ge
          have d_a5_a4 := ne_new (hlt ha5) ge
          have av_pb_a4 := pb.av_new ge
          have oa4 := Nat.le_trans bel.size ge
          replace hp := blk_u hp bb
          replace ha6 := blk_u ha6 bb
          replace ha5 := blk_u ha5 bb
          replace pb := pb.below bb
          replace bel := bel.trans (bb.mono bel.size)
          have ha4 := hh
          clear hh ge bb
          refine hK.out _ _ hp (fun hH14 => ?_)
          clear hK K
          simp only [Act.put, List.setIfInBounds_toArray, List.set_cons_zero, List.set_cons_succ]
          refine wpAnyH_ready (rs := [4]) (by kernel_rfl) (by simp) ?_
          refine AllReadyH.cons (o := _) rfl (fun K hK => ?_) AllReadyH.nil
          simp only [List.getElem_toArray, List.getElem_cons_zero, List.getElem_cons_succ]
          rw [if_pos (by rfl)]
          refine wp_new_a 27 rfl #[.int .i64 0, .int .i64 0, .int .i64 0, .int .i64 0, .int .i64 0, .int .i64 0, .int .u8 0, .int .u8 0, .int .u8 0, .int .u8 0, .int .u8 0, .int .u8 0, .int .u8 0, .int .u8 0, .slice none 0 0, .slice none 0 0] (by kernel_rfl) ?_
          intro g3 w15 ge hh bb
          have d_p_a3 := ne_new (hlt hp) ge
          have d_a6_a3 := ne_new (hlt ha6) ge
          have d_a5_a3 := ne_new (hlt ha5) ge
          have d_a4_a3 := ne_new (hlt ha4) ge
          have av_pb_a3 := pb.av_new ge
          have oa3 := Nat.le_trans bel.size ge
          replace hp := blk_u hp bb
          replace ha6 := blk_u ha6 bb
          replace ha5 := blk_u ha5 bb
          replace ha4 := blk_u ha4 bb
          replace pb := pb.below bb
          replace bel := bel.trans (bb.mono bel.size)
          have ha3 := hh
          clear hh ge bb
          refine hK.out _ _ hp (fun hH16 => ?_)
          clear hK K
          simp only [Act.put, List.setIfInBounds_toArray, List.set_cons_zero, List.set_cons_succ]
          refine wpAnyH_ready (rs := [8]) (by kernel_rfl) (by simp) ?_
          refine AllReadyH.cons (o := _) rfl (fun K hK => ?_) AllReadyH.nil
          simp only [List.getElem_toArray, List.getElem_cons_zero, List.getElem_cons_succ]
          rw [if_pos (by rfl)]
          refine wp_store_blk 27 (.tmp 3) (.tmp 31) rfl g3 rfl _ rfl _ 27 ha3 (by rfl) (by kernel_rfl) (by kernel_rfl) ?_
          intro w17 hq gr
          replace pb := pb.away av_pb_a3 gr
          replace hp := blk_a hp gr d_p_a3
          replace ha6 := blk_a ha6 gr d_a6_a3
          replace ha5 := blk_a ha5 gr d_a5_a3
          replace ha4 := blk_a ha4 gr d_a4_a3
          replace bel := below_grown bel gr oa3 bel.size
          clear ha3
          have ha3 := hq
          clear hq gr
          refine hK.out _ _ hp (fun hH18 => ?_)
          clear hK K
          simp only [Act.put]
          refine wpAnyH_ready (rs := [9]) (by kernel_rfl) (by simp) ?_
          refine AllReadyH.cons (o := _) rfl (fun K hK => ?_) AllReadyH.nil
          simp only [List.getElem_toArray, List.getElem_cons_zero, List.getElem_cons_succ]
          rw [if_pos (by rfl)]
          refine wp_store_blk 27 (.tmp 4) (.tmp 32) rfl g4 rfl _ rfl _ 27 ha4 (by rfl) (by kernel_rfl) (by kernel_rfl) ?_
          intro w19 hq gr
          replace pb := pb.away av_pb_a4 gr
          replace hp := blk_a hp gr d_p_a4
          replace ha6 := blk_a ha6 gr d_a6_a4
          replace ha5 := blk_a ha5 gr d_a5_a4
          replace ha3 := blk_a ha3 gr (ne_symm d_a4_a3)
          replace bel := below_grown bel gr oa4 bel.size
          clear ha4
          have ha4 := hq
          clear hq gr
          refine hK.out _ _ hp (fun hH20 => ?_)
          clear hK K
          simp only [Act.put]
          refine wpAnyH_ready (rs := [10]) (by kernel_rfl) (by simp) ?_
          refine AllReadyH.cons (o := _) rfl (fun K hK => ?_) AllReadyH.nil
          simp only [List.getElem_toArray, List.getElem_cons_zero, List.getElem_cons_succ]
          rw [if_pos (by rfl)]
          refine wp_store_blk 27 (.tmp 5) (.tmp 33) rfl g5 rfl _ rfl _ 27 ha5 (by rfl) (by kernel_rfl) (by kernel_rfl) ?_
          intro w21 hq gr
          replace pb := pb.away av_pb_a5 gr
          replace hp := blk_a hp gr d_p_a5
          replace ha6 := blk_a ha6 gr d_a6_a5
          replace ha4 := blk_a ha4 gr (ne_symm d_a5_a4)
          replace ha3 := blk_a ha3 gr (ne_symm d_a5_a3)
          replace bel := below_grown bel gr oa5 bel.size
          clear ha5
          have ha5 := hq
          clear hq gr
          refine hK.out _ _ hp (fun hH22 => ?_)
          clear hK K
          simp only [Act.put]
          refine wpAnyH_ready (rs := [11]) (by kernel_rfl) (by simp) ?_
          refine AllReadyH.cons (o := _) rfl (fun K hK => ?_) AllReadyH.nil
          simp only [List.getElem_toArray, List.getElem_cons_zero, List.getElem_cons_succ]
          rw [if_pos (by rfl)]
          refine wp_store_blk 27 (.tmp 6) (.tmp 34) rfl g6 rfl _ rfl _ 27 ha6 (by rfl) (by kernel_rfl) (by kernel_rfl) ?_
          intro w23 hq gr
          replace pb := pb.away av_pb_a6 gr
          replace hp := blk_a hp gr d_p_a6
          replace ha5 := blk_a ha5 gr (ne_symm d_a6_a5)
          replace ha4 := blk_a ha4 gr (ne_symm d_a6_a4)
          replace ha3 := blk_a ha3 gr (ne_symm d_a6_a3)
          replace bel := below_grown bel gr oa6 bel.size
          clear ha6
          have ha6 := hq
          clear hq gr
          refine hK.out _ _ hp (fun hH24 => ?_)
          clear hK K
          simp only [Act.put]
          refine wpAnyH_done (by kernel_rfl) ?_ _
          go_wp2_with fail
          go_meet
          case rel => exact ⟨g3, g4, g5, g6, rfl, rfl, rfl, rfl, hp, ha3, oa3, ha4, oa4, ha5, oa5, ha6, oa6, (ne_symm d_a4_a3), (ne_symm d_a5_a3), (ne_symm d_a6_a3), (ne_symm d_p_a3), (ne_symm d_a5_a4), (ne_symm d_a6_a4), (ne_symm d_p_a4), (ne_symm d_a6_a5), (ne_symm d_p_a5), (ne_symm d_p_a6), pb, av_pb_a3, av_pb_a4, av_pb_a5, av_pb_a6, av_pb_p, bel⟩
  obtain ⟨w25, hw_⟩ : ∃ x, x = wc := ⟨_, rfl⟩
  subst hw_
  obtain ⟨g3, g4, g5, g6, rfl, rfl, rfl, rfl, hp, ha3, oa3, ha4, oa4, ha5, oa5, ha6, oa6, d_a3_a4, d_a3_a5, d_a3_a6, d_a3_p, d_a4_a5, d_a4_a6, d_a4_p, d_a5_a6, d_a5_p, d_a6_p, pb, av_pb_a3, av_pb_a4, av_pb_a5, av_pb_a6, av_pb_p, bel⟩ := hcut
  go_wp2_with (first | ((with_reducible show wpList _ _ _ (⟨none, Op.store _ (.tmp 35) _, _, _, _, _⟩ :: _) _ _); refine wpList_store_part rfl 3 (.tmp 35) (.const (.int .i64 6)) rfl g3 5 rfl [.int .i64 6] rfl [.int .i64 0, .int .i64 0, .int .i64 0, .int .i64 0, .int .i64 64, .int .i64 17, .int .u8 10, .int .u8 0, .int .u8 0, .int .u8 1, .int .u8 10, .int .u8 0, .int .u8 0, .int .u8 2, .slice Ao 0 co, .slice Ab 9 cb] 27 ha3 (by simp) [.int .i64 0, .int .i64 0, .int .i64 0, .int .i64 0, .int .i64 64, .int .i64 6, .int .u8 10, .int .u8 0, .int .u8 0, .int .u8 1, .int .u8 10, .int .u8 0, .int .u8 0, .int .u8 2, .slice Ao 0 co, .slice Ab 9 cb] rfl (by kernel_rfl) (by rfl) ?_; intro w26 hq gr; replace pb := pb.away av_pb_a3 gr; replace hp := blk_a hp gr (ne_symm d_a3_p); replace ha4 := blk_a ha4 gr (ne_symm d_a3_a4); replace ha5 := blk_a ha5 gr (ne_symm d_a3_a5); replace ha6 := blk_a ha6 gr (ne_symm d_a3_a6); replace bel := below_grown bel gr oa3 bel.size; clear ha3; have ha3 := hq; clear hq gr) | ((with_reducible show wpList _ _ _ (⟨none, Op.store _ (.tmp 36) _, _, _, _, _⟩ :: _) _ _); refine wpList_store_part rfl 3 (.tmp 36) (.const (.int .i64 1)) rfl g4 3 rfl [.int .i64 1] rfl [.int .i64 0, .int .i64 0, .int .i64 0, .int .i64 0, .int .i64 64, .int .i64 17, .int .u8 10, .int .u8 0, .int .u8 0, .int .u8 1, .int .u8 10, .int .u8 0, .int .u8 0, .int .u8 2, .slice Ao 0 co, .slice Ab 9 cb] 27 ha4 (by simp) [.int .i64 0, .int .i64 0, .int .i64 0, .int .i64 1, .int .i64 64, .int .i64 17, .int .u8 10, .int .u8 0, .int .u8 0, .int .u8 1, .int .u8 10, .int .u8 0, .int .u8 0, .int .u8 2, .slice Ao 0 co, .slice Ab 9 cb] rfl (by kernel_rfl) (by rfl) ?_; intro w27 hq gr; replace pb := pb.away av_pb_a4 gr; replace hp := blk_a hp gr (ne_symm d_a4_p); replace ha3 := blk_a ha3 gr d_a3_a4; replace ha5 := blk_a ha5 gr (ne_symm d_a4_a5); replace ha6 := blk_a ha6 gr (ne_symm d_a4_a6); replace bel := below_grown bel gr oa4 bel.size; clear ha4; have ha4 := hq; clear hq gr; have R38 := cell_lit ha5 15 _ rfl; obtain ⟨A39, c39, r39, f39, u39⟩ := piece_front pb (k := 7) (by omega); replace r39 : ∀ W, (Instr.slice 25 (.slice Ab 9 cb) none (some (.int .i64 7)) none).run Try.prog W = .ok (.slice A39 7 c39) W := r39; have p7 := f39 _ pb; have av_p7_a3 := av_pb_a3.sub u39; have av_p7_a4 := av_pb_a4.sub u39; have av_p7_a5 := av_pb_a5.sub u39; have av_p7_a6 := av_pb_a6.sub u39; have av_p7_p := av_pb_p.sub u39; clear f39 u39) | ((with_reducible show wpList _ _ _ (⟨none, Op.store _ (.tmp 40) _, _, _, _, _⟩ :: _) _ _); refine wpList_store_part rfl 25 (.tmp 40) (.tmp 39) rfl g5 15 rfl [.slice A39 7 c39] rfl [.int .i64 0, .int .i64 0, .int .i64 0, .int .i64 0, .int .i64 64, .int .i64 17, .int .u8 10, .int .u8 0, .int .u8 0, .int .u8 1, .int .u8 10, .int .u8 0, .int .u8 0, .int .u8 2, .slice Ao 0 co, .slice Ab 9 cb] 27 ha5 (by simp) [.int .i64 0, .int .i64 0, .int .i64 0, .int .i64 0, .int .i64 64, .int .i64 17, .int .u8 10, .int .u8 0, .int .u8 0, .int .u8 1, .int .u8 10, .int .u8 0, .int .u8 0, .int .u8 2, .slice Ao 0 co, .slice A39 7 c39] rfl (by kernel_rfl) (by rfl) ?_; intro w28 hq gr; replace pb := pb.away av_pb_a5 gr; replace p7 := p7.away av_p7_a5 gr; replace hp := blk_a hp gr (ne_symm d_a5_p); replace ha3 := blk_a ha3 gr d_a3_a5; replace ha4 := blk_a ha4 gr d_a4_a5; replace ha6 := blk_a ha6 gr (ne_symm d_a5_a6); replace bel := below_grown bel gr oa5 bel.size; clear ha5; have ha5 := hq; clear hq gr) | ((with_reducible show wpList _ _ _ (⟨some 41, _, _, _, _, _⟩ :: _) _ _); refine wpList_lit_n rfl 25 5 0 _ rfl #[] (.int .u8 0) Try.underlying25 (by kernel_rfl) 1 (by kernel_rfl) (by decide) (by kernel_rfl) ?_; intro g41 w29 ge lt hh bb; have hl : w29.heap[g41]? = some (.cells (([] : List UInt8).map u8v).toArray 5 (0, 0)) := (by simpa [u8v, byteOf_val] using hh); have e0w := own_lit (B := w28.heap.size) ([]) hl ge 0 rfl (by simp [maxLen]); have e0 := (own_sl e0w).1; have e0lo := bel.size; clear hl; have e0ge := ge; have lz_e0 := bb.size; have y_e0_p := Lib.hid (hlt hp); have y_e0_a3 := Lib.hid (hlt ha3); have y_e0_a4 := Lib.hid (hlt ha4); have y_e0_a5 := Lib.hid (hlt ha5); have y_e0_a6 := Lib.hid (hlt ha6); have bl_pb_e0 := pb.bl_new; have bl_p7_e0 := p7.bl_new; replace hp := blk_u hp bb; replace ha3 := blk_u ha3 bb; replace ha4 := blk_u ha4 bb; replace ha5 := blk_u ha5 bb; replace ha6 := blk_u ha6 bb; replace pb := pb.below bb; replace p7 := p7.below bb; replace bel := bel.trans (bb.mono bel.size); clear hh lt ge bb; have av_e0_p := (own_sl e0w).2.av y_e0_p.out; have av_e0_a3 := (own_sl e0w).2.av y_e0_a3.out; have av_e0_a4 := (own_sl e0w).2.av y_e0_a4.out; have av_e0_a5 := (own_sl e0w).2.av y_e0_a5.out; have av_e0_a6 := (own_sl e0w).2.av y_e0_a6.out; have R43 := cell_lit hp 15 _ rfl) | ((with_reducible show wpList _ _ _ (⟨some 44, _, _, _, _, _⟩ :: _) _ _); refine wpList_append_bb _ rfl (.tmp 41) (.tmp 43) 25 rfl (w28.heap.size) 5 ii (.int .u8 0) Try.underlying25 hii hz0 hz1 hz2 rfl _ (0) ([]) rfl e0w (Ab) (9) (cb) (pb7) rfl pb (by omega) lz_e0 ?_; intro v44 w30 own_ bb; replace pb := pb.under bl_pb_e0 bb; replace p7 := p7.under bl_p7_e0 bb; replace hp := blk_under hp bb y_e0_p.out; replace ha3 := blk_under ha3 bb y_e0_a3.out; replace ha4 := blk_under ha4 bb y_e0_a4.out; replace ha5 := blk_under ha5 bb y_e0_a5.out; replace ha6 := blk_under ha6 bb y_e0_a6.out; replace bel := bel.trans (bb.mono e0lo); have lz_tb := Nat.le_trans lz_e0 bb.size; clear bb; clear e0 e0w lz_e0; replace own_ : w30.ownsRow (w28.heap.size) 5 1 v44 (9) ((pb7 : List UInt8).map u8v) := (by simpa using own_); obtain ⟨A44, c44, rfl⟩ := own_val own_; have tbw := own_; have tb := (own_sl own_).1; have fr_tb := (own_sl own_).2; clear own_; have av_tb_p := fr_tb.av y_e0_p.out; have av_tb_a3 := fr_tb.av y_e0_a3.out; have av_tb_a4 := fr_tb.av y_e0_a4.out; have av_tb_a5 := fr_tb.av y_e0_a5.out; have av_tb_a6 := fr_tb.av y_e0_a6.out; obtain ⟨gb, cg, eg, tbge, tblt, tbnc, tbcm⟩ := own_at tbw (by omega); injection eg with eg1 _ eg3; subst eg1; subst eg3) | ((with_reducible show wpList _ _ _ (⟨none, Op.store _ (.tmp 45) _, _, _, _, _⟩ :: _) _ _); refine wpList_store_part rfl 25 (.tmp 45) (.tmp 44) rfl g6 15 rfl [.slice (some ⟨gb, 0, none⟩) 9 c44] rfl [.int .i64 0, .int .i64 0, .int .i64 0, .int .i64 0, .int .i64 64, .int .i64 17, .int .u8 10, .int .u8 0, .int .u8 0, .int .u8 1, .int .u8 10, .int .u8 0, .int .u8 0, .int .u8 2, .slice Ao 0 co, .slice Ab 9 cb] 27 ha6 (by simp) [.int .i64 0, .int .i64 0, .int .i64 0, .int .i64 0, .int .i64 64, .int .i64 17, .int .u8 10, .int .u8 0, .int .u8 0, .int .u8 1, .int .u8 10, .int .u8 0, .int .u8 0, .int .u8 2, .slice Ao 0 co, .slice (some ⟨gb, 0, none⟩) 9 c44] rfl (by kernel_rfl) (by rfl) ?_; intro w31 hq gr; replace pb := pb.away av_pb_a6 gr; replace p7 := p7.away av_p7_a6 gr; replace tb := tb.away av_tb_a6 gr; replace tbw := own_away tbw y_e0_a6.out gr; replace lz_tb := Nat.le_trans lz_tb gr.size; replace hp := blk_a hp gr (ne_symm d_a6_p); replace ha3 := blk_a ha3 gr d_a3_a6; replace ha4 := blk_a ha4 gr d_a4_a6; replace ha5 := blk_a ha5 gr d_a5_a6; replace bel := below_grown bel gr oa6 bel.size; clear ha6; have ha6 := hq; clear hq gr; have R47 := cell_lit ha6 15 _ rfl) | ((with_reducible show wpList _ _ _ (⟨none, Op.store _ (.tmp 48) _, _, _, _, _⟩ :: _) _ _); refine wpList_store_byte rfl 5 (.tmp 48) (.const (.int .u8 121)) rfl (w28.heap.size) 5 gb 8 (9) (c44) (pb7) (121) rfl rfl tbw (by omega) (by kernel_rfl) ?_; intro w32 own_ gr; replace pb := pb.away (bl_pb_e0.av tbge) gr; replace p7 := p7.away (bl_p7_e0.av tbge) gr; replace hp := blk_a hp gr (ne_new y_e0_p.out tbge); replace ha3 := blk_a ha3 gr (ne_new y_e0_a3.out tbge); replace ha4 := blk_a ha4 gr (ne_new y_e0_a4.out tbge); replace ha5 := blk_a ha5 gr (ne_new y_e0_a5.out tbge); replace ha6 := blk_a ha6 gr (ne_new y_e0_a6.out tbge); replace bel := below_grown bel gr (Nat.le_trans e0lo tbge) bel.size; replace lz_tb := Nat.le_trans lz_tb gr.size; clear gr tb tbw; have tbw := own_; have tb := (own_sl own_).1; clear own_; have R50 := Lib.hid (range_lit ha3 0 16 [.int .i64 0, .int .i64 0, .int .i64 0, .int .i64 0, .int .i64 64, .int .i64 6, .int .u8 10, .int .u8 0, .int .u8 0, .int .u8 1, .int .u8 10, .int .u8 0, .int .u8 0, .int .u8 2, .slice Ao 0 co, .slice Ab 9 cb] rfl)) | ((with_reducible show wpList _ _ _ (⟨some 50, _, _, _, _, _⟩ :: _) _ _); refine wpList_load_rng 27 (.tmp 3) rfl (by kernel_rfl) _ _ rfl _ R50.out _ Try.underlying27 rfl (by kernel_rfl) ?_))
  try clear R38
  try clear R43
  try clear R47
  try clear R50
  with_reducible refine (kget_er _ _ _ _ _ _ 0 6 _ 1 _ pb (by omega) k7_1).mono ?_
  rintro e w33 ⟨x1, y1, D1, m1, d1, rfl, b33⟩
  replace hp := blk_u hp b33
  replace ha3 := blk_u ha3 b33
  replace ha4 := blk_u ha4 b33
  replace ha5 := blk_u ha5 b33
  replace ha6 := blk_u ha6 b33
  replace pb := pb.below b33
  replace p7 := p7.below b33
  replace tb := tb.below b33
  replace tbw := own_under tbw b33
  replace lz_tb := Nat.le_trans lz_tb b33.size
  replace bel := bel.trans (b33.mono bel.size)
  clear b33
  go_wp2_with (first | ((with_reducible show wpList _ _ _ (⟨some 7, _, _, _, _, _⟩ :: _) _ _); refine wpList_new_a rfl 33 rfl #[.int .i64 0, .int .i64 0, .slice none 0 0] (by kernel_rfl) ?_; intro g7 w34 ge hh bb; have d_p_k7 := ne_new (hlt hp) ge; have d_a3_k7 := ne_new (hlt ha3) ge; have d_a4_k7 := ne_new (hlt ha4) ge; have d_a5_k7 := ne_new (hlt ha5) ge; have d_a6_k7 := ne_new (hlt ha6) ge; have av_pb_k7 := pb.av_new ge; have av_p7_k7 := p7.av_new ge; have av_tb_k7 := tb.av_new ge; have of_tb_k7 := own_new tbw ge; have ok7 := Nat.le_trans bel.size ge; replace hp := blk_u hp bb; replace ha3 := blk_u ha3 bb; replace ha4 := blk_u ha4 bb; replace ha5 := blk_u ha5 bb; replace ha6 := blk_u ha6 bb; replace pb := pb.below bb; replace p7 := p7.below bb; replace tb := tb.below bb; replace tbw := own_under tbw bb; replace lz_tb := Nat.le_trans lz_tb bb.size; replace bel := bel.trans (bb.mono bel.size); have hk7 := hh; clear hh ge bb) | ((with_reducible show wpList _ _ _ (⟨none, Op.store _ (.tmp 7) _, _, _, _, _⟩ :: _) _ _); refine wpList_store_blk rfl 33 (.tmp 7) (.tmp 52) rfl g7 rfl _ rfl _ 33 hk7 (by rfl) (by kernel_rfl) (by kernel_rfl) ?_; intro w35 hq gr; replace pb := pb.away av_pb_k7 gr; replace p7 := p7.away av_p7_k7 gr; replace tb := tb.away av_tb_k7 gr; replace tbw := own_off tbw of_tb_k7 gr; replace lz_tb := Nat.le_trans lz_tb gr.size; replace hp := blk_a hp gr d_p_k7; replace ha3 := blk_a ha3 gr d_a3_k7; replace ha4 := blk_a ha4 gr d_a4_k7; replace ha5 := blk_a ha5 gr d_a5_k7; replace ha6 := blk_a ha6 gr d_a6_k7; replace bel := below_grown bel gr ok7 bel.size; clear hk7; have hk7 := hq; clear hq gr; have R55 := Lib.hid (range_lit ha4 0 16 [.int .i64 0, .int .i64 0, .int .i64 0, .int .i64 1, .int .i64 64, .int .i64 17, .int .u8 10, .int .u8 0, .int .u8 0, .int .u8 1, .int .u8 10, .int .u8 0, .int .u8 0, .int .u8 2, .slice Ao 0 co, .slice Ab 9 cb] rfl)) | ((with_reducible show wpList _ _ _ (⟨some 55, _, _, _, _, _⟩ :: _) _ _); refine wpList_load_rng 27 (.tmp 4) rfl (by kernel_rfl) _ _ rfl _ R55.out _ Try.underlying27 rfl (by kernel_rfl) ?_))
  try clear R55
  with_reducible refine (kget_er _ _ _ _ _ _ 1 17 _ 10 _ pb (by omega) k7_2).mono ?_
  rintro e w36 ⟨x2, y2, D2, m2, d2, rfl, b36⟩
  replace hp := blk_u hp b36
  replace ha3 := blk_u ha3 b36
  replace ha4 := blk_u ha4 b36
  replace ha5 := blk_u ha5 b36
  replace ha6 := blk_u ha6 b36
  replace hk7 := blk_u hk7 b36
  replace pb := pb.below b36
  replace p7 := p7.below b36
  replace tb := tb.below b36
  replace tbw := own_under tbw b36
  replace lz_tb := Nat.le_trans lz_tb b36.size
  replace bel := bel.trans (b36.mono bel.size)
  clear b36
  go_wp2_with (first | ((with_reducible show wpList _ _ _ (⟨some 9, _, _, _, _, _⟩ :: _) _ _); refine wpList_new_a rfl 33 rfl #[.int .i64 0, .int .i64 0, .slice none 0 0] (by kernel_rfl) ?_; intro g9 w37 ge hh bb; have d_p_k9 := ne_new (hlt hp) ge; have d_a3_k9 := ne_new (hlt ha3) ge; have d_a4_k9 := ne_new (hlt ha4) ge; have d_a5_k9 := ne_new (hlt ha5) ge; have d_a6_k9 := ne_new (hlt ha6) ge; have d_k7_k9 := ne_new (hlt hk7) ge; have av_pb_k9 := pb.av_new ge; have av_p7_k9 := p7.av_new ge; have av_tb_k9 := tb.av_new ge; have of_tb_k9 := own_new tbw ge; have ok9 := Nat.le_trans bel.size ge; replace hp := blk_u hp bb; replace ha3 := blk_u ha3 bb; replace ha4 := blk_u ha4 bb; replace ha5 := blk_u ha5 bb; replace ha6 := blk_u ha6 bb; replace hk7 := blk_u hk7 bb; replace pb := pb.below bb; replace p7 := p7.below bb; replace tb := tb.below bb; replace tbw := own_under tbw bb; replace lz_tb := Nat.le_trans lz_tb bb.size; replace bel := bel.trans (bb.mono bel.size); have hk9 := hh; clear hh ge bb) | ((with_reducible show wpList _ _ _ (⟨none, Op.store _ (.tmp 9) _, _, _, _, _⟩ :: _) _ _); refine wpList_store_blk rfl 33 (.tmp 9) (.tmp 57) rfl g9 rfl _ rfl _ 33 hk9 (by rfl) (by kernel_rfl) (by kernel_rfl) ?_; intro w38 hq gr; replace pb := pb.away av_pb_k9 gr; replace p7 := p7.away av_p7_k9 gr; replace tb := tb.away av_tb_k9 gr; replace tbw := own_off tbw of_tb_k9 gr; replace lz_tb := Nat.le_trans lz_tb gr.size; replace hp := blk_a hp gr d_p_k9; replace ha3 := blk_a ha3 gr d_a3_k9; replace ha4 := blk_a ha4 gr d_a4_k9; replace ha5 := blk_a ha5 gr d_a5_k9; replace ha6 := blk_a ha6 gr d_a6_k9; replace hk7 := blk_a hk7 gr d_k7_k9; replace bel := below_grown bel gr ok9 bel.size; clear hk9; have hk9 := hq; clear hq gr; have R60 := Lib.hid (range_lit ha5 0 16 [.int .i64 0, .int .i64 0, .int .i64 0, .int .i64 0, .int .i64 64, .int .i64 17, .int .u8 10, .int .u8 0, .int .u8 0, .int .u8 1, .int .u8 10, .int .u8 0, .int .u8 0, .int .u8 2, .slice Ao 0 co, .slice A39 7 c39] rfl)) | ((with_reducible show wpList _ _ _ (⟨some 60, _, _, _, _, _⟩ :: _) _ _); refine wpList_load_rng 27 (.tmp 5) rfl (by kernel_rfl) _ _ rfl _ R60.out _ Try.underlying27 rfl (by kernel_rfl) ?_))
  try clear R60
  with_reducible refine (kget_er _ _ _ _ _ _ 0 17 _ 3 _ p7 (by omega) k7_3).mono ?_
  rintro e w39 ⟨x3, y3, D3, m3, d3, rfl, b39⟩
  replace hp := blk_u hp b39
  replace ha3 := blk_u ha3 b39
  replace ha4 := blk_u ha4 b39
  replace ha5 := blk_u ha5 b39
  replace ha6 := blk_u ha6 b39
  replace hk7 := blk_u hk7 b39
  replace hk9 := blk_u hk9 b39
  replace pb := pb.below b39
  replace p7 := p7.below b39
  replace tb := tb.below b39
  replace tbw := own_under tbw b39
  replace lz_tb := Nat.le_trans lz_tb b39.size
  replace bel := bel.trans (b39.mono bel.size)
  clear b39
  go_wp2_with (first | ((with_reducible show wpList _ _ _ (⟨some 11, _, _, _, _, _⟩ :: _) _ _); refine wpList_new_a rfl 33 rfl #[.int .i64 0, .int .i64 0, .slice none 0 0] (by kernel_rfl) ?_; intro g11 w40 ge hh bb; have d_p_k11 := ne_new (hlt hp) ge; have d_a3_k11 := ne_new (hlt ha3) ge; have d_a4_k11 := ne_new (hlt ha4) ge; have d_a5_k11 := ne_new (hlt ha5) ge; have d_a6_k11 := ne_new (hlt ha6) ge; have d_k7_k11 := ne_new (hlt hk7) ge; have d_k9_k11 := ne_new (hlt hk9) ge; have av_pb_k11 := pb.av_new ge; have av_p7_k11 := p7.av_new ge; have av_tb_k11 := tb.av_new ge; have of_tb_k11 := own_new tbw ge; have ok11 := Nat.le_trans bel.size ge; replace hp := blk_u hp bb; replace ha3 := blk_u ha3 bb; replace ha4 := blk_u ha4 bb; replace ha5 := blk_u ha5 bb; replace ha6 := blk_u ha6 bb; replace hk7 := blk_u hk7 bb; replace hk9 := blk_u hk9 bb; replace pb := pb.below bb; replace p7 := p7.below bb; replace tb := tb.below bb; replace tbw := own_under tbw bb; replace lz_tb := Nat.le_trans lz_tb bb.size; replace bel := bel.trans (bb.mono bel.size); have hk11 := hh; clear hh ge bb) | ((with_reducible show wpList _ _ _ (⟨none, Op.store _ (.tmp 11) _, _, _, _, _⟩ :: _) _ _); refine wpList_store_blk rfl 33 (.tmp 11) (.tmp 62) rfl g11 rfl _ rfl _ 33 hk11 (by rfl) (by kernel_rfl) (by kernel_rfl) ?_; intro w41 hq gr; replace pb := pb.away av_pb_k11 gr; replace p7 := p7.away av_p7_k11 gr; replace tb := tb.away av_tb_k11 gr; replace tbw := own_off tbw of_tb_k11 gr; replace lz_tb := Nat.le_trans lz_tb gr.size; replace hp := blk_a hp gr d_p_k11; replace ha3 := blk_a ha3 gr d_a3_k11; replace ha4 := blk_a ha4 gr d_a4_k11; replace ha5 := blk_a ha5 gr d_a5_k11; replace ha6 := blk_a ha6 gr d_a6_k11; replace hk7 := blk_a hk7 gr d_k7_k11; replace hk9 := blk_a hk9 gr d_k9_k11; replace bel := below_grown bel gr ok11 bel.size; clear hk11; have hk11 := hq; clear hq gr; have R65 := Lib.hid (range_lit ha6 0 16 [.int .i64 0, .int .i64 0, .int .i64 0, .int .i64 0, .int .i64 64, .int .i64 17, .int .u8 10, .int .u8 0, .int .u8 0, .int .u8 1, .int .u8 10, .int .u8 0, .int .u8 0, .int .u8 2, .slice Ao 0 co, .slice (some ⟨gb, 0, none⟩) 9 c44] rfl)) | ((with_reducible show wpList _ _ _ (⟨some 65, _, _, _, _, _⟩ :: _) _ _); refine wpList_load_rng 27 (.tmp 6) rfl (by kernel_rfl) _ _ rfl _ R65.out _ Try.underlying27 rfl (by kernel_rfl) ?_))
  try clear R65
  with_reducible refine (kget_er _ _ _ _ _ _ 0 17 _ 5 _ tb (by omega) k7_4).mono ?_
  rintro e w42 ⟨x4, y4, D4, m4, d4, rfl, b42⟩
  replace hp := blk_u hp b42
  replace ha3 := blk_u ha3 b42
  replace ha4 := blk_u ha4 b42
  replace ha5 := blk_u ha5 b42
  replace ha6 := blk_u ha6 b42
  replace hk7 := blk_u hk7 b42
  replace hk9 := blk_u hk9 b42
  replace hk11 := blk_u hk11 b42
  replace pb := pb.below b42
  replace p7 := p7.below b42
  replace tb := tb.below b42
  replace tbw := own_under tbw b42
  replace lz_tb := Nat.le_trans lz_tb b42.size
  replace bel := bel.trans (b42.mono bel.size)
  clear b42
  go_wp2_with (first | ((with_reducible show wpList _ _ _ (⟨some 13, _, _, _, _, _⟩ :: _) _ _); refine wpList_new_a rfl 33 rfl #[.int .i64 0, .int .i64 0, .slice none 0 0] (by kernel_rfl) ?_; intro g13 w43 ge hh bb; have d_p_k13 := ne_new (hlt hp) ge; have d_a3_k13 := ne_new (hlt ha3) ge; have d_a4_k13 := ne_new (hlt ha4) ge; have d_a5_k13 := ne_new (hlt ha5) ge; have d_a6_k13 := ne_new (hlt ha6) ge; have d_k7_k13 := ne_new (hlt hk7) ge; have d_k9_k13 := ne_new (hlt hk9) ge; have d_k11_k13 := ne_new (hlt hk11) ge; have av_pb_k13 := pb.av_new ge; have av_p7_k13 := p7.av_new ge; have av_tb_k13 := tb.av_new ge; have of_tb_k13 := own_new tbw ge; have ok13 := Nat.le_trans bel.size ge; replace hp := blk_u hp bb; replace ha3 := blk_u ha3 bb; replace ha4 := blk_u ha4 bb; replace ha5 := blk_u ha5 bb; replace ha6 := blk_u ha6 bb; replace hk7 := blk_u hk7 bb; replace hk9 := blk_u hk9 bb; replace hk11 := blk_u hk11 bb; replace pb := pb.below bb; replace p7 := p7.below bb; replace tb := tb.below bb; replace tbw := own_under tbw bb; replace lz_tb := Nat.le_trans lz_tb bb.size; replace bel := bel.trans (bb.mono bel.size); have hk13 := hh; clear hh ge bb) | ((with_reducible show wpList _ _ _ (⟨none, Op.store _ (.tmp 13) _, _, _, _, _⟩ :: _) _ _); refine wpList_store_blk rfl 33 (.tmp 13) (.tmp 67) rfl g13 rfl _ rfl _ 33 hk13 (by rfl) (by kernel_rfl) (by kernel_rfl) ?_; intro w44 hq gr; replace pb := pb.away av_pb_k13 gr; replace p7 := p7.away av_p7_k13 gr; replace tb := tb.away av_tb_k13 gr; replace tbw := own_off tbw of_tb_k13 gr; replace lz_tb := Nat.le_trans lz_tb gr.size; replace hp := blk_a hp gr d_p_k13; replace ha3 := blk_a ha3 gr d_a3_k13; replace ha4 := blk_a ha4 gr d_a4_k13; replace ha5 := blk_a ha5 gr d_a5_k13; replace ha6 := blk_a ha6 gr d_a6_k13; replace hk7 := blk_a hk7 gr d_k7_k13; replace hk9 := blk_a hk9 gr d_k9_k13; replace hk11 := blk_a hk11 gr d_k11_k13; replace bel := below_grown bel gr ok13 bel.size; clear hk13; have hk13 := hq; clear hq gr))
  replace bel := bel.drew
  replace hp : w44.drew.heap[g1]? = _ := hp
  replace ha3 : w44.drew.heap[g3]? = _ := ha3
  replace ha4 : w44.drew.heap[g4]? = _ := ha4
  replace ha5 : w44.drew.heap[g5]? = _ := ha5
  replace ha6 : w44.drew.heap[g6]? = _ := ha6
  replace hk7 : w44.drew.heap[g7]? = _ := hk7
  replace hk9 : w44.drew.heap[g9]? = _ := hk9
  replace hk11 : w44.drew.heap[g11]? = _ := hk11
  replace hk13 : w44.drew.heap[g13]? = _ := hk13
  replace pb := pb.drew
  replace p7 := p7.drew
  replace tb := tb.drew
  replace tbw : w44.drew.ownsRow _ _ _ _ _ _ := tbw
  replace lz_tb : _ ≤ w44.drew.heap.size := lz_tb
  refine wp_region_held_drew (S := fun W => W.heap[g6]? = some (.cells #[.int .i64 0, .int .i64 0, .int .i64 0, .int .i64 0, .int .i64 64, .int .i64 17, .int .u8 10, .int .u8 0, .int .u8 0, .int .u8 1, .int .u8 10, .int .u8 0, .int .u8 0, .int .u8 2, .slice Ao 0 co, .slice (some ⟨gb, 0, none⟩) 9 c44] 27 (0, 0))) (by kernel_rfl) ha6 (fun hH => ?_)
  generalize w44.drew = w45 at bel hp ha3 ha4 ha5 ha6 hk7 hk9 hk11 hk13 pb p7 tb tbw lz_tb hH ⊢
  refine wpAnyH_take (i := 0) (v := ?_) rfl (by kernel_rfl) (by kernel_rfl) (by kernel_rfl) (fun _ _ _ h => h) (Or.inl ⟨by rfl, ?_⟩) hH ?_
  rotate_left
  · ((intro W hW; clear hW; go_simp) <;> with_reducible rfl)
  simp only [Act.put, List.getElem_toArray, List.getElem_cons_zero, List.setIfInBounds_toArray, List.set_cons_zero, List.set_cons_succ]
  refine wpAnyH_take (i := 1) (v := ?_) rfl (by kernel_rfl) (by kernel_rfl) (by kernel_rfl) (fun _ _ _ h => h) (Or.inl ⟨by rfl, ?_⟩) hH ?_
  rotate_left
  · ((intro W hW; have hk := cell_lit (hW) 15 _ rfl; clear hW; go_simp) <;> with_reducible rfl)
  simp only [Act.put, List.getElem_toArray, List.getElem_cons_zero, List.getElem_cons_succ, List.setIfInBounds_toArray, List.set_cons_zero, List.set_cons_succ]
  refine wpAnyH_take (i := 2) (v := ?_) rfl (by kernel_rfl) (by kernel_rfl) (by kernel_rfl) (fun _ _ _ h => h) (Or.inl ⟨by rfl, ?_⟩) hH ?_
  rotate_left
  · ((intro W hW; clear hW; go_simp) <;> with_reducible rfl)
  simp only [Act.put, List.getElem_toArray, List.getElem_cons_zero, List.getElem_cons_succ, List.setIfInBounds_toArray, List.set_cons_zero, List.set_cons_succ]
  refine wpAnyH_take (i := 3) (v := ?_) rfl (by kernel_rfl) (by kernel_rfl) (by kernel_rfl) (fun _ _ _ h => h) (Or.inl ⟨by rfl, ?_⟩) hH ?_
  rotate_left
  · ((intro W hW; have hk := cell_lit (hW) 15 _ rfl; clear hW; go_simp) <;> with_reducible rfl)
  simp only [Act.put, List.getElem_toArray, List.getElem_cons_zero, List.getElem_cons_succ, List.setIfInBounds_toArray, List.set_cons_zero, List.set_cons_succ]
  refine wpAnyH_take (i := 4) (v := ?_) rfl (by kernel_rfl) (by kernel_rfl) (by kernel_rfl) (fun _ _ _ h => h) (Or.inl ⟨by rfl, ?_⟩) hH ?_
  rotate_left
  · ((intro W hW; clear hW; go_simp) <;> with_reducible rfl)
  simp only [Act.put, List.getElem_toArray, List.getElem_cons_zero, List.getElem_cons_succ, List.setIfInBounds_toArray, List.set_cons_zero, List.set_cons_succ]
  refine wpAnyH_ready (rs := [5]) (by kernel_rfl) (by simp) ?_
  refine AllReadyH.cons (o := _) rfl (fun K hK => ?_) AllReadyH.nil
  simp only [List.getElem_toArray, List.getElem_cons_zero, List.getElem_cons_succ]
  rw [if_pos (by rfl)]
  refine wp_store_byte 5 (.tmp 73) (.const (.int .u8 0)) rfl (w28.heap.size) 5 gb 6 (9) (c44) ((pb7).set 8 121) (0) rfl rfl tbw (by omega) (by kernel_rfl) ?_
  intro w46 own_ gr
  replace pb := pb.away (bl_pb_e0.av tbge) gr
  replace p7 := p7.away (bl_p7_e0.av tbge) gr
  replace hp := blk_a hp gr (ne_new y_e0_p.out tbge)
  replace ha3 := blk_a ha3 gr (ne_new y_e0_a3.out tbge)
  replace ha4 := blk_a ha4 gr (ne_new y_e0_a4.out tbge)
  replace ha5 := blk_a ha5 gr (ne_new y_e0_a5.out tbge)
  replace ha6 := blk_a ha6 gr (ne_new y_e0_a6.out tbge)
  clear hk7
  clear hk9
  clear hk11
  clear hk13
  replace bel := below_grown bel gr (Nat.le_trans e0lo tbge) bel.size
  replace lz_tb := Nat.le_trans lz_tb gr.size
  clear gr tb tbw
  have tbw := own_
  have tb := (own_sl own_).1
  clear own_
  refine hK.out _ _ ha6 (fun hH47 => ?_)
  clear hK K
  simp only [Act.put]
  refine wpAnyH_take (i := 6) (v := ?_) rfl (by kernel_rfl) (by kernel_rfl) (by kernel_rfl) (fun _ _ _ h => h) (Or.inl ⟨by rfl, ?_⟩) hH47 ?_
  rotate_left
  · ((intro W hW; clear hW; go_simp) <;> with_reducible rfl)
  simp only [Act.put, List.getElem_toArray, List.getElem_cons_zero, List.getElem_cons_succ, List.setIfInBounds_toArray, List.set_cons_zero, List.set_cons_succ]
  refine wpAnyH_ready (rs := [7]) (by kernel_rfl) (by simp) ?_
  refine AllReadyH.cons (o := _) rfl (fun K hK => ?_) AllReadyH.nil
  simp only [List.getElem_toArray, List.getElem_cons_zero, List.getElem_cons_succ]
  rw [if_pos (by rfl)]
  refine wp_store_byte 5 (.tmp 74) (.const (.int .u8 0)) rfl (w28.heap.size) 5 gb 7 (9) (c44) (((pb7).set 8 121).set 6 0) (0) rfl rfl tbw (by omega) (by kernel_rfl) ?_
  intro w48 own_ gr
  replace pb := pb.away (bl_pb_e0.av tbge) gr
  replace p7 := p7.away (bl_p7_e0.av tbge) gr
  replace hp := blk_a hp gr (ne_new y_e0_p.out tbge)
  replace ha3 := blk_a ha3 gr (ne_new y_e0_a3.out tbge)
  replace ha4 := blk_a ha4 gr (ne_new y_e0_a4.out tbge)
  replace ha5 := blk_a ha5 gr (ne_new y_e0_a5.out tbge)
  replace ha6 := blk_a ha6 gr (ne_new y_e0_a6.out tbge)
  replace bel := below_grown bel gr (Nat.le_trans e0lo tbge) bel.size
  replace lz_tb := Nat.le_trans lz_tb gr.size
  clear gr tb tbw
  have tbw := own_
  have tb := (own_sl own_).1
  clear own_
  refine hK.out _ _ ha6 (fun hH49 => ?_)
  clear hK K
  simp only [Act.put]
  refine wpAnyH_done (by kernel_rfl) ?_ _
  have R76 := Lib.hid (range_lit ha6 0 16 [.int .i64 0, .int .i64 0, .int .i64 0, .int .i64 0, .int .i64 64, .int .i64 17, .int .u8 10, .int .u8 0, .int .u8 0, .int .u8 1, .int .u8 10, .int .u8 0, .int .u8 0, .int .u8 2, .slice Ao 0 co, .slice (some ⟨gb, 0, none⟩) 9 c44] rfl)
  go_wp2_with (first | ((with_reducible show wpList _ _ _ (⟨some 76, _, _, _, _, _⟩ :: _) _ _); refine wpList_load_rng 27 (.tmp 6) rfl (by kernel_rfl) _ _ rfl _ R76.out _ Try.underlying27 rfl (by kernel_rfl) ?_))
  try clear R76
  with_reducible refine (kget_er _ _ _ _ _ _ 0 17 _ 0 _ tb (by omega) k7_5).mono ?_
  rintro e w50 ⟨x5, y5, D5, m5, d5, rfl, b50⟩
  replace hp := blk_u hp b50
  replace ha3 := blk_u ha3 b50
  replace ha4 := blk_u ha4 b50
  replace ha5 := blk_u ha5 b50
  replace ha6 := blk_u ha6 b50
  replace pb := pb.below b50
  replace p7 := p7.below b50
  replace tb := tb.below b50
  replace tbw := own_under tbw b50
  replace lz_tb := Nat.le_trans lz_tb b50.size
  replace bel := bel.trans (b50.mono bel.size)
  clear b50
  go_wp2_with (first | ((with_reducible show wpList _ _ _ (⟨some 15, _, _, _, _, _⟩ :: _) _ _); refine wpList_new_a rfl 33 rfl #[.int .i64 0, .int .i64 0, .slice none 0 0] (by kernel_rfl) ?_; intro g15 w51 ge hh bb; have d_p_k15 := ne_new (hlt hp) ge; have d_a3_k15 := ne_new (hlt ha3) ge; have d_a4_k15 := ne_new (hlt ha4) ge; have d_a5_k15 := ne_new (hlt ha5) ge; have d_a6_k15 := ne_new (hlt ha6) ge; have av_pb_k15 := pb.av_new ge; have av_p7_k15 := p7.av_new ge; have av_tb_k15 := tb.av_new ge; have of_tb_k15 := own_new tbw ge; have ok15 := Nat.le_trans bel.size ge; replace hp := blk_u hp bb; replace ha3 := blk_u ha3 bb; replace ha4 := blk_u ha4 bb; replace ha5 := blk_u ha5 bb; replace ha6 := blk_u ha6 bb; replace pb := pb.below bb; replace p7 := p7.below bb; replace tb := tb.below bb; replace tbw := own_under tbw bb; replace lz_tb := Nat.le_trans lz_tb bb.size; replace bel := bel.trans (bb.mono bel.size); have hk15 := hh; clear hh ge bb) | ((with_reducible show wpList _ _ _ (⟨none, Op.store _ (.tmp 15) _, _, _, _, _⟩ :: _) _ _); refine wpList_store_blk rfl 33 (.tmp 15) (.tmp 78) rfl g15 rfl _ rfl _ 33 hk15 (by rfl) (by kernel_rfl) (by kernel_rfl) ?_; intro w52 hq gr; replace pb := pb.away av_pb_k15 gr; replace p7 := p7.away av_p7_k15 gr; replace tb := tb.away av_tb_k15 gr; replace tbw := own_off tbw of_tb_k15 gr; replace lz_tb := Nat.le_trans lz_tb gr.size; replace hp := blk_a hp gr d_p_k15; replace ha3 := blk_a ha3 gr d_a3_k15; replace ha4 := blk_a ha4 gr d_a4_k15; replace ha5 := blk_a ha5 gr d_a5_k15; replace ha6 := blk_a ha6 gr d_a6_k15; replace bel := below_grown bel gr ok15 bel.size; clear hk15; have hk15 := hq; clear hq gr))
  with_reducible refine (base7 _).mono ?_
  rintro e w53 ⟨rfl, b53⟩
  replace hp := blk_u hp b53
  replace ha3 := blk_u ha3 b53
  replace ha4 := blk_u ha4 b53
  replace ha5 := blk_u ha5 b53
  replace ha6 := blk_u ha6 b53
  replace hk15 := blk_u hk15 b53
  replace pb := pb.below b53
  replace p7 := p7.below b53
  replace tb := tb.below b53
  replace tbw := own_under tbw b53
  replace lz_tb := Nat.le_trans lz_tb b53.size
  replace bel := bel.trans (b53.mono bel.size)
  clear b53
  go_wp2_with fail
  with_reducible refine (kput_er (-1) 0 _ _ _ _ 1 _ (Sl.nil _) (by omega) k7_6).mono ?_
  rintro e w54 ⟨f06, f16, f26, f36, f46, f56, j06, j16, j26, j36, j46, j56, j66, j76, Ao6, no6, co6, Ab6, nb6, cb6, rfl, b54⟩
  replace hp := blk_u hp b54
  replace ha3 := blk_u ha3 b54
  replace ha4 := blk_u ha4 b54
  replace ha5 := blk_u ha5 b54
  replace ha6 := blk_u ha6 b54
  replace hk15 := blk_u hk15 b54
  replace pb := pb.below b54
  replace p7 := p7.below b54
  replace tb := tb.below b54
  replace tbw := own_under tbw b54
  replace lz_tb := Nat.le_trans lz_tb b54.size
  replace bel := bel.trans (b54.mono bel.size)
  clear b54
  go_wp2_with (first | ((with_reducible show wpList _ _ _ (⟨some 17, _, _, _, _, _⟩ :: _) _ _); refine wpList_new_a rfl 27 rfl #[.int .i64 0, .int .i64 0, .int .i64 0, .int .i64 0, .int .i64 0, .int .i64 0, .int .u8 0, .int .u8 0, .int .u8 0, .int .u8 0, .int .u8 0, .int .u8 0, .int .u8 0, .int .u8 0, .slice none 0 0, .slice none 0 0] (by kernel_rfl) ?_; intro g17 w55 ge hh bb; have d_p_k17 := ne_new (hlt hp) ge; have d_a3_k17 := ne_new (hlt ha3) ge; have d_a4_k17 := ne_new (hlt ha4) ge; have d_a5_k17 := ne_new (hlt ha5) ge; have d_a6_k17 := ne_new (hlt ha6) ge; have d_k15_k17 := ne_new (hlt hk15) ge; have av_pb_k17 := pb.av_new ge; have av_p7_k17 := p7.av_new ge; have av_tb_k17 := tb.av_new ge; have of_tb_k17 := own_new tbw ge; have ok17 := Nat.le_trans bel.size ge; replace hp := blk_u hp bb; replace ha3 := blk_u ha3 bb; replace ha4 := blk_u ha4 bb; replace ha5 := blk_u ha5 bb; replace ha6 := blk_u ha6 bb; replace hk15 := blk_u hk15 bb; replace pb := pb.below bb; replace p7 := p7.below bb; replace tb := tb.below bb; replace tbw := own_under tbw bb; replace lz_tb := Nat.le_trans lz_tb bb.size; replace bel := bel.trans (bb.mono bel.size); have hk17 := hh; clear hh ge bb) | ((with_reducible show wpList _ _ _ (⟨none, Op.store _ (.tmp 17) _, _, _, _, _⟩ :: _) _ _); refine wpList_store_blk rfl 27 (.tmp 17) (.tmp 84) rfl g17 rfl _ rfl _ 27 hk17 (by rfl) (by kernel_rfl) (by kernel_rfl) ?_; intro w56 hq gr; replace pb := pb.away av_pb_k17 gr; replace p7 := p7.away av_p7_k17 gr; replace tb := tb.away av_tb_k17 gr; replace tbw := own_off tbw of_tb_k17 gr; replace lz_tb := Nat.le_trans lz_tb gr.size; replace hp := blk_a hp gr d_p_k17; replace ha3 := blk_a ha3 gr d_a3_k17; replace ha4 := blk_a ha4 gr d_a4_k17; replace ha5 := blk_a ha5 gr d_a5_k17; replace ha6 := blk_a ha6 gr d_a6_k17; replace hk15 := blk_a hk15 gr d_k15_k17; replace bel := below_grown bel gr ok17 bel.size; clear hk17; have hk17 := hq; clear hq gr))
  go_cut [20] from 9999 (fun s20 W => ∃ g19 : Nat, ∃ f07 : Int, ∃ f17 : Int, ∃ f27 : Int, ∃ f37 : Int, ∃ f47 : Int, ∃ f57 : Int, ∃ j07 : UInt8, ∃ j17 : UInt8, ∃ j27 : UInt8, ∃ j37 : UInt8, ∃ j47 : UInt8, ∃ j57 : UInt8, ∃ j67 : UInt8, ∃ j77 : UInt8, ∃ Ao7 : Option Addr, ∃ no7 : Nat, ∃ co7 : Nat, ∃ Ab7 : Option Addr, ∃ nb7 : Nat, ∃ cb7 : Nat, s20 = .int .i64 2 ∧ W.heap[g1]? = some (.cells #[.int .i64 0, .int .i64 0, .int .i64 0, .int .i64 0, .int .i64 64, .int .i64 17, .int .u8 10, .int .u8 0, .int .u8 0, .int .u8 1, .int .u8 10, .int .u8 0, .int .u8 0, .int .u8 2, .slice Ao 0 co, .slice Ab 9 cb] 27 (0, 0)) ∧ W.heap[g3]? = some (.cells #[.int .i64 0, .int .i64 0, .int .i64 0, .int .i64 0, .int .i64 64, .int .i64 6, .int .u8 10, .int .u8 0, .int .u8 0, .int .u8 1, .int .u8 10, .int .u8 0, .int .u8 0, .int .u8 2, .slice Ao 0 co, .slice Ab 9 cb] 27 (0, 0)) ∧ W.heap[g4]? = some (.cells #[.int .i64 0, .int .i64 0, .int .i64 0, .int .i64 1, .int .i64 64, .int .i64 17, .int .u8 10, .int .u8 0, .int .u8 0, .int .u8 1, .int .u8 10, .int .u8 0, .int .u8 0, .int .u8 2, .slice Ao 0 co, .slice Ab 9 cb] 27 (0, 0)) ∧ W.heap[g5]? = some (.cells #[.int .i64 0, .int .i64 0, .int .i64 0, .int .i64 0, .int .i64 64, .int .i64 17, .int .u8 10, .int .u8 0, .int .u8 0, .int .u8 1, .int .u8 10, .int .u8 0, .int .u8 0, .int .u8 2, .slice Ao 0 co, .slice A39 7 c39] 27 (0, 0)) ∧ W.heap[g6]? = some (.cells #[.int .i64 0, .int .i64 0, .int .i64 0, .int .i64 0, .int .i64 64, .int .i64 17, .int .u8 10, .int .u8 0, .int .u8 0, .int .u8 1, .int .u8 10, .int .u8 0, .int .u8 0, .int .u8 2, .slice Ao 0 co, .slice (some ⟨gb, 0, none⟩) 9 c44] 27 (0, 0)) ∧ W.heap[g15]? = some (.cells #[.int .i64 x5, .int .i64 y5, .slice D5 m5 d5] 33 (0, 0)) ∧ W.heap[g17]? = some (.cells #[.int .i64 f06, .int .i64 f16, .int .i64 f26, .int .i64 f36, .int .i64 f46, .int .i64 f56, .int .u8 (j06.toNat : Int), .int .u8 (j16.toNat : Int), .int .u8 (j26.toNat : Int), .int .u8 (j36.toNat : Int), .int .u8 (j46.toNat : Int), .int .u8 (j56.toNat : Int), .int .u8 (j66.toNat : Int), .int .u8 (j76.toNat : Int), .slice Ao6 no6 co6, .slice Ab6 nb6 cb6] 27 (0, 0)) ∧ W.heap[g19]? = some (.cells #[.int .i64 f07, .int .i64 f17, .int .i64 f27, .int .i64 f37, .int .i64 f47, .int .i64 f57, .int .u8 (j07.toNat : Int), .int .u8 (j17.toNat : Int), .int .u8 (j27.toNat : Int), .int .u8 (j37.toNat : Int), .int .u8 (j47.toNat : Int), .int .u8 (j57.toNat : Int), .int .u8 (j67.toNat : Int), .int .u8 (j77.toNat : Int), .slice Ao7 no7 co7, .slice Ab7 nb7 cb7] 27 (0, 0)) ∧ w.heap.size ≤ g19 ∧ Hid (g3 ≠ g4) ∧ Hid (g3 ≠ g5) ∧ Hid (g3 ≠ g6) ∧ Hid (g3 ≠ g15) ∧ Hid (g3 ≠ g17) ∧ Hid (g3 ≠ g19) ∧ Hid (g3 ≠ g1) ∧ Hid (g4 ≠ g5) ∧ Hid (g4 ≠ g6) ∧ Hid (g4 ≠ g15) ∧ Hid (g4 ≠ g17) ∧ Hid (g4 ≠ g19) ∧ Hid (g4 ≠ g1) ∧ Hid (g5 ≠ g6) ∧ Hid (g5 ≠ g15) ∧ Hid (g5 ≠ g17) ∧ Hid (g5 ≠ g19) ∧ Hid (g5 ≠ g1) ∧ Hid (g6 ≠ g15) ∧ Hid (g6 ≠ g17) ∧ Hid (g6 ≠ g19) ∧ Hid (g6 ≠ g1) ∧ Hid (g15 ≠ g17) ∧ Hid (g15 ≠ g19) ∧ Hid (g15 ≠ g1) ∧ Hid (g17 ≠ g19) ∧ Hid (g17 ≠ g1) ∧ Hid (g19 ≠ g1) ∧ Sl W (Ab) (9) (cb) (pb7) ∧ Av (Ab) (9) g3 ∧ Av (Ab) (9) g4 ∧ Av (Ab) (9) g5 ∧ Av (Ab) (9) g6 ∧ Av (Ab) (9) g15 ∧ Av (Ab) (9) g17 ∧ Av (Ab) (9) g19 ∧ Av (Ab) (9) g1 ∧ Sl W (A39) (7) (c39) ((pb7).take (7)) ∧ Av (A39) (7) g3 ∧ Av (A39) (7) g4 ∧ Av (A39) (7) g5 ∧ Av (A39) (7) g6 ∧ Av (A39) (7) g15 ∧ Av (A39) (7) g17 ∧ Av (A39) (7) g19 ∧ Av (A39) (7) g1 ∧ Sl W (some ⟨gb, 0, none⟩) (9) (c44) ((((pb7).set 8 121).set 6 0).set 7 0) ∧ Av (some ⟨gb, 0, none⟩) (9) g3 ∧ Av (some ⟨gb, 0, none⟩) (9) g4 ∧ Av (some ⟨gb, 0, none⟩) (9) g5 ∧ Av (some ⟨gb, 0, none⟩) (9) g6 ∧ Av (some ⟨gb, 0, none⟩) (9) g15 ∧ Av (some ⟨gb, 0, none⟩) (9) g17 ∧ Av (some ⟨gb, 0, none⟩) (9) g19 ∧ Av (some ⟨gb, 0, none⟩) (9) g1 ∧ Below w.heap.size w W)
  case first =>
    replace bel := bel.drew
    replace hp : w56.drew.heap[g1]? = _ := hp
    replace ha3 : w56.drew.heap[g3]? = _ := ha3
    replace ha4 : w56.drew.heap[g4]? = _ := ha4
    replace ha5 : w56.drew.heap[g5]? = _ := ha5
    replace ha6 : w56.drew.heap[g6]? = _ := ha6
    replace hk15 : w56.drew.heap[g15]? = _ := hk15
    replace hk17 : w56.drew.heap[g17]? = _ := hk17
    replace pb := pb.drew
    replace p7 := p7.drew
    replace tb := tb.drew
    replace tbw : w56.drew.ownsRow _ _ _ _ _ _ := tbw
    replace lz_tb : _ ≤ w56.drew.heap.size := lz_tb
    refine wp_region_held_drew (S := fun _ => True) (by kernel_rfl) trivial (fun hH => ?_)
    generalize w56.drew = w57 at bel hp ha3 ha4 ha5 ha6 hk15 hk17 pb p7 tb tbw lz_tb hH ⊢
    refine wpAnyH_ready (rs := [0, 1, 7]) (by kernel_rfl) (by simp) ?_
    refine AllReadyH.cons (o := _) rfl (fun K hK => ?_) (AllReadyH.cons (o := _) rfl (fun K hK => ?_) (AllReadyH.cons (o := _) rfl (fun K hK => ?_) AllReadyH.nil))
    · simp only [List.getElem_toArray, List.getElem_cons_zero]
      go_simp
      with_reducible refine (base7 _).mono ?_
      rintro e w58 ⟨rfl, b58⟩
      dsimp only
      replace hp := blk_u hp b58
      replace ha3 := blk_u ha3 b58
      replace ha4 := blk_u ha4 b58
      replace ha5 := blk_u ha5 b58
      replace ha6 := blk_u ha6 b58
      replace hk15 := blk_u hk15 b58
      replace hk17 := blk_u hk17 b58
      replace pb := pb.below b58
      replace p7 := p7.below b58
      replace tb := tb.below b58
      replace tbw := own_under tbw b58
      replace lz_tb := Nat.le_trans lz_tb b58.size
      replace bel := bel.trans (b58.mono bel.size)
      clear b58
      refine hK.out _ _ trivial (fun hH59 => ?_)
      clear hK K
      refine wpAnyH_ready (rs := [1, 7]) (by kernel_rfl) (by simp) ?_
      refine AllReadyH.cons (o := _) rfl (fun K hK => ?_) (AllReadyH.cons (o := _) rfl (fun K hK => ?_) AllReadyH.nil)
      · simp only [List.getElem_toArray, List.getElem_cons_zero, List.getElem_cons_succ]
        rw [if_pos (by rfl)]
        refine wp_make_g (.const (.int .i64 1473)) (.const (.int .i64 1473)) 25 rfl 5 ii Try.underlying25 hii hz0 hz1 hz2 .i64 .i64 _ _ (1473) rfl rfl rfl rfl (by omega) ?_
        intro g88 w60 ge sm bb
        replace hp := blk_u hp bb
        replace ha3 := blk_u ha3 bb
        replace ha4 := blk_u ha4 bb
        replace ha5 := blk_u ha5 bb
        replace ha6 := blk_u ha6 bb
        replace hk15 := blk_u hk15 bb
        replace hk17 := blk_u hk17 bb
        replace pb := pb.below bb
        replace p7 := p7.below bb
        replace tb := tb.below bb
        replace tbw := own_under tbw bb
        replace lz_tb := Nat.le_trans lz_tb bb.size
        replace bel := bel.trans (bb.mono bel.size)
        have mk := sm
        clear sm ge bb
        refine hK.out _ _ trivial (fun hH61 => ?_)
        clear hK K
        simp only [Act.put, List.setIfInBounds_toArray, List.set_cons_zero, List.set_cons_succ]
        refine wpAnyH_take (i := 2) (v := ?_) rfl (by kernel_rfl) (by kernel_rfl) (by kernel_rfl) (fun _ _ _ h => h) (Or.inl ⟨by rfl, ?_⟩) hH61 ?_
        rotate_left
        · ((intro W hW; clear hW; go_simp) <;> with_reducible rfl)
        simp only [Act.put, List.getElem_toArray, List.getElem_cons_zero, List.getElem_cons_succ, List.setIfInBounds_toArray, List.set_cons_zero, List.set_cons_succ]
        refine wpAnyH_ready (rs := [3, 7]) (by kernel_rfl) (by simp) ?_
        refine AllReadyH.cons (o := _) rfl (fun K hK => ?_) (AllReadyH.cons (o := _) rfl (fun K hK => ?_) AllReadyH.nil)
        · simp only [List.getElem_toArray, List.getElem_cons_zero, List.getElem_cons_succ]
          go_simp
          with_reducible refine (kput_er 0 0 _ _ _ _ 2 _ mk (by omega) k7_7).mono ?_
          rintro e w62 ⟨f07, f17, f27, f37, f47, f57, j07, j17, j27, j37, j47, j57, j67, j77, Ao7, no7, co7, Ab7, nb7, cb7, rfl, b62⟩
          dsimp only
          replace hp := blk_u hp b62
          replace ha3 := blk_u ha3 b62
          replace ha4 := blk_u ha4 b62
          replace ha5 := blk_u ha5 b62
          replace ha6 := blk_u ha6 b62
          replace hk15 := blk_u hk15 b62
          replace hk17 := blk_u hk17 b62
          replace pb := pb.below b62
          replace p7 := p7.below b62
          replace tb := tb.below b62
          replace tbw := own_under tbw b62
          replace mk := mk.below b62
          replace lz_tb := Nat.le_trans lz_tb b62.size
          replace bel := bel.trans (b62.mono bel.size)
          clear b62
          clear mk
          refine hK.out _ _ trivial (fun hH63 => ?_)
          clear hK K
          refine wpAnyH_take (i := 4) (v := ?_) rfl (by kernel_rfl) (by kernel_rfl) (by kernel_rfl) (fun _ _ _ h => h) (Or.inl ⟨by rfl, ?_⟩) hH63 ?_
          rotate_left
          · ((intro W hW; clear hW; go_simp) <;> with_reducible rfl)
          simp only [Act.put, List.getElem_toArray, List.getElem_cons_zero, List.getElem_cons_succ, List.setIfInBounds_toArray, List.set_cons_zero, List.set_cons_succ]
          refine wpAnyH_take (i := 5) (v := ?_) rfl (by kernel_rfl) (by kernel_rfl) (by kernel_rfl) (fun _ _ _ h => h) (Or.inl ⟨by rfl, ?_⟩) hH63 ?_
          rotate_left
          · ((intro W hW; clear hW; go_simp) <;> with_reducible rfl)
          simp only [Act.put, List.getElem_toArray, List.getElem_cons_zero, List.getElem_cons_succ, List.setIfInBounds_toArray, List.set_cons_zero, List.set_cons_succ]
          refine wpAnyH_take (i := 6) (v := ?_) rfl (by kernel_rfl) (by kernel_rfl) (by kernel_rfl) (fun _ _ _ h => h) (Or.inl ⟨by rfl, ?_⟩) hH63 ?_
          rotate_left
          · ((intro W hW; clear hW; go_simp) <;> with_reducible rfl)
          simp only [Act.put, List.getElem_toArray, List.getElem_cons_zero, List.getElem_cons_succ, List.setIfInBounds_toArray, List.set_cons_zero, List.set_cons_succ]
          refine wpAnyH_ready (rs := [7]) (by kernel_rfl) (by simp) ?_
          refine AllReadyH.cons (o := _) rfl (fun K hK => ?_) AllReadyH.nil
          simp only [List.getElem_toArray, List.getElem_cons_zero, List.getElem_cons_succ]
          rw [if_pos (by rfl)]
          refine wp_new_a 27 rfl #[.int .i64 0, .int .i64 0, .int .i64 0, .int .i64 0, .int .i64 0, .int .i64 0, .int .u8 0, .int .u8 0, .int .u8 0, .int .u8 0, .int .u8 0, .int .u8 0, .int .u8 0, .int .u8 0, .slice none 0 0, .slice none 0 0] (by kernel_rfl) ?_
          intro g19 w64 ge hh bb
          have d_p_k19 := ne_new (hlt hp) ge
          have d_a3_k19 := ne_new (hlt ha3) ge
          have d_a4_k19 := ne_new (hlt ha4) ge
          have d_a5_k19 := ne_new (hlt ha5) ge
          have d_a6_k19 := ne_new (hlt ha6) ge
          have d_k15_k19 := ne_new (hlt hk15) ge
          have d_k17_k19 := ne_new (hlt hk17) ge
          have av_pb_k19 := pb.av_new ge
          have av_p7_k19 := p7.av_new ge
          have av_tb_k19 := tb.av_new ge
          have of_tb_k19 := own_new tbw ge
          have ok19 := Nat.le_trans bel.size ge
          replace hp := blk_u hp bb
          replace ha3 := blk_u ha3 bb
          replace ha4 := blk_u ha4 bb
          replace ha5 := blk_u ha5 bb
          replace ha6 := blk_u ha6 bb
          replace hk15 := blk_u hk15 bb
          replace hk17 := blk_u hk17 bb
          replace pb := pb.below bb
          replace p7 := p7.below bb
          replace tb := tb.below bb
          replace tbw := own_under tbw bb
          replace lz_tb := Nat.le_trans lz_tb bb.size
          replace bel := bel.trans (bb.mono bel.size)
          have hk19 := hh
          clear hh ge bb
          refine hK.out _ _ trivial (fun hH65 => ?_)
          clear hK K
          simp only [Act.put, List.setIfInBounds_toArray, List.set_cons_zero, List.set_cons_succ]
          refine wpAnyH_ready (rs := [8]) (by kernel_rfl) (by simp) ?_
          refine AllReadyH.cons (o := _) rfl (fun K hK => ?_) AllReadyH.nil
          simp only [List.getElem_toArray, List.getElem_cons_zero, List.getElem_cons_succ]
          rw [if_pos (by rfl)]
          refine wp_store_blk 27 (.tmp 19) (.tmp 91) rfl g19 rfl _ rfl _ 27 hk19 (by rfl) (by kernel_rfl) (by kernel_rfl) ?_
          intro w66 hq gr
          replace pb := pb.away av_pb_k19 gr
          replace p7 := p7.away av_p7_k19 gr
          replace tb := tb.away av_tb_k19 gr
          replace tbw := own_off tbw of_tb_k19 gr
          replace lz_tb := Nat.le_trans lz_tb gr.size
          replace hp := blk_a hp gr d_p_k19
          replace ha3 := blk_a ha3 gr d_a3_k19
          replace ha4 := blk_a ha4 gr d_a4_k19
          replace ha5 := blk_a ha5 gr d_a5_k19
          replace ha6 := blk_a ha6 gr d_a6_k19
          replace hk15 := blk_a hk15 gr d_k15_k19
          replace hk17 := blk_a hk17 gr d_k17_k19
          replace bel := below_grown bel gr ok19 bel.size
          clear hk19
          have hk19 := hq
          clear hq gr
          refine hK.out _ _ trivial (fun hH67 => ?_)
          clear hK K
          simp only [Act.put]
          refine wpAnyH_take (i := 9) (v := ?_) rfl (by kernel_rfl) (by kernel_rfl) (by kernel_rfl) (fun _ _ _ h => h) (Or.inl ⟨by rfl, ?_⟩) hH67 ?_
          rotate_left
          · ((intro W hW; clear hW; go_simp) <;> with_reducible rfl)
          simp only [Act.put, List.getElem_toArray, List.getElem_cons_zero, List.getElem_cons_succ, List.setIfInBounds_toArray, List.set_cons_zero, List.set_cons_succ]
          refine wpAnyH_done (by kernel_rfl) ?_ _
          go_wp2_with fail
          go_meet
          case rel => exact ⟨g19, f07, f17, f27, f37, f47, f57, j07, j17, j27, j37, j47, j57, j67, j77, Ao7, no7, co7, Ab7, nb7, cb7, rfl, hp, ha3, ha4, ha5, ha6, hk15, hk17, hk19, ok19, d_a3_a4, d_a3_a5, d_a3_a6, d_a3_k15, d_a3_k17, d_a3_k19, d_a3_p, d_a4_a5, d_a4_a6, d_a4_k15, d_a4_k17, d_a4_k19, d_a4_p, d_a5_a6, d_a5_k15, d_a5_k17, d_a5_k19, d_a5_p, d_a6_k15, d_a6_k17, d_a6_k19, d_a6_p, d_k15_k17, d_k15_k19, (ne_symm d_p_k15), d_k17_k19, (ne_symm d_p_k17), (ne_symm d_p_k19), pb, av_pb_a3, av_pb_a4, av_pb_a5, av_pb_a6, av_pb_k15, av_pb_k17, av_pb_k19, av_pb_p, p7, av_p7_a3, av_p7_a4, av_p7_a5, av_p7_a6, av_p7_k15, av_p7_k17, av_p7_k19, av_p7_p, tb, av_tb_a3, av_tb_a4, av_tb_a5, av_tb_a6, av_tb_k15, av_tb_k17, av_tb_k19, av_tb_p, bel⟩
        · simp only [List.getElem_toArray, List.getElem_cons_zero, List.getElem_cons_succ]
          rw [if_pos (by rfl)]
          refine wp_new_a 27 rfl #[.int .i64 0, .int .i64 0, .int .i64 0, .int .i64 0, .int .i64 0, .int .i64 0, .int .u8 0, .int .u8 0, .int .u8 0, .int .u8 0, .int .u8 0, .int .u8 0, .int .u8 0, .int .u8 0, .slice none 0 0, .slice none 0 0] (by kernel_rfl) ?_
          intro g19 w62 ge hh bb
          have d_p_k19 := ne_new (hlt hp) ge
          have d_a3_k19 := ne_new (hlt ha3) ge
          have d_a4_k19 := ne_new (hlt ha4) ge
          have d_a5_k19 := ne_new (hlt ha5) ge
          have d_a6_k19 := ne_new (hlt ha6) ge
          have d_k15_k19 := ne_new (hlt hk15) ge
          have d_k17_k19 := ne_new (hlt hk17) ge
          have av_pb_k19 := pb.av_new ge
          have av_p7_k19 := p7.av_new ge
          have av_tb_k19 := tb.av_new ge
          have of_tb_k19 := own_new tbw ge
          have av_mk_k19 := mk.av_new ge
          have ok19 := Nat.le_trans bel.size ge
          replace hp := blk_u hp bb
          replace ha3 := blk_u ha3 bb
          replace ha4 := blk_u ha4 bb
          replace ha5 := blk_u ha5 bb
          replace ha6 := blk_u ha6 bb
          replace hk15 := blk_u hk15 bb
          replace hk17 := blk_u hk17 bb
          replace pb := pb.below bb
          replace p7 := p7.below bb
          replace tb := tb.below bb
          replace tbw := own_under tbw bb
          replace mk := mk.below bb
          replace lz_tb := Nat.le_trans lz_tb bb.size
          replace bel := bel.trans (bb.mono bel.size)
          have hk19 := hh
          clear hh ge bb
          refine hK.out _ _ trivial (fun hH63 => ?_)
          clear hK K
          simp only [Act.put, List.setIfInBounds_toArray, List.set_cons_zero, List.set_cons_succ]
          refine wpAnyH_ready (rs := [3]) (by kernel_rfl) (by simp) ?_
          refine AllReadyH.cons (o := _) rfl (fun K hK => ?_) AllReadyH.nil
          simp only [List.getElem_toArray, List.getElem_cons_zero, List.getElem_cons_succ]
          go_simp
          with_reducible refine (kput_er 0 0 _ _ _ _ 2 _ mk (by omega) k7_7).mono ?_
          rintro e w64 ⟨f07, f17, f27, f37, f47, f57, j07, j17, j27, j37, j47, j57, j67, j77, Ao7, no7, co7, Ab7, nb7, cb7, rfl, b64⟩
          dsimp only
          replace hp := blk_u hp b64
          replace ha3 := blk_u ha3 b64
          replace ha4 := blk_u ha4 b64
          replace ha5 := blk_u ha5 b64
          replace ha6 := blk_u ha6 b64
          replace hk15 := blk_u hk15 b64
          replace hk17 := blk_u hk17 b64
          replace hk19 := blk_u hk19 b64
          replace pb := pb.below b64
          replace p7 := p7.below b64
          replace tb := tb.below b64
          replace tbw := own_under tbw b64
          replace mk := mk.below b64
          replace lz_tb := Nat.le_trans lz_tb b64.size
          replace bel := bel.trans (b64.mono bel.size)
          clear b64
          clear mk
          refine hK.out _ _ trivial (fun hH65 => ?_)
          clear hK K
          refine wpAnyH_take (i := 4) (v := ?_) rfl (by kernel_rfl) (by kernel_rfl) (by kernel_rfl) (fun _ _ _ h => h) (Or.inl ⟨by rfl, ?_⟩) hH65 ?_
          rotate_left
          · ((intro W hW; clear hW; go_simp) <;> with_reducible rfl)
          simp only [Act.put, List.getElem_toArray, List.getElem_cons_zero, List.getElem_cons_succ, List.setIfInBounds_toArray, List.set_cons_zero, List.set_cons_succ]
          refine wpAnyH_take (i := 5) (v := ?_) rfl (by kernel_rfl) (by kernel_rfl) (by kernel_rfl) (fun _ _ _ h => h) (Or.inl ⟨by rfl, ?_⟩) hH65 ?_
          rotate_left
          · ((intro W hW; clear hW; go_simp) <;> with_reducible rfl)
          simp only [Act.put, List.getElem_toArray, List.getElem_cons_zero, List.getElem_cons_succ, List.setIfInBounds_toArray, List.set_cons_zero, List.set_cons_succ]
          refine wpAnyH_take (i := 6) (v := ?_) rfl (by kernel_rfl) (by kernel_rfl) (by kernel_rfl) (fun _ _ _ h => h) (Or.inl ⟨by rfl, ?_⟩) hH65 ?_
          rotate_left
          · ((intro W hW; clear hW; go_simp) <;> with_reducible rfl)
          simp only [Act.put, List.getElem_toArray, List.getElem_cons_zero, List.getElem_cons_succ, List.setIfInBounds_toArray, List.set_cons_zero, List.set_cons_succ]
          refine wpAnyH_ready (rs := [8]) (by kernel_rfl) (by simp) ?_
          refine AllReadyH.cons (o := _) rfl (fun K hK => ?_) AllReadyH.nil
          simp only [List.getElem_toArray, List.getElem_cons_zero, List.getElem_cons_succ]
          rw [if_pos (by rfl)]
          refine wp_store_blk 27 (.tmp 19) (.tmp 91) rfl g19 rfl _ rfl _ 27 hk19 (by rfl) (by kernel_rfl) (by kernel_rfl) ?_
          intro w66 hq gr
          replace pb := pb.away av_pb_k19 gr
          replace p7 := p7.away av_p7_k19 gr
          replace tb := tb.away av_tb_k19 gr
          replace tbw := own_off tbw of_tb_k19 gr
          replace lz_tb := Nat.le_trans lz_tb gr.size
          replace hp := blk_a hp gr d_p_k19
          replace ha3 := blk_a ha3 gr d_a3_k19
          replace ha4 := blk_a ha4 gr d_a4_k19
          replace ha5 := blk_a ha5 gr d_a5_k19
          replace ha6 := blk_a ha6 gr d_a6_k19
          replace hk15 := blk_a hk15 gr d_k15_k19
          replace hk17 := blk_a hk17 gr d_k17_k19
          replace bel := below_grown bel gr ok19 bel.size
          clear hk19
          have hk19 := hq
          clear hq gr
          refine hK.out _ _ trivial (fun hH67 => ?_)
          clear hK K
          simp only [Act.put]
          refine wpAnyH_take (i := 9) (v := ?_) rfl (by kernel_rfl) (by kernel_rfl) (by kernel_rfl) (fun _ _ _ h => h) (Or.inl ⟨by rfl, ?_⟩) hH67 ?_
          rotate_left
          · ((intro W hW; clear hW; go_simp) <;> with_reducible rfl)
          simp only [Act.put, List.getElem_toArray, List.getElem_cons_zero, List.getElem_cons_succ, List.setIfInBounds_toArray, List.set_cons_zero, List.set_cons_succ]
          refine wpAnyH_done (by kernel_rfl) ?_ _
          go_wp2_with fail
          go_meet
          case rel => exact ⟨g19, f07, f17, f27, f37, f47, f57, j07, j17, j27, j37, j47, j57, j67, j77, Ao7, no7, co7, Ab7, nb7, cb7, rfl, hp, ha3, ha4, ha5, ha6, hk15, hk17, hk19, ok19, d_a3_a4, d_a3_a5, d_a3_a6, d_a3_k15, d_a3_k17, d_a3_k19, d_a3_p, d_a4_a5, d_a4_a6, d_a4_k15, d_a4_k17, d_a4_k19, d_a4_p, d_a5_a6, d_a5_k15, d_a5_k17, d_a5_k19, d_a5_p, d_a6_k15, d_a6_k17, d_a6_k19, d_a6_p, d_k15_k17, d_k15_k19, (ne_symm d_p_k15), d_k17_k19, (ne_symm d_p_k17), (ne_symm d_p_k19), pb, av_pb_a3, av_pb_a4, av_pb_a5, av_pb_a6, av_pb_k15, av_pb_k17, av_pb_k19, av_pb_p, p7, av_p7_a3, av_p7_a4, av_p7_a5, av_p7_a6, av_p7_k15, av_p7_k17, av_p7_k19, av_p7_p, tb, av_tb_a3, av_tb_a4, av_tb_a5, av_tb_a6, av_tb_k15, av_tb_k17, av_tb_k19, av_tb_p, bel⟩
      · simp only [List.getElem_toArray, List.getElem_cons_zero, List.getElem_cons_succ]
        rw [if_pos (by rfl)]
        refine wp_new_a 27 rfl #[.int .i64 0, .int .i64 0, .int .i64 0, .int .i64 0, .int .i64 0, .int .i64 0, .int .u8 0, .int .u8 0, .int .u8 0, .int .u8 0, .int .u8 0, .int .u8 0, .int .u8 0, .int .u8 0, .slice none 0 0, .slice none 0 0] (by kernel_rfl) ?_
        intro g19 w60 ge hh bb
        have d_p_k19 := ne_new (hlt hp) ge
        have d_a3_k19 := ne_new (hlt ha3) ge
        have d_a4_k19 := ne_new (hlt ha4) ge
        have d_a5_k19 := ne_new (hlt ha5) ge
        have d_a6_k19 := ne_new (hlt ha6) ge
        have d_k15_k19 := ne_new (hlt hk15) ge
        have d_k17_k19 := ne_new (hlt hk17) ge
        have av_pb_k19 := pb.av_new ge
        have av_p7_k19 := p7.av_new ge
        have av_tb_k19 := tb.av_new ge
        have of_tb_k19 := own_new tbw ge
        have ok19 := Nat.le_trans bel.size ge
        replace hp := blk_u hp bb
        replace ha3 := blk_u ha3 bb
        replace ha4 := blk_u ha4 bb
        replace ha5 := blk_u ha5 bb
        replace ha6 := blk_u ha6 bb
        replace hk15 := blk_u hk15 bb
        replace hk17 := blk_u hk17 bb
        replace pb := pb.below bb
        replace p7 := p7.below bb
        replace tb := tb.below bb
        replace tbw := own_under tbw bb
        replace lz_tb := Nat.le_trans lz_tb bb.size
        replace bel := bel.trans (bb.mono bel.size)
        have hk19 := hh
        clear hh ge bb
        refine hK.out _ _ trivial (fun hH61 => ?_)
        clear hK K
        simp only [Act.put, List.setIfInBounds_toArray, List.set_cons_zero, List.set_cons_succ]
        refine wpAnyH_ready (rs := [1]) (by kernel_rfl) (by simp) ?_
        refine AllReadyH.cons (o := _) rfl (fun K hK => ?_) AllReadyH.nil
        simp only [List.getElem_toArray, List.getElem_cons_zero, List.getElem_cons_succ]
        rw [if_pos (by rfl)]
        refine wp_make_g (.const (.int .i64 1473)) (.const (.int .i64 1473)) 25 rfl 5 ii Try.underlying25 hii hz0 hz1 hz2 .i64 .i64 _ _ (1473) rfl rfl rfl rfl (by omega) ?_
        intro g88 w62 ge sm bb
        replace hp := blk_u hp bb
        replace ha3 := blk_u ha3 bb
        replace ha4 := blk_u ha4 bb
        replace ha5 := blk_u ha5 bb
        replace ha6 := blk_u ha6 bb
        replace hk15 := blk_u hk15 bb
        replace hk17 := blk_u hk17 bb
        replace hk19 := blk_u hk19 bb
        replace pb := pb.below bb
        replace p7 := p7.below bb
        replace tb := tb.below bb
        replace tbw := own_under tbw bb
        replace lz_tb := Nat.le_trans lz_tb bb.size
        replace bel := bel.trans (bb.mono bel.size)
        have mk := sm
        clear sm ge bb
        refine hK.out _ _ trivial (fun hH63 => ?_)
        clear hK K
        simp only [Act.put, List.setIfInBounds_toArray, List.set_cons_zero, List.set_cons_succ]
        refine wpAnyH_take (i := 2) (v := ?_) rfl (by kernel_rfl) (by kernel_rfl) (by kernel_rfl) (fun _ _ _ h => h) (Or.inl ⟨by rfl, ?_⟩) hH63 ?_
        rotate_left
        · ((intro W hW; clear hW; go_simp) <;> with_reducible rfl)
        simp only [Act.put, List.getElem_toArray, List.getElem_cons_zero, List.getElem_cons_succ, List.setIfInBounds_toArray, List.set_cons_zero, List.set_cons_succ]
        refine wpAnyH_ready (rs := [3]) (by kernel_rfl) (by simp) ?_
        refine AllReadyH.cons (o := _) rfl (fun K hK => ?_) AllReadyH.nil
        simp only [List.getElem_toArray, List.getElem_cons_zero, List.getElem_cons_succ]
        go_simp
        with_reducible refine (kput_er 0 0 _ _ _ _ 2 _ mk (by omega) k7_7).mono ?_
        rintro e w64 ⟨f07, f17, f27, f37, f47, f57, j07, j17, j27, j37, j47, j57, j67, j77, Ao7, no7, co7, Ab7, nb7, cb7, rfl, b64⟩
        dsimp only
        replace hp := blk_u hp b64
        replace ha3 := blk_u ha3 b64
        replace ha4 := blk_u ha4 b64
        replace ha5 := blk_u ha5 b64
        replace ha6 := blk_u ha6 b64
        replace hk15 := blk_u hk15 b64
        replace hk17 := blk_u hk17 b64
        replace hk19 := blk_u hk19 b64
        replace pb := pb.below b64
        replace p7 := p7.below b64
        replace tb := tb.below b64
        replace tbw := own_under tbw b64
        replace mk := mk.below b64
        replace lz_tb := Nat.le_trans lz_tb b64.size
        replace bel := bel.trans (b64.mono bel.size)
        clear b64
        clear mk
        refine hK.out _ _ trivial (fun hH65 => ?_)
        clear hK K
        refine wpAnyH_take (i := 4) (v := ?_) rfl (by kernel_rfl) (by kernel_rfl) (by kernel_rfl) (fun _ _ _ h => h) (Or.inl ⟨by rfl, ?_⟩) hH65 ?_
        rotate_left
        · ((intro W hW; clear hW; go_simp) <;> with_reducible rfl)
        simp only [Act.put, List.getElem_toArray, List.getElem_cons_zero, List.getElem_cons_succ, List.setIfInBounds_toArray, List.set_cons_zero, List.set_cons_succ]
        refine wpAnyH_take (i := 5) (v := ?_) rfl (by kernel_rfl) (by kernel_rfl) (by kernel_rfl) (fun _ _ _ h => h) (Or.inl ⟨by rfl, ?_⟩) hH65 ?_
        rotate_left
        · ((intro W hW; clear hW; go_simp) <;> with_reducible rfl)
        simp only [Act.put, List.getElem_toArray, List.getElem_cons_zero, List.getElem_cons_succ, List.setIfInBounds_toArray, List.set_cons_zero, List.set_cons_succ]
        refine wpAnyH_take (i := 6) (v := ?_) rfl (by kernel_rfl) (by kernel_rfl) (by kernel_rfl) (fun _ _ _ h => h) (Or.inl ⟨by rfl, ?_⟩) hH65 ?_
        rotate_left
        · ((intro W hW; clear hW; go_simp) <;> with_reducible rfl)
        simp only [Act.put, List.getElem_toArray, List.getElem_cons_zero, List.getElem_cons_succ, List.setIfInBounds_toArray, List.set_cons_zero, List.set_cons_succ]
        refine wpAnyH_ready (rs := [8]) (by kernel_rfl) (by simp) ?_
        refine AllReadyH.cons (o := _) rfl (fun K hK => ?_) AllReadyH.nil
        simp only [List.getElem_toArray, List.getElem_cons_zero, List.getElem_cons_succ]
        rw [if_pos (by rfl)]
        refine wp_store_blk 27 (.tmp 19) (.tmp 91) rfl g19 rfl _ rfl _ 27 hk19 (by rfl) (by kernel_rfl) (by kernel_rfl) ?_
        intro w66 hq gr
        replace pb := pb.away av_pb_k19 gr
        replace p7 := p7.away av_p7_k19 gr
        replace tb := tb.away av_tb_k19 gr
        replace tbw := own_off tbw of_tb_k19 gr
        replace lz_tb := Nat.le_trans lz_tb gr.size
        replace hp := blk_a hp gr d_p_k19
        replace ha3 := blk_a ha3 gr d_a3_k19
        replace ha4 := blk_a ha4 gr d_a4_k19
        replace ha5 := blk_a ha5 gr d_a5_k19
        replace ha6 := blk_a ha6 gr d_a6_k19
        replace hk15 := blk_a hk15 gr d_k15_k19
        replace hk17 := blk_a hk17 gr d_k17_k19
        replace bel := below_grown bel gr ok19 bel.size
        clear hk19
        have hk19 := hq
        clear hq gr
        refine hK.out _ _ trivial (fun hH67 => ?_)
        clear hK K
        simp only [Act.put]
        refine wpAnyH_take (i := 9) (v := ?_) rfl (by kernel_rfl) (by kernel_rfl) (by kernel_rfl) (fun _ _ _ h => h) (Or.inl ⟨by rfl, ?_⟩) hH67 ?_
        rotate_left
        · ((intro W hW; clear hW; go_simp) <;> with_reducible rfl)
        simp only [Act.put, List.getElem_toArray, List.getElem_cons_zero, List.getElem_cons_succ, List.setIfInBounds_toArray, List.set_cons_zero, List.set_cons_succ]
        refine wpAnyH_done (by kernel_rfl) ?_ _
        go_wp2_with fail
        go_meet
        case rel => exact ⟨g19, f07, f17, f27, f37, f47, f57, j07, j17, j27, j37, j47, j57, j67, j77, Ao7, no7, co7, Ab7, nb7, cb7, rfl, hp, ha3, ha4, ha5, ha6, hk15, hk17, hk19, ok19, d_a3_a4, d_a3_a5, d_a3_a6, d_a3_k15, d_a3_k17, d_a3_k19, d_a3_p, d_a4_a5, d_a4_a6, d_a4_k15, d_a4_k17, d_a4_k19, d_a4_p, d_a5_a6, d_a5_k15, d_a5_k17, d_a5_k19, d_a5_p, d_a6_k15, d_a6_k17, d_a6_k19, d_a6_p, d_k15_k17, d_k15_k19, (ne_symm d_p_k15), d_k17_k19, (ne_symm d_p_k17), (ne_symm d_p_k19), pb, av_pb_a3, av_pb_a4, av_pb_a5, av_pb_a6, av_pb_k15, av_pb_k17, av_pb_k19, av_pb_p, p7, av_p7_a3, av_p7_a4, av_p7_a5, av_p7_a6, av_p7_k15, av_p7_k17, av_p7_k19, av_p7_p, tb, av_tb_a3, av_tb_a4, av_tb_a5, av_tb_a6, av_tb_k15, av_tb_k17, av_tb_k19, av_tb_p, bel⟩
    · simp only [List.getElem_toArray, List.getElem_cons_zero, List.getElem_cons_succ]
      rw [if_pos (by rfl)]
      refine wp_make_g (.const (.int .i64 1473)) (.const (.int .i64 1473)) 25 rfl 5 ii Try.underlying25 hii hz0 hz1 hz2 .i64 .i64 _ _ (1473) rfl rfl rfl rfl (by omega) ?_
      intro g88 w58 ge sm bb
      replace hp := blk_u hp bb
      replace ha3 := blk_u ha3 bb
      replace ha4 := blk_u ha4 bb
      replace ha5 := blk_u ha5 bb
      replace ha6 := blk_u ha6 bb
      replace hk15 := blk_u hk15 bb
      replace hk17 := blk_u hk17 bb
      replace pb := pb.below bb
      replace p7 := p7.below bb
      replace tb := tb.below bb
      replace tbw := own_under tbw bb
      replace lz_tb := Nat.le_trans lz_tb bb.size
      replace bel := bel.trans (bb.mono bel.size)
      have mk := sm
      clear sm ge bb
      refine hK.out _ _ trivial (fun hH59 => ?_)
      clear hK K
      simp only [Act.put, List.setIfInBounds_toArray, List.set_cons_zero, List.set_cons_succ]
      refine wpAnyH_take (i := 2) (v := ?_) rfl (by kernel_rfl) (by kernel_rfl) (by kernel_rfl) (fun _ _ _ h => h) (Or.inl ⟨by rfl, ?_⟩) hH59 ?_
      rotate_left
      · ((intro W hW; clear hW; go_simp) <;> with_reducible rfl)
      simp only [Act.put, List.getElem_toArray, List.getElem_cons_zero, List.getElem_cons_succ, List.setIfInBounds_toArray, List.set_cons_zero, List.set_cons_succ]
      refine wpAnyH_ready (rs := [0, 7]) (by kernel_rfl) (by simp) ?_
      refine AllReadyH.cons (o := _) rfl (fun K hK => ?_) (AllReadyH.cons (o := _) rfl (fun K hK => ?_) AllReadyH.nil)
      · simp only [List.getElem_toArray, List.getElem_cons_zero]
        go_simp
        with_reducible refine (base7 _).mono ?_
        rintro e w60 ⟨rfl, b60⟩
        dsimp only
        replace hp := blk_u hp b60
        replace ha3 := blk_u ha3 b60
        replace ha4 := blk_u ha4 b60
        replace ha5 := blk_u ha5 b60
        replace ha6 := blk_u ha6 b60
        replace hk15 := blk_u hk15 b60
        replace hk17 := blk_u hk17 b60
        replace pb := pb.below b60
        replace p7 := p7.below b60
        replace tb := tb.below b60
        replace tbw := own_under tbw b60
        replace mk := mk.below b60
        replace lz_tb := Nat.le_trans lz_tb b60.size
        replace bel := bel.trans (b60.mono bel.size)
        clear b60
        refine hK.out _ _ trivial (fun hH61 => ?_)
        clear hK K
        refine wpAnyH_ready (rs := [3, 7]) (by kernel_rfl) (by simp) ?_
        refine AllReadyH.cons (o := _) rfl (fun K hK => ?_) (AllReadyH.cons (o := _) rfl (fun K hK => ?_) AllReadyH.nil)
        · simp only [List.getElem_toArray, List.getElem_cons_zero, List.getElem_cons_succ]
          go_simp
          with_reducible refine (kput_er 0 0 _ _ _ _ 2 _ mk (by omega) k7_7).mono ?_
          rintro e w62 ⟨f07, f17, f27, f37, f47, f57, j07, j17, j27, j37, j47, j57, j67, j77, Ao7, no7, co7, Ab7, nb7, cb7, rfl, b62⟩
          dsimp only
          replace hp := blk_u hp b62
          replace ha3 := blk_u ha3 b62
          replace ha4 := blk_u ha4 b62
          replace ha5 := blk_u ha5 b62
          replace ha6 := blk_u ha6 b62
          replace hk15 := blk_u hk15 b62
          replace hk17 := blk_u hk17 b62
          replace pb := pb.below b62
          replace p7 := p7.below b62
          replace tb := tb.below b62
          replace tbw := own_under tbw b62
          replace mk := mk.below b62
          replace lz_tb := Nat.le_trans lz_tb b62.size
          replace bel := bel.trans (b62.mono bel.size)
          clear b62
          clear mk
          refine hK.out _ _ trivial (fun hH63 => ?_)
          clear hK K
          refine wpAnyH_take (i := 4) (v := ?_) rfl (by kernel_rfl) (by kernel_rfl) (by kernel_rfl) (fun _ _ _ h => h) (Or.inl ⟨by rfl, ?_⟩) hH63 ?_
          rotate_left
          · ((intro W hW; clear hW; go_simp) <;> with_reducible rfl)
          simp only [Act.put, List.getElem_toArray, List.getElem_cons_zero, List.getElem_cons_succ, List.setIfInBounds_toArray, List.set_cons_zero, List.set_cons_succ]
          refine wpAnyH_take (i := 5) (v := ?_) rfl (by kernel_rfl) (by kernel_rfl) (by kernel_rfl) (fun _ _ _ h => h) (Or.inl ⟨by rfl, ?_⟩) hH63 ?_
          rotate_left
          · ((intro W hW; clear hW; go_simp) <;> with_reducible rfl)
          simp only [Act.put, List.getElem_toArray, List.getElem_cons_zero, List.getElem_cons_succ, List.setIfInBounds_toArray, List.set_cons_zero, List.set_cons_succ]
          refine wpAnyH_take (i := 6) (v := ?_) rfl (by kernel_rfl) (by kernel_rfl) (by kernel_rfl) (fun _ _ _ h => h) (Or.inl ⟨by rfl, ?_⟩) hH63 ?_
          rotate_left
          · ((intro W hW; clear hW; go_simp) <;> with_reducible rfl)
          simp only [Act.put, List.getElem_toArray, List.getElem_cons_zero, List.getElem_cons_succ, List.setIfInBounds_toArray, List.set_cons_zero, List.set_cons_succ]
          refine wpAnyH_ready (rs := [7]) (by kernel_rfl) (by simp) ?_
          refine AllReadyH.cons (o := _) rfl (fun K hK => ?_) AllReadyH.nil
          simp only [List.getElem_toArray, List.getElem_cons_zero, List.getElem_cons_succ]
          rw [if_pos (by rfl)]
          refine wp_new_a 27 rfl #[.int .i64 0, .int .i64 0, .int .i64 0, .int .i64 0, .int .i64 0, .int .i64 0, .int .u8 0, .int .u8 0, .int .u8 0, .int .u8 0, .int .u8 0, .int .u8 0, .int .u8 0, .int .u8 0, .slice none 0 0, .slice none 0 0] (by kernel_rfl) ?_
          intro g19 w64 ge hh bb
          have d_p_k19 := ne_new (hlt hp) ge
          have d_a3_k19 := ne_new (hlt ha3) ge
          have d_a4_k19 := ne_new (hlt ha4) ge
          have d_a5_k19 := ne_new (hlt ha5) ge
          have d_a6_k19 := ne_new (hlt ha6) ge
          have d_k15_k19 := ne_new (hlt hk15) ge
          have d_k17_k19 := ne_new (hlt hk17) ge
          have av_pb_k19 := pb.av_new ge
          have av_p7_k19 := p7.av_new ge
          have av_tb_k19 := tb.av_new ge
          have of_tb_k19 := own_new tbw ge
          have ok19 := Nat.le_trans bel.size ge
          replace hp := blk_u hp bb
          replace ha3 := blk_u ha3 bb
          replace ha4 := blk_u ha4 bb
          replace ha5 := blk_u ha5 bb
          replace ha6 := blk_u ha6 bb
          replace hk15 := blk_u hk15 bb
          replace hk17 := blk_u hk17 bb
          replace pb := pb.below bb
          replace p7 := p7.below bb
          replace tb := tb.below bb
          replace tbw := own_under tbw bb
          replace lz_tb := Nat.le_trans lz_tb bb.size
          replace bel := bel.trans (bb.mono bel.size)
          have hk19 := hh
          clear hh ge bb
          refine hK.out _ _ trivial (fun hH65 => ?_)
          clear hK K
          simp only [Act.put, List.setIfInBounds_toArray, List.set_cons_zero, List.set_cons_succ]
          refine wpAnyH_ready (rs := [8]) (by kernel_rfl) (by simp) ?_
          refine AllReadyH.cons (o := _) rfl (fun K hK => ?_) AllReadyH.nil
          simp only [List.getElem_toArray, List.getElem_cons_zero, List.getElem_cons_succ]
          rw [if_pos (by rfl)]
          refine wp_store_blk 27 (.tmp 19) (.tmp 91) rfl g19 rfl _ rfl _ 27 hk19 (by rfl) (by kernel_rfl) (by kernel_rfl) ?_
          intro w66 hq gr
          replace pb := pb.away av_pb_k19 gr
          replace p7 := p7.away av_p7_k19 gr
          replace tb := tb.away av_tb_k19 gr
          replace tbw := own_off tbw of_tb_k19 gr
          replace lz_tb := Nat.le_trans lz_tb gr.size
          replace hp := blk_a hp gr d_p_k19
          replace ha3 := blk_a ha3 gr d_a3_k19
          replace ha4 := blk_a ha4 gr d_a4_k19
          replace ha5 := blk_a ha5 gr d_a5_k19
          replace ha6 := blk_a ha6 gr d_a6_k19
          replace hk15 := blk_a hk15 gr d_k15_k19
          replace hk17 := blk_a hk17 gr d_k17_k19
          replace bel := below_grown bel gr ok19 bel.size
          clear hk19
          have hk19 := hq
          clear hq gr
          refine hK.out _ _ trivial (fun hH67 => ?_)
          clear hK K
          simp only [Act.put]
          refine wpAnyH_take (i := 9) (v := ?_) rfl (by kernel_rfl) (by kernel_rfl) (by kernel_rfl) (fun _ _ _ h => h) (Or.inl ⟨by rfl, ?_⟩) hH67 ?_
          rotate_left
          · ((intro W hW; clear hW; go_simp) <;> with_reducible rfl)
          simp only [Act.put, List.getElem_toArray, List.getElem_cons_zero, List.getElem_cons_succ, List.setIfInBounds_toArray, List.set_cons_zero, List.set_cons_succ]
          refine wpAnyH_done (by kernel_rfl) ?_ _
          go_wp2_with fail
          go_meet
          case rel => exact ⟨g19, f07, f17, f27, f37, f47, f57, j07, j17, j27, j37, j47, j57, j67, j77, Ao7, no7, co7, Ab7, nb7, cb7, rfl, hp, ha3, ha4, ha5, ha6, hk15, hk17, hk19, ok19, d_a3_a4, d_a3_a5, d_a3_a6, d_a3_k15, d_a3_k17, d_a3_k19, d_a3_p, d_a4_a5, d_a4_a6, d_a4_k15, d_a4_k17, d_a4_k19, d_a4_p, d_a5_a6, d_a5_k15, d_a5_k17, d_a5_k19, d_a5_p, d_a6_k15, d_a6_k17, d_a6_k19, d_a6_p, d_k15_k17, d_k15_k19, (ne_symm d_p_k15), d_k17_k19, (ne_symm d_p_k17), (ne_symm d_p_k19), pb, av_pb_a3, av_pb_a4, av_pb_a5, av_pb_a6, av_pb_k15, av_pb_k17, av_pb_k19, av_pb_p, p7, av_p7_a3, av_p7_a4, av_p7_a5, av_p7_a6, av_p7_k15, av_p7_k17, av_p7_k19, av_p7_p, tb, av_tb_a3, av_tb_a4, av_tb_a5, av_tb_a6, av_tb_k15, av_tb_k17, av_tb_k19, av_tb_p, bel⟩
        · simp only [List.getElem_toArray, List.getElem_cons_zero, List.getElem_cons_succ]
          rw [if_pos (by rfl)]
          refine wp_new_a 27 rfl #[.int .i64 0, .int .i64 0, .int .i64 0, .int .i64 0, .int .i64 0, .int .i64 0, .int .u8 0, .int .u8 0, .int .u8 0, .int .u8 0, .int .u8 0, .int .u8 0, .int .u8 0, .int .u8 0, .slice none 0 0, .slice none 0 0] (by kernel_rfl) ?_
          intro g19 w62 ge hh bb
          have d_p_k19 := ne_new (hlt hp) ge
          have d_a3_k19 := ne_new (hlt ha3) ge
          have d_a4_k19 := ne_new (hlt ha4) ge
          have d_a5_k19 := ne_new (hlt ha5) ge
          have d_a6_k19 := ne_new (hlt ha6) ge
          have d_k15_k19 := ne_new (hlt hk15) ge
          have d_k17_k19 := ne_new (hlt hk17) ge
          have av_pb_k19 := pb.av_new ge
          have av_p7_k19 := p7.av_new ge
          have av_tb_k19 := tb.av_new ge
          have of_tb_k19 := own_new tbw ge
          have av_mk_k19 := mk.av_new ge
          have ok19 := Nat.le_trans bel.size ge
          replace hp := blk_u hp bb
          replace ha3 := blk_u ha3 bb
          replace ha4 := blk_u ha4 bb
          replace ha5 := blk_u ha5 bb
          replace ha6 := blk_u ha6 bb
          replace hk15 := blk_u hk15 bb
          replace hk17 := blk_u hk17 bb
          replace pb := pb.below bb
          replace p7 := p7.below bb
          replace tb := tb.below bb
          replace tbw := own_under tbw bb
          replace mk := mk.below bb
          replace lz_tb := Nat.le_trans lz_tb bb.size
          replace bel := bel.trans (bb.mono bel.size)
          have hk19 := hh
          clear hh ge bb
          refine hK.out _ _ trivial (fun hH63 => ?_)
          clear hK K
          simp only [Act.put, List.setIfInBounds_toArray, List.set_cons_zero, List.set_cons_succ]
          refine wpAnyH_ready (rs := [3]) (by kernel_rfl) (by simp) ?_
          refine AllReadyH.cons (o := _) rfl (fun K hK => ?_) AllReadyH.nil
          simp only [List.getElem_toArray, List.getElem_cons_zero, List.getElem_cons_succ]
          go_simp
          with_reducible refine (kput_er 0 0 _ _ _ _ 2 _ mk (by omega) k7_7).mono ?_
          rintro e w64 ⟨f07, f17, f27, f37, f47, f57, j07, j17, j27, j37, j47, j57, j67, j77, Ao7, no7, co7, Ab7, nb7, cb7, rfl, b64⟩
          dsimp only
          replace hp := blk_u hp b64
          replace ha3 := blk_u ha3 b64
          replace ha4 := blk_u ha4 b64
          replace ha5 := blk_u ha5 b64
          replace ha6 := blk_u ha6 b64
          replace hk15 := blk_u hk15 b64
          replace hk17 := blk_u hk17 b64
          replace hk19 := blk_u hk19 b64
          replace pb := pb.below b64
          replace p7 := p7.below b64
          replace tb := tb.below b64
          replace tbw := own_under tbw b64
          replace mk := mk.below b64
          replace lz_tb := Nat.le_trans lz_tb b64.size
          replace bel := bel.trans (b64.mono bel.size)
          clear b64
          clear mk
          refine hK.out _ _ trivial (fun hH65 => ?_)
          clear hK K
          refine wpAnyH_take (i := 4) (v := ?_) rfl (by kernel_rfl) (by kernel_rfl) (by kernel_rfl) (fun _ _ _ h => h) (Or.inl ⟨by rfl, ?_⟩) hH65 ?_
          rotate_left
          · ((intro W hW; clear hW; go_simp) <;> with_reducible rfl)
          simp only [Act.put, List.getElem_toArray, List.getElem_cons_zero, List.getElem_cons_succ, List.setIfInBounds_toArray, List.set_cons_zero, List.set_cons_succ]
          refine wpAnyH_take (i := 5) (v := ?_) rfl (by kernel_rfl) (by kernel_rfl) (by kernel_rfl) (fun _ _ _ h => h) (Or.inl ⟨by rfl, ?_⟩) hH65 ?_
          rotate_left
          · ((intro W hW; clear hW; go_simp) <;> with_reducible rfl)
          simp only [Act.put, List.getElem_toArray, List.getElem_cons_zero, List.getElem_cons_succ, List.setIfInBounds_toArray, List.set_cons_zero, List.set_cons_succ]
          refine wpAnyH_take (i := 6) (v := ?_) rfl (by kernel_rfl) (by kernel_rfl) (by kernel_rfl) (fun _ _ _ h => h) (Or.inl ⟨by rfl, ?_⟩) hH65 ?_
          rotate_left
          · ((intro W hW; clear hW; go_simp) <;> with_reducible rfl)
          simp only [Act.put, List.getElem_toArray, List.getElem_cons_zero, List.getElem_cons_succ, List.setIfInBounds_toArray, List.set_cons_zero, List.set_cons_succ]
          refine wpAnyH_ready (rs := [8]) (by kernel_rfl) (by simp) ?_
          refine AllReadyH.cons (o := _) rfl (fun K hK => ?_) AllReadyH.nil
          simp only [List.getElem_toArray, List.getElem_cons_zero, List.getElem_cons_succ]
          rw [if_pos (by rfl)]
          refine wp_store_blk 27 (.tmp 19) (.tmp 91) rfl g19 rfl _ rfl _ 27 hk19 (by rfl) (by kernel_rfl) (by kernel_rfl) ?_
          intro w66 hq gr
          replace pb := pb.away av_pb_k19 gr
          replace p7 := p7.away av_p7_k19 gr
          replace tb := tb.away av_tb_k19 gr
          replace tbw := own_off tbw of_tb_k19 gr
          replace lz_tb := Nat.le_trans lz_tb gr.size
          replace hp := blk_a hp gr d_p_k19
          replace ha3 := blk_a ha3 gr d_a3_k19
          replace ha4 := blk_a ha4 gr d_a4_k19
          replace ha5 := blk_a ha5 gr d_a5_k19
          replace ha6 := blk_a ha6 gr d_a6_k19
          replace hk15 := blk_a hk15 gr d_k15_k19
          replace hk17 := blk_a hk17 gr d_k17_k19
          replace bel := below_grown bel gr ok19 bel.size
          clear hk19
          have hk19 := hq
          clear hq gr
          refine hK.out _ _ trivial (fun hH67 => ?_)
          clear hK K
          simp only [Act.put]
          refine wpAnyH_take (i := 9) (v := ?_) rfl (by kernel_rfl) (by kernel_rfl) (by kernel_rfl) (fun _ _ _ h => h) (Or.inl ⟨by rfl, ?_⟩) hH67 ?_
          rotate_left
          · ((intro W hW; clear hW; go_simp) <;> with_reducible rfl)
          simp only [Act.put, List.getElem_toArray, List.getElem_cons_zero, List.getElem_cons_succ, List.setIfInBounds_toArray, List.set_cons_zero, List.set_cons_succ]
          refine wpAnyH_done (by kernel_rfl) ?_ _
          go_wp2_with fail
          go_meet
          case rel => exact ⟨g19, f07, f17, f27, f37, f47, f57, j07, j17, j27, j37, j47, j57, j67, j77, Ao7, no7, co7, Ab7, nb7, cb7, rfl, hp, ha3, ha4, ha5, ha6, hk15, hk17, hk19, ok19, d_a3_a4, d_a3_a5, d_a3_a6, d_a3_k15, d_a3_k17, d_a3_k19, d_a3_p, d_a4_a5, d_a4_a6, d_a4_k15, d_a4_k17, d_a4_k19, d_a4_p, d_a5_a6, d_a5_k15, d_a5_k17, d_a5_k19, d_a5_p, d_a6_k15, d_a6_k17, d_a6_k19, d_a6_p, d_k15_k17, d_k15_k19, (ne_symm d_p_k15), d_k17_k19, (ne_symm d_p_k17), (ne_symm d_p_k19), pb, av_pb_a3, av_pb_a4, av_pb_a5, av_pb_a6, av_pb_k15, av_pb_k17, av_pb_k19, av_pb_p, p7, av_p7_a3, av_p7_a4, av_p7_a5, av_p7_a6, av_p7_k15, av_p7_k17, av_p7_k19, av_p7_p, tb, av_tb_a3, av_tb_a4, av_tb_a5, av_tb_a6, av_tb_k15, av_tb_k17, av_tb_k19, av_tb_p, bel⟩
      · simp only [List.getElem_toArray, List.getElem_cons_zero, List.getElem_cons_succ]
        rw [if_pos (by rfl)]
        refine wp_new_a 27 rfl #[.int .i64 0, .int .i64 0, .int .i64 0, .int .i64 0, .int .i64 0, .int .i64 0, .int .u8 0, .int .u8 0, .int .u8 0, .int .u8 0, .int .u8 0, .int .u8 0, .int .u8 0, .int .u8 0, .slice none 0 0, .slice none 0 0] (by kernel_rfl) ?_
        intro g19 w60 ge hh bb
        have d_p_k19 := ne_new (hlt hp) ge
        have d_a3_k19 := ne_new (hlt ha3) ge
        have d_a4_k19 := ne_new (hlt ha4) ge
        have d_a5_k19 := ne_new (hlt ha5) ge
        have d_a6_k19 := ne_new (hlt ha6) ge
        have d_k15_k19 := ne_new (hlt hk15) ge
        have d_k17_k19 := ne_new (hlt hk17) ge
        have av_pb_k19 := pb.av_new ge
        have av_p7_k19 := p7.av_new ge
        have av_tb_k19 := tb.av_new ge
        have of_tb_k19 := own_new tbw ge
        have av_mk_k19 := mk.av_new ge
        have ok19 := Nat.le_trans bel.size ge
        replace hp := blk_u hp bb
        replace ha3 := blk_u ha3 bb
        replace ha4 := blk_u ha4 bb
        replace ha5 := blk_u ha5 bb
        replace ha6 := blk_u ha6 bb
        replace hk15 := blk_u hk15 bb
        replace hk17 := blk_u hk17 bb
        replace pb := pb.below bb
        replace p7 := p7.below bb
        replace tb := tb.below bb
        replace tbw := own_under tbw bb
        replace mk := mk.below bb
        replace lz_tb := Nat.le_trans lz_tb bb.size
        replace bel := bel.trans (bb.mono bel.size)
        have hk19 := hh
        clear hh ge bb
        refine hK.out _ _ trivial (fun hH61 => ?_)
        clear hK K
        simp only [Act.put, List.setIfInBounds_toArray, List.set_cons_zero, List.set_cons_succ]
        refine wpAnyH_ready (rs := [0]) (by kernel_rfl) (by simp) ?_
        refine AllReadyH.cons (o := _) rfl (fun K hK => ?_) AllReadyH.nil
        simp only [List.getElem_toArray, List.getElem_cons_zero]
        go_simp
        with_reducible refine (base7 _).mono ?_
        rintro e w62 ⟨rfl, b62⟩
        dsimp only
        replace hp := blk_u hp b62
        replace ha3 := blk_u ha3 b62
        replace ha4 := blk_u ha4 b62
        replace ha5 := blk_u ha5 b62
        replace ha6 := blk_u ha6 b62
        replace hk15 := blk_u hk15 b62
        replace hk17 := blk_u hk17 b62
        replace hk19 := blk_u hk19 b62
        replace pb := pb.below b62
        replace p7 := p7.below b62
        replace tb := tb.below b62
        replace tbw := own_under tbw b62
        replace mk := mk.below b62
        replace lz_tb := Nat.le_trans lz_tb b62.size
        replace bel := bel.trans (b62.mono bel.size)
        clear b62
        refine hK.out _ _ trivial (fun hH63 => ?_)
        clear hK K
        refine wpAnyH_ready (rs := [3]) (by kernel_rfl) (by simp) ?_
        refine AllReadyH.cons (o := _) rfl (fun K hK => ?_) AllReadyH.nil
        simp only [List.getElem_toArray, List.getElem_cons_zero, List.getElem_cons_succ]
        go_simp
        with_reducible refine (kput_er 0 0 _ _ _ _ 2 _ mk (by omega) k7_7).mono ?_
        rintro e w64 ⟨f07, f17, f27, f37, f47, f57, j07, j17, j27, j37, j47, j57, j67, j77, Ao7, no7, co7, Ab7, nb7, cb7, rfl, b64⟩
        dsimp only
        replace hp := blk_u hp b64
        replace ha3 := blk_u ha3 b64
        replace ha4 := blk_u ha4 b64
        replace ha5 := blk_u ha5 b64
        replace ha6 := blk_u ha6 b64
        replace hk15 := blk_u hk15 b64
        replace hk17 := blk_u hk17 b64
        replace hk19 := blk_u hk19 b64
        replace pb := pb.below b64
        replace p7 := p7.below b64
        replace tb := tb.below b64
        replace tbw := own_under tbw b64
        replace mk := mk.below b64
        replace lz_tb := Nat.le_trans lz_tb b64.size
        replace bel := bel.trans (b64.mono bel.size)
        clear b64
        clear mk
        refine hK.out _ _ trivial (fun hH65 => ?_)
        clear hK K
        refine wpAnyH_take (i := 4) (v := ?_) rfl (by kernel_rfl) (by kernel_rfl) (by kernel_rfl) (fun _ _ _ h => h) (Or.inl ⟨by rfl, ?_⟩) hH65 ?_
        rotate_left
        · ((intro W hW; clear hW; go_simp) <;> with_reducible rfl)
        simp only [Act.put, List.getElem_toArray, List.getElem_cons_zero, List.getElem_cons_succ, List.setIfInBounds_toArray, List.set_cons_zero, List.set_cons_succ]
        refine wpAnyH_take (i := 5) (v := ?_) rfl (by kernel_rfl) (by kernel_rfl) (by kernel_rfl) (fun _ _ _ h => h) (Or.inl ⟨by rfl, ?_⟩) hH65 ?_
        rotate_left
        · ((intro W hW; clear hW; go_simp) <;> with_reducible rfl)
        simp only [Act.put, List.getElem_toArray, List.getElem_cons_zero, List.getElem_cons_succ, List.setIfInBounds_toArray, List.set_cons_zero, List.set_cons_succ]
        refine wpAnyH_take (i := 6) (v := ?_) rfl (by kernel_rfl) (by kernel_rfl) (by kernel_rfl) (fun _ _ _ h => h) (Or.inl ⟨by rfl, ?_⟩) hH65 ?_
        rotate_left
        · ((intro W hW; clear hW; go_simp) <;> with_reducible rfl)
        simp only [Act.put, List.getElem_toArray, List.getElem_cons_zero, List.getElem_cons_succ, List.setIfInBounds_toArray, List.set_cons_zero, List.set_cons_succ]
        refine wpAnyH_ready (rs := [8]) (by kernel_rfl) (by simp) ?_
        refine AllReadyH.cons (o := _) rfl (fun K hK => ?_) AllReadyH.nil
        simp only [List.getElem_toArray, List.getElem_cons_zero, List.getElem_cons_succ]
        rw [if_pos (by rfl)]
        refine wp_store_blk 27 (.tmp 19) (.tmp 91) rfl g19 rfl _ rfl _ 27 hk19 (by rfl) (by kernel_rfl) (by kernel_rfl) ?_
        intro w66 hq gr
        replace pb := pb.away av_pb_k19 gr
        replace p7 := p7.away av_p7_k19 gr
        replace tb := tb.away av_tb_k19 gr
        replace tbw := own_off tbw of_tb_k19 gr
        replace lz_tb := Nat.le_trans lz_tb gr.size
        replace hp := blk_a hp gr d_p_k19
        replace ha3 := blk_a ha3 gr d_a3_k19
        replace ha4 := blk_a ha4 gr d_a4_k19
        replace ha5 := blk_a ha5 gr d_a5_k19
        replace ha6 := blk_a ha6 gr d_a6_k19
        replace hk15 := blk_a hk15 gr d_k15_k19
        replace hk17 := blk_a hk17 gr d_k17_k19
        replace bel := below_grown bel gr ok19 bel.size
        clear hk19
        have hk19 := hq
        clear hq gr
        refine hK.out _ _ trivial (fun hH67 => ?_)
        clear hK K
        simp only [Act.put]
        refine wpAnyH_take (i := 9) (v := ?_) rfl (by kernel_rfl) (by kernel_rfl) (by kernel_rfl) (fun _ _ _ h => h) (Or.inl ⟨by rfl, ?_⟩) hH67 ?_
        rotate_left
        · ((intro W hW; clear hW; go_simp) <;> with_reducible rfl)
        simp only [Act.put, List.getElem_toArray, List.getElem_cons_zero, List.getElem_cons_succ, List.setIfInBounds_toArray, List.set_cons_zero, List.set_cons_succ]
        refine wpAnyH_done (by kernel_rfl) ?_ _
        go_wp2_with fail
        go_meet
        case rel => exact ⟨g19, f07, f17, f27, f37, f47, f57, j07, j17, j27, j37, j47, j57, j67, j77, Ao7, no7, co7, Ab7, nb7, cb7, rfl, hp, ha3, ha4, ha5, ha6, hk15, hk17, hk19, ok19, d_a3_a4, d_a3_a5, d_a3_a6, d_a3_k15, d_a3_k17, d_a3_k19, d_a3_p, d_a4_a5, d_a4_a6, d_a4_k15, d_a4_k17, d_a4_k19, d_a4_p, d_a5_a6, d_a5_k15, d_a5_k17, d_a5_k19, d_a5_p, d_a6_k15, d_a6_k17, d_a6_k19, d_a6_p, d_k15_k17, d_k15_k19, (ne_symm d_p_k15), d_k17_k19, (ne_symm d_p_k17), (ne_symm d_p_k19), pb, av_pb_a3, av_pb_a4, av_pb_a5, av_pb_a6, av_pb_k15, av_pb_k17, av_pb_k19, av_pb_p, p7, av_p7_a3, av_p7_a4, av_p7_a5, av_p7_a6, av_p7_k15, av_p7_k17, av_p7_k19, av_p7_p, tb, av_tb_a3, av_tb_a4, av_tb_a5, av_tb_a6, av_tb_k15, av_tb_k17, av_tb_k19, av_tb_p, bel⟩
    · simp only [List.getElem_toArray, List.getElem_cons_zero, List.getElem_cons_succ]
      rw [if_pos (by rfl)]
      refine wp_new_a 27 rfl #[.int .i64 0, .int .i64 0, .int .i64 0, .int .i64 0, .int .i64 0, .int .i64 0, .int .u8 0, .int .u8 0, .int .u8 0, .int .u8 0, .int .u8 0, .int .u8 0, .int .u8 0, .int .u8 0, .slice none 0 0, .slice none 0 0] (by kernel_rfl) ?_
      intro g19 w58 ge hh bb
      have d_p_k19 := ne_new (hlt hp) ge
      have d_a3_k19 := ne_new (hlt ha3) ge
      have d_a4_k19 := ne_new (hlt ha4) ge
      have d_a5_k19 := ne_new (hlt ha5) ge
      have d_a6_k19 := ne_new (hlt ha6) ge
      have d_k15_k19 := ne_new (hlt hk15) ge
      have d_k17_k19 := ne_new (hlt hk17) ge
      have av_pb_k19 := pb.av_new ge
      have av_p7_k19 := p7.av_new ge
      have av_tb_k19 := tb.av_new ge
      have of_tb_k19 := own_new tbw ge
      have ok19 := Nat.le_trans bel.size ge
      replace hp := blk_u hp bb
      replace ha3 := blk_u ha3 bb
      replace ha4 := blk_u ha4 bb
      replace ha5 := blk_u ha5 bb
      replace ha6 := blk_u ha6 bb
      replace hk15 := blk_u hk15 bb
      replace hk17 := blk_u hk17 bb
      replace pb := pb.below bb
      replace p7 := p7.below bb
      replace tb := tb.below bb
      replace tbw := own_under tbw bb
      replace lz_tb := Nat.le_trans lz_tb bb.size
      replace bel := bel.trans (bb.mono bel.size)
      have hk19 := hh
      clear hh ge bb
      refine hK.out _ _ trivial (fun hH59 => ?_)
      clear hK K
      simp only [Act.put, List.setIfInBounds_toArray, List.set_cons_zero, List.set_cons_succ]
      refine wpAnyH_ready (rs := [0, 1]) (by kernel_rfl) (by simp) ?_
      refine AllReadyH.cons (o := _) rfl (fun K hK => ?_) (AllReadyH.cons (o := _) rfl (fun K hK => ?_) AllReadyH.nil)
      · simp only [List.getElem_toArray, List.getElem_cons_zero]
        go_simp
        with_reducible refine (base7 _).mono ?_
        rintro e w60 ⟨rfl, b60⟩
        dsimp only
        replace hp := blk_u hp b60
        replace ha3 := blk_u ha3 b60
        replace ha4 := blk_u ha4 b60
        replace ha5 := blk_u ha5 b60
        replace ha6 := blk_u ha6 b60
        replace hk15 := blk_u hk15 b60
        replace hk17 := blk_u hk17 b60
        replace hk19 := blk_u hk19 b60
        replace pb := pb.below b60
        replace p7 := p7.below b60
        replace tb := tb.below b60
        replace tbw := own_under tbw b60
        replace lz_tb := Nat.le_trans lz_tb b60.size
        replace bel := bel.trans (b60.mono bel.size)
        clear b60
        refine hK.out _ _ trivial (fun hH61 => ?_)
        clear hK K
        refine wpAnyH_ready (rs := [1]) (by kernel_rfl) (by simp) ?_
        refine AllReadyH.cons (o := _) rfl (fun K hK => ?_) AllReadyH.nil
        simp only [List.getElem_toArray, List.getElem_cons_zero, List.getElem_cons_succ]
        rw [if_pos (by rfl)]
        refine wp_make_g (.const (.int .i64 1473)) (.const (.int .i64 1473)) 25 rfl 5 ii Try.underlying25 hii hz0 hz1 hz2 .i64 .i64 _ _ (1473) rfl rfl rfl rfl (by omega) ?_
        intro g88 w62 ge sm bb
        replace hp := blk_u hp bb
        replace ha3 := blk_u ha3 bb
        replace ha4 := blk_u ha4 bb
        replace ha5 := blk_u ha5 bb
        replace ha6 := blk_u ha6 bb
        replace hk15 := blk_u hk15 bb
        replace hk17 := blk_u hk17 bb
        replace hk19 := blk_u hk19 bb
        replace pb := pb.below bb
        replace p7 := p7.below bb
        replace tb := tb.below bb
        replace tbw := own_under tbw bb
        replace lz_tb := Nat.le_trans lz_tb bb.size
        replace bel := bel.trans (bb.mono bel.size)
        have mk := sm
        clear sm ge bb
        refine hK.out _ _ trivial (fun hH63 => ?_)
        clear hK K
        simp only [Act.put, List.setIfInBounds_toArray, List.set_cons_zero, List.set_cons_succ]
        refine wpAnyH_take (i := 2) (v := ?_) rfl (by kernel_rfl) (by kernel_rfl) (by kernel_rfl) (fun _ _ _ h => h) (Or.inl ⟨by rfl, ?_⟩) hH63 ?_
        rotate_left
        · ((intro W hW; clear hW; go_simp) <;> with_reducible rfl)
        simp only [Act.put, List.getElem_toArray, List.getElem_cons_zero, List.getElem_cons_succ, List.setIfInBounds_toArray, List.set_cons_zero, List.set_cons_succ]
        refine wpAnyH_ready (rs := [3]) (by kernel_rfl) (by simp) ?_
        refine AllReadyH.cons (o := _) rfl (fun K hK => ?_) AllReadyH.nil
        simp only [List.getElem_toArray, List.getElem_cons_zero, List.getElem_cons_succ]
        go_simp
        with_reducible refine (kput_er 0 0 _ _ _ _ 2 _ mk (by omega) k7_7).mono ?_
        rintro e w64 ⟨f07, f17, f27, f37, f47, f57, j07, j17, j27, j37, j47, j57, j67, j77, Ao7, no7, co7, Ab7, nb7, cb7, rfl, b64⟩
        dsimp only
        replace hp := blk_u hp b64
        replace ha3 := blk_u ha3 b64
        replace ha4 := blk_u ha4 b64
        replace ha5 := blk_u ha5 b64
        replace ha6 := blk_u ha6 b64
        replace hk15 := blk_u hk15 b64
        replace hk17 := blk_u hk17 b64
        replace hk19 := blk_u hk19 b64
        replace pb := pb.below b64
        replace p7 := p7.below b64
        replace tb := tb.below b64
        replace tbw := own_under tbw b64
        replace mk := mk.below b64
        replace lz_tb := Nat.le_trans lz_tb b64.size
        replace bel := bel.trans (b64.mono bel.size)
        clear b64
        clear mk
        refine hK.out _ _ trivial (fun hH65 => ?_)
        clear hK K
        refine wpAnyH_take (i := 4) (v := ?_) rfl (by kernel_rfl) (by kernel_rfl) (by kernel_rfl) (fun _ _ _ h => h) (Or.inl ⟨by rfl, ?_⟩) hH65 ?_
        rotate_left
        · ((intro W hW; clear hW; go_simp) <;> with_reducible rfl)
        simp only [Act.put, List.getElem_toArray, List.getElem_cons_zero, List.getElem_cons_succ, List.setIfInBounds_toArray, List.set_cons_zero, List.set_cons_succ]
        refine wpAnyH_take (i := 5) (v := ?_) rfl (by kernel_rfl) (by kernel_rfl) (by kernel_rfl) (fun _ _ _ h => h) (Or.inl ⟨by rfl, ?_⟩) hH65 ?_
        rotate_left
        · ((intro W hW; clear hW; go_simp) <;> with_reducible rfl)
        simp only [Act.put, List.getElem_toArray, List.getElem_cons_zero, List.getElem_cons_succ, List.setIfInBounds_toArray, List.set_cons_zero, List.set_cons_succ]
        refine wpAnyH_take (i := 6) (v := ?_) rfl (by kernel_rfl) (by kernel_rfl) (by kernel_rfl) (fun _ _ _ h => h) (Or.inl ⟨by rfl, ?_⟩) hH65 ?_
        rotate_left
        · ((intro W hW; clear hW; go_simp) <;> with_reducible rfl)
        simp only [Act.put, List.getElem_toArray, List.getElem_cons_zero, List.getElem_cons_succ, List.setIfInBounds_toArray, List.set_cons_zero, List.set_cons_succ]
        refine wpAnyH_ready (rs := [8]) (by kernel_rfl) (by simp) ?_
        refine AllReadyH.cons (o := _) rfl (fun K hK => ?_) AllReadyH.nil
        simp only [List.getElem_toArray, List.getElem_cons_zero, List.getElem_cons_succ]
        rw [if_pos (by rfl)]
        refine wp_store_blk 27 (.tmp 19) (.tmp 91) rfl g19 rfl _ rfl _ 27 hk19 (by rfl) (by kernel_rfl) (by kernel_rfl) ?_
        intro w66 hq gr
        replace pb := pb.away av_pb_k19 gr
        replace p7 := p7.away av_p7_k19 gr
        replace tb := tb.away av_tb_k19 gr
        replace tbw := own_off tbw of_tb_k19 gr
        replace lz_tb := Nat.le_trans lz_tb gr.size
        replace hp := blk_a hp gr d_p_k19
        replace ha3 := blk_a ha3 gr d_a3_k19
        replace ha4 := blk_a ha4 gr d_a4_k19
        replace ha5 := blk_a ha5 gr d_a5_k19
        replace ha6 := blk_a ha6 gr d_a6_k19
        replace hk15 := blk_a hk15 gr d_k15_k19
        replace hk17 := blk_a hk17 gr d_k17_k19
        replace bel := below_grown bel gr ok19 bel.size
        clear hk19
        have hk19 := hq
        clear hq gr
        refine hK.out _ _ trivial (fun hH67 => ?_)
        clear hK K
        simp only [Act.put]
        refine wpAnyH_take (i := 9) (v := ?_) rfl (by kernel_rfl) (by kernel_rfl) (by kernel_rfl) (fun _ _ _ h => h) (Or.inl ⟨by rfl, ?_⟩) hH67 ?_
        rotate_left
        · ((intro W hW; clear hW; go_simp) <;> with_reducible rfl)
        simp only [Act.put, List.getElem_toArray, List.getElem_cons_zero, List.getElem_cons_succ, List.setIfInBounds_toArray, List.set_cons_zero, List.set_cons_succ]
        refine wpAnyH_done (by kernel_rfl) ?_ _
        go_wp2_with fail
        go_meet
        case rel => exact ⟨g19, f07, f17, f27, f37, f47, f57, j07, j17, j27, j37, j47, j57, j67, j77, Ao7, no7, co7, Ab7, nb7, cb7, rfl, hp, ha3, ha4, ha5, ha6, hk15, hk17, hk19, ok19, d_a3_a4, d_a3_a5, d_a3_a6, d_a3_k15, d_a3_k17, d_a3_k19, d_a3_p, d_a4_a5, d_a4_a6, d_a4_k15, d_a4_k17, d_a4_k19, d_a4_p, d_a5_a6, d_a5_k15, d_a5_k17, d_a5_k19, d_a5_p, d_a6_k15, d_a6_k17, d_a6_k19, d_a6_p, d_k15_k17, d_k15_k19, (ne_symm d_p_k15), d_k17_k19, (ne_symm d_p_k17), (ne_symm d_p_k19), pb, av_pb_a3, av_pb_a4, av_pb_a5, av_pb_a6, av_pb_k15, av_pb_k17, av_pb_k19, av_pb_p, p7, av_p7_a3, av_p7_a4, av_p7_a5, av_p7_a6, av_p7_k15, av_p7_k17, av_p7_k19, av_p7_p, tb, av_tb_a3, av_tb_a4, av_tb_a5, av_tb_a6, av_tb_k15, av_tb_k17, av_tb_k19, av_tb_p, bel⟩
      · simp only [List.getElem_toArray, List.getElem_cons_zero, List.getElem_cons_succ]
        rw [if_pos (by rfl)]
        refine wp_make_g (.const (.int .i64 1473)) (.const (.int .i64 1473)) 25 rfl 5 ii Try.underlying25 hii hz0 hz1 hz2 .i64 .i64 _ _ (1473) rfl rfl rfl rfl (by omega) ?_
        intro g88 w60 ge sm bb
        replace hp := blk_u hp bb
        replace ha3 := blk_u ha3 bb
        replace ha4 := blk_u ha4 bb
        replace ha5 := blk_u ha5 bb
        replace ha6 := blk_u ha6 bb
        replace hk15 := blk_u hk15 bb
        replace hk17 := blk_u hk17 bb
        replace hk19 := blk_u hk19 bb
        replace pb := pb.below bb
        replace p7 := p7.below bb
        replace tb := tb.below bb
        replace tbw := own_under tbw bb
        replace lz_tb := Nat.le_trans lz_tb bb.size
        replace bel := bel.trans (bb.mono bel.size)
        have mk := sm
        clear sm ge bb
        refine hK.out _ _ trivial (fun hH61 => ?_)
        clear hK K
        simp only [Act.put, List.setIfInBounds_toArray, List.set_cons_zero, List.set_cons_succ]
        refine wpAnyH_take (i := 2) (v := ?_) rfl (by kernel_rfl) (by kernel_rfl) (by kernel_rfl) (fun _ _ _ h => h) (Or.inl ⟨by rfl, ?_⟩) hH61 ?_
        rotate_left
        · ((intro W hW; clear hW; go_simp) <;> with_reducible rfl)
        simp only [Act.put, List.getElem_toArray, List.getElem_cons_zero, List.getElem_cons_succ, List.setIfInBounds_toArray, List.set_cons_zero, List.set_cons_succ]
        refine wpAnyH_ready (rs := [0]) (by kernel_rfl) (by simp) ?_
        refine AllReadyH.cons (o := _) rfl (fun K hK => ?_) AllReadyH.nil
        simp only [List.getElem_toArray, List.getElem_cons_zero]
        go_simp
        with_reducible refine (base7 _).mono ?_
        rintro e w62 ⟨rfl, b62⟩
        dsimp only
        replace hp := blk_u hp b62
        replace ha3 := blk_u ha3 b62
        replace ha4 := blk_u ha4 b62
        replace ha5 := blk_u ha5 b62
        replace ha6 := blk_u ha6 b62
        replace hk15 := blk_u hk15 b62
        replace hk17 := blk_u hk17 b62
        replace hk19 := blk_u hk19 b62
        replace pb := pb.below b62
        replace p7 := p7.below b62
        replace tb := tb.below b62
        replace tbw := own_under tbw b62
        replace mk := mk.below b62
        replace lz_tb := Nat.le_trans lz_tb b62.size
        replace bel := bel.trans (b62.mono bel.size)
        clear b62
        refine hK.out _ _ trivial (fun hH63 => ?_)
        clear hK K
        refine wpAnyH_ready (rs := [3]) (by kernel_rfl) (by simp) ?_
        refine AllReadyH.cons (o := _) rfl (fun K hK => ?_) AllReadyH.nil
        simp only [List.getElem_toArray, List.getElem_cons_zero, List.getElem_cons_succ]
        go_simp
        with_reducible refine (kput_er 0 0 _ _ _ _ 2 _ mk (by omega) k7_7).mono ?_
        rintro e w64 ⟨f07, f17, f27, f37, f47, f57, j07, j17, j27, j37, j47, j57, j67, j77, Ao7, no7, co7, Ab7, nb7, cb7, rfl, b64⟩
        dsimp only
        replace hp := blk_u hp b64
        replace ha3 := blk_u ha3 b64
        replace ha4 := blk_u ha4 b64
        replace ha5 := blk_u ha5 b64
        replace ha6 := blk_u ha6 b64
        replace hk15 := blk_u hk15 b64
        replace hk17 := blk_u hk17 b64
        replace hk19 := blk_u hk19 b64
        replace pb := pb.below b64
        replace p7 := p7.below b64
        replace tb := tb.below b64
        replace tbw := own_under tbw b64
        replace mk := mk.below b64
        replace lz_tb := Nat.le_trans lz_tb b64.size
        replace bel := bel.trans (b64.mono bel.size)
        clear b64
        clear mk
        refine hK.out _ _ trivial (fun hH65 => ?_)
        clear hK K
        refine wpAnyH_take (i := 4) (v := ?_) rfl (by kernel_rfl) (by kernel_rfl) (by kernel_rfl) (fun _ _ _ h => h) (Or.inl ⟨by rfl, ?_⟩) hH65 ?_
        rotate_left
        · ((intro W hW; clear hW; go_simp) <;> with_reducible rfl)
        simp only [Act.put, List.getElem_toArray, List.getElem_cons_zero, List.getElem_cons_succ, List.setIfInBounds_toArray, List.set_cons_zero, List.set_cons_succ]
        refine wpAnyH_take (i := 5) (v := ?_) rfl (by kernel_rfl) (by kernel_rfl) (by kernel_rfl) (fun _ _ _ h => h) (Or.inl ⟨by rfl, ?_⟩) hH65 ?_
        rotate_left
        · ((intro W hW; clear hW; go_simp) <;> with_reducible rfl)
        simp only [Act.put, List.getElem_toArray, List.getElem_cons_zero, List.getElem_cons_succ, List.setIfInBounds_toArray, List.set_cons_zero, List.set_cons_succ]
        refine wpAnyH_take (i := 6) (v := ?_) rfl (by kernel_rfl) (by kernel_rfl) (by kernel_rfl) (fun _ _ _ h => h) (Or.inl ⟨by rfl, ?_⟩) hH65 ?_
        rotate_left
        · ((intro W hW; clear hW; go_simp) <;> with_reducible rfl)
        simp only [Act.put, List.getElem_toArray, List.getElem_cons_zero, List.getElem_cons_succ, List.setIfInBounds_toArray, List.set_cons_zero, List.set_cons_succ]
        refine wpAnyH_ready (rs := [8]) (by kernel_rfl) (by simp) ?_
        refine AllReadyH.cons (o := _) rfl (fun K hK => ?_) AllReadyH.nil
        simp only [List.getElem_toArray, List.getElem_cons_zero, List.getElem_cons_succ]
        rw [if_pos (by rfl)]
        refine wp_store_blk 27 (.tmp 19) (.tmp 91) rfl g19 rfl _ rfl _ 27 hk19 (by rfl) (by kernel_rfl) (by kernel_rfl) ?_
        intro w66 hq gr
        replace pb := pb.away av_pb_k19 gr
        replace p7 := p7.away av_p7_k19 gr
        replace tb := tb.away av_tb_k19 gr
        replace tbw := own_off tbw of_tb_k19 gr
        replace lz_tb := Nat.le_trans lz_tb gr.size
        replace hp := blk_a hp gr d_p_k19
        replace ha3 := blk_a ha3 gr d_a3_k19
        replace ha4 := blk_a ha4 gr d_a4_k19
        replace ha5 := blk_a ha5 gr d_a5_k19
        replace ha6 := blk_a ha6 gr d_a6_k19
        replace hk15 := blk_a hk15 gr d_k15_k19
        replace hk17 := blk_a hk17 gr d_k17_k19
        replace bel := below_grown bel gr ok19 bel.size
        clear hk19
        have hk19 := hq
        clear hq gr
        refine hK.out _ _ trivial (fun hH67 => ?_)
        clear hK K
        simp only [Act.put]
        refine wpAnyH_take (i := 9) (v := ?_) rfl (by kernel_rfl) (by kernel_rfl) (by kernel_rfl) (fun _ _ _ h => h) (Or.inl ⟨by rfl, ?_⟩) hH67 ?_
        rotate_left
        · ((intro W hW; clear hW; go_simp) <;> with_reducible rfl)
        simp only [Act.put, List.getElem_toArray, List.getElem_cons_zero, List.getElem_cons_succ, List.setIfInBounds_toArray, List.set_cons_zero, List.set_cons_succ]
        refine wpAnyH_done (by kernel_rfl) ?_ _
        go_wp2_with fail
        go_meet
        case rel => exact ⟨g19, f07, f17, f27, f37, f47, f57, j07, j17, j27, j37, j47, j57, j67, j77, Ao7, no7, co7, Ab7, nb7, cb7, rfl, hp, ha3, ha4, ha5, ha6, hk15, hk17, hk19, ok19, d_a3_a4, d_a3_a5, d_a3_a6, d_a3_k15, d_a3_k17, d_a3_k19, d_a3_p, d_a4_a5, d_a4_a6, d_a4_k15, d_a4_k17, d_a4_k19, d_a4_p, d_a5_a6, d_a5_k15, d_a5_k17, d_a5_k19, d_a5_p, d_a6_k15, d_a6_k17, d_a6_k19, d_a6_p, d_k15_k17, d_k15_k19, (ne_symm d_p_k15), d_k17_k19, (ne_symm d_p_k17), (ne_symm d_p_k19), pb, av_pb_a3, av_pb_a4, av_pb_a5, av_pb_a6, av_pb_k15, av_pb_k17, av_pb_k19, av_pb_p, p7, av_p7_a3, av_p7_a4, av_p7_a5, av_p7_a6, av_p7_k15, av_p7_k17, av_p7_k19, av_p7_p, tb, av_tb_a3, av_tb_a4, av_tb_a5, av_tb_a6, av_tb_k15, av_tb_k17, av_tb_k19, av_tb_p, bel⟩
  obtain ⟨w68, hw_⟩ : ∃ x, x = wc := ⟨_, rfl⟩
  subst hw_
  obtain ⟨g19, f07, f17, f27, f37, f47, f57, j07, j17, j27, j37, j47, j57, j67, j77, Ao7, no7, co7, Ab7, nb7, cb7, rfl, hp, ha3, ha4, ha5, ha6, hk15, hk17, hk19, ok19, d_a3_a4, d_a3_a5, d_a3_a6, d_a3_k15, d_a3_k17, d_a3_k19, d_a3_p, d_a4_a5, d_a4_a6, d_a4_k15, d_a4_k17, d_a4_k19, d_a4_p, d_a5_a6, d_a5_k15, d_a5_k17, d_a5_k19, d_a5_p, d_a6_k15, d_a6_k17, d_a6_k19, d_a6_p, d_k15_k17, d_k15_k19, d_k15_p, d_k17_k19, d_k17_p, d_k19_p, pb, av_pb_a3, av_pb_a4, av_pb_a5, av_pb_a6, av_pb_k15, av_pb_k17, av_pb_k19, av_pb_p, p7, av_p7_a3, av_p7_a4, av_p7_a5, av_p7_a6, av_p7_k15, av_p7_k17, av_p7_k19, av_p7_p, tb, av_tb_a3, av_tb_a4, av_tb_a5, av_tb_a6, av_tb_k15, av_tb_k17, av_tb_k19, av_tb_p, bel⟩ := hcut
  go_wp2_with fail
  go_ret
  exact ⟨rfl, bel⟩
end Go.Proofs.Ythikedajhocdkaa
