/- Layer 8: TcpKnown. -/
import Derived.Test.YtkmihoijnjdbnaaLaw8b
import Derived.Test.YtkmihoijnjdbnaaMak
import Derived.Test.YtkmihoijnjdbnaaVfs
import Derived.Deep.CutRange
namespace Go.Proofs.Ytkmihoijnjdbnaa
open Go.RowKit

abbrev pb8 : List UInt8 := tcBytes 10 0 0 1 10 0 0 2 0 0 0 0 0 0 0 [] []
theorem k8_1 : tcErr 1 0 6 10 0 0 1 10 0 0 2 pb8 = 10 := by decide +kernel
theorem k8_2 : tcErr 0 0 6 10 0 0 1 10 0 0 2 (pb8.take 19) = 3 := by decide +kernel
theorem k8_3 : tcErr 0 0 6 10 0 0 1 10 0 0 2 (pb8.set 0 1) = 5 := by decide +kernel
theorem k8_4 : tcErr 0 0 6 10 0 0 1 10 0 0 2 ((pb8.set 0 1).set 12 64) = 4 := by decide +kernel
theorem k8_5 : (tcPut 0 0 0 0 64 10 0 0 1 10 0 0 2 [] 0 0 0 0 64 0 0 [] []).2.2 = 1 := by decide +kernel
theorem k8_6 : (tcPut 0 0 0 0 64 10 0 0 1 10 0 0 2 [] 0 0 0 0 0 0 0 (List.replicate 44 0) []).2.2 = 1 := by
  unfold tcPut
  rw [if_pos (by rw [List.length_replicate]; decide)]
  rfl
theorem k8_7 : (tcPut 0 0 0 0 64 10 0 0 1 10 0 0 2 [] 0 0 0 0 0 0 0 [] (List.replicate 1461 0)).2.2 = 2 := by
  unfold tcPut
  rw [if_neg (by decide), if_pos (by rw [List.length_replicate]; decide)]
  rfl
set_option maxRecDepth 100000 in
set_option maxHeartbeats 16000000 in
theorem tcpKnown_walk (w : World) : Calls Try.prog 3 #[] w fun e w' => e = .returned (.bool true) ∧ Below w.heap.size w w' := by
  obtain ⟨ii, hii, hz0, hz1, hz2⟩ := info_parts Try.info5
  have bel := Below.refl w.heap.size w
  go_enter Try.func3, Try.ntmps3
  go_wp2_with fail
  with_reducible refine (awake8 _).mono ?_
  rintro e w1 ⟨rfl, b1⟩
  replace bel := bel.trans (b1.mono bel.size)
  clear b1
  go_wp2_with fail
  with_reducible refine (base8 _).mono ?_
  rintro e w2 ⟨rfl, b2⟩
  replace bel := bel.trans (b2.mono bel.size)
  clear b2
  go_wp2_with fail
  with_reducible refine (kput_ok 0 0 0 0 0 0 0 none 0 0 none 0 0 [] [] _ (Sl.nil _) (Sl.nil _) (by decide) (by omega) (by decide) (by decide) (by decide) (by decide)).mono ?_
  rintro e w3 ⟨Ao, co, Ab, cb, rfl, _, pb, fb, b3⟩
  replace bel := bel.trans (b3.mono bel.size)
  clear b3
  replace pb : Sl w3 (Ab) (20) (cb) (pb8) := pb
  go_wp2_with (first | ((with_reducible show wpList _ _ _ (⟨some 1, _, _, _, _, _⟩ :: _) _ _); refine wpList_new_a rfl 27 rfl #[.int .i64 0, .int .i64 0, .int .i64 0, .int .i64 0, .int .i64 0, .int .i64 0, .int .u8 0, .int .u8 0, .int .u8 0, .int .u8 0, .int .u8 0, .int .u8 0, .int .u8 0, .int .u8 0, .slice none 0 0, .slice none 0 0] (by kernel_rfl) ?_; intro g1 w4 ge hh bb; have av_pb_p := pb.av_new ge; have op := Nat.le_trans bel.size ge; replace pb := pb.below bb; replace bel := bel.trans (bb.mono bel.size); have hp := hh; clear hh ge bb) | ((with_reducible show wpList _ _ _ (⟨none, Op.store _ (.tmp 1) _, _, _, _, _⟩ :: _) _ _); refine wpList_store_blk rfl 27 (.tmp 1) (.tmp 26) rfl g1 rfl _ rfl _ 27 hp (by rfl) (by kernel_rfl) (by kernel_rfl) ?_; intro w5 hq gr; replace pb := pb.away av_pb_p gr; replace bel := below_grown bel gr op bel.size; clear hp; have hp := hq; clear hq gr))
  go_cut [3, 4, 5] from 9999 (fun s3 s4 s5 W => ∃ g3 : Nat, ∃ g4 : Nat, ∃ g5 : Nat, s3 = .pointer (some ⟨g3, 0, none⟩) ∧ s4 = .pointer (some ⟨g4, 0, none⟩) ∧ s5 = .pointer (some ⟨g5, 0, none⟩) ∧ W.heap[g1]? = some (.cells #[.int .i64 0, .int .i64 0, .int .i64 0, .int .i64 0, .int .i64 64, .int .i64 6, .int .u8 10, .int .u8 0, .int .u8 0, .int .u8 1, .int .u8 10, .int .u8 0, .int .u8 0, .int .u8 2, .slice Ao 0 co, .slice Ab 20 cb] 27 (0, 0)) ∧ W.heap[g3]? = some (.cells #[.int .i64 0, .int .i64 0, .int .i64 0, .int .i64 0, .int .i64 64, .int .i64 6, .int .u8 10, .int .u8 0, .int .u8 0, .int .u8 1, .int .u8 10, .int .u8 0, .int .u8 0, .int .u8 2, .slice Ao 0 co, .slice Ab 20 cb] 27 (0, 0)) ∧ w.heap.size ≤ g3 ∧ W.heap[g4]? = some (.cells #[.int .i64 0, .int .i64 0, .int .i64 0, .int .i64 0, .int .i64 64, .int .i64 6, .int .u8 10, .int .u8 0, .int .u8 0, .int .u8 1, .int .u8 10, .int .u8 0, .int .u8 0, .int .u8 2, .slice Ao 0 co, .slice Ab 20 cb] 27 (0, 0)) ∧ w.heap.size ≤ g4 ∧ W.heap[g5]? = some (.cells #[.int .i64 0, .int .i64 0, .int .i64 0, .int .i64 0, .int .i64 64, .int .i64 6, .int .u8 10, .int .u8 0, .int .u8 0, .int .u8 1, .int .u8 10, .int .u8 0, .int .u8 0, .int .u8 2, .slice Ao 0 co, .slice Ab 20 cb] 27 (0, 0)) ∧ w.heap.size ≤ g5 ∧ Hid (g3 ≠ g4) ∧ Hid (g3 ≠ g5) ∧ Hid (g3 ≠ g1) ∧ Hid (g4 ≠ g5) ∧ Hid (g4 ≠ g1) ∧ Hid (g5 ≠ g1) ∧ Sl W (Ab) (20) (cb) (pb8) ∧ Av (Ab) (20) g3 ∧ Av (Ab) (20) g4 ∧ Av (Ab) (20) g5 ∧ Av (Ab) (20) g1 ∧ Below w.heap.size w W)
  case first =>
    replace bel := bel.drew
    replace hp : w5.drew.heap[g1]? = _ := hp
    replace pb := pb.drew
    refine wp_region_held_drew (S := fun W => W.heap[g1]? = some (.cells #[.int .i64 0, .int .i64 0, .int .i64 0, .int .i64 0, .int .i64 64, .int .i64 6, .int .u8 10, .int .u8 0, .int .u8 0, .int .u8 1, .int .u8 10, .int .u8 0, .int .u8 0, .int .u8 2, .slice Ao 0 co, .slice Ab 20 cb] 27 (0, 0))) (by kernel_rfl) hp (fun hH => ?_)
    generalize w5.drew = w6 at bel hp pb hH ⊢
    refine wpAnyH_take (i := 0) (v := .agg #[.int .i64 0, .int .i64 0, .int .i64 0, .int .i64 0, .int .i64 64, .int .i64 6, .int .u8 10, .int .u8 0, .int .u8 0, .int .u8 1, .int .u8 10, .int .u8 0, .int .u8 0, .int .u8 2, .slice Ao 0 co, .slice Ab 20 cb]) rfl (by kernel_rfl) (by kernel_rfl) (by kernel_rfl) (fun _ _ _ h => h) (yieldsIf_load_part (by kernel_rfl) 27 _ rfl g1 0 16 rfl _ 27 (0, 0) (fun W hW => hW) _ rfl _ Try.underlying27 rfl (by kernel_rfl)) hH ?_
    simp only [Act.put, List.getElem_toArray, List.getElem_cons_zero, List.setIfInBounds_toArray, List.set_cons_zero, List.set_cons_succ]
    refine wpAnyH_take (i := 1) (v := .agg #[.int .i64 0, .int .i64 0, .int .i64 0, .int .i64 0, .int .i64 64, .int .i64 6, .int .u8 10, .int .u8 0, .int .u8 0, .int .u8 1, .int .u8 10, .int .u8 0, .int .u8 0, .int .u8 2, .slice Ao 0 co, .slice Ab 20 cb]) rfl (by kernel_rfl) (by kernel_rfl) (by kernel_rfl) (fun _ _ _ h => h) (yieldsIf_load_part (by kernel_rfl) 27 _ rfl g1 0 16 rfl _ 27 (0, 0) (fun W hW => hW) _ rfl _ Try.underlying27 rfl (by kernel_rfl)) hH ?_
    simp only [Act.put, List.getElem_toArray, List.getElem_cons_zero, List.getElem_cons_succ, List.setIfInBounds_toArray, List.set_cons_zero, List.set_cons_succ]
    refine wpAnyH_take (i := 2) (v := .agg #[.int .i64 0, .int .i64 0, .int .i64 0, .int .i64 0, .int .i64 64, .int .i64 6, .int .u8 10, .int .u8 0, .int .u8 0, .int .u8 1, .int .u8 10, .int .u8 0, .int .u8 0, .int .u8 2, .slice Ao 0 co, .slice Ab 20 cb]) rfl (by kernel_rfl) (by kernel_rfl) (by kernel_rfl) (fun _ _ _ h => h) (yieldsIf_load_part (by kernel_rfl) 27 _ rfl g1 0 16 rfl _ 27 (0, 0) (fun W hW => hW) _ rfl _ Try.underlying27 rfl (by kernel_rfl)) hH ?_
    simp only [Act.put, List.getElem_toArray, List.getElem_cons_zero, List.getElem_cons_succ, List.setIfInBounds_toArray, List.set_cons_zero, List.set_cons_succ]
    refine wpAnyH_ready (rs := [3, 4, 5]) (by kernel_rfl) (by simp) ?_
    refine AllReadyH.cons (o := _) rfl (fun K hK => ?_) (AllReadyH.cons (o := _) rfl (fun K hK => ?_) (AllReadyH.cons (o := _) rfl (fun K hK => ?_) AllReadyH.nil))
    · simp only [List.getElem_toArray, List.getElem_cons_zero, List.getElem_cons_succ]
      rw [if_pos (by rfl)]
      refine wp_new_a 27 rfl #[.int .i64 0, .int .i64 0, .int .i64 0, .int .i64 0, .int .i64 0, .int .i64 0, .int .u8 0, .int .u8 0, .int .u8 0, .int .u8 0, .int .u8 0, .int .u8 0, .int .u8 0, .int .u8 0, .slice none 0 0, .slice none 0 0] (by kernel_rfl) ?_
      intro g3 w7 ge hh bb
      have d_p_a3 := ne_new (hlt hp) ge
      have av_pb_a3 := pb.av_new ge
      have oa3 := Nat.le_trans bel.size ge
      replace hp := blk_u hp bb
      replace pb := pb.below bb
      replace bel := bel.trans (bb.mono bel.size)
      have ha3 := hh
      clear hh ge bb
      refine hK.out _ _ hp (fun hH8 => ?_)
      clear hK K
      simp only [Act.put, List.setIfInBounds_toArray, List.set_cons_zero, List.set_cons_succ]
      refine wpAnyH_ready (rs := [4, 5]) (by kernel_rfl) (by simp) ?_
      refine AllReadyH.cons (o := _) rfl (fun K hK => ?_) (AllReadyH.cons (o := _) rfl (fun K hK => ?_) AllReadyH.nil)
      · simp only [List.getElem_toArray, List.getElem_cons_zero, List.getElem_cons_succ]
        rw [if_pos (by rfl)]
        refine wp_new_a 27 rfl #[.int .i64 0, .int .i64 0, .int .i64 0, .int .i64 0, .int .i64 0, .int .i64 0, .int .u8 0, .int .u8 0, .int .u8 0, .int .u8 0, .int .u8 0, .int .u8 0, .int .u8 0, .int .u8 0, .slice none 0 0, .slice none 0 0] (by kernel_rfl) ?_
        intro g4 w9 ge hh bb
        have d_p_a4 := ne_new (hlt hp) ge
        have d_a3_a4 := ne_new (hlt ha3) ge
        have av_pb_a4 := pb.av_new ge
        have oa4 := Nat.le_trans bel.size ge
        replace hp := blk_u hp bb
        replace ha3 := blk_u ha3 bb
        replace pb := pb.below bb
        replace bel := bel.trans (bb.mono bel.size)
        have ha4 := hh
        clear hh ge bb
        refine hK.out _ _ hp (fun hH10 => ?_)
        clear hK K
        simp only [Act.put, List.setIfInBounds_toArray, List.set_cons_zero, List.set_cons_succ]
        refine wpAnyH_ready (rs := [5]) (by kernel_rfl) (by simp) ?_
        refine AllReadyH.cons (o := _) rfl (fun K hK => ?_) AllReadyH.nil
        simp only [List.getElem_toArray, List.getElem_cons_zero, List.getElem_cons_succ]
        rw [if_pos (by rfl)]
        refine wp_new_a 27 rfl #[.int .i64 0, .int .i64 0, .int .i64 0, .int .i64 0, .int .i64 0, .int .i64 0, .int .u8 0, .int .u8 0, .int .u8 0, .int .u8 0, .int .u8 0, .int .u8 0, .int .u8 0, .int .u8 0, .slice none 0 0, .slice none 0 0] (by kernel_rfl) ?_
        intro g5 w11 ge hh bb
        have d_p_a5 := ne_new (hlt hp) ge
        have d_a3_a5 := ne_new (hlt ha3) ge
        have d_a4_a5 := ne_new (hlt ha4) ge
        have av_pb_a5 := pb.av_new ge
        have oa5 := Nat.le_trans bel.size ge
        replace hp := blk_u hp bb
        replace ha3 := blk_u ha3 bb
        replace ha4 := blk_u ha4 bb
        replace pb := pb.below bb
        replace bel := bel.trans (bb.mono bel.size)
        have ha5 := hh
        clear hh ge bb
        refine hK.out _ _ hp (fun hH12 => ?_)
        clear hK K
        simp only [Act.put, List.setIfInBounds_toArray, List.set_cons_zero, List.set_cons_succ]
        refine wpAnyH_ready (rs := [6]) (by kernel_rfl) (by simp) ?_
        refine AllReadyH.cons (o := _) rfl (fun K hK => ?_) AllReadyH.nil
        simp only [List.getElem_toArray, List.getElem_cons_zero, List.getElem_cons_succ]
        rw [if_pos (by rfl)]
        refine wp_store_blk 27 (.tmp 3) (.tmp 28) rfl g3 rfl _ rfl _ 27 ha3 (by rfl) (by kernel_rfl) (by kernel_rfl) ?_
        intro w13 hq gr
        replace pb := pb.away av_pb_a3 gr
        replace hp := blk_a hp gr d_p_a3
        replace ha4 := blk_a ha4 gr (ne_symm d_a3_a4)
        replace ha5 := blk_a ha5 gr (ne_symm d_a3_a5)
        replace bel := below_grown bel gr oa3 bel.size
        clear ha3
        have ha3 := hq
        clear hq gr
        refine hK.out _ _ hp (fun hH14 => ?_)
        clear hK K
        simp only [Act.put]
        refine wpAnyH_ready (rs := [7]) (by kernel_rfl) (by simp) ?_
        refine AllReadyH.cons (o := _) rfl (fun K hK => ?_) AllReadyH.nil
        simp only [List.getElem_toArray, List.getElem_cons_zero, List.getElem_cons_succ]
        rw [if_pos (by rfl)]
        refine wp_store_blk 27 (.tmp 4) (.tmp 29) rfl g4 rfl _ rfl _ 27 ha4 (by rfl) (by kernel_rfl) (by kernel_rfl) ?_
        intro w15 hq gr
        replace pb := pb.away av_pb_a4 gr
        replace hp := blk_a hp gr d_p_a4
        replace ha3 := blk_a ha3 gr d_a3_a4
        replace ha5 := blk_a ha5 gr (ne_symm d_a4_a5)
        replace bel := below_grown bel gr oa4 bel.size
        clear ha4
        have ha4 := hq
        clear hq gr
        refine hK.out _ _ hp (fun hH16 => ?_)
        clear hK K
        simp only [Act.put]
        refine wpAnyH_ready (rs := [8]) (by kernel_rfl) (by simp) ?_
        refine AllReadyH.cons (o := _) rfl (fun K hK => ?_) AllReadyH.nil
        simp only [List.getElem_toArray, List.getElem_cons_zero, List.getElem_cons_succ]
        rw [if_pos (by rfl)]
        refine wp_store_blk 27 (.tmp 5) (.tmp 30) rfl g5 rfl _ rfl _ 27 ha5 (by rfl) (by kernel_rfl) (by kernel_rfl) ?_
        intro w17 hq gr
        replace pb := pb.away av_pb_a5 gr
        replace hp := blk_a hp gr d_p_a5
        replace ha3 := blk_a ha3 gr d_a3_a5
        replace ha4 := blk_a ha4 gr d_a4_a5
        replace bel := below_grown bel gr oa5 bel.size
        clear ha5
        have ha5 := hq
        clear hq gr
        refine hK.out _ _ hp (fun hH18 => ?_)
        clear hK K
        simp only [Act.put]
        refine wpAnyH_done (by kernel_rfl) ?_ _
        go_wp2_with fail
        go_meet
        case rel => exact ⟨g3, g4, g5, rfl, rfl, rfl, hp, ha3, oa3, ha4, oa4, ha5, oa5, d_a3_a4, d_a3_a5, (ne_symm d_p_a3), d_a4_a5, (ne_symm d_p_a4), (ne_symm d_p_a5), pb, av_pb_a3, av_pb_a4, av_pb_a5, av_pb_p, bel⟩
      · simp only [List.getElem_toArray, List.getElem_cons_zero, List.getElem_cons_succ]
        rw [if_pos (by rfl)]
        refine wp_new_a 27 rfl #[.int .i64 0, .int .i64 0, .int .i64 0, .int .i64 0, .int .i64 0, .int .i64 0, .int .u8 0, .int .u8 0, .int .u8 0, .int .u8 0, .int .u8 0, .int .u8 0, .int .u8 0, .int .u8 0, .slice none 0 0, .slice none 0 0] (by kernel_rfl) ?_
        intro g5 w9 ge hh bb
        have d_p_a5 := ne_new (hlt hp) ge
        have d_a3_a5 := ne_new (hlt ha3) ge
        have av_pb_a5 := pb.av_new ge
        have oa5 := Nat.le_trans bel.size ge
        replace hp := blk_u hp bb
        replace ha3 := blk_u ha3 bb
        replace pb := pb.below bb
        replace bel := bel.trans (bb.mono bel.size)
        have ha5 := hh
        clear hh ge bb
        refine hK.out _ _ hp (fun hH10 => ?_)
        clear hK K
        simp only [Act.put, List.setIfInBounds_toArray, List.set_cons_zero, List.set_cons_succ]
        refine wpAnyH_ready (rs := [4]) (by kernel_rfl) (by simp) ?_
        refine AllReadyH.cons (o := _) rfl (fun K hK => ?_) AllReadyH.nil
        simp only [List.getElem_toArray, List.getElem_cons_zero, List.getElem_cons_succ]
        rw [if_pos (by rfl)]
        refine wp_new_a 27 rfl #[.int .i64 0, .int .i64 0, .int .i64 0, .int .i64 0, .int .i64 0, .int .i64 0, .int .u8 0, .int .u8 0, .int .u8 0, .int .u8 0, .int .u8 0, .int .u8 0, .int .u8 0, .int .u8 0, .slice none 0 0, .slice none 0 0] (by kernel_rfl) ?_
        intro g4 w11 ge hh bb
        have d_p_a4 := ne_new (hlt hp) ge
        have d_a3_a4 := ne_new (hlt ha3) ge
        have d_a5_a4 := ne_new (hlt ha5) ge
        have av_pb_a4 := pb.av_new ge
        have oa4 := Nat.le_trans bel.size ge
        replace hp := blk_u hp bb
        replace ha3 := blk_u ha3 bb
        replace ha5 := blk_u ha5 bb
        replace pb := pb.below bb
        replace bel := bel.trans (bb.mono bel.size)
        have ha4 := hh
        clear hh ge bb
        refine hK.out _ _ hp (fun hH12 => ?_)
        clear hK K
        simp only [Act.put, List.setIfInBounds_toArray, List.set_cons_zero, List.set_cons_succ]
        refine wpAnyH_ready (rs := [6]) (by kernel_rfl) (by simp) ?_
        refine AllReadyH.cons (o := _) rfl (fun K hK => ?_) AllReadyH.nil
        simp only [List.getElem_toArray, List.getElem_cons_zero, List.getElem_cons_succ]
        rw [if_pos (by rfl)]
        refine wp_store_blk 27 (.tmp 3) (.tmp 28) rfl g3 rfl _ rfl _ 27 ha3 (by rfl) (by kernel_rfl) (by kernel_rfl) ?_
        intro w13 hq gr
        replace pb := pb.away av_pb_a3 gr
        replace hp := blk_a hp gr d_p_a3
        replace ha5 := blk_a ha5 gr (ne_symm d_a3_a5)
        replace ha4 := blk_a ha4 gr (ne_symm d_a3_a4)
        replace bel := below_grown bel gr oa3 bel.size
        clear ha3
        have ha3 := hq
        clear hq gr
        refine hK.out _ _ hp (fun hH14 => ?_)
        clear hK K
        simp only [Act.put]
        refine wpAnyH_ready (rs := [7]) (by kernel_rfl) (by simp) ?_
        refine AllReadyH.cons (o := _) rfl (fun K hK => ?_) AllReadyH.nil
        simp only [List.getElem_toArray, List.getElem_cons_zero, List.getElem_cons_succ]
        rw [if_pos (by rfl)]
        refine wp_store_blk 27 (.tmp 4) (.tmp 29) rfl g4 rfl _ rfl _ 27 ha4 (by rfl) (by kernel_rfl) (by kernel_rfl) ?_
        intro w15 hq gr
        replace pb := pb.away av_pb_a4 gr
        replace hp := blk_a hp gr d_p_a4
        replace ha3 := blk_a ha3 gr d_a3_a4
        replace ha5 := blk_a ha5 gr d_a5_a4
        replace bel := below_grown bel gr oa4 bel.size
        clear ha4
        have ha4 := hq
        clear hq gr
        refine hK.out _ _ hp (fun hH16 => ?_)
        clear hK K
        simp only [Act.put]
        refine wpAnyH_ready (rs := [8]) (by kernel_rfl) (by simp) ?_
        refine AllReadyH.cons (o := _) rfl (fun K hK => ?_) AllReadyH.nil
        simp only [List.getElem_toArray, List.getElem_cons_zero, List.getElem_cons_succ]
        rw [if_pos (by rfl)]
        refine wp_store_blk 27 (.tmp 5) (.tmp 30) rfl g5 rfl _ rfl _ 27 ha5 (by rfl) (by kernel_rfl) (by kernel_rfl) ?_
        intro w17 hq gr
        replace pb := pb.away av_pb_a5 gr
        replace hp := blk_a hp gr d_p_a5
        replace ha3 := blk_a ha3 gr d_a3_a5
        replace ha4 := blk_a ha4 gr (ne_symm d_a5_a4)
        replace bel := below_grown bel gr oa5 bel.size
        clear ha5
        have ha5 := hq
        clear hq gr
        refine hK.out _ _ hp (fun hH18 => ?_)
        clear hK K
        simp only [Act.put]
        refine wpAnyH_done (by kernel_rfl) ?_ _
        go_wp2_with fail
        go_meet
        case rel => exact ⟨g3, g4, g5, rfl, rfl, rfl, hp, ha3, oa3, ha4, oa4, ha5, oa5, d_a3_a4, d_a3_a5, (ne_symm d_p_a3), (ne_symm d_a5_a4), (ne_symm d_p_a4), (ne_symm d_p_a5), pb, av_pb_a3, av_pb_a4, av_pb_a5, av_pb_p, bel⟩
    · simp only [List.getElem_toArray, List.getElem_cons_zero, List.getElem_cons_succ]
      rw [if_pos (by rfl)]
      refine wp_new_a 27 rfl #[.int .i64 0, .int .i64 0, .int .i64 0, .int .i64 0, .int .i64 0, .int .i64 0, .int .u8 0, .int .u8 0, .int .u8 0, .int .u8 0, .int .u8 0, .int .u8 0, .int .u8 0, .int .u8 0, .slice none 0 0, .slice none 0 0] (by kernel_rfl) ?_
      intro g4 w7 ge hh bb
      have d_p_a4 := ne_new (hlt hp) ge
      have av_pb_a4 := pb.av_new ge
      have oa4 := Nat.le_trans bel.size ge
      replace hp := blk_u hp bb
      replace pb := pb.below bb
      replace bel := bel.trans (bb.mono bel.size)
      have ha4 := hh
      clear hh ge bb
      refine hK.out _ _ hp (fun hH8 => ?_)
      clear hK K
      simp only [Act.put, List.setIfInBounds_toArray, List.set_cons_zero, List.set_cons_succ]
      refine wpAnyH_ready (rs := [3, 5]) (by kernel_rfl) (by simp) ?_
      refine AllReadyH.cons (o := _) rfl (fun K hK => ?_) (AllReadyH.cons (o := _) rfl (fun K hK => ?_) AllReadyH.nil)
      · simp only [List.getElem_toArray, List.getElem_cons_zero, List.getElem_cons_succ]
        rw [if_pos (by rfl)]
        refine wp_new_a 27 rfl #[.int .i64 0, .int .i64 0, .int .i64 0, .int .i64 0, .int .i64 0, .int .i64 0, .int .u8 0, .int .u8 0, .int .u8 0, .int .u8 0, .int .u8 0, .int .u8 0, .int .u8 0, .int .u8 0, .slice none 0 0, .slice none 0 0] (by kernel_rfl) ?_
        intro g3 w9 ge hh bb
        have d_p_a3 := ne_new (hlt hp) ge
        have d_a4_a3 := ne_new (hlt ha4) ge
        have av_pb_a3 := pb.av_new ge
        have oa3 := Nat.le_trans bel.size ge
        replace hp := blk_u hp bb
        replace ha4 := blk_u ha4 bb
        replace pb := pb.below bb
        replace bel := bel.trans (bb.mono bel.size)
        have ha3 := hh
        clear hh ge bb
        refine hK.out _ _ hp (fun hH10 => ?_)
        clear hK K
        simp only [Act.put, List.setIfInBounds_toArray, List.set_cons_zero, List.set_cons_succ]
        refine wpAnyH_ready (rs := [5]) (by kernel_rfl) (by simp) ?_
        refine AllReadyH.cons (o := _) rfl (fun K hK => ?_) AllReadyH.nil
        simp only [List.getElem_toArray, List.getElem_cons_zero, List.getElem_cons_succ]
        rw [if_pos (by rfl)]
        refine wp_new_a 27 rfl #[.int .i64 0, .int .i64 0, .int .i64 0, .int .i64 0, .int .i64 0, .int .i64 0, .int .u8 0, .int .u8 0, .int .u8 0, .int .u8 0, .int .u8 0, .int .u8 0, .int .u8 0, .int .u8 0, .slice none 0 0, .slice none 0 0] (by kernel_rfl) ?_
        intro g5 w11 ge hh bb
        have d_p_a5 := ne_new (hlt hp) ge
        have d_a4_a5 := ne_new (hlt ha4) ge
        have d_a3_a5 := ne_new (hlt ha3) ge
        have av_pb_a5 := pb.av_new ge
        have oa5 := Nat.le_trans bel.size ge
        replace hp := blk_u hp bb
        replace ha4 := blk_u ha4 bb
        replace ha3 := blk_u ha3 bb
        replace pb := pb.below bb
        replace bel := bel.trans (bb.mono bel.size)
        have ha5 := hh
        clear hh ge bb
        refine hK.out _ _ hp (fun hH12 => ?_)
        clear hK K
        simp only [Act.put, List.setIfInBounds_toArray, List.set_cons_zero, List.set_cons_succ]
        refine wpAnyH_ready (rs := [6]) (by kernel_rfl) (by simp) ?_
        refine AllReadyH.cons (o := _) rfl (fun K hK => ?_) AllReadyH.nil
        simp only [List.getElem_toArray, List.getElem_cons_zero, List.getElem_cons_succ]
        rw [if_pos (by rfl)]
        refine wp_store_blk 27 (.tmp 3) (.tmp 28) rfl g3 rfl _ rfl _ 27 ha3 (by rfl) (by kernel_rfl) (by kernel_rfl) ?_
        intro w13 hq gr
        replace pb := pb.away av_pb_a3 gr
        replace hp := blk_a hp gr d_p_a3
        replace ha4 := blk_a ha4 gr d_a4_a3
        replace ha5 := blk_a ha5 gr (ne_symm d_a3_a5)
        replace bel := below_grown bel gr oa3 bel.size
        clear ha3
        have ha3 := hq
        clear hq gr
        refine hK.out _ _ hp (fun hH14 => ?_)
        clear hK K
        simp only [Act.put]
        refine wpAnyH_ready (rs := [7]) (by kernel_rfl) (by simp) ?_
        refine AllReadyH.cons (o := _) rfl (fun K hK => ?_) AllReadyH.nil
        simp only [List.getElem_toArray, List.getElem_cons_zero, List.getElem_cons_succ]
        rw [if_pos (by rfl)]
        refine wp_store_blk 27 (.tmp 4) (.tmp 29) rfl g4 rfl _ rfl _ 27 ha4 (by rfl) (by kernel_rfl) (by kernel_rfl) ?_
        intro w15 hq gr
        replace pb := pb.away av_pb_a4 gr
        replace hp := blk_a hp gr d_p_a4
        replace ha3 := blk_a ha3 gr (ne_symm d_a4_a3)
        replace ha5 := blk_a ha5 gr (ne_symm d_a4_a5)
        replace bel := below_grown bel gr oa4 bel.size
        clear ha4
        have ha4 := hq
        clear hq gr
        refine hK.out _ _ hp (fun hH16 => ?_)
        clear hK K
        simp only [Act.put]
        refine wpAnyH_ready (rs := [8]) (by kernel_rfl) (by simp) ?_
        refine AllReadyH.cons (o := _) rfl (fun K hK => ?_) AllReadyH.nil
        simp only [List.getElem_toArray, List.getElem_cons_zero, List.getElem_cons_succ]
        rw [if_pos (by rfl)]
        refine wp_store_blk 27 (.tmp 5) (.tmp 30) rfl g5 rfl _ rfl _ 27 ha5 (by rfl) (by kernel_rfl) (by kernel_rfl) ?_
        intro w17 hq gr
        replace pb := pb.away av_pb_a5 gr
        replace hp := blk_a hp gr d_p_a5
        replace ha4 := blk_a ha4 gr d_a4_a5
        replace ha3 := blk_a ha3 gr d_a3_a5
        replace bel := below_grown bel gr oa5 bel.size
        clear ha5
        have ha5 := hq
        clear hq gr
        refine hK.out _ _ hp (fun hH18 => ?_)
        clear hK K
        simp only [Act.put]
        refine wpAnyH_done (by kernel_rfl) ?_ _
        go_wp2_with fail
        go_meet
        case rel => exact ⟨g3, g4, g5, rfl, rfl, rfl, hp, ha3, oa3, ha4, oa4, ha5, oa5, (ne_symm d_a4_a3), d_a3_a5, (ne_symm d_p_a3), d_a4_a5, (ne_symm d_p_a4), (ne_symm d_p_a5), pb, av_pb_a3, av_pb_a4, av_pb_a5, av_pb_p, bel⟩
      · simp only [List.getElem_toArray, List.getElem_cons_zero, List.getElem_cons_succ]
        rw [if_pos (by rfl)]
        refine wp_new_a 27 rfl #[.int .i64 0, .int .i64 0, .int .i64 0, .int .i64 0, .int .i64 0, .int .i64 0, .int .u8 0, .int .u8 0, .int .u8 0, .int .u8 0, .int .u8 0, .int .u8 0, .int .u8 0, .int .u8 0, .slice none 0 0, .slice none 0 0] (by kernel_rfl) ?_
        intro g5 w9 ge hh bb
        have d_p_a5 := ne_new (hlt hp) ge
        have d_a4_a5 := ne_new (hlt ha4) ge
        have av_pb_a5 := pb.av_new ge
        have oa5 := Nat.le_trans bel.size ge
        replace hp := blk_u hp bb
        replace ha4 := blk_u ha4 bb
        replace pb := pb.below bb
        replace bel := bel.trans (bb.mono bel.size)
        have ha5 := hh
        clear hh ge bb
        refine hK.out _ _ hp (fun hH10 => ?_)
        clear hK K
        simp only [Act.put, List.setIfInBounds_toArray, List.set_cons_zero, List.set_cons_succ]
        refine wpAnyH_ready (rs := [3]) (by kernel_rfl) (by simp) ?_
        refine AllReadyH.cons (o := _) rfl (fun K hK => ?_) AllReadyH.nil
        simp only [List.getElem_toArray, List.getElem_cons_zero, List.getElem_cons_succ]
        rw [if_pos (by rfl)]
        refine wp_new_a 27 rfl #[.int .i64 0, .int .i64 0, .int .i64 0, .int .i64 0, .int .i64 0, .int .i64 0, .int .u8 0, .int .u8 0, .int .u8 0, .int .u8 0, .int .u8 0, .int .u8 0, .int .u8 0, .int .u8 0, .slice none 0 0, .slice none 0 0] (by kernel_rfl) ?_
        intro g3 w11 ge hh bb
        have d_p_a3 := ne_new (hlt hp) ge
        have d_a4_a3 := ne_new (hlt ha4) ge
        have d_a5_a3 := ne_new (hlt ha5) ge
        have av_pb_a3 := pb.av_new ge
        have oa3 := Nat.le_trans bel.size ge
        replace hp := blk_u hp bb
        replace ha4 := blk_u ha4 bb
        replace ha5 := blk_u ha5 bb
        replace pb := pb.below bb
        replace bel := bel.trans (bb.mono bel.size)
        have ha3 := hh
        clear hh ge bb
        refine hK.out _ _ hp (fun hH12 => ?_)
        clear hK K
        simp only [Act.put, List.setIfInBounds_toArray, List.set_cons_zero, List.set_cons_succ]
        refine wpAnyH_ready (rs := [6]) (by kernel_rfl) (by simp) ?_
        refine AllReadyH.cons (o := _) rfl (fun K hK => ?_) AllReadyH.nil
        simp only [List.getElem_toArray, List.getElem_cons_zero, List.getElem_cons_succ]
        rw [if_pos (by rfl)]
        refine wp_store_blk 27 (.tmp 3) (.tmp 28) rfl g3 rfl _ rfl _ 27 ha3 (by rfl) (by kernel_rfl) (by kernel_rfl) ?_
        intro w13 hq gr
        replace pb := pb.away av_pb_a3 gr
        replace hp := blk_a hp gr d_p_a3
        replace ha4 := blk_a ha4 gr d_a4_a3
        replace ha5 := blk_a ha5 gr d_a5_a3
        replace bel := below_grown bel gr oa3 bel.size
        clear ha3
        have ha3 := hq
        clear hq gr
        refine hK.out _ _ hp (fun hH14 => ?_)
        clear hK K
        simp only [Act.put]
        refine wpAnyH_ready (rs := [7]) (by kernel_rfl) (by simp) ?_
        refine AllReadyH.cons (o := _) rfl (fun K hK => ?_) AllReadyH.nil
        simp only [List.getElem_toArray, List.getElem_cons_zero, List.getElem_cons_succ]
        rw [if_pos (by rfl)]
        refine wp_store_blk 27 (.tmp 4) (.tmp 29) rfl g4 rfl _ rfl _ 27 ha4 (by rfl) (by kernel_rfl) (by kernel_rfl) ?_
        intro w15 hq gr
        replace pb := pb.away av_pb_a4 gr
        replace hp := blk_a hp gr d_p_a4
        replace ha5 := blk_a ha5 gr (ne_symm d_a4_a5)
        replace ha3 := blk_a ha3 gr (ne_symm d_a4_a3)
        replace bel := below_grown bel gr oa4 bel.size
        clear ha4
        have ha4 := hq
        clear hq gr
        refine hK.out _ _ hp (fun hH16 => ?_)
        clear hK K
        simp only [Act.put]
        refine wpAnyH_ready (rs := [8]) (by kernel_rfl) (by simp) ?_
        refine AllReadyH.cons (o := _) rfl (fun K hK => ?_) AllReadyH.nil
        simp only [List.getElem_toArray, List.getElem_cons_zero, List.getElem_cons_succ]
        rw [if_pos (by rfl)]
        refine wp_store_blk 27 (.tmp 5) (.tmp 30) rfl g5 rfl _ rfl _ 27 ha5 (by rfl) (by kernel_rfl) (by kernel_rfl) ?_
        intro w17 hq gr
        replace pb := pb.away av_pb_a5 gr
        replace hp := blk_a hp gr d_p_a5
        replace ha4 := blk_a ha4 gr d_a4_a5
        replace ha3 := blk_a ha3 gr (ne_symm d_a5_a3)
        replace bel := below_grown bel gr oa5 bel.size
        clear ha5
        have ha5 := hq
        clear hq gr
        refine hK.out _ _ hp (fun hH18 => ?_)
        clear hK K
        simp only [Act.put]
        refine wpAnyH_done (by kernel_rfl) ?_ _
        go_wp2_with fail
        go_meet
        case rel => exact ⟨g3, g4, g5, rfl, rfl, rfl, hp, ha3, oa3, ha4, oa4, ha5, oa5, (ne_symm d_a4_a3), (ne_symm d_a5_a3), (ne_symm d_p_a3), d_a4_a5, (ne_symm d_p_a4), (ne_symm d_p_a5), pb, av_pb_a3, av_pb_a4, av_pb_a5, av_pb_p, bel⟩
    · simp only [List.getElem_toArray, List.getElem_cons_zero, List.getElem_cons_succ]
      rw [if_pos (by rfl)]
      refine wp_new_a 27 rfl #[.int .i64 0, .int .i64 0, .int .i64 0, .int .i64 0, .int .i64 0, .int .i64 0, .int .u8 0, .int .u8 0, .int .u8 0, .int .u8 0, .int .u8 0, .int .u8 0, .int .u8 0, .int .u8 0, .slice none 0 0, .slice none 0 0] (by kernel_rfl) ?_
      intro g5 w7 ge hh bb
      have d_p_a5 := ne_new (hlt hp) ge
      have av_pb_a5 := pb.av_new ge
      have oa5 := Nat.le_trans bel.size ge
      replace hp := blk_u hp bb
      replace pb := pb.below bb
      replace bel := bel.trans (bb.mono bel.size)
      have ha5 := hh
      clear hh ge bb
      refine hK.out _ _ hp (fun hH8 => ?_)
      clear hK K
      simp only [Act.put, List.setIfInBounds_toArray, List.set_cons_zero, List.set_cons_succ]
      refine wpAnyH_ready (rs := [3, 4]) (by kernel_rfl) (by simp) ?_
      refine AllReadyH.cons (o := _) rfl (fun K hK => ?_) (AllReadyH.cons (o := _) rfl (fun K hK => ?_) AllReadyH.nil)
      · simp only [List.getElem_toArray, List.getElem_cons_zero, List.getElem_cons_succ]
        rw [if_pos (by rfl)]
        refine wp_new_a 27 rfl #[.int .i64 0, .int .i64 0, .int .i64 0, .int .i64 0, .int .i64 0, .int .i64 0, .int .u8 0, .int .u8 0, .int .u8 0, .int .u8 0, .int .u8 0, .int .u8 0, .int .u8 0, .int .u8 0, .slice none 0 0, .slice none 0 0] (by kernel_rfl) ?_
        intro g3 w9 ge hh bb
        have d_p_a3 := ne_new (hlt hp) ge
        have d_a5_a3 := ne_new (hlt ha5) ge
        have av_pb_a3 := pb.av_new ge
        have oa3 := Nat.le_trans bel.size ge
        replace hp := blk_u hp bb
        replace ha5 := blk_u ha5 bb
        replace pb := pb.below bb
        replace bel := bel.trans (bb.mono bel.size)
        have ha3 := hh
        clear hh ge bb
        refine hK.out _ _ hp (fun hH10 => ?_)
        clear hK K
        simp only [Act.put, List.setIfInBounds_toArray, List.set_cons_zero, List.set_cons_succ]
        refine wpAnyH_ready (rs := [4]) (by kernel_rfl) (by simp) ?_
        refine AllReadyH.cons (o := _) rfl (fun K hK => ?_) AllReadyH.nil
        simp only [List.getElem_toArray, List.getElem_cons_zero, List.getElem_cons_succ]
        rw [if_pos (by rfl)]
        refine wp_new_a 27 rfl #[.int .i64 0, .int .i64 0, .int .i64 0, .int .i64 0, .int .i64 0, .int .i64 0, .int .u8 0, .int .u8 0, .int .u8 0, .int .u8 0, .int .u8 0, .int .u8 0, .int .u8 0, .int .u8 0, .slice none 0 0, .slice none 0 0] (by kernel_rfl) ?_
        intro g4 w11 ge hh bb
        have d_p_a4 := ne_new (hlt hp) ge
        have d_a5_a4 := ne_new (hlt ha5) ge
        have d_a3_a4 := ne_new (hlt ha3) ge
        have av_pb_a4 := pb.av_new ge
        have oa4 := Nat.le_trans bel.size ge
        replace hp := blk_u hp bb
        replace ha5 := blk_u ha5 bb
        replace ha3 := blk_u ha3 bb
        replace pb := pb.below bb
        replace bel := bel.trans (bb.mono bel.size)
        have ha4 := hh
        clear hh ge bb
        refine hK.out _ _ hp (fun hH12 => ?_)
        clear hK K
        simp only [Act.put, List.setIfInBounds_toArray, List.set_cons_zero, List.set_cons_succ]
        refine wpAnyH_ready (rs := [6]) (by kernel_rfl) (by simp) ?_
        refine AllReadyH.cons (o := _) rfl (fun K hK => ?_) AllReadyH.nil
        simp only [List.getElem_toArray, List.getElem_cons_zero, List.getElem_cons_succ]
        rw [if_pos (by rfl)]
        refine wp_store_blk 27 (.tmp 3) (.tmp 28) rfl g3 rfl _ rfl _ 27 ha3 (by rfl) (by kernel_rfl) (by kernel_rfl) ?_
        intro w13 hq gr
        replace pb := pb.away av_pb_a3 gr
        replace hp := blk_a hp gr d_p_a3
        replace ha5 := blk_a ha5 gr d_a5_a3
        replace ha4 := blk_a ha4 gr (ne_symm d_a3_a4)
        replace bel := below_grown bel gr oa3 bel.size
        clear ha3
        have ha3 := hq
        clear hq gr
        refine hK.out _ _ hp (fun hH14 => ?_)
        clear hK K
        simp only [Act.put]
        refine wpAnyH_ready (rs := [7]) (by kernel_rfl) (by simp) ?_
        refine AllReadyH.cons (o := _) rfl (fun K hK => ?_) AllReadyH.nil
        simp only [List.getElem_toArray, List.getElem_cons_zero, List.getElem_cons_succ]
        rw [if_pos (by rfl)]
        refine wp_store_blk 27 (.tmp 4) (.tmp 29) rfl g4 rfl _ rfl _ 27 ha4 (by rfl) (by kernel_rfl) (by kernel_rfl) ?_
        intro w15 hq gr
        replace pb := pb.away av_pb_a4 gr
        replace hp := blk_a hp gr d_p_a4
        replace ha5 := blk_a ha5 gr d_a5_a4
        replace ha3 := blk_a ha3 gr d_a3_a4
        replace bel := below_grown bel gr oa4 bel.size
        clear ha4
        have ha4 := hq
        clear hq gr
        refine hK.out _ _ hp (fun hH16 => ?_)
        clear hK K
        simp only [Act.put]
        refine wpAnyH_ready (rs := [8]) (by kernel_rfl) (by simp) ?_
        refine AllReadyH.cons (o := _) rfl (fun K hK => ?_) AllReadyH.nil
        simp only [List.getElem_toArray, List.getElem_cons_zero, List.getElem_cons_succ]
        rw [if_pos (by rfl)]
        refine wp_store_blk 27 (.tmp 5) (.tmp 30) rfl g5 rfl _ rfl _ 27 ha5 (by rfl) (by kernel_rfl) (by kernel_rfl) ?_
        intro w17 hq gr
        replace pb := pb.away av_pb_a5 gr
        replace hp := blk_a hp gr d_p_a5
        replace ha3 := blk_a ha3 gr (ne_symm d_a5_a3)
        replace ha4 := blk_a ha4 gr (ne_symm d_a5_a4)
        replace bel := below_grown bel gr oa5 bel.size
        clear ha5
        have ha5 := hq
        clear hq gr
        refine hK.out _ _ hp (fun hH18 => ?_)
        clear hK K
        simp only [Act.put]
        refine wpAnyH_done (by kernel_rfl) ?_ _
        go_wp2_with fail
        go_meet
        case rel => exact ⟨g3, g4, g5, rfl, rfl, rfl, hp, ha3, oa3, ha4, oa4, ha5, oa5, d_a3_a4, (ne_symm d_a5_a3), (ne_symm d_p_a3), (ne_symm d_a5_a4), (ne_symm d_p_a4), (ne_symm d_p_a5), pb, av_pb_a3, av_pb_a4, av_pb_a5, av_pb_p, bel⟩
      · simp only [List.getElem_toArray, List.getElem_cons_zero, List.getElem_cons_succ]
        rw [if_pos (by rfl)]
        refine wp_new_a 27 rfl #[.int .i64 0, .int .i64 0, .int .i64 0, .int .i64 0, .int .i64 0, .int .i64 0, .int .u8 0, .int .u8 0, .int .u8 0, .int .u8 0, .int .u8 0, .int .u8 0, .int .u8 0, .int .u8 0, .slice none 0 0, .slice none 0 0] (by kernel_rfl) ?_
        intro g4 w9 ge hh bb
        have d_p_a4 := ne_new (hlt hp) ge
        have d_a5_a4 := ne_new (hlt ha5) ge
        have av_pb_a4 := pb.av_new ge
        have oa4 := Nat.le_trans bel.size ge
        replace hp := blk_u hp bb
        replace ha5 := blk_u ha5 bb
        replace pb := pb.below bb
        replace bel := bel.trans (bb.mono bel.size)
        have ha4 := hh
        clear hh ge bb
        refine hK.out _ _ hp (fun hH10 => ?_)
        clear hK K
        simp only [Act.put, List.setIfInBounds_toArray, List.set_cons_zero, List.set_cons_succ]
        refine wpAnyH_ready (rs := [3]) (by kernel_rfl) (by simp) ?_
        refine AllReadyH.cons (o := _) rfl (fun K hK => ?_) AllReadyH.nil
        simp only [List.getElem_toArray, List.getElem_cons_zero, List.getElem_cons_succ]
        rw [if_pos (by rfl)]
        refine wp_new_a 27 rfl #[.int .i64 0, .int .i64 0, .int .i64 0, .int .i64 0, .int .i64 0, .int .i64 0, .int .u8 0, .int .u8 0, .int .u8 0, .int .u8 0, .int .u8 0, .int .u8 0, .int .u8 0, .int .u8 0, .slice none 0 0, .slice none 0 0] (by kernel_rfl) ?_
        intro g3 w11 ge hh bb
        have d_p_a3 := ne_new (hlt hp) ge
        have d_a5_a3 := ne_new (hlt ha5) ge
        have d_a4_a3 := ne_new (hlt ha4) ge
        have av_pb_a3 := pb.av_new ge
        have oa3 := Nat.le_trans bel.size ge
        replace hp := blk_u hp bb
        replace ha5 := blk_u ha5 bb
        replace ha4 := blk_u ha4 bb
        replace pb := pb.below bb
        replace bel := bel.trans (bb.mono bel.size)
        have ha3 := hh
        clear hh ge bb
        refine hK.out _ _ hp (fun hH12 => ?_)
        clear hK K
        simp only [Act.put, List.setIfInBounds_toArray, List.set_cons_zero, List.set_cons_succ]
        refine wpAnyH_ready (rs := [6]) (by kernel_rfl) (by simp) ?_
        refine AllReadyH.cons (o := _) rfl (fun K hK => ?_) AllReadyH.nil
        simp only [List.getElem_toArray, List.getElem_cons_zero, List.getElem_cons_succ]
        rw [if_pos (by rfl)]
        refine wp_store_blk 27 (.tmp 3) (.tmp 28) rfl g3 rfl _ rfl _ 27 ha3 (by rfl) (by kernel_rfl) (by kernel_rfl) ?_
        intro w13 hq gr
        replace pb := pb.away av_pb_a3 gr
        replace hp := blk_a hp gr d_p_a3
        replace ha5 := blk_a ha5 gr d_a5_a3
        replace ha4 := blk_a ha4 gr d_a4_a3
        replace bel := below_grown bel gr oa3 bel.size
        clear ha3
        have ha3 := hq
        clear hq gr
        refine hK.out _ _ hp (fun hH14 => ?_)
        clear hK K
        simp only [Act.put]
        refine wpAnyH_ready (rs := [7]) (by kernel_rfl) (by simp) ?_
        refine AllReadyH.cons (o := _) rfl (fun K hK => ?_) AllReadyH.nil
        simp only [List.getElem_toArray, List.getElem_cons_zero, List.getElem_cons_succ]
        rw [if_pos (by rfl)]
        refine wp_store_blk 27 (.tmp 4) (.tmp 29) rfl g4 rfl _ rfl _ 27 ha4 (by rfl) (by kernel_rfl) (by kernel_rfl) ?_
        intro w15 hq gr
        replace pb := pb.away av_pb_a4 gr
        replace hp := blk_a hp gr d_p_a4
        replace ha5 := blk_a ha5 gr d_a5_a4
        replace ha3 := blk_a ha3 gr (ne_symm d_a4_a3)
        replace bel := below_grown bel gr oa4 bel.size
        clear ha4
        have ha4 := hq
        clear hq gr
        refine hK.out _ _ hp (fun hH16 => ?_)
        clear hK K
        simp only [Act.put]
        refine wpAnyH_ready (rs := [8]) (by kernel_rfl) (by simp) ?_
        refine AllReadyH.cons (o := _) rfl (fun K hK => ?_) AllReadyH.nil
        simp only [List.getElem_toArray, List.getElem_cons_zero, List.getElem_cons_succ]
        rw [if_pos (by rfl)]
        refine wp_store_blk 27 (.tmp 5) (.tmp 30) rfl g5 rfl _ rfl _ 27 ha5 (by rfl) (by kernel_rfl) (by kernel_rfl) ?_
        intro w17 hq gr
        replace pb := pb.away av_pb_a5 gr
        replace hp := blk_a hp gr d_p_a5
        replace ha4 := blk_a ha4 gr (ne_symm d_a5_a4)
        replace ha3 := blk_a ha3 gr (ne_symm d_a5_a3)
        replace bel := below_grown bel gr oa5 bel.size
        clear ha5
        have ha5 := hq
        clear hq gr
        refine hK.out _ _ hp (fun hH18 => ?_)
        clear hK K
        simp only [Act.put]
        refine wpAnyH_done (by kernel_rfl) ?_ _
        go_wp2_with fail
        go_meet
        case rel => exact ⟨g3, g4, g5, rfl, rfl, rfl, hp, ha3, oa3, ha4, oa4, ha5, oa5, (ne_symm d_a4_a3), (ne_symm d_a5_a3), (ne_symm d_p_a3), (ne_symm d_a5_a4), (ne_symm d_p_a4), (ne_symm d_p_a5), pb, av_pb_a3, av_pb_a4, av_pb_a5, av_pb_p, bel⟩
  obtain ⟨w19, hw_⟩ : ∃ x, x = wc := ⟨_, rfl⟩
  subst hw_
  obtain ⟨g3, g4, g5, rfl, rfl, rfl, hp, ha3, oa3, ha4, oa4, ha5, oa5, d_a3_a4, d_a3_a5, d_a3_p, d_a4_a5, d_a4_p, d_a5_p, pb, av_pb_a3, av_pb_a4, av_pb_a5, av_pb_p, bel⟩ := hcut
  go_wp2_with (first | ((with_reducible show wpList _ _ _ (⟨none, Op.store _ (.tmp 31) _, _, _, _, _⟩ :: _) _ _); refine wpList_store_part rfl 3 (.tmp 31) (.const (.int .i64 1)) rfl g3 2 rfl [.int .i64 1] rfl [.int .i64 0, .int .i64 0, .int .i64 0, .int .i64 0, .int .i64 64, .int .i64 6, .int .u8 10, .int .u8 0, .int .u8 0, .int .u8 1, .int .u8 10, .int .u8 0, .int .u8 0, .int .u8 2, .slice Ao 0 co, .slice Ab 20 cb] 27 ha3 (by simp) [.int .i64 0, .int .i64 0, .int .i64 1, .int .i64 0, .int .i64 64, .int .i64 6, .int .u8 10, .int .u8 0, .int .u8 0, .int .u8 1, .int .u8 10, .int .u8 0, .int .u8 0, .int .u8 2, .slice Ao 0 co, .slice Ab 20 cb] rfl (by kernel_rfl) (by rfl) ?_; intro w20 hq gr; replace pb := pb.away av_pb_a3 gr; replace hp := blk_a hp gr (ne_symm d_a3_p); replace ha4 := blk_a ha4 gr (ne_symm d_a3_a4); replace ha5 := blk_a ha5 gr (ne_symm d_a3_a5); replace bel := below_grown bel gr oa3 bel.size; clear ha3; have ha3 := hq; clear hq gr; have R33 := cell_lit ha4 15 _ rfl; obtain ⟨A34, c34, r34, f34, u34⟩ := piece_front pb (k := 19) (by omega); replace r34 : ∀ W, (Instr.slice 25 (.slice Ab 20 cb) none (some (.int .i64 19)) none).run Try.prog W = .ok (.slice A34 19 c34) W := r34; have p9 := f34 _ pb; have av_p9_a3 := av_pb_a3.sub u34; have av_p9_a4 := av_pb_a4.sub u34; have av_p9_a5 := av_pb_a5.sub u34; have av_p9_p := av_pb_p.sub u34; clear f34 u34) | ((with_reducible show wpList _ _ _ (⟨none, Op.store _ (.tmp 35) _, _, _, _, _⟩ :: _) _ _); refine wpList_store_part rfl 25 (.tmp 35) (.tmp 34) rfl g4 15 rfl [.slice A34 19 c34] rfl [.int .i64 0, .int .i64 0, .int .i64 0, .int .i64 0, .int .i64 64, .int .i64 6, .int .u8 10, .int .u8 0, .int .u8 0, .int .u8 1, .int .u8 10, .int .u8 0, .int .u8 0, .int .u8 2, .slice Ao 0 co, .slice Ab 20 cb] 27 ha4 (by simp) [.int .i64 0, .int .i64 0, .int .i64 0, .int .i64 0, .int .i64 64, .int .i64 6, .int .u8 10, .int .u8 0, .int .u8 0, .int .u8 1, .int .u8 10, .int .u8 0, .int .u8 0, .int .u8 2, .slice Ao 0 co, .slice A34 19 c34] rfl (by kernel_rfl) (by rfl) ?_; intro w21 hq gr; replace pb := pb.away av_pb_a4 gr; replace p9 := p9.away av_p9_a4 gr; replace hp := blk_a hp gr (ne_symm d_a4_p); replace ha3 := blk_a ha3 gr d_a3_a4; replace ha5 := blk_a ha5 gr (ne_symm d_a4_a5); replace bel := below_grown bel gr oa4 bel.size; clear ha4; have ha4 := hq; clear hq gr) | ((with_reducible show wpList _ _ _ (⟨some 36, _, _, _, _, _⟩ :: _) _ _); refine wpList_lit_n rfl 25 5 0 _ rfl #[] (.int .u8 0) Try.underlying25 (by kernel_rfl) 1 (by kernel_rfl) (by decide) (by kernel_rfl) ?_; intro g36 w22 ge lt hh bb; have hl : w22.heap[g36]? = some (.cells (([] : List UInt8).map u8v).toArray 5 (0, 0)) := (by simpa [u8v, byteOf_val] using hh); have e0w := own_lit (B := w21.heap.size) ([]) hl ge 0 rfl (by simp [maxLen]); have e0 := (own_sl e0w).1; have e0lo := bel.size; clear hl; have e0ge := ge; have lz_e0 := bb.size; have y_e0_p := Lib.hid (hlt hp); have y_e0_a3 := Lib.hid (hlt ha3); have y_e0_a4 := Lib.hid (hlt ha4); have y_e0_a5 := Lib.hid (hlt ha5); have bl_pb_e0 := pb.bl_new; have bl_p9_e0 := p9.bl_new; replace hp := blk_u hp bb; replace ha3 := blk_u ha3 bb; replace ha4 := blk_u ha4 bb; replace ha5 := blk_u ha5 bb; replace pb := pb.below bb; replace p9 := p9.below bb; replace bel := bel.trans (bb.mono bel.size); clear hh lt ge bb; have av_e0_p := (own_sl e0w).2.av y_e0_p.out; have av_e0_a3 := (own_sl e0w).2.av y_e0_a3.out; have av_e0_a4 := (own_sl e0w).2.av y_e0_a4.out; have av_e0_a5 := (own_sl e0w).2.av y_e0_a5.out; have R38 := cell_lit hp 15 _ rfl) | ((with_reducible show wpList _ _ _ (⟨some 39, _, _, _, _, _⟩ :: _) _ _); refine wpList_append_bb _ rfl (.tmp 36) (.tmp 38) 25 rfl (w21.heap.size) 5 ii (.int .u8 0) Try.underlying25 hii hz0 hz1 hz2 rfl _ (0) ([]) rfl e0w (Ab) (20) (cb) (pb8) rfl pb (by omega) lz_e0 ?_; intro v39 w23 own_ bb; replace pb := pb.under bl_pb_e0 bb; replace p9 := p9.under bl_p9_e0 bb; replace hp := blk_under hp bb y_e0_p.out; replace ha3 := blk_under ha3 bb y_e0_a3.out; replace ha4 := blk_under ha4 bb y_e0_a4.out; replace ha5 := blk_under ha5 bb y_e0_a5.out; replace bel := bel.trans (bb.mono e0lo); have lz_tb := Nat.le_trans lz_e0 bb.size; clear bb; clear e0 e0w lz_e0; replace own_ : w23.ownsRow (w21.heap.size) 5 1 v39 (20) ((pb8 : List UInt8).map u8v) := (by simpa using own_); obtain ⟨A39, c39, rfl⟩ := own_val own_; have tbw := own_; have tb := (own_sl own_).1; have fr_tb := (own_sl own_).2; clear own_; have av_tb_p := fr_tb.av y_e0_p.out; have av_tb_a3 := fr_tb.av y_e0_a3.out; have av_tb_a4 := fr_tb.av y_e0_a4.out; have av_tb_a5 := fr_tb.av y_e0_a5.out; obtain ⟨gb, cg, eg, tbge, tblt, tbnc, tbcm⟩ := own_at tbw (by omega); injection eg with eg1 _ eg3; subst eg1; subst eg3) | ((with_reducible show wpList _ _ _ (⟨none, Op.store _ (.tmp 40) _, _, _, _, _⟩ :: _) _ _); refine wpList_store_part rfl 25 (.tmp 40) (.tmp 39) rfl g5 15 rfl [.slice (some ⟨gb, 0, none⟩) 20 c39] rfl [.int .i64 0, .int .i64 0, .int .i64 0, .int .i64 0, .int .i64 64, .int .i64 6, .int .u8 10, .int .u8 0, .int .u8 0, .int .u8 1, .int .u8 10, .int .u8 0, .int .u8 0, .int .u8 2, .slice Ao 0 co, .slice Ab 20 cb] 27 ha5 (by simp) [.int .i64 0, .int .i64 0, .int .i64 0, .int .i64 0, .int .i64 64, .int .i64 6, .int .u8 10, .int .u8 0, .int .u8 0, .int .u8 1, .int .u8 10, .int .u8 0, .int .u8 0, .int .u8 2, .slice Ao 0 co, .slice (some ⟨gb, 0, none⟩) 20 c39] rfl (by kernel_rfl) (by rfl) ?_; intro w24 hq gr; replace pb := pb.away av_pb_a5 gr; replace p9 := p9.away av_p9_a5 gr; replace tb := tb.away av_tb_a5 gr; replace tbw := own_away tbw y_e0_a5.out gr; replace lz_tb := Nat.le_trans lz_tb gr.size; replace hp := blk_a hp gr (ne_symm d_a5_p); replace ha3 := blk_a ha3 gr d_a3_a5; replace ha4 := blk_a ha4 gr d_a4_a5; replace bel := below_grown bel gr oa5 bel.size; clear ha5; have ha5 := hq; clear hq gr; have R42 := cell_lit ha5 15 _ rfl) | ((with_reducible show wpList _ _ _ (⟨none, Op.store _ (.tmp 43) _, _, _, _, _⟩ :: _) _ _); refine wpList_store_byte rfl 5 (.tmp 43) (.const (.int .u8 1)) rfl (w21.heap.size) 5 gb 0 (20) (c39) (pb8) (1) rfl rfl tbw (by omega) (by kernel_rfl) ?_; intro w25 own_ gr; replace pb := pb.away (bl_pb_e0.av tbge) gr; replace p9 := p9.away (bl_p9_e0.av tbge) gr; replace hp := blk_a hp gr (ne_new y_e0_p.out tbge); replace ha3 := blk_a ha3 gr (ne_new y_e0_a3.out tbge); replace ha4 := blk_a ha4 gr (ne_new y_e0_a4.out tbge); replace ha5 := blk_a ha5 gr (ne_new y_e0_a5.out tbge); replace bel := below_grown bel gr (Nat.le_trans e0lo tbge) bel.size; replace lz_tb := Nat.le_trans lz_tb gr.size; clear gr tb tbw; have tbw := own_; have tb := (own_sl own_).1; clear own_; have R45 := Lib.hid (range_lit ha3 0 16 [.int .i64 0, .int .i64 0, .int .i64 1, .int .i64 0, .int .i64 64, .int .i64 6, .int .u8 10, .int .u8 0, .int .u8 0, .int .u8 1, .int .u8 10, .int .u8 0, .int .u8 0, .int .u8 2, .slice Ao 0 co, .slice Ab 20 cb] rfl)) | ((with_reducible show wpList _ _ _ (⟨some 45, _, _, _, _, _⟩ :: _) _ _); refine wpList_load_rng 27 (.tmp 3) rfl (by kernel_rfl) _ _ rfl _ R45.out _ Try.underlying27 rfl (by kernel_rfl) ?_))
  try clear R33
  try clear R38
  try clear R42
  try clear R45
  with_reducible refine (kget_er _ _ _ _ _ _ 1 _ 10 _ pb (by omega) k8_1).mono ?_
  rintro e w26 ⟨x01, x11, x21, x31, x41, x51, x61, D1, m1, d1, E1, n1, e1, rfl, b26⟩
  replace hp := blk_u hp b26
  replace ha3 := blk_u ha3 b26
  replace ha4 := blk_u ha4 b26
  replace ha5 := blk_u ha5 b26
  replace pb := pb.below b26
  replace p9 := p9.below b26
  replace tb := tb.below b26
  replace tbw := own_under tbw b26
  replace lz_tb := Nat.le_trans lz_tb b26.size
  replace bel := bel.trans (b26.mono bel.size)
  clear b26
  go_wp2_with (first | ((with_reducible show wpList _ _ _ (⟨some 6, _, _, _, _, _⟩ :: _) _ _); refine wpList_new_a rfl 34 rfl #[.int .i64 0, .int .i64 0, .int .u32 0, .int .u32 0, .int .i64 0, .int .i64 0, .int .i64 0, .slice none 0 0, .slice none 0 0] (by kernel_rfl) ?_; intro g6 w27 ge hh bb; have d_p_k6 := ne_new (hlt hp) ge; have d_a3_k6 := ne_new (hlt ha3) ge; have d_a4_k6 := ne_new (hlt ha4) ge; have d_a5_k6 := ne_new (hlt ha5) ge; have av_pb_k6 := pb.av_new ge; have av_p9_k6 := p9.av_new ge; have av_tb_k6 := tb.av_new ge; have of_tb_k6 := own_new tbw ge; have ok6 := Nat.le_trans bel.size ge; replace hp := blk_u hp bb; replace ha3 := blk_u ha3 bb; replace ha4 := blk_u ha4 bb; replace ha5 := blk_u ha5 bb; replace pb := pb.below bb; replace p9 := p9.below bb; replace tb := tb.below bb; replace tbw := own_under tbw bb; replace lz_tb := Nat.le_trans lz_tb bb.size; replace bel := bel.trans (bb.mono bel.size); have hk6 := hh; clear hh ge bb) | ((with_reducible show wpList _ _ _ (⟨none, Op.store _ (.tmp 6) _, _, _, _, _⟩ :: _) _ _); refine wpList_store_blk rfl 34 (.tmp 6) (.tmp 47) rfl g6 rfl _ rfl _ 34 hk6 (by rfl) (by kernel_rfl) (by kernel_rfl) ?_; intro w28 hq gr; replace pb := pb.away av_pb_k6 gr; replace p9 := p9.away av_p9_k6 gr; replace tb := tb.away av_tb_k6 gr; replace tbw := own_off tbw of_tb_k6 gr; replace lz_tb := Nat.le_trans lz_tb gr.size; replace hp := blk_a hp gr d_p_k6; replace ha3 := blk_a ha3 gr d_a3_k6; replace ha4 := blk_a ha4 gr d_a4_k6; replace ha5 := blk_a ha5 gr d_a5_k6; replace bel := below_grown bel gr ok6 bel.size; clear hk6; have hk6 := hq; clear hq gr; have R50 := Lib.hid (range_lit ha4 0 16 [.int .i64 0, .int .i64 0, .int .i64 0, .int .i64 0, .int .i64 64, .int .i64 6, .int .u8 10, .int .u8 0, .int .u8 0, .int .u8 1, .int .u8 10, .int .u8 0, .int .u8 0, .int .u8 2, .slice Ao 0 co, .slice A34 19 c34] rfl)) | ((with_reducible show wpList _ _ _ (⟨some 50, _, _, _, _, _⟩ :: _) _ _); refine wpList_load_rng 27 (.tmp 4) rfl (by kernel_rfl) _ _ rfl _ R50.out _ Try.underlying27 rfl (by kernel_rfl) ?_))
  try clear R50
  with_reducible refine (kget_er _ _ _ _ _ _ 0 _ 3 _ p9 (by omega) k8_2).mono ?_
  rintro e w29 ⟨x02, x12, x22, x32, x42, x52, x62, D2, m2, d2, E2, n2, e2, rfl, b29⟩
  replace hp := blk_u hp b29
  replace ha3 := blk_u ha3 b29
  replace ha4 := blk_u ha4 b29
  replace ha5 := blk_u ha5 b29
  replace hk6 := blk_u hk6 b29
  replace pb := pb.below b29
  replace p9 := p9.below b29
  replace tb := tb.below b29
  replace tbw := own_under tbw b29
  replace lz_tb := Nat.le_trans lz_tb b29.size
  replace bel := bel.trans (b29.mono bel.size)
  clear b29
  go_wp2_with (first | ((with_reducible show wpList _ _ _ (⟨some 8, _, _, _, _, _⟩ :: _) _ _); refine wpList_new_a rfl 34 rfl #[.int .i64 0, .int .i64 0, .int .u32 0, .int .u32 0, .int .i64 0, .int .i64 0, .int .i64 0, .slice none 0 0, .slice none 0 0] (by kernel_rfl) ?_; intro g8 w30 ge hh bb; have d_p_k8 := ne_new (hlt hp) ge; have d_a3_k8 := ne_new (hlt ha3) ge; have d_a4_k8 := ne_new (hlt ha4) ge; have d_a5_k8 := ne_new (hlt ha5) ge; have d_k6_k8 := ne_new (hlt hk6) ge; have av_pb_k8 := pb.av_new ge; have av_p9_k8 := p9.av_new ge; have av_tb_k8 := tb.av_new ge; have of_tb_k8 := own_new tbw ge; have ok8 := Nat.le_trans bel.size ge; replace hp := blk_u hp bb; replace ha3 := blk_u ha3 bb; replace ha4 := blk_u ha4 bb; replace ha5 := blk_u ha5 bb; replace hk6 := blk_u hk6 bb; replace pb := pb.below bb; replace p9 := p9.below bb; replace tb := tb.below bb; replace tbw := own_under tbw bb; replace lz_tb := Nat.le_trans lz_tb bb.size; replace bel := bel.trans (bb.mono bel.size); have hk8 := hh; clear hh ge bb) | ((with_reducible show wpList _ _ _ (⟨none, Op.store _ (.tmp 8) _, _, _, _, _⟩ :: _) _ _); refine wpList_store_blk rfl 34 (.tmp 8) (.tmp 52) rfl g8 rfl _ rfl _ 34 hk8 (by rfl) (by kernel_rfl) (by kernel_rfl) ?_; intro w31 hq gr; replace pb := pb.away av_pb_k8 gr; replace p9 := p9.away av_p9_k8 gr; replace tb := tb.away av_tb_k8 gr; replace tbw := own_off tbw of_tb_k8 gr; replace lz_tb := Nat.le_trans lz_tb gr.size; replace hp := blk_a hp gr d_p_k8; replace ha3 := blk_a ha3 gr d_a3_k8; replace ha4 := blk_a ha4 gr d_a4_k8; replace ha5 := blk_a ha5 gr d_a5_k8; replace hk6 := blk_a hk6 gr d_k6_k8; replace bel := below_grown bel gr ok8 bel.size; clear hk8; have hk8 := hq; clear hq gr; have R55 := Lib.hid (range_lit ha5 0 16 [.int .i64 0, .int .i64 0, .int .i64 0, .int .i64 0, .int .i64 64, .int .i64 6, .int .u8 10, .int .u8 0, .int .u8 0, .int .u8 1, .int .u8 10, .int .u8 0, .int .u8 0, .int .u8 2, .slice Ao 0 co, .slice (some ⟨gb, 0, none⟩) 20 c39] rfl)) | ((with_reducible show wpList _ _ _ (⟨some 55, _, _, _, _, _⟩ :: _) _ _); refine wpList_load_rng 27 (.tmp 5) rfl (by kernel_rfl) _ _ rfl _ R55.out _ Try.underlying27 rfl (by kernel_rfl) ?_))
  try clear R55
  with_reducible refine (kget_er _ _ _ _ _ _ 0 _ 5 _ tb (by omega) k8_3).mono ?_
  rintro e w32 ⟨x03, x13, x23, x33, x43, x53, x63, D3, m3, d3, E3, n3, e3, rfl, b32⟩
  replace hp := blk_u hp b32
  replace ha3 := blk_u ha3 b32
  replace ha4 := blk_u ha4 b32
  replace ha5 := blk_u ha5 b32
  replace hk6 := blk_u hk6 b32
  replace hk8 := blk_u hk8 b32
  replace pb := pb.below b32
  replace p9 := p9.below b32
  replace tb := tb.below b32
  replace tbw := own_under tbw b32
  replace lz_tb := Nat.le_trans lz_tb b32.size
  replace bel := bel.trans (b32.mono bel.size)
  clear b32
  go_wp2_with (first | ((with_reducible show wpList _ _ _ (⟨some 10, _, _, _, _, _⟩ :: _) _ _); refine wpList_new_a rfl 34 rfl #[.int .i64 0, .int .i64 0, .int .u32 0, .int .u32 0, .int .i64 0, .int .i64 0, .int .i64 0, .slice none 0 0, .slice none 0 0] (by kernel_rfl) ?_; intro g10 w33 ge hh bb; have d_p_k10 := ne_new (hlt hp) ge; have d_a3_k10 := ne_new (hlt ha3) ge; have d_a4_k10 := ne_new (hlt ha4) ge; have d_a5_k10 := ne_new (hlt ha5) ge; have d_k6_k10 := ne_new (hlt hk6) ge; have d_k8_k10 := ne_new (hlt hk8) ge; have av_pb_k10 := pb.av_new ge; have av_p9_k10 := p9.av_new ge; have av_tb_k10 := tb.av_new ge; have of_tb_k10 := own_new tbw ge; have ok10 := Nat.le_trans bel.size ge; replace hp := blk_u hp bb; replace ha3 := blk_u ha3 bb; replace ha4 := blk_u ha4 bb; replace ha5 := blk_u ha5 bb; replace hk6 := blk_u hk6 bb; replace hk8 := blk_u hk8 bb; replace pb := pb.below bb; replace p9 := p9.below bb; replace tb := tb.below bb; replace tbw := own_under tbw bb; replace lz_tb := Nat.le_trans lz_tb bb.size; replace bel := bel.trans (bb.mono bel.size); have hk10 := hh; clear hh ge bb) | ((with_reducible show wpList _ _ _ (⟨none, Op.store _ (.tmp 10) _, _, _, _, _⟩ :: _) _ _); refine wpList_store_blk rfl 34 (.tmp 10) (.tmp 57) rfl g10 rfl _ rfl _ 34 hk10 (by rfl) (by kernel_rfl) (by kernel_rfl) ?_; intro w34 hq gr; replace pb := pb.away av_pb_k10 gr; replace p9 := p9.away av_p9_k10 gr; replace tb := tb.away av_tb_k10 gr; replace tbw := own_off tbw of_tb_k10 gr; replace lz_tb := Nat.le_trans lz_tb gr.size; replace hp := blk_a hp gr d_p_k10; replace ha3 := blk_a ha3 gr d_a3_k10; replace ha4 := blk_a ha4 gr d_a4_k10; replace ha5 := blk_a ha5 gr d_a5_k10; replace hk6 := blk_a hk6 gr d_k6_k10; replace hk8 := blk_a hk8 gr d_k8_k10; replace bel := below_grown bel gr ok10 bel.size; clear hk10; have hk10 := hq; clear hq gr; have R60 := cell_lit ha5 15 _ rfl) | ((with_reducible show wpList _ _ _ (⟨none, Op.store _ (.tmp 61) _, _, _, _, _⟩ :: _) _ _); refine wpList_store_byte rfl 5 (.tmp 61) (.const (.int .u8 64)) rfl (w21.heap.size) 5 gb 12 (20) (c39) ((pb8).set 0 1) (64) rfl rfl tbw (by omega) (by kernel_rfl) ?_; intro w35 own_ gr; replace pb := pb.away (bl_pb_e0.av tbge) gr; replace p9 := p9.away (bl_p9_e0.av tbge) gr; replace hp := blk_a hp gr (ne_new y_e0_p.out tbge); replace ha3 := blk_a ha3 gr (ne_new y_e0_a3.out tbge); replace ha4 := blk_a ha4 gr (ne_new y_e0_a4.out tbge); replace ha5 := blk_a ha5 gr (ne_new y_e0_a5.out tbge); clear hk6; clear hk8; clear hk10; replace bel := below_grown bel gr (Nat.le_trans e0lo tbge) bel.size; replace lz_tb := Nat.le_trans lz_tb gr.size; clear gr tb tbw; have tbw := own_; have tb := (own_sl own_).1; clear own_; have R63 := Lib.hid (range_lit ha5 0 16 [.int .i64 0, .int .i64 0, .int .i64 0, .int .i64 0, .int .i64 64, .int .i64 6, .int .u8 10, .int .u8 0, .int .u8 0, .int .u8 1, .int .u8 10, .int .u8 0, .int .u8 0, .int .u8 2, .slice Ao 0 co, .slice (some ⟨gb, 0, none⟩) 20 c39] rfl)) | ((with_reducible show wpList _ _ _ (⟨some 63, _, _, _, _, _⟩ :: _) _ _); refine wpList_load_rng 27 (.tmp 5) rfl (by kernel_rfl) _ _ rfl _ R63.out _ Try.underlying27 rfl (by kernel_rfl) ?_))
  try clear R60
  try clear R63
  with_reducible refine (kget_er _ _ _ _ _ _ 0 _ 4 _ tb (by omega) k8_4).mono ?_
  rintro e w36 ⟨x04, x14, x24, x34, x44, x54, x64, D4, m4, d4, E4, n4, e4, rfl, b36⟩
  replace hp := blk_u hp b36
  replace ha3 := blk_u ha3 b36
  replace ha4 := blk_u ha4 b36
  replace ha5 := blk_u ha5 b36
  replace pb := pb.below b36
  replace p9 := p9.below b36
  replace tb := tb.below b36
  replace tbw := own_under tbw b36
  replace lz_tb := Nat.le_trans lz_tb b36.size
  replace bel := bel.trans (b36.mono bel.size)
  clear b36
  go_wp2_with (first | ((with_reducible show wpList _ _ _ (⟨some 12, _, _, _, _, _⟩ :: _) _ _); refine wpList_new_a rfl 34 rfl #[.int .i64 0, .int .i64 0, .int .u32 0, .int .u32 0, .int .i64 0, .int .i64 0, .int .i64 0, .slice none 0 0, .slice none 0 0] (by kernel_rfl) ?_; intro g12 w37 ge hh bb; have d_p_k12 := ne_new (hlt hp) ge; have d_a3_k12 := ne_new (hlt ha3) ge; have d_a4_k12 := ne_new (hlt ha4) ge; have d_a5_k12 := ne_new (hlt ha5) ge; have av_pb_k12 := pb.av_new ge; have av_p9_k12 := p9.av_new ge; have av_tb_k12 := tb.av_new ge; have of_tb_k12 := own_new tbw ge; have ok12 := Nat.le_trans bel.size ge; replace hp := blk_u hp bb; replace ha3 := blk_u ha3 bb; replace ha4 := blk_u ha4 bb; replace ha5 := blk_u ha5 bb; replace pb := pb.below bb; replace p9 := p9.below bb; replace tb := tb.below bb; replace tbw := own_under tbw bb; replace lz_tb := Nat.le_trans lz_tb bb.size; replace bel := bel.trans (bb.mono bel.size); have hk12 := hh; clear hh ge bb) | ((with_reducible show wpList _ _ _ (⟨none, Op.store _ (.tmp 12) _, _, _, _, _⟩ :: _) _ _); refine wpList_store_blk rfl 34 (.tmp 12) (.tmp 65) rfl g12 rfl _ rfl _ 34 hk12 (by rfl) (by kernel_rfl) (by kernel_rfl) ?_; intro w38 hq gr; replace pb := pb.away av_pb_k12 gr; replace p9 := p9.away av_p9_k12 gr; replace tb := tb.away av_tb_k12 gr; replace tbw := own_off tbw of_tb_k12 gr; replace lz_tb := Nat.le_trans lz_tb gr.size; replace hp := blk_a hp gr d_p_k12; replace ha3 := blk_a ha3 gr d_a3_k12; replace ha4 := blk_a ha4 gr d_a4_k12; replace ha5 := blk_a ha5 gr d_a5_k12; replace bel := below_grown bel gr ok12 bel.size; clear hk12; have hk12 := hq; clear hq gr))
  with_reducible refine (base8 _).mono ?_
  rintro e w39 ⟨rfl, b39⟩
  replace hp := blk_u hp b39
  replace ha3 := blk_u ha3 b39
  replace ha4 := blk_u ha4 b39
  replace ha5 := blk_u ha5 b39
  replace hk12 := blk_u hk12 b39
  replace pb := pb.below b39
  replace p9 := p9.below b39
  replace tb := tb.below b39
  replace tbw := own_under tbw b39
  replace lz_tb := Nat.le_trans lz_tb b39.size
  replace bel := bel.trans (b39.mono bel.size)
  clear b39
  go_wp2_with fail
  with_reducible refine (kput_er 0 0 0 0 64 0 0 _ _ _ _ _ _ _ _ 1 _ (Sl.nil _) (Sl.nil _) (by omega) (by decide) (by decide) (by decide) (by decide) k8_5).mono ?_
  rintro e w40 ⟨f06, f16, f26, f36, f46, f56, j06, j16, j26, j36, j46, j56, j66, j76, Ao6, no6, co6, Ab6, nb6, cb6, rfl, b40⟩
  replace hp := blk_u hp b40
  replace ha3 := blk_u ha3 b40
  replace ha4 := blk_u ha4 b40
  replace ha5 := blk_u ha5 b40
  replace hk12 := blk_u hk12 b40
  replace pb := pb.below b40
  replace p9 := p9.below b40
  replace tb := tb.below b40
  replace tbw := own_under tbw b40
  replace lz_tb := Nat.le_trans lz_tb b40.size
  replace bel := bel.trans (b40.mono bel.size)
  clear b40
  go_wp2_with (first | ((with_reducible show wpList _ _ _ (⟨some 14, _, _, _, _, _⟩ :: _) _ _); refine wpList_new_a rfl 27 rfl #[.int .i64 0, .int .i64 0, .int .i64 0, .int .i64 0, .int .i64 0, .int .i64 0, .int .u8 0, .int .u8 0, .int .u8 0, .int .u8 0, .int .u8 0, .int .u8 0, .int .u8 0, .int .u8 0, .slice none 0 0, .slice none 0 0] (by kernel_rfl) ?_; intro g14 w41 ge hh bb; have d_p_k14 := ne_new (hlt hp) ge; have d_a3_k14 := ne_new (hlt ha3) ge; have d_a4_k14 := ne_new (hlt ha4) ge; have d_a5_k14 := ne_new (hlt ha5) ge; have d_k12_k14 := ne_new (hlt hk12) ge; have av_pb_k14 := pb.av_new ge; have av_p9_k14 := p9.av_new ge; have av_tb_k14 := tb.av_new ge; have of_tb_k14 := own_new tbw ge; have ok14 := Nat.le_trans bel.size ge; replace hp := blk_u hp bb; replace ha3 := blk_u ha3 bb; replace ha4 := blk_u ha4 bb; replace ha5 := blk_u ha5 bb; replace hk12 := blk_u hk12 bb; replace pb := pb.below bb; replace p9 := p9.below bb; replace tb := tb.below bb; replace tbw := own_under tbw bb; replace lz_tb := Nat.le_trans lz_tb bb.size; replace bel := bel.trans (bb.mono bel.size); have hk14 := hh; clear hh ge bb) | ((with_reducible show wpList _ _ _ (⟨none, Op.store _ (.tmp 14) _, _, _, _, _⟩ :: _) _ _); refine wpList_store_blk rfl 27 (.tmp 14) (.tmp 71) rfl g14 rfl _ rfl _ 27 hk14 (by rfl) (by kernel_rfl) (by kernel_rfl) ?_; intro w42 hq gr; replace pb := pb.away av_pb_k14 gr; replace p9 := p9.away av_p9_k14 gr; replace tb := tb.away av_tb_k14 gr; replace tbw := own_off tbw of_tb_k14 gr; replace lz_tb := Nat.le_trans lz_tb gr.size; replace hp := blk_a hp gr d_p_k14; replace ha3 := blk_a ha3 gr d_a3_k14; replace ha4 := blk_a ha4 gr d_a4_k14; replace ha5 := blk_a ha5 gr d_a5_k14; replace hk12 := blk_a hk12 gr d_k12_k14; replace bel := below_grown bel gr ok14 bel.size; clear hk14; have hk14 := hq; clear hq gr))
  go_cut [17] from 9999 (fun s17 W => ∃ g16 : Nat, ∃ f07 : Int, ∃ f17 : Int, ∃ f27 : Int, ∃ f37 : Int, ∃ f47 : Int, ∃ f57 : Int, ∃ j07 : UInt8, ∃ j17 : UInt8, ∃ j27 : UInt8, ∃ j37 : UInt8, ∃ j47 : UInt8, ∃ j57 : UInt8, ∃ j67 : UInt8, ∃ j77 : UInt8, ∃ Ao7 : Option Addr, ∃ no7 : Nat, ∃ co7 : Nat, ∃ Ab7 : Option Addr, ∃ nb7 : Nat, ∃ cb7 : Nat, s17 = .int .i64 1 ∧ W.heap[g1]? = some (.cells #[.int .i64 0, .int .i64 0, .int .i64 0, .int .i64 0, .int .i64 64, .int .i64 6, .int .u8 10, .int .u8 0, .int .u8 0, .int .u8 1, .int .u8 10, .int .u8 0, .int .u8 0, .int .u8 2, .slice Ao 0 co, .slice Ab 20 cb] 27 (0, 0)) ∧ W.heap[g3]? = some (.cells #[.int .i64 0, .int .i64 0, .int .i64 1, .int .i64 0, .int .i64 64, .int .i64 6, .int .u8 10, .int .u8 0, .int .u8 0, .int .u8 1, .int .u8 10, .int .u8 0, .int .u8 0, .int .u8 2, .slice Ao 0 co, .slice Ab 20 cb] 27 (0, 0)) ∧ W.heap[g4]? = some (.cells #[.int .i64 0, .int .i64 0, .int .i64 0, .int .i64 0, .int .i64 64, .int .i64 6, .int .u8 10, .int .u8 0, .int .u8 0, .int .u8 1, .int .u8 10, .int .u8 0, .int .u8 0, .int .u8 2, .slice Ao 0 co, .slice A34 19 c34] 27 (0, 0)) ∧ W.heap[g5]? = some (.cells #[.int .i64 0, .int .i64 0, .int .i64 0, .int .i64 0, .int .i64 64, .int .i64 6, .int .u8 10, .int .u8 0, .int .u8 0, .int .u8 1, .int .u8 10, .int .u8 0, .int .u8 0, .int .u8 2, .slice Ao 0 co, .slice (some ⟨gb, 0, none⟩) 20 c39] 27 (0, 0)) ∧ W.heap[g12]? = some (.cells #[.int .i64 x04, .int .i64 x14, .int .u32 x24, .int .u32 x34, .int .i64 x44, .int .i64 x54, .int .i64 x64, .slice D4 m4 d4, .slice E4 n4 e4] 34 (0, 0)) ∧ W.heap[g14]? = some (.cells #[.int .i64 f06, .int .i64 f16, .int .i64 f26, .int .i64 f36, .int .i64 f46, .int .i64 f56, .int .u8 (j06.toNat : Int), .int .u8 (j16.toNat : Int), .int .u8 (j26.toNat : Int), .int .u8 (j36.toNat : Int), .int .u8 (j46.toNat : Int), .int .u8 (j56.toNat : Int), .int .u8 (j66.toNat : Int), .int .u8 (j76.toNat : Int), .slice Ao6 no6 co6, .slice Ab6 nb6 cb6] 27 (0, 0)) ∧ W.heap[g16]? = some (.cells #[.int .i64 f07, .int .i64 f17, .int .i64 f27, .int .i64 f37, .int .i64 f47, .int .i64 f57, .int .u8 (j07.toNat : Int), .int .u8 (j17.toNat : Int), .int .u8 (j27.toNat : Int), .int .u8 (j37.toNat : Int), .int .u8 (j47.toNat : Int), .int .u8 (j57.toNat : Int), .int .u8 (j67.toNat : Int), .int .u8 (j77.toNat : Int), .slice Ao7 no7 co7, .slice Ab7 nb7 cb7] 27 (0, 0)) ∧ w.heap.size ≤ g16 ∧ Hid (g3 ≠ g4) ∧ Hid (g3 ≠ g5) ∧ Hid (g3 ≠ g12) ∧ Hid (g3 ≠ g14) ∧ Hid (g3 ≠ g16) ∧ Hid (g3 ≠ g1) ∧ Hid (g4 ≠ g5) ∧ Hid (g4 ≠ g12) ∧ Hid (g4 ≠ g14) ∧ Hid (g4 ≠ g16) ∧ Hid (g4 ≠ g1) ∧ Hid (g5 ≠ g12) ∧ Hid (g5 ≠ g14) ∧ Hid (g5 ≠ g16) ∧ Hid (g5 ≠ g1) ∧ Hid (g12 ≠ g14) ∧ Hid (g12 ≠ g16) ∧ Hid (g12 ≠ g1) ∧ Hid (g14 ≠ g16) ∧ Hid (g14 ≠ g1) ∧ Hid (g16 ≠ g1) ∧ Sl W (Ab) (20) (cb) (pb8) ∧ Av (Ab) (20) g3 ∧ Av (Ab) (20) g4 ∧ Av (Ab) (20) g5 ∧ Av (Ab) (20) g12 ∧ Av (Ab) (20) g14 ∧ Av (Ab) (20) g16 ∧ Av (Ab) (20) g1 ∧ Sl W (A34) (19) (c34) ((pb8).take (19)) ∧ Av (A34) (19) g3 ∧ Av (A34) (19) g4 ∧ Av (A34) (19) g5 ∧ Av (A34) (19) g12 ∧ Av (A34) (19) g14 ∧ Av (A34) (19) g16 ∧ Av (A34) (19) g1 ∧ Sl W (some ⟨gb, 0, none⟩) (20) (c39) (((pb8).set 0 1).set 12 64) ∧ Av (some ⟨gb, 0, none⟩) (20) g3 ∧ Av (some ⟨gb, 0, none⟩) (20) g4 ∧ Av (some ⟨gb, 0, none⟩) (20) g5 ∧ Av (some ⟨gb, 0, none⟩) (20) g12 ∧ Av (some ⟨gb, 0, none⟩) (20) g14 ∧ Av (some ⟨gb, 0, none⟩) (20) g16 ∧ Av (some ⟨gb, 0, none⟩) (20) g1 ∧ Below w.heap.size w W)
  case first =>
    replace bel := bel.drew
    replace hp : w42.drew.heap[g1]? = _ := hp
    replace ha3 : w42.drew.heap[g3]? = _ := ha3
    replace ha4 : w42.drew.heap[g4]? = _ := ha4
    replace ha5 : w42.drew.heap[g5]? = _ := ha5
    replace hk12 : w42.drew.heap[g12]? = _ := hk12
    replace hk14 : w42.drew.heap[g14]? = _ := hk14
    replace pb := pb.drew
    replace p9 := p9.drew
    replace tb := tb.drew
    replace tbw : w42.drew.ownsRow _ _ _ _ _ _ := tbw
    replace lz_tb : _ ≤ w42.drew.heap.size := lz_tb
    refine wp_region_held_drew (S := fun _ => True) (by kernel_rfl) trivial (fun hH => ?_)
    generalize w42.drew = w43 at bel hp ha3 ha4 ha5 hk12 hk14 pb p9 tb tbw lz_tb hH ⊢
    refine wpAnyH_ready (rs := [0, 1, 7]) (by kernel_rfl) (by simp) ?_
    refine AllReadyH.cons (o := _) rfl (fun K hK => ?_) (AllReadyH.cons (o := _) rfl (fun K hK => ?_) (AllReadyH.cons (o := _) rfl (fun K hK => ?_) AllReadyH.nil))
    · simp only [List.getElem_toArray, List.getElem_cons_zero]
      go_simp
      with_reducible refine (base8 _).mono ?_
      rintro e w44 ⟨rfl, b44⟩
      dsimp only
      replace hp := blk_u hp b44
      replace ha3 := blk_u ha3 b44
      replace ha4 := blk_u ha4 b44
      replace ha5 := blk_u ha5 b44
      replace hk12 := blk_u hk12 b44
      replace hk14 := blk_u hk14 b44
      replace pb := pb.below b44
      replace p9 := p9.below b44
      replace tb := tb.below b44
      replace tbw := own_under tbw b44
      replace lz_tb := Nat.le_trans lz_tb b44.size
      replace bel := bel.trans (b44.mono bel.size)
      clear b44
      refine hK.out _ _ trivial (fun hH45 => ?_)
      clear hK K
      refine wpAnyH_ready (rs := [1, 7]) (by kernel_rfl) (by simp) ?_
      refine AllReadyH.cons (o := _) rfl (fun K hK => ?_) (AllReadyH.cons (o := _) rfl (fun K hK => ?_) AllReadyH.nil)
      · simp only [List.getElem_toArray, List.getElem_cons_zero, List.getElem_cons_succ]
        rw [if_pos (by rfl)]
        refine wp_make_g (.const (.int .i64 44)) (.const (.int .i64 44)) 25 rfl 5 ii Try.underlying25 hii hz0 hz1 hz2 .i64 .i64 _ _ (44) rfl rfl rfl rfl (by omega) ?_
        intro g75 w46 ge sm bb
        replace hp := blk_u hp bb
        replace ha3 := blk_u ha3 bb
        replace ha4 := blk_u ha4 bb
        replace ha5 := blk_u ha5 bb
        replace hk12 := blk_u hk12 bb
        replace hk14 := blk_u hk14 bb
        replace pb := pb.below bb
        replace p9 := p9.below bb
        replace tb := tb.below bb
        replace tbw := own_under tbw bb
        replace lz_tb := Nat.le_trans lz_tb bb.size
        replace bel := bel.trans (bb.mono bel.size)
        have mk := sm
        clear sm ge bb
        refine hK.out _ _ trivial (fun hH47 => ?_)
        clear hK K
        simp only [Act.put, List.setIfInBounds_toArray, List.set_cons_zero, List.set_cons_succ]
        refine wpAnyH_take (i := 2) (v := ?_) rfl (by kernel_rfl) (by kernel_rfl) (by kernel_rfl) (fun _ _ _ h => h) (Or.inl ⟨by rfl, ?_⟩) hH47 ?_
        rotate_left
        · ((intro W hW; clear hW; go_simp) <;> with_reducible rfl)
        simp only [Act.put, List.getElem_toArray, List.getElem_cons_zero, List.getElem_cons_succ, List.setIfInBounds_toArray, List.set_cons_zero, List.set_cons_succ]
        refine wpAnyH_ready (rs := [3, 7]) (by kernel_rfl) (by simp) ?_
        refine AllReadyH.cons (o := _) rfl (fun K hK => ?_) (AllReadyH.cons (o := _) rfl (fun K hK => ?_) AllReadyH.nil)
        · simp only [List.getElem_toArray, List.getElem_cons_zero, List.getElem_cons_succ]
          go_simp
          with_reducible refine (kput_er 0 0 0 0 0 0 0 _ _ _ _ _ _ _ _ 1 _ mk (Sl.nil _) (by omega) (by decide) (by decide) (by decide) (by decide) k8_6).mono ?_
          rintro e w48 ⟨f07, f17, f27, f37, f47, f57, j07, j17, j27, j37, j47, j57, j67, j77, Ao7, no7, co7, Ab7, nb7, cb7, rfl, b48⟩
          dsimp only
          replace hp := blk_u hp b48
          replace ha3 := blk_u ha3 b48
          replace ha4 := blk_u ha4 b48
          replace ha5 := blk_u ha5 b48
          replace hk12 := blk_u hk12 b48
          replace hk14 := blk_u hk14 b48
          replace pb := pb.below b48
          replace p9 := p9.below b48
          replace tb := tb.below b48
          replace tbw := own_under tbw b48
          replace mk := mk.below b48
          replace lz_tb := Nat.le_trans lz_tb b48.size
          replace bel := bel.trans (b48.mono bel.size)
          clear b48
          clear mk
          refine hK.out _ _ trivial (fun hH49 => ?_)
          clear hK K
          refine wpAnyH_take (i := 4) (v := ?_) rfl (by kernel_rfl) (by kernel_rfl) (by kernel_rfl) (fun _ _ _ h => h) (Or.inl ⟨by rfl, ?_⟩) hH49 ?_
          rotate_left
          · ((intro W hW; clear hW; go_simp) <;> with_reducible rfl)
          simp only [Act.put, List.getElem_toArray, List.getElem_cons_zero, List.getElem_cons_succ, List.setIfInBounds_toArray, List.set_cons_zero, List.set_cons_succ]
          refine wpAnyH_take (i := 5) (v := ?_) rfl (by kernel_rfl) (by kernel_rfl) (by kernel_rfl) (fun _ _ _ h => h) (Or.inl ⟨by rfl, ?_⟩) hH49 ?_
          rotate_left
          · ((intro W hW; clear hW; go_simp) <;> with_reducible rfl)
          simp only [Act.put, List.getElem_toArray, List.getElem_cons_zero, List.getElem_cons_succ, List.setIfInBounds_toArray, List.set_cons_zero, List.set_cons_succ]
          refine wpAnyH_take (i := 6) (v := ?_) rfl (by kernel_rfl) (by kernel_rfl) (by kernel_rfl) (fun _ _ _ h => h) (Or.inl ⟨by rfl, ?_⟩) hH49 ?_
          rotate_left
          · ((intro W hW; clear hW; go_simp) <;> with_reducible rfl)
          simp only [Act.put, List.getElem_toArray, List.getElem_cons_zero, List.getElem_cons_succ, List.setIfInBounds_toArray, List.set_cons_zero, List.set_cons_succ]
          refine wpAnyH_ready (rs := [7]) (by kernel_rfl) (by simp) ?_
          refine AllReadyH.cons (o := _) rfl (fun K hK => ?_) AllReadyH.nil
          simp only [List.getElem_toArray, List.getElem_cons_zero, List.getElem_cons_succ]
          rw [if_pos (by rfl)]
          refine wp_new_a 27 rfl #[.int .i64 0, .int .i64 0, .int .i64 0, .int .i64 0, .int .i64 0, .int .i64 0, .int .u8 0, .int .u8 0, .int .u8 0, .int .u8 0, .int .u8 0, .int .u8 0, .int .u8 0, .int .u8 0, .slice none 0 0, .slice none 0 0] (by kernel_rfl) ?_
          intro g16 w50 ge hh bb
          have d_p_k16 := ne_new (hlt hp) ge
          have d_a3_k16 := ne_new (hlt ha3) ge
          have d_a4_k16 := ne_new (hlt ha4) ge
          have d_a5_k16 := ne_new (hlt ha5) ge
          have d_k12_k16 := ne_new (hlt hk12) ge
          have d_k14_k16 := ne_new (hlt hk14) ge
          have av_pb_k16 := pb.av_new ge
          have av_p9_k16 := p9.av_new ge
          have av_tb_k16 := tb.av_new ge
          have of_tb_k16 := own_new tbw ge
          have ok16 := Nat.le_trans bel.size ge
          replace hp := blk_u hp bb
          replace ha3 := blk_u ha3 bb
          replace ha4 := blk_u ha4 bb
          replace ha5 := blk_u ha5 bb
          replace hk12 := blk_u hk12 bb
          replace hk14 := blk_u hk14 bb
          replace pb := pb.below bb
          replace p9 := p9.below bb
          replace tb := tb.below bb
          replace tbw := own_under tbw bb
          replace lz_tb := Nat.le_trans lz_tb bb.size
          replace bel := bel.trans (bb.mono bel.size)
          have hk16 := hh
          clear hh ge bb
          refine hK.out _ _ trivial (fun hH51 => ?_)
          clear hK K
          simp only [Act.put, List.setIfInBounds_toArray, List.set_cons_zero, List.set_cons_succ]
          refine wpAnyH_ready (rs := [8]) (by kernel_rfl) (by simp) ?_
          refine AllReadyH.cons (o := _) rfl (fun K hK => ?_) AllReadyH.nil
          simp only [List.getElem_toArray, List.getElem_cons_zero, List.getElem_cons_succ]
          rw [if_pos (by rfl)]
          refine wp_store_blk 27 (.tmp 16) (.tmp 78) rfl g16 rfl _ rfl _ 27 hk16 (by rfl) (by kernel_rfl) (by kernel_rfl) ?_
          intro w52 hq gr
          replace pb := pb.away av_pb_k16 gr
          replace p9 := p9.away av_p9_k16 gr
          replace tb := tb.away av_tb_k16 gr
          replace tbw := own_off tbw of_tb_k16 gr
          replace lz_tb := Nat.le_trans lz_tb gr.size
          replace hp := blk_a hp gr d_p_k16
          replace ha3 := blk_a ha3 gr d_a3_k16
          replace ha4 := blk_a ha4 gr d_a4_k16
          replace ha5 := blk_a ha5 gr d_a5_k16
          replace hk12 := blk_a hk12 gr d_k12_k16
          replace hk14 := blk_a hk14 gr d_k14_k16
          replace bel := below_grown bel gr ok16 bel.size
          clear hk16
          have hk16 := hq
          clear hq gr
          refine hK.out _ _ trivial (fun hH53 => ?_)
          clear hK K
          simp only [Act.put]
          refine wpAnyH_take (i := 9) (v := ?_) rfl (by kernel_rfl) (by kernel_rfl) (by kernel_rfl) (fun _ _ _ h => h) (Or.inl ⟨by rfl, ?_⟩) hH53 ?_
          rotate_left
          · ((intro W hW; clear hW; go_simp) <;> with_reducible rfl)
          simp only [Act.put, List.getElem_toArray, List.getElem_cons_zero, List.getElem_cons_succ, List.setIfInBounds_toArray, List.set_cons_zero, List.set_cons_succ]
          refine wpAnyH_done (by kernel_rfl) ?_ _
          go_wp2_with fail
          go_meet
          case rel => exact ⟨g16, f07, f17, f27, f37, f47, f57, j07, j17, j27, j37, j47, j57, j67, j77, Ao7, no7, co7, Ab7, nb7, cb7, rfl, hp, ha3, ha4, ha5, hk12, hk14, hk16, ok16, d_a3_a4, d_a3_a5, d_a3_k12, d_a3_k14, d_a3_k16, d_a3_p, d_a4_a5, d_a4_k12, d_a4_k14, d_a4_k16, d_a4_p, d_a5_k12, d_a5_k14, d_a5_k16, d_a5_p, d_k12_k14, d_k12_k16, (ne_symm d_p_k12), d_k14_k16, (ne_symm d_p_k14), (ne_symm d_p_k16), pb, av_pb_a3, av_pb_a4, av_pb_a5, av_pb_k12, av_pb_k14, av_pb_k16, av_pb_p, p9, av_p9_a3, av_p9_a4, av_p9_a5, av_p9_k12, av_p9_k14, av_p9_k16, av_p9_p, tb, av_tb_a3, av_tb_a4, av_tb_a5, av_tb_k12, av_tb_k14, av_tb_k16, av_tb_p, bel⟩
        · simp only [List.getElem_toArray, List.getElem_cons_zero, List.getElem_cons_succ]
          rw [if_pos (by rfl)]
          refine wp_new_a 27 rfl #[.int .i64 0, .int .i64 0, .int .i64 0, .int .i64 0, .int .i64 0, .int .i64 0, .int .u8 0, .int .u8 0, .int .u8 0, .int .u8 0, .int .u8 0, .int .u8 0, .int .u8 0, .int .u8 0, .slice none 0 0, .slice none 0 0] (by kernel_rfl) ?_
          intro g16 w48 ge hh bb
          have d_p_k16 := ne_new (hlt hp) ge
          have d_a3_k16 := ne_new (hlt ha3) ge
          have d_a4_k16 := ne_new (hlt ha4) ge
          have d_a5_k16 := ne_new (hlt ha5) ge
          have d_k12_k16 := ne_new (hlt hk12) ge
          have d_k14_k16 := ne_new (hlt hk14) ge
          have av_pb_k16 := pb.av_new ge
          have av_p9_k16 := p9.av_new ge
          have av_tb_k16 := tb.av_new ge
          have of_tb_k16 := own_new tbw ge
          have av_mk_k16 := mk.av_new ge
          have ok16 := Nat.le_trans bel.size ge
          replace hp := blk_u hp bb
          replace ha3 := blk_u ha3 bb
          replace ha4 := blk_u ha4 bb
          replace ha5 := blk_u ha5 bb
          replace hk12 := blk_u hk12 bb
          replace hk14 := blk_u hk14 bb
          replace pb := pb.below bb
          replace p9 := p9.below bb
          replace tb := tb.below bb
          replace tbw := own_under tbw bb
          replace mk := mk.below bb
          replace lz_tb := Nat.le_trans lz_tb bb.size
          replace bel := bel.trans (bb.mono bel.size)
          have hk16 := hh
          clear hh ge bb
          refine hK.out _ _ trivial (fun hH49 => ?_)
          clear hK K
          simp only [Act.put, List.setIfInBounds_toArray, List.set_cons_zero, List.set_cons_succ]
          refine wpAnyH_ready (rs := [3]) (by kernel_rfl) (by simp) ?_
          refine AllReadyH.cons (o := _) rfl (fun K hK => ?_) AllReadyH.nil
          simp only [List.getElem_toArray, List.getElem_cons_zero, List.getElem_cons_succ]
          go_simp
          with_reducible refine (kput_er 0 0 0 0 0 0 0 _ _ _ _ _ _ _ _ 1 _ mk (Sl.nil _) (by omega) (by decide) (by decide) (by decide) (by decide) k8_6).mono ?_
          rintro e w50 ⟨f07, f17, f27, f37, f47, f57, j07, j17, j27, j37, j47, j57, j67, j77, Ao7, no7, co7, Ab7, nb7, cb7, rfl, b50⟩
          dsimp only
          replace hp := blk_u hp b50
          replace ha3 := blk_u ha3 b50
          replace ha4 := blk_u ha4 b50
          replace ha5 := blk_u ha5 b50
          replace hk12 := blk_u hk12 b50
          replace hk14 := blk_u hk14 b50
          replace hk16 := blk_u hk16 b50
          replace pb := pb.below b50
          replace p9 := p9.below b50
          replace tb := tb.below b50
          replace tbw := own_under tbw b50
          replace mk := mk.below b50
          replace lz_tb := Nat.le_trans lz_tb b50.size
          replace bel := bel.trans (b50.mono bel.size)
          clear b50
          clear mk
          refine hK.out _ _ trivial (fun hH51 => ?_)
          clear hK K
          refine wpAnyH_take (i := 4) (v := ?_) rfl (by kernel_rfl) (by kernel_rfl) (by kernel_rfl) (fun _ _ _ h => h) (Or.inl ⟨by rfl, ?_⟩) hH51 ?_
          rotate_left
          · ((intro W hW; clear hW; go_simp) <;> with_reducible rfl)
          simp only [Act.put, List.getElem_toArray, List.getElem_cons_zero, List.getElem_cons_succ, List.setIfInBounds_toArray, List.set_cons_zero, List.set_cons_succ]
          refine wpAnyH_take (i := 5) (v := ?_) rfl (by kernel_rfl) (by kernel_rfl) (by kernel_rfl) (fun _ _ _ h => h) (Or.inl ⟨by rfl, ?_⟩) hH51 ?_
          rotate_left
          · ((intro W hW; clear hW; go_simp) <;> with_reducible rfl)
          simp only [Act.put, List.getElem_toArray, List.getElem_cons_zero, List.getElem_cons_succ, List.setIfInBounds_toArray, List.set_cons_zero, List.set_cons_succ]
          refine wpAnyH_take (i := 6) (v := ?_) rfl (by kernel_rfl) (by kernel_rfl) (by kernel_rfl) (fun _ _ _ h => h) (Or.inl ⟨by rfl, ?_⟩) hH51 ?_
          rotate_left
          · ((intro W hW; clear hW; go_simp) <;> with_reducible rfl)
          simp only [Act.put, List.getElem_toArray, List.getElem_cons_zero, List.getElem_cons_succ, List.setIfInBounds_toArray, List.set_cons_zero, List.set_cons_succ]
          refine wpAnyH_ready (rs := [8]) (by kernel_rfl) (by simp) ?_
          refine AllReadyH.cons (o := _) rfl (fun K hK => ?_) AllReadyH.nil
          simp only [List.getElem_toArray, List.getElem_cons_zero, List.getElem_cons_succ]
          rw [if_pos (by rfl)]
          refine wp_store_blk 27 (.tmp 16) (.tmp 78) rfl g16 rfl _ rfl _ 27 hk16 (by rfl) (by kernel_rfl) (by kernel_rfl) ?_
          intro w52 hq gr
          replace pb := pb.away av_pb_k16 gr
          replace p9 := p9.away av_p9_k16 gr
          replace tb := tb.away av_tb_k16 gr
          replace tbw := own_off tbw of_tb_k16 gr
          replace lz_tb := Nat.le_trans lz_tb gr.size
          replace hp := blk_a hp gr d_p_k16
          replace ha3 := blk_a ha3 gr d_a3_k16
          replace ha4 := blk_a ha4 gr d_a4_k16
          replace ha5 := blk_a ha5 gr d_a5_k16
          replace hk12 := blk_a hk12 gr d_k12_k16
          replace hk14 := blk_a hk14 gr d_k14_k16
          replace bel := below_grown bel gr ok16 bel.size
          clear hk16
          have hk16 := hq
          clear hq gr
          refine hK.out _ _ trivial (fun hH53 => ?_)
          clear hK K
          simp only [Act.put]
          refine wpAnyH_take (i := 9) (v := ?_) rfl (by kernel_rfl) (by kernel_rfl) (by kernel_rfl) (fun _ _ _ h => h) (Or.inl ⟨by rfl, ?_⟩) hH53 ?_
          rotate_left
          · ((intro W hW; clear hW; go_simp) <;> with_reducible rfl)
          simp only [Act.put, List.getElem_toArray, List.getElem_cons_zero, List.getElem_cons_succ, List.setIfInBounds_toArray, List.set_cons_zero, List.set_cons_succ]
          refine wpAnyH_done (by kernel_rfl) ?_ _
          go_wp2_with fail
          go_meet
          case rel => exact ⟨g16, f07, f17, f27, f37, f47, f57, j07, j17, j27, j37, j47, j57, j67, j77, Ao7, no7, co7, Ab7, nb7, cb7, rfl, hp, ha3, ha4, ha5, hk12, hk14, hk16, ok16, d_a3_a4, d_a3_a5, d_a3_k12, d_a3_k14, d_a3_k16, d_a3_p, d_a4_a5, d_a4_k12, d_a4_k14, d_a4_k16, d_a4_p, d_a5_k12, d_a5_k14, d_a5_k16, d_a5_p, d_k12_k14, d_k12_k16, (ne_symm d_p_k12), d_k14_k16, (ne_symm d_p_k14), (ne_symm d_p_k16), pb, av_pb_a3, av_pb_a4, av_pb_a5, av_pb_k12, av_pb_k14, av_pb_k16, av_pb_p, p9, av_p9_a3, av_p9_a4, av_p9_a5, av_p9_k12, av_p9_k14, av_p9_k16, av_p9_p, tb, av_tb_a3, av_tb_a4, av_tb_a5, av_tb_k12, av_tb_k14, av_tb_k16, av_tb_p, bel⟩
      · simp only [List.getElem_toArray, List.getElem_cons_zero, List.getElem_cons_succ]
        rw [if_pos (by rfl)]
        refine wp_new_a 27 rfl #[.int .i64 0, .int .i64 0, .int .i64 0, .int .i64 0, .int .i64 0, .int .i64 0, .int .u8 0, .int .u8 0, .int .u8 0, .int .u8 0, .int .u8 0, .int .u8 0, .int .u8 0, .int .u8 0, .slice none 0 0, .slice none 0 0] (by kernel_rfl) ?_
        intro g16 w46 ge hh bb
        have d_p_k16 := ne_new (hlt hp) ge
        have d_a3_k16 := ne_new (hlt ha3) ge
        have d_a4_k16 := ne_new (hlt ha4) ge
        have d_a5_k16 := ne_new (hlt ha5) ge
        have d_k12_k16 := ne_new (hlt hk12) ge
        have d_k14_k16 := ne_new (hlt hk14) ge
        have av_pb_k16 := pb.av_new ge
        have av_p9_k16 := p9.av_new ge
        have av_tb_k16 := tb.av_new ge
        have of_tb_k16 := own_new tbw ge
        have ok16 := Nat.le_trans bel.size ge
        replace hp := blk_u hp bb
        replace ha3 := blk_u ha3 bb
        replace ha4 := blk_u ha4 bb
        replace ha5 := blk_u ha5 bb
        replace hk12 := blk_u hk12 bb
        replace hk14 := blk_u hk14 bb
        replace pb := pb.below bb
        replace p9 := p9.below bb
        replace tb := tb.below bb
        replace tbw := own_under tbw bb
        replace lz_tb := Nat.le_trans lz_tb bb.size
        replace bel := bel.trans (bb.mono bel.size)
        have hk16 := hh
        clear hh ge bb
        refine hK.out _ _ trivial (fun hH47 => ?_)
        clear hK K
        simp only [Act.put, List.setIfInBounds_toArray, List.set_cons_zero, List.set_cons_succ]
        refine wpAnyH_ready (rs := [1]) (by kernel_rfl) (by simp) ?_
        refine AllReadyH.cons (o := _) rfl (fun K hK => ?_) AllReadyH.nil
        simp only [List.getElem_toArray, List.getElem_cons_zero, List.getElem_cons_succ]
        rw [if_pos (by rfl)]
        refine wp_make_g (.const (.int .i64 44)) (.const (.int .i64 44)) 25 rfl 5 ii Try.underlying25 hii hz0 hz1 hz2 .i64 .i64 _ _ (44) rfl rfl rfl rfl (by omega) ?_
        intro g75 w48 ge sm bb
        replace hp := blk_u hp bb
        replace ha3 := blk_u ha3 bb
        replace ha4 := blk_u ha4 bb
        replace ha5 := blk_u ha5 bb
        replace hk12 := blk_u hk12 bb
        replace hk14 := blk_u hk14 bb
        replace hk16 := blk_u hk16 bb
        replace pb := pb.below bb
        replace p9 := p9.below bb
        replace tb := tb.below bb
        replace tbw := own_under tbw bb
        replace lz_tb := Nat.le_trans lz_tb bb.size
        replace bel := bel.trans (bb.mono bel.size)
        have mk := sm
        clear sm ge bb
        refine hK.out _ _ trivial (fun hH49 => ?_)
        clear hK K
        simp only [Act.put, List.setIfInBounds_toArray, List.set_cons_zero, List.set_cons_succ]
        refine wpAnyH_take (i := 2) (v := ?_) rfl (by kernel_rfl) (by kernel_rfl) (by kernel_rfl) (fun _ _ _ h => h) (Or.inl ⟨by rfl, ?_⟩) hH49 ?_
        rotate_left
        · ((intro W hW; clear hW; go_simp) <;> with_reducible rfl)
        simp only [Act.put, List.getElem_toArray, List.getElem_cons_zero, List.getElem_cons_succ, List.setIfInBounds_toArray, List.set_cons_zero, List.set_cons_succ]
        refine wpAnyH_ready (rs := [3]) (by kernel_rfl) (by simp) ?_
        refine AllReadyH.cons (o := _) rfl (fun K hK => ?_) AllReadyH.nil
        simp only [List.getElem_toArray, List.getElem_cons_zero, List.getElem_cons_succ]
        go_simp
        with_reducible refine (kput_er 0 0 0 0 0 0 0 _ _ _ _ _ _ _ _ 1 _ mk (Sl.nil _) (by omega) (by decide) (by decide) (by decide) (by decide) k8_6).mono ?_
        rintro e w50 ⟨f07, f17, f27, f37, f47, f57, j07, j17, j27, j37, j47, j57, j67, j77, Ao7, no7, co7, Ab7, nb7, cb7, rfl, b50⟩
        dsimp only
        replace hp := blk_u hp b50
        replace ha3 := blk_u ha3 b50
        replace ha4 := blk_u ha4 b50
        replace ha5 := blk_u ha5 b50
        replace hk12 := blk_u hk12 b50
        replace hk14 := blk_u hk14 b50
        replace hk16 := blk_u hk16 b50
        replace pb := pb.below b50
        replace p9 := p9.below b50
        replace tb := tb.below b50
        replace tbw := own_under tbw b50
        replace mk := mk.below b50
        replace lz_tb := Nat.le_trans lz_tb b50.size
        replace bel := bel.trans (b50.mono bel.size)
        clear b50
        clear mk
        refine hK.out _ _ trivial (fun hH51 => ?_)
        clear hK K
        refine wpAnyH_take (i := 4) (v := ?_) rfl (by kernel_rfl) (by kernel_rfl) (by kernel_rfl) (fun _ _ _ h => h) (Or.inl ⟨by rfl, ?_⟩) hH51 ?_
        rotate_left
        · ((intro W hW; clear hW; go_simp) <;> with_reducible rfl)
        simp only [Act.put, List.getElem_toArray, List.getElem_cons_zero, List.getElem_cons_succ, List.setIfInBounds_toArray, List.set_cons_zero, List.set_cons_succ]
        refine wpAnyH_take (i := 5) (v := ?_) rfl (by kernel_rfl) (by kernel_rfl) (by kernel_rfl) (fun _ _ _ h => h) (Or.inl ⟨by rfl, ?_⟩) hH51 ?_
        rotate_left
        · ((intro W hW; clear hW; go_simp) <;> with_reducible rfl)
        simp only [Act.put, List.getElem_toArray, List.getElem_cons_zero, List.getElem_cons_succ, List.setIfInBounds_toArray, List.set_cons_zero, List.set_cons_succ]
        refine wpAnyH_take (i := 6) (v := ?_) rfl (by kernel_rfl) (by kernel_rfl) (by kernel_rfl) (fun _ _ _ h => h) (Or.inl ⟨by rfl, ?_⟩) hH51 ?_
        rotate_left
        · ((intro W hW; clear hW; go_simp) <;> with_reducible rfl)
        simp only [Act.put, List.getElem_toArray, List.getElem_cons_zero, List.getElem_cons_succ, List.setIfInBounds_toArray, List.set_cons_zero, List.set_cons_succ]
        refine wpAnyH_ready (rs := [8]) (by kernel_rfl) (by simp) ?_
        refine AllReadyH.cons (o := _) rfl (fun K hK => ?_) AllReadyH.nil
        simp only [List.getElem_toArray, List.getElem_cons_zero, List.getElem_cons_succ]
        rw [if_pos (by rfl)]
        refine wp_store_blk 27 (.tmp 16) (.tmp 78) rfl g16 rfl _ rfl _ 27 hk16 (by rfl) (by kernel_rfl) (by kernel_rfl) ?_
        intro w52 hq gr
        replace pb := pb.away av_pb_k16 gr
        replace p9 := p9.away av_p9_k16 gr
        replace tb := tb.away av_tb_k16 gr
        replace tbw := own_off tbw of_tb_k16 gr
        replace lz_tb := Nat.le_trans lz_tb gr.size
        replace hp := blk_a hp gr d_p_k16
        replace ha3 := blk_a ha3 gr d_a3_k16
        replace ha4 := blk_a ha4 gr d_a4_k16
        replace ha5 := blk_a ha5 gr d_a5_k16
        replace hk12 := blk_a hk12 gr d_k12_k16
        replace hk14 := blk_a hk14 gr d_k14_k16
        replace bel := below_grown bel gr ok16 bel.size
        clear hk16
        have hk16 := hq
        clear hq gr
        refine hK.out _ _ trivial (fun hH53 => ?_)
        clear hK K
        simp only [Act.put]
        refine wpAnyH_take (i := 9) (v := ?_) rfl (by kernel_rfl) (by kernel_rfl) (by kernel_rfl) (fun _ _ _ h => h) (Or.inl ⟨by rfl, ?_⟩) hH53 ?_
        rotate_left
        · ((intro W hW; clear hW; go_simp) <;> with_reducible rfl)
        simp only [Act.put, List.getElem_toArray, List.getElem_cons_zero, List.getElem_cons_succ, List.setIfInBounds_toArray, List.set_cons_zero, List.set_cons_succ]
        refine wpAnyH_done (by kernel_rfl) ?_ _
        go_wp2_with fail
        go_meet
        case rel => exact ⟨g16, f07, f17, f27, f37, f47, f57, j07, j17, j27, j37, j47, j57, j67, j77, Ao7, no7, co7, Ab7, nb7, cb7, rfl, hp, ha3, ha4, ha5, hk12, hk14, hk16, ok16, d_a3_a4, d_a3_a5, d_a3_k12, d_a3_k14, d_a3_k16, d_a3_p, d_a4_a5, d_a4_k12, d_a4_k14, d_a4_k16, d_a4_p, d_a5_k12, d_a5_k14, d_a5_k16, d_a5_p, d_k12_k14, d_k12_k16, (ne_symm d_p_k12), d_k14_k16, (ne_symm d_p_k14), (ne_symm d_p_k16), pb, av_pb_a3, av_pb_a4, av_pb_a5, av_pb_k12, av_pb_k14, av_pb_k16, av_pb_p, p9, av_p9_a3, av_p9_a4, av_p9_a5, av_p9_k12, av_p9_k14, av_p9_k16, av_p9_p, tb, av_tb_a3, av_tb_a4, av_tb_a5, av_tb_k12, av_tb_k14, av_tb_k16, av_tb_p, bel⟩
    · simp only [List.getElem_toArray, List.getElem_cons_zero, List.getElem_cons_succ]
      rw [if_pos (by rfl)]
      refine wp_make_g (.const (.int .i64 44)) (.const (.int .i64 44)) 25 rfl 5 ii Try.underlying25 hii hz0 hz1 hz2 .i64 .i64 _ _ (44) rfl rfl rfl rfl (by omega) ?_
      intro g75 w44 ge sm bb
      replace hp := blk_u hp bb
      replace ha3 := blk_u ha3 bb
      replace ha4 := blk_u ha4 bb
      replace ha5 := blk_u ha5 bb
      replace hk12 := blk_u hk12 bb
      replace hk14 := blk_u hk14 bb
      replace pb := pb.below bb
      replace p9 := p9.below bb
      replace tb := tb.below bb
      replace tbw := own_under tbw bb
      replace lz_tb := Nat.le_trans lz_tb bb.size
      replace bel := bel.trans (bb.mono bel.size)
      have mk := sm
      clear sm ge bb
      refine hK.out _ _ trivial (fun hH45 => ?_)
      clear hK K
      simp only [Act.put, List.setIfInBounds_toArray, List.set_cons_zero, List.set_cons_succ]
      refine wpAnyH_take (i := 2) (v := ?_) rfl (by kernel_rfl) (by kernel_rfl) (by kernel_rfl) (fun _ _ _ h => h) (Or.inl ⟨by rfl, ?_⟩) hH45 ?_
      rotate_left
      · ((intro W hW; clear hW; go_simp) <;> with_reducible rfl)
      simp only [Act.put, List.getElem_toArray, List.getElem_cons_zero, List.getElem_cons_succ, List.setIfInBounds_toArray, List.set_cons_zero, List.set_cons_succ]
      refine wpAnyH_ready (rs := [0, 7]) (by kernel_rfl) (by simp) ?_
      refine AllReadyH.cons (o := _) rfl (fun K hK => ?_) (AllReadyH.cons (o := _) rfl (fun K hK => ?_) AllReadyH.nil)
      · simp only [List.getElem_toArray, List.getElem_cons_zero]
        go_simp
        with_reducible refine (base8 _).mono ?_
        rintro e w46 ⟨rfl, b46⟩
        dsimp only
        replace hp := blk_u hp b46
        replace ha3 := blk_u ha3 b46
        replace ha4 := blk_u ha4 b46
        replace ha5 := blk_u ha5 b46
        replace hk12 := blk_u hk12 b46
        replace hk14 := blk_u hk14 b46
        replace pb := pb.below b46
        replace p9 := p9.below b46
        replace tb := tb.below b46
        replace tbw := own_under tbw b46
        replace mk := mk.below b46
        replace lz_tb := Nat.le_trans lz_tb b46.size
        replace bel := bel.trans (b46.mono bel.size)
        clear b46
        refine hK.out _ _ trivial (fun hH47 => ?_)
        clear hK K
        refine wpAnyH_ready (rs := [3, 7]) (by kernel_rfl) (by simp) ?_
        refine AllReadyH.cons (o := _) rfl (fun K hK => ?_) (AllReadyH.cons (o := _) rfl (fun K hK => ?_) AllReadyH.nil)
        · simp only [List.getElem_toArray, List.getElem_cons_zero, List.getElem_cons_succ]
          go_simp
          with_reducible refine (kput_er 0 0 0 0 0 0 0 _ _ _ _ _ _ _ _ 1 _ mk (Sl.nil _) (by omega) (by decide) (by decide) (by decide) (by decide) k8_6).mono ?_
          rintro e w48 ⟨f07, f17, f27, f37, f47, f57, j07, j17, j27, j37, j47, j57, j67, j77, Ao7, no7, co7, Ab7, nb7, cb7, rfl, b48⟩
          dsimp only
          replace hp := blk_u hp b48
          replace ha3 := blk_u ha3 b48
          replace ha4 := blk_u ha4 b48
          replace ha5 := blk_u ha5 b48
          replace hk12 := blk_u hk12 b48
          replace hk14 := blk_u hk14 b48
          replace pb := pb.below b48
          replace p9 := p9.below b48
          replace tb := tb.below b48
          replace tbw := own_under tbw b48
          replace mk := mk.below b48
          replace lz_tb := Nat.le_trans lz_tb b48.size
          replace bel := bel.trans (b48.mono bel.size)
          clear b48
          clear mk
          refine hK.out _ _ trivial (fun hH49 => ?_)
          clear hK K
          refine wpAnyH_take (i := 4) (v := ?_) rfl (by kernel_rfl) (by kernel_rfl) (by kernel_rfl) (fun _ _ _ h => h) (Or.inl ⟨by rfl, ?_⟩) hH49 ?_
          rotate_left
          · ((intro W hW; clear hW; go_simp) <;> with_reducible rfl)
          simp only [Act.put, List.getElem_toArray, List.getElem_cons_zero, List.getElem_cons_succ, List.setIfInBounds_toArray, List.set_cons_zero, List.set_cons_succ]
          refine wpAnyH_take (i := 5) (v := ?_) rfl (by kernel_rfl) (by kernel_rfl) (by kernel_rfl) (fun _ _ _ h => h) (Or.inl ⟨by rfl, ?_⟩) hH49 ?_
          rotate_left
          · ((intro W hW; clear hW; go_simp) <;> with_reducible rfl)
          simp only [Act.put, List.getElem_toArray, List.getElem_cons_zero, List.getElem_cons_succ, List.setIfInBounds_toArray, List.set_cons_zero, List.set_cons_succ]
          refine wpAnyH_take (i := 6) (v := ?_) rfl (by kernel_rfl) (by kernel_rfl) (by kernel_rfl) (fun _ _ _ h => h) (Or.inl ⟨by rfl, ?_⟩) hH49 ?_
          rotate_left
          · ((intro W hW; clear hW; go_simp) <;> with_reducible rfl)
          simp only [Act.put, List.getElem_toArray, List.getElem_cons_zero, List.getElem_cons_succ, List.setIfInBounds_toArray, List.set_cons_zero, List.set_cons_succ]
          refine wpAnyH_ready (rs := [7]) (by kernel_rfl) (by simp) ?_
          refine AllReadyH.cons (o := _) rfl (fun K hK => ?_) AllReadyH.nil
          simp only [List.getElem_toArray, List.getElem_cons_zero, List.getElem_cons_succ]
          rw [if_pos (by rfl)]
          refine wp_new_a 27 rfl #[.int .i64 0, .int .i64 0, .int .i64 0, .int .i64 0, .int .i64 0, .int .i64 0, .int .u8 0, .int .u8 0, .int .u8 0, .int .u8 0, .int .u8 0, .int .u8 0, .int .u8 0, .int .u8 0, .slice none 0 0, .slice none 0 0] (by kernel_rfl) ?_
          intro g16 w50 ge hh bb
          have d_p_k16 := ne_new (hlt hp) ge
          have d_a3_k16 := ne_new (hlt ha3) ge
          have d_a4_k16 := ne_new (hlt ha4) ge
          have d_a5_k16 := ne_new (hlt ha5) ge
          have d_k12_k16 := ne_new (hlt hk12) ge
          have d_k14_k16 := ne_new (hlt hk14) ge
          have av_pb_k16 := pb.av_new ge
          have av_p9_k16 := p9.av_new ge
          have av_tb_k16 := tb.av_new ge
          have of_tb_k16 := own_new tbw ge
          have ok16 := Nat.le_trans bel.size ge
          replace hp := blk_u hp bb
          replace ha3 := blk_u ha3 bb
          replace ha4 := blk_u ha4 bb
          replace ha5 := blk_u ha5 bb
          replace hk12 := blk_u hk12 bb
          replace hk14 := blk_u hk14 bb
          replace pb := pb.below bb
          replace p9 := p9.below bb
          replace tb := tb.below bb
          replace tbw := own_under tbw bb
          replace lz_tb := Nat.le_trans lz_tb bb.size
          replace bel := bel.trans (bb.mono bel.size)
          have hk16 := hh
          clear hh ge bb
          refine hK.out _ _ trivial (fun hH51 => ?_)
          clear hK K
          simp only [Act.put, List.setIfInBounds_toArray, List.set_cons_zero, List.set_cons_succ]
          refine wpAnyH_ready (rs := [8]) (by kernel_rfl) (by simp) ?_
          refine AllReadyH.cons (o := _) rfl (fun K hK => ?_) AllReadyH.nil
          simp only [List.getElem_toArray, List.getElem_cons_zero, List.getElem_cons_succ]
          rw [if_pos (by rfl)]
          refine wp_store_blk 27 (.tmp 16) (.tmp 78) rfl g16 rfl _ rfl _ 27 hk16 (by rfl) (by kernel_rfl) (by kernel_rfl) ?_
          intro w52 hq gr
          replace pb := pb.away av_pb_k16 gr
          replace p9 := p9.away av_p9_k16 gr
          replace tb := tb.away av_tb_k16 gr
          replace tbw := own_off tbw of_tb_k16 gr
          replace lz_tb := Nat.le_trans lz_tb gr.size
          replace hp := blk_a hp gr d_p_k16
          replace ha3 := blk_a ha3 gr d_a3_k16
          replace ha4 := blk_a ha4 gr d_a4_k16
          replace ha5 := blk_a ha5 gr d_a5_k16
          replace hk12 := blk_a hk12 gr d_k12_k16
          replace hk14 := blk_a hk14 gr d_k14_k16
          replace bel := below_grown bel gr ok16 bel.size
          clear hk16
          have hk16 := hq
          clear hq gr
          refine hK.out _ _ trivial (fun hH53 => ?_)
          clear hK K
          simp only [Act.put]
          refine wpAnyH_take (i := 9) (v := ?_) rfl (by kernel_rfl) (by kernel_rfl) (by kernel_rfl) (fun _ _ _ h => h) (Or.inl ⟨by rfl, ?_⟩) hH53 ?_
          rotate_left
          · ((intro W hW; clear hW; go_simp) <;> with_reducible rfl)
          simp only [Act.put, List.getElem_toArray, List.getElem_cons_zero, List.getElem_cons_succ, List.setIfInBounds_toArray, List.set_cons_zero, List.set_cons_succ]
          refine wpAnyH_done (by kernel_rfl) ?_ _
          go_wp2_with fail
          go_meet
          case rel => exact ⟨g16, f07, f17, f27, f37, f47, f57, j07, j17, j27, j37, j47, j57, j67, j77, Ao7, no7, co7, Ab7, nb7, cb7, rfl, hp, ha3, ha4, ha5, hk12, hk14, hk16, ok16, d_a3_a4, d_a3_a5, d_a3_k12, d_a3_k14, d_a3_k16, d_a3_p, d_a4_a5, d_a4_k12, d_a4_k14, d_a4_k16, d_a4_p, d_a5_k12, d_a5_k14, d_a5_k16, d_a5_p, d_k12_k14, d_k12_k16, (ne_symm d_p_k12), d_k14_k16, (ne_symm d_p_k14), (ne_symm d_p_k16), pb, av_pb_a3, av_pb_a4, av_pb_a5, av_pb_k12, av_pb_k14, av_pb_k16, av_pb_p, p9, av_p9_a3, av_p9_a4, av_p9_a5, av_p9_k12, av_p9_k14, av_p9_k16, av_p9_p, tb, av_tb_a3, av_tb_a4, av_tb_a5, av_tb_k12, av_tb_k14, av_tb_k16, av_tb_p, bel⟩
        · simp only [List.getElem_toArray, List.getElem_cons_zero, List.getElem_cons_succ]
          rw [if_pos (by rfl)]
          refine wp_new_a 27 rfl #[.int .i64 0, .int .i64 0, .int .i64 0, .int .i64 0, .int .i64 0, .int .i64 0, .int .u8 0, .int .u8 0, .int .u8 0, .int .u8 0, .int .u8 0, .int .u8 0, .int .u8 0, .int .u8 0, .slice none 0 0, .slice none 0 0] (by kernel_rfl) ?_
          intro g16 w48 ge hh bb
          have d_p_k16 := ne_new (hlt hp) ge
          have d_a3_k16 := ne_new (hlt ha3) ge
          have d_a4_k16 := ne_new (hlt ha4) ge
          have d_a5_k16 := ne_new (hlt ha5) ge
          have d_k12_k16 := ne_new (hlt hk12) ge
          have d_k14_k16 := ne_new (hlt hk14) ge
          have av_pb_k16 := pb.av_new ge
          have av_p9_k16 := p9.av_new ge
          have av_tb_k16 := tb.av_new ge
          have of_tb_k16 := own_new tbw ge
          have av_mk_k16 := mk.av_new ge
          have ok16 := Nat.le_trans bel.size ge
          replace hp := blk_u hp bb
          replace ha3 := blk_u ha3 bb
          replace ha4 := blk_u ha4 bb
          replace ha5 := blk_u ha5 bb
          replace hk12 := blk_u hk12 bb
          replace hk14 := blk_u hk14 bb
          replace pb := pb.below bb
          replace p9 := p9.below bb
          replace tb := tb.below bb
          replace tbw := own_under tbw bb
          replace mk := mk.below bb
          replace lz_tb := Nat.le_trans lz_tb bb.size
          replace bel := bel.trans (bb.mono bel.size)
          have hk16 := hh
          clear hh ge bb
          refine hK.out _ _ trivial (fun hH49 => ?_)
          clear hK K
          simp only [Act.put, List.setIfInBounds_toArray, List.set_cons_zero, List.set_cons_succ]
          refine wpAnyH_ready (rs := [3]) (by kernel_rfl) (by simp) ?_
          refine AllReadyH.cons (o := _) rfl (fun K hK => ?_) AllReadyH.nil
          simp only [List.getElem_toArray, List.getElem_cons_zero, List.getElem_cons_succ]
          go_simp
          with_reducible refine (kput_er 0 0 0 0 0 0 0 _ _ _ _ _ _ _ _ 1 _ mk (Sl.nil _) (by omega) (by decide) (by decide) (by decide) (by decide) k8_6).mono ?_
          rintro e w50 ⟨f07, f17, f27, f37, f47, f57, j07, j17, j27, j37, j47, j57, j67, j77, Ao7, no7, co7, Ab7, nb7, cb7, rfl, b50⟩
          dsimp only
          replace hp := blk_u hp b50
          replace ha3 := blk_u ha3 b50
          replace ha4 := blk_u ha4 b50
          replace ha5 := blk_u ha5 b50
          replace hk12 := blk_u hk12 b50
          replace hk14 := blk_u hk14 b50
          replace hk16 := blk_u hk16 b50
          replace pb := pb.below b50
          replace p9 := p9.below b50
          replace tb := tb.below b50
          replace tbw := own_under tbw b50
          replace mk := mk.below b50
          replace lz_tb := Nat.le_trans lz_tb b50.size
          replace bel := bel.trans (b50.mono bel.size)
          clear b50
          clear mk
          refine hK.out _ _ trivial (fun hH51 => ?_)
          clear hK K
          refine wpAnyH_take (i := 4) (v := ?_) rfl (by kernel_rfl) (by kernel_rfl) (by kernel_rfl) (fun _ _ _ h => h) (Or.inl ⟨by rfl, ?_⟩) hH51 ?_
          rotate_left
          · ((intro W hW; clear hW; go_simp) <;> with_reducible rfl)
          simp only [Act.put, List.getElem_toArray, List.getElem_cons_zero, List.getElem_cons_succ, List.setIfInBounds_toArray, List.set_cons_zero, List.set_cons_succ]
          refine wpAnyH_take (i := 5) (v := ?_) rfl (by kernel_rfl) (by kernel_rfl) (by kernel_rfl) (fun _ _ _ h => h) (Or.inl ⟨by rfl, ?_⟩) hH51 ?_
          rotate_left
          · ((intro W hW; clear hW; go_simp) <;> with_reducible rfl)
          simp only [Act.put, List.getElem_toArray, List.getElem_cons_zero, List.getElem_cons_succ, List.setIfInBounds_toArray, List.set_cons_zero, List.set_cons_succ]
          refine wpAnyH_take (i := 6) (v := ?_) rfl (by kernel_rfl) (by kernel_rfl) (by kernel_rfl) (fun _ _ _ h => h) (Or.inl ⟨by rfl, ?_⟩) hH51 ?_
          rotate_left
          · ((intro W hW; clear hW; go_simp) <;> with_reducible rfl)
          simp only [Act.put, List.getElem_toArray, List.getElem_cons_zero, List.getElem_cons_succ, List.setIfInBounds_toArray, List.set_cons_zero, List.set_cons_succ]
          refine wpAnyH_ready (rs := [8]) (by kernel_rfl) (by simp) ?_
          refine AllReadyH.cons (o := _) rfl (fun K hK => ?_) AllReadyH.nil
          simp only [List.getElem_toArray, List.getElem_cons_zero, List.getElem_cons_succ]
          rw [if_pos (by rfl)]
          refine wp_store_blk 27 (.tmp 16) (.tmp 78) rfl g16 rfl _ rfl _ 27 hk16 (by rfl) (by kernel_rfl) (by kernel_rfl) ?_
          intro w52 hq gr
          replace pb := pb.away av_pb_k16 gr
          replace p9 := p9.away av_p9_k16 gr
          replace tb := tb.away av_tb_k16 gr
          replace tbw := own_off tbw of_tb_k16 gr
          replace lz_tb := Nat.le_trans lz_tb gr.size
          replace hp := blk_a hp gr d_p_k16
          replace ha3 := blk_a ha3 gr d_a3_k16
          replace ha4 := blk_a ha4 gr d_a4_k16
          replace ha5 := blk_a ha5 gr d_a5_k16
          replace hk12 := blk_a hk12 gr d_k12_k16
          replace hk14 := blk_a hk14 gr d_k14_k16
          replace bel := below_grown bel gr ok16 bel.size
          clear hk16
          have hk16 := hq
          clear hq gr
          refine hK.out _ _ trivial (fun hH53 => ?_)
          clear hK K
          simp only [Act.put]
          refine wpAnyH_take (i := 9) (v := ?_) rfl (by kernel_rfl) (by kernel_rfl) (by kernel_rfl) (fun _ _ _ h => h) (Or.inl ⟨by rfl, ?_⟩) hH53 ?_
          rotate_left
          · ((intro W hW; clear hW; go_simp) <;> with_reducible rfl)
          simp only [Act.put, List.getElem_toArray, List.getElem_cons_zero, List.getElem_cons_succ, List.setIfInBounds_toArray, List.set_cons_zero, List.set_cons_succ]
          refine wpAnyH_done (by kernel_rfl) ?_ _
          go_wp2_with fail
          go_meet
          case rel => exact ⟨g16, f07, f17, f27, f37, f47, f57, j07, j17, j27, j37, j47, j57, j67, j77, Ao7, no7, co7, Ab7, nb7, cb7, rfl, hp, ha3, ha4, ha5, hk12, hk14, hk16, ok16, d_a3_a4, d_a3_a5, d_a3_k12, d_a3_k14, d_a3_k16, d_a3_p, d_a4_a5, d_a4_k12, d_a4_k14, d_a4_k16, d_a4_p, d_a5_k12, d_a5_k14, d_a5_k16, d_a5_p, d_k12_k14, d_k12_k16, (ne_symm d_p_k12), d_k14_k16, (ne_symm d_p_k14), (ne_symm d_p_k16), pb, av_pb_a3, av_pb_a4, av_pb_a5, av_pb_k12, av_pb_k14, av_pb_k16, av_pb_p, p9, av_p9_a3, av_p9_a4, av_p9_a5, av_p9_k12, av_p9_k14, av_p9_k16, av_p9_p, tb, av_tb_a3, av_tb_a4, av_tb_a5, av_tb_k12, av_tb_k14, av_tb_k16, av_tb_p, bel⟩
      · simp only [List.getElem_toArray, List.getElem_cons_zero, List.getElem_cons_succ]
        rw [if_pos (by rfl)]
        refine wp_new_a 27 rfl #[.int .i64 0, .int .i64 0, .int .i64 0, .int .i64 0, .int .i64 0, .int .i64 0, .int .u8 0, .int .u8 0, .int .u8 0, .int .u8 0, .int .u8 0, .int .u8 0, .int .u8 0, .int .u8 0, .slice none 0 0, .slice none 0 0] (by kernel_rfl) ?_
        intro g16 w46 ge hh bb
        have d_p_k16 := ne_new (hlt hp) ge
        have d_a3_k16 := ne_new (hlt ha3) ge
        have d_a4_k16 := ne_new (hlt ha4) ge
        have d_a5_k16 := ne_new (hlt ha5) ge
        have d_k12_k16 := ne_new (hlt hk12) ge
        have d_k14_k16 := ne_new (hlt hk14) ge
        have av_pb_k16 := pb.av_new ge
        have av_p9_k16 := p9.av_new ge
        have av_tb_k16 := tb.av_new ge
        have of_tb_k16 := own_new tbw ge
        have av_mk_k16 := mk.av_new ge
        have ok16 := Nat.le_trans bel.size ge
        replace hp := blk_u hp bb
        replace ha3 := blk_u ha3 bb
        replace ha4 := blk_u ha4 bb
        replace ha5 := blk_u ha5 bb
        replace hk12 := blk_u hk12 bb
        replace hk14 := blk_u hk14 bb
        replace pb := pb.below bb
        replace p9 := p9.below bb
        replace tb := tb.below bb
        replace tbw := own_under tbw bb
        replace mk := mk.below bb
        replace lz_tb := Nat.le_trans lz_tb bb.size
        replace bel := bel.trans (bb.mono bel.size)
        have hk16 := hh
        clear hh ge bb
        refine hK.out _ _ trivial (fun hH47 => ?_)
        clear hK K
        simp only [Act.put, List.setIfInBounds_toArray, List.set_cons_zero, List.set_cons_succ]
        refine wpAnyH_ready (rs := [0]) (by kernel_rfl) (by simp) ?_
        refine AllReadyH.cons (o := _) rfl (fun K hK => ?_) AllReadyH.nil
        simp only [List.getElem_toArray, List.getElem_cons_zero]
        go_simp
        with_reducible refine (base8 _).mono ?_
        rintro e w48 ⟨rfl, b48⟩
        dsimp only
        replace hp := blk_u hp b48
        replace ha3 := blk_u ha3 b48
        replace ha4 := blk_u ha4 b48
        replace ha5 := blk_u ha5 b48
        replace hk12 := blk_u hk12 b48
        replace hk14 := blk_u hk14 b48
        replace hk16 := blk_u hk16 b48
        replace pb := pb.below b48
        replace p9 := p9.below b48
        replace tb := tb.below b48
        replace tbw := own_under tbw b48
        replace mk := mk.below b48
        replace lz_tb := Nat.le_trans lz_tb b48.size
        replace bel := bel.trans (b48.mono bel.size)
        clear b48
        refine hK.out _ _ trivial (fun hH49 => ?_)
        clear hK K
        refine wpAnyH_ready (rs := [3]) (by kernel_rfl) (by simp) ?_
        refine AllReadyH.cons (o := _) rfl (fun K hK => ?_) AllReadyH.nil
        simp only [List.getElem_toArray, List.getElem_cons_zero, List.getElem_cons_succ]
        go_simp
        with_reducible refine (kput_er 0 0 0 0 0 0 0 _ _ _ _ _ _ _ _ 1 _ mk (Sl.nil _) (by omega) (by decide) (by decide) (by decide) (by decide) k8_6).mono ?_
        rintro e w50 ⟨f07, f17, f27, f37, f47, f57, j07, j17, j27, j37, j47, j57, j67, j77, Ao7, no7, co7, Ab7, nb7, cb7, rfl, b50⟩
        dsimp only
        replace hp := blk_u hp b50
        replace ha3 := blk_u ha3 b50
        replace ha4 := blk_u ha4 b50
        replace ha5 := blk_u ha5 b50
        replace hk12 := blk_u hk12 b50
        replace hk14 := blk_u hk14 b50
        replace hk16 := blk_u hk16 b50
        replace pb := pb.below b50
        replace p9 := p9.below b50
        replace tb := tb.below b50
        replace tbw := own_under tbw b50
        replace mk := mk.below b50
        replace lz_tb := Nat.le_trans lz_tb b50.size
        replace bel := bel.trans (b50.mono bel.size)
        clear b50
        clear mk
        refine hK.out _ _ trivial (fun hH51 => ?_)
        clear hK K
        refine wpAnyH_take (i := 4) (v := ?_) rfl (by kernel_rfl) (by kernel_rfl) (by kernel_rfl) (fun _ _ _ h => h) (Or.inl ⟨by rfl, ?_⟩) hH51 ?_
        rotate_left
        · ((intro W hW; clear hW; go_simp) <;> with_reducible rfl)
        simp only [Act.put, List.getElem_toArray, List.getElem_cons_zero, List.getElem_cons_succ, List.setIfInBounds_toArray, List.set_cons_zero, List.set_cons_succ]
        refine wpAnyH_take (i := 5) (v := ?_) rfl (by kernel_rfl) (by kernel_rfl) (by kernel_rfl) (fun _ _ _ h => h) (Or.inl ⟨by rfl, ?_⟩) hH51 ?_
        rotate_left
        · ((intro W hW; clear hW; go_simp) <;> with_reducible rfl)
        simp only [Act.put, List.getElem_toArray, List.getElem_cons_zero, List.getElem_cons_succ, List.setIfInBounds_toArray, List.set_cons_zero, List.set_cons_succ]
        refine wpAnyH_take (i := 6) (v := ?_) rfl (by kernel_rfl) (by kernel_rfl) (by kernel_rfl) (fun _ _ _ h => h) (Or.inl ⟨by rfl, ?_⟩) hH51 ?_
        rotate_left
        · ((intro W hW; clear hW; go_simp) <;> with_reducible rfl)
        simp only [Act.put, List.getElem_toArray, List.getElem_cons_zero, List.getElem_cons_succ, List.setIfInBounds_toArray, List.set_cons_zero, List.set_cons_succ]
        refine wpAnyH_ready (rs := [8]) (by kernel_rfl) (by simp) ?_
        refine AllReadyH.cons (o := _) rfl (fun K hK => ?_) AllReadyH.nil
        simp only [List.getElem_toArray, List.getElem_cons_zero, List.getElem_cons_succ]
        rw [if_pos (by rfl)]
        refine wp_store_blk 27 (.tmp 16) (.tmp 78) rfl g16 rfl _ rfl _ 27 hk16 (by rfl) (by kernel_rfl) (by kernel_rfl) ?_
        intro w52 hq gr
        replace pb := pb.away av_pb_k16 gr
        replace p9 := p9.away av_p9_k16 gr
        replace tb := tb.away av_tb_k16 gr
        replace tbw := own_off tbw of_tb_k16 gr
        replace lz_tb := Nat.le_trans lz_tb gr.size
        replace hp := blk_a hp gr d_p_k16
        replace ha3 := blk_a ha3 gr d_a3_k16
        replace ha4 := blk_a ha4 gr d_a4_k16
        replace ha5 := blk_a ha5 gr d_a5_k16
        replace hk12 := blk_a hk12 gr d_k12_k16
        replace hk14 := blk_a hk14 gr d_k14_k16
        replace bel := below_grown bel gr ok16 bel.size
        clear hk16
        have hk16 := hq
        clear hq gr
        refine hK.out _ _ trivial (fun hH53 => ?_)
        clear hK K
        simp only [Act.put]
        refine wpAnyH_take (i := 9) (v := ?_) rfl (by kernel_rfl) (by kernel_rfl) (by kernel_rfl) (fun _ _ _ h => h) (Or.inl ⟨by rfl, ?_⟩) hH53 ?_
        rotate_left
        · ((intro W hW; clear hW; go_simp) <;> with_reducible rfl)
        simp only [Act.put, List.getElem_toArray, List.getElem_cons_zero, List.getElem_cons_succ, List.setIfInBounds_toArray, List.set_cons_zero, List.set_cons_succ]
        refine wpAnyH_done (by kernel_rfl) ?_ _
        go_wp2_with fail
        go_meet
        case rel => exact ⟨g16, f07, f17, f27, f37, f47, f57, j07, j17, j27, j37, j47, j57, j67, j77, Ao7, no7, co7, Ab7, nb7, cb7, rfl, hp, ha3, ha4, ha5, hk12, hk14, hk16, ok16, d_a3_a4, d_a3_a5, d_a3_k12, d_a3_k14, d_a3_k16, d_a3_p, d_a4_a5, d_a4_k12, d_a4_k14, d_a4_k16, d_a4_p, d_a5_k12, d_a5_k14, d_a5_k16, d_a5_p, d_k12_k14, d_k12_k16, (ne_symm d_p_k12), d_k14_k16, (ne_symm d_p_k14), (ne_symm d_p_k16), pb, av_pb_a3, av_pb_a4, av_pb_a5, av_pb_k12, av_pb_k14, av_pb_k16, av_pb_p, p9, av_p9_a3, av_p9_a4, av_p9_a5, av_p9_k12, av_p9_k14, av_p9_k16, av_p9_p, tb, av_tb_a3, av_tb_a4, av_tb_a5, av_tb_k12, av_tb_k14, av_tb_k16, av_tb_p, bel⟩
    · simp only [List.getElem_toArray, List.getElem_cons_zero, List.getElem_cons_succ]
      rw [if_pos (by rfl)]
      refine wp_new_a 27 rfl #[.int .i64 0, .int .i64 0, .int .i64 0, .int .i64 0, .int .i64 0, .int .i64 0, .int .u8 0, .int .u8 0, .int .u8 0, .int .u8 0, .int .u8 0, .int .u8 0, .int .u8 0, .int .u8 0, .slice none 0 0, .slice none 0 0] (by kernel_rfl) ?_
      intro g16 w44 ge hh bb
      have d_p_k16 := ne_new (hlt hp) ge
      have d_a3_k16 := ne_new (hlt ha3) ge
      have d_a4_k16 := ne_new (hlt ha4) ge
      have d_a5_k16 := ne_new (hlt ha5) ge
      have d_k12_k16 := ne_new (hlt hk12) ge
      have d_k14_k16 := ne_new (hlt hk14) ge
      have av_pb_k16 := pb.av_new ge
      have av_p9_k16 := p9.av_new ge
      have av_tb_k16 := tb.av_new ge
      have of_tb_k16 := own_new tbw ge
      have ok16 := Nat.le_trans bel.size ge
      replace hp := blk_u hp bb
      replace ha3 := blk_u ha3 bb
      replace ha4 := blk_u ha4 bb
      replace ha5 := blk_u ha5 bb
      replace hk12 := blk_u hk12 bb
      replace hk14 := blk_u hk14 bb
      replace pb := pb.below bb
      replace p9 := p9.below bb
      replace tb := tb.below bb
      replace tbw := own_under tbw bb
      replace lz_tb := Nat.le_trans lz_tb bb.size
      replace bel := bel.trans (bb.mono bel.size)
      have hk16 := hh
      clear hh ge bb
      refine hK.out _ _ trivial (fun hH45 => ?_)
      clear hK K
      simp only [Act.put, List.setIfInBounds_toArray, List.set_cons_zero, List.set_cons_succ]
      refine wpAnyH_ready (rs := [0, 1]) (by kernel_rfl) (by simp) ?_
      refine AllReadyH.cons (o := _) rfl (fun K hK => ?_) (AllReadyH.cons (o := _) rfl (fun K hK => ?_) AllReadyH.nil)
      · simp only [List.getElem_toArray, List.getElem_cons_zero]
        go_simp
        with_reducible refine (base8 _).mono ?_
        rintro e w46 ⟨rfl, b46⟩
        dsimp only
        replace hp := blk_u hp b46
        replace ha3 := blk_u ha3 b46
        replace ha4 := blk_u ha4 b46
        replace ha5 := blk_u ha5 b46
        replace hk12 := blk_u hk12 b46
        replace hk14 := blk_u hk14 b46
        replace hk16 := blk_u hk16 b46
        replace pb := pb.below b46
        replace p9 := p9.below b46
        replace tb := tb.below b46
        replace tbw := own_under tbw b46
        replace lz_tb := Nat.le_trans lz_tb b46.size
        replace bel := bel.trans (b46.mono bel.size)
        clear b46
        refine hK.out _ _ trivial (fun hH47 => ?_)
        clear hK K
        refine wpAnyH_ready (rs := [1]) (by kernel_rfl) (by simp) ?_
        refine AllReadyH.cons (o := _) rfl (fun K hK => ?_) AllReadyH.nil
        simp only [List.getElem_toArray, List.getElem_cons_zero, List.getElem_cons_succ]
        rw [if_pos (by rfl)]
        refine wp_make_g (.const (.int .i64 44)) (.const (.int .i64 44)) 25 rfl 5 ii Try.underlying25 hii hz0 hz1 hz2 .i64 .i64 _ _ (44) rfl rfl rfl rfl (by omega) ?_
        intro g75 w48 ge sm bb
        replace hp := blk_u hp bb
        replace ha3 := blk_u ha3 bb
        replace ha4 := blk_u ha4 bb
        replace ha5 := blk_u ha5 bb
        replace hk12 := blk_u hk12 bb
        replace hk14 := blk_u hk14 bb
        replace hk16 := blk_u hk16 bb
        replace pb := pb.below bb
        replace p9 := p9.below bb
        replace tb := tb.below bb
        replace tbw := own_under tbw bb
        replace lz_tb := Nat.le_trans lz_tb bb.size
        replace bel := bel.trans (bb.mono bel.size)
        have mk := sm
        clear sm ge bb
        refine hK.out _ _ trivial (fun hH49 => ?_)
        clear hK K
        simp only [Act.put, List.setIfInBounds_toArray, List.set_cons_zero, List.set_cons_succ]
        refine wpAnyH_take (i := 2) (v := ?_) rfl (by kernel_rfl) (by kernel_rfl) (by kernel_rfl) (fun _ _ _ h => h) (Or.inl ⟨by rfl, ?_⟩) hH49 ?_
        rotate_left
        · ((intro W hW; clear hW; go_simp) <;> with_reducible rfl)
        simp only [Act.put, List.getElem_toArray, List.getElem_cons_zero, List.getElem_cons_succ, List.setIfInBounds_toArray, List.set_cons_zero, List.set_cons_succ]
        refine wpAnyH_ready (rs := [3]) (by kernel_rfl) (by simp) ?_
        refine AllReadyH.cons (o := _) rfl (fun K hK => ?_) AllReadyH.nil
        simp only [List.getElem_toArray, List.getElem_cons_zero, List.getElem_cons_succ]
        go_simp
        with_reducible refine (kput_er 0 0 0 0 0 0 0 _ _ _ _ _ _ _ _ 1 _ mk (Sl.nil _) (by omega) (by decide) (by decide) (by decide) (by decide) k8_6).mono ?_
        rintro e w50 ⟨f07, f17, f27, f37, f47, f57, j07, j17, j27, j37, j47, j57, j67, j77, Ao7, no7, co7, Ab7, nb7, cb7, rfl, b50⟩
        dsimp only
        replace hp := blk_u hp b50
        replace ha3 := blk_u ha3 b50
        replace ha4 := blk_u ha4 b50
        replace ha5 := blk_u ha5 b50
        replace hk12 := blk_u hk12 b50
        replace hk14 := blk_u hk14 b50
        replace hk16 := blk_u hk16 b50
        replace pb := pb.below b50
        replace p9 := p9.below b50
        replace tb := tb.below b50
        replace tbw := own_under tbw b50
        replace mk := mk.below b50
        replace lz_tb := Nat.le_trans lz_tb b50.size
        replace bel := bel.trans (b50.mono bel.size)
        clear b50
        clear mk
        refine hK.out _ _ trivial (fun hH51 => ?_)
        clear hK K
        refine wpAnyH_take (i := 4) (v := ?_) rfl (by kernel_rfl) (by kernel_rfl) (by kernel_rfl) (fun _ _ _ h => h) (Or.inl ⟨by rfl, ?_⟩) hH51 ?_
        rotate_left
        · ((intro W hW; clear hW; go_simp) <;> with_reducible rfl)
        simp only [Act.put, List.getElem_toArray, List.getElem_cons_zero, List.getElem_cons_succ, List.setIfInBounds_toArray, List.set_cons_zero, List.set_cons_succ]
        refine wpAnyH_take (i := 5) (v := ?_) rfl (by kernel_rfl) (by kernel_rfl) (by kernel_rfl) (fun _ _ _ h => h) (Or.inl ⟨by rfl, ?_⟩) hH51 ?_
        rotate_left
        · ((intro W hW; clear hW; go_simp) <;> with_reducible rfl)
        simp only [Act.put, List.getElem_toArray, List.getElem_cons_zero, List.getElem_cons_succ, List.setIfInBounds_toArray, List.set_cons_zero, List.set_cons_succ]
        refine wpAnyH_take (i := 6) (v := ?_) rfl (by kernel_rfl) (by kernel_rfl) (by kernel_rfl) (fun _ _ _ h => h) (Or.inl ⟨by rfl, ?_⟩) hH51 ?_
        rotate_left
        · ((intro W hW; clear hW; go_simp) <;> with_reducible rfl)
        simp only [Act.put, List.getElem_toArray, List.getElem_cons_zero, List.getElem_cons_succ, List.setIfInBounds_toArray, List.set_cons_zero, List.set_cons_succ]
        refine wpAnyH_ready (rs := [8]) (by kernel_rfl) (by simp) ?_
        refine AllReadyH.cons (o := _) rfl (fun K hK => ?_) AllReadyH.nil
        simp only [List.getElem_toArray, List.getElem_cons_zero, List.getElem_cons_succ]
        rw [if_pos (by rfl)]
        refine wp_store_blk 27 (.tmp 16) (.tmp 78) rfl g16 rfl _ rfl _ 27 hk16 (by rfl) (by kernel_rfl) (by kernel_rfl) ?_
        intro w52 hq gr
        replace pb := pb.away av_pb_k16 gr
        replace p9 := p9.away av_p9_k16 gr
        replace tb := tb.away av_tb_k16 gr
        replace tbw := own_off tbw of_tb_k16 gr
        replace lz_tb := Nat.le_trans lz_tb gr.size
        replace hp := blk_a hp gr d_p_k16
        replace ha3 := blk_a ha3 gr d_a3_k16
        replace ha4 := blk_a ha4 gr d_a4_k16
        replace ha5 := blk_a ha5 gr d_a5_k16
        replace hk12 := blk_a hk12 gr d_k12_k16
        replace hk14 := blk_a hk14 gr d_k14_k16
        replace bel := below_grown bel gr ok16 bel.size
        clear hk16
        have hk16 := hq
        clear hq gr
        refine hK.out _ _ trivial (fun hH53 => ?_)
        clear hK K
        simp only [Act.put]
        refine wpAnyH_take (i := 9) (v := ?_) rfl (by kernel_rfl) (by kernel_rfl) (by kernel_rfl) (fun _ _ _ h => h) (Or.inl ⟨by rfl, ?_⟩) hH53 ?_
        rotate_left
        · ((intro W hW; clear hW; go_simp) <;> with_reducible rfl)
        simp only [Act.put, List.getElem_toArray, List.getElem_cons_zero, List.getElem_cons_succ, List.setIfInBounds_toArray, List.set_cons_zero, List.set_cons_succ]
        refine wpAnyH_done (by kernel_rfl) ?_ _
        go_wp2_with fail
        go_meet
        case rel => exact ⟨g16, f07, f17, f27, f37, f47, f57, j07, j17, j27, j37, j47, j57, j67, j77, Ao7, no7, co7, Ab7, nb7, cb7, rfl, hp, ha3, ha4, ha5, hk12, hk14, hk16, ok16, d_a3_a4, d_a3_a5, d_a3_k12, d_a3_k14, d_a3_k16, d_a3_p, d_a4_a5, d_a4_k12, d_a4_k14, d_a4_k16, d_a4_p, d_a5_k12, d_a5_k14, d_a5_k16, d_a5_p, d_k12_k14, d_k12_k16, (ne_symm d_p_k12), d_k14_k16, (ne_symm d_p_k14), (ne_symm d_p_k16), pb, av_pb_a3, av_pb_a4, av_pb_a5, av_pb_k12, av_pb_k14, av_pb_k16, av_pb_p, p9, av_p9_a3, av_p9_a4, av_p9_a5, av_p9_k12, av_p9_k14, av_p9_k16, av_p9_p, tb, av_tb_a3, av_tb_a4, av_tb_a5, av_tb_k12, av_tb_k14, av_tb_k16, av_tb_p, bel⟩
      · simp only [List.getElem_toArray, List.getElem_cons_zero, List.getElem_cons_succ]
        rw [if_pos (by rfl)]
        refine wp_make_g (.const (.int .i64 44)) (.const (.int .i64 44)) 25 rfl 5 ii Try.underlying25 hii hz0 hz1 hz2 .i64 .i64 _ _ (44) rfl rfl rfl rfl (by omega) ?_
        intro g75 w46 ge sm bb
        replace hp := blk_u hp bb
        replace ha3 := blk_u ha3 bb
        replace ha4 := blk_u ha4 bb
        replace ha5 := blk_u ha5 bb
        replace hk12 := blk_u hk12 bb
        replace hk14 := blk_u hk14 bb
        replace hk16 := blk_u hk16 bb
        replace pb := pb.below bb
        replace p9 := p9.below bb
        replace tb := tb.below bb
        replace tbw := own_under tbw bb
        replace lz_tb := Nat.le_trans lz_tb bb.size
        replace bel := bel.trans (bb.mono bel.size)
        have mk := sm
        clear sm ge bb
        refine hK.out _ _ trivial (fun hH47 => ?_)
        clear hK K
        simp only [Act.put, List.setIfInBounds_toArray, List.set_cons_zero, List.set_cons_succ]
        refine wpAnyH_take (i := 2) (v := ?_) rfl (by kernel_rfl) (by kernel_rfl) (by kernel_rfl) (fun _ _ _ h => h) (Or.inl ⟨by rfl, ?_⟩) hH47 ?_
        rotate_left
        · ((intro W hW; clear hW; go_simp) <;> with_reducible rfl)
        simp only [Act.put, List.getElem_toArray, List.getElem_cons_zero, List.getElem_cons_succ, List.setIfInBounds_toArray, List.set_cons_zero, List.set_cons_succ]
        refine wpAnyH_ready (rs := [0]) (by kernel_rfl) (by simp) ?_
        refine AllReadyH.cons (o := _) rfl (fun K hK => ?_) AllReadyH.nil
        simp only [List.getElem_toArray, List.getElem_cons_zero]
        go_simp
        with_reducible refine (base8 _).mono ?_
        rintro e w48 ⟨rfl, b48⟩
        dsimp only
        replace hp := blk_u hp b48
        replace ha3 := blk_u ha3 b48
        replace ha4 := blk_u ha4 b48
        replace ha5 := blk_u ha5 b48
        replace hk12 := blk_u hk12 b48
        replace hk14 := blk_u hk14 b48
        replace hk16 := blk_u hk16 b48
        replace pb := pb.below b48
        replace p9 := p9.below b48
        replace tb := tb.below b48
        replace tbw := own_under tbw b48
        replace mk := mk.below b48
        replace lz_tb := Nat.le_trans lz_tb b48.size
        replace bel := bel.trans (b48.mono bel.size)
        clear b48
        refine hK.out _ _ trivial (fun hH49 => ?_)
        clear hK K
        refine wpAnyH_ready (rs := [3]) (by kernel_rfl) (by simp) ?_
        refine AllReadyH.cons (o := _) rfl (fun K hK => ?_) AllReadyH.nil
        simp only [List.getElem_toArray, List.getElem_cons_zero, List.getElem_cons_succ]
        go_simp
        with_reducible refine (kput_er 0 0 0 0 0 0 0 _ _ _ _ _ _ _ _ 1 _ mk (Sl.nil _) (by omega) (by decide) (by decide) (by decide) (by decide) k8_6).mono ?_
        rintro e w50 ⟨f07, f17, f27, f37, f47, f57, j07, j17, j27, j37, j47, j57, j67, j77, Ao7, no7, co7, Ab7, nb7, cb7, rfl, b50⟩
        dsimp only
        replace hp := blk_u hp b50
        replace ha3 := blk_u ha3 b50
        replace ha4 := blk_u ha4 b50
        replace ha5 := blk_u ha5 b50
        replace hk12 := blk_u hk12 b50
        replace hk14 := blk_u hk14 b50
        replace hk16 := blk_u hk16 b50
        replace pb := pb.below b50
        replace p9 := p9.below b50
        replace tb := tb.below b50
        replace tbw := own_under tbw b50
        replace mk := mk.below b50
        replace lz_tb := Nat.le_trans lz_tb b50.size
        replace bel := bel.trans (b50.mono bel.size)
        clear b50
        clear mk
        refine hK.out _ _ trivial (fun hH51 => ?_)
        clear hK K
        refine wpAnyH_take (i := 4) (v := ?_) rfl (by kernel_rfl) (by kernel_rfl) (by kernel_rfl) (fun _ _ _ h => h) (Or.inl ⟨by rfl, ?_⟩) hH51 ?_
        rotate_left
        · ((intro W hW; clear hW; go_simp) <;> with_reducible rfl)
        simp only [Act.put, List.getElem_toArray, List.getElem_cons_zero, List.getElem_cons_succ, List.setIfInBounds_toArray, List.set_cons_zero, List.set_cons_succ]
        refine wpAnyH_take (i := 5) (v := ?_) rfl (by kernel_rfl) (by kernel_rfl) (by kernel_rfl) (fun _ _ _ h => h) (Or.inl ⟨by rfl, ?_⟩) hH51 ?_
        rotate_left
        · ((intro W hW; clear hW; go_simp) <;> with_reducible rfl)
        simp only [Act.put, List.getElem_toArray, List.getElem_cons_zero, List.getElem_cons_succ, List.setIfInBounds_toArray, List.set_cons_zero, List.set_cons_succ]
        refine wpAnyH_take (i := 6) (v := ?_) rfl (by kernel_rfl) (by kernel_rfl) (by kernel_rfl) (fun _ _ _ h => h) (Or.inl ⟨by rfl, ?_⟩) hH51 ?_
        rotate_left
        · ((intro W hW; clear hW; go_simp) <;> with_reducible rfl)
        simp only [Act.put, List.getElem_toArray, List.getElem_cons_zero, List.getElem_cons_succ, List.setIfInBounds_toArray, List.set_cons_zero, List.set_cons_succ]
        refine wpAnyH_ready (rs := [8]) (by kernel_rfl) (by simp) ?_
        refine AllReadyH.cons (o := _) rfl (fun K hK => ?_) AllReadyH.nil
        simp only [List.getElem_toArray, List.getElem_cons_zero, List.getElem_cons_succ]
        rw [if_pos (by rfl)]
        refine wp_store_blk 27 (.tmp 16) (.tmp 78) rfl g16 rfl _ rfl _ 27 hk16 (by rfl) (by kernel_rfl) (by kernel_rfl) ?_
        intro w52 hq gr
        replace pb := pb.away av_pb_k16 gr
        replace p9 := p9.away av_p9_k16 gr
        replace tb := tb.away av_tb_k16 gr
        replace tbw := own_off tbw of_tb_k16 gr
        replace lz_tb := Nat.le_trans lz_tb gr.size
        replace hp := blk_a hp gr d_p_k16
        replace ha3 := blk_a ha3 gr d_a3_k16
        replace ha4 := blk_a ha4 gr d_a4_k16
        replace ha5 := blk_a ha5 gr d_a5_k16
        replace hk12 := blk_a hk12 gr d_k12_k16
        replace hk14 := blk_a hk14 gr d_k14_k16
        replace bel := below_grown bel gr ok16 bel.size
        clear hk16
        have hk16 := hq
        clear hq gr
        refine hK.out _ _ trivial (fun hH53 => ?_)
        clear hK K
        simp only [Act.put]
        refine wpAnyH_take (i := 9) (v := ?_) rfl (by kernel_rfl) (by kernel_rfl) (by kernel_rfl) (fun _ _ _ h => h) (Or.inl ⟨by rfl, ?_⟩) hH53 ?_
        rotate_left
        · ((intro W hW; clear hW; go_simp) <;> with_reducible rfl)
        simp only [Act.put, List.getElem_toArray, List.getElem_cons_zero, List.getElem_cons_succ, List.setIfInBounds_toArray, List.set_cons_zero, List.set_cons_succ]
        refine wpAnyH_done (by kernel_rfl) ?_ _
        go_wp2_with fail
        go_meet
        case rel => exact ⟨g16, f07, f17, f27, f37, f47, f57, j07, j17, j27, j37, j47, j57, j67, j77, Ao7, no7, co7, Ab7, nb7, cb7, rfl, hp, ha3, ha4, ha5, hk12, hk14, hk16, ok16, d_a3_a4, d_a3_a5, d_a3_k12, d_a3_k14, d_a3_k16, d_a3_p, d_a4_a5, d_a4_k12, d_a4_k14, d_a4_k16, d_a4_p, d_a5_k12, d_a5_k14, d_a5_k16, d_a5_p, d_k12_k14, d_k12_k16, (ne_symm d_p_k12), d_k14_k16, (ne_symm d_p_k14), (ne_symm d_p_k16), pb, av_pb_a3, av_pb_a4, av_pb_a5, av_pb_k12, av_pb_k14, av_pb_k16, av_pb_p, p9, av_p9_a3, av_p9_a4, av_p9_a5, av_p9_k12, av_p9_k14, av_p9_k16, av_p9_p, tb, av_tb_a3, av_tb_a4, av_tb_a5, av_tb_k12, av_tb_k14, av_tb_k16, av_tb_p, bel⟩
  obtain ⟨w54, hw_⟩ : ∃ x, x = wc := ⟨_, rfl⟩
  subst hw_
  obtain ⟨g16, f07, f17, f27, f37, f47, f57, j07, j17, j27, j37, j47, j57, j67, j77, Ao7, no7, co7, Ab7, nb7, cb7, rfl, hp, ha3, ha4, ha5, hk12, hk14, hk16, ok16, d_a3_a4, d_a3_a5, d_a3_k12, d_a3_k14, d_a3_k16, d_a3_p, d_a4_a5, d_a4_k12, d_a4_k14, d_a4_k16, d_a4_p, d_a5_k12, d_a5_k14, d_a5_k16, d_a5_p, d_k12_k14, d_k12_k16, d_k12_p, d_k14_k16, d_k14_p, d_k16_p, pb, av_pb_a3, av_pb_a4, av_pb_a5, av_pb_k12, av_pb_k14, av_pb_k16, av_pb_p, p9, av_p9_a3, av_p9_a4, av_p9_a5, av_p9_k12, av_p9_k14, av_p9_k16, av_p9_p, tb, av_tb_a3, av_tb_a4, av_tb_a5, av_tb_k12, av_tb_k14, av_tb_k16, av_tb_p, bel⟩ := hcut
  go_wp2_with fail
  go_cut [19] from 9999 (fun s19 W => ∃ g18 : Nat, ∃ f08 : Int, ∃ f18 : Int, ∃ f28 : Int, ∃ f38 : Int, ∃ f48 : Int, ∃ f58 : Int, ∃ j08 : UInt8, ∃ j18 : UInt8, ∃ j28 : UInt8, ∃ j38 : UInt8, ∃ j48 : UInt8, ∃ j58 : UInt8, ∃ j68 : UInt8, ∃ j78 : UInt8, ∃ Ao8 : Option Addr, ∃ no8 : Nat, ∃ co8 : Nat, ∃ Ab8 : Option Addr, ∃ nb8 : Nat, ∃ cb8 : Nat, s19 = .int .i64 2 ∧ W.heap[g1]? = some (.cells #[.int .i64 0, .int .i64 0, .int .i64 0, .int .i64 0, .int .i64 64, .int .i64 6, .int .u8 10, .int .u8 0, .int .u8 0, .int .u8 1, .int .u8 10, .int .u8 0, .int .u8 0, .int .u8 2, .slice Ao 0 co, .slice Ab 20 cb] 27 (0, 0)) ∧ W.heap[g3]? = some (.cells #[.int .i64 0, .int .i64 0, .int .i64 1, .int .i64 0, .int .i64 64, .int .i64 6, .int .u8 10, .int .u8 0, .int .u8 0, .int .u8 1, .int .u8 10, .int .u8 0, .int .u8 0, .int .u8 2, .slice Ao 0 co, .slice Ab 20 cb] 27 (0, 0)) ∧ W.heap[g4]? = some (.cells #[.int .i64 0, .int .i64 0, .int .i64 0, .int .i64 0, .int .i64 64, .int .i64 6, .int .u8 10, .int .u8 0, .int .u8 0, .int .u8 1, .int .u8 10, .int .u8 0, .int .u8 0, .int .u8 2, .slice Ao 0 co, .slice A34 19 c34] 27 (0, 0)) ∧ W.heap[g5]? = some (.cells #[.int .i64 0, .int .i64 0, .int .i64 0, .int .i64 0, .int .i64 64, .int .i64 6, .int .u8 10, .int .u8 0, .int .u8 0, .int .u8 1, .int .u8 10, .int .u8 0, .int .u8 0, .int .u8 2, .slice Ao 0 co, .slice (some ⟨gb, 0, none⟩) 20 c39] 27 (0, 0)) ∧ W.heap[g12]? = some (.cells #[.int .i64 x04, .int .i64 x14, .int .u32 x24, .int .u32 x34, .int .i64 x44, .int .i64 x54, .int .i64 x64, .slice D4 m4 d4, .slice E4 n4 e4] 34 (0, 0)) ∧ W.heap[g14]? = some (.cells #[.int .i64 f06, .int .i64 f16, .int .i64 f26, .int .i64 f36, .int .i64 f46, .int .i64 f56, .int .u8 (j06.toNat : Int), .int .u8 (j16.toNat : Int), .int .u8 (j26.toNat : Int), .int .u8 (j36.toNat : Int), .int .u8 (j46.toNat : Int), .int .u8 (j56.toNat : Int), .int .u8 (j66.toNat : Int), .int .u8 (j76.toNat : Int), .slice Ao6 no6 co6, .slice Ab6 nb6 cb6] 27 (0, 0)) ∧ W.heap[g16]? = some (.cells #[.int .i64 f07, .int .i64 f17, .int .i64 f27, .int .i64 f37, .int .i64 f47, .int .i64 f57, .int .u8 (j07.toNat : Int), .int .u8 (j17.toNat : Int), .int .u8 (j27.toNat : Int), .int .u8 (j37.toNat : Int), .int .u8 (j47.toNat : Int), .int .u8 (j57.toNat : Int), .int .u8 (j67.toNat : Int), .int .u8 (j77.toNat : Int), .slice Ao7 no7 co7, .slice Ab7 nb7 cb7] 27 (0, 0)) ∧ W.heap[g18]? = some (.cells #[.int .i64 f08, .int .i64 f18, .int .i64 f28, .int .i64 f38, .int .i64 f48, .int .i64 f58, .int .u8 (j08.toNat : Int), .int .u8 (j18.toNat : Int), .int .u8 (j28.toNat : Int), .int .u8 (j38.toNat : Int), .int .u8 (j48.toNat : Int), .int .u8 (j58.toNat : Int), .int .u8 (j68.toNat : Int), .int .u8 (j78.toNat : Int), .slice Ao8 no8 co8, .slice Ab8 nb8 cb8] 27 (0, 0)) ∧ w.heap.size ≤ g18 ∧ Hid (g3 ≠ g4) ∧ Hid (g3 ≠ g5) ∧ Hid (g3 ≠ g12) ∧ Hid (g3 ≠ g14) ∧ Hid (g3 ≠ g16) ∧ Hid (g3 ≠ g18) ∧ Hid (g3 ≠ g1) ∧ Hid (g4 ≠ g5) ∧ Hid (g4 ≠ g12) ∧ Hid (g4 ≠ g14) ∧ Hid (g4 ≠ g16) ∧ Hid (g4 ≠ g18) ∧ Hid (g4 ≠ g1) ∧ Hid (g5 ≠ g12) ∧ Hid (g5 ≠ g14) ∧ Hid (g5 ≠ g16) ∧ Hid (g5 ≠ g18) ∧ Hid (g5 ≠ g1) ∧ Hid (g12 ≠ g14) ∧ Hid (g12 ≠ g16) ∧ Hid (g12 ≠ g18) ∧ Hid (g12 ≠ g1) ∧ Hid (g14 ≠ g16) ∧ Hid (g14 ≠ g18) ∧ Hid (g14 ≠ g1) ∧ Hid (g16 ≠ g18) ∧ Hid (g16 ≠ g1) ∧ Hid (g18 ≠ g1) ∧ Sl W (Ab) (20) (cb) (pb8) ∧ Av (Ab) (20) g3 ∧ Av (Ab) (20) g4 ∧ Av (Ab) (20) g5 ∧ Av (Ab) (20) g12 ∧ Av (Ab) (20) g14 ∧ Av (Ab) (20) g16 ∧ Av (Ab) (20) g18 ∧ Av (Ab) (20) g1 ∧ Sl W (A34) (19) (c34) ((pb8).take (19)) ∧ Av (A34) (19) g3 ∧ Av (A34) (19) g4 ∧ Av (A34) (19) g5 ∧ Av (A34) (19) g12 ∧ Av (A34) (19) g14 ∧ Av (A34) (19) g16 ∧ Av (A34) (19) g18 ∧ Av (A34) (19) g1 ∧ Sl W (some ⟨gb, 0, none⟩) (20) (c39) (((pb8).set 0 1).set 12 64) ∧ Av (some ⟨gb, 0, none⟩) (20) g3 ∧ Av (some ⟨gb, 0, none⟩) (20) g4 ∧ Av (some ⟨gb, 0, none⟩) (20) g5 ∧ Av (some ⟨gb, 0, none⟩) (20) g12 ∧ Av (some ⟨gb, 0, none⟩) (20) g14 ∧ Av (some ⟨gb, 0, none⟩) (20) g16 ∧ Av (some ⟨gb, 0, none⟩) (20) g18 ∧ Av (some ⟨gb, 0, none⟩) (20) g1 ∧ Below w.heap.size w W)
  case first =>
    replace bel := bel.drew
    replace hp : w54.drew.heap[g1]? = _ := hp
    replace ha3 : w54.drew.heap[g3]? = _ := ha3
    replace ha4 : w54.drew.heap[g4]? = _ := ha4
    replace ha5 : w54.drew.heap[g5]? = _ := ha5
    replace hk12 : w54.drew.heap[g12]? = _ := hk12
    replace hk14 : w54.drew.heap[g14]? = _ := hk14
    replace hk16 : w54.drew.heap[g16]? = _ := hk16
    replace pb := pb.drew
    replace p9 := p9.drew
    replace tb := tb.drew
    refine wp_region_held_drew (S := fun _ => True) (by kernel_rfl) trivial (fun hH => ?_)
    generalize w54.drew = w55 at bel hp ha3 ha4 ha5 hk12 hk14 hk16 pb p9 tb hH ⊢
    refine wpAnyH_ready (rs := [0, 1, 7]) (by kernel_rfl) (by simp) ?_
    refine AllReadyH.cons (o := _) rfl (fun K hK => ?_) (AllReadyH.cons (o := _) rfl (fun K hK => ?_) (AllReadyH.cons (o := _) rfl (fun K hK => ?_) AllReadyH.nil))
    · simp only [List.getElem_toArray, List.getElem_cons_zero]
      go_simp
      with_reducible refine (base8 _).mono ?_
      rintro e w56 ⟨rfl, b56⟩
      dsimp only
      replace hp := blk_u hp b56
      replace ha3 := blk_u ha3 b56
      replace ha4 := blk_u ha4 b56
      replace ha5 := blk_u ha5 b56
      replace hk12 := blk_u hk12 b56
      replace hk14 := blk_u hk14 b56
      replace hk16 := blk_u hk16 b56
      replace pb := pb.below b56
      replace p9 := p9.below b56
      replace tb := tb.below b56
      replace bel := bel.trans (b56.mono bel.size)
      clear b56
      refine hK.out _ _ trivial (fun hH57 => ?_)
      clear hK K
      refine wpAnyH_ready (rs := [1, 7]) (by kernel_rfl) (by simp) ?_
      refine AllReadyH.cons (o := _) rfl (fun K hK => ?_) (AllReadyH.cons (o := _) rfl (fun K hK => ?_) AllReadyH.nil)
      · simp only [List.getElem_toArray, List.getElem_cons_zero, List.getElem_cons_succ]
        rw [if_pos (by rfl)]
        refine wp_make_g (.const (.int .i64 1461)) (.const (.int .i64 1461)) 25 rfl 5 ii Try.underlying25 hii hz0 hz1 hz2 .i64 .i64 _ _ (1461) rfl rfl rfl rfl (by omega) ?_
        intro g82 w58 ge sm bb
        replace hp := blk_u hp bb
        replace ha3 := blk_u ha3 bb
        replace ha4 := blk_u ha4 bb
        replace ha5 := blk_u ha5 bb
        replace hk12 := blk_u hk12 bb
        replace hk14 := blk_u hk14 bb
        replace hk16 := blk_u hk16 bb
        replace pb := pb.below bb
        replace p9 := p9.below bb
        replace tb := tb.below bb
        replace bel := bel.trans (bb.mono bel.size)
        have ml := sm
        clear sm ge bb
        refine hK.out _ _ trivial (fun hH59 => ?_)
        clear hK K
        simp only [Act.put, List.setIfInBounds_toArray, List.set_cons_zero, List.set_cons_succ]
        refine wpAnyH_take (i := 2) (v := ?_) rfl (by kernel_rfl) (by kernel_rfl) (by kernel_rfl) (fun _ _ _ h => h) (Or.inl ⟨by rfl, ?_⟩) hH59 ?_
        rotate_left
        · ((intro W hW; clear hW; go_simp) <;> with_reducible rfl)
        simp only [Act.put, List.getElem_toArray, List.getElem_cons_zero, List.getElem_cons_succ, List.setIfInBounds_toArray, List.set_cons_zero, List.set_cons_succ]
        refine wpAnyH_ready (rs := [3, 7]) (by kernel_rfl) (by simp) ?_
        refine AllReadyH.cons (o := _) rfl (fun K hK => ?_) (AllReadyH.cons (o := _) rfl (fun K hK => ?_) AllReadyH.nil)
        · simp only [List.getElem_toArray, List.getElem_cons_zero, List.getElem_cons_succ]
          go_simp
          with_reducible refine (kput_er 0 0 0 0 0 0 0 _ _ _ _ _ _ _ _ 2 _ (Sl.nil _) ml (by omega) (by decide) (by decide) (by decide) (by decide) k8_7).mono ?_
          rintro e w60 ⟨f08, f18, f28, f38, f48, f58, j08, j18, j28, j38, j48, j58, j68, j78, Ao8, no8, co8, Ab8, nb8, cb8, rfl, b60⟩
          dsimp only
          replace hp := blk_u hp b60
          replace ha3 := blk_u ha3 b60
          replace ha4 := blk_u ha4 b60
          replace ha5 := blk_u ha5 b60
          replace hk12 := blk_u hk12 b60
          replace hk14 := blk_u hk14 b60
          replace hk16 := blk_u hk16 b60
          replace pb := pb.below b60
          replace p9 := p9.below b60
          replace tb := tb.below b60
          replace ml := ml.below b60
          replace bel := bel.trans (b60.mono bel.size)
          clear b60
          clear ml
          refine hK.out _ _ trivial (fun hH61 => ?_)
          clear hK K
          refine wpAnyH_take (i := 4) (v := ?_) rfl (by kernel_rfl) (by kernel_rfl) (by kernel_rfl) (fun _ _ _ h => h) (Or.inl ⟨by rfl, ?_⟩) hH61 ?_
          rotate_left
          · ((intro W hW; clear hW; go_simp) <;> with_reducible rfl)
          simp only [Act.put, List.getElem_toArray, List.getElem_cons_zero, List.getElem_cons_succ, List.setIfInBounds_toArray, List.set_cons_zero, List.set_cons_succ]
          refine wpAnyH_take (i := 5) (v := ?_) rfl (by kernel_rfl) (by kernel_rfl) (by kernel_rfl) (fun _ _ _ h => h) (Or.inl ⟨by rfl, ?_⟩) hH61 ?_
          rotate_left
          · ((intro W hW; clear hW; go_simp) <;> with_reducible rfl)
          simp only [Act.put, List.getElem_toArray, List.getElem_cons_zero, List.getElem_cons_succ, List.setIfInBounds_toArray, List.set_cons_zero, List.set_cons_succ]
          refine wpAnyH_take (i := 6) (v := ?_) rfl (by kernel_rfl) (by kernel_rfl) (by kernel_rfl) (fun _ _ _ h => h) (Or.inl ⟨by rfl, ?_⟩) hH61 ?_
          rotate_left
          · ((intro W hW; clear hW; go_simp) <;> with_reducible rfl)
          simp only [Act.put, List.getElem_toArray, List.getElem_cons_zero, List.getElem_cons_succ, List.setIfInBounds_toArray, List.set_cons_zero, List.set_cons_succ]
          refine wpAnyH_ready (rs := [7]) (by kernel_rfl) (by simp) ?_
          refine AllReadyH.cons (o := _) rfl (fun K hK => ?_) AllReadyH.nil
          simp only [List.getElem_toArray, List.getElem_cons_zero, List.getElem_cons_succ]
          rw [if_pos (by rfl)]
          refine wp_new_a 27 rfl #[.int .i64 0, .int .i64 0, .int .i64 0, .int .i64 0, .int .i64 0, .int .i64 0, .int .u8 0, .int .u8 0, .int .u8 0, .int .u8 0, .int .u8 0, .int .u8 0, .int .u8 0, .int .u8 0, .slice none 0 0, .slice none 0 0] (by kernel_rfl) ?_
          intro g18 w62 ge hh bb
          have d_p_k18 := ne_new (hlt hp) ge
          have d_a3_k18 := ne_new (hlt ha3) ge
          have d_a4_k18 := ne_new (hlt ha4) ge
          have d_a5_k18 := ne_new (hlt ha5) ge
          have d_k12_k18 := ne_new (hlt hk12) ge
          have d_k14_k18 := ne_new (hlt hk14) ge
          have d_k16_k18 := ne_new (hlt hk16) ge
          have av_pb_k18 := pb.av_new ge
          have av_p9_k18 := p9.av_new ge
          have av_tb_k18 := tb.av_new ge
          have ok18 := Nat.le_trans bel.size ge
          replace hp := blk_u hp bb
          replace ha3 := blk_u ha3 bb
          replace ha4 := blk_u ha4 bb
          replace ha5 := blk_u ha5 bb
          replace hk12 := blk_u hk12 bb
          replace hk14 := blk_u hk14 bb
          replace hk16 := blk_u hk16 bb
          replace pb := pb.below bb
          replace p9 := p9.below bb
          replace tb := tb.below bb
          replace bel := bel.trans (bb.mono bel.size)
          have hk18 := hh
          clear hh ge bb
          refine hK.out _ _ trivial (fun hH63 => ?_)
          clear hK K
          simp only [Act.put, List.setIfInBounds_toArray, List.set_cons_zero, List.set_cons_succ]
          refine wpAnyH_ready (rs := [8]) (by kernel_rfl) (by simp) ?_
          refine AllReadyH.cons (o := _) rfl (fun K hK => ?_) AllReadyH.nil
          simp only [List.getElem_toArray, List.getElem_cons_zero, List.getElem_cons_succ]
          rw [if_pos (by rfl)]
          refine wp_store_blk 27 (.tmp 18) (.tmp 85) rfl g18 rfl _ rfl _ 27 hk18 (by rfl) (by kernel_rfl) (by kernel_rfl) ?_
          intro w64 hq gr
          replace pb := pb.away av_pb_k18 gr
          replace p9 := p9.away av_p9_k18 gr
          replace tb := tb.away av_tb_k18 gr
          replace hp := blk_a hp gr d_p_k18
          replace ha3 := blk_a ha3 gr d_a3_k18
          replace ha4 := blk_a ha4 gr d_a4_k18
          replace ha5 := blk_a ha5 gr d_a5_k18
          replace hk12 := blk_a hk12 gr d_k12_k18
          replace hk14 := blk_a hk14 gr d_k14_k18
          replace hk16 := blk_a hk16 gr d_k16_k18
          replace bel := below_grown bel gr ok18 bel.size
          clear hk18
          have hk18 := hq
          clear hq gr
          refine hK.out _ _ trivial (fun hH65 => ?_)
          clear hK K
          simp only [Act.put]
          refine wpAnyH_take (i := 9) (v := ?_) rfl (by kernel_rfl) (by kernel_rfl) (by kernel_rfl) (fun _ _ _ h => h) (Or.inl ⟨by rfl, ?_⟩) hH65 ?_
          rotate_left
          · ((intro W hW; clear hW; go_simp) <;> with_reducible rfl)
          simp only [Act.put, List.getElem_toArray, List.getElem_cons_zero, List.getElem_cons_succ, List.setIfInBounds_toArray, List.set_cons_zero, List.set_cons_succ]
          refine wpAnyH_done (by kernel_rfl) ?_ _
          go_wp2_with fail
          go_meet
          case rel => exact ⟨g18, f08, f18, f28, f38, f48, f58, j08, j18, j28, j38, j48, j58, j68, j78, Ao8, no8, co8, Ab8, nb8, cb8, rfl, hp, ha3, ha4, ha5, hk12, hk14, hk16, hk18, ok18, d_a3_a4, d_a3_a5, d_a3_k12, d_a3_k14, d_a3_k16, d_a3_k18, d_a3_p, d_a4_a5, d_a4_k12, d_a4_k14, d_a4_k16, d_a4_k18, d_a4_p, d_a5_k12, d_a5_k14, d_a5_k16, d_a5_k18, d_a5_p, d_k12_k14, d_k12_k16, d_k12_k18, d_k12_p, d_k14_k16, d_k14_k18, d_k14_p, d_k16_k18, d_k16_p, (ne_symm d_p_k18), pb, av_pb_a3, av_pb_a4, av_pb_a5, av_pb_k12, av_pb_k14, av_pb_k16, av_pb_k18, av_pb_p, p9, av_p9_a3, av_p9_a4, av_p9_a5, av_p9_k12, av_p9_k14, av_p9_k16, av_p9_k18, av_p9_p, tb, av_tb_a3, av_tb_a4, av_tb_a5, av_tb_k12, av_tb_k14, av_tb_k16, av_tb_k18, av_tb_p, bel⟩
        · simp only [List.getElem_toArray, List.getElem_cons_zero, List.getElem_cons_succ]
          rw [if_pos (by rfl)]
          refine wp_new_a 27 rfl #[.int .i64 0, .int .i64 0, .int .i64 0, .int .i64 0, .int .i64 0, .int .i64 0, .int .u8 0, .int .u8 0, .int .u8 0, .int .u8 0, .int .u8 0, .int .u8 0, .int .u8 0, .int .u8 0, .slice none 0 0, .slice none 0 0] (by kernel_rfl) ?_
          intro g18 w60 ge hh bb
          have d_p_k18 := ne_new (hlt hp) ge
          have d_a3_k18 := ne_new (hlt ha3) ge
          have d_a4_k18 := ne_new (hlt ha4) ge
          have d_a5_k18 := ne_new (hlt ha5) ge
          have d_k12_k18 := ne_new (hlt hk12) ge
          have d_k14_k18 := ne_new (hlt hk14) ge
          have d_k16_k18 := ne_new (hlt hk16) ge
          have av_pb_k18 := pb.av_new ge
          have av_p9_k18 := p9.av_new ge
          have av_tb_k18 := tb.av_new ge
          have av_ml_k18 := ml.av_new ge
          have ok18 := Nat.le_trans bel.size ge
          replace hp := blk_u hp bb
          replace ha3 := blk_u ha3 bb
          replace ha4 := blk_u ha4 bb
          replace ha5 := blk_u ha5 bb
          replace hk12 := blk_u hk12 bb
          replace hk14 := blk_u hk14 bb
          replace hk16 := blk_u hk16 bb
          replace pb := pb.below bb
          replace p9 := p9.below bb
          replace tb := tb.below bb
          replace ml := ml.below bb
          replace bel := bel.trans (bb.mono bel.size)
          have hk18 := hh
          clear hh ge bb
          refine hK.out _ _ trivial (fun hH61 => ?_)
          clear hK K
          simp only [Act.put, List.setIfInBounds_toArray, List.set_cons_zero, List.set_cons_succ]
          refine wpAnyH_ready (rs := [3]) (by kernel_rfl) (by simp) ?_
          refine AllReadyH.cons (o := _) rfl (fun K hK => ?_) AllReadyH.nil
          simp only [List.getElem_toArray, List.getElem_cons_zero, List.getElem_cons_succ]
          go_simp
          with_reducible refine (kput_er 0 0 0 0 0 0 0 _ _ _ _ _ _ _ _ 2 _ (Sl.nil _) ml (by omega) (by decide) (by decide) (by decide) (by decide) k8_7).mono ?_
          rintro e w62 ⟨f08, f18, f28, f38, f48, f58, j08, j18, j28, j38, j48, j58, j68, j78, Ao8, no8, co8, Ab8, nb8, cb8, rfl, b62⟩
          dsimp only
          replace hp := blk_u hp b62
          replace ha3 := blk_u ha3 b62
          replace ha4 := blk_u ha4 b62
          replace ha5 := blk_u ha5 b62
          replace hk12 := blk_u hk12 b62
          replace hk14 := blk_u hk14 b62
          replace hk16 := blk_u hk16 b62
          replace hk18 := blk_u hk18 b62
          replace pb := pb.below b62
          replace p9 := p9.below b62
          replace tb := tb.below b62
          replace ml := ml.below b62
          replace bel := bel.trans (b62.mono bel.size)
          clear b62
          clear ml
          refine hK.out _ _ trivial (fun hH63 => ?_)
          clear hK K
          refine wpAnyH_take (i := 4) (v := ?_) rfl (by kernel_rfl) (by kernel_rfl) (by kernel_rfl) (fun _ _ _ h => h) (Or.inl ⟨by rfl, ?_⟩) hH63 ?_
          rotate_left
          · ((intro W hW; clear hW; go_simp) <;> with_reducible rfl)
          simp only [Act.put, List.getElem_toArray, List.getElem_cons_zero, List.getElem_cons_succ, List.setIfInBounds_toArray, List.set_cons_zero, List.set_cons_succ]
          refine wpAnyH_take (i := 5) (v := ?_) rfl (by kernel_rfl) (by kernel_rfl) (by kernel_rfl) (fun _ _ _ h => h) (Or.inl ⟨by rfl, ?_⟩) hH63 ?_
          rotate_left
          · ((intro W hW; clear hW; go_simp) <;> with_reducible rfl)
          simp only [Act.put, List.getElem_toArray, List.getElem_cons_zero, List.getElem_cons_succ, List.setIfInBounds_toArray, List.set_cons_zero, List.set_cons_succ]
          refine wpAnyH_take (i := 6) (v := ?_) rfl (by kernel_rfl) (by kernel_rfl) (by kernel_rfl) (fun _ _ _ h => h) (Or.inl ⟨by rfl, ?_⟩) hH63 ?_
          rotate_left
          · ((intro W hW; clear hW; go_simp) <;> with_reducible rfl)
          simp only [Act.put, List.getElem_toArray, List.getElem_cons_zero, List.getElem_cons_succ, List.setIfInBounds_toArray, List.set_cons_zero, List.set_cons_succ]
          refine wpAnyH_ready (rs := [8]) (by kernel_rfl) (by simp) ?_
          refine AllReadyH.cons (o := _) rfl (fun K hK => ?_) AllReadyH.nil
          simp only [List.getElem_toArray, List.getElem_cons_zero, List.getElem_cons_succ]
          rw [if_pos (by rfl)]
          refine wp_store_blk 27 (.tmp 18) (.tmp 85) rfl g18 rfl _ rfl _ 27 hk18 (by rfl) (by kernel_rfl) (by kernel_rfl) ?_
          intro w64 hq gr
          replace pb := pb.away av_pb_k18 gr
          replace p9 := p9.away av_p9_k18 gr
          replace tb := tb.away av_tb_k18 gr
          replace hp := blk_a hp gr d_p_k18
          replace ha3 := blk_a ha3 gr d_a3_k18
          replace ha4 := blk_a ha4 gr d_a4_k18
          replace ha5 := blk_a ha5 gr d_a5_k18
          replace hk12 := blk_a hk12 gr d_k12_k18
          replace hk14 := blk_a hk14 gr d_k14_k18
          replace hk16 := blk_a hk16 gr d_k16_k18
          replace bel := below_grown bel gr ok18 bel.size
          clear hk18
          have hk18 := hq
          clear hq gr
          refine hK.out _ _ trivial (fun hH65 => ?_)
          clear hK K
          simp only [Act.put]
          refine wpAnyH_take (i := 9) (v := ?_) rfl (by kernel_rfl) (by kernel_rfl) (by kernel_rfl) (fun _ _ _ h => h) (Or.inl ⟨by rfl, ?_⟩) hH65 ?_
          rotate_left
          · ((intro W hW; clear hW; go_simp) <;> with_reducible rfl)
          simp only [Act.put, List.getElem_toArray, List.getElem_cons_zero, List.getElem_cons_succ, List.setIfInBounds_toArray, List.set_cons_zero, List.set_cons_succ]
          refine wpAnyH_done (by kernel_rfl) ?_ _
          go_wp2_with fail
          go_meet
          case rel => exact ⟨g18, f08, f18, f28, f38, f48, f58, j08, j18, j28, j38, j48, j58, j68, j78, Ao8, no8, co8, Ab8, nb8, cb8, rfl, hp, ha3, ha4, ha5, hk12, hk14, hk16, hk18, ok18, d_a3_a4, d_a3_a5, d_a3_k12, d_a3_k14, d_a3_k16, d_a3_k18, d_a3_p, d_a4_a5, d_a4_k12, d_a4_k14, d_a4_k16, d_a4_k18, d_a4_p, d_a5_k12, d_a5_k14, d_a5_k16, d_a5_k18, d_a5_p, d_k12_k14, d_k12_k16, d_k12_k18, d_k12_p, d_k14_k16, d_k14_k18, d_k14_p, d_k16_k18, d_k16_p, (ne_symm d_p_k18), pb, av_pb_a3, av_pb_a4, av_pb_a5, av_pb_k12, av_pb_k14, av_pb_k16, av_pb_k18, av_pb_p, p9, av_p9_a3, av_p9_a4, av_p9_a5, av_p9_k12, av_p9_k14, av_p9_k16, av_p9_k18, av_p9_p, tb, av_tb_a3, av_tb_a4, av_tb_a5, av_tb_k12, av_tb_k14, av_tb_k16, av_tb_k18, av_tb_p, bel⟩
      · simp only [List.getElem_toArray, List.getElem_cons_zero, List.getElem_cons_succ]
        rw [if_pos (by rfl)]
        refine wp_new_a 27 rfl #[.int .i64 0, .int .i64 0, .int .i64 0, .int .i64 0, .int .i64 0, .int .i64 0, .int .u8 0, .int .u8 0, .int .u8 0, .int .u8 0, .int .u8 0, .int .u8 0, .int .u8 0, .int .u8 0, .slice none 0 0, .slice none 0 0] (by kernel_rfl) ?_
        intro g18 w58 ge hh bb
        have d_p_k18 := ne_new (hlt hp) ge
        have d_a3_k18 := ne_new (hlt ha3) ge
        have d_a4_k18 := ne_new (hlt ha4) ge
        have d_a5_k18 := ne_new (hlt ha5) ge
        have d_k12_k18 := ne_new (hlt hk12) ge
        have d_k14_k18 := ne_new (hlt hk14) ge
        have d_k16_k18 := ne_new (hlt hk16) ge
        have av_pb_k18 := pb.av_new ge
        have av_p9_k18 := p9.av_new ge
        have av_tb_k18 := tb.av_new ge
        have ok18 := Nat.le_trans bel.size ge
        replace hp := blk_u hp bb
        replace ha3 := blk_u ha3 bb
        replace ha4 := blk_u ha4 bb
        replace ha5 := blk_u ha5 bb
        replace hk12 := blk_u hk12 bb
        replace hk14 := blk_u hk14 bb
        replace hk16 := blk_u hk16 bb
        replace pb := pb.below bb
        replace p9 := p9.below bb
        replace tb := tb.below bb
        replace bel := bel.trans (bb.mono bel.size)
        have hk18 := hh
        clear hh ge bb
        refine hK.out _ _ trivial (fun hH59 => ?_)
        clear hK K
        simp only [Act.put, List.setIfInBounds_toArray, List.set_cons_zero, List.set_cons_succ]
        refine wpAnyH_ready (rs := [1]) (by kernel_rfl) (by simp) ?_
        refine AllReadyH.cons (o := _) rfl (fun K hK => ?_) AllReadyH.nil
        simp only [List.getElem_toArray, List.getElem_cons_zero, List.getElem_cons_succ]
        rw [if_pos (by rfl)]
        refine wp_make_g (.const (.int .i64 1461)) (.const (.int .i64 1461)) 25 rfl 5 ii Try.underlying25 hii hz0 hz1 hz2 .i64 .i64 _ _ (1461) rfl rfl rfl rfl (by omega) ?_
        intro g82 w60 ge sm bb
        replace hp := blk_u hp bb
        replace ha3 := blk_u ha3 bb
        replace ha4 := blk_u ha4 bb
        replace ha5 := blk_u ha5 bb
        replace hk12 := blk_u hk12 bb
        replace hk14 := blk_u hk14 bb
        replace hk16 := blk_u hk16 bb
        replace hk18 := blk_u hk18 bb
        replace pb := pb.below bb
        replace p9 := p9.below bb
        replace tb := tb.below bb
        replace bel := bel.trans (bb.mono bel.size)
        have ml := sm
        clear sm ge bb
        refine hK.out _ _ trivial (fun hH61 => ?_)
        clear hK K
        simp only [Act.put, List.setIfInBounds_toArray, List.set_cons_zero, List.set_cons_succ]
        refine wpAnyH_take (i := 2) (v := ?_) rfl (by kernel_rfl) (by kernel_rfl) (by kernel_rfl) (fun _ _ _ h => h) (Or.inl ⟨by rfl, ?_⟩) hH61 ?_
        rotate_left
        · ((intro W hW; clear hW; go_simp) <;> with_reducible rfl)
        simp only [Act.put, List.getElem_toArray, List.getElem_cons_zero, List.getElem_cons_succ, List.setIfInBounds_toArray, List.set_cons_zero, List.set_cons_succ]
        refine wpAnyH_ready (rs := [3]) (by kernel_rfl) (by simp) ?_
        refine AllReadyH.cons (o := _) rfl (fun K hK => ?_) AllReadyH.nil
        simp only [List.getElem_toArray, List.getElem_cons_zero, List.getElem_cons_succ]
        go_simp
        with_reducible refine (kput_er 0 0 0 0 0 0 0 _ _ _ _ _ _ _ _ 2 _ (Sl.nil _) ml (by omega) (by decide) (by decide) (by decide) (by decide) k8_7).mono ?_
        rintro e w62 ⟨f08, f18, f28, f38, f48, f58, j08, j18, j28, j38, j48, j58, j68, j78, Ao8, no8, co8, Ab8, nb8, cb8, rfl, b62⟩
        dsimp only
        replace hp := blk_u hp b62
        replace ha3 := blk_u ha3 b62
        replace ha4 := blk_u ha4 b62
        replace ha5 := blk_u ha5 b62
        replace hk12 := blk_u hk12 b62
        replace hk14 := blk_u hk14 b62
        replace hk16 := blk_u hk16 b62
        replace hk18 := blk_u hk18 b62
        replace pb := pb.below b62
        replace p9 := p9.below b62
        replace tb := tb.below b62
        replace ml := ml.below b62
        replace bel := bel.trans (b62.mono bel.size)
        clear b62
        clear ml
        refine hK.out _ _ trivial (fun hH63 => ?_)
        clear hK K
        refine wpAnyH_take (i := 4) (v := ?_) rfl (by kernel_rfl) (by kernel_rfl) (by kernel_rfl) (fun _ _ _ h => h) (Or.inl ⟨by rfl, ?_⟩) hH63 ?_
        rotate_left
        · ((intro W hW; clear hW; go_simp) <;> with_reducible rfl)
        simp only [Act.put, List.getElem_toArray, List.getElem_cons_zero, List.getElem_cons_succ, List.setIfInBounds_toArray, List.set_cons_zero, List.set_cons_succ]
        refine wpAnyH_take (i := 5) (v := ?_) rfl (by kernel_rfl) (by kernel_rfl) (by kernel_rfl) (fun _ _ _ h => h) (Or.inl ⟨by rfl, ?_⟩) hH63 ?_
        rotate_left
        · ((intro W hW; clear hW; go_simp) <;> with_reducible rfl)
        simp only [Act.put, List.getElem_toArray, List.getElem_cons_zero, List.getElem_cons_succ, List.setIfInBounds_toArray, List.set_cons_zero, List.set_cons_succ]
        refine wpAnyH_take (i := 6) (v := ?_) rfl (by kernel_rfl) (by kernel_rfl) (by kernel_rfl) (fun _ _ _ h => h) (Or.inl ⟨by rfl, ?_⟩) hH63 ?_
        rotate_left
        · ((intro W hW; clear hW; go_simp) <;> with_reducible rfl)
        simp only [Act.put, List.getElem_toArray, List.getElem_cons_zero, List.getElem_cons_succ, List.setIfInBounds_toArray, List.set_cons_zero, List.set_cons_succ]
        refine wpAnyH_ready (rs := [8]) (by kernel_rfl) (by simp) ?_
        refine AllReadyH.cons (o := _) rfl (fun K hK => ?_) AllReadyH.nil
        simp only [List.getElem_toArray, List.getElem_cons_zero, List.getElem_cons_succ]
        rw [if_pos (by rfl)]
        refine wp_store_blk 27 (.tmp 18) (.tmp 85) rfl g18 rfl _ rfl _ 27 hk18 (by rfl) (by kernel_rfl) (by kernel_rfl) ?_
        intro w64 hq gr
        replace pb := pb.away av_pb_k18 gr
        replace p9 := p9.away av_p9_k18 gr
        replace tb := tb.away av_tb_k18 gr
        replace hp := blk_a hp gr d_p_k18
        replace ha3 := blk_a ha3 gr d_a3_k18
        replace ha4 := blk_a ha4 gr d_a4_k18
        replace ha5 := blk_a ha5 gr d_a5_k18
        replace hk12 := blk_a hk12 gr d_k12_k18
        replace hk14 := blk_a hk14 gr d_k14_k18
        replace hk16 := blk_a hk16 gr d_k16_k18
        replace bel := below_grown bel gr ok18 bel.size
        clear hk18
        have hk18 := hq
        clear hq gr
        refine hK.out _ _ trivial (fun hH65 => ?_)
        clear hK K
        simp only [Act.put]
        refine wpAnyH_take (i := 9) (v := ?_) rfl (by kernel_rfl) (by kernel_rfl) (by kernel_rfl) (fun _ _ _ h => h) (Or.inl ⟨by rfl, ?_⟩) hH65 ?_
        rotate_left
        · ((intro W hW; clear hW; go_simp) <;> with_reducible rfl)
        simp only [Act.put, List.getElem_toArray, List.getElem_cons_zero, List.getElem_cons_succ, List.setIfInBounds_toArray, List.set_cons_zero, List.set_cons_succ]
        refine wpAnyH_done (by kernel_rfl) ?_ _
        go_wp2_with fail
        go_meet
        case rel => exact ⟨g18, f08, f18, f28, f38, f48, f58, j08, j18, j28, j38, j48, j58, j68, j78, Ao8, no8, co8, Ab8, nb8, cb8, rfl, hp, ha3, ha4, ha5, hk12, hk14, hk16, hk18, ok18, d_a3_a4, d_a3_a5, d_a3_k12, d_a3_k14, d_a3_k16, d_a3_k18, d_a3_p, d_a4_a5, d_a4_k12, d_a4_k14, d_a4_k16, d_a4_k18, d_a4_p, d_a5_k12, d_a5_k14, d_a5_k16, d_a5_k18, d_a5_p, d_k12_k14, d_k12_k16, d_k12_k18, d_k12_p, d_k14_k16, d_k14_k18, d_k14_p, d_k16_k18, d_k16_p, (ne_symm d_p_k18), pb, av_pb_a3, av_pb_a4, av_pb_a5, av_pb_k12, av_pb_k14, av_pb_k16, av_pb_k18, av_pb_p, p9, av_p9_a3, av_p9_a4, av_p9_a5, av_p9_k12, av_p9_k14, av_p9_k16, av_p9_k18, av_p9_p, tb, av_tb_a3, av_tb_a4, av_tb_a5, av_tb_k12, av_tb_k14, av_tb_k16, av_tb_k18, av_tb_p, bel⟩
    · simp only [List.getElem_toArray, List.getElem_cons_zero, List.getElem_cons_succ]
      rw [if_pos (by rfl)]
      refine wp_make_g (.const (.int .i64 1461)) (.const (.int .i64 1461)) 25 rfl 5 ii Try.underlying25 hii hz0 hz1 hz2 .i64 .i64 _ _ (1461) rfl rfl rfl rfl (by omega) ?_
      intro g82 w56 ge sm bb
      replace hp := blk_u hp bb
      replace ha3 := blk_u ha3 bb
      replace ha4 := blk_u ha4 bb
      replace ha5 := blk_u ha5 bb
      replace hk12 := blk_u hk12 bb
      replace hk14 := blk_u hk14 bb
      replace hk16 := blk_u hk16 bb
      replace pb := pb.below bb
      replace p9 := p9.below bb
      replace tb := tb.below bb
      replace bel := bel.trans (bb.mono bel.size)
      have ml := sm
      clear sm ge bb
      refine hK.out _ _ trivial (fun hH57 => ?_)
      clear hK K
      simp only [Act.put, List.setIfInBounds_toArray, List.set_cons_zero, List.set_cons_succ]
      refine wpAnyH_take (i := 2) (v := ?_) rfl (by kernel_rfl) (by kernel_rfl) (by kernel_rfl) (fun _ _ _ h => h) (Or.inl ⟨by rfl, ?_⟩) hH57 ?_
      rotate_left
      · ((intro W hW; clear hW; go_simp) <;> with_reducible rfl)
      simp only [Act.put, List.getElem_toArray, List.getElem_cons_zero, List.getElem_cons_succ, List.setIfInBounds_toArray, List.set_cons_zero, List.set_cons_succ]
      refine wpAnyH_ready (rs := [0, 7]) (by kernel_rfl) (by simp) ?_
      refine AllReadyH.cons (o := _) rfl (fun K hK => ?_) (AllReadyH.cons (o := _) rfl (fun K hK => ?_) AllReadyH.nil)
      · simp only [List.getElem_toArray, List.getElem_cons_zero]
        go_simp
        with_reducible refine (base8 _).mono ?_
        rintro e w58 ⟨rfl, b58⟩
        dsimp only
        replace hp := blk_u hp b58
        replace ha3 := blk_u ha3 b58
        replace ha4 := blk_u ha4 b58
        replace ha5 := blk_u ha5 b58
        replace hk12 := blk_u hk12 b58
        replace hk14 := blk_u hk14 b58
        replace hk16 := blk_u hk16 b58
        replace pb := pb.below b58
        replace p9 := p9.below b58
        replace tb := tb.below b58
        replace ml := ml.below b58
        replace bel := bel.trans (b58.mono bel.size)
        clear b58
        refine hK.out _ _ trivial (fun hH59 => ?_)
        clear hK K
        refine wpAnyH_ready (rs := [3, 7]) (by kernel_rfl) (by simp) ?_
        refine AllReadyH.cons (o := _) rfl (fun K hK => ?_) (AllReadyH.cons (o := _) rfl (fun K hK => ?_) AllReadyH.nil)
        · simp only [List.getElem_toArray, List.getElem_cons_zero, List.getElem_cons_succ]
          go_simp
          with_reducible refine (kput_er 0 0 0 0 0 0 0 _ _ _ _ _ _ _ _ 2 _ (Sl.nil _) ml (by omega) (by decide) (by decide) (by decide) (by decide) k8_7).mono ?_
          rintro e w60 ⟨f08, f18, f28, f38, f48, f58, j08, j18, j28, j38, j48, j58, j68, j78, Ao8, no8, co8, Ab8, nb8, cb8, rfl, b60⟩
          dsimp only
          replace hp := blk_u hp b60
          replace ha3 := blk_u ha3 b60
          replace ha4 := blk_u ha4 b60
          replace ha5 := blk_u ha5 b60
          replace hk12 := blk_u hk12 b60
          replace hk14 := blk_u hk14 b60
          replace hk16 := blk_u hk16 b60
          replace pb := pb.below b60
          replace p9 := p9.below b60
          replace tb := tb.below b60
          replace ml := ml.below b60
          replace bel := bel.trans (b60.mono bel.size)
          clear b60
          clear ml
          refine hK.out _ _ trivial (fun hH61 => ?_)
          clear hK K
          refine wpAnyH_take (i := 4) (v := ?_) rfl (by kernel_rfl) (by kernel_rfl) (by kernel_rfl) (fun _ _ _ h => h) (Or.inl ⟨by rfl, ?_⟩) hH61 ?_
          rotate_left
          · ((intro W hW; clear hW; go_simp) <;> with_reducible rfl)
          simp only [Act.put, List.getElem_toArray, List.getElem_cons_zero, List.getElem_cons_succ, List.setIfInBounds_toArray, List.set_cons_zero, List.set_cons_succ]
          refine wpAnyH_take (i := 5) (v := ?_) rfl (by kernel_rfl) (by kernel_rfl) (by kernel_rfl) (fun _ _ _ h => h) (Or.inl ⟨by rfl, ?_⟩) hH61 ?_
          rotate_left
          · ((intro W hW; clear hW; go_simp) <;> with_reducible rfl)
          simp only [Act.put, List.getElem_toArray, List.getElem_cons_zero, List.getElem_cons_succ, List.setIfInBounds_toArray, List.set_cons_zero, List.set_cons_succ]
          refine wpAnyH_take (i := 6) (v := ?_) rfl (by kernel_rfl) (by kernel_rfl) (by kernel_rfl) (fun _ _ _ h => h) (Or.inl ⟨by rfl, ?_⟩) hH61 ?_
          rotate_left
          · ((intro W hW; clear hW; go_simp) <;> with_reducible rfl)
          simp only [Act.put, List.getElem_toArray, List.getElem_cons_zero, List.getElem_cons_succ, List.setIfInBounds_toArray, List.set_cons_zero, List.set_cons_succ]
          refine wpAnyH_ready (rs := [7]) (by kernel_rfl) (by simp) ?_
          refine AllReadyH.cons (o := _) rfl (fun K hK => ?_) AllReadyH.nil
          simp only [List.getElem_toArray, List.getElem_cons_zero, List.getElem_cons_succ]
          rw [if_pos (by rfl)]
          refine wp_new_a 27 rfl #[.int .i64 0, .int .i64 0, .int .i64 0, .int .i64 0, .int .i64 0, .int .i64 0, .int .u8 0, .int .u8 0, .int .u8 0, .int .u8 0, .int .u8 0, .int .u8 0, .int .u8 0, .int .u8 0, .slice none 0 0, .slice none 0 0] (by kernel_rfl) ?_
          intro g18 w62 ge hh bb
          have d_p_k18 := ne_new (hlt hp) ge
          have d_a3_k18 := ne_new (hlt ha3) ge
          have d_a4_k18 := ne_new (hlt ha4) ge
          have d_a5_k18 := ne_new (hlt ha5) ge
          have d_k12_k18 := ne_new (hlt hk12) ge
          have d_k14_k18 := ne_new (hlt hk14) ge
          have d_k16_k18 := ne_new (hlt hk16) ge
          have av_pb_k18 := pb.av_new ge
          have av_p9_k18 := p9.av_new ge
          have av_tb_k18 := tb.av_new ge
          have ok18 := Nat.le_trans bel.size ge
          replace hp := blk_u hp bb
          replace ha3 := blk_u ha3 bb
          replace ha4 := blk_u ha4 bb
          replace ha5 := blk_u ha5 bb
          replace hk12 := blk_u hk12 bb
          replace hk14 := blk_u hk14 bb
          replace hk16 := blk_u hk16 bb
          replace pb := pb.below bb
          replace p9 := p9.below bb
          replace tb := tb.below bb
          replace bel := bel.trans (bb.mono bel.size)
          have hk18 := hh
          clear hh ge bb
          refine hK.out _ _ trivial (fun hH63 => ?_)
          clear hK K
          simp only [Act.put, List.setIfInBounds_toArray, List.set_cons_zero, List.set_cons_succ]
          refine wpAnyH_ready (rs := [8]) (by kernel_rfl) (by simp) ?_
          refine AllReadyH.cons (o := _) rfl (fun K hK => ?_) AllReadyH.nil
          simp only [List.getElem_toArray, List.getElem_cons_zero, List.getElem_cons_succ]
          rw [if_pos (by rfl)]
          refine wp_store_blk 27 (.tmp 18) (.tmp 85) rfl g18 rfl _ rfl _ 27 hk18 (by rfl) (by kernel_rfl) (by kernel_rfl) ?_
          intro w64 hq gr
          replace pb := pb.away av_pb_k18 gr
          replace p9 := p9.away av_p9_k18 gr
          replace tb := tb.away av_tb_k18 gr
          replace hp := blk_a hp gr d_p_k18
          replace ha3 := blk_a ha3 gr d_a3_k18
          replace ha4 := blk_a ha4 gr d_a4_k18
          replace ha5 := blk_a ha5 gr d_a5_k18
          replace hk12 := blk_a hk12 gr d_k12_k18
          replace hk14 := blk_a hk14 gr d_k14_k18
          replace hk16 := blk_a hk16 gr d_k16_k18
          replace bel := below_grown bel gr ok18 bel.size
          clear hk18
          have hk18 := hq
          clear hq gr
          refine hK.out _ _ trivial (fun hH65 => ?_)
          clear hK K
          simp only [Act.put]
          refine wpAnyH_take (i := 9) (v := ?_) rfl (by kernel_rfl) (by kernel_rfl) (by kernel_rfl) (fun _ _ _ h => h) (Or.inl ⟨by rfl, ?_⟩) hH65 ?_
          rotate_left
          · ((intro W hW; clear hW; go_simp) <;> with_reducible rfl)
          simp only [Act.put, List.getElem_toArray, List.getElem_cons_zero, List.getElem_cons_succ, List.setIfInBounds_toArray, List.set_cons_zero, List.set_cons_succ]
          refine wpAnyH_done (by kernel_rfl) ?_ _
          go_wp2_with fail
          go_meet
          case rel => exact ⟨g18, f08, f18, f28, f38, f48, f58, j08, j18, j28, j38, j48, j58, j68, j78, Ao8, no8, co8, Ab8, nb8, cb8, rfl, hp, ha3, ha4, ha5, hk12, hk14, hk16, hk18, ok18, d_a3_a4, d_a3_a5, d_a3_k12, d_a3_k14, d_a3_k16, d_a3_k18, d_a3_p, d_a4_a5, d_a4_k12, d_a4_k14, d_a4_k16, d_a4_k18, d_a4_p, d_a5_k12, d_a5_k14, d_a5_k16, d_a5_k18, d_a5_p, d_k12_k14, d_k12_k16, d_k12_k18, d_k12_p, d_k14_k16, d_k14_k18, d_k14_p, d_k16_k18, d_k16_p, (ne_symm d_p_k18), pb, av_pb_a3, av_pb_a4, av_pb_a5, av_pb_k12, av_pb_k14, av_pb_k16, av_pb_k18, av_pb_p, p9, av_p9_a3, av_p9_a4, av_p9_a5, av_p9_k12, av_p9_k14, av_p9_k16, av_p9_k18, av_p9_p, tb, av_tb_a3, av_tb_a4, av_tb_a5, av_tb_k12, av_tb_k14, av_tb_k16, av_tb_k18, av_tb_p, bel⟩
        · simp only [List.getElem_toArray, List.getElem_cons_zero, List.getElem_cons_succ]
          rw [if_pos (by rfl)]
          refine wp_new_a 27 rfl #[.int .i64 0, .int .i64 0, .int .i64 0, .int .i64 0, .int .i64 0, .int .i64 0, .int .u8 0, .int .u8 0, .int .u8 0, .int .u8 0, .int .u8 0, .int .u8 0, .int .u8 0, .int .u8 0, .slice none 0 0, .slice none 0 0] (by kernel_rfl) ?_
          intro g18 w60 ge hh bb
          have d_p_k18 := ne_new (hlt hp) ge
          have d_a3_k18 := ne_new (hlt ha3) ge
          have d_a4_k18 := ne_new (hlt ha4) ge
          have d_a5_k18 := ne_new (hlt ha5) ge
          have d_k12_k18 := ne_new (hlt hk12) ge
          have d_k14_k18 := ne_new (hlt hk14) ge
          have d_k16_k18 := ne_new (hlt hk16) ge
          have av_pb_k18 := pb.av_new ge
          have av_p9_k18 := p9.av_new ge
          have av_tb_k18 := tb.av_new ge
          have av_ml_k18 := ml.av_new ge
          have ok18 := Nat.le_trans bel.size ge
          replace hp := blk_u hp bb
          replace ha3 := blk_u ha3 bb
          replace ha4 := blk_u ha4 bb
          replace ha5 := blk_u ha5 bb
          replace hk12 := blk_u hk12 bb
          replace hk14 := blk_u hk14 bb
          replace hk16 := blk_u hk16 bb
          replace pb := pb.below bb
          replace p9 := p9.below bb
          replace tb := tb.below bb
          replace ml := ml.below bb
          replace bel := bel.trans (bb.mono bel.size)
          have hk18 := hh
          clear hh ge bb
          refine hK.out _ _ trivial (fun hH61 => ?_)
          clear hK K
          simp only [Act.put, List.setIfInBounds_toArray, List.set_cons_zero, List.set_cons_succ]
          refine wpAnyH_ready (rs := [3]) (by kernel_rfl) (by simp) ?_
          refine AllReadyH.cons (o := _) rfl (fun K hK => ?_) AllReadyH.nil
          simp only [List.getElem_toArray, List.getElem_cons_zero, List.getElem_cons_succ]
          go_simp
          with_reducible refine (kput_er 0 0 0 0 0 0 0 _ _ _ _ _ _ _ _ 2 _ (Sl.nil _) ml (by omega) (by decide) (by decide) (by decide) (by decide) k8_7).mono ?_
          rintro e w62 ⟨f08, f18, f28, f38, f48, f58, j08, j18, j28, j38, j48, j58, j68, j78, Ao8, no8, co8, Ab8, nb8, cb8, rfl, b62⟩
          dsimp only
          replace hp := blk_u hp b62
          replace ha3 := blk_u ha3 b62
          replace ha4 := blk_u ha4 b62
          replace ha5 := blk_u ha5 b62
          replace hk12 := blk_u hk12 b62
          replace hk14 := blk_u hk14 b62
          replace hk16 := blk_u hk16 b62
          replace hk18 := blk_u hk18 b62
          replace pb := pb.below b62
          replace p9 := p9.below b62
          replace tb := tb.below b62
          replace ml := ml.below b62
          replace bel := bel.trans (b62.mono bel.size)
          clear b62
          clear ml
          refine hK.out _ _ trivial (fun hH63 => ?_)
          clear hK K
          refine wpAnyH_take (i := 4) (v := ?_) rfl (by kernel_rfl) (by kernel_rfl) (by kernel_rfl) (fun _ _ _ h => h) (Or.inl ⟨by rfl, ?_⟩) hH63 ?_
          rotate_left
          · ((intro W hW; clear hW; go_simp) <;> with_reducible rfl)
          simp only [Act.put, List.getElem_toArray, List.getElem_cons_zero, List.getElem_cons_succ, List.setIfInBounds_toArray, List.set_cons_zero, List.set_cons_succ]
          refine wpAnyH_take (i := 5) (v := ?_) rfl (by kernel_rfl) (by kernel_rfl) (by kernel_rfl) (fun _ _ _ h => h) (Or.inl ⟨by rfl, ?_⟩) hH63 ?_
          rotate_left
          · ((intro W hW; clear hW; go_simp) <;> with_reducible rfl)
          simp only [Act.put, List.getElem_toArray, List.getElem_cons_zero, List.getElem_cons_succ, List.setIfInBounds_toArray, List.set_cons_zero, List.set_cons_succ]
          refine wpAnyH_take (i := 6) (v := ?_) rfl (by kernel_rfl) (by kernel_rfl) (by kernel_rfl) (fun _ _ _ h => h) (Or.inl ⟨by rfl, ?_⟩) hH63 ?_
          rotate_left
          · ((intro W hW; clear hW; go_simp) <;> with_reducible rfl)
          simp only [Act.put, List.getElem_toArray, List.getElem_cons_zero, List.getElem_cons_succ, List.setIfInBounds_toArray, List.set_cons_zero, List.set_cons_succ]
          refine wpAnyH_ready (rs := [8]) (by kernel_rfl) (by simp) ?_
          refine AllReadyH.cons (o := _) rfl (fun K hK => ?_) AllReadyH.nil
          simp only [List.getElem_toArray, List.getElem_cons_zero, List.getElem_cons_succ]
          rw [if_pos (by rfl)]
          refine wp_store_blk 27 (.tmp 18) (.tmp 85) rfl g18 rfl _ rfl _ 27 hk18 (by rfl) (by kernel_rfl) (by kernel_rfl) ?_
          intro w64 hq gr
          replace pb := pb.away av_pb_k18 gr
          replace p9 := p9.away av_p9_k18 gr
          replace tb := tb.away av_tb_k18 gr
          replace hp := blk_a hp gr d_p_k18
          replace ha3 := blk_a ha3 gr d_a3_k18
          replace ha4 := blk_a ha4 gr d_a4_k18
          replace ha5 := blk_a ha5 gr d_a5_k18
          replace hk12 := blk_a hk12 gr d_k12_k18
          replace hk14 := blk_a hk14 gr d_k14_k18
          replace hk16 := blk_a hk16 gr d_k16_k18
          replace bel := below_grown bel gr ok18 bel.size
          clear hk18
          have hk18 := hq
          clear hq gr
          refine hK.out _ _ trivial (fun hH65 => ?_)
          clear hK K
          simp only [Act.put]
          refine wpAnyH_take (i := 9) (v := ?_) rfl (by kernel_rfl) (by kernel_rfl) (by kernel_rfl) (fun _ _ _ h => h) (Or.inl ⟨by rfl, ?_⟩) hH65 ?_
          rotate_left
          · ((intro W hW; clear hW; go_simp) <;> with_reducible rfl)
          simp only [Act.put, List.getElem_toArray, List.getElem_cons_zero, List.getElem_cons_succ, List.setIfInBounds_toArray, List.set_cons_zero, List.set_cons_succ]
          refine wpAnyH_done (by kernel_rfl) ?_ _
          go_wp2_with fail
          go_meet
          case rel => exact ⟨g18, f08, f18, f28, f38, f48, f58, j08, j18, j28, j38, j48, j58, j68, j78, Ao8, no8, co8, Ab8, nb8, cb8, rfl, hp, ha3, ha4, ha5, hk12, hk14, hk16, hk18, ok18, d_a3_a4, d_a3_a5, d_a3_k12, d_a3_k14, d_a3_k16, d_a3_k18, d_a3_p, d_a4_a5, d_a4_k12, d_a4_k14, d_a4_k16, d_a4_k18, d_a4_p, d_a5_k12, d_a5_k14, d_a5_k16, d_a5_k18, d_a5_p, d_k12_k14, d_k12_k16, d_k12_k18, d_k12_p, d_k14_k16, d_k14_k18, d_k14_p, d_k16_k18, d_k16_p, (ne_symm d_p_k18), pb, av_pb_a3, av_pb_a4, av_pb_a5, av_pb_k12, av_pb_k14, av_pb_k16, av_pb_k18, av_pb_p, p9, av_p9_a3, av_p9_a4, av_p9_a5, av_p9_k12, av_p9_k14, av_p9_k16, av_p9_k18, av_p9_p, tb, av_tb_a3, av_tb_a4, av_tb_a5, av_tb_k12, av_tb_k14, av_tb_k16, av_tb_k18, av_tb_p, bel⟩
      · simp only [List.getElem_toArray, List.getElem_cons_zero, List.getElem_cons_succ]
        rw [if_pos (by rfl)]
        refine wp_new_a 27 rfl #[.int .i64 0, .int .i64 0, .int .i64 0, .int .i64 0, .int .i64 0, .int .i64 0, .int .u8 0, .int .u8 0, .int .u8 0, .int .u8 0, .int .u8 0, .int .u8 0, .int .u8 0, .int .u8 0, .slice none 0 0, .slice none 0 0] (by kernel_rfl) ?_
        intro g18 w58 ge hh bb
        have d_p_k18 := ne_new (hlt hp) ge
        have d_a3_k18 := ne_new (hlt ha3) ge
        have d_a4_k18 := ne_new (hlt ha4) ge
        have d_a5_k18 := ne_new (hlt ha5) ge
        have d_k12_k18 := ne_new (hlt hk12) ge
        have d_k14_k18 := ne_new (hlt hk14) ge
        have d_k16_k18 := ne_new (hlt hk16) ge
        have av_pb_k18 := pb.av_new ge
        have av_p9_k18 := p9.av_new ge
        have av_tb_k18 := tb.av_new ge
        have av_ml_k18 := ml.av_new ge
        have ok18 := Nat.le_trans bel.size ge
        replace hp := blk_u hp bb
        replace ha3 := blk_u ha3 bb
        replace ha4 := blk_u ha4 bb
        replace ha5 := blk_u ha5 bb
        replace hk12 := blk_u hk12 bb
        replace hk14 := blk_u hk14 bb
        replace hk16 := blk_u hk16 bb
        replace pb := pb.below bb
        replace p9 := p9.below bb
        replace tb := tb.below bb
        replace ml := ml.below bb
        replace bel := bel.trans (bb.mono bel.size)
        have hk18 := hh
        clear hh ge bb
        refine hK.out _ _ trivial (fun hH59 => ?_)
        clear hK K
        simp only [Act.put, List.setIfInBounds_toArray, List.set_cons_zero, List.set_cons_succ]
        refine wpAnyH_ready (rs := [0]) (by kernel_rfl) (by simp) ?_
        refine AllReadyH.cons (o := _) rfl (fun K hK => ?_) AllReadyH.nil
        simp only [List.getElem_toArray, List.getElem_cons_zero]
        go_simp
        with_reducible refine (base8 _).mono ?_
        rintro e w60 ⟨rfl, b60⟩
        dsimp only
        replace hp := blk_u hp b60
        replace ha3 := blk_u ha3 b60
        replace ha4 := blk_u ha4 b60
        replace ha5 := blk_u ha5 b60
        replace hk12 := blk_u hk12 b60
        replace hk14 := blk_u hk14 b60
        replace hk16 := blk_u hk16 b60
        replace hk18 := blk_u hk18 b60
        replace pb := pb.below b60
        replace p9 := p9.below b60
        replace tb := tb.below b60
        replace ml := ml.below b60
        replace bel := bel.trans (b60.mono bel.size)
        clear b60
        refine hK.out _ _ trivial (fun hH61 => ?_)
        clear hK K
        refine wpAnyH_ready (rs := [3]) (by kernel_rfl) (by simp) ?_
        refine AllReadyH.cons (o := _) rfl (fun K hK => ?_) AllReadyH.nil
        simp only [List.getElem_toArray, List.getElem_cons_zero, List.getElem_cons_succ]
        go_simp
        with_reducible refine (kput_er 0 0 0 0 0 0 0 _ _ _ _ _ _ _ _ 2 _ (Sl.nil _) ml (by omega) (by decide) (by decide) (by decide) (by decide) k8_7).mono ?_
        rintro e w62 ⟨f08, f18, f28, f38, f48, f58, j08, j18, j28, j38, j48, j58, j68, j78, Ao8, no8, co8, Ab8, nb8, cb8, rfl, b62⟩
        dsimp only
        replace hp := blk_u hp b62
        replace ha3 := blk_u ha3 b62
        replace ha4 := blk_u ha4 b62
        replace ha5 := blk_u ha5 b62
        replace hk12 := blk_u hk12 b62
        replace hk14 := blk_u hk14 b62
        replace hk16 := blk_u hk16 b62
        replace hk18 := blk_u hk18 b62
        replace pb := pb.below b62
        replace p9 := p9.below b62
        replace tb := tb.below b62
        replace ml := ml.below b62
        replace bel := bel.trans (b62.mono bel.size)
        clear b62
        clear ml
        refine hK.out _ _ trivial (fun hH63 => ?_)
        clear hK K
        refine wpAnyH_take (i := 4) (v := ?_) rfl (by kernel_rfl) (by kernel_rfl) (by kernel_rfl) (fun _ _ _ h => h) (Or.inl ⟨by rfl, ?_⟩) hH63 ?_
        rotate_left
        · ((intro W hW; clear hW; go_simp) <;> with_reducible rfl)
        simp only [Act.put, List.getElem_toArray, List.getElem_cons_zero, List.getElem_cons_succ, List.setIfInBounds_toArray, List.set_cons_zero, List.set_cons_succ]
        refine wpAnyH_take (i := 5) (v := ?_) rfl (by kernel_rfl) (by kernel_rfl) (by kernel_rfl) (fun _ _ _ h => h) (Or.inl ⟨by rfl, ?_⟩) hH63 ?_
        rotate_left
        · ((intro W hW; clear hW; go_simp) <;> with_reducible rfl)
        simp only [Act.put, List.getElem_toArray, List.getElem_cons_zero, List.getElem_cons_succ, List.setIfInBounds_toArray, List.set_cons_zero, List.set_cons_succ]
        refine wpAnyH_take (i := 6) (v := ?_) rfl (by kernel_rfl) (by kernel_rfl) (by kernel_rfl) (fun _ _ _ h => h) (Or.inl ⟨by rfl, ?_⟩) hH63 ?_
        rotate_left
        · ((intro W hW; clear hW; go_simp) <;> with_reducible rfl)
        simp only [Act.put, List.getElem_toArray, List.getElem_cons_zero, List.getElem_cons_succ, List.setIfInBounds_toArray, List.set_cons_zero, List.set_cons_succ]
        refine wpAnyH_ready (rs := [8]) (by kernel_rfl) (by simp) ?_
        refine AllReadyH.cons (o := _) rfl (fun K hK => ?_) AllReadyH.nil
        simp only [List.getElem_toArray, List.getElem_cons_zero, List.getElem_cons_succ]
        rw [if_pos (by rfl)]
        refine wp_store_blk 27 (.tmp 18) (.tmp 85) rfl g18 rfl _ rfl _ 27 hk18 (by rfl) (by kernel_rfl) (by kernel_rfl) ?_
        intro w64 hq gr
        replace pb := pb.away av_pb_k18 gr
        replace p9 := p9.away av_p9_k18 gr
        replace tb := tb.away av_tb_k18 gr
        replace hp := blk_a hp gr d_p_k18
        replace ha3 := blk_a ha3 gr d_a3_k18
        replace ha4 := blk_a ha4 gr d_a4_k18
        replace ha5 := blk_a ha5 gr d_a5_k18
        replace hk12 := blk_a hk12 gr d_k12_k18
        replace hk14 := blk_a hk14 gr d_k14_k18
        replace hk16 := blk_a hk16 gr d_k16_k18
        replace bel := below_grown bel gr ok18 bel.size
        clear hk18
        have hk18 := hq
        clear hq gr
        refine hK.out _ _ trivial (fun hH65 => ?_)
        clear hK K
        simp only [Act.put]
        refine wpAnyH_take (i := 9) (v := ?_) rfl (by kernel_rfl) (by kernel_rfl) (by kernel_rfl) (fun _ _ _ h => h) (Or.inl ⟨by rfl, ?_⟩) hH65 ?_
        rotate_left
        · ((intro W hW; clear hW; go_simp) <;> with_reducible rfl)
        simp only [Act.put, List.getElem_toArray, List.getElem_cons_zero, List.getElem_cons_succ, List.setIfInBounds_toArray, List.set_cons_zero, List.set_cons_succ]
        refine wpAnyH_done (by kernel_rfl) ?_ _
        go_wp2_with fail
        go_meet
        case rel => exact ⟨g18, f08, f18, f28, f38, f48, f58, j08, j18, j28, j38, j48, j58, j68, j78, Ao8, no8, co8, Ab8, nb8, cb8, rfl, hp, ha3, ha4, ha5, hk12, hk14, hk16, hk18, ok18, d_a3_a4, d_a3_a5, d_a3_k12, d_a3_k14, d_a3_k16, d_a3_k18, d_a3_p, d_a4_a5, d_a4_k12, d_a4_k14, d_a4_k16, d_a4_k18, d_a4_p, d_a5_k12, d_a5_k14, d_a5_k16, d_a5_k18, d_a5_p, d_k12_k14, d_k12_k16, d_k12_k18, d_k12_p, d_k14_k16, d_k14_k18, d_k14_p, d_k16_k18, d_k16_p, (ne_symm d_p_k18), pb, av_pb_a3, av_pb_a4, av_pb_a5, av_pb_k12, av_pb_k14, av_pb_k16, av_pb_k18, av_pb_p, p9, av_p9_a3, av_p9_a4, av_p9_a5, av_p9_k12, av_p9_k14, av_p9_k16, av_p9_k18, av_p9_p, tb, av_tb_a3, av_tb_a4, av_tb_a5, av_tb_k12, av_tb_k14, av_tb_k16, av_tb_k18, av_tb_p, bel⟩
    · simp only [List.getElem_toArray, List.getElem_cons_zero, List.getElem_cons_succ]
      rw [if_pos (by rfl)]
      refine wp_new_a 27 rfl #[.int .i64 0, .int .i64 0, .int .i64 0, .int .i64 0, .int .i64 0, .int .i64 0, .int .u8 0, .int .u8 0, .int .u8 0, .int .u8 0, .int .u8 0, .int .u8 0, .int .u8 0, .int .u8 0, .slice none 0 0, .slice none 0 0] (by kernel_rfl) ?_
      intro g18 w56 ge hh bb
      have d_p_k18 := ne_new (hlt hp) ge
      have d_a3_k18 := ne_new (hlt ha3) ge
      have d_a4_k18 := ne_new (hlt ha4) ge
      have d_a5_k18 := ne_new (hlt ha5) ge
      have d_k12_k18 := ne_new (hlt hk12) ge
      have d_k14_k18 := ne_new (hlt hk14) ge
      have d_k16_k18 := ne_new (hlt hk16) ge
      have av_pb_k18 := pb.av_new ge
      have av_p9_k18 := p9.av_new ge
      have av_tb_k18 := tb.av_new ge
      have ok18 := Nat.le_trans bel.size ge
      replace hp := blk_u hp bb
      replace ha3 := blk_u ha3 bb
      replace ha4 := blk_u ha4 bb
      replace ha5 := blk_u ha5 bb
      replace hk12 := blk_u hk12 bb
      replace hk14 := blk_u hk14 bb
      replace hk16 := blk_u hk16 bb
      replace pb := pb.below bb
      replace p9 := p9.below bb
      replace tb := tb.below bb
      replace bel := bel.trans (bb.mono bel.size)
      have hk18 := hh
      clear hh ge bb
      refine hK.out _ _ trivial (fun hH57 => ?_)
      clear hK K
      simp only [Act.put, List.setIfInBounds_toArray, List.set_cons_zero, List.set_cons_succ]
      refine wpAnyH_ready (rs := [0, 1]) (by kernel_rfl) (by simp) ?_
      refine AllReadyH.cons (o := _) rfl (fun K hK => ?_) (AllReadyH.cons (o := _) rfl (fun K hK => ?_) AllReadyH.nil)
      · simp only [List.getElem_toArray, List.getElem_cons_zero]
        go_simp
        with_reducible refine (base8 _).mono ?_
        rintro e w58 ⟨rfl, b58⟩
        dsimp only
        replace hp := blk_u hp b58
        replace ha3 := blk_u ha3 b58
        replace ha4 := blk_u ha4 b58
        replace ha5 := blk_u ha5 b58
        replace hk12 := blk_u hk12 b58
        replace hk14 := blk_u hk14 b58
        replace hk16 := blk_u hk16 b58
        replace hk18 := blk_u hk18 b58
        replace pb := pb.below b58
        replace p9 := p9.below b58
        replace tb := tb.below b58
        replace bel := bel.trans (b58.mono bel.size)
        clear b58
        refine hK.out _ _ trivial (fun hH59 => ?_)
        clear hK K
        refine wpAnyH_ready (rs := [1]) (by kernel_rfl) (by simp) ?_
        refine AllReadyH.cons (o := _) rfl (fun K hK => ?_) AllReadyH.nil
        simp only [List.getElem_toArray, List.getElem_cons_zero, List.getElem_cons_succ]
        rw [if_pos (by rfl)]
        refine wp_make_g (.const (.int .i64 1461)) (.const (.int .i64 1461)) 25 rfl 5 ii Try.underlying25 hii hz0 hz1 hz2 .i64 .i64 _ _ (1461) rfl rfl rfl rfl (by omega) ?_
        intro g82 w60 ge sm bb
        replace hp := blk_u hp bb
        replace ha3 := blk_u ha3 bb
        replace ha4 := blk_u ha4 bb
        replace ha5 := blk_u ha5 bb
        replace hk12 := blk_u hk12 bb
        replace hk14 := blk_u hk14 bb
        replace hk16 := blk_u hk16 bb
        replace hk18 := blk_u hk18 bb
        replace pb := pb.below bb
        replace p9 := p9.below bb
        replace tb := tb.below bb
        replace bel := bel.trans (bb.mono bel.size)
        have ml := sm
        clear sm ge bb
        refine hK.out _ _ trivial (fun hH61 => ?_)
        clear hK K
        simp only [Act.put, List.setIfInBounds_toArray, List.set_cons_zero, List.set_cons_succ]
        refine wpAnyH_take (i := 2) (v := ?_) rfl (by kernel_rfl) (by kernel_rfl) (by kernel_rfl) (fun _ _ _ h => h) (Or.inl ⟨by rfl, ?_⟩) hH61 ?_
        rotate_left
        · ((intro W hW; clear hW; go_simp) <;> with_reducible rfl)
        simp only [Act.put, List.getElem_toArray, List.getElem_cons_zero, List.getElem_cons_succ, List.setIfInBounds_toArray, List.set_cons_zero, List.set_cons_succ]
        refine wpAnyH_ready (rs := [3]) (by kernel_rfl) (by simp) ?_
        refine AllReadyH.cons (o := _) rfl (fun K hK => ?_) AllReadyH.nil
        simp only [List.getElem_toArray, List.getElem_cons_zero, List.getElem_cons_succ]
        go_simp
        with_reducible refine (kput_er 0 0 0 0 0 0 0 _ _ _ _ _ _ _ _ 2 _ (Sl.nil _) ml (by omega) (by decide) (by decide) (by decide) (by decide) k8_7).mono ?_
        rintro e w62 ⟨f08, f18, f28, f38, f48, f58, j08, j18, j28, j38, j48, j58, j68, j78, Ao8, no8, co8, Ab8, nb8, cb8, rfl, b62⟩
        dsimp only
        replace hp := blk_u hp b62
        replace ha3 := blk_u ha3 b62
        replace ha4 := blk_u ha4 b62
        replace ha5 := blk_u ha5 b62
        replace hk12 := blk_u hk12 b62
        replace hk14 := blk_u hk14 b62
        replace hk16 := blk_u hk16 b62
        replace hk18 := blk_u hk18 b62
        replace pb := pb.below b62
        replace p9 := p9.below b62
        replace tb := tb.below b62
        replace ml := ml.below b62
        replace bel := bel.trans (b62.mono bel.size)
        clear b62
        clear ml
        refine hK.out _ _ trivial (fun hH63 => ?_)
        clear hK K
        refine wpAnyH_take (i := 4) (v := ?_) rfl (by kernel_rfl) (by kernel_rfl) (by kernel_rfl) (fun _ _ _ h => h) (Or.inl ⟨by rfl, ?_⟩) hH63 ?_
        rotate_left
        · ((intro W hW; clear hW; go_simp) <;> with_reducible rfl)
        simp only [Act.put, List.getElem_toArray, List.getElem_cons_zero, List.getElem_cons_succ, List.setIfInBounds_toArray, List.set_cons_zero, List.set_cons_succ]
        refine wpAnyH_take (i := 5) (v := ?_) rfl (by kernel_rfl) (by kernel_rfl) (by kernel_rfl) (fun _ _ _ h => h) (Or.inl ⟨by rfl, ?_⟩) hH63 ?_
        rotate_left
        · ((intro W hW; clear hW; go_simp) <;> with_reducible rfl)
        simp only [Act.put, List.getElem_toArray, List.getElem_cons_zero, List.getElem_cons_succ, List.setIfInBounds_toArray, List.set_cons_zero, List.set_cons_succ]
        refine wpAnyH_take (i := 6) (v := ?_) rfl (by kernel_rfl) (by kernel_rfl) (by kernel_rfl) (fun _ _ _ h => h) (Or.inl ⟨by rfl, ?_⟩) hH63 ?_
        rotate_left
        · ((intro W hW; clear hW; go_simp) <;> with_reducible rfl)
        simp only [Act.put, List.getElem_toArray, List.getElem_cons_zero, List.getElem_cons_succ, List.setIfInBounds_toArray, List.set_cons_zero, List.set_cons_succ]
        refine wpAnyH_ready (rs := [8]) (by kernel_rfl) (by simp) ?_
        refine AllReadyH.cons (o := _) rfl (fun K hK => ?_) AllReadyH.nil
        simp only [List.getElem_toArray, List.getElem_cons_zero, List.getElem_cons_succ]
        rw [if_pos (by rfl)]
        refine wp_store_blk 27 (.tmp 18) (.tmp 85) rfl g18 rfl _ rfl _ 27 hk18 (by rfl) (by kernel_rfl) (by kernel_rfl) ?_
        intro w64 hq gr
        replace pb := pb.away av_pb_k18 gr
        replace p9 := p9.away av_p9_k18 gr
        replace tb := tb.away av_tb_k18 gr
        replace hp := blk_a hp gr d_p_k18
        replace ha3 := blk_a ha3 gr d_a3_k18
        replace ha4 := blk_a ha4 gr d_a4_k18
        replace ha5 := blk_a ha5 gr d_a5_k18
        replace hk12 := blk_a hk12 gr d_k12_k18
        replace hk14 := blk_a hk14 gr d_k14_k18
        replace hk16 := blk_a hk16 gr d_k16_k18
        replace bel := below_grown bel gr ok18 bel.size
        clear hk18
        have hk18 := hq
        clear hq gr
        refine hK.out _ _ trivial (fun hH65 => ?_)
        clear hK K
        simp only [Act.put]
        refine wpAnyH_take (i := 9) (v := ?_) rfl (by kernel_rfl) (by kernel_rfl) (by kernel_rfl) (fun _ _ _ h => h) (Or.inl ⟨by rfl, ?_⟩) hH65 ?_
        rotate_left
        · ((intro W hW; clear hW; go_simp) <;> with_reducible rfl)
        simp only [Act.put, List.getElem_toArray, List.getElem_cons_zero, List.getElem_cons_succ, List.setIfInBounds_toArray, List.set_cons_zero, List.set_cons_succ]
        refine wpAnyH_done (by kernel_rfl) ?_ _
        go_wp2_with fail
        go_meet
        case rel => exact ⟨g18, f08, f18, f28, f38, f48, f58, j08, j18, j28, j38, j48, j58, j68, j78, Ao8, no8, co8, Ab8, nb8, cb8, rfl, hp, ha3, ha4, ha5, hk12, hk14, hk16, hk18, ok18, d_a3_a4, d_a3_a5, d_a3_k12, d_a3_k14, d_a3_k16, d_a3_k18, d_a3_p, d_a4_a5, d_a4_k12, d_a4_k14, d_a4_k16, d_a4_k18, d_a4_p, d_a5_k12, d_a5_k14, d_a5_k16, d_a5_k18, d_a5_p, d_k12_k14, d_k12_k16, d_k12_k18, d_k12_p, d_k14_k16, d_k14_k18, d_k14_p, d_k16_k18, d_k16_p, (ne_symm d_p_k18), pb, av_pb_a3, av_pb_a4, av_pb_a5, av_pb_k12, av_pb_k14, av_pb_k16, av_pb_k18, av_pb_p, p9, av_p9_a3, av_p9_a4, av_p9_a5, av_p9_k12, av_p9_k14, av_p9_k16, av_p9_k18, av_p9_p, tb, av_tb_a3, av_tb_a4, av_tb_a5, av_tb_k12, av_tb_k14, av_tb_k16, av_tb_k18, av_tb_p, bel⟩
      · simp only [List.getElem_toArray, List.getElem_cons_zero, List.getElem_cons_succ]
        rw [if_pos (by rfl)]
        refine wp_make_g (.const (.int .i64 1461)) (.const (.int .i64 1461)) 25 rfl 5 ii Try.underlying25 hii hz0 hz1 hz2 .i64 .i64 _ _ (1461) rfl rfl rfl rfl (by omega) ?_
        intro g82 w58 ge sm bb
        replace hp := blk_u hp bb
        replace ha3 := blk_u ha3 bb
        replace ha4 := blk_u ha4 bb
        replace ha5 := blk_u ha5 bb
        replace hk12 := blk_u hk12 bb
        replace hk14 := blk_u hk14 bb
        replace hk16 := blk_u hk16 bb
        replace hk18 := blk_u hk18 bb
        replace pb := pb.below bb
        replace p9 := p9.below bb
        replace tb := tb.below bb
        replace bel := bel.trans (bb.mono bel.size)
        have ml := sm
        clear sm ge bb
        refine hK.out _ _ trivial (fun hH59 => ?_)
        clear hK K
        simp only [Act.put, List.setIfInBounds_toArray, List.set_cons_zero, List.set_cons_succ]
        refine wpAnyH_take (i := 2) (v := ?_) rfl (by kernel_rfl) (by kernel_rfl) (by kernel_rfl) (fun _ _ _ h => h) (Or.inl ⟨by rfl, ?_⟩) hH59 ?_
        rotate_left
        · ((intro W hW; clear hW; go_simp) <;> with_reducible rfl)
        simp only [Act.put, List.getElem_toArray, List.getElem_cons_zero, List.getElem_cons_succ, List.setIfInBounds_toArray, List.set_cons_zero, List.set_cons_succ]
        refine wpAnyH_ready (rs := [0]) (by kernel_rfl) (by simp) ?_
        refine AllReadyH.cons (o := _) rfl (fun K hK => ?_) AllReadyH.nil
        simp only [List.getElem_toArray, List.getElem_cons_zero]
        go_simp
        with_reducible refine (base8 _).mono ?_
        rintro e w60 ⟨rfl, b60⟩
        dsimp only
        replace hp := blk_u hp b60
        replace ha3 := blk_u ha3 b60
        replace ha4 := blk_u ha4 b60
        replace ha5 := blk_u ha5 b60
        replace hk12 := blk_u hk12 b60
        replace hk14 := blk_u hk14 b60
        replace hk16 := blk_u hk16 b60
        replace hk18 := blk_u hk18 b60
        replace pb := pb.below b60
        replace p9 := p9.below b60
        replace tb := tb.below b60
        replace ml := ml.below b60
        replace bel := bel.trans (b60.mono bel.size)
        clear b60
        refine hK.out _ _ trivial (fun hH61 => ?_)
        clear hK K
        refine wpAnyH_ready (rs := [3]) (by kernel_rfl) (by simp) ?_
        refine AllReadyH.cons (o := _) rfl (fun K hK => ?_) AllReadyH.nil
        simp only [List.getElem_toArray, List.getElem_cons_zero, List.getElem_cons_succ]
        go_simp
        with_reducible refine (kput_er 0 0 0 0 0 0 0 _ _ _ _ _ _ _ _ 2 _ (Sl.nil _) ml (by omega) (by decide) (by decide) (by decide) (by decide) k8_7).mono ?_
        rintro e w62 ⟨f08, f18, f28, f38, f48, f58, j08, j18, j28, j38, j48, j58, j68, j78, Ao8, no8, co8, Ab8, nb8, cb8, rfl, b62⟩
        dsimp only
        replace hp := blk_u hp b62
        replace ha3 := blk_u ha3 b62
        replace ha4 := blk_u ha4 b62
        replace ha5 := blk_u ha5 b62
        replace hk12 := blk_u hk12 b62
        replace hk14 := blk_u hk14 b62
        replace hk16 := blk_u hk16 b62
        replace hk18 := blk_u hk18 b62
        replace pb := pb.below b62
        replace p9 := p9.below b62
        replace tb := tb.below b62
        replace ml := ml.below b62
        replace bel := bel.trans (b62.mono bel.size)
        clear b62
        clear ml
        refine hK.out _ _ trivial (fun hH63 => ?_)
        clear hK K
        refine wpAnyH_take (i := 4) (v := ?_) rfl (by kernel_rfl) (by kernel_rfl) (by kernel_rfl) (fun _ _ _ h => h) (Or.inl ⟨by rfl, ?_⟩) hH63 ?_
        rotate_left
        · ((intro W hW; clear hW; go_simp) <;> with_reducible rfl)
        simp only [Act.put, List.getElem_toArray, List.getElem_cons_zero, List.getElem_cons_succ, List.setIfInBounds_toArray, List.set_cons_zero, List.set_cons_succ]
        refine wpAnyH_take (i := 5) (v := ?_) rfl (by kernel_rfl) (by kernel_rfl) (by kernel_rfl) (fun _ _ _ h => h) (Or.inl ⟨by rfl, ?_⟩) hH63 ?_
        rotate_left
        · ((intro W hW; clear hW; go_simp) <;> with_reducible rfl)
        simp only [Act.put, List.getElem_toArray, List.getElem_cons_zero, List.getElem_cons_succ, List.setIfInBounds_toArray, List.set_cons_zero, List.set_cons_succ]
        refine wpAnyH_take (i := 6) (v := ?_) rfl (by kernel_rfl) (by kernel_rfl) (by kernel_rfl) (fun _ _ _ h => h) (Or.inl ⟨by rfl, ?_⟩) hH63 ?_
        rotate_left
        · ((intro W hW; clear hW; go_simp) <;> with_reducible rfl)
        simp only [Act.put, List.getElem_toArray, List.getElem_cons_zero, List.getElem_cons_succ, List.setIfInBounds_toArray, List.set_cons_zero, List.set_cons_succ]
        refine wpAnyH_ready (rs := [8]) (by kernel_rfl) (by simp) ?_
        refine AllReadyH.cons (o := _) rfl (fun K hK => ?_) AllReadyH.nil
        simp only [List.getElem_toArray, List.getElem_cons_zero, List.getElem_cons_succ]
        rw [if_pos (by rfl)]
        refine wp_store_blk 27 (.tmp 18) (.tmp 85) rfl g18 rfl _ rfl _ 27 hk18 (by rfl) (by kernel_rfl) (by kernel_rfl) ?_
        intro w64 hq gr
        replace pb := pb.away av_pb_k18 gr
        replace p9 := p9.away av_p9_k18 gr
        replace tb := tb.away av_tb_k18 gr
        replace hp := blk_a hp gr d_p_k18
        replace ha3 := blk_a ha3 gr d_a3_k18
        replace ha4 := blk_a ha4 gr d_a4_k18
        replace ha5 := blk_a ha5 gr d_a5_k18
        replace hk12 := blk_a hk12 gr d_k12_k18
        replace hk14 := blk_a hk14 gr d_k14_k18
        replace hk16 := blk_a hk16 gr d_k16_k18
        replace bel := below_grown bel gr ok18 bel.size
        clear hk18
        have hk18 := hq
        clear hq gr
        refine hK.out _ _ trivial (fun hH65 => ?_)
        clear hK K
        simp only [Act.put]
        refine wpAnyH_take (i := 9) (v := ?_) rfl (by kernel_rfl) (by kernel_rfl) (by kernel_rfl) (fun _ _ _ h => h) (Or.inl ⟨by rfl, ?_⟩) hH65 ?_
        rotate_left
        · ((intro W hW; clear hW; go_simp) <;> with_reducible rfl)
        simp only [Act.put, List.getElem_toArray, List.getElem_cons_zero, List.getElem_cons_succ, List.setIfInBounds_toArray, List.set_cons_zero, List.set_cons_succ]
        refine wpAnyH_done (by kernel_rfl) ?_ _
        go_wp2_with fail
        go_meet
        case rel => exact ⟨g18, f08, f18, f28, f38, f48, f58, j08, j18, j28, j38, j48, j58, j68, j78, Ao8, no8, co8, Ab8, nb8, cb8, rfl, hp, ha3, ha4, ha5, hk12, hk14, hk16, hk18, ok18, d_a3_a4, d_a3_a5, d_a3_k12, d_a3_k14, d_a3_k16, d_a3_k18, d_a3_p, d_a4_a5, d_a4_k12, d_a4_k14, d_a4_k16, d_a4_k18, d_a4_p, d_a5_k12, d_a5_k14, d_a5_k16, d_a5_k18, d_a5_p, d_k12_k14, d_k12_k16, d_k12_k18, d_k12_p, d_k14_k16, d_k14_k18, d_k14_p, d_k16_k18, d_k16_p, (ne_symm d_p_k18), pb, av_pb_a3, av_pb_a4, av_pb_a5, av_pb_k12, av_pb_k14, av_pb_k16, av_pb_k18, av_pb_p, p9, av_p9_a3, av_p9_a4, av_p9_a5, av_p9_k12, av_p9_k14, av_p9_k16, av_p9_k18, av_p9_p, tb, av_tb_a3, av_tb_a4, av_tb_a5, av_tb_k12, av_tb_k14, av_tb_k16, av_tb_k18, av_tb_p, bel⟩
  obtain ⟨w66, hw_⟩ : ∃ x, x = wc := ⟨_, rfl⟩
  subst hw_
  obtain ⟨g18, f08, f18, f28, f38, f48, f58, j08, j18, j28, j38, j48, j58, j68, j78, Ao8, no8, co8, Ab8, nb8, cb8, rfl, hp, ha3, ha4, ha5, hk12, hk14, hk16, hk18, ok18, d_a3_a4, d_a3_a5, d_a3_k12, d_a3_k14, d_a3_k16, d_a3_k18, d_a3_p, d_a4_a5, d_a4_k12, d_a4_k14, d_a4_k16, d_a4_k18, d_a4_p, d_a5_k12, d_a5_k14, d_a5_k16, d_a5_k18, d_a5_p, d_k12_k14, d_k12_k16, d_k12_k18, d_k12_p, d_k14_k16, d_k14_k18, d_k14_p, d_k16_k18, d_k16_p, d_k18_p, pb, av_pb_a3, av_pb_a4, av_pb_a5, av_pb_k12, av_pb_k14, av_pb_k16, av_pb_k18, av_pb_p, p9, av_p9_a3, av_p9_a4, av_p9_a5, av_p9_k12, av_p9_k14, av_p9_k16, av_p9_k18, av_p9_p, tb, av_tb_a3, av_tb_a4, av_tb_a5, av_tb_k12, av_tb_k14, av_tb_k16, av_tb_k18, av_tb_p, bel⟩ := hcut
  go_wp2_with fail
  go_ret
  exact ⟨rfl, bel⟩
end Go.Proofs.Ytkmihoijnjdbnaa
