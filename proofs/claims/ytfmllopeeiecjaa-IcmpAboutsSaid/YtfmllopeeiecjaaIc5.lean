/- The reference's odd, About. -/
import Derived.Test.YtfmllopeeiecjaaIc3
import Derived.Test.YtfmllopeeiecjaaIcm
namespace Go.Proofs.Ytfmllopeeiecjaa
open Go.RowKit

set_option maxRecDepth 100000 in
set_option maxHeartbeats 16000000 in
theorem rodd_0 (o0 o1 o2 o3 : UInt8) (h0 : ([o0, o1, o2, o3] == [0, 0, 0, 0]) = true) (w : World) : Calls Try.prog 50 #[.agg #[.int .u8 (o0.toNat : Int), .int .u8 (o1.toNat : Int), .int .u8 (o2.toNat : Int), .int .u8 (o3.toNat : Int)]] w fun e w' => e = .returned (.bool true) ∧ Below w.heap.size w w' := by
  have q : ∀ W, (binOp .eql 24 (.agg #[.int .u8 (o0.toNat : Int), .int .u8 (o1.toNat : Int), .int .u8 (o2.toNat : Int), .int .u8 (o3.toNat : Int)]) (.agg #[.int .u8 0, .int .u8 0, .int .u8 0, .int .u8 0])).run Try.prog W = .ok (.bool true) W := fun W => by rw [eql4z, h0]
  have g := guard4
  clear h0
  have bel := Below.refl w.heap.size w
  go_enter Try.func50, Try.ntmps50
  go_wp2_with (first | ((with_reducible show wpList _ _ _ (⟨some 1, _, _, _, _, _⟩ :: _) _ _); refine wpList_box_n rfl 24 (.tmp 0) rfl #[.int .u8 (o0.toNat : Int), .int .u8 (o1.toNat : Int), .int .u8 (o2.toNat : Int), .int .u8 (o3.toNat : Int)] rfl ?_; intro g1 w1 ge lt hh bb; have oa := Nat.le_trans bel.size ge; replace bel := bel.trans (bb.mono bel.size); have ha := hh; clear hh lt ge bb; have R3 := Lib.hid (range_lit ha 0 4 [.int .u8 (o0.toNat : Int), .int .u8 (o1.toNat : Int), .int .u8 (o2.toNat : Int), .int .u8 (o3.toNat : Int)] rfl)) | ((with_reducible show wpList _ _ _ (⟨some 3, _, _, _, _, _⟩ :: _) _ _); refine wpList_load_rng 24 (.tmp 1) rfl (by kernel_rfl) _ _ rfl _ R3.out _ Try.underlying24 rfl (by kernel_rfl) ?_))
  try clear R3
  go_ret
  exact ⟨rfl, bel⟩
set_option maxRecDepth 100000 in
set_option maxHeartbeats 16000000 in
theorem rodd_1 (o0 o1 o2 o3 : UInt8) (h0 : ([o0, o1, o2, o3] == [0, 0, 0, 0]) = false) (h1 : o0.toNat ≤ 223) (w : World) : Calls Try.prog 50 #[.agg #[.int .u8 (o0.toNat : Int), .int .u8 (o1.toNat : Int), .int .u8 (o2.toNat : Int), .int .u8 (o3.toNat : Int)]] w fun e w' => e = .returned (.bool false) ∧ Below w.heap.size w w' := by
  have q : ∀ W, (binOp .eql 24 (.agg #[.int .u8 (o0.toNat : Int), .int .u8 (o1.toNat : Int), .int .u8 (o2.toNat : Int), .int .u8 (o3.toNat : Int)]) (.agg #[.int .u8 0, .int .u8 0, .int .u8 0, .int .u8 0])).run Try.prog W = .ok (.bool false) W := fun W => by rw [eql4z, h0]
  have g := guard4
  clear h0
  have t0 : decide ((223 : Int) < o0.toNat) = false := decide_eq_false (by omega)
  clear h1
  have bel := Below.refl w.heap.size w
  go_enter Try.func50, Try.ntmps50
  go_wp2_with (first | ((with_reducible show wpList _ _ _ (⟨some 1, _, _, _, _, _⟩ :: _) _ _); refine wpList_box_n rfl 24 (.tmp 0) rfl #[.int .u8 (o0.toNat : Int), .int .u8 (o1.toNat : Int), .int .u8 (o2.toNat : Int), .int .u8 (o3.toNat : Int)] rfl ?_; intro g1 w1 ge lt hh bb; have oa := Nat.le_trans bel.size ge; replace bel := bel.trans (bb.mono bel.size); have ha := hh; clear hh lt ge bb; have R3 := Lib.hid (range_lit ha 0 4 [.int .u8 (o0.toNat : Int), .int .u8 (o1.toNat : Int), .int .u8 (o2.toNat : Int), .int .u8 (o3.toNat : Int)] rfl)) | ((with_reducible show wpList _ _ _ (⟨some 3, _, _, _, _, _⟩ :: _) _ _); refine wpList_load_rng 24 (.tmp 1) rfl (by kernel_rfl) _ _ rfl _ R3.out _ Try.underlying24 rfl (by kernel_rfl) ?_; have R8 := cell_lit ha 0 _ rfl))
  try clear R3
  try clear R8
  go_ret
  exact ⟨rfl, bel⟩
set_option maxRecDepth 100000 in
set_option maxHeartbeats 16000000 in
theorem rodd_2 (o0 o1 o2 o3 : UInt8) (h0 : ([o0, o1, o2, o3] == [0, 0, 0, 0]) = false) (h1 : 223 < o0.toNat) (w : World) : Calls Try.prog 50 #[.agg #[.int .u8 (o0.toNat : Int), .int .u8 (o1.toNat : Int), .int .u8 (o2.toNat : Int), .int .u8 (o3.toNat : Int)]] w fun e w' => e = .returned (.bool true) ∧ Below w.heap.size w w' := by
  have q : ∀ W, (binOp .eql 24 (.agg #[.int .u8 (o0.toNat : Int), .int .u8 (o1.toNat : Int), .int .u8 (o2.toNat : Int), .int .u8 (o3.toNat : Int)]) (.agg #[.int .u8 0, .int .u8 0, .int .u8 0, .int .u8 0])).run Try.prog W = .ok (.bool false) W := fun W => by rw [eql4z, h0]
  have g := guard4
  clear h0
  have t0 : (223 : Int) < o0.toNat := by omega
  clear h1
  have bel := Below.refl w.heap.size w
  go_enter Try.func50, Try.ntmps50
  go_wp2_with (first | ((with_reducible show wpList _ _ _ (⟨some 1, _, _, _, _, _⟩ :: _) _ _); refine wpList_box_n rfl 24 (.tmp 0) rfl #[.int .u8 (o0.toNat : Int), .int .u8 (o1.toNat : Int), .int .u8 (o2.toNat : Int), .int .u8 (o3.toNat : Int)] rfl ?_; intro g1 w1 ge lt hh bb; have oa := Nat.le_trans bel.size ge; replace bel := bel.trans (bb.mono bel.size); have ha := hh; clear hh lt ge bb; have R3 := Lib.hid (range_lit ha 0 4 [.int .u8 (o0.toNat : Int), .int .u8 (o1.toNat : Int), .int .u8 (o2.toNat : Int), .int .u8 (o3.toNat : Int)] rfl)) | ((with_reducible show wpList _ _ _ (⟨some 3, _, _, _, _, _⟩ :: _) _ _); refine wpList_load_rng 24 (.tmp 1) rfl (by kernel_rfl) _ _ rfl _ R3.out _ Try.underlying24 rfl (by kernel_rfl) ?_; have R8 := cell_lit ha 0 _ rfl))
  try clear R3
  try clear R8
  go_ret
  exact ⟨rfl, bel⟩
theorem rodd_any (o0 o1 o2 o3 : UInt8) (w : World) : Calls Try.prog 50 #[.agg #[.int .u8 (o0.toNat : Int), .int .u8 (o1.toNat : Int), .int .u8 (o2.toNat : Int), .int .u8 (o3.toNat : Int)]] w fun e w' => e = .returned (.bool (!hostOk o0 o1 o2 o3)) ∧ Below w.heap.size w w' := by
  unfold hostOk
  rcases (by decide : ∀ b : Bool, b = true ∨ b = false) ([o0, o1, o2, o3] == [0, 0, 0, 0]) with h0 | h0
  · rw [h0]
    exact rodd_0 o0 o1 o2 o3 h0 w
  · rw [h0]
    by_cases h1 : o0.toNat ≤ 223
    · rw [decide_eq_true h1]
      exact rodd_1 o0 o1 o2 o3 h0 h1 w
    · rw [decide_eq_false h1]
      exact rodd_2 o0 o1 o2 o3 h0 (by omega) w
set_option linter.unusedVariables false in
set_option maxRecDepth 100000 in
set_option maxHeartbeats 16000000 in
theorem ricabout_1 (o0 o1 o2 o3 : UInt8) (B : Option Addr) (nB cB : Nat) (l : List UInt8) (ty cd : Int) (f0 f1 f2 f3 f4 f5 : Int) (a0 a1 a2 a3 a4 a5 a6 a7 : UInt8) (lo lb : List UInt8) (no nb : Nat) (w : World) (hB : Sl w B nB cB l) (hm : nB ≤ 100000) (er : Int) (hg : ipGet l = (([f0, f1, f2, f3, f4, f5], [a0, a1, a2, a3, a4, a5, a6, a7]), (lo, lb), er)) (he : er ≠ 0) (h1 : lo.length = no) (h2 : lb.length = nb) : Calls Try.prog 27 #[.agg #[.int .u8 (o0.toNat : Int), .int .u8 (o1.toNat : Int), .int .u8 (o2.toNat : Int), .int .u8 (o3.toNat : Int)], .slice B nB cB, .int .i64 ty, .int .i64 cd] w (PkPost (icAbout o0 o1 o2 o3 l ty cd) w) := by
  obtain ⟨ii, hii, hz0, hz1, hz2⟩ := info_parts Try.info5
  have HG := Lib.hid hg
  have HM := Lib.hid hm
  have HL1 := Lib.hid h1
  have HL2 := Lib.hid h2
  have HP : Hid (icAbout o0 o1 o2 o3 l ty cd = pkNone er) := Lib.hid (by rw [icAbout_eq _ _ _ _ _ _ hg]; exact if_pos he)
  have t0 : (er == 0) = false := by simpa using he
  have t1 : (er != 0) = true := by simpa using he
  clear hg hm h1 h2 he
  have bel := Below.refl w.heap.size w
  go_enter Try.func27, Try.ntmps27
  go_wp2_with (first | ((with_reducible show wpList _ _ _ (⟨some 4, _, _, _, _, _⟩ :: _) _ _); refine wpList_box_n rfl 24 (.tmp 0) rfl #[.int .u8 (o0.toNat : Int), .int .u8 (o1.toNat : Int), .int .u8 (o2.toNat : Int), .int .u8 (o3.toNat : Int)] rfl ?_; intro g4 w1 ge lt hh bb; have av_hB_o := hB.av_new ge; have oo := Nat.le_trans bel.size ge; replace hB := hB.below bb; replace bel := bel.trans (bb.mono bel.size); have ho := hh; clear hh lt ge bb) | ((with_reducible show wpList _ _ _ (⟨some 8, _, _, _, _, _⟩ :: _) _ _); refine wpList_new_a rfl 45 rfl #[.int .i64 0, .int .i64 0, .int .i64 0, .int .i64 0, .int .i64 0, .int .i64 0, .int .u8 0, .int .u8 0, .int .u8 0, .int .u8 0, .int .u8 0, .int .u8 0, .int .u8 0, .int .u8 0, .slice none 0 0, .slice none 0 0] (by kernel_rfl) ?_; intro g8 w2 ge hh bb; have d_o_z := ne_new (hlt ho) ge; have av_hB_z := hB.av_new ge; have oz := Nat.le_trans bel.size ge; replace ho := blk_u ho bb; replace hB := hB.below bb; replace bel := bel.trans (bb.mono bel.size); have hz := hh; clear hh ge bb))
  with_reducible refine (rget6_n _ _ _ l f0 f1 f2 f3 f4 f5 a0 a1 a2 a3 a4 a5 a6 a7 lo lb no nb er _ hB HM.out HG.out HL1.out HL2.out).mono ?_
  rintro e w3 ⟨Ao, co, Ab, cb, rfl, po, pb, b3⟩
  replace ho := blk_u ho b3
  replace hz := blk_u hz b3
  replace hB := hB.below b3
  replace bel := bel.trans (b3.mono bel.size)
  clear b3
  replace po : Sl w3 (Ao) (no) (co) (lo) := po
  replace pb : Sl w3 (Ab) (nb) (cb) (lb) := pb
  go_wp2_with (first | ((with_reducible show wpList _ _ _ (⟨some 10, _, _, _, _, _⟩ :: _) _ _); refine wpList_new_a rfl 45 rfl #[.int .i64 0, .int .i64 0, .int .i64 0, .int .i64 0, .int .i64 0, .int .i64 0, .int .u8 0, .int .u8 0, .int .u8 0, .int .u8 0, .int .u8 0, .int .u8 0, .int .u8 0, .int .u8 0, .slice none 0 0, .slice none 0 0] (by kernel_rfl) ?_; intro g10 w4 ge hh bb; have d_o_p := ne_new (hlt ho) ge; have d_z_p := ne_new (hlt hz) ge; have av_hB_p := hB.av_new ge; have av_po_p := po.av_new ge; have av_pb_p := pb.av_new ge; have op := Nat.le_trans bel.size ge; replace ho := blk_u ho bb; replace hz := blk_u hz bb; replace hB := hB.below bb; replace po := po.below bb; replace pb := pb.below bb; replace bel := bel.trans (bb.mono bel.size); have hp := hh; clear hh ge bb) | ((with_reducible show wpList _ _ _ (⟨none, Op.store _ (.tmp 10) _, _, _, _, _⟩ :: _) _ _); refine wpList_store_blk rfl 45 (.tmp 10) (.tmp 17) rfl g10 rfl _ rfl _ 45 hp (by rfl) (by kernel_rfl) (by kernel_rfl) ?_; intro w5 hq gr; replace hB := hB.away av_hB_p gr; replace po := po.away av_po_p gr; replace pb := pb.away av_pb_p gr; replace ho := blk_a ho gr d_o_p; replace hz := blk_a hz gr d_z_p; replace bel := below_grown bel gr op bel.size; clear hp; have hp := hq; clear hq gr) | ((with_reducible show wpList _ _ _ (⟨none, Op.store _ (.tmp 8) _, _, _, _, _⟩ :: _) _ _); refine wpList_store_blk rfl 45 (.tmp 8) (.tmp 21) rfl g8 rfl _ rfl _ 45 hz (by rfl) (by kernel_rfl) (by kernel_rfl) ?_; intro w6 hq gr; replace hB := hB.away av_hB_z gr; clear po; clear pb; replace ho := blk_a ho gr d_o_z; replace hp := blk_a hp gr (ne_symm d_z_p); replace bel := below_grown bel gr oz bel.size; clear hz; have hz := hq; clear hq gr))
  exact bodyPost_ret (results_cell_tmp_row rfl _ _ _ _ _ _ _ rfl hz Try.underlying45 rfl (by kernel_rfl) (.int .i64 er) rfl) rfl (by rw [HP.out]; exact PkPost.none bel)
set_option linter.unusedVariables false in
set_option maxRecDepth 100000 in
set_option maxHeartbeats 16000000 in
theorem ricabout_2 (o0 o1 o2 o3 : UInt8) (B : Option Addr) (nB cB : Nat) (l : List UInt8) (ty cd : Int) (f0 f1 f2 f3 f4 f5 : Int) (a0 a1 a2 a3 a4 a5 a6 a7 : UInt8) (lo lb : List UInt8) (no nb : Nat) (w : World) (hB : Sl w B nB cB l) (hm : nB ≤ 100000) (hg : ipGet l = (([f0, f1, f2, f3, f4, f5], [a0, a1, a2, a3, a4, a5, a6, a7]), (lo, lb), 0)) (hy : icMay f3 f5 a0 a1 a2 a3 a4 a5 a6 a7 lb = false) (c0 : 0 < f3) (h1 : lo.length = no) (h2 : lb.length = nb) : Calls Try.prog 27 #[.agg #[.int .u8 (o0.toNat : Int), .int .u8 (o1.toNat : Int), .int .u8 (o2.toNat : Int), .int .u8 (o3.toNat : Int)], .slice B nB cB, .int .i64 ty, .int .i64 cd] w (PkPost (icAbout o0 o1 o2 o3 l ty cd) w) := by
  obtain ⟨ii, hii, hz0, hz1, hz2⟩ := info_parts Try.info5
  have HG := Lib.hid hg
  have HM := Lib.hid hm
  have HL1 := Lib.hid h1
  have HL2 := Lib.hid h2
  have HP : Hid (icAbout o0 o1 o2 o3 l ty cd = pkNone 11) := Lib.hid (by rw [icAbout_eq _ _ _ _ _ _ hg]; unfold icAb; rw [if_neg (by decide), if_pos hy])
  have t0 : (0 : Int) < f3 := c0
  clear hg hm h1 h2 hy c0
  have bel := Below.refl w.heap.size w
  go_enter Try.func27, Try.ntmps27
  go_wp2_with (first | ((with_reducible show wpList _ _ _ (⟨some 4, _, _, _, _, _⟩ :: _) _ _); refine wpList_box_n rfl 24 (.tmp 0) rfl #[.int .u8 (o0.toNat : Int), .int .u8 (o1.toNat : Int), .int .u8 (o2.toNat : Int), .int .u8 (o3.toNat : Int)] rfl ?_; intro g4 w1 ge lt hh bb; have av_hB_o := hB.av_new ge; have oo := Nat.le_trans bel.size ge; replace hB := hB.below bb; replace bel := bel.trans (bb.mono bel.size); have ho := hh; clear hh lt ge bb) | ((with_reducible show wpList _ _ _ (⟨some 8, _, _, _, _, _⟩ :: _) _ _); refine wpList_new_a rfl 45 rfl #[.int .i64 0, .int .i64 0, .int .i64 0, .int .i64 0, .int .i64 0, .int .i64 0, .int .u8 0, .int .u8 0, .int .u8 0, .int .u8 0, .int .u8 0, .int .u8 0, .int .u8 0, .int .u8 0, .slice none 0 0, .slice none 0 0] (by kernel_rfl) ?_; intro g8 w2 ge hh bb; have d_o_z := ne_new (hlt ho) ge; have av_hB_z := hB.av_new ge; have oz := Nat.le_trans bel.size ge; replace ho := blk_u ho bb; replace hB := hB.below bb; replace bel := bel.trans (bb.mono bel.size); have hz := hh; clear hh ge bb))
  with_reducible refine (rget6_n _ _ _ l f0 f1 f2 f3 f4 f5 a0 a1 a2 a3 a4 a5 a6 a7 lo lb no nb 0 _ hB HM.out HG.out HL1.out HL2.out).mono ?_
  rintro e w3 ⟨Ao, co, Ab, cb, rfl, po, pb, b3⟩
  replace ho := blk_u ho b3
  replace hz := blk_u hz b3
  replace hB := hB.below b3
  replace bel := bel.trans (b3.mono bel.size)
  clear b3
  replace po : Sl w3 (Ao) (no) (co) (lo) := po
  replace pb : Sl w3 (Ab) (nb) (cb) (lb) := pb
  go_wp2_with (first | ((with_reducible show wpList _ _ _ (⟨some 10, _, _, _, _, _⟩ :: _) _ _); refine wpList_new_a rfl 45 rfl #[.int .i64 0, .int .i64 0, .int .i64 0, .int .i64 0, .int .i64 0, .int .i64 0, .int .u8 0, .int .u8 0, .int .u8 0, .int .u8 0, .int .u8 0, .int .u8 0, .int .u8 0, .int .u8 0, .slice none 0 0, .slice none 0 0] (by kernel_rfl) ?_; intro g10 w4 ge hh bb; have d_o_p := ne_new (hlt ho) ge; have d_z_p := ne_new (hlt hz) ge; have av_hB_p := hB.av_new ge; have av_po_p := po.av_new ge; have av_pb_p := pb.av_new ge; have op := Nat.le_trans bel.size ge; replace ho := blk_u ho bb; replace hz := blk_u hz bb; replace hB := hB.below bb; replace po := po.below bb; replace pb := pb.below bb; replace bel := bel.trans (bb.mono bel.size); have hp := hh; clear hh ge bb) | ((with_reducible show wpList _ _ _ (⟨none, Op.store _ (.tmp 10) _, _, _, _, _⟩ :: _) _ _); refine wpList_store_blk rfl 45 (.tmp 10) (.tmp 17) rfl g10 rfl _ rfl _ 45 hp (by rfl) (by kernel_rfl) (by kernel_rfl) ?_; intro w5 hq gr; replace hB := hB.away av_hB_p gr; replace po := po.away av_po_p gr; replace pb := pb.away av_pb_p gr; replace ho := blk_a ho gr d_o_p; replace hz := blk_a hz gr d_z_p; replace bel := below_grown bel gr op bel.size; clear hp; have hp := hq; clear hq gr; have R24 := cell_lit hp 3 _ rfl) | ((with_reducible show wpList _ _ _ (⟨none, Op.store _ (.tmp 8) _, _, _, _, _⟩ :: _) _ _); refine wpList_store_blk rfl 45 (.tmp 8) (.tmp 36) rfl g8 rfl _ rfl _ 45 hz (by rfl) (by kernel_rfl) (by kernel_rfl) ?_; intro w6 hq gr; replace hB := hB.away av_hB_z gr; clear po; clear pb; replace ho := blk_a ho gr d_o_z; replace hp := blk_a hp gr (ne_symm d_z_p); replace bel := below_grown bel gr oz bel.size; clear hz; have hz := hq; clear hq gr))
  try clear R24
  exact bodyPost_ret (results_cell_tmp_row rfl _ _ _ _ _ _ _ rfl hz Try.underlying45 rfl (by kernel_rfl) (.int .i64 11) rfl) rfl (by rw [HP.out]; exact PkPost.none bel)
set_option linter.unusedVariables false in
set_option maxRecDepth 100000 in
set_option maxHeartbeats 16000000 in
theorem ricabout_3 (o0 o1 o2 o3 : UInt8) (B : Option Addr) (nB cB : Nat) (l : List UInt8) (ty cd : Int) (f0 f1 f2 f3 f4 f5 : Int) (a0 a1 a2 a3 a4 a5 a6 a7 : UInt8) (lo lb : List UInt8) (no nb : Nat) (w : World) (hB : Sl w B nB cB l) (hm : nB ≤ 100000) (hg : ipGet l = (([f0, f1, f2, f3, f4, f5], [a0, a1, a2, a3, a4, a5, a6, a7]), (lo, lb), 0)) (hy : icMay f3 f5 a0 a1 a2 a3 a4 a5 a6 a7 lb = false) (c0 : ¬ 0 < f3) (c1 : hostOk a0 a1 a2 a3 = false) (h1 : lo.length = no) (h2 : lb.length = nb) : Calls Try.prog 27 #[.agg #[.int .u8 (o0.toNat : Int), .int .u8 (o1.toNat : Int), .int .u8 (o2.toNat : Int), .int .u8 (o3.toNat : Int)], .slice B nB cB, .int .i64 ty, .int .i64 cd] w (PkPost (icAbout o0 o1 o2 o3 l ty cd) w) := by
  obtain ⟨ii, hii, hz0, hz1, hz2⟩ := info_parts Try.info5
  have HG := Lib.hid hg
  have HM := Lib.hid hm
  have HL1 := Lib.hid h1
  have HL2 := Lib.hid h2
  have HP : Hid (icAbout o0 o1 o2 o3 l ty cd = pkNone 11) := Lib.hid (by rw [icAbout_eq _ _ _ _ _ _ hg]; unfold icAb; rw [if_neg (by decide), if_pos hy])
  have t0 : decide ((0 : Int) < f3) = false := decide_eq_false c0
  have H1 := Lib.hid c1
  clear hg hm h1 h2 hy c0 c1
  have bel := Below.refl w.heap.size w
  go_enter Try.func27, Try.ntmps27
  go_wp2_with (first | ((with_reducible show wpList _ _ _ (⟨some 4, _, _, _, _, _⟩ :: _) _ _); refine wpList_box_n rfl 24 (.tmp 0) rfl #[.int .u8 (o0.toNat : Int), .int .u8 (o1.toNat : Int), .int .u8 (o2.toNat : Int), .int .u8 (o3.toNat : Int)] rfl ?_; intro g4 w1 ge lt hh bb; have av_hB_o := hB.av_new ge; have oo := Nat.le_trans bel.size ge; replace hB := hB.below bb; replace bel := bel.trans (bb.mono bel.size); have ho := hh; clear hh lt ge bb) | ((with_reducible show wpList _ _ _ (⟨some 8, _, _, _, _, _⟩ :: _) _ _); refine wpList_new_a rfl 45 rfl #[.int .i64 0, .int .i64 0, .int .i64 0, .int .i64 0, .int .i64 0, .int .i64 0, .int .u8 0, .int .u8 0, .int .u8 0, .int .u8 0, .int .u8 0, .int .u8 0, .int .u8 0, .int .u8 0, .slice none 0 0, .slice none 0 0] (by kernel_rfl) ?_; intro g8 w2 ge hh bb; have d_o_z := ne_new (hlt ho) ge; have av_hB_z := hB.av_new ge; have oz := Nat.le_trans bel.size ge; replace ho := blk_u ho bb; replace hB := hB.below bb; replace bel := bel.trans (bb.mono bel.size); have hz := hh; clear hh ge bb))
  with_reducible refine (rget6_n _ _ _ l f0 f1 f2 f3 f4 f5 a0 a1 a2 a3 a4 a5 a6 a7 lo lb no nb 0 _ hB HM.out HG.out HL1.out HL2.out).mono ?_
  rintro e w3 ⟨Ao, co, Ab, cb, rfl, po, pb, b3⟩
  replace ho := blk_u ho b3
  replace hz := blk_u hz b3
  replace hB := hB.below b3
  replace bel := bel.trans (b3.mono bel.size)
  clear b3
  replace po : Sl w3 (Ao) (no) (co) (lo) := po
  replace pb : Sl w3 (Ab) (nb) (cb) (lb) := pb
  go_wp2_with (first | ((with_reducible show wpList _ _ _ (⟨some 10, _, _, _, _, _⟩ :: _) _ _); refine wpList_new_a rfl 45 rfl #[.int .i64 0, .int .i64 0, .int .i64 0, .int .i64 0, .int .i64 0, .int .i64 0, .int .u8 0, .int .u8 0, .int .u8 0, .int .u8 0, .int .u8 0, .int .u8 0, .int .u8 0, .int .u8 0, .slice none 0 0, .slice none 0 0] (by kernel_rfl) ?_; intro g10 w4 ge hh bb; have d_o_p := ne_new (hlt ho) ge; have d_z_p := ne_new (hlt hz) ge; have av_hB_p := hB.av_new ge; have av_po_p := po.av_new ge; have av_pb_p := pb.av_new ge; have op := Nat.le_trans bel.size ge; replace ho := blk_u ho bb; replace hz := blk_u hz bb; replace hB := hB.below bb; replace po := po.below bb; replace pb := pb.below bb; replace bel := bel.trans (bb.mono bel.size); have hp := hh; clear hh ge bb) | ((with_reducible show wpList _ _ _ (⟨none, Op.store _ (.tmp 10) _, _, _, _, _⟩ :: _) _ _); refine wpList_store_blk rfl 45 (.tmp 10) (.tmp 17) rfl g10 rfl _ rfl _ 45 hp (by rfl) (by kernel_rfl) (by kernel_rfl) ?_; intro w5 hq gr; replace hB := hB.away av_hB_p gr; replace po := po.away av_po_p gr; replace pb := pb.away av_pb_p gr; replace ho := blk_a ho gr d_o_p; replace hz := blk_a hz gr d_z_p; replace bel := below_grown bel gr op bel.size; clear hp; have hp := hq; clear hq gr; have R24 := cell_lit hp 3 _ rfl; have R28 := Lib.hid (range_lit hp 6 4 [.int .u8 (a0.toNat : Int), .int .u8 (a1.toNat : Int), .int .u8 (a2.toNat : Int), .int .u8 (a3.toNat : Int)] rfl)) | ((with_reducible show wpList _ _ _ (⟨some 28, _, _, _, _, _⟩ :: _) _ _); refine wpList_load_rng 24 (.tmp 27) rfl (by kernel_rfl) _ _ rfl _ R28.out _ Try.underlying24 rfl (by kernel_rfl) ?_))
  try clear R24
  try clear R28
  with_reducible refine (rodd_any _ _ _ _ _).mono ?_
  rintro e w6 ⟨rfl, b6⟩
  replace ho := blk_u ho b6
  replace hz := blk_u hz b6
  replace hp := blk_u hp b6
  replace hB := hB.below b6
  replace po := po.below b6
  replace pb := pb.below b6
  replace bel := bel.trans (b6.mono bel.size)
  clear b6
  rw [H1.out]
  go_wp2_with (first | ((with_reducible show wpList _ _ _ (⟨none, Op.store _ (.tmp 8) _, _, _, _, _⟩ :: _) _ _); refine wpList_store_blk rfl 45 (.tmp 8) (.tmp 36) rfl g8 rfl _ rfl _ 45 hz (by rfl) (by kernel_rfl) (by kernel_rfl) ?_; intro w7 hq gr; replace hB := hB.away av_hB_z gr; clear po; clear pb; replace ho := blk_a ho gr d_o_z; replace hp := blk_a hp gr (ne_symm d_z_p); replace bel := below_grown bel gr oz bel.size; clear hz; have hz := hq; clear hq gr))
  exact bodyPost_ret (results_cell_tmp_row rfl _ _ _ _ _ _ _ rfl hz Try.underlying45 rfl (by kernel_rfl) (.int .i64 11) rfl) rfl (by rw [HP.out]; exact PkPost.none bel)
set_option linter.unusedVariables false in
set_option maxRecDepth 100000 in
set_option maxHeartbeats 16000000 in
theorem ricabout_4 (o0 o1 o2 o3 : UInt8) (B : Option Addr) (nB cB : Nat) (l : List UInt8) (ty cd : Int) (f0 f1 f2 f3 f4 f5 : Int) (a0 a1 a2 a3 a4 a5 a6 a7 : UInt8) (lo lb : List UInt8) (no nb : Nat) (w : World) (hB : Sl w B nB cB l) (hm : nB ≤ 100000) (hg : ipGet l = (([f0, f1, f2, f3, f4, f5], [a0, a1, a2, a3, a4, a5, a6, a7]), (lo, lb), 0)) (hy : icMay f3 f5 a0 a1 a2 a3 a4 a5 a6 a7 lb = false) (c0 : ¬ 0 < f3) (c1 : hostOk a0 a1 a2 a3 = true) (c2 : hostOk a4 a5 a6 a7 = false) (h1 : lo.length = no) (h2 : lb.length = nb) : Calls Try.prog 27 #[.agg #[.int .u8 (o0.toNat : Int), .int .u8 (o1.toNat : Int), .int .u8 (o2.toNat : Int), .int .u8 (o3.toNat : Int)], .slice B nB cB, .int .i64 ty, .int .i64 cd] w (PkPost (icAbout o0 o1 o2 o3 l ty cd) w) := by
  obtain ⟨ii, hii, hz0, hz1, hz2⟩ := info_parts Try.info5
  have HG := Lib.hid hg
  have HM := Lib.hid hm
  have HL1 := Lib.hid h1
  have HL2 := Lib.hid h2
  have HP : Hid (icAbout o0 o1 o2 o3 l ty cd = pkNone 11) := Lib.hid (by rw [icAbout_eq _ _ _ _ _ _ hg]; unfold icAb; rw [if_neg (by decide), if_pos hy])
  have t0 : decide ((0 : Int) < f3) = false := decide_eq_false c0
  have H1 := Lib.hid c1
  have H2 := Lib.hid c2
  clear hg hm h1 h2 hy c0 c1 c2
  have bel := Below.refl w.heap.size w
  go_enter Try.func27, Try.ntmps27
  go_wp2_with (first | ((with_reducible show wpList _ _ _ (⟨some 4, _, _, _, _, _⟩ :: _) _ _); refine wpList_box_n rfl 24 (.tmp 0) rfl #[.int .u8 (o0.toNat : Int), .int .u8 (o1.toNat : Int), .int .u8 (o2.toNat : Int), .int .u8 (o3.toNat : Int)] rfl ?_; intro g4 w1 ge lt hh bb; have av_hB_o := hB.av_new ge; have oo := Nat.le_trans bel.size ge; replace hB := hB.below bb; replace bel := bel.trans (bb.mono bel.size); have ho := hh; clear hh lt ge bb) | ((with_reducible show wpList _ _ _ (⟨some 8, _, _, _, _, _⟩ :: _) _ _); refine wpList_new_a rfl 45 rfl #[.int .i64 0, .int .i64 0, .int .i64 0, .int .i64 0, .int .i64 0, .int .i64 0, .int .u8 0, .int .u8 0, .int .u8 0, .int .u8 0, .int .u8 0, .int .u8 0, .int .u8 0, .int .u8 0, .slice none 0 0, .slice none 0 0] (by kernel_rfl) ?_; intro g8 w2 ge hh bb; have d_o_z := ne_new (hlt ho) ge; have av_hB_z := hB.av_new ge; have oz := Nat.le_trans bel.size ge; replace ho := blk_u ho bb; replace hB := hB.below bb; replace bel := bel.trans (bb.mono bel.size); have hz := hh; clear hh ge bb))
  with_reducible refine (rget6_n _ _ _ l f0 f1 f2 f3 f4 f5 a0 a1 a2 a3 a4 a5 a6 a7 lo lb no nb 0 _ hB HM.out HG.out HL1.out HL2.out).mono ?_
  rintro e w3 ⟨Ao, co, Ab, cb, rfl, po, pb, b3⟩
  replace ho := blk_u ho b3
  replace hz := blk_u hz b3
  replace hB := hB.below b3
  replace bel := bel.trans (b3.mono bel.size)
  clear b3
  replace po : Sl w3 (Ao) (no) (co) (lo) := po
  replace pb : Sl w3 (Ab) (nb) (cb) (lb) := pb
  go_wp2_with (first | ((with_reducible show wpList _ _ _ (⟨some 10, _, _, _, _, _⟩ :: _) _ _); refine wpList_new_a rfl 45 rfl #[.int .i64 0, .int .i64 0, .int .i64 0, .int .i64 0, .int .i64 0, .int .i64 0, .int .u8 0, .int .u8 0, .int .u8 0, .int .u8 0, .int .u8 0, .int .u8 0, .int .u8 0, .int .u8 0, .slice none 0 0, .slice none 0 0] (by kernel_rfl) ?_; intro g10 w4 ge hh bb; have d_o_p := ne_new (hlt ho) ge; have d_z_p := ne_new (hlt hz) ge; have av_hB_p := hB.av_new ge; have av_po_p := po.av_new ge; have av_pb_p := pb.av_new ge; have op := Nat.le_trans bel.size ge; replace ho := blk_u ho bb; replace hz := blk_u hz bb; replace hB := hB.below bb; replace po := po.below bb; replace pb := pb.below bb; replace bel := bel.trans (bb.mono bel.size); have hp := hh; clear hh ge bb) | ((with_reducible show wpList _ _ _ (⟨none, Op.store _ (.tmp 10) _, _, _, _, _⟩ :: _) _ _); refine wpList_store_blk rfl 45 (.tmp 10) (.tmp 17) rfl g10 rfl _ rfl _ 45 hp (by rfl) (by kernel_rfl) (by kernel_rfl) ?_; intro w5 hq gr; replace hB := hB.away av_hB_p gr; replace po := po.away av_po_p gr; replace pb := pb.away av_pb_p gr; replace ho := blk_a ho gr d_o_p; replace hz := blk_a hz gr d_z_p; replace bel := below_grown bel gr op bel.size; clear hp; have hp := hq; clear hq gr; have R24 := cell_lit hp 3 _ rfl; have R28 := Lib.hid (range_lit hp 6 4 [.int .u8 (a0.toNat : Int), .int .u8 (a1.toNat : Int), .int .u8 (a2.toNat : Int), .int .u8 (a3.toNat : Int)] rfl)) | ((with_reducible show wpList _ _ _ (⟨some 28, _, _, _, _, _⟩ :: _) _ _); refine wpList_load_rng 24 (.tmp 27) rfl (by kernel_rfl) _ _ rfl _ R28.out _ Try.underlying24 rfl (by kernel_rfl) ?_))
  try clear R24
  try clear R28
  with_reducible refine (rodd_any _ _ _ _ _).mono ?_
  rintro e w6 ⟨rfl, b6⟩
  replace ho := blk_u ho b6
  replace hz := blk_u hz b6
  replace hp := blk_u hp b6
  replace hB := hB.below b6
  replace po := po.below b6
  replace pb := pb.below b6
  replace bel := bel.trans (b6.mono bel.size)
  clear b6
  rw [H1.out]
  have R33 := Lib.hid (range_lit hp 10 4 [.int .u8 (a4.toNat : Int), .int .u8 (a5.toNat : Int), .int .u8 (a6.toNat : Int), .int .u8 (a7.toNat : Int)] rfl)
  go_wp2_with (first | ((with_reducible show wpList _ _ _ (⟨some 33, _, _, _, _, _⟩ :: _) _ _); refine wpList_load_rng 24 (.tmp 32) rfl (by kernel_rfl) _ _ rfl _ R33.out _ Try.underlying24 rfl (by kernel_rfl) ?_))
  try clear R33
  with_reducible refine (rodd_any _ _ _ _ _).mono ?_
  rintro e w7 ⟨rfl, b7⟩
  replace ho := blk_u ho b7
  replace hz := blk_u hz b7
  replace hp := blk_u hp b7
  replace hB := hB.below b7
  replace po := po.below b7
  replace pb := pb.below b7
  replace bel := bel.trans (b7.mono bel.size)
  clear b7
  rw [H2.out]
  go_wp2_with (first | ((with_reducible show wpList _ _ _ (⟨none, Op.store _ (.tmp 8) _, _, _, _, _⟩ :: _) _ _); refine wpList_store_blk rfl 45 (.tmp 8) (.tmp 36) rfl g8 rfl _ rfl _ 45 hz (by rfl) (by kernel_rfl) (by kernel_rfl) ?_; intro w8 hq gr; replace hB := hB.away av_hB_z gr; clear po; clear pb; replace ho := blk_a ho gr d_o_z; replace hp := blk_a hp gr (ne_symm d_z_p); replace bel := below_grown bel gr oz bel.size; clear hz; have hz := hq; clear hq gr))
  exact bodyPost_ret (results_cell_tmp_row rfl _ _ _ _ _ _ _ rfl hz Try.underlying45 rfl (by kernel_rfl) (.int .i64 11) rfl) rfl (by rw [HP.out]; exact PkPost.none bel)
set_option linter.unusedVariables false in
set_option maxRecDepth 100000 in
set_option maxHeartbeats 16000000 in
theorem ricabout_5 (o0 o1 o2 o3 : UInt8) (B : Option Addr) (nB cB : Nat) (l : List UInt8) (ty cd : Int) (f0 f1 f2 f3 f4 f5 : Int) (a0 a1 a2 a3 a4 a5 a6 a7 : UInt8) (lo lb : List UInt8) (no nb : Nat) (w : World) (hB : Sl w B nB cB l) (hm : nB ≤ 100000) (hg : ipGet l = (([f0, f1, f2, f3, f4, f5], [a0, a1, a2, a3, a4, a5, a6, a7]), (lo, lb), 0)) (hy : icMay f3 f5 a0 a1 a2 a3 a4 a5 a6 a7 lb = false) (c0 : ¬ 0 < f3) (c1 : hostOk a0 a1 a2 a3 = true) (c2 : hostOk a4 a5 a6 a7 = true) (c3 : f5 = 1) (c4 : nb < 8) (h1 : lo.length = no) (h2 : lb.length = nb) : Calls Try.prog 27 #[.agg #[.int .u8 (o0.toNat : Int), .int .u8 (o1.toNat : Int), .int .u8 (o2.toNat : Int), .int .u8 (o3.toNat : Int)], .slice B nB cB, .int .i64 ty, .int .i64 cd] w (PkPost (icAbout o0 o1 o2 o3 l ty cd) w) := by
  obtain ⟨ii, hii, hz0, hz1, hz2⟩ := info_parts Try.info5
  have HG := Lib.hid hg
  have HM := Lib.hid hm
  have HL1 := Lib.hid h1
  have HL2 := Lib.hid h2
  have HP : Hid (icAbout o0 o1 o2 o3 l ty cd = pkNone 11) := Lib.hid (by rw [icAbout_eq _ _ _ _ _ _ hg]; unfold icAb; rw [if_neg (by decide), if_pos hy])
  have t0 : decide ((0 : Int) < f3) = false := decide_eq_false c0
  have H1 := Lib.hid c1
  have H2 := Lib.hid c2
  have t3 : (f5 == 1) = true := by simpa using c3
  have t4 : (nb : Int) < 8 := by omega
  clear hg hm h1 h2 hy c0 c1 c2 c3 c4
  have bel := Below.refl w.heap.size w
  go_enter Try.func27, Try.ntmps27
  go_wp2_with (first | ((with_reducible show wpList _ _ _ (⟨some 4, _, _, _, _, _⟩ :: _) _ _); refine wpList_box_n rfl 24 (.tmp 0) rfl #[.int .u8 (o0.toNat : Int), .int .u8 (o1.toNat : Int), .int .u8 (o2.toNat : Int), .int .u8 (o3.toNat : Int)] rfl ?_; intro g4 w1 ge lt hh bb; have av_hB_o := hB.av_new ge; have oo := Nat.le_trans bel.size ge; replace hB := hB.below bb; replace bel := bel.trans (bb.mono bel.size); have ho := hh; clear hh lt ge bb) | ((with_reducible show wpList _ _ _ (⟨some 8, _, _, _, _, _⟩ :: _) _ _); refine wpList_new_a rfl 45 rfl #[.int .i64 0, .int .i64 0, .int .i64 0, .int .i64 0, .int .i64 0, .int .i64 0, .int .u8 0, .int .u8 0, .int .u8 0, .int .u8 0, .int .u8 0, .int .u8 0, .int .u8 0, .int .u8 0, .slice none 0 0, .slice none 0 0] (by kernel_rfl) ?_; intro g8 w2 ge hh bb; have d_o_z := ne_new (hlt ho) ge; have av_hB_z := hB.av_new ge; have oz := Nat.le_trans bel.size ge; replace ho := blk_u ho bb; replace hB := hB.below bb; replace bel := bel.trans (bb.mono bel.size); have hz := hh; clear hh ge bb))
  with_reducible refine (rget6_n _ _ _ l f0 f1 f2 f3 f4 f5 a0 a1 a2 a3 a4 a5 a6 a7 lo lb no nb 0 _ hB HM.out HG.out HL1.out HL2.out).mono ?_
  rintro e w3 ⟨Ao, co, Ab, cb, rfl, po, pb, b3⟩
  replace ho := blk_u ho b3
  replace hz := blk_u hz b3
  replace hB := hB.below b3
  replace bel := bel.trans (b3.mono bel.size)
  clear b3
  replace po : Sl w3 (Ao) (no) (co) (lo) := po
  replace pb : Sl w3 (Ab) (nb) (cb) (lb) := pb
  go_wp2_with (first | ((with_reducible show wpList _ _ _ (⟨some 10, _, _, _, _, _⟩ :: _) _ _); refine wpList_new_a rfl 45 rfl #[.int .i64 0, .int .i64 0, .int .i64 0, .int .i64 0, .int .i64 0, .int .i64 0, .int .u8 0, .int .u8 0, .int .u8 0, .int .u8 0, .int .u8 0, .int .u8 0, .int .u8 0, .int .u8 0, .slice none 0 0, .slice none 0 0] (by kernel_rfl) ?_; intro g10 w4 ge hh bb; have d_o_p := ne_new (hlt ho) ge; have d_z_p := ne_new (hlt hz) ge; have av_hB_p := hB.av_new ge; have av_po_p := po.av_new ge; have av_pb_p := pb.av_new ge; have op := Nat.le_trans bel.size ge; replace ho := blk_u ho bb; replace hz := blk_u hz bb; replace hB := hB.below bb; replace po := po.below bb; replace pb := pb.below bb; replace bel := bel.trans (bb.mono bel.size); have hp := hh; clear hh ge bb) | ((with_reducible show wpList _ _ _ (⟨none, Op.store _ (.tmp 10) _, _, _, _, _⟩ :: _) _ _); refine wpList_store_blk rfl 45 (.tmp 10) (.tmp 17) rfl g10 rfl _ rfl _ 45 hp (by rfl) (by kernel_rfl) (by kernel_rfl) ?_; intro w5 hq gr; replace hB := hB.away av_hB_p gr; replace po := po.away av_po_p gr; replace pb := pb.away av_pb_p gr; replace ho := blk_a ho gr d_o_p; replace hz := blk_a hz gr d_z_p; replace bel := below_grown bel gr op bel.size; clear hp; have hp := hq; clear hq gr; have R24 := cell_lit hp 3 _ rfl; have R28 := Lib.hid (range_lit hp 6 4 [.int .u8 (a0.toNat : Int), .int .u8 (a1.toNat : Int), .int .u8 (a2.toNat : Int), .int .u8 (a3.toNat : Int)] rfl)) | ((with_reducible show wpList _ _ _ (⟨some 28, _, _, _, _, _⟩ :: _) _ _); refine wpList_load_rng 24 (.tmp 27) rfl (by kernel_rfl) _ _ rfl _ R28.out _ Try.underlying24 rfl (by kernel_rfl) ?_))
  try clear R24
  try clear R28
  with_reducible refine (rodd_any _ _ _ _ _).mono ?_
  rintro e w6 ⟨rfl, b6⟩
  replace ho := blk_u ho b6
  replace hz := blk_u hz b6
  replace hp := blk_u hp b6
  replace hB := hB.below b6
  replace po := po.below b6
  replace pb := pb.below b6
  replace bel := bel.trans (b6.mono bel.size)
  clear b6
  rw [H1.out]
  have R33 := Lib.hid (range_lit hp 10 4 [.int .u8 (a4.toNat : Int), .int .u8 (a5.toNat : Int), .int .u8 (a6.toNat : Int), .int .u8 (a7.toNat : Int)] rfl)
  go_wp2_with (first | ((with_reducible show wpList _ _ _ (⟨some 33, _, _, _, _, _⟩ :: _) _ _); refine wpList_load_rng 24 (.tmp 32) rfl (by kernel_rfl) _ _ rfl _ R33.out _ Try.underlying24 rfl (by kernel_rfl) ?_))
  try clear R33
  with_reducible refine (rodd_any _ _ _ _ _).mono ?_
  rintro e w7 ⟨rfl, b7⟩
  replace ho := blk_u ho b7
  replace hz := blk_u hz b7
  replace hp := blk_u hp b7
  replace hB := hB.below b7
  replace po := po.below b7
  replace pb := pb.below b7
  replace bel := bel.trans (b7.mono bel.size)
  clear b7
  rw [H2.out]
  have R38 := cell_lit hp 5 _ rfl
  have R42 := cell_lit hp 15 _ rfl
  go_wp2_with (first | ((with_reducible show wpList _ _ _ (⟨none, Op.store _ (.tmp 8) _, _, _, _, _⟩ :: _) _ _); refine wpList_store_blk rfl 45 (.tmp 8) (.tmp 60) rfl g8 rfl _ rfl _ 45 hz (by rfl) (by kernel_rfl) (by kernel_rfl) ?_; intro w8 hq gr; replace hB := hB.away av_hB_z gr; clear po; clear pb; replace ho := blk_a ho gr d_o_z; replace hp := blk_a hp gr (ne_symm d_z_p); replace bel := below_grown bel gr oz bel.size; clear hz; have hz := hq; clear hq gr))
  try clear R38
  try clear R42
  exact bodyPost_ret (results_cell_tmp_row rfl _ _ _ _ _ _ _ rfl hz Try.underlying45 rfl (by kernel_rfl) (.int .i64 11) rfl) rfl (by rw [HP.out]; exact PkPost.none bel)
set_option linter.unusedVariables false in
set_option maxRecDepth 100000 in
set_option maxHeartbeats 16000000 in
theorem ricabout_6 (o0 o1 o2 o3 : UInt8) (B : Option Addr) (nB cB : Nat) (l : List UInt8) (ty cd : Int) (f0 f1 f2 f3 f4 f5 : Int) (a0 a1 a2 a3 a4 a5 a6 a7 : UInt8) (lo lb : List UInt8) (no nb : Nat) (w : World) (hB : Sl w B nB cB l) (hm : nB ≤ 100000) (hg : ipGet l = (([f0, f1, f2, f3, f4, f5], [a0, a1, a2, a3, a4, a5, a6, a7]), (lo, lb), 0)) (hy : icMay f3 f5 a0 a1 a2 a3 a4 a5 a6 a7 lb = false) (c0 : ¬ 0 < f3) (c1 : hostOk a0 a1 a2 a3 = true) (c2 : hostOk a4 a5 a6 a7 = true) (c3 : f5 = 1) (c4 : 8 ≤ nb) (x : UInt8) (hx : lb[0]? = some x) (c5 : x.toNat ≠ 0) (c6 : x.toNat ≠ 8) (h1 : lo.length = no) (h2 : lb.length = nb) : Calls Try.prog 27 #[.agg #[.int .u8 (o0.toNat : Int), .int .u8 (o1.toNat : Int), .int .u8 (o2.toNat : Int), .int .u8 (o3.toNat : Int)], .slice B nB cB, .int .i64 ty, .int .i64 cd] w (PkPost (icAbout o0 o1 o2 o3 l ty cd) w) := by
  obtain ⟨ii, hii, hz0, hz1, hz2⟩ := info_parts Try.info5
  have HG := Lib.hid hg
  have HM := Lib.hid hm
  have HL1 := Lib.hid h1
  have HL2 := Lib.hid h2
  have HP : Hid (icAbout o0 o1 o2 o3 l ty cd = pkNone 11) := Lib.hid (by rw [icAbout_eq _ _ _ _ _ _ hg]; unfold icAb; rw [if_neg (by decide), if_pos hy])
  have t0 : decide ((0 : Int) < f3) = false := decide_eq_false c0
  have H1 := Lib.hid c1
  have H2 := Lib.hid c2
  have t3 : (f5 == 1) = true := by simpa using c3
  have H8 : Hid (0 < nb) := Lib.hid (by omega)
  have t4 : decide ((nb : Int) < 8) = false := decide_eq_false (by omega)
  have m0 : 0 < nb := by omega
  have x0 : ((x.toNat : Int) == 0) = false := by simp; omega
  have y0 : ((x.toNat : Int) != 0) = true := by simp; omega
  have x1 : ((x.toNat : Int) == 8) = false := by simp; omega
  have y1 : ((x.toNat : Int) != 8) = true := by simp; omega
  have HX := Lib.hid hx
  clear hg hm h1 h2 hy c0 c1 c2 c3 c4 hx c5 c6
  have bel := Below.refl w.heap.size w
  go_enter Try.func27, Try.ntmps27
  go_wp2_with (first | ((with_reducible show wpList _ _ _ (⟨some 4, _, _, _, _, _⟩ :: _) _ _); refine wpList_box_n rfl 24 (.tmp 0) rfl #[.int .u8 (o0.toNat : Int), .int .u8 (o1.toNat : Int), .int .u8 (o2.toNat : Int), .int .u8 (o3.toNat : Int)] rfl ?_; intro g4 w1 ge lt hh bb; have av_hB_o := hB.av_new ge; have oo := Nat.le_trans bel.size ge; replace hB := hB.below bb; replace bel := bel.trans (bb.mono bel.size); have ho := hh; clear hh lt ge bb) | ((with_reducible show wpList _ _ _ (⟨some 8, _, _, _, _, _⟩ :: _) _ _); refine wpList_new_a rfl 45 rfl #[.int .i64 0, .int .i64 0, .int .i64 0, .int .i64 0, .int .i64 0, .int .i64 0, .int .u8 0, .int .u8 0, .int .u8 0, .int .u8 0, .int .u8 0, .int .u8 0, .int .u8 0, .int .u8 0, .slice none 0 0, .slice none 0 0] (by kernel_rfl) ?_; intro g8 w2 ge hh bb; have d_o_z := ne_new (hlt ho) ge; have av_hB_z := hB.av_new ge; have oz := Nat.le_trans bel.size ge; replace ho := blk_u ho bb; replace hB := hB.below bb; replace bel := bel.trans (bb.mono bel.size); have hz := hh; clear hh ge bb))
  with_reducible refine (rget6_n _ _ _ l f0 f1 f2 f3 f4 f5 a0 a1 a2 a3 a4 a5 a6 a7 lo lb no nb 0 _ hB HM.out HG.out HL1.out HL2.out).mono ?_
  rintro e w3 ⟨Ao, co, Ab, cb, rfl, po, pb, b3⟩
  replace ho := blk_u ho b3
  replace hz := blk_u hz b3
  replace hB := hB.below b3
  replace bel := bel.trans (b3.mono bel.size)
  clear b3
  replace po : Sl w3 (Ao) (no) (co) (lo) := po
  replace pb : Sl w3 (Ab) (nb) (cb) (lb) := pb
  obtain ⟨gB, oB, hAb⟩ := sl_some pb H8.out
  subst hAb
  go_wp2_with (first | ((with_reducible show wpList _ _ _ (⟨some 10, _, _, _, _, _⟩ :: _) _ _); refine wpList_new_a rfl 45 rfl #[.int .i64 0, .int .i64 0, .int .i64 0, .int .i64 0, .int .i64 0, .int .i64 0, .int .u8 0, .int .u8 0, .int .u8 0, .int .u8 0, .int .u8 0, .int .u8 0, .int .u8 0, .int .u8 0, .slice none 0 0, .slice none 0 0] (by kernel_rfl) ?_; intro g10 w4 ge hh bb; have d_o_p := ne_new (hlt ho) ge; have d_z_p := ne_new (hlt hz) ge; have av_hB_p := hB.av_new ge; have av_po_p := po.av_new ge; have av_pb_p := pb.av_new ge; have op := Nat.le_trans bel.size ge; replace ho := blk_u ho bb; replace hz := blk_u hz bb; replace hB := hB.below bb; replace po := po.below bb; replace pb := pb.below bb; replace bel := bel.trans (bb.mono bel.size); have hp := hh; clear hh ge bb) | ((with_reducible show wpList _ _ _ (⟨none, Op.store _ (.tmp 10) _, _, _, _, _⟩ :: _) _ _); refine wpList_store_blk rfl 45 (.tmp 10) (.tmp 17) rfl g10 rfl _ rfl _ 45 hp (by rfl) (by kernel_rfl) (by kernel_rfl) ?_; intro w5 hq gr; replace hB := hB.away av_hB_p gr; replace po := po.away av_po_p gr; replace pb := pb.away av_pb_p gr; replace ho := blk_a ho gr d_o_p; replace hz := blk_a hz gr d_z_p; replace bel := below_grown bel gr op bel.size; clear hp; have hp := hq; clear hq gr; have R24 := cell_lit hp 3 _ rfl; have R28 := Lib.hid (range_lit hp 6 4 [.int .u8 (a0.toNat : Int), .int .u8 (a1.toNat : Int), .int .u8 (a2.toNat : Int), .int .u8 (a3.toNat : Int)] rfl)) | ((with_reducible show wpList _ _ _ (⟨some 28, _, _, _, _, _⟩ :: _) _ _); refine wpList_load_rng 24 (.tmp 27) rfl (by kernel_rfl) _ _ rfl _ R28.out _ Try.underlying24 rfl (by kernel_rfl) ?_))
  try clear R24
  try clear R28
  with_reducible refine (rodd_any _ _ _ _ _).mono ?_
  rintro e w6 ⟨rfl, b6⟩
  replace ho := blk_u ho b6
  replace hz := blk_u hz b6
  replace hp := blk_u hp b6
  replace hB := hB.below b6
  replace po := po.below b6
  replace pb := pb.below b6
  replace bel := bel.trans (b6.mono bel.size)
  clear b6
  rw [H1.out]
  have R33 := Lib.hid (range_lit hp 10 4 [.int .u8 (a4.toNat : Int), .int .u8 (a5.toNat : Int), .int .u8 (a6.toNat : Int), .int .u8 (a7.toNat : Int)] rfl)
  go_wp2_with (first | ((with_reducible show wpList _ _ _ (⟨some 33, _, _, _, _, _⟩ :: _) _ _); refine wpList_load_rng 24 (.tmp 32) rfl (by kernel_rfl) _ _ rfl _ R33.out _ Try.underlying24 rfl (by kernel_rfl) ?_))
  try clear R33
  with_reducible refine (rodd_any _ _ _ _ _).mono ?_
  rintro e w7 ⟨rfl, b7⟩
  replace ho := blk_u ho b7
  replace hz := blk_u hz b7
  replace hp := blk_u hp b7
  replace hB := hB.below b7
  replace po := po.below b7
  replace pb := pb.below b7
  replace bel := bel.trans (b7.mono bel.size)
  clear b7
  rw [H2.out]
  have R38 := cell_lit hp 5 _ rfl
  have R42 := cell_lit hp 15 _ rfl
  have R47 := cell_lit hp 15 _ rfl
  have R49 := (by have h_ := sl_at pb (j := 0) HX.out; rw [Nat.add_zero] at h_; exact h_)
  have R53 := cell_lit hp 15 _ rfl
  have R55 := (by have h_ := sl_at pb (j := 0) HX.out; rw [Nat.add_zero] at h_; exact h_)
  go_wp2_with (first | ((with_reducible show wpList _ _ _ (⟨none, Op.store _ (.tmp 8) _, _, _, _, _⟩ :: _) _ _); refine wpList_store_blk rfl 45 (.tmp 8) (.tmp 60) rfl g8 rfl _ rfl _ 45 hz (by rfl) (by kernel_rfl) (by kernel_rfl) ?_; intro w8 hq gr; replace hB := hB.away av_hB_z gr; clear po; clear pb; replace ho := blk_a ho gr d_o_z; replace hp := blk_a hp gr (ne_symm d_z_p); replace bel := below_grown bel gr oz bel.size; clear hz; have hz := hq; clear hq gr))
  try clear R38
  try clear R42
  try clear R47
  try clear R49
  try clear R53
  try clear R55
  exact bodyPost_ret (results_cell_tmp_row rfl _ _ _ _ _ _ _ rfl hz Try.underlying45 rfl (by kernel_rfl) (.int .i64 11) rfl) rfl (by rw [HP.out]; exact PkPost.none bel)
set_option linter.unusedVariables false in
set_option maxRecDepth 100000 in
set_option maxHeartbeats 16000000 in
theorem ricabout_ta (o0 o1 o2 o3 : UInt8) (B : Option Addr) (nB cB : Nat) (l : List UInt8) (ty cd : Int) (f0 f1 f2 f3 f4 f5 : Int) (a0 a1 a2 a3 a4 a5 a6 a7 : UInt8) (lo lb : List UInt8) (no nb : Nat) (w : World) (hB : Sl w B nB cB l) (hm : nB ≤ 100000) (hg : ipGet l = (([f0, f1, f2, f3, f4, f5], [a0, a1, a2, a3, a4, a5, a6, a7]), (lo, lb), 0)) (hy : icMay f3 f5 a0 a1 a2 a3 a4 a5 a6 a7 lb = true) (c0 : ¬ 0 < f3) (c1 : hostOk a0 a1 a2 a3 = true) (c2 : hostOk a4 a5 a6 a7 = true) (c3 : f5 ≠ 1) (d1 : byteOk ty = false) (h1 : lo.length = no) (h2 : lb.length = nb) : Calls Try.prog 27 #[.agg #[.int .u8 (o0.toNat : Int), .int .u8 (o1.toNat : Int), .int .u8 (o2.toNat : Int), .int .u8 (o3.toNat : Int)], .slice B nB cB, .int .i64 ty, .int .i64 cd] w (PkPost (icAbout o0 o1 o2 o3 l ty cd) w) := by
  obtain ⟨ii, hii, hz0, hz1, hz2⟩ := info_parts Try.info5
  have HG := Lib.hid hg
  have HM := Lib.hid hm
  have HL1 := Lib.hid h1
  have HL2 := Lib.hid h2
  have HP : Hid (icAbout o0 o1 o2 o3 l ty cd = pkNone 1) := Lib.hid (by rw [icAbout_eq _ _ _ _ _ _ hg]; unfold icAb; rw [if_neg (by decide), if_neg (by rw [hy]; decide)]; exact if_pos (by rw [d1]; rfl))
  have t0 : decide ((0 : Int) < f3) = false := decide_eq_false c0
  have H1 := Lib.hid c1
  have H2 := Lib.hid c2
  have t3 : (f5 == 1) = false := by simpa using c3
  have D1 := Lib.hid d1
  clear hg hm h1 h2 hy d1 c0 c1 c2 c3
  have bel := Below.refl w.heap.size w
  go_enter Try.func27, Try.ntmps27
  go_wp2_with (first | ((with_reducible show wpList _ _ _ (⟨some 4, _, _, _, _, _⟩ :: _) _ _); refine wpList_box_n rfl 24 (.tmp 0) rfl #[.int .u8 (o0.toNat : Int), .int .u8 (o1.toNat : Int), .int .u8 (o2.toNat : Int), .int .u8 (o3.toNat : Int)] rfl ?_; intro g4 w1 ge lt hh bb; have av_hB_o := hB.av_new ge; have oo := Nat.le_trans bel.size ge; replace hB := hB.below bb; replace bel := bel.trans (bb.mono bel.size); have ho := hh; clear hh lt ge bb) | ((with_reducible show wpList _ _ _ (⟨some 8, _, _, _, _, _⟩ :: _) _ _); refine wpList_new_a rfl 45 rfl #[.int .i64 0, .int .i64 0, .int .i64 0, .int .i64 0, .int .i64 0, .int .i64 0, .int .u8 0, .int .u8 0, .int .u8 0, .int .u8 0, .int .u8 0, .int .u8 0, .int .u8 0, .int .u8 0, .slice none 0 0, .slice none 0 0] (by kernel_rfl) ?_; intro g8 w2 ge hh bb; have d_o_z := ne_new (hlt ho) ge; have av_hB_z := hB.av_new ge; have oz := Nat.le_trans bel.size ge; replace ho := blk_u ho bb; replace hB := hB.below bb; replace bel := bel.trans (bb.mono bel.size); have hz := hh; clear hh ge bb))
  with_reducible refine (rget6_n _ _ _ l f0 f1 f2 f3 f4 f5 a0 a1 a2 a3 a4 a5 a6 a7 lo lb no nb 0 _ hB HM.out HG.out HL1.out HL2.out).mono ?_
  rintro e w3 ⟨Ao, co, Ab, cb, rfl, po, pb, b3⟩
  replace ho := blk_u ho b3
  replace hz := blk_u hz b3
  replace hB := hB.below b3
  replace bel := bel.trans (b3.mono bel.size)
  clear b3
  replace po : Sl w3 (Ao) (no) (co) (lo) := po
  replace pb : Sl w3 (Ab) (nb) (cb) (lb) := pb
  go_wp2_with (first | ((with_reducible show wpList _ _ _ (⟨some 10, _, _, _, _, _⟩ :: _) _ _); refine wpList_new_a rfl 45 rfl #[.int .i64 0, .int .i64 0, .int .i64 0, .int .i64 0, .int .i64 0, .int .i64 0, .int .u8 0, .int .u8 0, .int .u8 0, .int .u8 0, .int .u8 0, .int .u8 0, .int .u8 0, .int .u8 0, .slice none 0 0, .slice none 0 0] (by kernel_rfl) ?_; intro g10 w4 ge hh bb; have d_o_p := ne_new (hlt ho) ge; have d_z_p := ne_new (hlt hz) ge; have av_hB_p := hB.av_new ge; have av_po_p := po.av_new ge; have av_pb_p := pb.av_new ge; have op := Nat.le_trans bel.size ge; replace ho := blk_u ho bb; replace hz := blk_u hz bb; replace hB := hB.below bb; replace po := po.below bb; replace pb := pb.below bb; replace bel := bel.trans (bb.mono bel.size); have hp := hh; clear hh ge bb) | ((with_reducible show wpList _ _ _ (⟨none, Op.store _ (.tmp 10) _, _, _, _, _⟩ :: _) _ _); refine wpList_store_blk rfl 45 (.tmp 10) (.tmp 17) rfl g10 rfl _ rfl _ 45 hp (by rfl) (by kernel_rfl) (by kernel_rfl) ?_; intro w5 hq gr; replace hB := hB.away av_hB_p gr; replace po := po.away av_po_p gr; replace pb := pb.away av_pb_p gr; replace ho := blk_a ho gr d_o_p; replace hz := blk_a hz gr d_z_p; replace bel := below_grown bel gr op bel.size; clear hp; have hp := hq; clear hq gr; have R24 := cell_lit hp 3 _ rfl; have R28 := Lib.hid (range_lit hp 6 4 [.int .u8 (a0.toNat : Int), .int .u8 (a1.toNat : Int), .int .u8 (a2.toNat : Int), .int .u8 (a3.toNat : Int)] rfl)) | ((with_reducible show wpList _ _ _ (⟨some 28, _, _, _, _, _⟩ :: _) _ _); refine wpList_load_rng 24 (.tmp 27) rfl (by kernel_rfl) _ _ rfl _ R28.out _ Try.underlying24 rfl (by kernel_rfl) ?_))
  try clear R24
  try clear R28
  with_reducible refine (rodd_any _ _ _ _ _).mono ?_
  rintro e w6 ⟨rfl, b6⟩
  replace ho := blk_u ho b6
  replace hz := blk_u hz b6
  replace hp := blk_u hp b6
  replace hB := hB.below b6
  replace po := po.below b6
  replace pb := pb.below b6
  replace bel := bel.trans (b6.mono bel.size)
  clear b6
  rw [H1.out]
  have R33 := Lib.hid (range_lit hp 10 4 [.int .u8 (a4.toNat : Int), .int .u8 (a5.toNat : Int), .int .u8 (a6.toNat : Int), .int .u8 (a7.toNat : Int)] rfl)
  go_wp2_with (first | ((with_reducible show wpList _ _ _ (⟨some 33, _, _, _, _, _⟩ :: _) _ _); refine wpList_load_rng 24 (.tmp 32) rfl (by kernel_rfl) _ _ rfl _ R33.out _ Try.underlying24 rfl (by kernel_rfl) ?_))
  try clear R33
  with_reducible refine (rodd_any _ _ _ _ _).mono ?_
  rintro e w7 ⟨rfl, b7⟩
  replace ho := blk_u ho b7
  replace hz := blk_u hz b7
  replace hp := blk_u hp b7
  replace hB := hB.below b7
  replace po := po.below b7
  replace pb := pb.below b7
  replace bel := bel.trans (b7.mono bel.size)
  clear b7
  rw [H2.out]
  have R38 := cell_lit hp 5 _ rfl
  go_wp2_with fail
  clear R38
  with_reducible refine (rbyte_any _ _).mono ?_
  rintro e _ ⟨rfl, rfl⟩
  rw [D1.out]
  go_wp2_with (first | ((with_reducible show wpList _ _ _ (⟨none, Op.store _ (.tmp 8) _, _, _, _, _⟩ :: _) _ _); refine wpList_store_blk rfl 45 (.tmp 8) (.tmp 69) rfl g8 rfl _ rfl _ 45 hz (by rfl) (by kernel_rfl) (by kernel_rfl) ?_; intro w8 hq gr; replace hB := hB.away av_hB_z gr; clear po; clear pb; replace ho := blk_a ho gr d_o_z; replace hp := blk_a hp gr (ne_symm d_z_p); replace bel := below_grown bel gr oz bel.size; clear hz; have hz := hq; clear hq gr))
  exact bodyPost_ret (results_cell_tmp_row rfl _ _ _ _ _ _ _ rfl hz Try.underlying45 rfl (by kernel_rfl) (.int .i64 1) rfl) rfl (by rw [HP.out]; exact PkPost.none bel)
set_option linter.unusedVariables false in
set_option maxRecDepth 100000 in
set_option maxHeartbeats 16000000 in
theorem ricabout_ua (o0 o1 o2 o3 : UInt8) (B : Option Addr) (nB cB : Nat) (l : List UInt8) (ty cd : Int) (f0 f1 f2 f3 f4 f5 : Int) (a0 a1 a2 a3 a4 a5 a6 a7 : UInt8) (lo lb : List UInt8) (no nb : Nat) (w : World) (hB : Sl w B nB cB l) (hm : nB ≤ 100000) (hg : ipGet l = (([f0, f1, f2, f3, f4, f5], [a0, a1, a2, a3, a4, a5, a6, a7]), (lo, lb), 0)) (hy : icMay f3 f5 a0 a1 a2 a3 a4 a5 a6 a7 lb = true) (c0 : ¬ 0 < f3) (c1 : hostOk a0 a1 a2 a3 = true) (c2 : hostOk a4 a5 a6 a7 = true) (c3 : f5 ≠ 1) (d1 : byteOk ty = true) (d2 : byteOk cd = false) (h1 : lo.length = no) (h2 : lb.length = nb) : Calls Try.prog 27 #[.agg #[.int .u8 (o0.toNat : Int), .int .u8 (o1.toNat : Int), .int .u8 (o2.toNat : Int), .int .u8 (o3.toNat : Int)], .slice B nB cB, .int .i64 ty, .int .i64 cd] w (PkPost (icAbout o0 o1 o2 o3 l ty cd) w) := by
  obtain ⟨ii, hii, hz0, hz1, hz2⟩ := info_parts Try.info5
  have HG := Lib.hid hg
  have HM := Lib.hid hm
  have HL1 := Lib.hid h1
  have HL2 := Lib.hid h2
  have HP : Hid (icAbout o0 o1 o2 o3 l ty cd = pkNone 1) := Lib.hid (by rw [icAbout_eq _ _ _ _ _ _ hg]; unfold icAb; rw [if_neg (by decide), if_neg (by rw [hy]; decide)]; exact if_pos (by rw [d1, d2]; rfl))
  have t0 : decide ((0 : Int) < f3) = false := decide_eq_false c0
  have H1 := Lib.hid c1
  have H2 := Lib.hid c2
  have t3 : (f5 == 1) = false := by simpa using c3
  have D1 := Lib.hid d1
  have D2 := Lib.hid d2
  clear hg hm h1 h2 hy d1 d2 c0 c1 c2 c3
  have bel := Below.refl w.heap.size w
  go_enter Try.func27, Try.ntmps27
  go_wp2_with (first | ((with_reducible show wpList _ _ _ (⟨some 4, _, _, _, _, _⟩ :: _) _ _); refine wpList_box_n rfl 24 (.tmp 0) rfl #[.int .u8 (o0.toNat : Int), .int .u8 (o1.toNat : Int), .int .u8 (o2.toNat : Int), .int .u8 (o3.toNat : Int)] rfl ?_; intro g4 w1 ge lt hh bb; have av_hB_o := hB.av_new ge; have oo := Nat.le_trans bel.size ge; replace hB := hB.below bb; replace bel := bel.trans (bb.mono bel.size); have ho := hh; clear hh lt ge bb) | ((with_reducible show wpList _ _ _ (⟨some 8, _, _, _, _, _⟩ :: _) _ _); refine wpList_new_a rfl 45 rfl #[.int .i64 0, .int .i64 0, .int .i64 0, .int .i64 0, .int .i64 0, .int .i64 0, .int .u8 0, .int .u8 0, .int .u8 0, .int .u8 0, .int .u8 0, .int .u8 0, .int .u8 0, .int .u8 0, .slice none 0 0, .slice none 0 0] (by kernel_rfl) ?_; intro g8 w2 ge hh bb; have d_o_z := ne_new (hlt ho) ge; have av_hB_z := hB.av_new ge; have oz := Nat.le_trans bel.size ge; replace ho := blk_u ho bb; replace hB := hB.below bb; replace bel := bel.trans (bb.mono bel.size); have hz := hh; clear hh ge bb))
  with_reducible refine (rget6_n _ _ _ l f0 f1 f2 f3 f4 f5 a0 a1 a2 a3 a4 a5 a6 a7 lo lb no nb 0 _ hB HM.out HG.out HL1.out HL2.out).mono ?_
  rintro e w3 ⟨Ao, co, Ab, cb, rfl, po, pb, b3⟩
  replace ho := blk_u ho b3
  replace hz := blk_u hz b3
  replace hB := hB.below b3
  replace bel := bel.trans (b3.mono bel.size)
  clear b3
  replace po : Sl w3 (Ao) (no) (co) (lo) := po
  replace pb : Sl w3 (Ab) (nb) (cb) (lb) := pb
  go_wp2_with (first | ((with_reducible show wpList _ _ _ (⟨some 10, _, _, _, _, _⟩ :: _) _ _); refine wpList_new_a rfl 45 rfl #[.int .i64 0, .int .i64 0, .int .i64 0, .int .i64 0, .int .i64 0, .int .i64 0, .int .u8 0, .int .u8 0, .int .u8 0, .int .u8 0, .int .u8 0, .int .u8 0, .int .u8 0, .int .u8 0, .slice none 0 0, .slice none 0 0] (by kernel_rfl) ?_; intro g10 w4 ge hh bb; have d_o_p := ne_new (hlt ho) ge; have d_z_p := ne_new (hlt hz) ge; have av_hB_p := hB.av_new ge; have av_po_p := po.av_new ge; have av_pb_p := pb.av_new ge; have op := Nat.le_trans bel.size ge; replace ho := blk_u ho bb; replace hz := blk_u hz bb; replace hB := hB.below bb; replace po := po.below bb; replace pb := pb.below bb; replace bel := bel.trans (bb.mono bel.size); have hp := hh; clear hh ge bb) | ((with_reducible show wpList _ _ _ (⟨none, Op.store _ (.tmp 10) _, _, _, _, _⟩ :: _) _ _); refine wpList_store_blk rfl 45 (.tmp 10) (.tmp 17) rfl g10 rfl _ rfl _ 45 hp (by rfl) (by kernel_rfl) (by kernel_rfl) ?_; intro w5 hq gr; replace hB := hB.away av_hB_p gr; replace po := po.away av_po_p gr; replace pb := pb.away av_pb_p gr; replace ho := blk_a ho gr d_o_p; replace hz := blk_a hz gr d_z_p; replace bel := below_grown bel gr op bel.size; clear hp; have hp := hq; clear hq gr; have R24 := cell_lit hp 3 _ rfl; have R28 := Lib.hid (range_lit hp 6 4 [.int .u8 (a0.toNat : Int), .int .u8 (a1.toNat : Int), .int .u8 (a2.toNat : Int), .int .u8 (a3.toNat : Int)] rfl)) | ((with_reducible show wpList _ _ _ (⟨some 28, _, _, _, _, _⟩ :: _) _ _); refine wpList_load_rng 24 (.tmp 27) rfl (by kernel_rfl) _ _ rfl _ R28.out _ Try.underlying24 rfl (by kernel_rfl) ?_))
  try clear R24
  try clear R28
  with_reducible refine (rodd_any _ _ _ _ _).mono ?_
  rintro e w6 ⟨rfl, b6⟩
  replace ho := blk_u ho b6
  replace hz := blk_u hz b6
  replace hp := blk_u hp b6
  replace hB := hB.below b6
  replace po := po.below b6
  replace pb := pb.below b6
  replace bel := bel.trans (b6.mono bel.size)
  clear b6
  rw [H1.out]
  have R33 := Lib.hid (range_lit hp 10 4 [.int .u8 (a4.toNat : Int), .int .u8 (a5.toNat : Int), .int .u8 (a6.toNat : Int), .int .u8 (a7.toNat : Int)] rfl)
  go_wp2_with (first | ((with_reducible show wpList _ _ _ (⟨some 33, _, _, _, _, _⟩ :: _) _ _); refine wpList_load_rng 24 (.tmp 32) rfl (by kernel_rfl) _ _ rfl _ R33.out _ Try.underlying24 rfl (by kernel_rfl) ?_))
  try clear R33
  with_reducible refine (rodd_any _ _ _ _ _).mono ?_
  rintro e w7 ⟨rfl, b7⟩
  replace ho := blk_u ho b7
  replace hz := blk_u hz b7
  replace hp := blk_u hp b7
  replace hB := hB.below b7
  replace po := po.below b7
  replace pb := pb.below b7
  replace bel := bel.trans (b7.mono bel.size)
  clear b7
  rw [H2.out]
  have R38 := cell_lit hp 5 _ rfl
  go_wp2_with fail
  clear R38
  with_reducible refine (rbyte_any _ _).mono ?_
  rintro e _ ⟨rfl, rfl⟩
  rw [D1.out]
  go_wp2_with fail
  with_reducible refine (rbyte_any _ _).mono ?_
  rintro e _ ⟨rfl, rfl⟩
  rw [D2.out]
  go_wp2_with (first | ((with_reducible show wpList _ _ _ (⟨none, Op.store _ (.tmp 8) _, _, _, _, _⟩ :: _) _ _); refine wpList_store_blk rfl 45 (.tmp 8) (.tmp 69) rfl g8 rfl _ rfl _ 45 hz (by rfl) (by kernel_rfl) (by kernel_rfl) ?_; intro w8 hq gr; replace hB := hB.away av_hB_z gr; clear po; clear pb; replace ho := blk_a ho gr d_o_z; replace hp := blk_a hp gr (ne_symm d_z_p); replace bel := below_grown bel gr oz bel.size; clear hz; have hz := hq; clear hq gr))
  exact bodyPost_ret (results_cell_tmp_row rfl _ _ _ _ _ _ _ rfl hz Try.underlying45 rfl (by kernel_rfl) (.int .i64 1) rfl) rfl (by rw [HP.out]; exact PkPost.none bel)
set_option linter.unusedVariables false in
set_option maxRecDepth 100000 in
set_option maxHeartbeats 16000000 in
theorem ricabout_va (o0 o1 o2 o3 : UInt8) (B : Option Addr) (nB cB : Nat) (l : List UInt8) (ty cd : Int) (f0 f1 f2 f3 f4 f5 : Int) (a0 a1 a2 a3 a4 a5 a6 a7 : UInt8) (lo lb : List UInt8) (no nb : Nat) (w : World) (hB : Sl w B nB cB l) (hm : nB ≤ 100000) (hg : ipGet l = (([f0, f1, f2, f3, f4, f5], [a0, a1, a2, a3, a4, a5, a6, a7]), (lo, lb), 0)) (hy : icMay f3 f5 a0 a1 a2 a3 a4 a5 a6 a7 lb = true) (c0 : ¬ 0 < f3) (c1 : hostOk a0 a1 a2 a3 = true) (c2 : hostOk a4 a5 a6 a7 = true) (c3 : f5 ≠ 1) (d1 : byteOk ty = true) (d2 : byteOk cd = true) (hn : nb ≤ 8) (h1 : lo.length = no) (h2 : lb.length = nb) : Calls Try.prog 27 #[.agg #[.int .u8 (o0.toNat : Int), .int .u8 (o1.toNat : Int), .int .u8 (o2.toNat : Int), .int .u8 (o3.toNat : Int)], .slice B nB cB, .int .i64 ty, .int .i64 cd] w (PkPost (icAbout o0 o1 o2 o3 l ty cd) w) := by
  obtain ⟨ii, hii, hz0, hz1, hz2⟩ := info_parts Try.info5
  have HG := Lib.hid hg
  have HM := Lib.hid hm
  have HL1 := Lib.hid h1
  have HL2 := Lib.hid h2
  have t0 : decide ((0 : Int) < f3) = false := decide_eq_false c0
  have H1 := Lib.hid c1
  have H2 := Lib.hid c2
  have t3 : (f5 == 1) = false := by simpa using c3
  have D1 := Lib.hid d1
  have D2 := Lib.hid d2
  have hlen := ipget_len hg
  obtain ⟨k, hk⟩ : ∃ k, k = 20 + no + nb := ⟨_, rfl⟩
  have HP : Hid (icAbout o0 o1 o2 o3 l ty cd = icPut 0 0 0 0 64 o0 o1 o2 o3 a0 a1 a2 a3 [] ty cd 0 (l.take k)) := Lib.hid (by rw [icAbout_eq _ _ _ _ _ _ hg]; unfold icAb; rw [if_neg (by decide), if_neg (by rw [hy]; decide), h1, h2, hk, show min nb 8 = nb by omega])
  have HK : Hid (k ≤ nB) := Lib.hid (by have := hB.1; omega)
  have HN := Lib.hid hm
  have t7 : decide ((8 : Int) < nb) = false := decide_eq_false (by omega)
  have b0 : (0 : Int) ≤ no := by omega
  have b1 : (no : Int) ≤ 100000 := by have := hB.1; omega
  have b2 : (0 : Int) ≤ nb := by omega
  have b3 : (nb : Int) ≤ 8 := by omega
  have ek : 20 + (no : Int) + (nb : Int) = (k : Int) := by omega
  have ew : IntKind.i64.wrap (k : Int) = (k : Int) := IntWalk.i64_in _ (by have := hB.1; omega)
  clear hg hm h1 h2 hy hk hlen hn d1 d2 c0 c1 c2 c3
  have bel := Below.refl w.heap.size w
  go_enter Try.func27, Try.ntmps27
  go_wp2_with (first | ((with_reducible show wpList _ _ _ (⟨some 4, _, _, _, _, _⟩ :: _) _ _); refine wpList_box_n rfl 24 (.tmp 0) rfl #[.int .u8 (o0.toNat : Int), .int .u8 (o1.toNat : Int), .int .u8 (o2.toNat : Int), .int .u8 (o3.toNat : Int)] rfl ?_; intro g4 w1 ge lt hh bb; have av_hB_o := hB.av_new ge; have oo := Nat.le_trans bel.size ge; replace hB := hB.below bb; replace bel := bel.trans (bb.mono bel.size); have ho := hh; clear hh lt ge bb) | ((with_reducible show wpList _ _ _ (⟨some 8, _, _, _, _, _⟩ :: _) _ _); refine wpList_new_a rfl 45 rfl #[.int .i64 0, .int .i64 0, .int .i64 0, .int .i64 0, .int .i64 0, .int .i64 0, .int .u8 0, .int .u8 0, .int .u8 0, .int .u8 0, .int .u8 0, .int .u8 0, .int .u8 0, .int .u8 0, .slice none 0 0, .slice none 0 0] (by kernel_rfl) ?_; intro g8 w2 ge hh bb; have d_o_z := ne_new (hlt ho) ge; have av_hB_z := hB.av_new ge; have oz := Nat.le_trans bel.size ge; replace ho := blk_u ho bb; replace hB := hB.below bb; replace bel := bel.trans (bb.mono bel.size); have hz := hh; clear hh ge bb))
  with_reducible refine (rget6_n _ _ _ l f0 f1 f2 f3 f4 f5 a0 a1 a2 a3 a4 a5 a6 a7 lo lb no nb 0 _ hB HM.out HG.out HL1.out HL2.out).mono ?_
  rintro e w3 ⟨Ao, co, Ab, cb, rfl, po, pb, b3⟩
  replace ho := blk_u ho b3
  replace hz := blk_u hz b3
  replace hB := hB.below b3
  replace bel := bel.trans (b3.mono bel.size)
  clear b3
  replace po : Sl w3 (Ao) (no) (co) (lo) := po
  replace pb : Sl w3 (Ab) (nb) (cb) (lb) := pb
  go_wp2_with (first | ((with_reducible show wpList _ _ _ (⟨some 10, _, _, _, _, _⟩ :: _) _ _); refine wpList_new_a rfl 45 rfl #[.int .i64 0, .int .i64 0, .int .i64 0, .int .i64 0, .int .i64 0, .int .i64 0, .int .u8 0, .int .u8 0, .int .u8 0, .int .u8 0, .int .u8 0, .int .u8 0, .int .u8 0, .int .u8 0, .slice none 0 0, .slice none 0 0] (by kernel_rfl) ?_; intro g10 w4 ge hh bb; have d_o_p := ne_new (hlt ho) ge; have d_z_p := ne_new (hlt hz) ge; have av_hB_p := hB.av_new ge; have av_po_p := po.av_new ge; have av_pb_p := pb.av_new ge; have op := Nat.le_trans bel.size ge; replace ho := blk_u ho bb; replace hz := blk_u hz bb; replace hB := hB.below bb; replace po := po.below bb; replace pb := pb.below bb; replace bel := bel.trans (bb.mono bel.size); have hp := hh; clear hh ge bb) | ((with_reducible show wpList _ _ _ (⟨none, Op.store _ (.tmp 10) _, _, _, _, _⟩ :: _) _ _); refine wpList_store_blk rfl 45 (.tmp 10) (.tmp 17) rfl g10 rfl _ rfl _ 45 hp (by rfl) (by kernel_rfl) (by kernel_rfl) ?_; intro w5 hq gr; replace hB := hB.away av_hB_p gr; replace po := po.away av_po_p gr; replace pb := pb.away av_pb_p gr; replace ho := blk_a ho gr d_o_p; replace hz := blk_a hz gr d_z_p; replace bel := below_grown bel gr op bel.size; clear hp; have hp := hq; clear hq gr; have R24 := cell_lit hp 3 _ rfl; have R28 := Lib.hid (range_lit hp 6 4 [.int .u8 (a0.toNat : Int), .int .u8 (a1.toNat : Int), .int .u8 (a2.toNat : Int), .int .u8 (a3.toNat : Int)] rfl)) | ((with_reducible show wpList _ _ _ (⟨some 28, _, _, _, _, _⟩ :: _) _ _); refine wpList_load_rng 24 (.tmp 27) rfl (by kernel_rfl) _ _ rfl _ R28.out _ Try.underlying24 rfl (by kernel_rfl) ?_))
  try clear R24
  try clear R28
  with_reducible refine (rodd_any _ _ _ _ _).mono ?_
  rintro e w6 ⟨rfl, b6⟩
  replace ho := blk_u ho b6
  replace hz := blk_u hz b6
  replace hp := blk_u hp b6
  replace hB := hB.below b6
  replace po := po.below b6
  replace pb := pb.below b6
  replace bel := bel.trans (b6.mono bel.size)
  clear b6
  rw [H1.out]
  have R33 := Lib.hid (range_lit hp 10 4 [.int .u8 (a4.toNat : Int), .int .u8 (a5.toNat : Int), .int .u8 (a6.toNat : Int), .int .u8 (a7.toNat : Int)] rfl)
  go_wp2_with (first | ((with_reducible show wpList _ _ _ (⟨some 33, _, _, _, _, _⟩ :: _) _ _); refine wpList_load_rng 24 (.tmp 32) rfl (by kernel_rfl) _ _ rfl _ R33.out _ Try.underlying24 rfl (by kernel_rfl) ?_))
  try clear R33
  with_reducible refine (rodd_any _ _ _ _ _).mono ?_
  rintro e w7 ⟨rfl, b7⟩
  replace ho := blk_u ho b7
  replace hz := blk_u hz b7
  replace hp := blk_u hp b7
  replace hB := hB.below b7
  replace po := po.below b7
  replace pb := pb.below b7
  replace bel := bel.trans (b7.mono bel.size)
  clear b7
  rw [H2.out]
  have R38 := cell_lit hp 5 _ rfl
  go_wp2_with fail
  clear R38
  with_reducible refine (rbyte_any _ _).mono ?_
  rintro e _ ⟨rfl, rfl⟩
  rw [D1.out]
  go_wp2_with fail
  with_reducible refine (rbyte_any _ _).mono ?_
  rintro e _ ⟨rfl, rfl⟩
  rw [D2.out]
  have R71 := cell_lit hp 14 _ rfl
  have R75 := cell_lit hp 15 _ rfl
  go_wp2_with fail
  clear R71 R75
  replace bel := bel.drew
  replace ho : w7.drew.heap[g4]? = _ := ho
  replace hz : w7.drew.heap[g8]? = _ := hz
  replace hp : w7.drew.heap[g10]? = _ := hp
  replace hB := hB.drew
  replace po := po.drew
  replace pb := pb.drew
  refine wp_region_held_drew (S := fun W => W.heap[g4]? = some (.cells #[.int .u8 (o0.toNat : Int), .int .u8 (o1.toNat : Int), .int .u8 (o2.toNat : Int), .int .u8 (o3.toNat : Int)] 24 (0, 0)) ∧ W.heap[g10]? = some (.cells #[.int .i64 f0, .int .i64 f1, .int .i64 f2, .int .i64 f3, .int .i64 f4, .int .i64 f5, .int .u8 (a0.toNat : Int), .int .u8 (a1.toNat : Int), .int .u8 (a2.toNat : Int), .int .u8 (a3.toNat : Int), .int .u8 (a4.toNat : Int), .int .u8 (a5.toNat : Int), .int .u8 (a6.toNat : Int), .int .u8 (a7.toNat : Int), .slice Ao no co, .slice Ab nb cb] 45 (0, 0))) (by kernel_rfl) ⟨ho, hp⟩ (fun hH => ?_)
  generalize w7.drew = w8 at bel ho hz hp hB po pb hH ⊢
  refine wpAnyH_take (i := 0) (v := .agg #[.int .u8 (o0.toNat : Int), .int .u8 (o1.toNat : Int), .int .u8 (o2.toNat : Int), .int .u8 (o3.toNat : Int)]) rfl (by kernel_rfl) (by kernel_rfl) (by kernel_rfl) (fun _ _ _ h => h) (yieldsIf_load_part (by kernel_rfl) 24 _ rfl g4 0 4 rfl _ 24 (0, 0) (fun W hW => hW.1) _ rfl _ Try.underlying24 rfl (by kernel_rfl)) hH ?_
  simp only [Act.put, List.getElem_toArray, List.getElem_cons_zero, List.setIfInBounds_toArray, List.set_cons_zero, List.set_cons_succ]
  refine wpAnyH_take (i := 1) (v := ?_) rfl (by kernel_rfl) (by kernel_rfl) (by kernel_rfl) (fun _ _ _ h => h) (Or.inl ⟨by rfl, ?_⟩) hH ?_
  rotate_left
  · ((intro W hW; clear hW; go_simp) <;> with_reducible rfl)
  simp only [Act.put, List.getElem_toArray, List.getElem_cons_zero, List.getElem_cons_succ, List.setIfInBounds_toArray, List.set_cons_zero, List.set_cons_succ]
  refine wpAnyH_take (i := 2) (v := .agg #[.int .u8 (a0.toNat : Int), .int .u8 (a1.toNat : Int), .int .u8 (a2.toNat : Int), .int .u8 (a3.toNat : Int)]) rfl (by kernel_rfl) (by kernel_rfl) (by kernel_rfl) (fun _ _ _ h => h) (yieldsIf_load_part (by kernel_rfl) 24 _ rfl g10 6 4 rfl _ 45 (0, 0) (fun W hW => hW.2) _ rfl _ Try.underlying24 rfl (by kernel_rfl)) hH ?_
  simp only [Act.put, List.getElem_toArray, List.getElem_cons_zero, List.getElem_cons_succ, List.setIfInBounds_toArray, List.set_cons_zero, List.set_cons_succ]
  refine wpAnyH_take (i := 3) (v := ?_) rfl (by kernel_rfl) (by kernel_rfl) (by kernel_rfl) (fun _ _ _ h => h) (Or.inl ⟨by rfl, ?_⟩) hH ?_
  rotate_left
  · ((intro W hW; clear hW; go_simp) <;> with_reducible rfl)
  simp only [Act.put, List.getElem_toArray, List.getElem_cons_zero, List.getElem_cons_succ, List.setIfInBounds_toArray, List.set_cons_zero, List.set_cons_succ]
  refine wpAnyH_take (i := 4) (v := ?_) rfl (by kernel_rfl) (by kernel_rfl) (by kernel_rfl) (fun _ _ _ h => h) (Or.inl ⟨by rfl, ?_⟩) hH ?_
  rotate_left
  · ((intro W hW; clear hW; go_simp) <;> with_reducible rfl)
  simp only [Act.put, List.getElem_toArray, List.getElem_cons_zero, List.getElem_cons_succ, List.setIfInBounds_toArray, List.set_cons_zero, List.set_cons_succ]
  refine wpAnyH_take (i := 5) (v := ?_) rfl (by kernel_rfl) (by kernel_rfl) (by kernel_rfl) (fun _ _ _ h => h) (Or.inl ⟨by rfl, ?_⟩) hH ?_
  rotate_left
  · ((intro W hW; clear hW; go_simp) <;> with_reducible rfl)
  simp only [Act.put, List.getElem_toArray, List.getElem_cons_zero, List.getElem_cons_succ, List.setIfInBounds_toArray, List.set_cons_zero, List.set_cons_succ]
  refine wpAnyH_take (i := 6) (v := ?_) rfl (by kernel_rfl) (by kernel_rfl) (by kernel_rfl) (fun _ _ _ h => h) (Or.inl ⟨by rfl, ?_⟩) hH ?_
  rotate_left
  · ((intro W hW; clear hW; go_simp) <;> with_reducible rfl)
  simp only [Act.put, List.getElem_toArray, List.getElem_cons_zero, List.getElem_cons_succ, List.setIfInBounds_toArray, List.set_cons_zero, List.set_cons_succ]
  refine wpAnyH_take (i := 7) (v := ?_) rfl (by kernel_rfl) (by kernel_rfl) (by kernel_rfl) (fun _ _ _ h => h) (Or.inl ⟨by rfl, ?_⟩) hH ?_
  rotate_left
  · ((intro W hW; clear hW; go_simp) <;> with_reducible rfl)
  simp only [Act.put, List.getElem_toArray, List.getElem_cons_zero, List.getElem_cons_succ, List.setIfInBounds_toArray, List.set_cons_zero, List.set_cons_succ]
  refine wpAnyH_take (i := 8) (v := ?_) rfl (by kernel_rfl) (by kernel_rfl) (by kernel_rfl) (fun _ _ _ h => h) (Or.inl ⟨by rfl, ?_⟩) hH ?_
  rotate_left
  · ((intro W hW; clear hW; go_simp) <;> with_reducible rfl)
  simp only [Act.put, List.getElem_toArray, List.getElem_cons_zero, List.getElem_cons_succ, List.setIfInBounds_toArray, List.set_cons_zero, List.set_cons_succ]
  refine wpAnyH_take (i := 9) (v := ?_) rfl (by kernel_rfl) (by kernel_rfl) (by kernel_rfl) (fun _ _ _ h => h) (Or.inl ⟨by rfl, ?_⟩) hH ?_
  rotate_left
  · ((intro W hW; clear hW; go_simp) <;> with_reducible rfl)
  simp only [Act.put, List.getElem_toArray, List.getElem_cons_zero, List.getElem_cons_succ, List.setIfInBounds_toArray, List.set_cons_zero, List.set_cons_succ]
  obtain ⟨A89, c89, r89, f89, u89⟩ := piece_front hB (k := k) HK.out
  have qt := f89 _ hB
  have av_qt_o := av_hB_o.sub u89
  have av_qt_z := av_hB_z.sub u89
  have av_qt_p := av_hB_p.sub u89
  clear f89 u89
  refine wpAnyH_take (i := 10) (v := ?_) rfl (by kernel_rfl) (by kernel_rfl) (by kernel_rfl) (fun _ _ _ h => h) (Or.inl ⟨by rfl, ?_⟩) hH ?_
  rotate_left
  · ((intro W hW; clear hW; go_simp) <;> with_reducible rfl)
  simp only [Act.put, List.getElem_toArray, List.getElem_cons_zero, List.getElem_cons_succ, List.setIfInBounds_toArray, List.set_cons_zero, List.set_cons_succ]
  refine wpAnyH_ready (rs := [11]) (by kernel_rfl) (by simp) ?_
  refine AllReadyH.cons (o := _) rfl (fun K hK => ?_) AllReadyH.nil
  simp only [List.getElem_toArray, List.getElem_cons_zero, List.getElem_cons_succ]
  go_simp
  with_reducible refine (rcopied_o _ _ _ _ _ qt (by have := HK.out; have := HN.out; omega)).mono ?_
  rintro e w9 ⟨v, rfl, qdw, b9⟩
  dsimp only
  have y_qd_o := Lib.hid (hlt ho)
  have y_qd_z := Lib.hid (hlt hz)
  have y_qd_p := Lib.hid (hlt hp)
  have bl_hB_qd := hB.bl_new
  have bl_po_qd := po.bl_new
  have bl_pb_qd := pb.bl_new
  have bl_qt_qd := qt.bl_new
  have qdlo := bel.size
  have lz_qd := b9.size
  replace ho := blk_u ho b9
  replace hz := blk_u hz b9
  replace hp := blk_u hp b9
  replace hB := hB.below b9
  replace po := po.below b9
  replace pb := pb.below b9
  replace qt := qt.below b9
  replace bel := bel.trans (b9.mono bel.size)
  clear b9
  obtain ⟨Aqd, cqd, rfl⟩ := own_val qdw
  have qd := (own_sl qdw).1
  have fr_qd := (own_sl qdw).2
  have av_qd_o := fr_qd.av y_qd_o.out
  have av_qd_z := fr_qd.av y_qd_z.out
  have av_qd_p := fr_qd.av y_qd_p.out
  refine hK.out _ _ ⟨ho, hp⟩ (fun hH10 => ?_)
  clear hK K
  refine wpAnyH_take (i := 12) (v := ?_) rfl (by kernel_rfl) (by kernel_rfl) (by kernel_rfl) (fun _ _ _ h => h) (Or.inl ⟨by rfl, ?_⟩) hH10 ?_
  rotate_left
  · ((intro W hW; clear hW; go_simp) <;> with_reducible rfl)
  simp only [Act.put, List.getElem_toArray, List.getElem_cons_zero, List.getElem_cons_succ, List.setIfInBounds_toArray, List.set_cons_zero, List.set_cons_succ]
  refine wpAnyH_ready (rs := [13]) (by kernel_rfl) (by simp) ?_
  refine AllReadyH.cons (o := _) rfl (fun K hK => ?_) AllReadyH.nil
  simp only [List.getElem_toArray, List.getElem_cons_zero, List.getElem_cons_succ]
  go_simp
  have ob := bel.size
  with_reducible refine (ricput_any _ _ _ _ _ _ _ _ _ _ _ _ _ _ _ _ _ _ _ _ _ _ _ _ _ _ [] _ _ (Sl.nil _) qd (by decide) (by decide) (by decide)).mono ?_
  rintro e w11 ⟨y0, y1, y2, y3, y4, y5, g0, g1, g2, g3, g4, g5, g6, g7, lr, lq, Ar, Aq, cr, cq, er, rfl, sr, sq_, fr1, fr2, b11, hQ⟩
  dsimp only
  have av_sr_o := fr1.av (hlt ho)
  have av_sr_z := fr1.av (hlt hz)
  have av_sr_p := fr1.av (hlt hp)
  have av_sq__o := fr2.av (hlt ho)
  have av_sq__z := fr2.av (hlt hz)
  have av_sq__p := fr2.av (hlt hp)
  replace ho := blk_u ho b11
  replace hz := blk_u hz b11
  replace hp := blk_u hp b11
  replace hB := hB.below b11
  replace po := po.below b11
  replace pb := pb.below b11
  replace qt := qt.below b11
  replace qd := qd.below b11
  replace qdw := own_under qdw b11
  replace lz_qd := Nat.le_trans lz_qd b11.size
  replace bel := bel.trans (b11.mono bel.size)
  clear b11
  replace sr : Sl w11 (Ar) (lr.length) (cr) (lr) := sr
  replace sq_ : Sl w11 (Aq) (lq.length) (cq) (lq) := sq_
  refine hK.out _ _ ⟨ho, hp⟩ (fun hH12 => ?_)
  clear hK K
  refine wpAnyH_take (i := 14) (v := ?_) rfl (by kernel_rfl) (by kernel_rfl) (by kernel_rfl) (fun _ _ _ h => h) (Or.inl ⟨by rfl, ?_⟩) hH12 ?_
  rotate_left
  · ((intro W hW; clear hW; go_simp) <;> with_reducible rfl)
  simp only [Act.put, List.getElem_toArray, List.getElem_cons_zero, List.getElem_cons_succ, List.setIfInBounds_toArray, List.set_cons_zero, List.set_cons_succ]
  refine wpAnyH_take (i := 15) (v := ?_) rfl (by kernel_rfl) (by kernel_rfl) (by kernel_rfl) (fun _ _ _ h => h) (Or.inl ⟨by rfl, ?_⟩) hH12 ?_
  rotate_left
  · ((intro W hW; clear hW; go_simp) <;> with_reducible rfl)
  simp only [Act.put, List.getElem_toArray, List.getElem_cons_zero, List.getElem_cons_succ, List.setIfInBounds_toArray, List.set_cons_zero, List.set_cons_succ]
  refine wpAnyH_ready (rs := [16]) (by kernel_rfl) (by simp) ?_
  refine AllReadyH.cons (o := _) rfl (fun K hK => ?_) AllReadyH.nil
  simp only [List.getElem_toArray, List.getElem_cons_zero, List.getElem_cons_succ]
  rw [if_pos (by rfl)]
  refine wp_store_blk 45 (.tmp 8) (.tmp 93) rfl g8 rfl _ rfl _ 45 hz (by rfl) (by kernel_rfl) (by kernel_rfl) ?_
  intro w13 hq gr
  replace hB := hB.away av_hB_z gr
  clear po
  clear pb
  replace qt := qt.away av_qt_z gr
  replace qd := qd.away av_qd_z gr
  replace qdw := own_away qdw y_qd_z.out gr
  replace sr := sr.away av_sr_z gr
  replace sq_ := sq_.away av_sq__z gr
  replace lz_qd := Nat.le_trans lz_qd gr.size
  replace ho := blk_a ho gr d_o_z
  replace hp := blk_a hp gr (ne_symm d_z_p)
  replace bel := below_grown bel gr oz bel.size
  clear hz
  have hz := hq
  clear hq gr
  refine hK.out _ _ ⟨ho, hp⟩ (fun hH14 => ?_)
  clear hK K
  simp only [Act.put]
  refine wpAnyH_take (i := 17) (v := ?_) rfl (by kernel_rfl) (by kernel_rfl) (by kernel_rfl) (fun _ _ _ h => h) (Or.inl ⟨by rfl, ?_⟩) hH14 ?_
  rotate_left
  · ((intro W hW; clear hW; go_simp) <;> with_reducible rfl)
  simp only [Act.put, List.getElem_toArray, List.getElem_cons_zero, List.getElem_cons_succ, List.setIfInBounds_toArray, List.set_cons_zero, List.set_cons_succ]
  refine wpAnyH_done (by kernel_rfl) ?_ _
  go_wp2_with fail
  exact bodyPost_ret (results_cell_tmp_row rfl _ _ _ _ _ _ _ rfl hz Try.underlying45 rfl (by kernel_rfl) (.int .i64 er) rfl) rfl ⟨y0, y1, y2, y3, y4, y5, g0, g1, g2, g3, g4, g5, g6, g7, lr, lq, Ar, Aq, cr, cq, er, rfl, sr, sq_, fr1.mono ob, fr2.mono ob, bel, hQ.trans HP.out.symm⟩
set_option linter.unusedVariables false in
set_option maxRecDepth 100000 in
set_option maxHeartbeats 16000000 in
theorem ricabout_wa (o0 o1 o2 o3 : UInt8) (B : Option Addr) (nB cB : Nat) (l : List UInt8) (ty cd : Int) (f0 f1 f2 f3 f4 f5 : Int) (a0 a1 a2 a3 a4 a5 a6 a7 : UInt8) (lo lb : List UInt8) (no nb : Nat) (w : World) (hB : Sl w B nB cB l) (hm : nB ≤ 100000) (hg : ipGet l = (([f0, f1, f2, f3, f4, f5], [a0, a1, a2, a3, a4, a5, a6, a7]), (lo, lb), 0)) (hy : icMay f3 f5 a0 a1 a2 a3 a4 a5 a6 a7 lb = true) (c0 : ¬ 0 < f3) (c1 : hostOk a0 a1 a2 a3 = true) (c2 : hostOk a4 a5 a6 a7 = true) (c3 : f5 ≠ 1) (d1 : byteOk ty = true) (d2 : byteOk cd = true) (hn : 8 < nb) (h1 : lo.length = no) (h2 : lb.length = nb) : Calls Try.prog 27 #[.agg #[.int .u8 (o0.toNat : Int), .int .u8 (o1.toNat : Int), .int .u8 (o2.toNat : Int), .int .u8 (o3.toNat : Int)], .slice B nB cB, .int .i64 ty, .int .i64 cd] w (PkPost (icAbout o0 o1 o2 o3 l ty cd) w) := by
  obtain ⟨ii, hii, hz0, hz1, hz2⟩ := info_parts Try.info5
  have HG := Lib.hid hg
  have HM := Lib.hid hm
  have HL1 := Lib.hid h1
  have HL2 := Lib.hid h2
  have t0 : decide ((0 : Int) < f3) = false := decide_eq_false c0
  have H1 := Lib.hid c1
  have H2 := Lib.hid c2
  have t3 : (f5 == 1) = false := by simpa using c3
  have D1 := Lib.hid d1
  have D2 := Lib.hid d2
  have hlen := ipget_len hg
  obtain ⟨k, hk⟩ : ∃ k, k = 20 + no + 8 := ⟨_, rfl⟩
  have HP : Hid (icAbout o0 o1 o2 o3 l ty cd = icPut 0 0 0 0 64 o0 o1 o2 o3 a0 a1 a2 a3 [] ty cd 0 (l.take k)) := Lib.hid (by rw [icAbout_eq _ _ _ _ _ _ hg]; unfold icAb; rw [if_neg (by decide), if_neg (by rw [hy]; decide), h1, h2, hk, show min nb 8 = 8 by omega])
  have HK : Hid (k ≤ nB) := Lib.hid (by have := hB.1; omega)
  have HN := Lib.hid hm
  have t7 : (8 : Int) < nb := by omega
  have b0 : (0 : Int) ≤ no := by omega
  have b1 : (no : Int) ≤ 100000 := by have := hB.1; omega
  have ek : 20 + (no : Int) + 8 = (k : Int) := by omega
  have ew : IntKind.i64.wrap (k : Int) = (k : Int) := IntWalk.i64_in _ (by have := hB.1; omega)
  clear hg hm h1 h2 hy hk hlen hn d1 d2 c0 c1 c2 c3
  have bel := Below.refl w.heap.size w
  go_enter Try.func27, Try.ntmps27
  go_wp2_with (first | ((with_reducible show wpList _ _ _ (⟨some 4, _, _, _, _, _⟩ :: _) _ _); refine wpList_box_n rfl 24 (.tmp 0) rfl #[.int .u8 (o0.toNat : Int), .int .u8 (o1.toNat : Int), .int .u8 (o2.toNat : Int), .int .u8 (o3.toNat : Int)] rfl ?_; intro g4 w1 ge lt hh bb; have av_hB_o := hB.av_new ge; have oo := Nat.le_trans bel.size ge; replace hB := hB.below bb; replace bel := bel.trans (bb.mono bel.size); have ho := hh; clear hh lt ge bb) | ((with_reducible show wpList _ _ _ (⟨some 8, _, _, _, _, _⟩ :: _) _ _); refine wpList_new_a rfl 45 rfl #[.int .i64 0, .int .i64 0, .int .i64 0, .int .i64 0, .int .i64 0, .int .i64 0, .int .u8 0, .int .u8 0, .int .u8 0, .int .u8 0, .int .u8 0, .int .u8 0, .int .u8 0, .int .u8 0, .slice none 0 0, .slice none 0 0] (by kernel_rfl) ?_; intro g8 w2 ge hh bb; have d_o_z := ne_new (hlt ho) ge; have av_hB_z := hB.av_new ge; have oz := Nat.le_trans bel.size ge; replace ho := blk_u ho bb; replace hB := hB.below bb; replace bel := bel.trans (bb.mono bel.size); have hz := hh; clear hh ge bb))
  with_reducible refine (rget6_n _ _ _ l f0 f1 f2 f3 f4 f5 a0 a1 a2 a3 a4 a5 a6 a7 lo lb no nb 0 _ hB HM.out HG.out HL1.out HL2.out).mono ?_
  rintro e w3 ⟨Ao, co, Ab, cb, rfl, po, pb, b3⟩
  replace ho := blk_u ho b3
  replace hz := blk_u hz b3
  replace hB := hB.below b3
  replace bel := bel.trans (b3.mono bel.size)
  clear b3
  replace po : Sl w3 (Ao) (no) (co) (lo) := po
  replace pb : Sl w3 (Ab) (nb) (cb) (lb) := pb
  go_wp2_with (first | ((with_reducible show wpList _ _ _ (⟨some 10, _, _, _, _, _⟩ :: _) _ _); refine wpList_new_a rfl 45 rfl #[.int .i64 0, .int .i64 0, .int .i64 0, .int .i64 0, .int .i64 0, .int .i64 0, .int .u8 0, .int .u8 0, .int .u8 0, .int .u8 0, .int .u8 0, .int .u8 0, .int .u8 0, .int .u8 0, .slice none 0 0, .slice none 0 0] (by kernel_rfl) ?_; intro g10 w4 ge hh bb; have d_o_p := ne_new (hlt ho) ge; have d_z_p := ne_new (hlt hz) ge; have av_hB_p := hB.av_new ge; have av_po_p := po.av_new ge; have av_pb_p := pb.av_new ge; have op := Nat.le_trans bel.size ge; replace ho := blk_u ho bb; replace hz := blk_u hz bb; replace hB := hB.below bb; replace po := po.below bb; replace pb := pb.below bb; replace bel := bel.trans (bb.mono bel.size); have hp := hh; clear hh ge bb) | ((with_reducible show wpList _ _ _ (⟨none, Op.store _ (.tmp 10) _, _, _, _, _⟩ :: _) _ _); refine wpList_store_blk rfl 45 (.tmp 10) (.tmp 17) rfl g10 rfl _ rfl _ 45 hp (by rfl) (by kernel_rfl) (by kernel_rfl) ?_; intro w5 hq gr; replace hB := hB.away av_hB_p gr; replace po := po.away av_po_p gr; replace pb := pb.away av_pb_p gr; replace ho := blk_a ho gr d_o_p; replace hz := blk_a hz gr d_z_p; replace bel := below_grown bel gr op bel.size; clear hp; have hp := hq; clear hq gr; have R24 := cell_lit hp 3 _ rfl; have R28 := Lib.hid (range_lit hp 6 4 [.int .u8 (a0.toNat : Int), .int .u8 (a1.toNat : Int), .int .u8 (a2.toNat : Int), .int .u8 (a3.toNat : Int)] rfl)) | ((with_reducible show wpList _ _ _ (⟨some 28, _, _, _, _, _⟩ :: _) _ _); refine wpList_load_rng 24 (.tmp 27) rfl (by kernel_rfl) _ _ rfl _ R28.out _ Try.underlying24 rfl (by kernel_rfl) ?_))
  try clear R24
  try clear R28
  with_reducible refine (rodd_any _ _ _ _ _).mono ?_
  rintro e w6 ⟨rfl, b6⟩
  replace ho := blk_u ho b6
  replace hz := blk_u hz b6
  replace hp := blk_u hp b6
  replace hB := hB.below b6
  replace po := po.below b6
  replace pb := pb.below b6
  replace bel := bel.trans (b6.mono bel.size)
  clear b6
  rw [H1.out]
  have R33 := Lib.hid (range_lit hp 10 4 [.int .u8 (a4.toNat : Int), .int .u8 (a5.toNat : Int), .int .u8 (a6.toNat : Int), .int .u8 (a7.toNat : Int)] rfl)
  go_wp2_with (first | ((with_reducible show wpList _ _ _ (⟨some 33, _, _, _, _, _⟩ :: _) _ _); refine wpList_load_rng 24 (.tmp 32) rfl (by kernel_rfl) _ _ rfl _ R33.out _ Try.underlying24 rfl (by kernel_rfl) ?_))
  try clear R33
  with_reducible refine (rodd_any _ _ _ _ _).mono ?_
  rintro e w7 ⟨rfl, b7⟩
  replace ho := blk_u ho b7
  replace hz := blk_u hz b7
  replace hp := blk_u hp b7
  replace hB := hB.below b7
  replace po := po.below b7
  replace pb := pb.below b7
  replace bel := bel.trans (b7.mono bel.size)
  clear b7
  rw [H2.out]
  have R38 := cell_lit hp 5 _ rfl
  go_wp2_with fail
  clear R38
  with_reducible refine (rbyte_any _ _).mono ?_
  rintro e _ ⟨rfl, rfl⟩
  rw [D1.out]
  go_wp2_with fail
  with_reducible refine (rbyte_any _ _).mono ?_
  rintro e _ ⟨rfl, rfl⟩
  rw [D2.out]
  have R71 := cell_lit hp 14 _ rfl
  have R75 := cell_lit hp 15 _ rfl
  go_wp2_with fail
  clear R71 R75
  replace bel := bel.drew
  replace ho : w7.drew.heap[g4]? = _ := ho
  replace hz : w7.drew.heap[g8]? = _ := hz
  replace hp : w7.drew.heap[g10]? = _ := hp
  replace hB := hB.drew
  replace po := po.drew
  replace pb := pb.drew
  refine wp_region_held_drew (S := fun W => W.heap[g4]? = some (.cells #[.int .u8 (o0.toNat : Int), .int .u8 (o1.toNat : Int), .int .u8 (o2.toNat : Int), .int .u8 (o3.toNat : Int)] 24 (0, 0)) ∧ W.heap[g10]? = some (.cells #[.int .i64 f0, .int .i64 f1, .int .i64 f2, .int .i64 f3, .int .i64 f4, .int .i64 f5, .int .u8 (a0.toNat : Int), .int .u8 (a1.toNat : Int), .int .u8 (a2.toNat : Int), .int .u8 (a3.toNat : Int), .int .u8 (a4.toNat : Int), .int .u8 (a5.toNat : Int), .int .u8 (a6.toNat : Int), .int .u8 (a7.toNat : Int), .slice Ao no co, .slice Ab nb cb] 45 (0, 0))) (by kernel_rfl) ⟨ho, hp⟩ (fun hH => ?_)
  generalize w7.drew = w8 at bel ho hz hp hB po pb hH ⊢
  refine wpAnyH_take (i := 0) (v := .agg #[.int .u8 (o0.toNat : Int), .int .u8 (o1.toNat : Int), .int .u8 (o2.toNat : Int), .int .u8 (o3.toNat : Int)]) rfl (by kernel_rfl) (by kernel_rfl) (by kernel_rfl) (fun _ _ _ h => h) (yieldsIf_load_part (by kernel_rfl) 24 _ rfl g4 0 4 rfl _ 24 (0, 0) (fun W hW => hW.1) _ rfl _ Try.underlying24 rfl (by kernel_rfl)) hH ?_
  simp only [Act.put, List.getElem_toArray, List.getElem_cons_zero, List.setIfInBounds_toArray, List.set_cons_zero, List.set_cons_succ]
  refine wpAnyH_take (i := 1) (v := ?_) rfl (by kernel_rfl) (by kernel_rfl) (by kernel_rfl) (fun _ _ _ h => h) (Or.inl ⟨by rfl, ?_⟩) hH ?_
  rotate_left
  · ((intro W hW; clear hW; go_simp) <;> with_reducible rfl)
  simp only [Act.put, List.getElem_toArray, List.getElem_cons_zero, List.getElem_cons_succ, List.setIfInBounds_toArray, List.set_cons_zero, List.set_cons_succ]
  refine wpAnyH_take (i := 2) (v := .agg #[.int .u8 (a0.toNat : Int), .int .u8 (a1.toNat : Int), .int .u8 (a2.toNat : Int), .int .u8 (a3.toNat : Int)]) rfl (by kernel_rfl) (by kernel_rfl) (by kernel_rfl) (fun _ _ _ h => h) (yieldsIf_load_part (by kernel_rfl) 24 _ rfl g10 6 4 rfl _ 45 (0, 0) (fun W hW => hW.2) _ rfl _ Try.underlying24 rfl (by kernel_rfl)) hH ?_
  simp only [Act.put, List.getElem_toArray, List.getElem_cons_zero, List.getElem_cons_succ, List.setIfInBounds_toArray, List.set_cons_zero, List.set_cons_succ]
  refine wpAnyH_take (i := 3) (v := ?_) rfl (by kernel_rfl) (by kernel_rfl) (by kernel_rfl) (fun _ _ _ h => h) (Or.inl ⟨by rfl, ?_⟩) hH ?_
  rotate_left
  · ((intro W hW; clear hW; go_simp) <;> with_reducible rfl)
  simp only [Act.put, List.getElem_toArray, List.getElem_cons_zero, List.getElem_cons_succ, List.setIfInBounds_toArray, List.set_cons_zero, List.set_cons_succ]
  refine wpAnyH_take (i := 4) (v := ?_) rfl (by kernel_rfl) (by kernel_rfl) (by kernel_rfl) (fun _ _ _ h => h) (Or.inl ⟨by rfl, ?_⟩) hH ?_
  rotate_left
  · ((intro W hW; clear hW; go_simp) <;> with_reducible rfl)
  simp only [Act.put, List.getElem_toArray, List.getElem_cons_zero, List.getElem_cons_succ, List.setIfInBounds_toArray, List.set_cons_zero, List.set_cons_succ]
  refine wpAnyH_take (i := 5) (v := ?_) rfl (by kernel_rfl) (by kernel_rfl) (by kernel_rfl) (fun _ _ _ h => h) (Or.inl ⟨by rfl, ?_⟩) hH ?_
  rotate_left
  · ((intro W hW; clear hW; go_simp) <;> with_reducible rfl)
  simp only [Act.put, List.getElem_toArray, List.getElem_cons_zero, List.getElem_cons_succ, List.setIfInBounds_toArray, List.set_cons_zero, List.set_cons_succ]
  refine wpAnyH_take (i := 6) (v := ?_) rfl (by kernel_rfl) (by kernel_rfl) (by kernel_rfl) (fun _ _ _ h => h) (Or.inl ⟨by rfl, ?_⟩) hH ?_
  rotate_left
  · ((intro W hW; clear hW; go_simp) <;> with_reducible rfl)
  simp only [Act.put, List.getElem_toArray, List.getElem_cons_zero, List.getElem_cons_succ, List.setIfInBounds_toArray, List.set_cons_zero, List.set_cons_succ]
  refine wpAnyH_take (i := 7) (v := ?_) rfl (by kernel_rfl) (by kernel_rfl) (by kernel_rfl) (fun _ _ _ h => h) (Or.inl ⟨by rfl, ?_⟩) hH ?_
  rotate_left
  · ((intro W hW; clear hW; go_simp) <;> with_reducible rfl)
  simp only [Act.put, List.getElem_toArray, List.getElem_cons_zero, List.getElem_cons_succ, List.setIfInBounds_toArray, List.set_cons_zero, List.set_cons_succ]
  refine wpAnyH_take (i := 8) (v := ?_) rfl (by kernel_rfl) (by kernel_rfl) (by kernel_rfl) (fun _ _ _ h => h) (Or.inl ⟨by rfl, ?_⟩) hH ?_
  rotate_left
  · ((intro W hW; clear hW; go_simp) <;> with_reducible rfl)
  simp only [Act.put, List.getElem_toArray, List.getElem_cons_zero, List.getElem_cons_succ, List.setIfInBounds_toArray, List.set_cons_zero, List.set_cons_succ]
  refine wpAnyH_take (i := 9) (v := ?_) rfl (by kernel_rfl) (by kernel_rfl) (by kernel_rfl) (fun _ _ _ h => h) (Or.inl ⟨by rfl, ?_⟩) hH ?_
  rotate_left
  · ((intro W hW; clear hW; go_simp) <;> with_reducible rfl)
  simp only [Act.put, List.getElem_toArray, List.getElem_cons_zero, List.getElem_cons_succ, List.setIfInBounds_toArray, List.set_cons_zero, List.set_cons_succ]
  obtain ⟨A89, c89, r89, f89, u89⟩ := piece_front hB (k := k) HK.out
  have qt := f89 _ hB
  have av_qt_o := av_hB_o.sub u89
  have av_qt_z := av_hB_z.sub u89
  have av_qt_p := av_hB_p.sub u89
  clear f89 u89
  refine wpAnyH_take (i := 10) (v := ?_) rfl (by kernel_rfl) (by kernel_rfl) (by kernel_rfl) (fun _ _ _ h => h) (Or.inl ⟨by rfl, ?_⟩) hH ?_
  rotate_left
  · ((intro W hW; clear hW; go_simp) <;> with_reducible rfl)
  simp only [Act.put, List.getElem_toArray, List.getElem_cons_zero, List.getElem_cons_succ, List.setIfInBounds_toArray, List.set_cons_zero, List.set_cons_succ]
  refine wpAnyH_ready (rs := [11]) (by kernel_rfl) (by simp) ?_
  refine AllReadyH.cons (o := _) rfl (fun K hK => ?_) AllReadyH.nil
  simp only [List.getElem_toArray, List.getElem_cons_zero, List.getElem_cons_succ]
  go_simp
  with_reducible refine (rcopied_o _ _ _ _ _ qt (by have := HK.out; have := HN.out; omega)).mono ?_
  rintro e w9 ⟨v, rfl, qdw, b9⟩
  dsimp only
  have y_qd_o := Lib.hid (hlt ho)
  have y_qd_z := Lib.hid (hlt hz)
  have y_qd_p := Lib.hid (hlt hp)
  have bl_hB_qd := hB.bl_new
  have bl_po_qd := po.bl_new
  have bl_pb_qd := pb.bl_new
  have bl_qt_qd := qt.bl_new
  have qdlo := bel.size
  have lz_qd := b9.size
  replace ho := blk_u ho b9
  replace hz := blk_u hz b9
  replace hp := blk_u hp b9
  replace hB := hB.below b9
  replace po := po.below b9
  replace pb := pb.below b9
  replace qt := qt.below b9
  replace bel := bel.trans (b9.mono bel.size)
  clear b9
  obtain ⟨Aqd, cqd, rfl⟩ := own_val qdw
  have qd := (own_sl qdw).1
  have fr_qd := (own_sl qdw).2
  have av_qd_o := fr_qd.av y_qd_o.out
  have av_qd_z := fr_qd.av y_qd_z.out
  have av_qd_p := fr_qd.av y_qd_p.out
  refine hK.out _ _ ⟨ho, hp⟩ (fun hH10 => ?_)
  clear hK K
  refine wpAnyH_take (i := 12) (v := ?_) rfl (by kernel_rfl) (by kernel_rfl) (by kernel_rfl) (fun _ _ _ h => h) (Or.inl ⟨by rfl, ?_⟩) hH10 ?_
  rotate_left
  · ((intro W hW; clear hW; go_simp) <;> with_reducible rfl)
  simp only [Act.put, List.getElem_toArray, List.getElem_cons_zero, List.getElem_cons_succ, List.setIfInBounds_toArray, List.set_cons_zero, List.set_cons_succ]
  refine wpAnyH_ready (rs := [13]) (by kernel_rfl) (by simp) ?_
  refine AllReadyH.cons (o := _) rfl (fun K hK => ?_) AllReadyH.nil
  simp only [List.getElem_toArray, List.getElem_cons_zero, List.getElem_cons_succ]
  go_simp
  have ob := bel.size
  with_reducible refine (ricput_any _ _ _ _ _ _ _ _ _ _ _ _ _ _ _ _ _ _ _ _ _ _ _ _ _ _ [] _ _ (Sl.nil _) qd (by decide) (by decide) (by decide)).mono ?_
  rintro e w11 ⟨y0, y1, y2, y3, y4, y5, g0, g1, g2, g3, g4, g5, g6, g7, lr, lq, Ar, Aq, cr, cq, er, rfl, sr, sq_, fr1, fr2, b11, hQ⟩
  dsimp only
  have av_sr_o := fr1.av (hlt ho)
  have av_sr_z := fr1.av (hlt hz)
  have av_sr_p := fr1.av (hlt hp)
  have av_sq__o := fr2.av (hlt ho)
  have av_sq__z := fr2.av (hlt hz)
  have av_sq__p := fr2.av (hlt hp)
  replace ho := blk_u ho b11
  replace hz := blk_u hz b11
  replace hp := blk_u hp b11
  replace hB := hB.below b11
  replace po := po.below b11
  replace pb := pb.below b11
  replace qt := qt.below b11
  replace qd := qd.below b11
  replace qdw := own_under qdw b11
  replace lz_qd := Nat.le_trans lz_qd b11.size
  replace bel := bel.trans (b11.mono bel.size)
  clear b11
  replace sr : Sl w11 (Ar) (lr.length) (cr) (lr) := sr
  replace sq_ : Sl w11 (Aq) (lq.length) (cq) (lq) := sq_
  refine hK.out _ _ ⟨ho, hp⟩ (fun hH12 => ?_)
  clear hK K
  refine wpAnyH_take (i := 14) (v := ?_) rfl (by kernel_rfl) (by kernel_rfl) (by kernel_rfl) (fun _ _ _ h => h) (Or.inl ⟨by rfl, ?_⟩) hH12 ?_
  rotate_left
  · ((intro W hW; clear hW; go_simp) <;> with_reducible rfl)
  simp only [Act.put, List.getElem_toArray, List.getElem_cons_zero, List.getElem_cons_succ, List.setIfInBounds_toArray, List.set_cons_zero, List.set_cons_succ]
  refine wpAnyH_take (i := 15) (v := ?_) rfl (by kernel_rfl) (by kernel_rfl) (by kernel_rfl) (fun _ _ _ h => h) (Or.inl ⟨by rfl, ?_⟩) hH12 ?_
  rotate_left
  · ((intro W hW; clear hW; go_simp) <;> with_reducible rfl)
  simp only [Act.put, List.getElem_toArray, List.getElem_cons_zero, List.getElem_cons_succ, List.setIfInBounds_toArray, List.set_cons_zero, List.set_cons_succ]
  refine wpAnyH_ready (rs := [16]) (by kernel_rfl) (by simp) ?_
  refine AllReadyH.cons (o := _) rfl (fun K hK => ?_) AllReadyH.nil
  simp only [List.getElem_toArray, List.getElem_cons_zero, List.getElem_cons_succ]
  rw [if_pos (by rfl)]
  refine wp_store_blk 45 (.tmp 8) (.tmp 93) rfl g8 rfl _ rfl _ 45 hz (by rfl) (by kernel_rfl) (by kernel_rfl) ?_
  intro w13 hq gr
  replace hB := hB.away av_hB_z gr
  clear po
  clear pb
  replace qt := qt.away av_qt_z gr
  replace qd := qd.away av_qd_z gr
  replace qdw := own_away qdw y_qd_z.out gr
  replace sr := sr.away av_sr_z gr
  replace sq_ := sq_.away av_sq__z gr
  replace lz_qd := Nat.le_trans lz_qd gr.size
  replace ho := blk_a ho gr d_o_z
  replace hp := blk_a hp gr (ne_symm d_z_p)
  replace bel := below_grown bel gr oz bel.size
  clear hz
  have hz := hq
  clear hq gr
  refine hK.out _ _ ⟨ho, hp⟩ (fun hH14 => ?_)
  clear hK K
  simp only [Act.put]
  refine wpAnyH_take (i := 17) (v := ?_) rfl (by kernel_rfl) (by kernel_rfl) (by kernel_rfl) (fun _ _ _ h => h) (Or.inl ⟨by rfl, ?_⟩) hH14 ?_
  rotate_left
  · ((intro W hW; clear hW; go_simp) <;> with_reducible rfl)
  simp only [Act.put, List.getElem_toArray, List.getElem_cons_zero, List.getElem_cons_succ, List.setIfInBounds_toArray, List.set_cons_zero, List.set_cons_succ]
  refine wpAnyH_done (by kernel_rfl) ?_ _
  go_wp2_with fail
  exact bodyPost_ret (results_cell_tmp_row rfl _ _ _ _ _ _ _ rfl hz Try.underlying45 rfl (by kernel_rfl) (.int .i64 er) rfl) rfl ⟨y0, y1, y2, y3, y4, y5, g0, g1, g2, g3, g4, g5, g6, g7, lr, lq, Ar, Aq, cr, cq, er, rfl, sr, sq_, fr1.mono ob, fr2.mono ob, bel, hQ.trans HP.out.symm⟩
set_option linter.unusedVariables false in
set_option maxRecDepth 100000 in
set_option maxHeartbeats 16000000 in
theorem ricabout_tb (o0 o1 o2 o3 : UInt8) (B : Option Addr) (nB cB : Nat) (l : List UInt8) (ty cd : Int) (f0 f1 f2 f3 f4 f5 : Int) (a0 a1 a2 a3 a4 a5 a6 a7 : UInt8) (lo lb : List UInt8) (no nb : Nat) (w : World) (hB : Sl w B nB cB l) (hm : nB ≤ 100000) (hg : ipGet l = (([f0, f1, f2, f3, f4, f5], [a0, a1, a2, a3, a4, a5, a6, a7]), (lo, lb), 0)) (hy : icMay f3 f5 a0 a1 a2 a3 a4 a5 a6 a7 lb = true) (c0 : ¬ 0 < f3) (c1 : hostOk a0 a1 a2 a3 = true) (c2 : hostOk a4 a5 a6 a7 = true) (c3 : f5 = 1) (c4 : 8 ≤ nb) (x : UInt8) (hx : lb[0]? = some x) (c5 : x.toNat = 0) (d1 : byteOk ty = false) (h1 : lo.length = no) (h2 : lb.length = nb) : Calls Try.prog 27 #[.agg #[.int .u8 (o0.toNat : Int), .int .u8 (o1.toNat : Int), .int .u8 (o2.toNat : Int), .int .u8 (o3.toNat : Int)], .slice B nB cB, .int .i64 ty, .int .i64 cd] w (PkPost (icAbout o0 o1 o2 o3 l ty cd) w) := by
  obtain ⟨ii, hii, hz0, hz1, hz2⟩ := info_parts Try.info5
  have HG := Lib.hid hg
  have HM := Lib.hid hm
  have HL1 := Lib.hid h1
  have HL2 := Lib.hid h2
  have HP : Hid (icAbout o0 o1 o2 o3 l ty cd = pkNone 1) := Lib.hid (by rw [icAbout_eq _ _ _ _ _ _ hg]; unfold icAb; rw [if_neg (by decide), if_neg (by rw [hy]; decide)]; exact if_pos (by rw [d1]; rfl))
  have t0 : decide ((0 : Int) < f3) = false := decide_eq_false c0
  have H1 := Lib.hid c1
  have H2 := Lib.hid c2
  have t3 : (f5 == 1) = true := by simpa using c3
  have H8 : Hid (0 < nb) := Lib.hid (by omega)
  have t4 : decide ((nb : Int) < 8) = false := decide_eq_false (by omega)
  have m0 : 0 < nb := by omega
  have x0 : ((x.toNat : Int) == 0) = true := by simp; omega
  have y0 : ((x.toNat : Int) != 0) = false := by simp; omega
  have HX := Lib.hid hx
  have D1 := Lib.hid d1
  clear hg hm h1 h2 hy d1 c0 c1 c2 c3 hx c5 c4
  have bel := Below.refl w.heap.size w
  go_enter Try.func27, Try.ntmps27
  go_wp2_with (first | ((with_reducible show wpList _ _ _ (⟨some 4, _, _, _, _, _⟩ :: _) _ _); refine wpList_box_n rfl 24 (.tmp 0) rfl #[.int .u8 (o0.toNat : Int), .int .u8 (o1.toNat : Int), .int .u8 (o2.toNat : Int), .int .u8 (o3.toNat : Int)] rfl ?_; intro g4 w1 ge lt hh bb; have av_hB_o := hB.av_new ge; have oo := Nat.le_trans bel.size ge; replace hB := hB.below bb; replace bel := bel.trans (bb.mono bel.size); have ho := hh; clear hh lt ge bb) | ((with_reducible show wpList _ _ _ (⟨some 8, _, _, _, _, _⟩ :: _) _ _); refine wpList_new_a rfl 45 rfl #[.int .i64 0, .int .i64 0, .int .i64 0, .int .i64 0, .int .i64 0, .int .i64 0, .int .u8 0, .int .u8 0, .int .u8 0, .int .u8 0, .int .u8 0, .int .u8 0, .int .u8 0, .int .u8 0, .slice none 0 0, .slice none 0 0] (by kernel_rfl) ?_; intro g8 w2 ge hh bb; have d_o_z := ne_new (hlt ho) ge; have av_hB_z := hB.av_new ge; have oz := Nat.le_trans bel.size ge; replace ho := blk_u ho bb; replace hB := hB.below bb; replace bel := bel.trans (bb.mono bel.size); have hz := hh; clear hh ge bb))
  with_reducible refine (rget6_n _ _ _ l f0 f1 f2 f3 f4 f5 a0 a1 a2 a3 a4 a5 a6 a7 lo lb no nb 0 _ hB HM.out HG.out HL1.out HL2.out).mono ?_
  rintro e w3 ⟨Ao, co, Ab, cb, rfl, po, pb, b3⟩
  replace ho := blk_u ho b3
  replace hz := blk_u hz b3
  replace hB := hB.below b3
  replace bel := bel.trans (b3.mono bel.size)
  clear b3
  replace po : Sl w3 (Ao) (no) (co) (lo) := po
  replace pb : Sl w3 (Ab) (nb) (cb) (lb) := pb
  obtain ⟨gB, oB, hAb⟩ := sl_some pb H8.out
  subst hAb
  go_wp2_with (first | ((with_reducible show wpList _ _ _ (⟨some 10, _, _, _, _, _⟩ :: _) _ _); refine wpList_new_a rfl 45 rfl #[.int .i64 0, .int .i64 0, .int .i64 0, .int .i64 0, .int .i64 0, .int .i64 0, .int .u8 0, .int .u8 0, .int .u8 0, .int .u8 0, .int .u8 0, .int .u8 0, .int .u8 0, .int .u8 0, .slice none 0 0, .slice none 0 0] (by kernel_rfl) ?_; intro g10 w4 ge hh bb; have d_o_p := ne_new (hlt ho) ge; have d_z_p := ne_new (hlt hz) ge; have av_hB_p := hB.av_new ge; have av_po_p := po.av_new ge; have av_pb_p := pb.av_new ge; have op := Nat.le_trans bel.size ge; replace ho := blk_u ho bb; replace hz := blk_u hz bb; replace hB := hB.below bb; replace po := po.below bb; replace pb := pb.below bb; replace bel := bel.trans (bb.mono bel.size); have hp := hh; clear hh ge bb) | ((with_reducible show wpList _ _ _ (⟨none, Op.store _ (.tmp 10) _, _, _, _, _⟩ :: _) _ _); refine wpList_store_blk rfl 45 (.tmp 10) (.tmp 17) rfl g10 rfl _ rfl _ 45 hp (by rfl) (by kernel_rfl) (by kernel_rfl) ?_; intro w5 hq gr; replace hB := hB.away av_hB_p gr; replace po := po.away av_po_p gr; replace pb := pb.away av_pb_p gr; replace ho := blk_a ho gr d_o_p; replace hz := blk_a hz gr d_z_p; replace bel := below_grown bel gr op bel.size; clear hp; have hp := hq; clear hq gr; have R24 := cell_lit hp 3 _ rfl; have R28 := Lib.hid (range_lit hp 6 4 [.int .u8 (a0.toNat : Int), .int .u8 (a1.toNat : Int), .int .u8 (a2.toNat : Int), .int .u8 (a3.toNat : Int)] rfl)) | ((with_reducible show wpList _ _ _ (⟨some 28, _, _, _, _, _⟩ :: _) _ _); refine wpList_load_rng 24 (.tmp 27) rfl (by kernel_rfl) _ _ rfl _ R28.out _ Try.underlying24 rfl (by kernel_rfl) ?_))
  try clear R24
  try clear R28
  with_reducible refine (rodd_any _ _ _ _ _).mono ?_
  rintro e w6 ⟨rfl, b6⟩
  replace ho := blk_u ho b6
  replace hz := blk_u hz b6
  replace hp := blk_u hp b6
  replace hB := hB.below b6
  replace po := po.below b6
  replace pb := pb.below b6
  replace bel := bel.trans (b6.mono bel.size)
  clear b6
  rw [H1.out]
  have R33 := Lib.hid (range_lit hp 10 4 [.int .u8 (a4.toNat : Int), .int .u8 (a5.toNat : Int), .int .u8 (a6.toNat : Int), .int .u8 (a7.toNat : Int)] rfl)
  go_wp2_with (first | ((with_reducible show wpList _ _ _ (⟨some 33, _, _, _, _, _⟩ :: _) _ _); refine wpList_load_rng 24 (.tmp 32) rfl (by kernel_rfl) _ _ rfl _ R33.out _ Try.underlying24 rfl (by kernel_rfl) ?_))
  try clear R33
  with_reducible refine (rodd_any _ _ _ _ _).mono ?_
  rintro e w7 ⟨rfl, b7⟩
  replace ho := blk_u ho b7
  replace hz := blk_u hz b7
  replace hp := blk_u hp b7
  replace hB := hB.below b7
  replace po := po.below b7
  replace pb := pb.below b7
  replace bel := bel.trans (b7.mono bel.size)
  clear b7
  rw [H2.out]
  have R38 := cell_lit hp 5 _ rfl
  have R42 := cell_lit hp 15 _ rfl
  have R47 := cell_lit hp 15 _ rfl
  have R49 := (by have h_ := sl_at pb (j := 0) HX.out; rw [Nat.add_zero] at h_; exact h_)
  go_wp2_with fail
  clear R38 R42 R47 R49
  with_reducible refine (rbyte_any _ _).mono ?_
  rintro e _ ⟨rfl, rfl⟩
  rw [D1.out]
  go_wp2_with (first | ((with_reducible show wpList _ _ _ (⟨none, Op.store _ (.tmp 8) _, _, _, _, _⟩ :: _) _ _); refine wpList_store_blk rfl 45 (.tmp 8) (.tmp 69) rfl g8 rfl _ rfl _ 45 hz (by rfl) (by kernel_rfl) (by kernel_rfl) ?_; intro w8 hq gr; replace hB := hB.away av_hB_z gr; clear po; clear pb; replace ho := blk_a ho gr d_o_z; replace hp := blk_a hp gr (ne_symm d_z_p); replace bel := below_grown bel gr oz bel.size; clear hz; have hz := hq; clear hq gr))
  exact bodyPost_ret (results_cell_tmp_row rfl _ _ _ _ _ _ _ rfl hz Try.underlying45 rfl (by kernel_rfl) (.int .i64 1) rfl) rfl (by rw [HP.out]; exact PkPost.none bel)
set_option linter.unusedVariables false in
set_option maxRecDepth 100000 in
set_option maxHeartbeats 16000000 in
theorem ricabout_ub (o0 o1 o2 o3 : UInt8) (B : Option Addr) (nB cB : Nat) (l : List UInt8) (ty cd : Int) (f0 f1 f2 f3 f4 f5 : Int) (a0 a1 a2 a3 a4 a5 a6 a7 : UInt8) (lo lb : List UInt8) (no nb : Nat) (w : World) (hB : Sl w B nB cB l) (hm : nB ≤ 100000) (hg : ipGet l = (([f0, f1, f2, f3, f4, f5], [a0, a1, a2, a3, a4, a5, a6, a7]), (lo, lb), 0)) (hy : icMay f3 f5 a0 a1 a2 a3 a4 a5 a6 a7 lb = true) (c0 : ¬ 0 < f3) (c1 : hostOk a0 a1 a2 a3 = true) (c2 : hostOk a4 a5 a6 a7 = true) (c3 : f5 = 1) (c4 : 8 ≤ nb) (x : UInt8) (hx : lb[0]? = some x) (c5 : x.toNat = 0) (d1 : byteOk ty = true) (d2 : byteOk cd = false) (h1 : lo.length = no) (h2 : lb.length = nb) : Calls Try.prog 27 #[.agg #[.int .u8 (o0.toNat : Int), .int .u8 (o1.toNat : Int), .int .u8 (o2.toNat : Int), .int .u8 (o3.toNat : Int)], .slice B nB cB, .int .i64 ty, .int .i64 cd] w (PkPost (icAbout o0 o1 o2 o3 l ty cd) w) := by
  obtain ⟨ii, hii, hz0, hz1, hz2⟩ := info_parts Try.info5
  have HG := Lib.hid hg
  have HM := Lib.hid hm
  have HL1 := Lib.hid h1
  have HL2 := Lib.hid h2
  have HP : Hid (icAbout o0 o1 o2 o3 l ty cd = pkNone 1) := Lib.hid (by rw [icAbout_eq _ _ _ _ _ _ hg]; unfold icAb; rw [if_neg (by decide), if_neg (by rw [hy]; decide)]; exact if_pos (by rw [d1, d2]; rfl))
  have t0 : decide ((0 : Int) < f3) = false := decide_eq_false c0
  have H1 := Lib.hid c1
  have H2 := Lib.hid c2
  have t3 : (f5 == 1) = true := by simpa using c3
  have H8 : Hid (0 < nb) := Lib.hid (by omega)
  have t4 : decide ((nb : Int) < 8) = false := decide_eq_false (by omega)
  have m0 : 0 < nb := by omega
  have x0 : ((x.toNat : Int) == 0) = true := by simp; omega
  have y0 : ((x.toNat : Int) != 0) = false := by simp; omega
  have HX := Lib.hid hx
  have D1 := Lib.hid d1
  have D2 := Lib.hid d2
  clear hg hm h1 h2 hy d1 d2 c0 c1 c2 c3 hx c5 c4
  have bel := Below.refl w.heap.size w
  go_enter Try.func27, Try.ntmps27
  go_wp2_with (first | ((with_reducible show wpList _ _ _ (⟨some 4, _, _, _, _, _⟩ :: _) _ _); refine wpList_box_n rfl 24 (.tmp 0) rfl #[.int .u8 (o0.toNat : Int), .int .u8 (o1.toNat : Int), .int .u8 (o2.toNat : Int), .int .u8 (o3.toNat : Int)] rfl ?_; intro g4 w1 ge lt hh bb; have av_hB_o := hB.av_new ge; have oo := Nat.le_trans bel.size ge; replace hB := hB.below bb; replace bel := bel.trans (bb.mono bel.size); have ho := hh; clear hh lt ge bb) | ((with_reducible show wpList _ _ _ (⟨some 8, _, _, _, _, _⟩ :: _) _ _); refine wpList_new_a rfl 45 rfl #[.int .i64 0, .int .i64 0, .int .i64 0, .int .i64 0, .int .i64 0, .int .i64 0, .int .u8 0, .int .u8 0, .int .u8 0, .int .u8 0, .int .u8 0, .int .u8 0, .int .u8 0, .int .u8 0, .slice none 0 0, .slice none 0 0] (by kernel_rfl) ?_; intro g8 w2 ge hh bb; have d_o_z := ne_new (hlt ho) ge; have av_hB_z := hB.av_new ge; have oz := Nat.le_trans bel.size ge; replace ho := blk_u ho bb; replace hB := hB.below bb; replace bel := bel.trans (bb.mono bel.size); have hz := hh; clear hh ge bb))
  with_reducible refine (rget6_n _ _ _ l f0 f1 f2 f3 f4 f5 a0 a1 a2 a3 a4 a5 a6 a7 lo lb no nb 0 _ hB HM.out HG.out HL1.out HL2.out).mono ?_
  rintro e w3 ⟨Ao, co, Ab, cb, rfl, po, pb, b3⟩
  replace ho := blk_u ho b3
  replace hz := blk_u hz b3
  replace hB := hB.below b3
  replace bel := bel.trans (b3.mono bel.size)
  clear b3
  replace po : Sl w3 (Ao) (no) (co) (lo) := po
  replace pb : Sl w3 (Ab) (nb) (cb) (lb) := pb
  obtain ⟨gB, oB, hAb⟩ := sl_some pb H8.out
  subst hAb
  go_wp2_with (first | ((with_reducible show wpList _ _ _ (⟨some 10, _, _, _, _, _⟩ :: _) _ _); refine wpList_new_a rfl 45 rfl #[.int .i64 0, .int .i64 0, .int .i64 0, .int .i64 0, .int .i64 0, .int .i64 0, .int .u8 0, .int .u8 0, .int .u8 0, .int .u8 0, .int .u8 0, .int .u8 0, .int .u8 0, .int .u8 0, .slice none 0 0, .slice none 0 0] (by kernel_rfl) ?_; intro g10 w4 ge hh bb; have d_o_p := ne_new (hlt ho) ge; have d_z_p := ne_new (hlt hz) ge; have av_hB_p := hB.av_new ge; have av_po_p := po.av_new ge; have av_pb_p := pb.av_new ge; have op := Nat.le_trans bel.size ge; replace ho := blk_u ho bb; replace hz := blk_u hz bb; replace hB := hB.below bb; replace po := po.below bb; replace pb := pb.below bb; replace bel := bel.trans (bb.mono bel.size); have hp := hh; clear hh ge bb) | ((with_reducible show wpList _ _ _ (⟨none, Op.store _ (.tmp 10) _, _, _, _, _⟩ :: _) _ _); refine wpList_store_blk rfl 45 (.tmp 10) (.tmp 17) rfl g10 rfl _ rfl _ 45 hp (by rfl) (by kernel_rfl) (by kernel_rfl) ?_; intro w5 hq gr; replace hB := hB.away av_hB_p gr; replace po := po.away av_po_p gr; replace pb := pb.away av_pb_p gr; replace ho := blk_a ho gr d_o_p; replace hz := blk_a hz gr d_z_p; replace bel := below_grown bel gr op bel.size; clear hp; have hp := hq; clear hq gr; have R24 := cell_lit hp 3 _ rfl; have R28 := Lib.hid (range_lit hp 6 4 [.int .u8 (a0.toNat : Int), .int .u8 (a1.toNat : Int), .int .u8 (a2.toNat : Int), .int .u8 (a3.toNat : Int)] rfl)) | ((with_reducible show wpList _ _ _ (⟨some 28, _, _, _, _, _⟩ :: _) _ _); refine wpList_load_rng 24 (.tmp 27) rfl (by kernel_rfl) _ _ rfl _ R28.out _ Try.underlying24 rfl (by kernel_rfl) ?_))
  try clear R24
  try clear R28
  with_reducible refine (rodd_any _ _ _ _ _).mono ?_
  rintro e w6 ⟨rfl, b6⟩
  replace ho := blk_u ho b6
  replace hz := blk_u hz b6
  replace hp := blk_u hp b6
  replace hB := hB.below b6
  replace po := po.below b6
  replace pb := pb.below b6
  replace bel := bel.trans (b6.mono bel.size)
  clear b6
  rw [H1.out]
  have R33 := Lib.hid (range_lit hp 10 4 [.int .u8 (a4.toNat : Int), .int .u8 (a5.toNat : Int), .int .u8 (a6.toNat : Int), .int .u8 (a7.toNat : Int)] rfl)
  go_wp2_with (first | ((with_reducible show wpList _ _ _ (⟨some 33, _, _, _, _, _⟩ :: _) _ _); refine wpList_load_rng 24 (.tmp 32) rfl (by kernel_rfl) _ _ rfl _ R33.out _ Try.underlying24 rfl (by kernel_rfl) ?_))
  try clear R33
  with_reducible refine (rodd_any _ _ _ _ _).mono ?_
  rintro e w7 ⟨rfl, b7⟩
  replace ho := blk_u ho b7
  replace hz := blk_u hz b7
  replace hp := blk_u hp b7
  replace hB := hB.below b7
  replace po := po.below b7
  replace pb := pb.below b7
  replace bel := bel.trans (b7.mono bel.size)
  clear b7
  rw [H2.out]
  have R38 := cell_lit hp 5 _ rfl
  have R42 := cell_lit hp 15 _ rfl
  have R47 := cell_lit hp 15 _ rfl
  have R49 := (by have h_ := sl_at pb (j := 0) HX.out; rw [Nat.add_zero] at h_; exact h_)
  go_wp2_with fail
  clear R38 R42 R47 R49
  with_reducible refine (rbyte_any _ _).mono ?_
  rintro e _ ⟨rfl, rfl⟩
  rw [D1.out]
  go_wp2_with fail
  with_reducible refine (rbyte_any _ _).mono ?_
  rintro e _ ⟨rfl, rfl⟩
  rw [D2.out]
  go_wp2_with (first | ((with_reducible show wpList _ _ _ (⟨none, Op.store _ (.tmp 8) _, _, _, _, _⟩ :: _) _ _); refine wpList_store_blk rfl 45 (.tmp 8) (.tmp 69) rfl g8 rfl _ rfl _ 45 hz (by rfl) (by kernel_rfl) (by kernel_rfl) ?_; intro w8 hq gr; replace hB := hB.away av_hB_z gr; clear po; clear pb; replace ho := blk_a ho gr d_o_z; replace hp := blk_a hp gr (ne_symm d_z_p); replace bel := below_grown bel gr oz bel.size; clear hz; have hz := hq; clear hq gr))
  exact bodyPost_ret (results_cell_tmp_row rfl _ _ _ _ _ _ _ rfl hz Try.underlying45 rfl (by kernel_rfl) (.int .i64 1) rfl) rfl (by rw [HP.out]; exact PkPost.none bel)
set_option linter.unusedVariables false in
set_option maxRecDepth 100000 in
set_option maxHeartbeats 16000000 in
theorem ricabout_vb (o0 o1 o2 o3 : UInt8) (B : Option Addr) (nB cB : Nat) (l : List UInt8) (ty cd : Int) (f0 f1 f2 f3 f4 f5 : Int) (a0 a1 a2 a3 a4 a5 a6 a7 : UInt8) (lo lb : List UInt8) (no nb : Nat) (w : World) (hB : Sl w B nB cB l) (hm : nB ≤ 100000) (hg : ipGet l = (([f0, f1, f2, f3, f4, f5], [a0, a1, a2, a3, a4, a5, a6, a7]), (lo, lb), 0)) (hy : icMay f3 f5 a0 a1 a2 a3 a4 a5 a6 a7 lb = true) (c0 : ¬ 0 < f3) (c1 : hostOk a0 a1 a2 a3 = true) (c2 : hostOk a4 a5 a6 a7 = true) (c3 : f5 = 1) (c4 : 8 ≤ nb) (x : UInt8) (hx : lb[0]? = some x) (c5 : x.toNat = 0) (d1 : byteOk ty = true) (d2 : byteOk cd = true) (hn : nb ≤ 8) (h1 : lo.length = no) (h2 : lb.length = nb) : Calls Try.prog 27 #[.agg #[.int .u8 (o0.toNat : Int), .int .u8 (o1.toNat : Int), .int .u8 (o2.toNat : Int), .int .u8 (o3.toNat : Int)], .slice B nB cB, .int .i64 ty, .int .i64 cd] w (PkPost (icAbout o0 o1 o2 o3 l ty cd) w) := by
  obtain ⟨ii, hii, hz0, hz1, hz2⟩ := info_parts Try.info5
  have HG := Lib.hid hg
  have HM := Lib.hid hm
  have HL1 := Lib.hid h1
  have HL2 := Lib.hid h2
  have t0 : decide ((0 : Int) < f3) = false := decide_eq_false c0
  have H1 := Lib.hid c1
  have H2 := Lib.hid c2
  have t3 : (f5 == 1) = true := by simpa using c3
  have H8 : Hid (0 < nb) := Lib.hid (by omega)
  have t4 : decide ((nb : Int) < 8) = false := decide_eq_false (by omega)
  have m0 : 0 < nb := by omega
  have x0 : ((x.toNat : Int) == 0) = true := by simp; omega
  have y0 : ((x.toNat : Int) != 0) = false := by simp; omega
  have HX := Lib.hid hx
  have D1 := Lib.hid d1
  have D2 := Lib.hid d2
  have hlen := ipget_len hg
  obtain ⟨k, hk⟩ : ∃ k, k = 20 + no + nb := ⟨_, rfl⟩
  have HP : Hid (icAbout o0 o1 o2 o3 l ty cd = icPut 0 0 0 0 64 o0 o1 o2 o3 a0 a1 a2 a3 [] ty cd 0 (l.take k)) := Lib.hid (by rw [icAbout_eq _ _ _ _ _ _ hg]; unfold icAb; rw [if_neg (by decide), if_neg (by rw [hy]; decide), h1, h2, hk, show min nb 8 = nb by omega])
  have HK : Hid (k ≤ nB) := Lib.hid (by have := hB.1; omega)
  have HN := Lib.hid hm
  have t7 : decide ((8 : Int) < nb) = false := decide_eq_false (by omega)
  have b0 : (0 : Int) ≤ no := by omega
  have b1 : (no : Int) ≤ 100000 := by have := hB.1; omega
  have b2 : (0 : Int) ≤ nb := by omega
  have b3 : (nb : Int) ≤ 8 := by omega
  have ek : 20 + (no : Int) + (nb : Int) = (k : Int) := by omega
  have ew : IntKind.i64.wrap (k : Int) = (k : Int) := IntWalk.i64_in _ (by have := hB.1; omega)
  clear hg hm h1 h2 hy hk hlen hn d1 d2 c0 c1 c2 c3 hx c5 c4
  have bel := Below.refl w.heap.size w
  go_enter Try.func27, Try.ntmps27
  go_wp2_with (first | ((with_reducible show wpList _ _ _ (⟨some 4, _, _, _, _, _⟩ :: _) _ _); refine wpList_box_n rfl 24 (.tmp 0) rfl #[.int .u8 (o0.toNat : Int), .int .u8 (o1.toNat : Int), .int .u8 (o2.toNat : Int), .int .u8 (o3.toNat : Int)] rfl ?_; intro g4 w1 ge lt hh bb; have av_hB_o := hB.av_new ge; have oo := Nat.le_trans bel.size ge; replace hB := hB.below bb; replace bel := bel.trans (bb.mono bel.size); have ho := hh; clear hh lt ge bb) | ((with_reducible show wpList _ _ _ (⟨some 8, _, _, _, _, _⟩ :: _) _ _); refine wpList_new_a rfl 45 rfl #[.int .i64 0, .int .i64 0, .int .i64 0, .int .i64 0, .int .i64 0, .int .i64 0, .int .u8 0, .int .u8 0, .int .u8 0, .int .u8 0, .int .u8 0, .int .u8 0, .int .u8 0, .int .u8 0, .slice none 0 0, .slice none 0 0] (by kernel_rfl) ?_; intro g8 w2 ge hh bb; have d_o_z := ne_new (hlt ho) ge; have av_hB_z := hB.av_new ge; have oz := Nat.le_trans bel.size ge; replace ho := blk_u ho bb; replace hB := hB.below bb; replace bel := bel.trans (bb.mono bel.size); have hz := hh; clear hh ge bb))
  with_reducible refine (rget6_n _ _ _ l f0 f1 f2 f3 f4 f5 a0 a1 a2 a3 a4 a5 a6 a7 lo lb no nb 0 _ hB HM.out HG.out HL1.out HL2.out).mono ?_
  rintro e w3 ⟨Ao, co, Ab, cb, rfl, po, pb, b3⟩
  replace ho := blk_u ho b3
  replace hz := blk_u hz b3
  replace hB := hB.below b3
  replace bel := bel.trans (b3.mono bel.size)
  clear b3
  replace po : Sl w3 (Ao) (no) (co) (lo) := po
  replace pb : Sl w3 (Ab) (nb) (cb) (lb) := pb
  obtain ⟨gB, oB, hAb⟩ := sl_some pb H8.out
  subst hAb
  go_wp2_with (first | ((with_reducible show wpList _ _ _ (⟨some 10, _, _, _, _, _⟩ :: _) _ _); refine wpList_new_a rfl 45 rfl #[.int .i64 0, .int .i64 0, .int .i64 0, .int .i64 0, .int .i64 0, .int .i64 0, .int .u8 0, .int .u8 0, .int .u8 0, .int .u8 0, .int .u8 0, .int .u8 0, .int .u8 0, .int .u8 0, .slice none 0 0, .slice none 0 0] (by kernel_rfl) ?_; intro g10 w4 ge hh bb; have d_o_p := ne_new (hlt ho) ge; have d_z_p := ne_new (hlt hz) ge; have av_hB_p := hB.av_new ge; have av_po_p := po.av_new ge; have av_pb_p := pb.av_new ge; have op := Nat.le_trans bel.size ge; replace ho := blk_u ho bb; replace hz := blk_u hz bb; replace hB := hB.below bb; replace po := po.below bb; replace pb := pb.below bb; replace bel := bel.trans (bb.mono bel.size); have hp := hh; clear hh ge bb) | ((with_reducible show wpList _ _ _ (⟨none, Op.store _ (.tmp 10) _, _, _, _, _⟩ :: _) _ _); refine wpList_store_blk rfl 45 (.tmp 10) (.tmp 17) rfl g10 rfl _ rfl _ 45 hp (by rfl) (by kernel_rfl) (by kernel_rfl) ?_; intro w5 hq gr; replace hB := hB.away av_hB_p gr; replace po := po.away av_po_p gr; replace pb := pb.away av_pb_p gr; replace ho := blk_a ho gr d_o_p; replace hz := blk_a hz gr d_z_p; replace bel := below_grown bel gr op bel.size; clear hp; have hp := hq; clear hq gr; have R24 := cell_lit hp 3 _ rfl; have R28 := Lib.hid (range_lit hp 6 4 [.int .u8 (a0.toNat : Int), .int .u8 (a1.toNat : Int), .int .u8 (a2.toNat : Int), .int .u8 (a3.toNat : Int)] rfl)) | ((with_reducible show wpList _ _ _ (⟨some 28, _, _, _, _, _⟩ :: _) _ _); refine wpList_load_rng 24 (.tmp 27) rfl (by kernel_rfl) _ _ rfl _ R28.out _ Try.underlying24 rfl (by kernel_rfl) ?_))
  try clear R24
  try clear R28
  with_reducible refine (rodd_any _ _ _ _ _).mono ?_
  rintro e w6 ⟨rfl, b6⟩
  replace ho := blk_u ho b6
  replace hz := blk_u hz b6
  replace hp := blk_u hp b6
  replace hB := hB.below b6
  replace po := po.below b6
  replace pb := pb.below b6
  replace bel := bel.trans (b6.mono bel.size)
  clear b6
  rw [H1.out]
  have R33 := Lib.hid (range_lit hp 10 4 [.int .u8 (a4.toNat : Int), .int .u8 (a5.toNat : Int), .int .u8 (a6.toNat : Int), .int .u8 (a7.toNat : Int)] rfl)
  go_wp2_with (first | ((with_reducible show wpList _ _ _ (⟨some 33, _, _, _, _, _⟩ :: _) _ _); refine wpList_load_rng 24 (.tmp 32) rfl (by kernel_rfl) _ _ rfl _ R33.out _ Try.underlying24 rfl (by kernel_rfl) ?_))
  try clear R33
  with_reducible refine (rodd_any _ _ _ _ _).mono ?_
  rintro e w7 ⟨rfl, b7⟩
  replace ho := blk_u ho b7
  replace hz := blk_u hz b7
  replace hp := blk_u hp b7
  replace hB := hB.below b7
  replace po := po.below b7
  replace pb := pb.below b7
  replace bel := bel.trans (b7.mono bel.size)
  clear b7
  rw [H2.out]
  have R38 := cell_lit hp 5 _ rfl
  have R42 := cell_lit hp 15 _ rfl
  have R47 := cell_lit hp 15 _ rfl
  have R49 := (by have h_ := sl_at pb (j := 0) HX.out; rw [Nat.add_zero] at h_; exact h_)
  go_wp2_with fail
  clear R38 R42 R47 R49
  with_reducible refine (rbyte_any _ _).mono ?_
  rintro e _ ⟨rfl, rfl⟩
  rw [D1.out]
  go_wp2_with fail
  with_reducible refine (rbyte_any _ _).mono ?_
  rintro e _ ⟨rfl, rfl⟩
  rw [D2.out]
  have R71 := cell_lit hp 14 _ rfl
  have R75 := cell_lit hp 15 _ rfl
  go_wp2_with fail
  clear R71 R75
  replace bel := bel.drew
  replace ho : w7.drew.heap[g4]? = _ := ho
  replace hz : w7.drew.heap[g8]? = _ := hz
  replace hp : w7.drew.heap[g10]? = _ := hp
  replace hB := hB.drew
  replace po := po.drew
  replace pb := pb.drew
  refine wp_region_held_drew (S := fun W => W.heap[g4]? = some (.cells #[.int .u8 (o0.toNat : Int), .int .u8 (o1.toNat : Int), .int .u8 (o2.toNat : Int), .int .u8 (o3.toNat : Int)] 24 (0, 0)) ∧ W.heap[g10]? = some (.cells #[.int .i64 f0, .int .i64 f1, .int .i64 f2, .int .i64 f3, .int .i64 f4, .int .i64 f5, .int .u8 (a0.toNat : Int), .int .u8 (a1.toNat : Int), .int .u8 (a2.toNat : Int), .int .u8 (a3.toNat : Int), .int .u8 (a4.toNat : Int), .int .u8 (a5.toNat : Int), .int .u8 (a6.toNat : Int), .int .u8 (a7.toNat : Int), .slice Ao no co, .slice (some ⟨gB, oB, none⟩) nb cb] 45 (0, 0))) (by kernel_rfl) ⟨ho, hp⟩ (fun hH => ?_)
  generalize w7.drew = w8 at bel ho hz hp hB po pb hH ⊢
  refine wpAnyH_take (i := 0) (v := .agg #[.int .u8 (o0.toNat : Int), .int .u8 (o1.toNat : Int), .int .u8 (o2.toNat : Int), .int .u8 (o3.toNat : Int)]) rfl (by kernel_rfl) (by kernel_rfl) (by kernel_rfl) (fun _ _ _ h => h) (yieldsIf_load_part (by kernel_rfl) 24 _ rfl g4 0 4 rfl _ 24 (0, 0) (fun W hW => hW.1) _ rfl _ Try.underlying24 rfl (by kernel_rfl)) hH ?_
  simp only [Act.put, List.getElem_toArray, List.getElem_cons_zero, List.setIfInBounds_toArray, List.set_cons_zero, List.set_cons_succ]
  refine wpAnyH_take (i := 1) (v := ?_) rfl (by kernel_rfl) (by kernel_rfl) (by kernel_rfl) (fun _ _ _ h => h) (Or.inl ⟨by rfl, ?_⟩) hH ?_
  rotate_left
  · ((intro W hW; clear hW; go_simp) <;> with_reducible rfl)
  simp only [Act.put, List.getElem_toArray, List.getElem_cons_zero, List.getElem_cons_succ, List.setIfInBounds_toArray, List.set_cons_zero, List.set_cons_succ]
  refine wpAnyH_take (i := 2) (v := .agg #[.int .u8 (a0.toNat : Int), .int .u8 (a1.toNat : Int), .int .u8 (a2.toNat : Int), .int .u8 (a3.toNat : Int)]) rfl (by kernel_rfl) (by kernel_rfl) (by kernel_rfl) (fun _ _ _ h => h) (yieldsIf_load_part (by kernel_rfl) 24 _ rfl g10 6 4 rfl _ 45 (0, 0) (fun W hW => hW.2) _ rfl _ Try.underlying24 rfl (by kernel_rfl)) hH ?_
  simp only [Act.put, List.getElem_toArray, List.getElem_cons_zero, List.getElem_cons_succ, List.setIfInBounds_toArray, List.set_cons_zero, List.set_cons_succ]
  refine wpAnyH_take (i := 3) (v := ?_) rfl (by kernel_rfl) (by kernel_rfl) (by kernel_rfl) (fun _ _ _ h => h) (Or.inl ⟨by rfl, ?_⟩) hH ?_
  rotate_left
  · ((intro W hW; clear hW; go_simp) <;> with_reducible rfl)
  simp only [Act.put, List.getElem_toArray, List.getElem_cons_zero, List.getElem_cons_succ, List.setIfInBounds_toArray, List.set_cons_zero, List.set_cons_succ]
  refine wpAnyH_take (i := 4) (v := ?_) rfl (by kernel_rfl) (by kernel_rfl) (by kernel_rfl) (fun _ _ _ h => h) (Or.inl ⟨by rfl, ?_⟩) hH ?_
  rotate_left
  · ((intro W hW; clear hW; go_simp) <;> with_reducible rfl)
  simp only [Act.put, List.getElem_toArray, List.getElem_cons_zero, List.getElem_cons_succ, List.setIfInBounds_toArray, List.set_cons_zero, List.set_cons_succ]
  refine wpAnyH_take (i := 5) (v := ?_) rfl (by kernel_rfl) (by kernel_rfl) (by kernel_rfl) (fun _ _ _ h => h) (Or.inl ⟨by rfl, ?_⟩) hH ?_
  rotate_left
  · ((intro W hW; clear hW; go_simp) <;> with_reducible rfl)
  simp only [Act.put, List.getElem_toArray, List.getElem_cons_zero, List.getElem_cons_succ, List.setIfInBounds_toArray, List.set_cons_zero, List.set_cons_succ]
  refine wpAnyH_take (i := 6) (v := ?_) rfl (by kernel_rfl) (by kernel_rfl) (by kernel_rfl) (fun _ _ _ h => h) (Or.inl ⟨by rfl, ?_⟩) hH ?_
  rotate_left
  · ((intro W hW; clear hW; go_simp) <;> with_reducible rfl)
  simp only [Act.put, List.getElem_toArray, List.getElem_cons_zero, List.getElem_cons_succ, List.setIfInBounds_toArray, List.set_cons_zero, List.set_cons_succ]
  refine wpAnyH_take (i := 7) (v := ?_) rfl (by kernel_rfl) (by kernel_rfl) (by kernel_rfl) (fun _ _ _ h => h) (Or.inl ⟨by rfl, ?_⟩) hH ?_
  rotate_left
  · ((intro W hW; clear hW; go_simp) <;> with_reducible rfl)
  simp only [Act.put, List.getElem_toArray, List.getElem_cons_zero, List.getElem_cons_succ, List.setIfInBounds_toArray, List.set_cons_zero, List.set_cons_succ]
  refine wpAnyH_take (i := 8) (v := ?_) rfl (by kernel_rfl) (by kernel_rfl) (by kernel_rfl) (fun _ _ _ h => h) (Or.inl ⟨by rfl, ?_⟩) hH ?_
  rotate_left
  · ((intro W hW; clear hW; go_simp) <;> with_reducible rfl)
  simp only [Act.put, List.getElem_toArray, List.getElem_cons_zero, List.getElem_cons_succ, List.setIfInBounds_toArray, List.set_cons_zero, List.set_cons_succ]
  refine wpAnyH_take (i := 9) (v := ?_) rfl (by kernel_rfl) (by kernel_rfl) (by kernel_rfl) (fun _ _ _ h => h) (Or.inl ⟨by rfl, ?_⟩) hH ?_
  rotate_left
  · ((intro W hW; clear hW; go_simp) <;> with_reducible rfl)
  simp only [Act.put, List.getElem_toArray, List.getElem_cons_zero, List.getElem_cons_succ, List.setIfInBounds_toArray, List.set_cons_zero, List.set_cons_succ]
  obtain ⟨A89, c89, r89, f89, u89⟩ := piece_front hB (k := k) HK.out
  have qt := f89 _ hB
  have av_qt_o := av_hB_o.sub u89
  have av_qt_z := av_hB_z.sub u89
  have av_qt_p := av_hB_p.sub u89
  clear f89 u89
  refine wpAnyH_take (i := 10) (v := ?_) rfl (by kernel_rfl) (by kernel_rfl) (by kernel_rfl) (fun _ _ _ h => h) (Or.inl ⟨by rfl, ?_⟩) hH ?_
  rotate_left
  · ((intro W hW; clear hW; go_simp) <;> with_reducible rfl)
  simp only [Act.put, List.getElem_toArray, List.getElem_cons_zero, List.getElem_cons_succ, List.setIfInBounds_toArray, List.set_cons_zero, List.set_cons_succ]
  refine wpAnyH_ready (rs := [11]) (by kernel_rfl) (by simp) ?_
  refine AllReadyH.cons (o := _) rfl (fun K hK => ?_) AllReadyH.nil
  simp only [List.getElem_toArray, List.getElem_cons_zero, List.getElem_cons_succ]
  go_simp
  with_reducible refine (rcopied_o _ _ _ _ _ qt (by have := HK.out; have := HN.out; omega)).mono ?_
  rintro e w9 ⟨v, rfl, qdw, b9⟩
  dsimp only
  have y_qd_o := Lib.hid (hlt ho)
  have y_qd_z := Lib.hid (hlt hz)
  have y_qd_p := Lib.hid (hlt hp)
  have bl_hB_qd := hB.bl_new
  have bl_po_qd := po.bl_new
  have bl_pb_qd := pb.bl_new
  have bl_qt_qd := qt.bl_new
  have qdlo := bel.size
  have lz_qd := b9.size
  replace ho := blk_u ho b9
  replace hz := blk_u hz b9
  replace hp := blk_u hp b9
  replace hB := hB.below b9
  replace po := po.below b9
  replace pb := pb.below b9
  replace qt := qt.below b9
  replace bel := bel.trans (b9.mono bel.size)
  clear b9
  obtain ⟨Aqd, cqd, rfl⟩ := own_val qdw
  have qd := (own_sl qdw).1
  have fr_qd := (own_sl qdw).2
  have av_qd_o := fr_qd.av y_qd_o.out
  have av_qd_z := fr_qd.av y_qd_z.out
  have av_qd_p := fr_qd.av y_qd_p.out
  refine hK.out _ _ ⟨ho, hp⟩ (fun hH10 => ?_)
  clear hK K
  refine wpAnyH_take (i := 12) (v := ?_) rfl (by kernel_rfl) (by kernel_rfl) (by kernel_rfl) (fun _ _ _ h => h) (Or.inl ⟨by rfl, ?_⟩) hH10 ?_
  rotate_left
  · ((intro W hW; clear hW; go_simp) <;> with_reducible rfl)
  simp only [Act.put, List.getElem_toArray, List.getElem_cons_zero, List.getElem_cons_succ, List.setIfInBounds_toArray, List.set_cons_zero, List.set_cons_succ]
  refine wpAnyH_ready (rs := [13]) (by kernel_rfl) (by simp) ?_
  refine AllReadyH.cons (o := _) rfl (fun K hK => ?_) AllReadyH.nil
  simp only [List.getElem_toArray, List.getElem_cons_zero, List.getElem_cons_succ]
  go_simp
  have ob := bel.size
  with_reducible refine (ricput_any _ _ _ _ _ _ _ _ _ _ _ _ _ _ _ _ _ _ _ _ _ _ _ _ _ _ [] _ _ (Sl.nil _) qd (by decide) (by decide) (by decide)).mono ?_
  rintro e w11 ⟨y0, y1, y2, y3, y4, y5, g0, g1, g2, g3, g4, g5, g6, g7, lr, lq, Ar, Aq, cr, cq, er, rfl, sr, sq_, fr1, fr2, b11, hQ⟩
  dsimp only
  have av_sr_o := fr1.av (hlt ho)
  have av_sr_z := fr1.av (hlt hz)
  have av_sr_p := fr1.av (hlt hp)
  have av_sq__o := fr2.av (hlt ho)
  have av_sq__z := fr2.av (hlt hz)
  have av_sq__p := fr2.av (hlt hp)
  replace ho := blk_u ho b11
  replace hz := blk_u hz b11
  replace hp := blk_u hp b11
  replace hB := hB.below b11
  replace po := po.below b11
  replace pb := pb.below b11
  replace qt := qt.below b11
  replace qd := qd.below b11
  replace qdw := own_under qdw b11
  replace lz_qd := Nat.le_trans lz_qd b11.size
  replace bel := bel.trans (b11.mono bel.size)
  clear b11
  replace sr : Sl w11 (Ar) (lr.length) (cr) (lr) := sr
  replace sq_ : Sl w11 (Aq) (lq.length) (cq) (lq) := sq_
  refine hK.out _ _ ⟨ho, hp⟩ (fun hH12 => ?_)
  clear hK K
  refine wpAnyH_take (i := 14) (v := ?_) rfl (by kernel_rfl) (by kernel_rfl) (by kernel_rfl) (fun _ _ _ h => h) (Or.inl ⟨by rfl, ?_⟩) hH12 ?_
  rotate_left
  · ((intro W hW; clear hW; go_simp) <;> with_reducible rfl)
  simp only [Act.put, List.getElem_toArray, List.getElem_cons_zero, List.getElem_cons_succ, List.setIfInBounds_toArray, List.set_cons_zero, List.set_cons_succ]
  refine wpAnyH_take (i := 15) (v := ?_) rfl (by kernel_rfl) (by kernel_rfl) (by kernel_rfl) (fun _ _ _ h => h) (Or.inl ⟨by rfl, ?_⟩) hH12 ?_
  rotate_left
  · ((intro W hW; clear hW; go_simp) <;> with_reducible rfl)
  simp only [Act.put, List.getElem_toArray, List.getElem_cons_zero, List.getElem_cons_succ, List.setIfInBounds_toArray, List.set_cons_zero, List.set_cons_succ]
  refine wpAnyH_ready (rs := [16]) (by kernel_rfl) (by simp) ?_
  refine AllReadyH.cons (o := _) rfl (fun K hK => ?_) AllReadyH.nil
  simp only [List.getElem_toArray, List.getElem_cons_zero, List.getElem_cons_succ]
  rw [if_pos (by rfl)]
  refine wp_store_blk 45 (.tmp 8) (.tmp 93) rfl g8 rfl _ rfl _ 45 hz (by rfl) (by kernel_rfl) (by kernel_rfl) ?_
  intro w13 hq gr
  replace hB := hB.away av_hB_z gr
  clear po
  clear pb
  replace qt := qt.away av_qt_z gr
  replace qd := qd.away av_qd_z gr
  replace qdw := own_away qdw y_qd_z.out gr
  replace sr := sr.away av_sr_z gr
  replace sq_ := sq_.away av_sq__z gr
  replace lz_qd := Nat.le_trans lz_qd gr.size
  replace ho := blk_a ho gr d_o_z
  replace hp := blk_a hp gr (ne_symm d_z_p)
  replace bel := below_grown bel gr oz bel.size
  clear hz
  have hz := hq
  clear hq gr
  refine hK.out _ _ ⟨ho, hp⟩ (fun hH14 => ?_)
  clear hK K
  simp only [Act.put]
  refine wpAnyH_take (i := 17) (v := ?_) rfl (by kernel_rfl) (by kernel_rfl) (by kernel_rfl) (fun _ _ _ h => h) (Or.inl ⟨by rfl, ?_⟩) hH14 ?_
  rotate_left
  · ((intro W hW; clear hW; go_simp) <;> with_reducible rfl)
  simp only [Act.put, List.getElem_toArray, List.getElem_cons_zero, List.getElem_cons_succ, List.setIfInBounds_toArray, List.set_cons_zero, List.set_cons_succ]
  refine wpAnyH_done (by kernel_rfl) ?_ _
  go_wp2_with fail
  exact bodyPost_ret (results_cell_tmp_row rfl _ _ _ _ _ _ _ rfl hz Try.underlying45 rfl (by kernel_rfl) (.int .i64 er) rfl) rfl ⟨y0, y1, y2, y3, y4, y5, g0, g1, g2, g3, g4, g5, g6, g7, lr, lq, Ar, Aq, cr, cq, er, rfl, sr, sq_, fr1.mono ob, fr2.mono ob, bel, hQ.trans HP.out.symm⟩
set_option linter.unusedVariables false in
set_option maxRecDepth 100000 in
set_option maxHeartbeats 16000000 in
theorem ricabout_wb (o0 o1 o2 o3 : UInt8) (B : Option Addr) (nB cB : Nat) (l : List UInt8) (ty cd : Int) (f0 f1 f2 f3 f4 f5 : Int) (a0 a1 a2 a3 a4 a5 a6 a7 : UInt8) (lo lb : List UInt8) (no nb : Nat) (w : World) (hB : Sl w B nB cB l) (hm : nB ≤ 100000) (hg : ipGet l = (([f0, f1, f2, f3, f4, f5], [a0, a1, a2, a3, a4, a5, a6, a7]), (lo, lb), 0)) (hy : icMay f3 f5 a0 a1 a2 a3 a4 a5 a6 a7 lb = true) (c0 : ¬ 0 < f3) (c1 : hostOk a0 a1 a2 a3 = true) (c2 : hostOk a4 a5 a6 a7 = true) (c3 : f5 = 1) (c4 : 8 ≤ nb) (x : UInt8) (hx : lb[0]? = some x) (c5 : x.toNat = 0) (d1 : byteOk ty = true) (d2 : byteOk cd = true) (hn : 8 < nb) (h1 : lo.length = no) (h2 : lb.length = nb) : Calls Try.prog 27 #[.agg #[.int .u8 (o0.toNat : Int), .int .u8 (o1.toNat : Int), .int .u8 (o2.toNat : Int), .int .u8 (o3.toNat : Int)], .slice B nB cB, .int .i64 ty, .int .i64 cd] w (PkPost (icAbout o0 o1 o2 o3 l ty cd) w) := by
  obtain ⟨ii, hii, hz0, hz1, hz2⟩ := info_parts Try.info5
  have HG := Lib.hid hg
  have HM := Lib.hid hm
  have HL1 := Lib.hid h1
  have HL2 := Lib.hid h2
  have t0 : decide ((0 : Int) < f3) = false := decide_eq_false c0
  have H1 := Lib.hid c1
  have H2 := Lib.hid c2
  have t3 : (f5 == 1) = true := by simpa using c3
  have H8 : Hid (0 < nb) := Lib.hid (by omega)
  have t4 : decide ((nb : Int) < 8) = false := decide_eq_false (by omega)
  have m0 : 0 < nb := by omega
  have x0 : ((x.toNat : Int) == 0) = true := by simp; omega
  have y0 : ((x.toNat : Int) != 0) = false := by simp; omega
  have HX := Lib.hid hx
  have D1 := Lib.hid d1
  have D2 := Lib.hid d2
  have hlen := ipget_len hg
  obtain ⟨k, hk⟩ : ∃ k, k = 20 + no + 8 := ⟨_, rfl⟩
  have HP : Hid (icAbout o0 o1 o2 o3 l ty cd = icPut 0 0 0 0 64 o0 o1 o2 o3 a0 a1 a2 a3 [] ty cd 0 (l.take k)) := Lib.hid (by rw [icAbout_eq _ _ _ _ _ _ hg]; unfold icAb; rw [if_neg (by decide), if_neg (by rw [hy]; decide), h1, h2, hk, show min nb 8 = 8 by omega])
  have HK : Hid (k ≤ nB) := Lib.hid (by have := hB.1; omega)
  have HN := Lib.hid hm
  have t7 : (8 : Int) < nb := by omega
  have b0 : (0 : Int) ≤ no := by omega
  have b1 : (no : Int) ≤ 100000 := by have := hB.1; omega
  have ek : 20 + (no : Int) + 8 = (k : Int) := by omega
  have ew : IntKind.i64.wrap (k : Int) = (k : Int) := IntWalk.i64_in _ (by have := hB.1; omega)
  clear hg hm h1 h2 hy hk hlen hn d1 d2 c0 c1 c2 c3 hx c5 c4
  have bel := Below.refl w.heap.size w
  go_enter Try.func27, Try.ntmps27
  go_wp2_with (first | ((with_reducible show wpList _ _ _ (⟨some 4, _, _, _, _, _⟩ :: _) _ _); refine wpList_box_n rfl 24 (.tmp 0) rfl #[.int .u8 (o0.toNat : Int), .int .u8 (o1.toNat : Int), .int .u8 (o2.toNat : Int), .int .u8 (o3.toNat : Int)] rfl ?_; intro g4 w1 ge lt hh bb; have av_hB_o := hB.av_new ge; have oo := Nat.le_trans bel.size ge; replace hB := hB.below bb; replace bel := bel.trans (bb.mono bel.size); have ho := hh; clear hh lt ge bb) | ((with_reducible show wpList _ _ _ (⟨some 8, _, _, _, _, _⟩ :: _) _ _); refine wpList_new_a rfl 45 rfl #[.int .i64 0, .int .i64 0, .int .i64 0, .int .i64 0, .int .i64 0, .int .i64 0, .int .u8 0, .int .u8 0, .int .u8 0, .int .u8 0, .int .u8 0, .int .u8 0, .int .u8 0, .int .u8 0, .slice none 0 0, .slice none 0 0] (by kernel_rfl) ?_; intro g8 w2 ge hh bb; have d_o_z := ne_new (hlt ho) ge; have av_hB_z := hB.av_new ge; have oz := Nat.le_trans bel.size ge; replace ho := blk_u ho bb; replace hB := hB.below bb; replace bel := bel.trans (bb.mono bel.size); have hz := hh; clear hh ge bb))
  with_reducible refine (rget6_n _ _ _ l f0 f1 f2 f3 f4 f5 a0 a1 a2 a3 a4 a5 a6 a7 lo lb no nb 0 _ hB HM.out HG.out HL1.out HL2.out).mono ?_
  rintro e w3 ⟨Ao, co, Ab, cb, rfl, po, pb, b3⟩
  replace ho := blk_u ho b3
  replace hz := blk_u hz b3
  replace hB := hB.below b3
  replace bel := bel.trans (b3.mono bel.size)
  clear b3
  replace po : Sl w3 (Ao) (no) (co) (lo) := po
  replace pb : Sl w3 (Ab) (nb) (cb) (lb) := pb
  obtain ⟨gB, oB, hAb⟩ := sl_some pb H8.out
  subst hAb
  go_wp2_with (first | ((with_reducible show wpList _ _ _ (⟨some 10, _, _, _, _, _⟩ :: _) _ _); refine wpList_new_a rfl 45 rfl #[.int .i64 0, .int .i64 0, .int .i64 0, .int .i64 0, .int .i64 0, .int .i64 0, .int .u8 0, .int .u8 0, .int .u8 0, .int .u8 0, .int .u8 0, .int .u8 0, .int .u8 0, .int .u8 0, .slice none 0 0, .slice none 0 0] (by kernel_rfl) ?_; intro g10 w4 ge hh bb; have d_o_p := ne_new (hlt ho) ge; have d_z_p := ne_new (hlt hz) ge; have av_hB_p := hB.av_new ge; have av_po_p := po.av_new ge; have av_pb_p := pb.av_new ge; have op := Nat.le_trans bel.size ge; replace ho := blk_u ho bb; replace hz := blk_u hz bb; replace hB := hB.below bb; replace po := po.below bb; replace pb := pb.below bb; replace bel := bel.trans (bb.mono bel.size); have hp := hh; clear hh ge bb) | ((with_reducible show wpList _ _ _ (⟨none, Op.store _ (.tmp 10) _, _, _, _, _⟩ :: _) _ _); refine wpList_store_blk rfl 45 (.tmp 10) (.tmp 17) rfl g10 rfl _ rfl _ 45 hp (by rfl) (by kernel_rfl) (by kernel_rfl) ?_; intro w5 hq gr; replace hB := hB.away av_hB_p gr; replace po := po.away av_po_p gr; replace pb := pb.away av_pb_p gr; replace ho := blk_a ho gr d_o_p; replace hz := blk_a hz gr d_z_p; replace bel := below_grown bel gr op bel.size; clear hp; have hp := hq; clear hq gr; have R24 := cell_lit hp 3 _ rfl; have R28 := Lib.hid (range_lit hp 6 4 [.int .u8 (a0.toNat : Int), .int .u8 (a1.toNat : Int), .int .u8 (a2.toNat : Int), .int .u8 (a3.toNat : Int)] rfl)) | ((with_reducible show wpList _ _ _ (⟨some 28, _, _, _, _, _⟩ :: _) _ _); refine wpList_load_rng 24 (.tmp 27) rfl (by kernel_rfl) _ _ rfl _ R28.out _ Try.underlying24 rfl (by kernel_rfl) ?_))
  try clear R24
  try clear R28
  with_reducible refine (rodd_any _ _ _ _ _).mono ?_
  rintro e w6 ⟨rfl, b6⟩
  replace ho := blk_u ho b6
  replace hz := blk_u hz b6
  replace hp := blk_u hp b6
  replace hB := hB.below b6
  replace po := po.below b6
  replace pb := pb.below b6
  replace bel := bel.trans (b6.mono bel.size)
  clear b6
  rw [H1.out]
  have R33 := Lib.hid (range_lit hp 10 4 [.int .u8 (a4.toNat : Int), .int .u8 (a5.toNat : Int), .int .u8 (a6.toNat : Int), .int .u8 (a7.toNat : Int)] rfl)
  go_wp2_with (first | ((with_reducible show wpList _ _ _ (⟨some 33, _, _, _, _, _⟩ :: _) _ _); refine wpList_load_rng 24 (.tmp 32) rfl (by kernel_rfl) _ _ rfl _ R33.out _ Try.underlying24 rfl (by kernel_rfl) ?_))
  try clear R33
  with_reducible refine (rodd_any _ _ _ _ _).mono ?_
  rintro e w7 ⟨rfl, b7⟩
  replace ho := blk_u ho b7
  replace hz := blk_u hz b7
  replace hp := blk_u hp b7
  replace hB := hB.below b7
  replace po := po.below b7
  replace pb := pb.below b7
  replace bel := bel.trans (b7.mono bel.size)
  clear b7
  rw [H2.out]
  have R38 := cell_lit hp 5 _ rfl
  have R42 := cell_lit hp 15 _ rfl
  have R47 := cell_lit hp 15 _ rfl
  have R49 := (by have h_ := sl_at pb (j := 0) HX.out; rw [Nat.add_zero] at h_; exact h_)
  go_wp2_with fail
  clear R38 R42 R47 R49
  with_reducible refine (rbyte_any _ _).mono ?_
  rintro e _ ⟨rfl, rfl⟩
  rw [D1.out]
  go_wp2_with fail
  with_reducible refine (rbyte_any _ _).mono ?_
  rintro e _ ⟨rfl, rfl⟩
  rw [D2.out]
  have R71 := cell_lit hp 14 _ rfl
  have R75 := cell_lit hp 15 _ rfl
  go_wp2_with fail
  clear R71 R75
  replace bel := bel.drew
  replace ho : w7.drew.heap[g4]? = _ := ho
  replace hz : w7.drew.heap[g8]? = _ := hz
  replace hp : w7.drew.heap[g10]? = _ := hp
  replace hB := hB.drew
  replace po := po.drew
  replace pb := pb.drew
  refine wp_region_held_drew (S := fun W => W.heap[g4]? = some (.cells #[.int .u8 (o0.toNat : Int), .int .u8 (o1.toNat : Int), .int .u8 (o2.toNat : Int), .int .u8 (o3.toNat : Int)] 24 (0, 0)) ∧ W.heap[g10]? = some (.cells #[.int .i64 f0, .int .i64 f1, .int .i64 f2, .int .i64 f3, .int .i64 f4, .int .i64 f5, .int .u8 (a0.toNat : Int), .int .u8 (a1.toNat : Int), .int .u8 (a2.toNat : Int), .int .u8 (a3.toNat : Int), .int .u8 (a4.toNat : Int), .int .u8 (a5.toNat : Int), .int .u8 (a6.toNat : Int), .int .u8 (a7.toNat : Int), .slice Ao no co, .slice (some ⟨gB, oB, none⟩) nb cb] 45 (0, 0))) (by kernel_rfl) ⟨ho, hp⟩ (fun hH => ?_)
  generalize w7.drew = w8 at bel ho hz hp hB po pb hH ⊢
  refine wpAnyH_take (i := 0) (v := .agg #[.int .u8 (o0.toNat : Int), .int .u8 (o1.toNat : Int), .int .u8 (o2.toNat : Int), .int .u8 (o3.toNat : Int)]) rfl (by kernel_rfl) (by kernel_rfl) (by kernel_rfl) (fun _ _ _ h => h) (yieldsIf_load_part (by kernel_rfl) 24 _ rfl g4 0 4 rfl _ 24 (0, 0) (fun W hW => hW.1) _ rfl _ Try.underlying24 rfl (by kernel_rfl)) hH ?_
  simp only [Act.put, List.getElem_toArray, List.getElem_cons_zero, List.setIfInBounds_toArray, List.set_cons_zero, List.set_cons_succ]
  refine wpAnyH_take (i := 1) (v := ?_) rfl (by kernel_rfl) (by kernel_rfl) (by kernel_rfl) (fun _ _ _ h => h) (Or.inl ⟨by rfl, ?_⟩) hH ?_
  rotate_left
  · ((intro W hW; clear hW; go_simp) <;> with_reducible rfl)
  simp only [Act.put, List.getElem_toArray, List.getElem_cons_zero, List.getElem_cons_succ, List.setIfInBounds_toArray, List.set_cons_zero, List.set_cons_succ]
  refine wpAnyH_take (i := 2) (v := .agg #[.int .u8 (a0.toNat : Int), .int .u8 (a1.toNat : Int), .int .u8 (a2.toNat : Int), .int .u8 (a3.toNat : Int)]) rfl (by kernel_rfl) (by kernel_rfl) (by kernel_rfl) (fun _ _ _ h => h) (yieldsIf_load_part (by kernel_rfl) 24 _ rfl g10 6 4 rfl _ 45 (0, 0) (fun W hW => hW.2) _ rfl _ Try.underlying24 rfl (by kernel_rfl)) hH ?_
  simp only [Act.put, List.getElem_toArray, List.getElem_cons_zero, List.getElem_cons_succ, List.setIfInBounds_toArray, List.set_cons_zero, List.set_cons_succ]
  refine wpAnyH_take (i := 3) (v := ?_) rfl (by kernel_rfl) (by kernel_rfl) (by kernel_rfl) (fun _ _ _ h => h) (Or.inl ⟨by rfl, ?_⟩) hH ?_
  rotate_left
  · ((intro W hW; clear hW; go_simp) <;> with_reducible rfl)
  simp only [Act.put, List.getElem_toArray, List.getElem_cons_zero, List.getElem_cons_succ, List.setIfInBounds_toArray, List.set_cons_zero, List.set_cons_succ]
  refine wpAnyH_take (i := 4) (v := ?_) rfl (by kernel_rfl) (by kernel_rfl) (by kernel_rfl) (fun _ _ _ h => h) (Or.inl ⟨by rfl, ?_⟩) hH ?_
  rotate_left
  · ((intro W hW; clear hW; go_simp) <;> with_reducible rfl)
  simp only [Act.put, List.getElem_toArray, List.getElem_cons_zero, List.getElem_cons_succ, List.setIfInBounds_toArray, List.set_cons_zero, List.set_cons_succ]
  refine wpAnyH_take (i := 5) (v := ?_) rfl (by kernel_rfl) (by kernel_rfl) (by kernel_rfl) (fun _ _ _ h => h) (Or.inl ⟨by rfl, ?_⟩) hH ?_
  rotate_left
  · ((intro W hW; clear hW; go_simp) <;> with_reducible rfl)
  simp only [Act.put, List.getElem_toArray, List.getElem_cons_zero, List.getElem_cons_succ, List.setIfInBounds_toArray, List.set_cons_zero, List.set_cons_succ]
  refine wpAnyH_take (i := 6) (v := ?_) rfl (by kernel_rfl) (by kernel_rfl) (by kernel_rfl) (fun _ _ _ h => h) (Or.inl ⟨by rfl, ?_⟩) hH ?_
  rotate_left
  · ((intro W hW; clear hW; go_simp) <;> with_reducible rfl)
  simp only [Act.put, List.getElem_toArray, List.getElem_cons_zero, List.getElem_cons_succ, List.setIfInBounds_toArray, List.set_cons_zero, List.set_cons_succ]
  refine wpAnyH_take (i := 7) (v := ?_) rfl (by kernel_rfl) (by kernel_rfl) (by kernel_rfl) (fun _ _ _ h => h) (Or.inl ⟨by rfl, ?_⟩) hH ?_
  rotate_left
  · ((intro W hW; clear hW; go_simp) <;> with_reducible rfl)
  simp only [Act.put, List.getElem_toArray, List.getElem_cons_zero, List.getElem_cons_succ, List.setIfInBounds_toArray, List.set_cons_zero, List.set_cons_succ]
  refine wpAnyH_take (i := 8) (v := ?_) rfl (by kernel_rfl) (by kernel_rfl) (by kernel_rfl) (fun _ _ _ h => h) (Or.inl ⟨by rfl, ?_⟩) hH ?_
  rotate_left
  · ((intro W hW; clear hW; go_simp) <;> with_reducible rfl)
  simp only [Act.put, List.getElem_toArray, List.getElem_cons_zero, List.getElem_cons_succ, List.setIfInBounds_toArray, List.set_cons_zero, List.set_cons_succ]
  refine wpAnyH_take (i := 9) (v := ?_) rfl (by kernel_rfl) (by kernel_rfl) (by kernel_rfl) (fun _ _ _ h => h) (Or.inl ⟨by rfl, ?_⟩) hH ?_
  rotate_left
  · ((intro W hW; clear hW; go_simp) <;> with_reducible rfl)
  simp only [Act.put, List.getElem_toArray, List.getElem_cons_zero, List.getElem_cons_succ, List.setIfInBounds_toArray, List.set_cons_zero, List.set_cons_succ]
  obtain ⟨A89, c89, r89, f89, u89⟩ := piece_front hB (k := k) HK.out
  have qt := f89 _ hB
  have av_qt_o := av_hB_o.sub u89
  have av_qt_z := av_hB_z.sub u89
  have av_qt_p := av_hB_p.sub u89
  clear f89 u89
  refine wpAnyH_take (i := 10) (v := ?_) rfl (by kernel_rfl) (by kernel_rfl) (by kernel_rfl) (fun _ _ _ h => h) (Or.inl ⟨by rfl, ?_⟩) hH ?_
  rotate_left
  · ((intro W hW; clear hW; go_simp) <;> with_reducible rfl)
  simp only [Act.put, List.getElem_toArray, List.getElem_cons_zero, List.getElem_cons_succ, List.setIfInBounds_toArray, List.set_cons_zero, List.set_cons_succ]
  refine wpAnyH_ready (rs := [11]) (by kernel_rfl) (by simp) ?_
  refine AllReadyH.cons (o := _) rfl (fun K hK => ?_) AllReadyH.nil
  simp only [List.getElem_toArray, List.getElem_cons_zero, List.getElem_cons_succ]
  go_simp
  with_reducible refine (rcopied_o _ _ _ _ _ qt (by have := HK.out; have := HN.out; omega)).mono ?_
  rintro e w9 ⟨v, rfl, qdw, b9⟩
  dsimp only
  have y_qd_o := Lib.hid (hlt ho)
  have y_qd_z := Lib.hid (hlt hz)
  have y_qd_p := Lib.hid (hlt hp)
  have bl_hB_qd := hB.bl_new
  have bl_po_qd := po.bl_new
  have bl_pb_qd := pb.bl_new
  have bl_qt_qd := qt.bl_new
  have qdlo := bel.size
  have lz_qd := b9.size
  replace ho := blk_u ho b9
  replace hz := blk_u hz b9
  replace hp := blk_u hp b9
  replace hB := hB.below b9
  replace po := po.below b9
  replace pb := pb.below b9
  replace qt := qt.below b9
  replace bel := bel.trans (b9.mono bel.size)
  clear b9
  obtain ⟨Aqd, cqd, rfl⟩ := own_val qdw
  have qd := (own_sl qdw).1
  have fr_qd := (own_sl qdw).2
  have av_qd_o := fr_qd.av y_qd_o.out
  have av_qd_z := fr_qd.av y_qd_z.out
  have av_qd_p := fr_qd.av y_qd_p.out
  refine hK.out _ _ ⟨ho, hp⟩ (fun hH10 => ?_)
  clear hK K
  refine wpAnyH_take (i := 12) (v := ?_) rfl (by kernel_rfl) (by kernel_rfl) (by kernel_rfl) (fun _ _ _ h => h) (Or.inl ⟨by rfl, ?_⟩) hH10 ?_
  rotate_left
  · ((intro W hW; clear hW; go_simp) <;> with_reducible rfl)
  simp only [Act.put, List.getElem_toArray, List.getElem_cons_zero, List.getElem_cons_succ, List.setIfInBounds_toArray, List.set_cons_zero, List.set_cons_succ]
  refine wpAnyH_ready (rs := [13]) (by kernel_rfl) (by simp) ?_
  refine AllReadyH.cons (o := _) rfl (fun K hK => ?_) AllReadyH.nil
  simp only [List.getElem_toArray, List.getElem_cons_zero, List.getElem_cons_succ]
  go_simp
  have ob := bel.size
  with_reducible refine (ricput_any _ _ _ _ _ _ _ _ _ _ _ _ _ _ _ _ _ _ _ _ _ _ _ _ _ _ [] _ _ (Sl.nil _) qd (by decide) (by decide) (by decide)).mono ?_
  rintro e w11 ⟨y0, y1, y2, y3, y4, y5, g0, g1, g2, g3, g4, g5, g6, g7, lr, lq, Ar, Aq, cr, cq, er, rfl, sr, sq_, fr1, fr2, b11, hQ⟩
  dsimp only
  have av_sr_o := fr1.av (hlt ho)
  have av_sr_z := fr1.av (hlt hz)
  have av_sr_p := fr1.av (hlt hp)
  have av_sq__o := fr2.av (hlt ho)
  have av_sq__z := fr2.av (hlt hz)
  have av_sq__p := fr2.av (hlt hp)
  replace ho := blk_u ho b11
  replace hz := blk_u hz b11
  replace hp := blk_u hp b11
  replace hB := hB.below b11
  replace po := po.below b11
  replace pb := pb.below b11
  replace qt := qt.below b11
  replace qd := qd.below b11
  replace qdw := own_under qdw b11
  replace lz_qd := Nat.le_trans lz_qd b11.size
  replace bel := bel.trans (b11.mono bel.size)
  clear b11
  replace sr : Sl w11 (Ar) (lr.length) (cr) (lr) := sr
  replace sq_ : Sl w11 (Aq) (lq.length) (cq) (lq) := sq_
  refine hK.out _ _ ⟨ho, hp⟩ (fun hH12 => ?_)
  clear hK K
  refine wpAnyH_take (i := 14) (v := ?_) rfl (by kernel_rfl) (by kernel_rfl) (by kernel_rfl) (fun _ _ _ h => h) (Or.inl ⟨by rfl, ?_⟩) hH12 ?_
  rotate_left
  · ((intro W hW; clear hW; go_simp) <;> with_reducible rfl)
  simp only [Act.put, List.getElem_toArray, List.getElem_cons_zero, List.getElem_cons_succ, List.setIfInBounds_toArray, List.set_cons_zero, List.set_cons_succ]
  refine wpAnyH_take (i := 15) (v := ?_) rfl (by kernel_rfl) (by kernel_rfl) (by kernel_rfl) (fun _ _ _ h => h) (Or.inl ⟨by rfl, ?_⟩) hH12 ?_
  rotate_left
  · ((intro W hW; clear hW; go_simp) <;> with_reducible rfl)
  simp only [Act.put, List.getElem_toArray, List.getElem_cons_zero, List.getElem_cons_succ, List.setIfInBounds_toArray, List.set_cons_zero, List.set_cons_succ]
  refine wpAnyH_ready (rs := [16]) (by kernel_rfl) (by simp) ?_
  refine AllReadyH.cons (o := _) rfl (fun K hK => ?_) AllReadyH.nil
  simp only [List.getElem_toArray, List.getElem_cons_zero, List.getElem_cons_succ]
  rw [if_pos (by rfl)]
  refine wp_store_blk 45 (.tmp 8) (.tmp 93) rfl g8 rfl _ rfl _ 45 hz (by rfl) (by kernel_rfl) (by kernel_rfl) ?_
  intro w13 hq gr
  replace hB := hB.away av_hB_z gr
  clear po
  clear pb
  replace qt := qt.away av_qt_z gr
  replace qd := qd.away av_qd_z gr
  replace qdw := own_away qdw y_qd_z.out gr
  replace sr := sr.away av_sr_z gr
  replace sq_ := sq_.away av_sq__z gr
  replace lz_qd := Nat.le_trans lz_qd gr.size
  replace ho := blk_a ho gr d_o_z
  replace hp := blk_a hp gr (ne_symm d_z_p)
  replace bel := below_grown bel gr oz bel.size
  clear hz
  have hz := hq
  clear hq gr
  refine hK.out _ _ ⟨ho, hp⟩ (fun hH14 => ?_)
  clear hK K
  simp only [Act.put]
  refine wpAnyH_take (i := 17) (v := ?_) rfl (by kernel_rfl) (by kernel_rfl) (by kernel_rfl) (fun _ _ _ h => h) (Or.inl ⟨by rfl, ?_⟩) hH14 ?_
  rotate_left
  · ((intro W hW; clear hW; go_simp) <;> with_reducible rfl)
  simp only [Act.put, List.getElem_toArray, List.getElem_cons_zero, List.getElem_cons_succ, List.setIfInBounds_toArray, List.set_cons_zero, List.set_cons_succ]
  refine wpAnyH_done (by kernel_rfl) ?_ _
  go_wp2_with fail
  exact bodyPost_ret (results_cell_tmp_row rfl _ _ _ _ _ _ _ rfl hz Try.underlying45 rfl (by kernel_rfl) (.int .i64 er) rfl) rfl ⟨y0, y1, y2, y3, y4, y5, g0, g1, g2, g3, g4, g5, g6, g7, lr, lq, Ar, Aq, cr, cq, er, rfl, sr, sq_, fr1.mono ob, fr2.mono ob, bel, hQ.trans HP.out.symm⟩
set_option linter.unusedVariables false in
set_option maxRecDepth 100000 in
set_option maxHeartbeats 16000000 in
theorem ricabout_tc (o0 o1 o2 o3 : UInt8) (B : Option Addr) (nB cB : Nat) (l : List UInt8) (ty cd : Int) (f0 f1 f2 f3 f4 f5 : Int) (a0 a1 a2 a3 a4 a5 a6 a7 : UInt8) (lo lb : List UInt8) (no nb : Nat) (w : World) (hB : Sl w B nB cB l) (hm : nB ≤ 100000) (hg : ipGet l = (([f0, f1, f2, f3, f4, f5], [a0, a1, a2, a3, a4, a5, a6, a7]), (lo, lb), 0)) (hy : icMay f3 f5 a0 a1 a2 a3 a4 a5 a6 a7 lb = true) (c0 : ¬ 0 < f3) (c1 : hostOk a0 a1 a2 a3 = true) (c2 : hostOk a4 a5 a6 a7 = true) (c3 : f5 = 1) (c4 : 8 ≤ nb) (x : UInt8) (hx : lb[0]? = some x) (c5 : x.toNat = 8) (d1 : byteOk ty = false) (h1 : lo.length = no) (h2 : lb.length = nb) : Calls Try.prog 27 #[.agg #[.int .u8 (o0.toNat : Int), .int .u8 (o1.toNat : Int), .int .u8 (o2.toNat : Int), .int .u8 (o3.toNat : Int)], .slice B nB cB, .int .i64 ty, .int .i64 cd] w (PkPost (icAbout o0 o1 o2 o3 l ty cd) w) := by
  obtain ⟨ii, hii, hz0, hz1, hz2⟩ := info_parts Try.info5
  have HG := Lib.hid hg
  have HM := Lib.hid hm
  have HL1 := Lib.hid h1
  have HL2 := Lib.hid h2
  have HP : Hid (icAbout o0 o1 o2 o3 l ty cd = pkNone 1) := Lib.hid (by rw [icAbout_eq _ _ _ _ _ _ hg]; unfold icAb; rw [if_neg (by decide), if_neg (by rw [hy]; decide)]; exact if_pos (by rw [d1]; rfl))
  have t0 : decide ((0 : Int) < f3) = false := decide_eq_false c0
  have H1 := Lib.hid c1
  have H2 := Lib.hid c2
  have t3 : (f5 == 1) = true := by simpa using c3
  have H8 : Hid (0 < nb) := Lib.hid (by omega)
  have t4 : decide ((nb : Int) < 8) = false := decide_eq_false (by omega)
  have m0 : 0 < nb := by omega
  have x0 : ((x.toNat : Int) == 0) = false := by simp; omega
  have y0 : ((x.toNat : Int) != 0) = true := by simp; omega
  have x1 : ((x.toNat : Int) == 8) = true := by simp; omega
  have y1 : ((x.toNat : Int) != 8) = false := by simp; omega
  have HX := Lib.hid hx
  have D1 := Lib.hid d1
  clear hg hm h1 h2 hy d1 c0 c1 c2 c3 hx c5 c4
  have bel := Below.refl w.heap.size w
  go_enter Try.func27, Try.ntmps27
  go_wp2_with (first | ((with_reducible show wpList _ _ _ (⟨some 4, _, _, _, _, _⟩ :: _) _ _); refine wpList_box_n rfl 24 (.tmp 0) rfl #[.int .u8 (o0.toNat : Int), .int .u8 (o1.toNat : Int), .int .u8 (o2.toNat : Int), .int .u8 (o3.toNat : Int)] rfl ?_; intro g4 w1 ge lt hh bb; have av_hB_o := hB.av_new ge; have oo := Nat.le_trans bel.size ge; replace hB := hB.below bb; replace bel := bel.trans (bb.mono bel.size); have ho := hh; clear hh lt ge bb) | ((with_reducible show wpList _ _ _ (⟨some 8, _, _, _, _, _⟩ :: _) _ _); refine wpList_new_a rfl 45 rfl #[.int .i64 0, .int .i64 0, .int .i64 0, .int .i64 0, .int .i64 0, .int .i64 0, .int .u8 0, .int .u8 0, .int .u8 0, .int .u8 0, .int .u8 0, .int .u8 0, .int .u8 0, .int .u8 0, .slice none 0 0, .slice none 0 0] (by kernel_rfl) ?_; intro g8 w2 ge hh bb; have d_o_z := ne_new (hlt ho) ge; have av_hB_z := hB.av_new ge; have oz := Nat.le_trans bel.size ge; replace ho := blk_u ho bb; replace hB := hB.below bb; replace bel := bel.trans (bb.mono bel.size); have hz := hh; clear hh ge bb))
  with_reducible refine (rget6_n _ _ _ l f0 f1 f2 f3 f4 f5 a0 a1 a2 a3 a4 a5 a6 a7 lo lb no nb 0 _ hB HM.out HG.out HL1.out HL2.out).mono ?_
  rintro e w3 ⟨Ao, co, Ab, cb, rfl, po, pb, b3⟩
  replace ho := blk_u ho b3
  replace hz := blk_u hz b3
  replace hB := hB.below b3
  replace bel := bel.trans (b3.mono bel.size)
  clear b3
  replace po : Sl w3 (Ao) (no) (co) (lo) := po
  replace pb : Sl w3 (Ab) (nb) (cb) (lb) := pb
  obtain ⟨gB, oB, hAb⟩ := sl_some pb H8.out
  subst hAb
  go_wp2_with (first | ((with_reducible show wpList _ _ _ (⟨some 10, _, _, _, _, _⟩ :: _) _ _); refine wpList_new_a rfl 45 rfl #[.int .i64 0, .int .i64 0, .int .i64 0, .int .i64 0, .int .i64 0, .int .i64 0, .int .u8 0, .int .u8 0, .int .u8 0, .int .u8 0, .int .u8 0, .int .u8 0, .int .u8 0, .int .u8 0, .slice none 0 0, .slice none 0 0] (by kernel_rfl) ?_; intro g10 w4 ge hh bb; have d_o_p := ne_new (hlt ho) ge; have d_z_p := ne_new (hlt hz) ge; have av_hB_p := hB.av_new ge; have av_po_p := po.av_new ge; have av_pb_p := pb.av_new ge; have op := Nat.le_trans bel.size ge; replace ho := blk_u ho bb; replace hz := blk_u hz bb; replace hB := hB.below bb; replace po := po.below bb; replace pb := pb.below bb; replace bel := bel.trans (bb.mono bel.size); have hp := hh; clear hh ge bb) | ((with_reducible show wpList _ _ _ (⟨none, Op.store _ (.tmp 10) _, _, _, _, _⟩ :: _) _ _); refine wpList_store_blk rfl 45 (.tmp 10) (.tmp 17) rfl g10 rfl _ rfl _ 45 hp (by rfl) (by kernel_rfl) (by kernel_rfl) ?_; intro w5 hq gr; replace hB := hB.away av_hB_p gr; replace po := po.away av_po_p gr; replace pb := pb.away av_pb_p gr; replace ho := blk_a ho gr d_o_p; replace hz := blk_a hz gr d_z_p; replace bel := below_grown bel gr op bel.size; clear hp; have hp := hq; clear hq gr; have R24 := cell_lit hp 3 _ rfl; have R28 := Lib.hid (range_lit hp 6 4 [.int .u8 (a0.toNat : Int), .int .u8 (a1.toNat : Int), .int .u8 (a2.toNat : Int), .int .u8 (a3.toNat : Int)] rfl)) | ((with_reducible show wpList _ _ _ (⟨some 28, _, _, _, _, _⟩ :: _) _ _); refine wpList_load_rng 24 (.tmp 27) rfl (by kernel_rfl) _ _ rfl _ R28.out _ Try.underlying24 rfl (by kernel_rfl) ?_))
  try clear R24
  try clear R28
  with_reducible refine (rodd_any _ _ _ _ _).mono ?_
  rintro e w6 ⟨rfl, b6⟩
  replace ho := blk_u ho b6
  replace hz := blk_u hz b6
  replace hp := blk_u hp b6
  replace hB := hB.below b6
  replace po := po.below b6
  replace pb := pb.below b6
  replace bel := bel.trans (b6.mono bel.size)
  clear b6
  rw [H1.out]
  have R33 := Lib.hid (range_lit hp 10 4 [.int .u8 (a4.toNat : Int), .int .u8 (a5.toNat : Int), .int .u8 (a6.toNat : Int), .int .u8 (a7.toNat : Int)] rfl)
  go_wp2_with (first | ((with_reducible show wpList _ _ _ (⟨some 33, _, _, _, _, _⟩ :: _) _ _); refine wpList_load_rng 24 (.tmp 32) rfl (by kernel_rfl) _ _ rfl _ R33.out _ Try.underlying24 rfl (by kernel_rfl) ?_))
  try clear R33
  with_reducible refine (rodd_any _ _ _ _ _).mono ?_
  rintro e w7 ⟨rfl, b7⟩
  replace ho := blk_u ho b7
  replace hz := blk_u hz b7
  replace hp := blk_u hp b7
  replace hB := hB.below b7
  replace po := po.below b7
  replace pb := pb.below b7
  replace bel := bel.trans (b7.mono bel.size)
  clear b7
  rw [H2.out]
  have R38 := cell_lit hp 5 _ rfl
  have R42 := cell_lit hp 15 _ rfl
  have R47 := cell_lit hp 15 _ rfl
  have R49 := (by have h_ := sl_at pb (j := 0) HX.out; rw [Nat.add_zero] at h_; exact h_)
  have R53 := cell_lit hp 15 _ rfl
  have R55 := (by have h_ := sl_at pb (j := 0) HX.out; rw [Nat.add_zero] at h_; exact h_)
  go_wp2_with fail
  clear R38 R42 R47 R49 R53 R55
  with_reducible refine (rbyte_any _ _).mono ?_
  rintro e _ ⟨rfl, rfl⟩
  rw [D1.out]
  go_wp2_with (first | ((with_reducible show wpList _ _ _ (⟨none, Op.store _ (.tmp 8) _, _, _, _, _⟩ :: _) _ _); refine wpList_store_blk rfl 45 (.tmp 8) (.tmp 69) rfl g8 rfl _ rfl _ 45 hz (by rfl) (by kernel_rfl) (by kernel_rfl) ?_; intro w8 hq gr; replace hB := hB.away av_hB_z gr; clear po; clear pb; replace ho := blk_a ho gr d_o_z; replace hp := blk_a hp gr (ne_symm d_z_p); replace bel := below_grown bel gr oz bel.size; clear hz; have hz := hq; clear hq gr))
  exact bodyPost_ret (results_cell_tmp_row rfl _ _ _ _ _ _ _ rfl hz Try.underlying45 rfl (by kernel_rfl) (.int .i64 1) rfl) rfl (by rw [HP.out]; exact PkPost.none bel)
set_option linter.unusedVariables false in
set_option maxRecDepth 100000 in
set_option maxHeartbeats 16000000 in
theorem ricabout_uc (o0 o1 o2 o3 : UInt8) (B : Option Addr) (nB cB : Nat) (l : List UInt8) (ty cd : Int) (f0 f1 f2 f3 f4 f5 : Int) (a0 a1 a2 a3 a4 a5 a6 a7 : UInt8) (lo lb : List UInt8) (no nb : Nat) (w : World) (hB : Sl w B nB cB l) (hm : nB ≤ 100000) (hg : ipGet l = (([f0, f1, f2, f3, f4, f5], [a0, a1, a2, a3, a4, a5, a6, a7]), (lo, lb), 0)) (hy : icMay f3 f5 a0 a1 a2 a3 a4 a5 a6 a7 lb = true) (c0 : ¬ 0 < f3) (c1 : hostOk a0 a1 a2 a3 = true) (c2 : hostOk a4 a5 a6 a7 = true) (c3 : f5 = 1) (c4 : 8 ≤ nb) (x : UInt8) (hx : lb[0]? = some x) (c5 : x.toNat = 8) (d1 : byteOk ty = true) (d2 : byteOk cd = false) (h1 : lo.length = no) (h2 : lb.length = nb) : Calls Try.prog 27 #[.agg #[.int .u8 (o0.toNat : Int), .int .u8 (o1.toNat : Int), .int .u8 (o2.toNat : Int), .int .u8 (o3.toNat : Int)], .slice B nB cB, .int .i64 ty, .int .i64 cd] w (PkPost (icAbout o0 o1 o2 o3 l ty cd) w) := by
  obtain ⟨ii, hii, hz0, hz1, hz2⟩ := info_parts Try.info5
  have HG := Lib.hid hg
  have HM := Lib.hid hm
  have HL1 := Lib.hid h1
  have HL2 := Lib.hid h2
  have HP : Hid (icAbout o0 o1 o2 o3 l ty cd = pkNone 1) := Lib.hid (by rw [icAbout_eq _ _ _ _ _ _ hg]; unfold icAb; rw [if_neg (by decide), if_neg (by rw [hy]; decide)]; exact if_pos (by rw [d1, d2]; rfl))
  have t0 : decide ((0 : Int) < f3) = false := decide_eq_false c0
  have H1 := Lib.hid c1
  have H2 := Lib.hid c2
  have t3 : (f5 == 1) = true := by simpa using c3
  have H8 : Hid (0 < nb) := Lib.hid (by omega)
  have t4 : decide ((nb : Int) < 8) = false := decide_eq_false (by omega)
  have m0 : 0 < nb := by omega
  have x0 : ((x.toNat : Int) == 0) = false := by simp; omega
  have y0 : ((x.toNat : Int) != 0) = true := by simp; omega
  have x1 : ((x.toNat : Int) == 8) = true := by simp; omega
  have y1 : ((x.toNat : Int) != 8) = false := by simp; omega
  have HX := Lib.hid hx
  have D1 := Lib.hid d1
  have D2 := Lib.hid d2
  clear hg hm h1 h2 hy d1 d2 c0 c1 c2 c3 hx c5 c4
  have bel := Below.refl w.heap.size w
  go_enter Try.func27, Try.ntmps27
  go_wp2_with (first | ((with_reducible show wpList _ _ _ (⟨some 4, _, _, _, _, _⟩ :: _) _ _); refine wpList_box_n rfl 24 (.tmp 0) rfl #[.int .u8 (o0.toNat : Int), .int .u8 (o1.toNat : Int), .int .u8 (o2.toNat : Int), .int .u8 (o3.toNat : Int)] rfl ?_; intro g4 w1 ge lt hh bb; have av_hB_o := hB.av_new ge; have oo := Nat.le_trans bel.size ge; replace hB := hB.below bb; replace bel := bel.trans (bb.mono bel.size); have ho := hh; clear hh lt ge bb) | ((with_reducible show wpList _ _ _ (⟨some 8, _, _, _, _, _⟩ :: _) _ _); refine wpList_new_a rfl 45 rfl #[.int .i64 0, .int .i64 0, .int .i64 0, .int .i64 0, .int .i64 0, .int .i64 0, .int .u8 0, .int .u8 0, .int .u8 0, .int .u8 0, .int .u8 0, .int .u8 0, .int .u8 0, .int .u8 0, .slice none 0 0, .slice none 0 0] (by kernel_rfl) ?_; intro g8 w2 ge hh bb; have d_o_z := ne_new (hlt ho) ge; have av_hB_z := hB.av_new ge; have oz := Nat.le_trans bel.size ge; replace ho := blk_u ho bb; replace hB := hB.below bb; replace bel := bel.trans (bb.mono bel.size); have hz := hh; clear hh ge bb))
  with_reducible refine (rget6_n _ _ _ l f0 f1 f2 f3 f4 f5 a0 a1 a2 a3 a4 a5 a6 a7 lo lb no nb 0 _ hB HM.out HG.out HL1.out HL2.out).mono ?_
  rintro e w3 ⟨Ao, co, Ab, cb, rfl, po, pb, b3⟩
  replace ho := blk_u ho b3
  replace hz := blk_u hz b3
  replace hB := hB.below b3
  replace bel := bel.trans (b3.mono bel.size)
  clear b3
  replace po : Sl w3 (Ao) (no) (co) (lo) := po
  replace pb : Sl w3 (Ab) (nb) (cb) (lb) := pb
  obtain ⟨gB, oB, hAb⟩ := sl_some pb H8.out
  subst hAb
  go_wp2_with (first | ((with_reducible show wpList _ _ _ (⟨some 10, _, _, _, _, _⟩ :: _) _ _); refine wpList_new_a rfl 45 rfl #[.int .i64 0, .int .i64 0, .int .i64 0, .int .i64 0, .int .i64 0, .int .i64 0, .int .u8 0, .int .u8 0, .int .u8 0, .int .u8 0, .int .u8 0, .int .u8 0, .int .u8 0, .int .u8 0, .slice none 0 0, .slice none 0 0] (by kernel_rfl) ?_; intro g10 w4 ge hh bb; have d_o_p := ne_new (hlt ho) ge; have d_z_p := ne_new (hlt hz) ge; have av_hB_p := hB.av_new ge; have av_po_p := po.av_new ge; have av_pb_p := pb.av_new ge; have op := Nat.le_trans bel.size ge; replace ho := blk_u ho bb; replace hz := blk_u hz bb; replace hB := hB.below bb; replace po := po.below bb; replace pb := pb.below bb; replace bel := bel.trans (bb.mono bel.size); have hp := hh; clear hh ge bb) | ((with_reducible show wpList _ _ _ (⟨none, Op.store _ (.tmp 10) _, _, _, _, _⟩ :: _) _ _); refine wpList_store_blk rfl 45 (.tmp 10) (.tmp 17) rfl g10 rfl _ rfl _ 45 hp (by rfl) (by kernel_rfl) (by kernel_rfl) ?_; intro w5 hq gr; replace hB := hB.away av_hB_p gr; replace po := po.away av_po_p gr; replace pb := pb.away av_pb_p gr; replace ho := blk_a ho gr d_o_p; replace hz := blk_a hz gr d_z_p; replace bel := below_grown bel gr op bel.size; clear hp; have hp := hq; clear hq gr; have R24 := cell_lit hp 3 _ rfl; have R28 := Lib.hid (range_lit hp 6 4 [.int .u8 (a0.toNat : Int), .int .u8 (a1.toNat : Int), .int .u8 (a2.toNat : Int), .int .u8 (a3.toNat : Int)] rfl)) | ((with_reducible show wpList _ _ _ (⟨some 28, _, _, _, _, _⟩ :: _) _ _); refine wpList_load_rng 24 (.tmp 27) rfl (by kernel_rfl) _ _ rfl _ R28.out _ Try.underlying24 rfl (by kernel_rfl) ?_))
  try clear R24
  try clear R28
  with_reducible refine (rodd_any _ _ _ _ _).mono ?_
  rintro e w6 ⟨rfl, b6⟩
  replace ho := blk_u ho b6
  replace hz := blk_u hz b6
  replace hp := blk_u hp b6
  replace hB := hB.below b6
  replace po := po.below b6
  replace pb := pb.below b6
  replace bel := bel.trans (b6.mono bel.size)
  clear b6
  rw [H1.out]
  have R33 := Lib.hid (range_lit hp 10 4 [.int .u8 (a4.toNat : Int), .int .u8 (a5.toNat : Int), .int .u8 (a6.toNat : Int), .int .u8 (a7.toNat : Int)] rfl)
  go_wp2_with (first | ((with_reducible show wpList _ _ _ (⟨some 33, _, _, _, _, _⟩ :: _) _ _); refine wpList_load_rng 24 (.tmp 32) rfl (by kernel_rfl) _ _ rfl _ R33.out _ Try.underlying24 rfl (by kernel_rfl) ?_))
  try clear R33
  with_reducible refine (rodd_any _ _ _ _ _).mono ?_
  rintro e w7 ⟨rfl, b7⟩
  replace ho := blk_u ho b7
  replace hz := blk_u hz b7
  replace hp := blk_u hp b7
  replace hB := hB.below b7
  replace po := po.below b7
  replace pb := pb.below b7
  replace bel := bel.trans (b7.mono bel.size)
  clear b7
  rw [H2.out]
  have R38 := cell_lit hp 5 _ rfl
  have R42 := cell_lit hp 15 _ rfl
  have R47 := cell_lit hp 15 _ rfl
  have R49 := (by have h_ := sl_at pb (j := 0) HX.out; rw [Nat.add_zero] at h_; exact h_)
  have R53 := cell_lit hp 15 _ rfl
  have R55 := (by have h_ := sl_at pb (j := 0) HX.out; rw [Nat.add_zero] at h_; exact h_)
  go_wp2_with fail
  clear R38 R42 R47 R49 R53 R55
  with_reducible refine (rbyte_any _ _).mono ?_
  rintro e _ ⟨rfl, rfl⟩
  rw [D1.out]
  go_wp2_with fail
  with_reducible refine (rbyte_any _ _).mono ?_
  rintro e _ ⟨rfl, rfl⟩
  rw [D2.out]
  go_wp2_with (first | ((with_reducible show wpList _ _ _ (⟨none, Op.store _ (.tmp 8) _, _, _, _, _⟩ :: _) _ _); refine wpList_store_blk rfl 45 (.tmp 8) (.tmp 69) rfl g8 rfl _ rfl _ 45 hz (by rfl) (by kernel_rfl) (by kernel_rfl) ?_; intro w8 hq gr; replace hB := hB.away av_hB_z gr; clear po; clear pb; replace ho := blk_a ho gr d_o_z; replace hp := blk_a hp gr (ne_symm d_z_p); replace bel := below_grown bel gr oz bel.size; clear hz; have hz := hq; clear hq gr))
  exact bodyPost_ret (results_cell_tmp_row rfl _ _ _ _ _ _ _ rfl hz Try.underlying45 rfl (by kernel_rfl) (.int .i64 1) rfl) rfl (by rw [HP.out]; exact PkPost.none bel)
set_option linter.unusedVariables false in
set_option maxRecDepth 100000 in
set_option maxHeartbeats 16000000 in
theorem ricabout_vc (o0 o1 o2 o3 : UInt8) (B : Option Addr) (nB cB : Nat) (l : List UInt8) (ty cd : Int) (f0 f1 f2 f3 f4 f5 : Int) (a0 a1 a2 a3 a4 a5 a6 a7 : UInt8) (lo lb : List UInt8) (no nb : Nat) (w : World) (hB : Sl w B nB cB l) (hm : nB ≤ 100000) (hg : ipGet l = (([f0, f1, f2, f3, f4, f5], [a0, a1, a2, a3, a4, a5, a6, a7]), (lo, lb), 0)) (hy : icMay f3 f5 a0 a1 a2 a3 a4 a5 a6 a7 lb = true) (c0 : ¬ 0 < f3) (c1 : hostOk a0 a1 a2 a3 = true) (c2 : hostOk a4 a5 a6 a7 = true) (c3 : f5 = 1) (c4 : 8 ≤ nb) (x : UInt8) (hx : lb[0]? = some x) (c5 : x.toNat = 8) (d1 : byteOk ty = true) (d2 : byteOk cd = true) (hn : nb ≤ 8) (h1 : lo.length = no) (h2 : lb.length = nb) : Calls Try.prog 27 #[.agg #[.int .u8 (o0.toNat : Int), .int .u8 (o1.toNat : Int), .int .u8 (o2.toNat : Int), .int .u8 (o3.toNat : Int)], .slice B nB cB, .int .i64 ty, .int .i64 cd] w (PkPost (icAbout o0 o1 o2 o3 l ty cd) w) := by
  obtain ⟨ii, hii, hz0, hz1, hz2⟩ := info_parts Try.info5
  have HG := Lib.hid hg
  have HM := Lib.hid hm
  have HL1 := Lib.hid h1
  have HL2 := Lib.hid h2
  have t0 : decide ((0 : Int) < f3) = false := decide_eq_false c0
  have H1 := Lib.hid c1
  have H2 := Lib.hid c2
  have t3 : (f5 == 1) = true := by simpa using c3
  have H8 : Hid (0 < nb) := Lib.hid (by omega)
  have t4 : decide ((nb : Int) < 8) = false := decide_eq_false (by omega)
  have m0 : 0 < nb := by omega
  have x0 : ((x.toNat : Int) == 0) = false := by simp; omega
  have y0 : ((x.toNat : Int) != 0) = true := by simp; omega
  have x1 : ((x.toNat : Int) == 8) = true := by simp; omega
  have y1 : ((x.toNat : Int) != 8) = false := by simp; omega
  have HX := Lib.hid hx
  have D1 := Lib.hid d1
  have D2 := Lib.hid d2
  have hlen := ipget_len hg
  obtain ⟨k, hk⟩ : ∃ k, k = 20 + no + nb := ⟨_, rfl⟩
  have HP : Hid (icAbout o0 o1 o2 o3 l ty cd = icPut 0 0 0 0 64 o0 o1 o2 o3 a0 a1 a2 a3 [] ty cd 0 (l.take k)) := Lib.hid (by rw [icAbout_eq _ _ _ _ _ _ hg]; unfold icAb; rw [if_neg (by decide), if_neg (by rw [hy]; decide), h1, h2, hk, show min nb 8 = nb by omega])
  have HK : Hid (k ≤ nB) := Lib.hid (by have := hB.1; omega)
  have HN := Lib.hid hm
  have t7 : decide ((8 : Int) < nb) = false := decide_eq_false (by omega)
  have b0 : (0 : Int) ≤ no := by omega
  have b1 : (no : Int) ≤ 100000 := by have := hB.1; omega
  have b2 : (0 : Int) ≤ nb := by omega
  have b3 : (nb : Int) ≤ 8 := by omega
  have ek : 20 + (no : Int) + (nb : Int) = (k : Int) := by omega
  have ew : IntKind.i64.wrap (k : Int) = (k : Int) := IntWalk.i64_in _ (by have := hB.1; omega)
  clear hg hm h1 h2 hy hk hlen hn d1 d2 c0 c1 c2 c3 hx c5 c4
  have bel := Below.refl w.heap.size w
  go_enter Try.func27, Try.ntmps27
  go_wp2_with (first | ((with_reducible show wpList _ _ _ (⟨some 4, _, _, _, _, _⟩ :: _) _ _); refine wpList_box_n rfl 24 (.tmp 0) rfl #[.int .u8 (o0.toNat : Int), .int .u8 (o1.toNat : Int), .int .u8 (o2.toNat : Int), .int .u8 (o3.toNat : Int)] rfl ?_; intro g4 w1 ge lt hh bb; have av_hB_o := hB.av_new ge; have oo := Nat.le_trans bel.size ge; replace hB := hB.below bb; replace bel := bel.trans (bb.mono bel.size); have ho := hh; clear hh lt ge bb) | ((with_reducible show wpList _ _ _ (⟨some 8, _, _, _, _, _⟩ :: _) _ _); refine wpList_new_a rfl 45 rfl #[.int .i64 0, .int .i64 0, .int .i64 0, .int .i64 0, .int .i64 0, .int .i64 0, .int .u8 0, .int .u8 0, .int .u8 0, .int .u8 0, .int .u8 0, .int .u8 0, .int .u8 0, .int .u8 0, .slice none 0 0, .slice none 0 0] (by kernel_rfl) ?_; intro g8 w2 ge hh bb; have d_o_z := ne_new (hlt ho) ge; have av_hB_z := hB.av_new ge; have oz := Nat.le_trans bel.size ge; replace ho := blk_u ho bb; replace hB := hB.below bb; replace bel := bel.trans (bb.mono bel.size); have hz := hh; clear hh ge bb))
  with_reducible refine (rget6_n _ _ _ l f0 f1 f2 f3 f4 f5 a0 a1 a2 a3 a4 a5 a6 a7 lo lb no nb 0 _ hB HM.out HG.out HL1.out HL2.out).mono ?_
  rintro e w3 ⟨Ao, co, Ab, cb, rfl, po, pb, b3⟩
  replace ho := blk_u ho b3
  replace hz := blk_u hz b3
  replace hB := hB.below b3
  replace bel := bel.trans (b3.mono bel.size)
  clear b3
  replace po : Sl w3 (Ao) (no) (co) (lo) := po
  replace pb : Sl w3 (Ab) (nb) (cb) (lb) := pb
  obtain ⟨gB, oB, hAb⟩ := sl_some pb H8.out
  subst hAb
  go_wp2_with (first | ((with_reducible show wpList _ _ _ (⟨some 10, _, _, _, _, _⟩ :: _) _ _); refine wpList_new_a rfl 45 rfl #[.int .i64 0, .int .i64 0, .int .i64 0, .int .i64 0, .int .i64 0, .int .i64 0, .int .u8 0, .int .u8 0, .int .u8 0, .int .u8 0, .int .u8 0, .int .u8 0, .int .u8 0, .int .u8 0, .slice none 0 0, .slice none 0 0] (by kernel_rfl) ?_; intro g10 w4 ge hh bb; have d_o_p := ne_new (hlt ho) ge; have d_z_p := ne_new (hlt hz) ge; have av_hB_p := hB.av_new ge; have av_po_p := po.av_new ge; have av_pb_p := pb.av_new ge; have op := Nat.le_trans bel.size ge; replace ho := blk_u ho bb; replace hz := blk_u hz bb; replace hB := hB.below bb; replace po := po.below bb; replace pb := pb.below bb; replace bel := bel.trans (bb.mono bel.size); have hp := hh; clear hh ge bb) | ((with_reducible show wpList _ _ _ (⟨none, Op.store _ (.tmp 10) _, _, _, _, _⟩ :: _) _ _); refine wpList_store_blk rfl 45 (.tmp 10) (.tmp 17) rfl g10 rfl _ rfl _ 45 hp (by rfl) (by kernel_rfl) (by kernel_rfl) ?_; intro w5 hq gr; replace hB := hB.away av_hB_p gr; replace po := po.away av_po_p gr; replace pb := pb.away av_pb_p gr; replace ho := blk_a ho gr d_o_p; replace hz := blk_a hz gr d_z_p; replace bel := below_grown bel gr op bel.size; clear hp; have hp := hq; clear hq gr; have R24 := cell_lit hp 3 _ rfl; have R28 := Lib.hid (range_lit hp 6 4 [.int .u8 (a0.toNat : Int), .int .u8 (a1.toNat : Int), .int .u8 (a2.toNat : Int), .int .u8 (a3.toNat : Int)] rfl)) | ((with_reducible show wpList _ _ _ (⟨some 28, _, _, _, _, _⟩ :: _) _ _); refine wpList_load_rng 24 (.tmp 27) rfl (by kernel_rfl) _ _ rfl _ R28.out _ Try.underlying24 rfl (by kernel_rfl) ?_))
  try clear R24
  try clear R28
  with_reducible refine (rodd_any _ _ _ _ _).mono ?_
  rintro e w6 ⟨rfl, b6⟩
  replace ho := blk_u ho b6
  replace hz := blk_u hz b6
  replace hp := blk_u hp b6
  replace hB := hB.below b6
  replace po := po.below b6
  replace pb := pb.below b6
  replace bel := bel.trans (b6.mono bel.size)
  clear b6
  rw [H1.out]
  have R33 := Lib.hid (range_lit hp 10 4 [.int .u8 (a4.toNat : Int), .int .u8 (a5.toNat : Int), .int .u8 (a6.toNat : Int), .int .u8 (a7.toNat : Int)] rfl)
  go_wp2_with (first | ((with_reducible show wpList _ _ _ (⟨some 33, _, _, _, _, _⟩ :: _) _ _); refine wpList_load_rng 24 (.tmp 32) rfl (by kernel_rfl) _ _ rfl _ R33.out _ Try.underlying24 rfl (by kernel_rfl) ?_))
  try clear R33
  with_reducible refine (rodd_any _ _ _ _ _).mono ?_
  rintro e w7 ⟨rfl, b7⟩
  replace ho := blk_u ho b7
  replace hz := blk_u hz b7
  replace hp := blk_u hp b7
  replace hB := hB.below b7
  replace po := po.below b7
  replace pb := pb.below b7
  replace bel := bel.trans (b7.mono bel.size)
  clear b7
  rw [H2.out]
  have R38 := cell_lit hp 5 _ rfl
  have R42 := cell_lit hp 15 _ rfl
  have R47 := cell_lit hp 15 _ rfl
  have R49 := (by have h_ := sl_at pb (j := 0) HX.out; rw [Nat.add_zero] at h_; exact h_)
  have R53 := cell_lit hp 15 _ rfl
  have R55 := (by have h_ := sl_at pb (j := 0) HX.out; rw [Nat.add_zero] at h_; exact h_)
  go_wp2_with fail
  clear R38 R42 R47 R49 R53 R55
  with_reducible refine (rbyte_any _ _).mono ?_
  rintro e _ ⟨rfl, rfl⟩
  rw [D1.out]
  go_wp2_with fail
  with_reducible refine (rbyte_any _ _).mono ?_
  rintro e _ ⟨rfl, rfl⟩
  rw [D2.out]
  have R71 := cell_lit hp 14 _ rfl
  have R75 := cell_lit hp 15 _ rfl
  go_wp2_with fail
  clear R71 R75
  replace bel := bel.drew
  replace ho : w7.drew.heap[g4]? = _ := ho
  replace hz : w7.drew.heap[g8]? = _ := hz
  replace hp : w7.drew.heap[g10]? = _ := hp
  replace hB := hB.drew
  replace po := po.drew
  replace pb := pb.drew
  refine wp_region_held_drew (S := fun W => W.heap[g4]? = some (.cells #[.int .u8 (o0.toNat : Int), .int .u8 (o1.toNat : Int), .int .u8 (o2.toNat : Int), .int .u8 (o3.toNat : Int)] 24 (0, 0)) ∧ W.heap[g10]? = some (.cells #[.int .i64 f0, .int .i64 f1, .int .i64 f2, .int .i64 f3, .int .i64 f4, .int .i64 f5, .int .u8 (a0.toNat : Int), .int .u8 (a1.toNat : Int), .int .u8 (a2.toNat : Int), .int .u8 (a3.toNat : Int), .int .u8 (a4.toNat : Int), .int .u8 (a5.toNat : Int), .int .u8 (a6.toNat : Int), .int .u8 (a7.toNat : Int), .slice Ao no co, .slice (some ⟨gB, oB, none⟩) nb cb] 45 (0, 0))) (by kernel_rfl) ⟨ho, hp⟩ (fun hH => ?_)
  generalize w7.drew = w8 at bel ho hz hp hB po pb hH ⊢
  refine wpAnyH_take (i := 0) (v := .agg #[.int .u8 (o0.toNat : Int), .int .u8 (o1.toNat : Int), .int .u8 (o2.toNat : Int), .int .u8 (o3.toNat : Int)]) rfl (by kernel_rfl) (by kernel_rfl) (by kernel_rfl) (fun _ _ _ h => h) (yieldsIf_load_part (by kernel_rfl) 24 _ rfl g4 0 4 rfl _ 24 (0, 0) (fun W hW => hW.1) _ rfl _ Try.underlying24 rfl (by kernel_rfl)) hH ?_
  simp only [Act.put, List.getElem_toArray, List.getElem_cons_zero, List.setIfInBounds_toArray, List.set_cons_zero, List.set_cons_succ]
  refine wpAnyH_take (i := 1) (v := ?_) rfl (by kernel_rfl) (by kernel_rfl) (by kernel_rfl) (fun _ _ _ h => h) (Or.inl ⟨by rfl, ?_⟩) hH ?_
  rotate_left
  · ((intro W hW; clear hW; go_simp) <;> with_reducible rfl)
  simp only [Act.put, List.getElem_toArray, List.getElem_cons_zero, List.getElem_cons_succ, List.setIfInBounds_toArray, List.set_cons_zero, List.set_cons_succ]
  refine wpAnyH_take (i := 2) (v := .agg #[.int .u8 (a0.toNat : Int), .int .u8 (a1.toNat : Int), .int .u8 (a2.toNat : Int), .int .u8 (a3.toNat : Int)]) rfl (by kernel_rfl) (by kernel_rfl) (by kernel_rfl) (fun _ _ _ h => h) (yieldsIf_load_part (by kernel_rfl) 24 _ rfl g10 6 4 rfl _ 45 (0, 0) (fun W hW => hW.2) _ rfl _ Try.underlying24 rfl (by kernel_rfl)) hH ?_
  simp only [Act.put, List.getElem_toArray, List.getElem_cons_zero, List.getElem_cons_succ, List.setIfInBounds_toArray, List.set_cons_zero, List.set_cons_succ]
  refine wpAnyH_take (i := 3) (v := ?_) rfl (by kernel_rfl) (by kernel_rfl) (by kernel_rfl) (fun _ _ _ h => h) (Or.inl ⟨by rfl, ?_⟩) hH ?_
  rotate_left
  · ((intro W hW; clear hW; go_simp) <;> with_reducible rfl)
  simp only [Act.put, List.getElem_toArray, List.getElem_cons_zero, List.getElem_cons_succ, List.setIfInBounds_toArray, List.set_cons_zero, List.set_cons_succ]
  refine wpAnyH_take (i := 4) (v := ?_) rfl (by kernel_rfl) (by kernel_rfl) (by kernel_rfl) (fun _ _ _ h => h) (Or.inl ⟨by rfl, ?_⟩) hH ?_
  rotate_left
  · ((intro W hW; clear hW; go_simp) <;> with_reducible rfl)
  simp only [Act.put, List.getElem_toArray, List.getElem_cons_zero, List.getElem_cons_succ, List.setIfInBounds_toArray, List.set_cons_zero, List.set_cons_succ]
  refine wpAnyH_take (i := 5) (v := ?_) rfl (by kernel_rfl) (by kernel_rfl) (by kernel_rfl) (fun _ _ _ h => h) (Or.inl ⟨by rfl, ?_⟩) hH ?_
  rotate_left
  · ((intro W hW; clear hW; go_simp) <;> with_reducible rfl)
  simp only [Act.put, List.getElem_toArray, List.getElem_cons_zero, List.getElem_cons_succ, List.setIfInBounds_toArray, List.set_cons_zero, List.set_cons_succ]
  refine wpAnyH_take (i := 6) (v := ?_) rfl (by kernel_rfl) (by kernel_rfl) (by kernel_rfl) (fun _ _ _ h => h) (Or.inl ⟨by rfl, ?_⟩) hH ?_
  rotate_left
  · ((intro W hW; clear hW; go_simp) <;> with_reducible rfl)
  simp only [Act.put, List.getElem_toArray, List.getElem_cons_zero, List.getElem_cons_succ, List.setIfInBounds_toArray, List.set_cons_zero, List.set_cons_succ]
  refine wpAnyH_take (i := 7) (v := ?_) rfl (by kernel_rfl) (by kernel_rfl) (by kernel_rfl) (fun _ _ _ h => h) (Or.inl ⟨by rfl, ?_⟩) hH ?_
  rotate_left
  · ((intro W hW; clear hW; go_simp) <;> with_reducible rfl)
  simp only [Act.put, List.getElem_toArray, List.getElem_cons_zero, List.getElem_cons_succ, List.setIfInBounds_toArray, List.set_cons_zero, List.set_cons_succ]
  refine wpAnyH_take (i := 8) (v := ?_) rfl (by kernel_rfl) (by kernel_rfl) (by kernel_rfl) (fun _ _ _ h => h) (Or.inl ⟨by rfl, ?_⟩) hH ?_
  rotate_left
  · ((intro W hW; clear hW; go_simp) <;> with_reducible rfl)
  simp only [Act.put, List.getElem_toArray, List.getElem_cons_zero, List.getElem_cons_succ, List.setIfInBounds_toArray, List.set_cons_zero, List.set_cons_succ]
  refine wpAnyH_take (i := 9) (v := ?_) rfl (by kernel_rfl) (by kernel_rfl) (by kernel_rfl) (fun _ _ _ h => h) (Or.inl ⟨by rfl, ?_⟩) hH ?_
  rotate_left
  · ((intro W hW; clear hW; go_simp) <;> with_reducible rfl)
  simp only [Act.put, List.getElem_toArray, List.getElem_cons_zero, List.getElem_cons_succ, List.setIfInBounds_toArray, List.set_cons_zero, List.set_cons_succ]
  obtain ⟨A89, c89, r89, f89, u89⟩ := piece_front hB (k := k) HK.out
  have qt := f89 _ hB
  have av_qt_o := av_hB_o.sub u89
  have av_qt_z := av_hB_z.sub u89
  have av_qt_p := av_hB_p.sub u89
  clear f89 u89
  refine wpAnyH_take (i := 10) (v := ?_) rfl (by kernel_rfl) (by kernel_rfl) (by kernel_rfl) (fun _ _ _ h => h) (Or.inl ⟨by rfl, ?_⟩) hH ?_
  rotate_left
  · ((intro W hW; clear hW; go_simp) <;> with_reducible rfl)
  simp only [Act.put, List.getElem_toArray, List.getElem_cons_zero, List.getElem_cons_succ, List.setIfInBounds_toArray, List.set_cons_zero, List.set_cons_succ]
  refine wpAnyH_ready (rs := [11]) (by kernel_rfl) (by simp) ?_
  refine AllReadyH.cons (o := _) rfl (fun K hK => ?_) AllReadyH.nil
  simp only [List.getElem_toArray, List.getElem_cons_zero, List.getElem_cons_succ]
  go_simp
  with_reducible refine (rcopied_o _ _ _ _ _ qt (by have := HK.out; have := HN.out; omega)).mono ?_
  rintro e w9 ⟨v, rfl, qdw, b9⟩
  dsimp only
  have y_qd_o := Lib.hid (hlt ho)
  have y_qd_z := Lib.hid (hlt hz)
  have y_qd_p := Lib.hid (hlt hp)
  have bl_hB_qd := hB.bl_new
  have bl_po_qd := po.bl_new
  have bl_pb_qd := pb.bl_new
  have bl_qt_qd := qt.bl_new
  have qdlo := bel.size
  have lz_qd := b9.size
  replace ho := blk_u ho b9
  replace hz := blk_u hz b9
  replace hp := blk_u hp b9
  replace hB := hB.below b9
  replace po := po.below b9
  replace pb := pb.below b9
  replace qt := qt.below b9
  replace bel := bel.trans (b9.mono bel.size)
  clear b9
  obtain ⟨Aqd, cqd, rfl⟩ := own_val qdw
  have qd := (own_sl qdw).1
  have fr_qd := (own_sl qdw).2
  have av_qd_o := fr_qd.av y_qd_o.out
  have av_qd_z := fr_qd.av y_qd_z.out
  have av_qd_p := fr_qd.av y_qd_p.out
  refine hK.out _ _ ⟨ho, hp⟩ (fun hH10 => ?_)
  clear hK K
  refine wpAnyH_take (i := 12) (v := ?_) rfl (by kernel_rfl) (by kernel_rfl) (by kernel_rfl) (fun _ _ _ h => h) (Or.inl ⟨by rfl, ?_⟩) hH10 ?_
  rotate_left
  · ((intro W hW; clear hW; go_simp) <;> with_reducible rfl)
  simp only [Act.put, List.getElem_toArray, List.getElem_cons_zero, List.getElem_cons_succ, List.setIfInBounds_toArray, List.set_cons_zero, List.set_cons_succ]
  refine wpAnyH_ready (rs := [13]) (by kernel_rfl) (by simp) ?_
  refine AllReadyH.cons (o := _) rfl (fun K hK => ?_) AllReadyH.nil
  simp only [List.getElem_toArray, List.getElem_cons_zero, List.getElem_cons_succ]
  go_simp
  have ob := bel.size
  with_reducible refine (ricput_any _ _ _ _ _ _ _ _ _ _ _ _ _ _ _ _ _ _ _ _ _ _ _ _ _ _ [] _ _ (Sl.nil _) qd (by decide) (by decide) (by decide)).mono ?_
  rintro e w11 ⟨y0, y1, y2, y3, y4, y5, g0, g1, g2, g3, g4, g5, g6, g7, lr, lq, Ar, Aq, cr, cq, er, rfl, sr, sq_, fr1, fr2, b11, hQ⟩
  dsimp only
  have av_sr_o := fr1.av (hlt ho)
  have av_sr_z := fr1.av (hlt hz)
  have av_sr_p := fr1.av (hlt hp)
  have av_sq__o := fr2.av (hlt ho)
  have av_sq__z := fr2.av (hlt hz)
  have av_sq__p := fr2.av (hlt hp)
  replace ho := blk_u ho b11
  replace hz := blk_u hz b11
  replace hp := blk_u hp b11
  replace hB := hB.below b11
  replace po := po.below b11
  replace pb := pb.below b11
  replace qt := qt.below b11
  replace qd := qd.below b11
  replace qdw := own_under qdw b11
  replace lz_qd := Nat.le_trans lz_qd b11.size
  replace bel := bel.trans (b11.mono bel.size)
  clear b11
  replace sr : Sl w11 (Ar) (lr.length) (cr) (lr) := sr
  replace sq_ : Sl w11 (Aq) (lq.length) (cq) (lq) := sq_
  refine hK.out _ _ ⟨ho, hp⟩ (fun hH12 => ?_)
  clear hK K
  refine wpAnyH_take (i := 14) (v := ?_) rfl (by kernel_rfl) (by kernel_rfl) (by kernel_rfl) (fun _ _ _ h => h) (Or.inl ⟨by rfl, ?_⟩) hH12 ?_
  rotate_left
  · ((intro W hW; clear hW; go_simp) <;> with_reducible rfl)
  simp only [Act.put, List.getElem_toArray, List.getElem_cons_zero, List.getElem_cons_succ, List.setIfInBounds_toArray, List.set_cons_zero, List.set_cons_succ]
  refine wpAnyH_take (i := 15) (v := ?_) rfl (by kernel_rfl) (by kernel_rfl) (by kernel_rfl) (fun _ _ _ h => h) (Or.inl ⟨by rfl, ?_⟩) hH12 ?_
  rotate_left
  · ((intro W hW; clear hW; go_simp) <;> with_reducible rfl)
  simp only [Act.put, List.getElem_toArray, List.getElem_cons_zero, List.getElem_cons_succ, List.setIfInBounds_toArray, List.set_cons_zero, List.set_cons_succ]
  refine wpAnyH_ready (rs := [16]) (by kernel_rfl) (by simp) ?_
  refine AllReadyH.cons (o := _) rfl (fun K hK => ?_) AllReadyH.nil
  simp only [List.getElem_toArray, List.getElem_cons_zero, List.getElem_cons_succ]
  rw [if_pos (by rfl)]
  refine wp_store_blk 45 (.tmp 8) (.tmp 93) rfl g8 rfl _ rfl _ 45 hz (by rfl) (by kernel_rfl) (by kernel_rfl) ?_
  intro w13 hq gr
  replace hB := hB.away av_hB_z gr
  clear po
  clear pb
  replace qt := qt.away av_qt_z gr
  replace qd := qd.away av_qd_z gr
  replace qdw := own_away qdw y_qd_z.out gr
  replace sr := sr.away av_sr_z gr
  replace sq_ := sq_.away av_sq__z gr
  replace lz_qd := Nat.le_trans lz_qd gr.size
  replace ho := blk_a ho gr d_o_z
  replace hp := blk_a hp gr (ne_symm d_z_p)
  replace bel := below_grown bel gr oz bel.size
  clear hz
  have hz := hq
  clear hq gr
  refine hK.out _ _ ⟨ho, hp⟩ (fun hH14 => ?_)
  clear hK K
  simp only [Act.put]
  refine wpAnyH_take (i := 17) (v := ?_) rfl (by kernel_rfl) (by kernel_rfl) (by kernel_rfl) (fun _ _ _ h => h) (Or.inl ⟨by rfl, ?_⟩) hH14 ?_
  rotate_left
  · ((intro W hW; clear hW; go_simp) <;> with_reducible rfl)
  simp only [Act.put, List.getElem_toArray, List.getElem_cons_zero, List.getElem_cons_succ, List.setIfInBounds_toArray, List.set_cons_zero, List.set_cons_succ]
  refine wpAnyH_done (by kernel_rfl) ?_ _
  go_wp2_with fail
  exact bodyPost_ret (results_cell_tmp_row rfl _ _ _ _ _ _ _ rfl hz Try.underlying45 rfl (by kernel_rfl) (.int .i64 er) rfl) rfl ⟨y0, y1, y2, y3, y4, y5, g0, g1, g2, g3, g4, g5, g6, g7, lr, lq, Ar, Aq, cr, cq, er, rfl, sr, sq_, fr1.mono ob, fr2.mono ob, bel, hQ.trans HP.out.symm⟩
set_option linter.unusedVariables false in
set_option maxRecDepth 100000 in
set_option maxHeartbeats 16000000 in
theorem ricabout_wc (o0 o1 o2 o3 : UInt8) (B : Option Addr) (nB cB : Nat) (l : List UInt8) (ty cd : Int) (f0 f1 f2 f3 f4 f5 : Int) (a0 a1 a2 a3 a4 a5 a6 a7 : UInt8) (lo lb : List UInt8) (no nb : Nat) (w : World) (hB : Sl w B nB cB l) (hm : nB ≤ 100000) (hg : ipGet l = (([f0, f1, f2, f3, f4, f5], [a0, a1, a2, a3, a4, a5, a6, a7]), (lo, lb), 0)) (hy : icMay f3 f5 a0 a1 a2 a3 a4 a5 a6 a7 lb = true) (c0 : ¬ 0 < f3) (c1 : hostOk a0 a1 a2 a3 = true) (c2 : hostOk a4 a5 a6 a7 = true) (c3 : f5 = 1) (c4 : 8 ≤ nb) (x : UInt8) (hx : lb[0]? = some x) (c5 : x.toNat = 8) (d1 : byteOk ty = true) (d2 : byteOk cd = true) (hn : 8 < nb) (h1 : lo.length = no) (h2 : lb.length = nb) : Calls Try.prog 27 #[.agg #[.int .u8 (o0.toNat : Int), .int .u8 (o1.toNat : Int), .int .u8 (o2.toNat : Int), .int .u8 (o3.toNat : Int)], .slice B nB cB, .int .i64 ty, .int .i64 cd] w (PkPost (icAbout o0 o1 o2 o3 l ty cd) w) := by
  obtain ⟨ii, hii, hz0, hz1, hz2⟩ := info_parts Try.info5
  have HG := Lib.hid hg
  have HM := Lib.hid hm
  have HL1 := Lib.hid h1
  have HL2 := Lib.hid h2
  have t0 : decide ((0 : Int) < f3) = false := decide_eq_false c0
  have H1 := Lib.hid c1
  have H2 := Lib.hid c2
  have t3 : (f5 == 1) = true := by simpa using c3
  have H8 : Hid (0 < nb) := Lib.hid (by omega)
  have t4 : decide ((nb : Int) < 8) = false := decide_eq_false (by omega)
  have m0 : 0 < nb := by omega
  have x0 : ((x.toNat : Int) == 0) = false := by simp; omega
  have y0 : ((x.toNat : Int) != 0) = true := by simp; omega
  have x1 : ((x.toNat : Int) == 8) = true := by simp; omega
  have y1 : ((x.toNat : Int) != 8) = false := by simp; omega
  have HX := Lib.hid hx
  have D1 := Lib.hid d1
  have D2 := Lib.hid d2
  have hlen := ipget_len hg
  obtain ⟨k, hk⟩ : ∃ k, k = 20 + no + 8 := ⟨_, rfl⟩
  have HP : Hid (icAbout o0 o1 o2 o3 l ty cd = icPut 0 0 0 0 64 o0 o1 o2 o3 a0 a1 a2 a3 [] ty cd 0 (l.take k)) := Lib.hid (by rw [icAbout_eq _ _ _ _ _ _ hg]; unfold icAb; rw [if_neg (by decide), if_neg (by rw [hy]; decide), h1, h2, hk, show min nb 8 = 8 by omega])
  have HK : Hid (k ≤ nB) := Lib.hid (by have := hB.1; omega)
  have HN := Lib.hid hm
  have t7 : (8 : Int) < nb := by omega
  have b0 : (0 : Int) ≤ no := by omega
  have b1 : (no : Int) ≤ 100000 := by have := hB.1; omega
  have ek : 20 + (no : Int) + 8 = (k : Int) := by omega
  have ew : IntKind.i64.wrap (k : Int) = (k : Int) := IntWalk.i64_in _ (by have := hB.1; omega)
  clear hg hm h1 h2 hy hk hlen hn d1 d2 c0 c1 c2 c3 hx c5 c4
  have bel := Below.refl w.heap.size w
  go_enter Try.func27, Try.ntmps27
  go_wp2_with (first | ((with_reducible show wpList _ _ _ (⟨some 4, _, _, _, _, _⟩ :: _) _ _); refine wpList_box_n rfl 24 (.tmp 0) rfl #[.int .u8 (o0.toNat : Int), .int .u8 (o1.toNat : Int), .int .u8 (o2.toNat : Int), .int .u8 (o3.toNat : Int)] rfl ?_; intro g4 w1 ge lt hh bb; have av_hB_o := hB.av_new ge; have oo := Nat.le_trans bel.size ge; replace hB := hB.below bb; replace bel := bel.trans (bb.mono bel.size); have ho := hh; clear hh lt ge bb) | ((with_reducible show wpList _ _ _ (⟨some 8, _, _, _, _, _⟩ :: _) _ _); refine wpList_new_a rfl 45 rfl #[.int .i64 0, .int .i64 0, .int .i64 0, .int .i64 0, .int .i64 0, .int .i64 0, .int .u8 0, .int .u8 0, .int .u8 0, .int .u8 0, .int .u8 0, .int .u8 0, .int .u8 0, .int .u8 0, .slice none 0 0, .slice none 0 0] (by kernel_rfl) ?_; intro g8 w2 ge hh bb; have d_o_z := ne_new (hlt ho) ge; have av_hB_z := hB.av_new ge; have oz := Nat.le_trans bel.size ge; replace ho := blk_u ho bb; replace hB := hB.below bb; replace bel := bel.trans (bb.mono bel.size); have hz := hh; clear hh ge bb))
  with_reducible refine (rget6_n _ _ _ l f0 f1 f2 f3 f4 f5 a0 a1 a2 a3 a4 a5 a6 a7 lo lb no nb 0 _ hB HM.out HG.out HL1.out HL2.out).mono ?_
  rintro e w3 ⟨Ao, co, Ab, cb, rfl, po, pb, b3⟩
  replace ho := blk_u ho b3
  replace hz := blk_u hz b3
  replace hB := hB.below b3
  replace bel := bel.trans (b3.mono bel.size)
  clear b3
  replace po : Sl w3 (Ao) (no) (co) (lo) := po
  replace pb : Sl w3 (Ab) (nb) (cb) (lb) := pb
  obtain ⟨gB, oB, hAb⟩ := sl_some pb H8.out
  subst hAb
  go_wp2_with (first | ((with_reducible show wpList _ _ _ (⟨some 10, _, _, _, _, _⟩ :: _) _ _); refine wpList_new_a rfl 45 rfl #[.int .i64 0, .int .i64 0, .int .i64 0, .int .i64 0, .int .i64 0, .int .i64 0, .int .u8 0, .int .u8 0, .int .u8 0, .int .u8 0, .int .u8 0, .int .u8 0, .int .u8 0, .int .u8 0, .slice none 0 0, .slice none 0 0] (by kernel_rfl) ?_; intro g10 w4 ge hh bb; have d_o_p := ne_new (hlt ho) ge; have d_z_p := ne_new (hlt hz) ge; have av_hB_p := hB.av_new ge; have av_po_p := po.av_new ge; have av_pb_p := pb.av_new ge; have op := Nat.le_trans bel.size ge; replace ho := blk_u ho bb; replace hz := blk_u hz bb; replace hB := hB.below bb; replace po := po.below bb; replace pb := pb.below bb; replace bel := bel.trans (bb.mono bel.size); have hp := hh; clear hh ge bb) | ((with_reducible show wpList _ _ _ (⟨none, Op.store _ (.tmp 10) _, _, _, _, _⟩ :: _) _ _); refine wpList_store_blk rfl 45 (.tmp 10) (.tmp 17) rfl g10 rfl _ rfl _ 45 hp (by rfl) (by kernel_rfl) (by kernel_rfl) ?_; intro w5 hq gr; replace hB := hB.away av_hB_p gr; replace po := po.away av_po_p gr; replace pb := pb.away av_pb_p gr; replace ho := blk_a ho gr d_o_p; replace hz := blk_a hz gr d_z_p; replace bel := below_grown bel gr op bel.size; clear hp; have hp := hq; clear hq gr; have R24 := cell_lit hp 3 _ rfl; have R28 := Lib.hid (range_lit hp 6 4 [.int .u8 (a0.toNat : Int), .int .u8 (a1.toNat : Int), .int .u8 (a2.toNat : Int), .int .u8 (a3.toNat : Int)] rfl)) | ((with_reducible show wpList _ _ _ (⟨some 28, _, _, _, _, _⟩ :: _) _ _); refine wpList_load_rng 24 (.tmp 27) rfl (by kernel_rfl) _ _ rfl _ R28.out _ Try.underlying24 rfl (by kernel_rfl) ?_))
  try clear R24
  try clear R28
  with_reducible refine (rodd_any _ _ _ _ _).mono ?_
  rintro e w6 ⟨rfl, b6⟩
  replace ho := blk_u ho b6
  replace hz := blk_u hz b6
  replace hp := blk_u hp b6
  replace hB := hB.below b6
  replace po := po.below b6
  replace pb := pb.below b6
  replace bel := bel.trans (b6.mono bel.size)
  clear b6
  rw [H1.out]
  have R33 := Lib.hid (range_lit hp 10 4 [.int .u8 (a4.toNat : Int), .int .u8 (a5.toNat : Int), .int .u8 (a6.toNat : Int), .int .u8 (a7.toNat : Int)] rfl)
  go_wp2_with (first | ((with_reducible show wpList _ _ _ (⟨some 33, _, _, _, _, _⟩ :: _) _ _); refine wpList_load_rng 24 (.tmp 32) rfl (by kernel_rfl) _ _ rfl _ R33.out _ Try.underlying24 rfl (by kernel_rfl) ?_))
  try clear R33
  with_reducible refine (rodd_any _ _ _ _ _).mono ?_
  rintro e w7 ⟨rfl, b7⟩
  replace ho := blk_u ho b7
  replace hz := blk_u hz b7
  replace hp := blk_u hp b7
  replace hB := hB.below b7
  replace po := po.below b7
  replace pb := pb.below b7
  replace bel := bel.trans (b7.mono bel.size)
  clear b7
  rw [H2.out]
  have R38 := cell_lit hp 5 _ rfl
  have R42 := cell_lit hp 15 _ rfl
  have R47 := cell_lit hp 15 _ rfl
  have R49 := (by have h_ := sl_at pb (j := 0) HX.out; rw [Nat.add_zero] at h_; exact h_)
  have R53 := cell_lit hp 15 _ rfl
  have R55 := (by have h_ := sl_at pb (j := 0) HX.out; rw [Nat.add_zero] at h_; exact h_)
  go_wp2_with fail
  clear R38 R42 R47 R49 R53 R55
  with_reducible refine (rbyte_any _ _).mono ?_
  rintro e _ ⟨rfl, rfl⟩
  rw [D1.out]
  go_wp2_with fail
  with_reducible refine (rbyte_any _ _).mono ?_
  rintro e _ ⟨rfl, rfl⟩
  rw [D2.out]
  have R71 := cell_lit hp 14 _ rfl
  have R75 := cell_lit hp 15 _ rfl
  go_wp2_with fail
  clear R71 R75
  replace bel := bel.drew
  replace ho : w7.drew.heap[g4]? = _ := ho
  replace hz : w7.drew.heap[g8]? = _ := hz
  replace hp : w7.drew.heap[g10]? = _ := hp
  replace hB := hB.drew
  replace po := po.drew
  replace pb := pb.drew
  refine wp_region_held_drew (S := fun W => W.heap[g4]? = some (.cells #[.int .u8 (o0.toNat : Int), .int .u8 (o1.toNat : Int), .int .u8 (o2.toNat : Int), .int .u8 (o3.toNat : Int)] 24 (0, 0)) ∧ W.heap[g10]? = some (.cells #[.int .i64 f0, .int .i64 f1, .int .i64 f2, .int .i64 f3, .int .i64 f4, .int .i64 f5, .int .u8 (a0.toNat : Int), .int .u8 (a1.toNat : Int), .int .u8 (a2.toNat : Int), .int .u8 (a3.toNat : Int), .int .u8 (a4.toNat : Int), .int .u8 (a5.toNat : Int), .int .u8 (a6.toNat : Int), .int .u8 (a7.toNat : Int), .slice Ao no co, .slice (some ⟨gB, oB, none⟩) nb cb] 45 (0, 0))) (by kernel_rfl) ⟨ho, hp⟩ (fun hH => ?_)
  generalize w7.drew = w8 at bel ho hz hp hB po pb hH ⊢
  refine wpAnyH_take (i := 0) (v := .agg #[.int .u8 (o0.toNat : Int), .int .u8 (o1.toNat : Int), .int .u8 (o2.toNat : Int), .int .u8 (o3.toNat : Int)]) rfl (by kernel_rfl) (by kernel_rfl) (by kernel_rfl) (fun _ _ _ h => h) (yieldsIf_load_part (by kernel_rfl) 24 _ rfl g4 0 4 rfl _ 24 (0, 0) (fun W hW => hW.1) _ rfl _ Try.underlying24 rfl (by kernel_rfl)) hH ?_
  simp only [Act.put, List.getElem_toArray, List.getElem_cons_zero, List.setIfInBounds_toArray, List.set_cons_zero, List.set_cons_succ]
  refine wpAnyH_take (i := 1) (v := ?_) rfl (by kernel_rfl) (by kernel_rfl) (by kernel_rfl) (fun _ _ _ h => h) (Or.inl ⟨by rfl, ?_⟩) hH ?_
  rotate_left
  · ((intro W hW; clear hW; go_simp) <;> with_reducible rfl)
  simp only [Act.put, List.getElem_toArray, List.getElem_cons_zero, List.getElem_cons_succ, List.setIfInBounds_toArray, List.set_cons_zero, List.set_cons_succ]
  refine wpAnyH_take (i := 2) (v := .agg #[.int .u8 (a0.toNat : Int), .int .u8 (a1.toNat : Int), .int .u8 (a2.toNat : Int), .int .u8 (a3.toNat : Int)]) rfl (by kernel_rfl) (by kernel_rfl) (by kernel_rfl) (fun _ _ _ h => h) (yieldsIf_load_part (by kernel_rfl) 24 _ rfl g10 6 4 rfl _ 45 (0, 0) (fun W hW => hW.2) _ rfl _ Try.underlying24 rfl (by kernel_rfl)) hH ?_
  simp only [Act.put, List.getElem_toArray, List.getElem_cons_zero, List.getElem_cons_succ, List.setIfInBounds_toArray, List.set_cons_zero, List.set_cons_succ]
  refine wpAnyH_take (i := 3) (v := ?_) rfl (by kernel_rfl) (by kernel_rfl) (by kernel_rfl) (fun _ _ _ h => h) (Or.inl ⟨by rfl, ?_⟩) hH ?_
  rotate_left
  · ((intro W hW; clear hW; go_simp) <;> with_reducible rfl)
  simp only [Act.put, List.getElem_toArray, List.getElem_cons_zero, List.getElem_cons_succ, List.setIfInBounds_toArray, List.set_cons_zero, List.set_cons_succ]
  refine wpAnyH_take (i := 4) (v := ?_) rfl (by kernel_rfl) (by kernel_rfl) (by kernel_rfl) (fun _ _ _ h => h) (Or.inl ⟨by rfl, ?_⟩) hH ?_
  rotate_left
  · ((intro W hW; clear hW; go_simp) <;> with_reducible rfl)
  simp only [Act.put, List.getElem_toArray, List.getElem_cons_zero, List.getElem_cons_succ, List.setIfInBounds_toArray, List.set_cons_zero, List.set_cons_succ]
  refine wpAnyH_take (i := 5) (v := ?_) rfl (by kernel_rfl) (by kernel_rfl) (by kernel_rfl) (fun _ _ _ h => h) (Or.inl ⟨by rfl, ?_⟩) hH ?_
  rotate_left
  · ((intro W hW; clear hW; go_simp) <;> with_reducible rfl)
  simp only [Act.put, List.getElem_toArray, List.getElem_cons_zero, List.getElem_cons_succ, List.setIfInBounds_toArray, List.set_cons_zero, List.set_cons_succ]
  refine wpAnyH_take (i := 6) (v := ?_) rfl (by kernel_rfl) (by kernel_rfl) (by kernel_rfl) (fun _ _ _ h => h) (Or.inl ⟨by rfl, ?_⟩) hH ?_
  rotate_left
  · ((intro W hW; clear hW; go_simp) <;> with_reducible rfl)
  simp only [Act.put, List.getElem_toArray, List.getElem_cons_zero, List.getElem_cons_succ, List.setIfInBounds_toArray, List.set_cons_zero, List.set_cons_succ]
  refine wpAnyH_take (i := 7) (v := ?_) rfl (by kernel_rfl) (by kernel_rfl) (by kernel_rfl) (fun _ _ _ h => h) (Or.inl ⟨by rfl, ?_⟩) hH ?_
  rotate_left
  · ((intro W hW; clear hW; go_simp) <;> with_reducible rfl)
  simp only [Act.put, List.getElem_toArray, List.getElem_cons_zero, List.getElem_cons_succ, List.setIfInBounds_toArray, List.set_cons_zero, List.set_cons_succ]
  refine wpAnyH_take (i := 8) (v := ?_) rfl (by kernel_rfl) (by kernel_rfl) (by kernel_rfl) (fun _ _ _ h => h) (Or.inl ⟨by rfl, ?_⟩) hH ?_
  rotate_left
  · ((intro W hW; clear hW; go_simp) <;> with_reducible rfl)
  simp only [Act.put, List.getElem_toArray, List.getElem_cons_zero, List.getElem_cons_succ, List.setIfInBounds_toArray, List.set_cons_zero, List.set_cons_succ]
  refine wpAnyH_take (i := 9) (v := ?_) rfl (by kernel_rfl) (by kernel_rfl) (by kernel_rfl) (fun _ _ _ h => h) (Or.inl ⟨by rfl, ?_⟩) hH ?_
  rotate_left
  · ((intro W hW; clear hW; go_simp) <;> with_reducible rfl)
  simp only [Act.put, List.getElem_toArray, List.getElem_cons_zero, List.getElem_cons_succ, List.setIfInBounds_toArray, List.set_cons_zero, List.set_cons_succ]
  obtain ⟨A89, c89, r89, f89, u89⟩ := piece_front hB (k := k) HK.out
  have qt := f89 _ hB
  have av_qt_o := av_hB_o.sub u89
  have av_qt_z := av_hB_z.sub u89
  have av_qt_p := av_hB_p.sub u89
  clear f89 u89
  refine wpAnyH_take (i := 10) (v := ?_) rfl (by kernel_rfl) (by kernel_rfl) (by kernel_rfl) (fun _ _ _ h => h) (Or.inl ⟨by rfl, ?_⟩) hH ?_
  rotate_left
  · ((intro W hW; clear hW; go_simp) <;> with_reducible rfl)
  simp only [Act.put, List.getElem_toArray, List.getElem_cons_zero, List.getElem_cons_succ, List.setIfInBounds_toArray, List.set_cons_zero, List.set_cons_succ]
  refine wpAnyH_ready (rs := [11]) (by kernel_rfl) (by simp) ?_
  refine AllReadyH.cons (o := _) rfl (fun K hK => ?_) AllReadyH.nil
  simp only [List.getElem_toArray, List.getElem_cons_zero, List.getElem_cons_succ]
  go_simp
  with_reducible refine (rcopied_o _ _ _ _ _ qt (by have := HK.out; have := HN.out; omega)).mono ?_
  rintro e w9 ⟨v, rfl, qdw, b9⟩
  dsimp only
  have y_qd_o := Lib.hid (hlt ho)
  have y_qd_z := Lib.hid (hlt hz)
  have y_qd_p := Lib.hid (hlt hp)
  have bl_hB_qd := hB.bl_new
  have bl_po_qd := po.bl_new
  have bl_pb_qd := pb.bl_new
  have bl_qt_qd := qt.bl_new
  have qdlo := bel.size
  have lz_qd := b9.size
  replace ho := blk_u ho b9
  replace hz := blk_u hz b9
  replace hp := blk_u hp b9
  replace hB := hB.below b9
  replace po := po.below b9
  replace pb := pb.below b9
  replace qt := qt.below b9
  replace bel := bel.trans (b9.mono bel.size)
  clear b9
  obtain ⟨Aqd, cqd, rfl⟩ := own_val qdw
  have qd := (own_sl qdw).1
  have fr_qd := (own_sl qdw).2
  have av_qd_o := fr_qd.av y_qd_o.out
  have av_qd_z := fr_qd.av y_qd_z.out
  have av_qd_p := fr_qd.av y_qd_p.out
  refine hK.out _ _ ⟨ho, hp⟩ (fun hH10 => ?_)
  clear hK K
  refine wpAnyH_take (i := 12) (v := ?_) rfl (by kernel_rfl) (by kernel_rfl) (by kernel_rfl) (fun _ _ _ h => h) (Or.inl ⟨by rfl, ?_⟩) hH10 ?_
  rotate_left
  · ((intro W hW; clear hW; go_simp) <;> with_reducible rfl)
  simp only [Act.put, List.getElem_toArray, List.getElem_cons_zero, List.getElem_cons_succ, List.setIfInBounds_toArray, List.set_cons_zero, List.set_cons_succ]
  refine wpAnyH_ready (rs := [13]) (by kernel_rfl) (by simp) ?_
  refine AllReadyH.cons (o := _) rfl (fun K hK => ?_) AllReadyH.nil
  simp only [List.getElem_toArray, List.getElem_cons_zero, List.getElem_cons_succ]
  go_simp
  have ob := bel.size
  with_reducible refine (ricput_any _ _ _ _ _ _ _ _ _ _ _ _ _ _ _ _ _ _ _ _ _ _ _ _ _ _ [] _ _ (Sl.nil _) qd (by decide) (by decide) (by decide)).mono ?_
  rintro e w11 ⟨y0, y1, y2, y3, y4, y5, g0, g1, g2, g3, g4, g5, g6, g7, lr, lq, Ar, Aq, cr, cq, er, rfl, sr, sq_, fr1, fr2, b11, hQ⟩
  dsimp only
  have av_sr_o := fr1.av (hlt ho)
  have av_sr_z := fr1.av (hlt hz)
  have av_sr_p := fr1.av (hlt hp)
  have av_sq__o := fr2.av (hlt ho)
  have av_sq__z := fr2.av (hlt hz)
  have av_sq__p := fr2.av (hlt hp)
  replace ho := blk_u ho b11
  replace hz := blk_u hz b11
  replace hp := blk_u hp b11
  replace hB := hB.below b11
  replace po := po.below b11
  replace pb := pb.below b11
  replace qt := qt.below b11
  replace qd := qd.below b11
  replace qdw := own_under qdw b11
  replace lz_qd := Nat.le_trans lz_qd b11.size
  replace bel := bel.trans (b11.mono bel.size)
  clear b11
  replace sr : Sl w11 (Ar) (lr.length) (cr) (lr) := sr
  replace sq_ : Sl w11 (Aq) (lq.length) (cq) (lq) := sq_
  refine hK.out _ _ ⟨ho, hp⟩ (fun hH12 => ?_)
  clear hK K
  refine wpAnyH_take (i := 14) (v := ?_) rfl (by kernel_rfl) (by kernel_rfl) (by kernel_rfl) (fun _ _ _ h => h) (Or.inl ⟨by rfl, ?_⟩) hH12 ?_
  rotate_left
  · ((intro W hW; clear hW; go_simp) <;> with_reducible rfl)
  simp only [Act.put, List.getElem_toArray, List.getElem_cons_zero, List.getElem_cons_succ, List.setIfInBounds_toArray, List.set_cons_zero, List.set_cons_succ]
  refine wpAnyH_take (i := 15) (v := ?_) rfl (by kernel_rfl) (by kernel_rfl) (by kernel_rfl) (fun _ _ _ h => h) (Or.inl ⟨by rfl, ?_⟩) hH12 ?_
  rotate_left
  · ((intro W hW; clear hW; go_simp) <;> with_reducible rfl)
  simp only [Act.put, List.getElem_toArray, List.getElem_cons_zero, List.getElem_cons_succ, List.setIfInBounds_toArray, List.set_cons_zero, List.set_cons_succ]
  refine wpAnyH_ready (rs := [16]) (by kernel_rfl) (by simp) ?_
  refine AllReadyH.cons (o := _) rfl (fun K hK => ?_) AllReadyH.nil
  simp only [List.getElem_toArray, List.getElem_cons_zero, List.getElem_cons_succ]
  rw [if_pos (by rfl)]
  refine wp_store_blk 45 (.tmp 8) (.tmp 93) rfl g8 rfl _ rfl _ 45 hz (by rfl) (by kernel_rfl) (by kernel_rfl) ?_
  intro w13 hq gr
  replace hB := hB.away av_hB_z gr
  clear po
  clear pb
  replace qt := qt.away av_qt_z gr
  replace qd := qd.away av_qd_z gr
  replace qdw := own_away qdw y_qd_z.out gr
  replace sr := sr.away av_sr_z gr
  replace sq_ := sq_.away av_sq__z gr
  replace lz_qd := Nat.le_trans lz_qd gr.size
  replace ho := blk_a ho gr d_o_z
  replace hp := blk_a hp gr (ne_symm d_z_p)
  replace bel := below_grown bel gr oz bel.size
  clear hz
  have hz := hq
  clear hq gr
  refine hK.out _ _ ⟨ho, hp⟩ (fun hH14 => ?_)
  clear hK K
  simp only [Act.put]
  refine wpAnyH_take (i := 17) (v := ?_) rfl (by kernel_rfl) (by kernel_rfl) (by kernel_rfl) (fun _ _ _ h => h) (Or.inl ⟨by rfl, ?_⟩) hH14 ?_
  rotate_left
  · ((intro W hW; clear hW; go_simp) <;> with_reducible rfl)
  simp only [Act.put, List.getElem_toArray, List.getElem_cons_zero, List.getElem_cons_succ, List.setIfInBounds_toArray, List.set_cons_zero, List.set_cons_succ]
  refine wpAnyH_done (by kernel_rfl) ?_ _
  go_wp2_with fail
  exact bodyPost_ret (results_cell_tmp_row rfl _ _ _ _ _ _ _ rfl hz Try.underlying45 rfl (by kernel_rfl) (.int .i64 er) rfl) rfl ⟨y0, y1, y2, y3, y4, y5, g0, g1, g2, g3, g4, g5, g6, g7, lr, lq, Ar, Aq, cr, cq, er, rfl, sr, sq_, fr1.mono ob, fr2.mono ob, bel, hQ.trans HP.out.symm⟩
theorem ricabout_any (o0 o1 o2 o3 : UInt8) (B : Option Addr) (nB cB : Nat) (l : List UInt8) (ty cd : Int) (w : World) (hB : Sl w B nB cB l) (hm : nB ≤ 100000) : Calls Try.prog 27 #[.agg #[.int .u8 (o0.toNat : Int), .int .u8 (o1.toNat : Int), .int .u8 (o2.toNat : Int), .int .u8 (o3.toNat : Int)], .slice B nB cB, .int .i64 ty, .int .i64 cd] w (PkPost (icAbout o0 o1 o2 o3 l ty cd) w) := by
  obtain ⟨f0, f1, f2, f3, f4, f5, a0, a1, a2, a3, a4, a5, a6, a7, lo, lb, er, hg⟩ := ipget_form l
  by_cases he : er = 0
  · subst he
    by_cases c0 : 0 < f3
    · exact ricabout_2 o0 o1 o2 o3 B nB cB l ty cd f0 f1 f2 f3 f4 f5 a0 a1 a2 a3 a4 a5 a6 a7 lo lb _ _ w hB hm hg (by unfold icMay; rw [decide_eq_true c0]; rfl) c0 rfl rfl
    have i0 : (!decide (0 < f3)) = true := by rw [decide_eq_false c0]; rfl
    rcases (by decide : ∀ b : Bool, b = true ∨ b = false) (hostOk a0 a1 a2 a3) with c1 | c1
    · rcases (by decide : ∀ b : Bool, b = true ∨ b = false) (hostOk a4 a5 a6 a7) with c2 | c2
      · by_cases c3 : f5 = 1
        · by_cases c4 : 8 ≤ lb.length
          · rcases lb with _ | ⟨x, r⟩
            · simp at c4
            have ie : ∀ b, echoT (x.toNat : Int) = b → icMay f3 f5 a0 a1 a2 a3 a4 a5 a6 a7 (x :: r) = b := by
              intro b hb
              unfold icMay
              rw [i0, c1, c2, decide_eq_true c3, decide_eq_true c4]
              exact hb
            by_cases c5 : x.toNat = 0
            · have hy := ie true (by unfold echoT; rw [decide_eq_true (show (x.toNat : Int) = 0 by omega)]; simp)
              rcases (by decide : ∀ b : Bool, b = true ∨ b = false) (byteOk ty) with d1 | d1
              · rcases (by decide : ∀ b : Bool, b = true ∨ b = false) (byteOk cd) with d2 | d2
                · by_cases hn : (x :: r).length ≤ 8
                  · exact ricabout_vb o0 o1 o2 o3 B nB cB l ty cd f0 f1 f2 f3 f4 f5 a0 a1 a2 a3 a4 a5 a6 a7 lo (x :: r) _ _ w hB hm hg hy c0 c1 c2 c3 c4 x rfl c5 d1 d2 hn rfl rfl
                  · exact ricabout_wb o0 o1 o2 o3 B nB cB l ty cd f0 f1 f2 f3 f4 f5 a0 a1 a2 a3 a4 a5 a6 a7 lo (x :: r) _ _ w hB hm hg hy c0 c1 c2 c3 c4 x rfl c5 d1 d2 (by omega) rfl rfl
                · exact ricabout_ub o0 o1 o2 o3 B nB cB l ty cd f0 f1 f2 f3 f4 f5 a0 a1 a2 a3 a4 a5 a6 a7 lo (x :: r) _ _ w hB hm hg hy c0 c1 c2 c3 c4 x rfl c5 d1 d2 rfl rfl
              · exact ricabout_tb o0 o1 o2 o3 B nB cB l ty cd f0 f1 f2 f3 f4 f5 a0 a1 a2 a3 a4 a5 a6 a7 lo (x :: r) _ _ w hB hm hg hy c0 c1 c2 c3 c4 x rfl c5 d1 rfl rfl
            · by_cases c6 : x.toNat = 8
              · have hy := ie true (by unfold echoT; rw [decide_eq_true (show (x.toNat : Int) = 8 by omega)]; simp)
                rcases (by decide : ∀ b : Bool, b = true ∨ b = false) (byteOk ty) with d1 | d1
                · rcases (by decide : ∀ b : Bool, b = true ∨ b = false) (byteOk cd) with d2 | d2
                  · by_cases hn : (x :: r).length ≤ 8
                    · exact ricabout_vc o0 o1 o2 o3 B nB cB l ty cd f0 f1 f2 f3 f4 f5 a0 a1 a2 a3 a4 a5 a6 a7 lo (x :: r) _ _ w hB hm hg hy c0 c1 c2 c3 c4 x rfl c6 d1 d2 hn rfl rfl
                    · exact ricabout_wc o0 o1 o2 o3 B nB cB l ty cd f0 f1 f2 f3 f4 f5 a0 a1 a2 a3 a4 a5 a6 a7 lo (x :: r) _ _ w hB hm hg hy c0 c1 c2 c3 c4 x rfl c6 d1 d2 (by omega) rfl rfl
                  · exact ricabout_uc o0 o1 o2 o3 B nB cB l ty cd f0 f1 f2 f3 f4 f5 a0 a1 a2 a3 a4 a5 a6 a7 lo (x :: r) _ _ w hB hm hg hy c0 c1 c2 c3 c4 x rfl c6 d1 d2 rfl rfl
                · exact ricabout_tc o0 o1 o2 o3 B nB cB l ty cd f0 f1 f2 f3 f4 f5 a0 a1 a2 a3 a4 a5 a6 a7 lo (x :: r) _ _ w hB hm hg hy c0 c1 c2 c3 c4 x rfl c6 d1 rfl rfl
              · exact ricabout_6 o0 o1 o2 o3 B nB cB l ty cd f0 f1 f2 f3 f4 f5 a0 a1 a2 a3 a4 a5 a6 a7 lo (x :: r) _ _ w hB hm hg (ie false (by unfold echoT; rw [decide_eq_false (show ¬ (x.toNat : Int) = 0 by omega), decide_eq_false (show ¬ (x.toNat : Int) = 8 by omega)]; rfl)) c0 c1 c2 c3 c4 x rfl c5 c6 rfl rfl
          · exact ricabout_5 o0 o1 o2 o3 B nB cB l ty cd f0 f1 f2 f3 f4 f5 a0 a1 a2 a3 a4 a5 a6 a7 lo lb _ _ w hB hm hg (by unfold icMay; rw [i0, c1, c2, decide_eq_true c3, decide_eq_false c4]; rfl) c0 c1 c2 c3 (by omega) rfl rfl
        · have hy : icMay f3 f5 a0 a1 a2 a3 a4 a5 a6 a7 lb = true := by unfold icMay; rw [i0, c1, c2, decide_eq_false c3]; rfl
          rcases (by decide : ∀ b : Bool, b = true ∨ b = false) (byteOk ty) with d1 | d1
          · rcases (by decide : ∀ b : Bool, b = true ∨ b = false) (byteOk cd) with d2 | d2
            · by_cases hn : lb.length ≤ 8
              · exact ricabout_va o0 o1 o2 o3 B nB cB l ty cd f0 f1 f2 f3 f4 f5 a0 a1 a2 a3 a4 a5 a6 a7 lo lb _ _ w hB hm hg hy c0 c1 c2 c3 d1 d2 hn rfl rfl
              · exact ricabout_wa o0 o1 o2 o3 B nB cB l ty cd f0 f1 f2 f3 f4 f5 a0 a1 a2 a3 a4 a5 a6 a7 lo lb _ _ w hB hm hg hy c0 c1 c2 c3 d1 d2 (by omega) rfl rfl
            · exact ricabout_ua o0 o1 o2 o3 B nB cB l ty cd f0 f1 f2 f3 f4 f5 a0 a1 a2 a3 a4 a5 a6 a7 lo lb _ _ w hB hm hg hy c0 c1 c2 c3 d1 d2 rfl rfl
          · exact ricabout_ta o0 o1 o2 o3 B nB cB l ty cd f0 f1 f2 f3 f4 f5 a0 a1 a2 a3 a4 a5 a6 a7 lo lb _ _ w hB hm hg hy c0 c1 c2 c3 d1 rfl rfl
      · exact ricabout_4 o0 o1 o2 o3 B nB cB l ty cd f0 f1 f2 f3 f4 f5 a0 a1 a2 a3 a4 a5 a6 a7 lo lb _ _ w hB hm hg (by unfold icMay; rw [i0, c1, c2]; rfl) c0 c1 c2 rfl rfl
    · exact ricabout_3 o0 o1 o2 o3 B nB cB l ty cd f0 f1 f2 f3 f4 f5 a0 a1 a2 a3 a4 a5 a6 a7 lo lb _ _ w hB hm hg (by unfold icMay; rw [i0, c1]; rfl) c0 c1 rfl rfl
  · exact ricabout_1 o0 o1 o2 o3 B nB cB l ty cd f0 f1 f2 f3 f4 f5 a0 a1 a2 a3 a4 a5 a6 a7 lo lb _ _ w hB hm er hg he rfl rfl
end Go.Proofs.Ytfmllopeeiecjaa
