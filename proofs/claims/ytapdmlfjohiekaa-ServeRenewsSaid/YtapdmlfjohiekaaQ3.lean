/- Texts put together: Pl1, Pl2. -/
import Derived.Test.YtapdmlfjohiekaaQ2
import Derived.Deep.CutRange
namespace Go.Proofs.Ytapdmlfjohiekaa
open Go.RowKit

set_option linter.unusedVariables false in
set_option linter.unusedSimpArgs false in
set_option maxRecDepth 100000 in
set_option maxHeartbeats 16000000 in
theorem pcmp_any (x y : Ad4) (w : World) : Calls Try.prog 60 #[.agg #[.int .u8 (x.a.toNat : Int), .int .u8 (x.b.toNat : Int), .int .u8 (x.c.toNat : Int), .int .u8 (x.d.toNat : Int)], .agg #[.int .u8 (y.a.toNat : Int), .int .u8 (y.b.toNat : Int), .int .u8 (y.c.toNat : Int), .int .u8 (y.d.toNat : Int)]] w fun e w' => e = .returned (.int .i64 (cmpN x.num y.num)) ∧ Below w.heap.size w w' := by
  have bel := Below.refl w.heap.size w
  go_enter Try.func60, Try.ntmps60
  go_wp2_with (first | ((with_reducible show wpList _ _ _ (⟨some 2, _, _, _, _, _⟩ :: _) _ _); refine wpList_box_n rfl 28 (.tmp 0) rfl #[.int .u8 (x.a.toNat : Int), .int .u8 (x.b.toNat : Int), .int .u8 (x.c.toNat : Int), .int .u8 (x.d.toNat : Int)] rfl ?_; intro g2 w1 ge lt hh bb; have oxb := Nat.le_trans bel.size ge; replace bel := bel.trans (bb.mono bel.size); have hxb := hh; clear hh lt ge bb) | ((with_reducible show wpList _ _ _ (⟨some 3, _, _, _, _, _⟩ :: _) _ _); refine wpList_box_n rfl 28 (.tmp 1) rfl #[.int .u8 (y.a.toNat : Int), .int .u8 (y.b.toNat : Int), .int .u8 (y.c.toNat : Int), .int .u8 (y.d.toNat : Int)] rfl ?_; intro g3 w2 ge lt hh bb; have d_xb_yb := ne_new (hlt hxb) ge; have oyb := Nat.le_trans bel.size ge; replace hxb := blk_u hxb bb; replace bel := bel.trans (bb.mono bel.size); have hyb := hh; clear hh lt ge bb))
  replace bel := bel.drew
  replace hxb : w2.drew.heap[g2]? = _ := hxb
  replace hyb : w2.drew.heap[g3]? = _ := hyb
  refine wp_region_held_drew (S := fun W => W.heap[g2]? = some (.cells #[.int .u8 (x.a.toNat : Int), .int .u8 (x.b.toNat : Int), .int .u8 (x.c.toNat : Int), .int .u8 (x.d.toNat : Int)] 28 (0, 0)) ∧ W.heap[g3]? = some (.cells #[.int .u8 (y.a.toNat : Int), .int .u8 (y.b.toNat : Int), .int .u8 (y.c.toNat : Int), .int .u8 (y.d.toNat : Int)] 28 (0, 0))) (by kernel_rfl) ⟨hxb, hyb⟩ (fun hH => ?_)
  generalize w2.drew = w3 at bel hxb hyb hH ⊢
  refine wpAnyH_take (i := 0) (v := .agg #[.int .u8 (x.a.toNat : Int), .int .u8 (x.b.toNat : Int), .int .u8 (x.c.toNat : Int), .int .u8 (x.d.toNat : Int)]) rfl (by kernel_rfl) (by kernel_rfl) (by kernel_rfl) (fun _ _ _ h => h) (yieldsIf_load_part (by kernel_rfl) 28 _ rfl g2 0 4 rfl _ 28 (0, 0) (fun W hW => hW.1) _ rfl _ Try.underlying28 rfl (by kernel_rfl)) hH ?_
  simp only [Act.put, List.getElem_toArray, List.getElem_cons_zero, List.setIfInBounds_toArray, List.set_cons_zero, List.set_cons_succ]
  refine wpAnyH_take (i := 2) (v := .agg #[.int .u8 (y.a.toNat : Int), .int .u8 (y.b.toNat : Int), .int .u8 (y.c.toNat : Int), .int .u8 (y.d.toNat : Int)]) rfl (by kernel_rfl) (by kernel_rfl) (by kernel_rfl) (fun _ _ _ h => h) (yieldsIf_load_part (by kernel_rfl) 28 _ rfl g3 0 4 rfl _ 28 (0, 0) (fun W hW => hW.2) _ rfl _ Try.underlying28 rfl (by kernel_rfl)) hH ?_
  simp only [Act.put, List.getElem_toArray, List.getElem_cons_zero, List.getElem_cons_succ, List.setIfInBounds_toArray, List.set_cons_zero, List.set_cons_succ]
  refine wpAnyH_ready (rs := [1]) (by kernel_rfl) (by simp) ?_
  refine AllReadyH.cons (o := _) rfl (fun K hK => ?_) AllReadyH.nil
  simp only [List.getElem_toArray, List.getElem_cons_zero, List.getElem_cons_succ]
  go_simp
  with_reducible refine (num_any x _).mono ?_
  rintro e w4 ⟨rfl, b4⟩
  dsimp only
  replace hxb := blk_u hxb b4
  replace hyb := blk_u hyb b4
  replace bel := bel.trans (b4.mono bel.size)
  clear b4
  refine hK.out _ _ ⟨hxb, hyb⟩ (fun hH5 => ?_)
  clear hK K
  refine wpAnyH_ready (rs := [3]) (by kernel_rfl) (by simp) ?_
  refine AllReadyH.cons (o := _) rfl (fun K hK => ?_) AllReadyH.nil
  simp only [List.getElem_toArray, List.getElem_cons_zero, List.getElem_cons_succ]
  go_simp
  with_reducible refine (num_any y _).mono ?_
  rintro e w6 ⟨rfl, b6⟩
  dsimp only
  replace hxb := blk_u hxb b6
  replace hyb := blk_u hyb b6
  replace bel := bel.trans (b6.mono bel.size)
  clear b6
  refine hK.out _ _ ⟨hxb, hyb⟩ (fun hH7 => ?_)
  clear hK K
  refine wpAnyH_ready (rs := [4]) (by kernel_rfl) (by simp) ?_
  refine AllReadyH.cons (o := _) rfl (fun K hK => ?_) AllReadyH.nil
  simp only [List.getElem_toArray, List.getElem_cons_zero, List.getElem_cons_succ]
  go_simp
  with_reducible refine (cmp_any _ _ _).mono ?_
  rintro e _ ⟨rfl, rfl⟩
  dsimp only
  refine hK.out _ _ ⟨hxb, hyb⟩ (fun hH8 => ?_)
  clear hK K
  refine wpAnyH_take (i := 5) (v := ?_) rfl (by kernel_rfl) (by kernel_rfl) (by kernel_rfl) (fun _ _ _ h => h) (Or.inl ⟨by rfl, ?_⟩) hH8 ?_
  rotate_left
  · ((intro W hW; clear hW; go_simp) <;> with_reducible rfl)
  simp only [Act.put, List.getElem_toArray, List.getElem_cons_zero, List.getElem_cons_succ, List.setIfInBounds_toArray, List.set_cons_zero, List.set_cons_succ]
  refine wpAnyH_done (by kernel_rfl) ?_ _
  go_wp2_with fail
  go_ret
  exact ⟨rfl, bel⟩
set_option linter.unusedVariables false in
set_option linter.unusedSimpArgs false in
set_option maxRecDepth 100000 in
set_option maxHeartbeats 16000000 in
theorem pfindf_any (x : Sd) (y : Ad4) (w : World) : Calls Try.prog 71 #[.agg #[.int .u8 (x.m.a.toNat : Int), .int .u8 (x.m.b.toNat : Int), .int .u8 (x.m.c.toNat : Int), .int .u8 (x.m.d.toNat : Int), .int .u8 (x.m.e.toNat : Int), .int .u8 (x.m.f.toNat : Int), .int .u8 (x.ad.a.toNat : Int), .int .u8 (x.ad.b.toNat : Int), .int .u8 (x.ad.c.toNat : Int), .int .u8 (x.ad.d.toNat : Int), .int .i64 x.u, .bool x.fx, .bool x.le, .bool x.rp, .int .i64 x.br], .agg #[.int .u8 (y.a.toNat : Int), .int .u8 (y.b.toNat : Int), .int .u8 (y.c.toNat : Int), .int .u8 (y.d.toNat : Int)]] w fun e w' => e = .returned (.int .i64 (cmpN x.num y.num)) ∧ Below w.heap.size w w' := by
  have bel := Below.refl w.heap.size w
  go_enter Try.func71, Try.ntmps71
  go_wp2_with (first | ((with_reducible show wpList _ _ _ (⟨some 2, _, _, _, _, _⟩ :: _) _ _); refine wpList_box_n rfl 101 (.tmp 0) rfl #[.int .u8 (x.m.a.toNat : Int), .int .u8 (x.m.b.toNat : Int), .int .u8 (x.m.c.toNat : Int), .int .u8 (x.m.d.toNat : Int), .int .u8 (x.m.e.toNat : Int), .int .u8 (x.m.f.toNat : Int), .int .u8 (x.ad.a.toNat : Int), .int .u8 (x.ad.b.toNat : Int), .int .u8 (x.ad.c.toNat : Int), .int .u8 (x.ad.d.toNat : Int), .int .i64 x.u, .bool x.fx, .bool x.le, .bool x.rp, .int .i64 x.br] rfl ?_; intro g2 w1 ge lt hh bb; have oeb := Nat.le_trans bel.size ge; replace bel := bel.trans (bb.mono bel.size); have heb := hh; clear hh lt ge bb) | ((with_reducible show wpList _ _ _ (⟨some 3, _, _, _, _, _⟩ :: _) _ _); refine wpList_box_n rfl 28 (.tmp 1) rfl #[.int .u8 (y.a.toNat : Int), .int .u8 (y.b.toNat : Int), .int .u8 (y.c.toNat : Int), .int .u8 (y.d.toNat : Int)] rfl ?_; intro g3 w2 ge lt hh bb; have d_eb_ab := ne_new (hlt heb) ge; have oab := Nat.le_trans bel.size ge; replace heb := blk_u heb bb; replace bel := bel.trans (bb.mono bel.size); have hab := hh; clear hh lt ge bb; have R7 := Lib.hid (range_lit heb 6 4 [.int .u8 (x.ad.a.toNat : Int), .int .u8 (x.ad.b.toNat : Int), .int .u8 (x.ad.c.toNat : Int), .int .u8 (x.ad.d.toNat : Int)] rfl)) | ((with_reducible show wpList _ _ _ (⟨some 7, _, _, _, _, _⟩ :: _) _ _); refine wpList_load_rng 28 (.tmp 6) rfl (by kernel_rfl) _ _ rfl _ R7.out _ Try.underlying28 rfl (by kernel_rfl) ?_; have R8 := Lib.hid (range_lit hab 0 4 [.int .u8 (y.a.toNat : Int), .int .u8 (y.b.toNat : Int), .int .u8 (y.c.toNat : Int), .int .u8 (y.d.toNat : Int)] rfl)) | ((with_reducible show wpList _ _ _ (⟨some 8, _, _, _, _, _⟩ :: _) _ _); refine wpList_load_rng 28 (.tmp 3) rfl (by kernel_rfl) _ _ rfl _ R8.out _ Try.underlying28 rfl (by kernel_rfl) ?_))
  try clear R7
  try clear R8
  with_reducible refine (pcmp_any x.ad y _).mono ?_
  rintro e w3 ⟨rfl, b3⟩
  replace heb := blk_u heb b3
  replace hab := blk_u hab b3
  replace bel := bel.trans (b3.mono bel.size)
  clear b3
  go_wp2_with fail
  go_ret
  exact ⟨rfl, bel⟩
set_option linter.unusedVariables false in
set_option linter.unusedSimpArgs false in
set_option maxRecDepth 100000 in
set_option maxHeartbeats 16000000 in
theorem presf_any (x y : Sd) (w : World) : Calls Try.prog 59 #[.agg #[.int .u8 (x.m.a.toNat : Int), .int .u8 (x.m.b.toNat : Int), .int .u8 (x.m.c.toNat : Int), .int .u8 (x.m.d.toNat : Int), .int .u8 (x.m.e.toNat : Int), .int .u8 (x.m.f.toNat : Int), .int .u8 (x.ad.a.toNat : Int), .int .u8 (x.ad.b.toNat : Int), .int .u8 (x.ad.c.toNat : Int), .int .u8 (x.ad.d.toNat : Int), .int .i64 x.u, .bool x.fx, .bool x.le, .bool x.rp, .int .i64 x.br], .agg #[.int .u8 (y.m.a.toNat : Int), .int .u8 (y.m.b.toNat : Int), .int .u8 (y.m.c.toNat : Int), .int .u8 (y.m.d.toNat : Int), .int .u8 (y.m.e.toNat : Int), .int .u8 (y.m.f.toNat : Int), .int .u8 (y.ad.a.toNat : Int), .int .u8 (y.ad.b.toNat : Int), .int .u8 (y.ad.c.toNat : Int), .int .u8 (y.ad.d.toNat : Int), .int .i64 y.u, .bool y.fx, .bool y.le, .bool y.rp, .int .i64 y.br]] w fun e w' => e = .returned (.int .i64 (cmpN x.num y.num)) ∧ Below w.heap.size w w' := by
  have bel := Below.refl w.heap.size w
  go_enter Try.func59, Try.ntmps59
  go_wp2_with (first | ((with_reducible show wpList _ _ _ (⟨some 2, _, _, _, _, _⟩ :: _) _ _); refine wpList_box_n rfl 101 (.tmp 0) rfl #[.int .u8 (x.m.a.toNat : Int), .int .u8 (x.m.b.toNat : Int), .int .u8 (x.m.c.toNat : Int), .int .u8 (x.m.d.toNat : Int), .int .u8 (x.m.e.toNat : Int), .int .u8 (x.m.f.toNat : Int), .int .u8 (x.ad.a.toNat : Int), .int .u8 (x.ad.b.toNat : Int), .int .u8 (x.ad.c.toNat : Int), .int .u8 (x.ad.d.toNat : Int), .int .i64 x.u, .bool x.fx, .bool x.le, .bool x.rp, .int .i64 x.br] rfl ?_; intro g2 w1 ge lt hh bb; have oeb := Nat.le_trans bel.size ge; replace bel := bel.trans (bb.mono bel.size); have heb := hh; clear hh lt ge bb) | ((with_reducible show wpList _ _ _ (⟨some 3, _, _, _, _, _⟩ :: _) _ _); refine wpList_box_n rfl 101 (.tmp 1) rfl #[.int .u8 (y.m.a.toNat : Int), .int .u8 (y.m.b.toNat : Int), .int .u8 (y.m.c.toNat : Int), .int .u8 (y.m.d.toNat : Int), .int .u8 (y.m.e.toNat : Int), .int .u8 (y.m.f.toNat : Int), .int .u8 (y.ad.a.toNat : Int), .int .u8 (y.ad.b.toNat : Int), .int .u8 (y.ad.c.toNat : Int), .int .u8 (y.ad.d.toNat : Int), .int .i64 y.u, .bool y.fx, .bool y.le, .bool y.rp, .int .i64 y.br] rfl ?_; intro g3 w2 ge lt hh bb; have d_eb_ab := ne_new (hlt heb) ge; have oab := Nat.le_trans bel.size ge; replace heb := blk_u heb bb; replace bel := bel.trans (bb.mono bel.size); have hab := hh; clear hh lt ge bb; have R7 := Lib.hid (range_lit heb 6 4 [.int .u8 (x.ad.a.toNat : Int), .int .u8 (x.ad.b.toNat : Int), .int .u8 (x.ad.c.toNat : Int), .int .u8 (x.ad.d.toNat : Int)] rfl)) | ((with_reducible show wpList _ _ _ (⟨some 7, _, _, _, _, _⟩ :: _) _ _); refine wpList_load_rng 28 (.tmp 6) rfl (by kernel_rfl) _ _ rfl _ R7.out _ Try.underlying28 rfl (by kernel_rfl) ?_; have R10 := Lib.hid (range_lit hab 6 4 [.int .u8 (y.ad.a.toNat : Int), .int .u8 (y.ad.b.toNat : Int), .int .u8 (y.ad.c.toNat : Int), .int .u8 (y.ad.d.toNat : Int)] rfl)) | ((with_reducible show wpList _ _ _ (⟨some 10, _, _, _, _, _⟩ :: _) _ _); refine wpList_load_rng 28 (.tmp 9) rfl (by kernel_rfl) _ _ rfl _ R10.out _ Try.underlying28 rfl (by kernel_rfl) ?_))
  try clear R7
  try clear R10
  with_reducible refine (pcmp_any x.ad y.ad _).mono ?_
  rintro e w3 ⟨rfl, b3⟩
  replace heb := blk_u heb b3
  replace hab := blk_u hab b3
  replace bel := bel.trans (b3.mono bel.size)
  clear b3
  go_wp2_with fail
  go_ret
  exact ⟨rfl, bel⟩
set_option linter.unusedVariables false in
set_option linter.unusedSimpArgs false in
set_option maxRecDepth 100000 in
set_option maxHeartbeats 16000000 in
theorem live_el {gE n c i : Nat} {l : List Sd} {x : Sd} {now : Int} {b : Bool} (w : World) (en : Sle slE 15 w (some ⟨gE, 0, none⟩) n c l) (hx : l[i]? = some x) (hb : x.liveB now = b) : Calls Try.prog 53 #[.pointer (some ⟨gE, i * 15, none⟩), .int .i64 now] w fun e w' => e = .returned (.bool b) ∧ w = w' := by
  have HX := Lib.hid hx
  clear hx
  skip
  go_enter Try.func53, Try.ntmps53
  have R10 := Sle.zcell en HX.out 10 _ rfl
  go_wp2_with fail
  clear R10
  go_ret
  exact ⟨by rw [← hb]; rfl, rfl⟩
set_option linter.unusedVariables false in
set_option linter.unusedSimpArgs false in
set_option maxRecDepth 100000 in
set_option maxHeartbeats 16000000 in
theorem live_box {ge : Nat} {x : Sd} {now : Int} {b : Bool} (w : World) (heb : w.heap[ge]? = some (.cells #[.int .u8 (x.m.a.toNat : Int), .int .u8 (x.m.b.toNat : Int), .int .u8 (x.m.c.toNat : Int), .int .u8 (x.m.d.toNat : Int), .int .u8 (x.m.e.toNat : Int), .int .u8 (x.m.f.toNat : Int), .int .u8 (x.ad.a.toNat : Int), .int .u8 (x.ad.b.toNat : Int), .int .u8 (x.ad.c.toNat : Int), .int .u8 (x.ad.d.toNat : Int), .int .i64 x.u, .bool x.fx, .bool x.le, .bool x.rp, .int .i64 x.br] 101 (0, 0))) (hb : x.liveB now = b) : Calls Try.prog 53 #[.pointer (some ⟨ge, 0, none⟩), .int .i64 now] w fun e w' => e = .returned (.bool b) ∧ w = w' := by
  skip
  go_enter Try.func53, Try.ntmps53
  have R10 := cell_lit heb 10 _ rfl
  go_wp2_with fail
  clear R10
  go_ret
  exact ⟨by rw [← hb]; rfl, rfl⟩
set_option linter.unusedVariables false in
set_option linter.unusedSimpArgs false in
set_option maxRecDepth 100000 in
set_option maxHeartbeats 16000000 in
theorem held_el {m : Mc6} {gE n c i : Nat} {l : List Sd} {x : Sd} {now : Int} {b : Bool} (w : World) (en : Sle slE 15 w (some ⟨gE, 0, none⟩) n c l) (hx : l[i]? = some x) (hb : x.heldB m now = b) : Calls Try.prog 78 #[.pointer (some ⟨gE, i * 15, none⟩), .agg #[.int .u8 (m.a.toNat : Int), .int .u8 (m.b.toNat : Int), .int .u8 (m.c.toNat : Int), .int .u8 (m.d.toNat : Int), .int .u8 (m.e.toNat : Int), .int .u8 (m.f.toNat : Int)], .int .i64 now] w fun e w' => e = .returned (.bool b) ∧ Below w.heap.size w w' := by
  have HX := Lib.hid hx
  clear hx
  obtain ⟨b1, H1_⟩ : ∃ b, x.liveB now = b := ⟨_, rfl⟩
  have H1 := Lib.hid H1_
  clear H1_
  obtain ⟨b2, H2_⟩ : ∃ b, x.m.eqB m = b := ⟨_, rfl⟩
  have H2 := Lib.hid H2_
  clear H2_
  have q17 : ∀ W, (binOp .eql 32 (.agg #[.int .u8 (x.m.a.toNat : Int), .int .u8 (x.m.b.toNat : Int), .int .u8 (x.m.c.toNat : Int), .int .u8 (x.m.d.toNat : Int), .int .u8 (x.m.e.toNat : Int), .int .u8 (x.m.f.toNat : Int)]) (.agg #[.int .u8 (m.a.toNat : Int), .int .u8 (m.b.toNat : Int), .int .u8 (m.c.toNat : Int), .int .u8 (m.d.toNat : Int), .int .u8 (m.e.toNat : Int), .int .u8 (m.f.toNat : Int)])).run Try.prog W = .ok (.bool b2) W := fun W => by have h_ := eqm_b x.m m W; rw [H2.out] at h_; exact h_
  have bel := Below.refl w.heap.size w
  go_enter Try.func78, Try.ntmps78
  go_wp2_with (first | ((with_reducible show wpList _ _ _ (⟨some 4, _, _, _, _, _⟩ :: _) _ _); refine wpList_box_n rfl 32 (.tmp 1) rfl #[.int .u8 (m.a.toNat : Int), .int .u8 (m.b.toNat : Int), .int .u8 (m.c.toNat : Int), .int .u8 (m.d.toNat : Int), .int .u8 (m.e.toNat : Int), .int .u8 (m.f.toNat : Int)] rfl ?_; intro g4 w1 ge lt hh bb; have av_en_mb := en.av_new ge; have omb := Nat.le_trans bel.size ge; replace en := en.below bb; replace bel := bel.trans (bb.mono bel.size); have hmb := hh; clear hh lt ge bb))
  replace bel := bel.drew
  replace hmb : w1.drew.heap[g4]? = _ := hmb
  replace en := en.drew
  refine wp_region_held_drew (S := fun W => W.heap[g4]? = some (.cells #[.int .u8 (m.a.toNat : Int), .int .u8 (m.b.toNat : Int), .int .u8 (m.c.toNat : Int), .int .u8 (m.d.toNat : Int), .int .u8 (m.e.toNat : Int), .int .u8 (m.f.toNat : Int)] 32 (0, 0)) ∧ Sle slE 15 W (some ⟨gE, 0, none⟩) (n) (c) (l)) (by kernel_rfl) ⟨hmb, en⟩ (fun hH => ?_)
  generalize w1.drew = w2 at bel hmb en hH ⊢
  refine wpAnyH_take (i := 0) (v := ?_) rfl (by kernel_rfl) (by kernel_rfl) (by kernel_rfl) (fun _ _ _ h => h) (Or.inl ⟨by rfl, ?_⟩) hH ?_
  rotate_left
  · ((intro W hW; clear hW; go_simp) <;> with_reducible rfl)
  simp only [Act.put, List.getElem_toArray, List.getElem_cons_zero, List.setIfInBounds_toArray, List.set_cons_zero, List.set_cons_succ]
  refine wpAnyH_take (i := 1) (v := ?_) rfl (by kernel_rfl) (by kernel_rfl) (by kernel_rfl) (fun _ _ _ h => h) (Or.inl ⟨by rfl, ?_⟩) hH ?_
  rotate_left
  · ((intro W hW; clear hW; go_simp) <;> with_reducible rfl)
  simp only [Act.put, List.getElem_toArray, List.getElem_cons_zero, List.getElem_cons_succ, List.setIfInBounds_toArray, List.set_cons_zero, List.set_cons_succ]
  rcases b1 with _ | _
  · refine wpAnyH_ready (rs := [2]) (by kernel_rfl) (by simp) ?_
    refine AllReadyH.cons (o := _) rfl (fun K hK => ?_) AllReadyH.nil
    simp only [List.getElem_toArray, List.getElem_cons_zero, List.getElem_cons_succ]
    go_simp
    with_reducible refine (live_el _ en HX.out H1.out).mono ?_
    rintro e _ ⟨rfl, rfl⟩
    dsimp only
    refine hK.out _ _ ⟨hmb, en⟩ (fun hH3 => ?_)
    clear hK K
    refine wpAnyH_take (i := 3) (v := ?_) rfl (by kernel_rfl) (by kernel_rfl) (by kernel_rfl) (fun _ _ _ h => h) (Or.inl ⟨by rfl, ?_⟩) hH3 ?_
    rotate_left
    · ((intro W hW; clear hW; go_simp) <;> with_reducible rfl)
    simp only [Act.put, List.getElem_toArray, List.getElem_cons_zero, List.getElem_cons_succ, List.setIfInBounds_toArray, List.set_cons_zero, List.set_cons_succ]
    refine wpAnyH_take (i := 4) (v := undef) rfl (by kernel_rfl) (by kernel_rfl) (by kernel_rfl) (fun _ _ _ h => h) (Or.inr ⟨by rfl, rfl⟩) hH3 ?_
    simp only [Act.put, List.getElem_toArray, List.getElem_cons_zero, List.getElem_cons_succ, List.setIfInBounds_toArray, List.set_cons_zero, List.set_cons_succ]
    refine wpAnyH_take (i := 5) (v := undef) rfl (by kernel_rfl) (by kernel_rfl) (by kernel_rfl) (fun _ _ _ h => h) (Or.inr ⟨by rfl, rfl⟩) hH3 ?_
    simp only [Act.put, List.getElem_toArray, List.getElem_cons_zero, List.getElem_cons_succ, List.setIfInBounds_toArray, List.set_cons_zero, List.set_cons_succ]
    refine wpAnyH_take (i := 6) (v := undef) rfl (by kernel_rfl) (by kernel_rfl) (by kernel_rfl) (fun _ _ _ h => h) (Or.inr ⟨by rfl, rfl⟩) hH3 ?_
    simp only [Act.put, List.getElem_toArray, List.getElem_cons_zero, List.getElem_cons_succ, List.setIfInBounds_toArray, List.set_cons_zero, List.set_cons_succ]
    refine wpAnyH_take (i := 7) (v := undef) rfl (by kernel_rfl) (by kernel_rfl) (by kernel_rfl) (fun _ _ _ h => h) (Or.inr ⟨by rfl, rfl⟩) hH3 ?_
    simp only [Act.put, List.getElem_toArray, List.getElem_cons_zero, List.getElem_cons_succ, List.setIfInBounds_toArray, List.set_cons_zero, List.set_cons_succ]
    refine wpAnyH_take (i := 8) (v := undef) rfl (by kernel_rfl) (by kernel_rfl) (by kernel_rfl) (fun _ _ _ h => h) (Or.inr ⟨by rfl, rfl⟩) hH3 ?_
    simp only [Act.put, List.getElem_toArray, List.getElem_cons_zero, List.getElem_cons_succ, List.setIfInBounds_toArray, List.set_cons_zero, List.set_cons_succ]
    refine wpAnyH_take (i := 9) (v := undef) rfl (by kernel_rfl) (by kernel_rfl) (by kernel_rfl) (fun _ _ _ h => h) (Or.inr ⟨by rfl, rfl⟩) hH3 ?_
    simp only [Act.put, List.getElem_toArray, List.getElem_cons_zero, List.getElem_cons_succ, List.setIfInBounds_toArray, List.set_cons_zero, List.set_cons_succ]
    refine wpAnyH_take (i := 10) (v := undef) rfl (by kernel_rfl) (by kernel_rfl) (by kernel_rfl) (fun _ _ _ h => h) (Or.inr ⟨by rfl, rfl⟩) hH3 ?_
    simp only [Act.put, List.getElem_toArray, List.getElem_cons_zero, List.getElem_cons_succ, List.setIfInBounds_toArray, List.set_cons_zero, List.set_cons_succ]
    refine wpAnyH_take (i := 11) (v := ?_) rfl (by kernel_rfl) (by kernel_rfl) (by kernel_rfl) (fun _ _ _ h => h) (Or.inl ⟨by rfl, ?_⟩) hH3 ?_
    rotate_left
    · ((intro W hW; clear hW; go_simp) <;> with_reducible rfl)
    simp only [Act.put, List.getElem_toArray, List.getElem_cons_zero, List.getElem_cons_succ, List.setIfInBounds_toArray, List.set_cons_zero, List.set_cons_succ]
    refine wpAnyH_take (i := 12) (v := ?_) rfl (by kernel_rfl) (by kernel_rfl) (by kernel_rfl) (fun _ _ _ h => h) (Or.inl ⟨by rfl, ?_⟩) hH3 ?_
    rotate_left
    · ((intro W hW; clear hW; go_simp) <;> with_reducible rfl)
    simp only [Act.put, List.getElem_toArray, List.getElem_cons_zero, List.getElem_cons_succ, List.setIfInBounds_toArray, List.set_cons_zero, List.set_cons_succ]
    refine wpAnyH_done (by kernel_rfl) ?_ _
    go_wp2_with fail
    go_ret
    exact ⟨by rw [← hb]; unfold Sd.heldB; rw [H1.out, Bool.false_and]; rfl, bel⟩
  refine wpAnyH_ready (rs := [2]) (by kernel_rfl) (by simp) ?_
  refine AllReadyH.cons (o := _) rfl (fun K hK => ?_) AllReadyH.nil
  simp only [List.getElem_toArray, List.getElem_cons_zero, List.getElem_cons_succ]
  go_simp
  with_reducible refine (live_el _ en HX.out H1.out).mono ?_
  rintro e _ ⟨rfl, rfl⟩
  dsimp only
  refine hK.out _ _ ⟨hmb, en⟩ (fun hH3 => ?_)
  clear hK K
  refine wpAnyH_take (i := 3) (v := ?_) rfl (by kernel_rfl) (by kernel_rfl) (by kernel_rfl) (fun _ _ _ h => h) (Or.inl ⟨by rfl, ?_⟩) hH3 ?_
  rotate_left
  · ((intro W hW; clear hW; go_simp) <;> with_reducible rfl)
  simp only [Act.put, List.getElem_toArray, List.getElem_cons_zero, List.getElem_cons_succ, List.setIfInBounds_toArray, List.set_cons_zero, List.set_cons_succ]
  refine wpAnyH_take (i := 4) (v := ?_) rfl (by kernel_rfl) (by kernel_rfl) (by kernel_rfl) (fun _ _ _ h => h) (Or.inl ⟨by rfl, ?_⟩) hH3 ?_
  rotate_left
  · ((intro W hW; clear hW; go_simp) <;> with_reducible rfl)
  simp only [Act.put, List.getElem_toArray, List.getElem_cons_zero, List.getElem_cons_succ, List.setIfInBounds_toArray, List.set_cons_zero, List.set_cons_succ]
  refine wpAnyH_take (i := 5) (v := ?_) rfl (by kernel_rfl) (by kernel_rfl) (by kernel_rfl) (fun _ _ _ h => h) (Or.inl ⟨by rfl, ?_⟩) hH3 ?_
  rotate_left
  · ((intro W hW; clear hW; go_simp) <;> with_reducible rfl)
  simp only [Act.put, List.getElem_toArray, List.getElem_cons_zero, List.getElem_cons_succ, List.setIfInBounds_toArray, List.set_cons_zero, List.set_cons_succ]
  refine wpAnyH_take (i := 6) (v := ?_) rfl (by kernel_rfl) (by kernel_rfl) (by kernel_rfl) (fun _ _ _ h => h) (Or.inl ⟨by rfl, ?_⟩) hH3 ?_
  rotate_left
  · ((intro W hW; clear hW; go_simp) <;> with_reducible rfl)
  simp only [Act.put, List.getElem_toArray, List.getElem_cons_zero, List.getElem_cons_succ, List.setIfInBounds_toArray, List.set_cons_zero, List.set_cons_succ]
  refine wpAnyH_take (i := 7) (v := ?_) rfl (by kernel_rfl) (by kernel_rfl) (by kernel_rfl) (fun _ _ _ h => h) (Or.inl ⟨by rfl, ?_⟩) hH3 ?_
  rotate_left
  · ((intro W hW; clear hW; go_simp) <;> with_reducible rfl)
  simp only [Act.put, List.getElem_toArray, List.getElem_cons_zero, List.getElem_cons_succ, List.setIfInBounds_toArray, List.set_cons_zero, List.set_cons_succ]
  refine wpAnyH_take (i := 8) (v := .agg #[.int .u8 (x.m.a.toNat : Int), .int .u8 (x.m.b.toNat : Int), .int .u8 (x.m.c.toNat : Int), .int .u8 (x.m.d.toNat : Int), .int .u8 (x.m.e.toNat : Int), .int .u8 (x.m.f.toNat : Int)]) rfl (by kernel_rfl) (by kernel_rfl) (by kernel_rfl) (fun _ _ _ h => h) (yieldsIf_load_mid (by kernel_rfl) 32 _ rfl gE (i * 15) rfl [.int .u8 (x.m.a.toNat : Int), .int .u8 (x.m.b.toNat : Int), .int .u8 (x.m.c.toNat : Int), .int .u8 (x.m.d.toNat : Int), .int .u8 (x.m.e.toNat : Int), .int .u8 (x.m.f.toNat : Int)] _ (fun W hW => Sle.zrange0 (hW.2) HX.out 6 [.int .u8 (x.m.a.toNat : Int), .int .u8 (x.m.b.toNat : Int), .int .u8 (x.m.c.toNat : Int), .int .u8 (x.m.d.toNat : Int), .int .u8 (x.m.e.toNat : Int), .int .u8 (x.m.f.toNat : Int)] rfl) Try.underlying32 rfl (by kernel_rfl)) hH3 ?_
  simp only [Act.put, List.getElem_toArray, List.getElem_cons_zero, List.getElem_cons_succ, List.setIfInBounds_toArray, List.set_cons_zero, List.set_cons_succ]
  refine wpAnyH_take (i := 9) (v := .agg #[.int .u8 (m.a.toNat : Int), .int .u8 (m.b.toNat : Int), .int .u8 (m.c.toNat : Int), .int .u8 (m.d.toNat : Int), .int .u8 (m.e.toNat : Int), .int .u8 (m.f.toNat : Int)]) rfl (by kernel_rfl) (by kernel_rfl) (by kernel_rfl) (fun _ _ _ h => h) (yieldsIf_load_part (by kernel_rfl) 32 _ rfl g4 0 6 rfl _ 32 (0, 0) (fun W hW => hW.1) _ rfl _ Try.underlying32 rfl (by kernel_rfl)) hH3 ?_
  simp only [Act.put, List.getElem_toArray, List.getElem_cons_zero, List.getElem_cons_succ, List.setIfInBounds_toArray, List.set_cons_zero, List.set_cons_succ]
  refine wpAnyH_take (i := 10) (v := ?_) rfl (by kernel_rfl) (by kernel_rfl) (by kernel_rfl) (fun _ _ _ h => h) (Or.inl ⟨by rfl, ?_⟩) hH3 ?_
  rotate_left
  · ((intro W hW; clear hW; go_simp) <;> with_reducible rfl)
  simp only [Act.put, List.getElem_toArray, List.getElem_cons_zero, List.getElem_cons_succ, List.setIfInBounds_toArray, List.set_cons_zero, List.set_cons_succ]
  refine wpAnyH_take (i := 11) (v := ?_) rfl (by kernel_rfl) (by kernel_rfl) (by kernel_rfl) (fun _ _ _ h => h) (Or.inl ⟨by rfl, ?_⟩) hH3 ?_
  rotate_left
  · ((intro W hW; clear hW; go_simp) <;> with_reducible rfl)
  simp only [Act.put, List.getElem_toArray, List.getElem_cons_zero, List.getElem_cons_succ, List.setIfInBounds_toArray, List.set_cons_zero, List.set_cons_succ]
  refine wpAnyH_take (i := 12) (v := ?_) rfl (by kernel_rfl) (by kernel_rfl) (by kernel_rfl) (fun _ _ _ h => h) (Or.inl ⟨by rfl, ?_⟩) hH3 ?_
  rotate_left
  · ((intro W hW; clear hW; go_simp) <;> with_reducible rfl)
  simp only [Act.put, List.getElem_toArray, List.getElem_cons_zero, List.getElem_cons_succ, List.setIfInBounds_toArray, List.set_cons_zero, List.set_cons_succ]
  refine wpAnyH_done (by kernel_rfl) ?_ _
  go_wp2_with fail
  go_ret
  exact ⟨by rw [← hb]; unfold Sd.heldB; rw [H1.out, H2.out, Bool.true_and]; rfl, bel⟩
set_option linter.unusedVariables false in
set_option linter.unusedSimpArgs false in
set_option maxRecDepth 100000 in
set_option maxHeartbeats 16000000 in
theorem free_el {gE n c i : Nat} {l : List Sd} {x : Sd} {now : Int} {b : Bool} (w : World) (en : Sle slE 15 w (some ⟨gE, 0, none⟩) n c l) (hx : l[i]? = some x) (hb : x.freeB now = b) : Calls Try.prog 64 #[.pointer (some ⟨gE, i * 15, none⟩), .int .i64 now] w fun e w' => e = .returned (.bool b) ∧ w = w' := by
  obtain ⟨xm, xa, xu, xf, xl, xr, xb⟩ := x
  have HX := Lib.hid hx
  clear hx
  skip
  go_enter Try.func64, Try.ntmps64
  rcases xf with _ | _
  rotate_left
  · have R8 := Sle.zcell en HX.out 11 _ rfl
    go_wp2_with fail
    clear R8
    go_ret
    exact ⟨by rw [← hb]; unfold Sd.freeB; rfl, rfl⟩
  obtain ⟨b1, H1_⟩ : ∃ b, Sd.liveB now ⟨xm, xa, xu, false, xl, xr, xb⟩ = b := ⟨_, rfl⟩
  have H1 := Lib.hid H1_
  clear H1_
  rcases b1 with _ | _
  rotate_left
  · have R8 := Sle.zcell en HX.out 11 _ rfl
    go_wp2_with fail
    clear R8
    with_reducible refine (live_el _ en HX.out H1.out).mono ?_
    rintro e _ ⟨rfl, rfl⟩
    go_wp2_with fail
    go_ret
    exact ⟨by rw [← hb]; unfold Sd.freeB; rw [H1.out]; rfl, rfl⟩
  have R8 := Sle.zcell en HX.out 11 _ rfl
  go_wp2_with fail
  clear R8
  with_reducible refine (live_el _ en HX.out H1.out).mono ?_
  rintro e _ ⟨rfl, rfl⟩
  have R21 := Sle.zcell en HX.out 14 _ rfl
  go_wp2_with fail
  clear R21
  go_ret
  exact ⟨by rw [← hb]; unfold Sd.freeB; rw [H1.out]; rfl, rfl⟩
set_option linter.unusedVariables false in
set_option linter.unusedSimpArgs false in
set_option maxRecDepth 100000 in
set_option maxHeartbeats 16000000 in
theorem rank_el {m : Mc6} {r : Int} {gE n c i : Nat} {l : List Sd} {x : Sd} (w : World) (en : Sle slE 15 w (some ⟨gE, 0, none⟩) n c l) (hx : l[i]? = some x) (hb : x.rank m = r) : Calls Try.prog 79 #[.pointer (some ⟨gE, i * 15, none⟩), .agg #[.int .u8 (m.a.toNat : Int), .int .u8 (m.b.toNat : Int), .int .u8 (m.c.toNat : Int), .int .u8 (m.d.toNat : Int), .int .u8 (m.e.toNat : Int), .int .u8 (m.f.toNat : Int)]] w fun e w' => e = .returned (.int .i64 r) ∧ Below w.heap.size w w' := by
  obtain ⟨xm, xa, xu, xf, xl, xr, xb⟩ := x
  have HX := Lib.hid hx
  clear hx
  have bel := Below.refl w.heap.size w
  go_enter Try.func79, Try.ntmps79
  rcases xl with _ | _
  · go_wp2_with (first | ((with_reducible show wpList _ _ _ (⟨some 3, _, _, _, _, _⟩ :: _) _ _); refine wpList_box_n rfl 32 (.tmp 1) rfl #[.int .u8 (m.a.toNat : Int), .int .u8 (m.b.toNat : Int), .int .u8 (m.c.toNat : Int), .int .u8 (m.d.toNat : Int), .int .u8 (m.e.toNat : Int), .int .u8 (m.f.toNat : Int)] rfl ?_; intro g3 w1 ge lt hh bb; have av_en_mb := en.av_new ge; have omb := Nat.le_trans bel.size ge; replace en := en.below bb; replace bel := bel.trans (bb.mono bel.size); have hmb := hh; clear hh lt ge bb; have R9 := Sle.zcell en HX.out 12 _ rfl))
    try clear R9
    go_ret
    exact ⟨by rw [← hb]; unfold Sd.rank; rfl, bel⟩
  obtain ⟨b2, H2_⟩ : ∃ b, xm.eqB m = b := ⟨_, rfl⟩
  have H2 := Lib.hid H2_
  clear H2_
  have q18 : ∀ W, (binOp .eql 32 (.agg #[.int .u8 (xm.a.toNat : Int), .int .u8 (xm.b.toNat : Int), .int .u8 (xm.c.toNat : Int), .int .u8 (xm.d.toNat : Int), .int .u8 (xm.e.toNat : Int), .int .u8 (xm.f.toNat : Int)]) (.agg #[.int .u8 (m.a.toNat : Int), .int .u8 (m.b.toNat : Int), .int .u8 (m.c.toNat : Int), .int .u8 (m.d.toNat : Int), .int .u8 (m.e.toNat : Int), .int .u8 (m.f.toNat : Int)])).run Try.prog W = .ok (.bool b2) W := fun W => by have h_ := eqm_b xm m W; rw [H2.out] at h_; exact h_
  rcases b2 with _ | _
  rotate_left
  · go_wp2_with (first | ((with_reducible show wpList _ _ _ (⟨some 3, _, _, _, _, _⟩ :: _) _ _); refine wpList_box_n rfl 32 (.tmp 1) rfl #[.int .u8 (m.a.toNat : Int), .int .u8 (m.b.toNat : Int), .int .u8 (m.c.toNat : Int), .int .u8 (m.d.toNat : Int), .int .u8 (m.e.toNat : Int), .int .u8 (m.f.toNat : Int)] rfl ?_; intro g3 w1 ge lt hh bb; have av_en_mb := en.av_new ge; have omb := Nat.le_trans bel.size ge; replace en := en.below bb; replace bel := bel.trans (bb.mono bel.size); have hmb := hh; clear hh lt ge bb; have R9 := Sle.zcell en HX.out 12 _ rfl))
    try clear R9
    replace bel := bel.drew
    replace hmb : w1.drew.heap[g3]? = _ := hmb
    replace en := en.drew
    refine wp_region_held_drew (S := fun W => W.heap[g3]? = some (.cells #[.int .u8 (m.a.toNat : Int), .int .u8 (m.b.toNat : Int), .int .u8 (m.c.toNat : Int), .int .u8 (m.d.toNat : Int), .int .u8 (m.e.toNat : Int), .int .u8 (m.f.toNat : Int)] 32 (0, 0)) ∧ Sle slE 15 W (some ⟨gE, 0, none⟩) (n) (c) (l)) (by kernel_rfl) ⟨hmb, en⟩ (fun hH => ?_)
    generalize w1.drew = w2 at bel hmb en hH ⊢
    refine wpAnyH_take (i := 0) (v := ?_) rfl (by kernel_rfl) (by kernel_rfl) (by kernel_rfl) (fun _ _ _ h => h) (Or.inl ⟨by rfl, ?_⟩) hH ?_
    rotate_left
    · ((intro W hW; clear hW; go_simp) <;> with_reducible rfl)
    simp only [Act.put, List.getElem_toArray, List.getElem_cons_zero, List.setIfInBounds_toArray, List.set_cons_zero, List.set_cons_succ]
    refine wpAnyH_take (i := 1) (v := ?_) rfl (by kernel_rfl) (by kernel_rfl) (by kernel_rfl) (fun _ _ _ h => h) (Or.inl ⟨by rfl, ?_⟩) hH ?_
    rotate_left
    · ((intro W hW; clear hW; go_simp) <;> with_reducible rfl)
    simp only [Act.put, List.getElem_toArray, List.getElem_cons_zero, List.getElem_cons_succ, List.setIfInBounds_toArray, List.set_cons_zero, List.set_cons_succ]
    refine wpAnyH_take (i := 2) (v := ?_) rfl (by kernel_rfl) (by kernel_rfl) (by kernel_rfl) (fun _ _ _ h => h) (Or.inl ⟨by rfl, ?_⟩) hH ?_
    rotate_left
    · ((intro W hW; clear hW; go_simp) <;> with_reducible rfl)
    simp only [Act.put, List.getElem_toArray, List.getElem_cons_zero, List.getElem_cons_succ, List.setIfInBounds_toArray, List.set_cons_zero, List.set_cons_succ]
    refine wpAnyH_take (i := 3) (v := ?_) rfl (by kernel_rfl) (by kernel_rfl) (by kernel_rfl) (fun _ _ _ h => h) (Or.inl ⟨by rfl, ?_⟩) hH ?_
    rotate_left
    · ((intro W hW; clear hW; go_simp) <;> with_reducible rfl)
    simp only [Act.put, List.getElem_toArray, List.getElem_cons_zero, List.getElem_cons_succ, List.setIfInBounds_toArray, List.set_cons_zero, List.set_cons_succ]
    refine wpAnyH_take (i := 4) (v := .agg #[.int .u8 (xm.a.toNat : Int), .int .u8 (xm.b.toNat : Int), .int .u8 (xm.c.toNat : Int), .int .u8 (xm.d.toNat : Int), .int .u8 (xm.e.toNat : Int), .int .u8 (xm.f.toNat : Int)]) rfl (by kernel_rfl) (by kernel_rfl) (by kernel_rfl) (fun _ _ _ h => h) (yieldsIf_load_mid (by kernel_rfl) 32 _ rfl gE (i * 15) rfl [.int .u8 (xm.a.toNat : Int), .int .u8 (xm.b.toNat : Int), .int .u8 (xm.c.toNat : Int), .int .u8 (xm.d.toNat : Int), .int .u8 (xm.e.toNat : Int), .int .u8 (xm.f.toNat : Int)] _ (fun W hW => Sle.zrange0 (hW.2) HX.out 6 [.int .u8 (xm.a.toNat : Int), .int .u8 (xm.b.toNat : Int), .int .u8 (xm.c.toNat : Int), .int .u8 (xm.d.toNat : Int), .int .u8 (xm.e.toNat : Int), .int .u8 (xm.f.toNat : Int)] rfl) Try.underlying32 rfl (by kernel_rfl)) hH ?_
    simp only [Act.put, List.getElem_toArray, List.getElem_cons_zero, List.getElem_cons_succ, List.setIfInBounds_toArray, List.set_cons_zero, List.set_cons_succ]
    refine wpAnyH_take (i := 5) (v := .agg #[.int .u8 (m.a.toNat : Int), .int .u8 (m.b.toNat : Int), .int .u8 (m.c.toNat : Int), .int .u8 (m.d.toNat : Int), .int .u8 (m.e.toNat : Int), .int .u8 (m.f.toNat : Int)]) rfl (by kernel_rfl) (by kernel_rfl) (by kernel_rfl) (fun _ _ _ h => h) (yieldsIf_load_part (by kernel_rfl) 32 _ rfl g3 0 6 rfl _ 32 (0, 0) (fun W hW => hW.1) _ rfl _ Try.underlying32 rfl (by kernel_rfl)) hH ?_
    simp only [Act.put, List.getElem_toArray, List.getElem_cons_zero, List.getElem_cons_succ, List.setIfInBounds_toArray, List.set_cons_zero, List.set_cons_succ]
    refine wpAnyH_take (i := 6) (v := ?_) rfl (by kernel_rfl) (by kernel_rfl) (by kernel_rfl) (fun _ _ _ h => h) (Or.inl ⟨by rfl, ?_⟩) hH ?_
    rotate_left
    · ((intro W hW; clear hW; go_simp) <;> with_reducible rfl)
    simp only [Act.put, List.getElem_toArray, List.getElem_cons_zero, List.getElem_cons_succ, List.setIfInBounds_toArray, List.set_cons_zero, List.set_cons_succ]
    refine wpAnyH_take (i := 7) (v := ?_) rfl (by kernel_rfl) (by kernel_rfl) (by kernel_rfl) (fun _ _ _ h => h) (Or.inl ⟨by rfl, ?_⟩) hH ?_
    rotate_left
    · ((intro W hW; clear hW; go_simp) <;> with_reducible rfl)
    simp only [Act.put, List.getElem_toArray, List.getElem_cons_zero, List.getElem_cons_succ, List.setIfInBounds_toArray, List.set_cons_zero, List.set_cons_succ]
    refine wpAnyH_done (by kernel_rfl) ?_ _
    go_wp2_with fail
    go_ret
    exact ⟨by rw [← hb]; unfold Sd.rank; simp only [if_true, H2.out]; rfl, bel⟩
  go_wp2_with (first | ((with_reducible show wpList _ _ _ (⟨some 3, _, _, _, _, _⟩ :: _) _ _); refine wpList_box_n rfl 32 (.tmp 1) rfl #[.int .u8 (m.a.toNat : Int), .int .u8 (m.b.toNat : Int), .int .u8 (m.c.toNat : Int), .int .u8 (m.d.toNat : Int), .int .u8 (m.e.toNat : Int), .int .u8 (m.f.toNat : Int)] rfl ?_; intro g3 w1 ge lt hh bb; have av_en_mb := en.av_new ge; have omb := Nat.le_trans bel.size ge; replace en := en.below bb; replace bel := bel.trans (bb.mono bel.size); have hmb := hh; clear hh lt ge bb; have R9 := Sle.zcell en HX.out 12 _ rfl))
  try clear R9
  replace bel := bel.drew
  replace hmb : w1.drew.heap[g3]? = _ := hmb
  replace en := en.drew
  refine wp_region_held_drew (S := fun W => W.heap[g3]? = some (.cells #[.int .u8 (m.a.toNat : Int), .int .u8 (m.b.toNat : Int), .int .u8 (m.c.toNat : Int), .int .u8 (m.d.toNat : Int), .int .u8 (m.e.toNat : Int), .int .u8 (m.f.toNat : Int)] 32 (0, 0)) ∧ Sle slE 15 W (some ⟨gE, 0, none⟩) (n) (c) (l)) (by kernel_rfl) ⟨hmb, en⟩ (fun hH => ?_)
  generalize w1.drew = w2 at bel hmb en hH ⊢
  refine wpAnyH_take (i := 0) (v := ?_) rfl (by kernel_rfl) (by kernel_rfl) (by kernel_rfl) (fun _ _ _ h => h) (Or.inl ⟨by rfl, ?_⟩) hH ?_
  rotate_left
  · ((intro W hW; clear hW; go_simp) <;> with_reducible rfl)
  simp only [Act.put, List.getElem_toArray, List.getElem_cons_zero, List.setIfInBounds_toArray, List.set_cons_zero, List.set_cons_succ]
  refine wpAnyH_take (i := 1) (v := ?_) rfl (by kernel_rfl) (by kernel_rfl) (by kernel_rfl) (fun _ _ _ h => h) (Or.inl ⟨by rfl, ?_⟩) hH ?_
  rotate_left
  · ((intro W hW; clear hW; go_simp) <;> with_reducible rfl)
  simp only [Act.put, List.getElem_toArray, List.getElem_cons_zero, List.getElem_cons_succ, List.setIfInBounds_toArray, List.set_cons_zero, List.set_cons_succ]
  refine wpAnyH_take (i := 2) (v := ?_) rfl (by kernel_rfl) (by kernel_rfl) (by kernel_rfl) (fun _ _ _ h => h) (Or.inl ⟨by rfl, ?_⟩) hH ?_
  rotate_left
  · ((intro W hW; clear hW; go_simp) <;> with_reducible rfl)
  simp only [Act.put, List.getElem_toArray, List.getElem_cons_zero, List.getElem_cons_succ, List.setIfInBounds_toArray, List.set_cons_zero, List.set_cons_succ]
  refine wpAnyH_take (i := 3) (v := ?_) rfl (by kernel_rfl) (by kernel_rfl) (by kernel_rfl) (fun _ _ _ h => h) (Or.inl ⟨by rfl, ?_⟩) hH ?_
  rotate_left
  · ((intro W hW; clear hW; go_simp) <;> with_reducible rfl)
  simp only [Act.put, List.getElem_toArray, List.getElem_cons_zero, List.getElem_cons_succ, List.setIfInBounds_toArray, List.set_cons_zero, List.set_cons_succ]
  refine wpAnyH_take (i := 4) (v := .agg #[.int .u8 (xm.a.toNat : Int), .int .u8 (xm.b.toNat : Int), .int .u8 (xm.c.toNat : Int), .int .u8 (xm.d.toNat : Int), .int .u8 (xm.e.toNat : Int), .int .u8 (xm.f.toNat : Int)]) rfl (by kernel_rfl) (by kernel_rfl) (by kernel_rfl) (fun _ _ _ h => h) (yieldsIf_load_mid (by kernel_rfl) 32 _ rfl gE (i * 15) rfl [.int .u8 (xm.a.toNat : Int), .int .u8 (xm.b.toNat : Int), .int .u8 (xm.c.toNat : Int), .int .u8 (xm.d.toNat : Int), .int .u8 (xm.e.toNat : Int), .int .u8 (xm.f.toNat : Int)] _ (fun W hW => Sle.zrange0 (hW.2) HX.out 6 [.int .u8 (xm.a.toNat : Int), .int .u8 (xm.b.toNat : Int), .int .u8 (xm.c.toNat : Int), .int .u8 (xm.d.toNat : Int), .int .u8 (xm.e.toNat : Int), .int .u8 (xm.f.toNat : Int)] rfl) Try.underlying32 rfl (by kernel_rfl)) hH ?_
  simp only [Act.put, List.getElem_toArray, List.getElem_cons_zero, List.getElem_cons_succ, List.setIfInBounds_toArray, List.set_cons_zero, List.set_cons_succ]
  refine wpAnyH_take (i := 5) (v := .agg #[.int .u8 (m.a.toNat : Int), .int .u8 (m.b.toNat : Int), .int .u8 (m.c.toNat : Int), .int .u8 (m.d.toNat : Int), .int .u8 (m.e.toNat : Int), .int .u8 (m.f.toNat : Int)]) rfl (by kernel_rfl) (by kernel_rfl) (by kernel_rfl) (fun _ _ _ h => h) (yieldsIf_load_part (by kernel_rfl) 32 _ rfl g3 0 6 rfl _ 32 (0, 0) (fun W hW => hW.1) _ rfl _ Try.underlying32 rfl (by kernel_rfl)) hH ?_
  simp only [Act.put, List.getElem_toArray, List.getElem_cons_zero, List.getElem_cons_succ, List.setIfInBounds_toArray, List.set_cons_zero, List.set_cons_succ]
  refine wpAnyH_take (i := 6) (v := ?_) rfl (by kernel_rfl) (by kernel_rfl) (by kernel_rfl) (fun _ _ _ h => h) (Or.inl ⟨by rfl, ?_⟩) hH ?_
  rotate_left
  · ((intro W hW; clear hW; go_simp) <;> with_reducible rfl)
  simp only [Act.put, List.getElem_toArray, List.getElem_cons_zero, List.getElem_cons_succ, List.setIfInBounds_toArray, List.set_cons_zero, List.set_cons_succ]
  refine wpAnyH_take (i := 7) (v := ?_) rfl (by kernel_rfl) (by kernel_rfl) (by kernel_rfl) (fun _ _ _ h => h) (Or.inl ⟨by rfl, ?_⟩) hH ?_
  rotate_left
  · ((intro W hW; clear hW; go_simp) <;> with_reducible rfl)
  simp only [Act.put, List.getElem_toArray, List.getElem_cons_zero, List.getElem_cons_succ, List.setIfInBounds_toArray, List.set_cons_zero, List.set_cons_succ]
  refine wpAnyH_done (by kernel_rfl) ?_ _
  have R23 := Sle.zcell en HX.out 10 _ rfl
  go_wp2_with fail
  clear R23
  go_ret
  exact ⟨by rw [← hb]; unfold Sd.rank; simp only [if_true, H2.out, Bool.false_eq_true, if_false]; rfl, bel⟩
set_option linter.unusedVariables false in
set_option linter.unusedSimpArgs false in
set_option maxRecDepth 100000 in
set_option maxHeartbeats 16000000 in
theorem perm_any {secs : Int} {b : Bool} (w : World) (hb : permB secs = b) : Calls Try.prog 68 #[.int .i64 secs] w fun e w' => e = .returned (.bool b) ∧ w = w' := by
  skip
  go_enter Try.func68, Try.ntmps68
  by_cases h1 : 1 ≤ secs
  · go_wp2_with fail
    go_ret
    exact ⟨by rw [← hb]; unfold permB; rw [decide_eq_true h1, Bool.true_and]; rfl, rfl⟩
  have h1d : decide (1 ≤ secs) = false := decide_eq_false h1
  go_wp2_with fail
  go_ret
  exact ⟨by rw [← hb]; unfold permB; rw [h1d, Bool.false_and]; rfl, rfl⟩
set_option linter.unusedVariables false in
set_option linter.unusedSimpArgs false in
set_option maxRecDepth 100000 in
set_option maxHeartbeats 16000000 in
theorem padv_yes {gt lo mb : Nat} {now : Int} {A : Option Addr} {n c : Nat} (t : Int) (w : World) (htb : w.heap[gt]? = some (.cells #[.int .i64 now, .map (some mb), .slice A n c] 84 (0, 0))) (otb : lo ≤ gt) (hlo : lo ≤ w.heap.size) (h1 : now < t) (h2 : t ≤ 1099511627776) : Calls Try.prog 52 #[.pointer (some ⟨gt, 0, none⟩), .int .i64 t] w fun e w' => e = .returned (.tuple #[]) ∧ w'.heap[gt]? = some (.cells #[.int .i64 (padv now t), .map (some mb), .slice A n c] 84 (0, 0)) ∧ w.grownBy w' (some gt) := by
  have HA : Hid (padv now t = t) := Lib.hid (by unfold padv; rw [if_pos ⟨h1, h2⟩])
  have gk := World.grownBy.refl w (some gt)
  have bel := Below.refl lo w
  go_enter Try.func52, Try.ntmps52
  have R8 := cell_lit htb 0 _ rfl
  go_wp2_with (first | ((with_reducible show wpList _ _ _ (⟨none, Op.store _ (.tmp 17) _, _, _, _, _⟩ :: _) _ _); refine wpList_store_part rfl 2 (.tmp 17) (.tmp 15) rfl gt 0 rfl [.int .i64 t] rfl [.int .i64 now, .map (some mb), .slice A n c] 84 htb (by simp) [.int .i64 t, .map (some mb), .slice A n c] rfl (by kernel_rfl) (by rfl) ?_; intro w1 hq gr; replace gk := gk.trans gr; replace bel := below_grown bel gr otb (Nat.le_trans hlo bel.size); clear htb; have htb := hq; clear hq gr))
  try clear R8
  exact bodyPost_end (results_none rfl _ _ _) rfl ⟨rfl, by rw [HA.out]; exact htb, gk⟩
set_option linter.unusedVariables false in
set_option linter.unusedSimpArgs false in
set_option maxRecDepth 100000 in
set_option maxHeartbeats 16000000 in
theorem padv_no1 {gt lo mb : Nat} {now : Int} {A : Option Addr} {n c : Nat} (t : Int) (w : World) (htb : w.heap[gt]? = some (.cells #[.int .i64 now, .map (some mb), .slice A n c] 84 (0, 0))) (otb : lo ≤ gt) (hlo : lo ≤ w.heap.size) (h1 : ¬ now < t) : Calls Try.prog 52 #[.pointer (some ⟨gt, 0, none⟩), .int .i64 t] w fun e w' => e = .returned (.tuple #[]) ∧ w'.heap[gt]? = some (.cells #[.int .i64 (padv now t), .map (some mb), .slice A n c] 84 (0, 0)) ∧ w.grownBy w' (some gt) := by
  have HA : Hid (padv now t = now) := Lib.hid (by unfold padv; rw [if_neg (by omega)])
  replace h1 : decide (now < t) = false := by simpa using h1
  have gk := World.grownBy.refl w (some gt)
  have bel := Below.refl lo w
  go_enter Try.func52, Try.ntmps52
  have R8 := cell_lit htb 0 _ rfl
  go_wp2_with fail
  clear R8
  exact bodyPost_end (results_none rfl _ _ _) rfl ⟨rfl, by rw [HA.out]; exact htb, gk⟩
set_option linter.unusedVariables false in
set_option linter.unusedSimpArgs false in
set_option maxRecDepth 100000 in
set_option maxHeartbeats 16000000 in
theorem padv_no2 {gt lo mb : Nat} {now : Int} {A : Option Addr} {n c : Nat} (t : Int) (w : World) (htb : w.heap[gt]? = some (.cells #[.int .i64 now, .map (some mb), .slice A n c] 84 (0, 0))) (otb : lo ≤ gt) (hlo : lo ≤ w.heap.size) (h1 : now < t) (h2 : ¬ t ≤ 1099511627776) : Calls Try.prog 52 #[.pointer (some ⟨gt, 0, none⟩), .int .i64 t] w fun e w' => e = .returned (.tuple #[]) ∧ w'.heap[gt]? = some (.cells #[.int .i64 (padv now t), .map (some mb), .slice A n c] 84 (0, 0)) ∧ w.grownBy w' (some gt) := by
  have HA : Hid (padv now t = now) := Lib.hid (by unfold padv; rw [if_neg (by omega)])
  replace h2 : decide (t ≤ 1099511627776) = false := by simpa using h2
  have gk := World.grownBy.refl w (some gt)
  have bel := Below.refl lo w
  go_enter Try.func52, Try.ntmps52
  have R8 := cell_lit htb 0 _ rfl
  go_wp2_with fail
  clear R8
  exact bodyPost_end (results_none rfl _ _ _) rfl ⟨rfl, by rw [HA.out]; exact htb, gk⟩
theorem padv_any {gt mb : Nat} {now : Int} {A : Option Addr} {n c : Nat} (t : Int) (w : World) (htb : w.heap[gt]? = some (.cells #[.int .i64 now, .map (some mb), .slice A n c] 84 (0, 0))) : Calls Try.prog 52 #[.pointer (some ⟨gt, 0, none⟩), .int .i64 t] w fun e w' => e = .returned (.tuple #[]) ∧ w'.heap[gt]? = some (.cells #[.int .i64 (padv now t), .map (some mb), .slice A n c] 84 (0, 0)) ∧ w.grownBy w' (some gt) := by
  by_cases h1 : now < t
  · by_cases h2 : t ≤ 1099511627776
    · exact padv_yes t w htb (Nat.zero_le _) (Nat.zero_le _) h1 h2
    · exact padv_no2 t w htb (Nat.zero_le _) (Nat.zero_le _) h1 h2
  · exact padv_no1 t w htb (Nat.zero_le _) (Nat.zero_le _) h1
open Go.RowKit

/-- All ahead of i lie below x; all from j on do not. -/
def SBsLo (l : List Sd) (i x : Nat) : Prop := ∀ q e, q < i → l[q]? = some e → e.num < x
def SBsHi (l : List Sd) (j x : Nat) : Prop := ∀ q e, j ≤ q → l[q]? = some e → x ≤ e.num
theorem sbsLo_zero (l : List Sd) (x : Nat) : SBsLo l 0 x := fun _ _ h => absurd h (by omega)
theorem sbsHi_len (l : List Sd) (x : Nat) : SBsHi l l.length x := fun q e h he => by have := (List.getElem?_eq_some_iff.1 he).1; omega
theorem SBsLo.step {l : List Sd} (hs : SSrt l) {q x : Nat} {e : Sd} (he : l[q]? = some e) (h : e.num < x) : SBsLo l (q + 1) x := fun i y hi hy => by
  rcases Nat.lt_or_ge i q with h0 | h0
  · have := hs.lt h0 hy he; omega
  · obtain rfl : i = q := by omega
    rw [he] at hy; cases hy; exact h
theorem SBsHi.step {l : List Sd} (hs : SSrt l) {q x : Nat} {e : Sd} (he : l[q]? = some e) (h : x ≤ e.num) : SBsHi l q x := fun i y hi hy => by
  rcases Nat.lt_or_ge q i with h0 | h0
  · have := hs.lt h0 he hy; omega
  · obtain rfl : i = q := by omega
    rw [he] at hy; cases hy; exact h
theorem scmpN_lt (x y : Nat) : decide (cmpN x y < 0) = decide (x < y) := by
  unfold cmpN
  by_cases h : x < y
  · simp [h]
  · by_cases h2 : y < x <;> simp [h, h2]
theorem scmpN_eq (x y : Nat) : (cmpN x y == 0) = (x == y) := by
  unfold cmpN
  rcases Nat.lt_trichotomy x y with h | h | h
  · rw [if_pos h]; simp; omega
  · subst h; simp
  · rw [if_neg (by omega), if_pos h]; simp; omega
theorem sbs_at {l : List Sd} {i x : Nat} (hi : i ≤ l.length) (h1 : SBsLo l i x) (h2 : SBsHi l i x) : sfpos l x = i := sfpos_of hi h1 h2
theorem sfhas_at2 {l : List Sd} {i x : Nat} {e : Sd} (hp : sfpos l x = i) (he : l[i]? = some e) : sfhas l x = (e.num == x) := by
  unfold sfhas; rw [hp, he]
theorem sfhas_end {l : List Sd} {x : Nat} (hp : sfpos l x = l.length) : sfhas l x = false := by
  unfold sfhas; rw [hp, List.getElem?_eq_none (Nat.le_refl _)]
set_option linter.unusedVariables false in
set_option linter.unusedSimpArgs false in
set_option maxRecDepth 100000 in
set_option maxHeartbeats 16000000 in
theorem pbs_pos {A : Option Addr} {n c : Nat} {l : List Sd} (y : Ad4) (w : World) (en : Sle slE 15 w A n c l) (hS : SSrt l) (hn : 0 < n) (h32 : n ≤ 1000) : Calls Try.prog 70 #[.slice A n c, .agg #[.int .u8 (y.a.toNat : Int), .int .u8 (y.b.toNat : Int), .int .u8 (y.c.toNat : Int), .int .u8 (y.d.toNat : Int)], .func (.func 71) #[] #[]] w fun e w' => e = .returned (.tuple #[.int .i64 (sfpos l y.num : Int), .bool (sfhas l y.num)]) ∧ Below w.heap.size w w' := by
  have HS := Lib.hid hS
  clear hS
  have HL : Hid (l.length = n) := Lib.hid en.1
  obtain ⟨gE, oE, rfl⟩ := en.place hn
  have hn0 : (n : Int) ≤ 1000 := by omega
  have bel := Below.refl w.heap.size w
  go_enter Try.func70, Try.ntmps70
  go_wp2_with (first | ((with_reducible show wpList _ _ _ (⟨some 4, _, _, _, _, _⟩ :: _) _ _); refine wpList_box_n rfl 28 (.tmp 1) rfl #[.int .u8 (y.a.toNat : Int), .int .u8 (y.b.toNat : Int), .int .u8 (y.c.toNat : Int), .int .u8 (y.d.toNat : Int)] rfl ?_; intro g4 w1 ge lt hh bb; have av_en_yb := en.av_new ge; have oyb := Nat.le_trans bel.size ge; replace en := en.below bb; replace bel := bel.trans (bb.mono bel.size); have hyb := hh; clear hh lt ge bb))
  go_loopg [9, 10] (n) (fun gk s9 s10 wr => ∃ i : Nat, ∃ j : Nat, gk = j - i ∧ i ≤ j ∧ j ≤ n ∧ SBsLo l i y.num ∧ SBsHi l j y.num ∧ s9 = .int .i64 (i : Int) ∧ s10 = .int .i64 (j : Int) ∧ wr.heap[g4]? = some (.cells #[.int .u8 (y.a.toNat : Int), .int .u8 (y.b.toNat : Int), .int .u8 (y.c.toNat : Int), .int .u8 (y.d.toNat : Int)] 28 (0, 0)) ∧ Sle slE 15 wr (some ⟨gE, oE, none⟩) (n) (c) (l) ∧ Below w.heap.size w wr)
  case atStart => exact ⟨0, n, Nat.sub_zero _, Nat.zero_le _, Nat.le_refl _, sbsLo_zero _ _, HL.out ▸ sbsHi_len _ _, rfl, rfl, hyb, en, bel⟩
  case round =>
    clear hyb en bel
    obtain ⟨i, j, HGK, hij, hjn, H1, H2, rfl, rfl, hyb, en, bel⟩ := hrel
    have HGK_ := Lib.hid HGK
    clear HGK
    by_cases h : i < j
    · have i0 : (0 : Int) ≤ i := by omega
      have j0 : (0 : Int) ≤ j := by omega
      have i1 : (i : Int) ≤ 1000 := by omega
      have j1 : (j : Int) ≤ 1000 := by omega
      obtain ⟨q, hq⟩ : ∃ q, (i + j) / 2 = q := ⟨_, rfl⟩
      have hq1 : i ≤ q := by omega
      have hq2 : q < j := by omega
      have hqq : ((i : Int) + j) / 2 = (q : Int) := by omega
      have HQ := Lib.hid hq
      clear hq
      obtain ⟨e, hx⟩ : ∃ e, l[q]? = some e := ⟨_, List.getElem?_eq_getElem (by have := HL.out; omega)⟩
      have HX := Lib.hid hx
      clear hx
      have hqn : q < n := by omega
      have q0 : (0 : Int) ≤ q := by omega
      have q1 : (q : Int) < n := by omega
      by_cases h2 : e.num < y.num
      rotate_left
      · have hc := scmpN_lt e.num y.num
        rw [decide_eq_false h2] at hc
        go_wp2_with fail
        replace bel := bel.drew
        replace hyb : wr.drew.heap[g4]? = _ := hyb
        replace en := en.drew
        refine wp_region_held_drew (S := fun W => W.heap[g4]? = some (.cells #[.int .u8 (y.a.toNat : Int), .int .u8 (y.b.toNat : Int), .int .u8 (y.c.toNat : Int), .int .u8 (y.d.toNat : Int)] 28 (0, 0)) ∧ Sle slE 15 W (some ⟨gE, oE, none⟩) (n) (c) (l)) (by kernel_rfl) ⟨hyb, en⟩ (fun hH => ?_)
        generalize wr.drew = w2 at bel hyb en hH ⊢
        refine wpAnyH_take (i := 0) (v := ?_) rfl (by kernel_rfl) (by kernel_rfl) (by kernel_rfl) (fun _ _ _ h => h) (Or.inl ⟨by rfl, ?_⟩) hH ?_
        rotate_left
        · ((intro W hW; clear hW; go_simp) <;> with_reducible rfl)
        simp only [Act.put, List.getElem_toArray, List.getElem_cons_zero, List.setIfInBounds_toArray, List.set_cons_zero, List.set_cons_succ]
        refine wpAnyH_take (i := 1) (v := ?_) rfl (by kernel_rfl) (by kernel_rfl) (by kernel_rfl) (fun _ _ _ h => h) (Or.inl ⟨by rfl, ?_⟩) hH ?_
        rotate_left
        · ((intro W hW; clear hW; go_simp) <;> with_reducible rfl)
        simp only [Act.put, List.getElem_toArray, List.getElem_cons_zero, List.getElem_cons_succ, List.setIfInBounds_toArray, List.set_cons_zero, List.set_cons_succ]
        refine wpAnyH_take (i := 2) (v := ?_) rfl (by kernel_rfl) (by kernel_rfl) (by kernel_rfl) (fun _ _ _ h => h) (Or.inl ⟨by rfl, ?_⟩) hH ?_
        rotate_left
        · ((intro W hW; clear hW; go_simp) <;> with_reducible rfl)
        simp only [Act.put, List.getElem_toArray, List.getElem_cons_zero, List.getElem_cons_succ, List.setIfInBounds_toArray, List.set_cons_zero, List.set_cons_succ]
        refine wpAnyH_take (i := 3) (v := ?_) rfl (by kernel_rfl) (by kernel_rfl) (by kernel_rfl) (fun _ _ _ h => h) (Or.inl ⟨by rfl, ?_⟩) hH ?_
        rotate_left
        · ((intro W hW; clear hW; go_simp) <;> with_reducible rfl)
        simp only [Act.put, List.getElem_toArray, List.getElem_cons_zero, List.getElem_cons_succ, List.setIfInBounds_toArray, List.set_cons_zero, List.set_cons_succ]
        refine wpAnyH_take (i := 4) (v := .agg #[.int .u8 (e.m.a.toNat : Int), .int .u8 (e.m.b.toNat : Int), .int .u8 (e.m.c.toNat : Int), .int .u8 (e.m.d.toNat : Int), .int .u8 (e.m.e.toNat : Int), .int .u8 (e.m.f.toNat : Int), .int .u8 (e.ad.a.toNat : Int), .int .u8 (e.ad.b.toNat : Int), .int .u8 (e.ad.c.toNat : Int), .int .u8 (e.ad.d.toNat : Int), .int .i64 e.u, .bool e.fx, .bool e.le, .bool e.rp, .int .i64 e.br]) rfl (by kernel_rfl) (by kernel_rfl) (by kernel_rfl) (fun _ _ _ h => h) (yieldsIf_load_mid (by kernel_rfl) 101 _ rfl gE (oE + q * 15) rfl [.int .u8 (e.m.a.toNat : Int), .int .u8 (e.m.b.toNat : Int), .int .u8 (e.m.c.toNat : Int), .int .u8 (e.m.d.toNat : Int), .int .u8 (e.m.e.toNat : Int), .int .u8 (e.m.f.toNat : Int), .int .u8 (e.ad.a.toNat : Int), .int .u8 (e.ad.b.toNat : Int), .int .u8 (e.ad.c.toNat : Int), .int .u8 (e.ad.d.toNat : Int), .int .i64 e.u, .bool e.fx, .bool e.le, .bool e.rp, .int .i64 e.br] _ (fun W hW => Sle.range0 (hW.2) HX.out 15 [.int .u8 (e.m.a.toNat : Int), .int .u8 (e.m.b.toNat : Int), .int .u8 (e.m.c.toNat : Int), .int .u8 (e.m.d.toNat : Int), .int .u8 (e.m.e.toNat : Int), .int .u8 (e.m.f.toNat : Int), .int .u8 (e.ad.a.toNat : Int), .int .u8 (e.ad.b.toNat : Int), .int .u8 (e.ad.c.toNat : Int), .int .u8 (e.ad.d.toNat : Int), .int .i64 e.u, .bool e.fx, .bool e.le, .bool e.rp, .int .i64 e.br] rfl) Try.underlying101 rfl (by kernel_rfl)) hH ?_
        simp only [Act.put, List.getElem_toArray, List.getElem_cons_zero, List.getElem_cons_succ, List.setIfInBounds_toArray, List.set_cons_zero, List.set_cons_succ]
        refine wpAnyH_take (i := 5) (v := .agg #[.int .u8 (y.a.toNat : Int), .int .u8 (y.b.toNat : Int), .int .u8 (y.c.toNat : Int), .int .u8 (y.d.toNat : Int)]) rfl (by kernel_rfl) (by kernel_rfl) (by kernel_rfl) (fun _ _ _ h => h) (yieldsIf_load_part (by kernel_rfl) 28 _ rfl g4 0 4 rfl _ 28 (0, 0) (fun W hW => hW.1) _ rfl _ Try.underlying28 rfl (by kernel_rfl)) hH ?_
        simp only [Act.put, List.getElem_toArray, List.getElem_cons_zero, List.getElem_cons_succ, List.setIfInBounds_toArray, List.set_cons_zero, List.set_cons_succ]
        refine wpAnyH_ready (rs := [6]) (by kernel_rfl) (by simp) ?_
        refine AllReadyH.cons (o := _) rfl (fun K hK => ?_) AllReadyH.nil
        simp only [List.getElem_toArray, List.getElem_cons_zero, List.getElem_cons_succ]
        go_simp
        with_reducible refine (pfindf_any e y _).mono ?_
        rintro e w3 ⟨rfl, b3⟩
        dsimp only
        replace hyb := blk_u hyb b3
        replace en := en.below b3
        replace bel := bel.trans (b3.mono bel.size)
        clear b3
        refine hK.out _ _ ⟨hyb, en⟩ (fun hH4 => ?_)
        clear hK K
        refine wpAnyH_take (i := 7) (v := ?_) rfl (by kernel_rfl) (by kernel_rfl) (by kernel_rfl) (fun _ _ _ h => h) (Or.inl ⟨by rfl, ?_⟩) hH4 ?_
        rotate_left
        · ((intro W hW; clear hW; go_simp) <;> with_reducible rfl)
        simp only [Act.put, List.getElem_toArray, List.getElem_cons_zero, List.getElem_cons_succ, List.setIfInBounds_toArray, List.set_cons_zero, List.set_cons_succ]
        refine wpAnyH_done (by kernel_rfl) ?_ _
        go_wp2_with fail
        go_roundg (q - i)
        case measure => have := HGK_.out; omega
        case rel => exact ⟨i, q, rfl, by omega, by omega, H1, SBsHi.step HS.out HX.out (Nat.le_of_not_lt h2), by go_num, by go_num, hyb, en, bel⟩
      have hc : cmpN e.num y.num < 0 := by have h_ := scmpN_lt e.num y.num; rw [decide_eq_true h2] at h_; exact of_decide_eq_true h_
      go_wp2_with fail
      replace bel := bel.drew
      replace hyb : wr.drew.heap[g4]? = _ := hyb
      replace en := en.drew
      refine wp_region_held_drew (S := fun W => W.heap[g4]? = some (.cells #[.int .u8 (y.a.toNat : Int), .int .u8 (y.b.toNat : Int), .int .u8 (y.c.toNat : Int), .int .u8 (y.d.toNat : Int)] 28 (0, 0)) ∧ Sle slE 15 W (some ⟨gE, oE, none⟩) (n) (c) (l)) (by kernel_rfl) ⟨hyb, en⟩ (fun hH => ?_)
      generalize wr.drew = w2 at bel hyb en hH ⊢
      refine wpAnyH_take (i := 0) (v := ?_) rfl (by kernel_rfl) (by kernel_rfl) (by kernel_rfl) (fun _ _ _ h => h) (Or.inl ⟨by rfl, ?_⟩) hH ?_
      rotate_left
      · ((intro W hW; clear hW; go_simp) <;> with_reducible rfl)
      simp only [Act.put, List.getElem_toArray, List.getElem_cons_zero, List.setIfInBounds_toArray, List.set_cons_zero, List.set_cons_succ]
      refine wpAnyH_take (i := 1) (v := ?_) rfl (by kernel_rfl) (by kernel_rfl) (by kernel_rfl) (fun _ _ _ h => h) (Or.inl ⟨by rfl, ?_⟩) hH ?_
      rotate_left
      · ((intro W hW; clear hW; go_simp) <;> with_reducible rfl)
      simp only [Act.put, List.getElem_toArray, List.getElem_cons_zero, List.getElem_cons_succ, List.setIfInBounds_toArray, List.set_cons_zero, List.set_cons_succ]
      refine wpAnyH_take (i := 2) (v := ?_) rfl (by kernel_rfl) (by kernel_rfl) (by kernel_rfl) (fun _ _ _ h => h) (Or.inl ⟨by rfl, ?_⟩) hH ?_
      rotate_left
      · ((intro W hW; clear hW; go_simp) <;> with_reducible rfl)
      simp only [Act.put, List.getElem_toArray, List.getElem_cons_zero, List.getElem_cons_succ, List.setIfInBounds_toArray, List.set_cons_zero, List.set_cons_succ]
      refine wpAnyH_take (i := 3) (v := ?_) rfl (by kernel_rfl) (by kernel_rfl) (by kernel_rfl) (fun _ _ _ h => h) (Or.inl ⟨by rfl, ?_⟩) hH ?_
      rotate_left
      · ((intro W hW; clear hW; go_simp) <;> with_reducible rfl)
      simp only [Act.put, List.getElem_toArray, List.getElem_cons_zero, List.getElem_cons_succ, List.setIfInBounds_toArray, List.set_cons_zero, List.set_cons_succ]
      refine wpAnyH_take (i := 4) (v := .agg #[.int .u8 (e.m.a.toNat : Int), .int .u8 (e.m.b.toNat : Int), .int .u8 (e.m.c.toNat : Int), .int .u8 (e.m.d.toNat : Int), .int .u8 (e.m.e.toNat : Int), .int .u8 (e.m.f.toNat : Int), .int .u8 (e.ad.a.toNat : Int), .int .u8 (e.ad.b.toNat : Int), .int .u8 (e.ad.c.toNat : Int), .int .u8 (e.ad.d.toNat : Int), .int .i64 e.u, .bool e.fx, .bool e.le, .bool e.rp, .int .i64 e.br]) rfl (by kernel_rfl) (by kernel_rfl) (by kernel_rfl) (fun _ _ _ h => h) (yieldsIf_load_mid (by kernel_rfl) 101 _ rfl gE (oE + q * 15) rfl [.int .u8 (e.m.a.toNat : Int), .int .u8 (e.m.b.toNat : Int), .int .u8 (e.m.c.toNat : Int), .int .u8 (e.m.d.toNat : Int), .int .u8 (e.m.e.toNat : Int), .int .u8 (e.m.f.toNat : Int), .int .u8 (e.ad.a.toNat : Int), .int .u8 (e.ad.b.toNat : Int), .int .u8 (e.ad.c.toNat : Int), .int .u8 (e.ad.d.toNat : Int), .int .i64 e.u, .bool e.fx, .bool e.le, .bool e.rp, .int .i64 e.br] _ (fun W hW => Sle.range0 (hW.2) HX.out 15 [.int .u8 (e.m.a.toNat : Int), .int .u8 (e.m.b.toNat : Int), .int .u8 (e.m.c.toNat : Int), .int .u8 (e.m.d.toNat : Int), .int .u8 (e.m.e.toNat : Int), .int .u8 (e.m.f.toNat : Int), .int .u8 (e.ad.a.toNat : Int), .int .u8 (e.ad.b.toNat : Int), .int .u8 (e.ad.c.toNat : Int), .int .u8 (e.ad.d.toNat : Int), .int .i64 e.u, .bool e.fx, .bool e.le, .bool e.rp, .int .i64 e.br] rfl) Try.underlying101 rfl (by kernel_rfl)) hH ?_
      simp only [Act.put, List.getElem_toArray, List.getElem_cons_zero, List.getElem_cons_succ, List.setIfInBounds_toArray, List.set_cons_zero, List.set_cons_succ]
      refine wpAnyH_take (i := 5) (v := .agg #[.int .u8 (y.a.toNat : Int), .int .u8 (y.b.toNat : Int), .int .u8 (y.c.toNat : Int), .int .u8 (y.d.toNat : Int)]) rfl (by kernel_rfl) (by kernel_rfl) (by kernel_rfl) (fun _ _ _ h => h) (yieldsIf_load_part (by kernel_rfl) 28 _ rfl g4 0 4 rfl _ 28 (0, 0) (fun W hW => hW.1) _ rfl _ Try.underlying28 rfl (by kernel_rfl)) hH ?_
      simp only [Act.put, List.getElem_toArray, List.getElem_cons_zero, List.getElem_cons_succ, List.setIfInBounds_toArray, List.set_cons_zero, List.set_cons_succ]
      refine wpAnyH_ready (rs := [6]) (by kernel_rfl) (by simp) ?_
      refine AllReadyH.cons (o := _) rfl (fun K hK => ?_) AllReadyH.nil
      simp only [List.getElem_toArray, List.getElem_cons_zero, List.getElem_cons_succ]
      go_simp
      with_reducible refine (pfindf_any e y _).mono ?_
      rintro e w3 ⟨rfl, b3⟩
      dsimp only
      replace hyb := blk_u hyb b3
      replace en := en.below b3
      replace bel := bel.trans (b3.mono bel.size)
      clear b3
      refine hK.out _ _ ⟨hyb, en⟩ (fun hH4 => ?_)
      clear hK K
      refine wpAnyH_take (i := 7) (v := ?_) rfl (by kernel_rfl) (by kernel_rfl) (by kernel_rfl) (fun _ _ _ h => h) (Or.inl ⟨by rfl, ?_⟩) hH4 ?_
      rotate_left
      · ((intro W hW; clear hW; go_simp) <;> with_reducible rfl)
      simp only [Act.put, List.getElem_toArray, List.getElem_cons_zero, List.getElem_cons_succ, List.setIfInBounds_toArray, List.set_cons_zero, List.set_cons_succ]
      refine wpAnyH_done (by kernel_rfl) ?_ _
      go_wp2_with fail
      go_roundg (j - (q + 1))
      case measure => have := HGK_.out; omega
      case rel => exact ⟨q + 1, j, rfl, by omega, by omega, SBsLo.step HS.out HX.out h2, H2, by go_num, by go_num, hyb, en, bel⟩
    obtain rfl : i = j := by omega
    replace h : decide (i < i) = false := decide_eq_false (by omega)
    have hp := sbs_at (HL.out ▸ hjn) H1 H2
    have HP := Lib.hid hp
    clear hp
    by_cases h2 : i < n
    rotate_left
    · have HE := Lib.hid (show i = l.length by have := HL.out; omega)
      replace h2 : decide (i < n) = false := decide_eq_false h2
      go_wp2_with fail
      replace bel := bel.drew
      replace hyb : wr.drew.heap[g4]? = _ := hyb
      replace en := en.drew
      refine wp_region_held_drew (S := fun W => W.heap[g4]? = some (.cells #[.int .u8 (y.a.toNat : Int), .int .u8 (y.b.toNat : Int), .int .u8 (y.c.toNat : Int), .int .u8 (y.d.toNat : Int)] 28 (0, 0)) ∧ Sle slE 15 W (some ⟨gE, oE, none⟩) (n) (c) (l)) (by kernel_rfl) ⟨hyb, en⟩ (fun hH => ?_)
      generalize wr.drew = w2 at bel hyb en hH ⊢
      refine wpAnyH_take (i := 0) (v := ?_) rfl (by kernel_rfl) (by kernel_rfl) (by kernel_rfl) (fun _ _ _ h => h) (Or.inl ⟨by rfl, ?_⟩) hH ?_
      rotate_left
      · ((intro W hW; clear hW; go_simp) <;> with_reducible rfl)
      simp only [Act.put, List.getElem_toArray, List.getElem_cons_zero, List.setIfInBounds_toArray, List.set_cons_zero, List.set_cons_succ]
      refine wpAnyH_take (i := 1) (v := ?_) rfl (by kernel_rfl) (by kernel_rfl) (by kernel_rfl) (fun _ _ _ h => h) (Or.inl ⟨by rfl, ?_⟩) hH ?_
      rotate_left
      · ((intro W hW; clear hW; go_simp) <;> with_reducible rfl)
      simp only [Act.put, List.getElem_toArray, List.getElem_cons_zero, List.getElem_cons_succ, List.setIfInBounds_toArray, List.set_cons_zero, List.set_cons_succ]
      refine wpAnyH_take (i := 2) (v := ?_) rfl (by kernel_rfl) (by kernel_rfl) (by kernel_rfl) (fun _ _ _ h => h) (Or.inl ⟨by rfl, ?_⟩) hH ?_
      rotate_left
      · ((intro W hW; clear hW; go_simp) <;> with_reducible rfl)
      simp only [Act.put, List.getElem_toArray, List.getElem_cons_zero, List.getElem_cons_succ, List.setIfInBounds_toArray, List.set_cons_zero, List.set_cons_succ]
      refine wpAnyH_take (i := 3) (v := ?_) rfl (by kernel_rfl) (by kernel_rfl) (by kernel_rfl) (fun _ _ _ h => h) (Or.inl ⟨by rfl, ?_⟩) hH ?_
      rotate_left
      · ((intro W hW; clear hW; go_simp) <;> with_reducible rfl)
      simp only [Act.put, List.getElem_toArray, List.getElem_cons_zero, List.getElem_cons_succ, List.setIfInBounds_toArray, List.set_cons_zero, List.set_cons_succ]
      refine wpAnyH_take (i := 4) (v := ?_) rfl (by kernel_rfl) (by kernel_rfl) (by kernel_rfl) (fun _ _ _ h => h) (Or.inl ⟨by rfl, ?_⟩) hH ?_
      rotate_left
      · ((intro W hW; clear hW; go_simp) <;> with_reducible rfl)
      simp only [Act.put, List.getElem_toArray, List.getElem_cons_zero, List.getElem_cons_succ, List.setIfInBounds_toArray, List.set_cons_zero, List.set_cons_succ]
      refine wpAnyH_take (i := 5) (v := undef) rfl (by kernel_rfl) (by kernel_rfl) (by kernel_rfl) (fun _ _ _ h => h) (Or.inr ⟨by rfl, rfl⟩) hH ?_
      simp only [Act.put, List.getElem_toArray, List.getElem_cons_zero, List.getElem_cons_succ, List.setIfInBounds_toArray, List.set_cons_zero, List.set_cons_succ]
      refine wpAnyH_take (i := 6) (v := undef) rfl (by kernel_rfl) (by kernel_rfl) (by kernel_rfl) (fun _ _ _ h => h) (Or.inr ⟨by rfl, rfl⟩) hH ?_
      simp only [Act.put, List.getElem_toArray, List.getElem_cons_zero, List.getElem_cons_succ, List.setIfInBounds_toArray, List.set_cons_zero, List.set_cons_succ]
      refine wpAnyH_take (i := 7) (v := undef) rfl (by kernel_rfl) (by kernel_rfl) (by kernel_rfl) (fun _ _ _ h => h) (Or.inr ⟨by rfl, rfl⟩) hH ?_
      simp only [Act.put, List.getElem_toArray, List.getElem_cons_zero, List.getElem_cons_succ, List.setIfInBounds_toArray, List.set_cons_zero, List.set_cons_succ]
      refine wpAnyH_take (i := 8) (v := undef) rfl (by kernel_rfl) (by kernel_rfl) (by kernel_rfl) (fun _ _ _ h => h) (Or.inr ⟨by rfl, rfl⟩) hH ?_
      simp only [Act.put, List.getElem_toArray, List.getElem_cons_zero, List.getElem_cons_succ, List.setIfInBounds_toArray, List.set_cons_zero, List.set_cons_succ]
      refine wpAnyH_take (i := 9) (v := undef) rfl (by kernel_rfl) (by kernel_rfl) (by kernel_rfl) (fun _ _ _ h => h) (Or.inr ⟨by rfl, rfl⟩) hH ?_
      simp only [Act.put, List.getElem_toArray, List.getElem_cons_zero, List.getElem_cons_succ, List.setIfInBounds_toArray, List.set_cons_zero, List.set_cons_succ]
      refine wpAnyH_take (i := 10) (v := undef) rfl (by kernel_rfl) (by kernel_rfl) (by kernel_rfl) (fun _ _ _ h => h) (Or.inr ⟨by rfl, rfl⟩) hH ?_
      simp only [Act.put, List.getElem_toArray, List.getElem_cons_zero, List.getElem_cons_succ, List.setIfInBounds_toArray, List.set_cons_zero, List.set_cons_succ]
      refine wpAnyH_take (i := 11) (v := undef) rfl (by kernel_rfl) (by kernel_rfl) (by kernel_rfl) (fun _ _ _ h => h) (Or.inr ⟨by rfl, rfl⟩) hH ?_
      simp only [Act.put, List.getElem_toArray, List.getElem_cons_zero, List.getElem_cons_succ, List.setIfInBounds_toArray, List.set_cons_zero, List.set_cons_succ]
      refine wpAnyH_take (i := 12) (v := undef) rfl (by kernel_rfl) (by kernel_rfl) (by kernel_rfl) (fun _ _ _ h => h) (Or.inr ⟨by rfl, rfl⟩) hH ?_
      simp only [Act.put, List.getElem_toArray, List.getElem_cons_zero, List.getElem_cons_succ, List.setIfInBounds_toArray, List.set_cons_zero, List.set_cons_succ]
      refine wpAnyH_take (i := 13) (v := ?_) rfl (by kernel_rfl) (by kernel_rfl) (by kernel_rfl) (fun _ _ _ h => h) (Or.inl ⟨by rfl, ?_⟩) hH ?_
      rotate_left
      · ((intro W hW; clear hW; go_simp) <;> with_reducible rfl)
      simp only [Act.put, List.getElem_toArray, List.getElem_cons_zero, List.getElem_cons_succ, List.setIfInBounds_toArray, List.set_cons_zero, List.set_cons_succ]
      refine wpAnyH_take (i := 14) (v := ?_) rfl (by kernel_rfl) (by kernel_rfl) (by kernel_rfl) (fun _ _ _ h => h) (Or.inl ⟨by rfl, ?_⟩) hH ?_
      rotate_left
      · ((intro W hW; clear hW; go_simp) <;> with_reducible rfl)
      simp only [Act.put, List.getElem_toArray, List.getElem_cons_zero, List.getElem_cons_succ, List.setIfInBounds_toArray, List.set_cons_zero, List.set_cons_succ]
      refine wpAnyH_take (i := 15) (v := ?_) rfl (by kernel_rfl) (by kernel_rfl) (by kernel_rfl) (fun _ _ _ h => h) (Or.inl ⟨by rfl, ?_⟩) hH ?_
      rotate_left
      · ((intro W hW; clear hW; go_simp) <;> with_reducible rfl)
      simp only [Act.put, List.getElem_toArray, List.getElem_cons_zero, List.getElem_cons_succ, List.setIfInBounds_toArray, List.set_cons_zero, List.set_cons_succ]
      refine wpAnyH_done (by kernel_rfl) ?_ _
      go_wp2_with fail
      exact bodyPost_ret (v := .tuple #[.int .i64 i, .bool false]) (by simp [results, Try.results70, go_sem]) rfl ⟨by rw [HP.out, sfhas_end (HP.out.trans HE.out)], bel⟩
    obtain ⟨e, hx⟩ : ∃ e, l[i]? = some e := ⟨_, List.getElem?_eq_getElem (by have := HL.out; omega)⟩
    have HX := Lib.hid hx
    have hfh : sfhas l y.num = (e.num == y.num) := sfhas_at2 HP.out hx
    have HF := Lib.hid hfh
    have hce := scmpN_eq e.num y.num
    clear hx hfh
    go_wp2_with fail
    replace bel := bel.drew
    replace hyb : wr.drew.heap[g4]? = _ := hyb
    replace en := en.drew
    refine wp_region_held_drew (S := fun W => W.heap[g4]? = some (.cells #[.int .u8 (y.a.toNat : Int), .int .u8 (y.b.toNat : Int), .int .u8 (y.c.toNat : Int), .int .u8 (y.d.toNat : Int)] 28 (0, 0)) ∧ Sle slE 15 W (some ⟨gE, oE, none⟩) (n) (c) (l)) (by kernel_rfl) ⟨hyb, en⟩ (fun hH => ?_)
    generalize wr.drew = w2 at bel hyb en hH ⊢
    refine wpAnyH_take (i := 0) (v := ?_) rfl (by kernel_rfl) (by kernel_rfl) (by kernel_rfl) (fun _ _ _ h => h) (Or.inl ⟨by rfl, ?_⟩) hH ?_
    rotate_left
    · ((intro W hW; clear hW; go_simp) <;> with_reducible rfl)
    simp only [Act.put, List.getElem_toArray, List.getElem_cons_zero, List.setIfInBounds_toArray, List.set_cons_zero, List.set_cons_succ]
    refine wpAnyH_take (i := 1) (v := ?_) rfl (by kernel_rfl) (by kernel_rfl) (by kernel_rfl) (fun _ _ _ h => h) (Or.inl ⟨by rfl, ?_⟩) hH ?_
    rotate_left
    · ((intro W hW; clear hW; go_simp) <;> with_reducible rfl)
    simp only [Act.put, List.getElem_toArray, List.getElem_cons_zero, List.getElem_cons_succ, List.setIfInBounds_toArray, List.set_cons_zero, List.set_cons_succ]
    refine wpAnyH_take (i := 2) (v := ?_) rfl (by kernel_rfl) (by kernel_rfl) (by kernel_rfl) (fun _ _ _ h => h) (Or.inl ⟨by rfl, ?_⟩) hH ?_
    rotate_left
    · ((intro W hW; clear hW; go_simp) <;> with_reducible rfl)
    simp only [Act.put, List.getElem_toArray, List.getElem_cons_zero, List.getElem_cons_succ, List.setIfInBounds_toArray, List.set_cons_zero, List.set_cons_succ]
    refine wpAnyH_take (i := 3) (v := ?_) rfl (by kernel_rfl) (by kernel_rfl) (by kernel_rfl) (fun _ _ _ h => h) (Or.inl ⟨by rfl, ?_⟩) hH ?_
    rotate_left
    · ((intro W hW; clear hW; go_simp) <;> with_reducible rfl)
    simp only [Act.put, List.getElem_toArray, List.getElem_cons_zero, List.getElem_cons_succ, List.setIfInBounds_toArray, List.set_cons_zero, List.set_cons_succ]
    refine wpAnyH_take (i := 4) (v := ?_) rfl (by kernel_rfl) (by kernel_rfl) (by kernel_rfl) (fun _ _ _ h => h) (Or.inl ⟨by rfl, ?_⟩) hH ?_
    rotate_left
    · ((intro W hW; clear hW; go_simp) <;> with_reducible rfl)
    simp only [Act.put, List.getElem_toArray, List.getElem_cons_zero, List.getElem_cons_succ, List.setIfInBounds_toArray, List.set_cons_zero, List.set_cons_succ]
    refine wpAnyH_take (i := 5) (v := ?_) rfl (by kernel_rfl) (by kernel_rfl) (by kernel_rfl) (fun _ _ _ h => h) (Or.inl ⟨by rfl, ?_⟩) hH ?_
    rotate_left
    · ((intro W hW; clear hW; go_simp) <;> with_reducible rfl)
    simp only [Act.put, List.getElem_toArray, List.getElem_cons_zero, List.getElem_cons_succ, List.setIfInBounds_toArray, List.set_cons_zero, List.set_cons_succ]
    refine wpAnyH_take (i := 6) (v := ?_) rfl (by kernel_rfl) (by kernel_rfl) (by kernel_rfl) (fun _ _ _ h => h) (Or.inl ⟨by rfl, ?_⟩) hH ?_
    rotate_left
    · ((intro W hW; clear hW; go_simp) <;> with_reducible rfl)
    simp only [Act.put, List.getElem_toArray, List.getElem_cons_zero, List.getElem_cons_succ, List.setIfInBounds_toArray, List.set_cons_zero, List.set_cons_succ]
    refine wpAnyH_take (i := 7) (v := ?_) rfl (by kernel_rfl) (by kernel_rfl) (by kernel_rfl) (fun _ _ _ h => h) (Or.inl ⟨by rfl, ?_⟩) hH ?_
    rotate_left
    · ((intro W hW; clear hW; go_simp) <;> with_reducible rfl)
    simp only [Act.put, List.getElem_toArray, List.getElem_cons_zero, List.getElem_cons_succ, List.setIfInBounds_toArray, List.set_cons_zero, List.set_cons_succ]
    refine wpAnyH_take (i := 8) (v := ?_) rfl (by kernel_rfl) (by kernel_rfl) (by kernel_rfl) (fun _ _ _ h => h) (Or.inl ⟨by rfl, ?_⟩) hH ?_
    rotate_left
    · ((intro W hW; clear hW; go_simp) <;> with_reducible rfl)
    simp only [Act.put, List.getElem_toArray, List.getElem_cons_zero, List.getElem_cons_succ, List.setIfInBounds_toArray, List.set_cons_zero, List.set_cons_succ]
    refine wpAnyH_take (i := 9) (v := .agg #[.int .u8 (e.m.a.toNat : Int), .int .u8 (e.m.b.toNat : Int), .int .u8 (e.m.c.toNat : Int), .int .u8 (e.m.d.toNat : Int), .int .u8 (e.m.e.toNat : Int), .int .u8 (e.m.f.toNat : Int), .int .u8 (e.ad.a.toNat : Int), .int .u8 (e.ad.b.toNat : Int), .int .u8 (e.ad.c.toNat : Int), .int .u8 (e.ad.d.toNat : Int), .int .i64 e.u, .bool e.fx, .bool e.le, .bool e.rp, .int .i64 e.br]) rfl (by kernel_rfl) (by kernel_rfl) (by kernel_rfl) (fun _ _ _ h => h) (yieldsIf_load_mid (by kernel_rfl) 101 _ rfl gE (oE + i * 15) rfl [.int .u8 (e.m.a.toNat : Int), .int .u8 (e.m.b.toNat : Int), .int .u8 (e.m.c.toNat : Int), .int .u8 (e.m.d.toNat : Int), .int .u8 (e.m.e.toNat : Int), .int .u8 (e.m.f.toNat : Int), .int .u8 (e.ad.a.toNat : Int), .int .u8 (e.ad.b.toNat : Int), .int .u8 (e.ad.c.toNat : Int), .int .u8 (e.ad.d.toNat : Int), .int .i64 e.u, .bool e.fx, .bool e.le, .bool e.rp, .int .i64 e.br] _ (fun W hW => Sle.range0 (hW.2) HX.out 15 [.int .u8 (e.m.a.toNat : Int), .int .u8 (e.m.b.toNat : Int), .int .u8 (e.m.c.toNat : Int), .int .u8 (e.m.d.toNat : Int), .int .u8 (e.m.e.toNat : Int), .int .u8 (e.m.f.toNat : Int), .int .u8 (e.ad.a.toNat : Int), .int .u8 (e.ad.b.toNat : Int), .int .u8 (e.ad.c.toNat : Int), .int .u8 (e.ad.d.toNat : Int), .int .i64 e.u, .bool e.fx, .bool e.le, .bool e.rp, .int .i64 e.br] rfl) Try.underlying101 rfl (by kernel_rfl)) hH ?_
    simp only [Act.put, List.getElem_toArray, List.getElem_cons_zero, List.getElem_cons_succ, List.setIfInBounds_toArray, List.set_cons_zero, List.set_cons_succ]
    refine wpAnyH_take (i := 10) (v := .agg #[.int .u8 (y.a.toNat : Int), .int .u8 (y.b.toNat : Int), .int .u8 (y.c.toNat : Int), .int .u8 (y.d.toNat : Int)]) rfl (by kernel_rfl) (by kernel_rfl) (by kernel_rfl) (fun _ _ _ h => h) (yieldsIf_load_part (by kernel_rfl) 28 _ rfl g4 0 4 rfl _ 28 (0, 0) (fun W hW => hW.1) _ rfl _ Try.underlying28 rfl (by kernel_rfl)) hH ?_
    simp only [Act.put, List.getElem_toArray, List.getElem_cons_zero, List.getElem_cons_succ, List.setIfInBounds_toArray, List.set_cons_zero, List.set_cons_succ]
    refine wpAnyH_ready (rs := [11]) (by kernel_rfl) (by simp) ?_
    refine AllReadyH.cons (o := _) rfl (fun K hK => ?_) AllReadyH.nil
    simp only [List.getElem_toArray, List.getElem_cons_zero, List.getElem_cons_succ]
    go_simp
    with_reducible refine (pfindf_any e y _).mono ?_
    rintro e w3 ⟨rfl, b3⟩
    dsimp only
    replace hyb := blk_u hyb b3
    replace en := en.below b3
    replace bel := bel.trans (b3.mono bel.size)
    clear b3
    refine hK.out _ _ ⟨hyb, en⟩ (fun hH4 => ?_)
    clear hK K
    refine wpAnyH_take (i := 12) (v := ?_) rfl (by kernel_rfl) (by kernel_rfl) (by kernel_rfl) (fun _ _ _ h => h) (Or.inl ⟨by rfl, ?_⟩) hH4 ?_
    rotate_left
    · ((intro W hW; clear hW; go_simp) <;> with_reducible rfl)
    simp only [Act.put, List.getElem_toArray, List.getElem_cons_zero, List.getElem_cons_succ, List.setIfInBounds_toArray, List.set_cons_zero, List.set_cons_succ]
    refine wpAnyH_take (i := 13) (v := ?_) rfl (by kernel_rfl) (by kernel_rfl) (by kernel_rfl) (fun _ _ _ h => h) (Or.inl ⟨by rfl, ?_⟩) hH4 ?_
    rotate_left
    · ((intro W hW; clear hW; go_simp) <;> with_reducible rfl)
    simp only [Act.put, List.getElem_toArray, List.getElem_cons_zero, List.getElem_cons_succ, List.setIfInBounds_toArray, List.set_cons_zero, List.set_cons_succ]
    refine wpAnyH_take (i := 14) (v := ?_) rfl (by kernel_rfl) (by kernel_rfl) (by kernel_rfl) (fun _ _ _ h => h) (Or.inl ⟨by rfl, ?_⟩) hH4 ?_
    rotate_left
    · ((intro W hW; clear hW; go_simp) <;> with_reducible rfl)
    simp only [Act.put, List.getElem_toArray, List.getElem_cons_zero, List.getElem_cons_succ, List.setIfInBounds_toArray, List.set_cons_zero, List.set_cons_succ]
    refine wpAnyH_take (i := 15) (v := ?_) rfl (by kernel_rfl) (by kernel_rfl) (by kernel_rfl) (fun _ _ _ h => h) (Or.inl ⟨by rfl, ?_⟩) hH4 ?_
    rotate_left
    · ((intro W hW; clear hW; go_simp) <;> with_reducible rfl)
    simp only [Act.put, List.getElem_toArray, List.getElem_cons_zero, List.getElem_cons_succ, List.setIfInBounds_toArray, List.set_cons_zero, List.set_cons_succ]
    refine wpAnyH_done (by kernel_rfl) ?_ _
    go_wp2_with fail
    exact bodyPost_ret (v := .tuple #[.int .i64 i, .bool (e.num == y.num)]) (by simp [results, Try.results70, go_sem]) rfl ⟨by rw [HP.out, HF.out], bel⟩
set_option linter.unusedVariables false in
set_option linter.unusedSimpArgs false in
set_option maxRecDepth 100000 in
set_option maxHeartbeats 16000000 in
theorem pbs_nil {A : Option Addr} {n c : Nat} {l : List Sd} (y : Ad4) (w : World) (hl : l = []) (hn : n = 0) : Calls Try.prog 70 #[.slice A n c, .agg #[.int .u8 (y.a.toNat : Int), .int .u8 (y.b.toNat : Int), .int .u8 (y.c.toNat : Int), .int .u8 (y.d.toNat : Int)], .func (.func 71) #[] #[]] w fun e w' => e = .returned (.tuple #[.int .i64 (sfpos l y.num : Int), .bool (sfhas l y.num)]) ∧ Below w.heap.size w w' := by
  subst hn
  have HP : Hid (sfpos l y.num = 0) := Lib.hid (by subst hl; rfl)
  have HE := Lib.hid (show 0 = l.length by subst hl; rfl)
  clear hl
  have bel := Below.refl w.heap.size w
  go_enter Try.func70, Try.ntmps70
  go_wp2_with (first | ((with_reducible show wpList _ _ _ (⟨some 4, _, _, _, _, _⟩ :: _) _ _); refine wpList_box_n rfl 28 (.tmp 1) rfl #[.int .u8 (y.a.toNat : Int), .int .u8 (y.b.toNat : Int), .int .u8 (y.c.toNat : Int), .int .u8 (y.d.toNat : Int)] rfl ?_; intro g4 w1 ge lt hh bb; have oyb := Nat.le_trans bel.size ge; replace bel := bel.trans (bb.mono bel.size); have hyb := hh; clear hh lt ge bb))
  refine wp_loop_rounds 1 ?_
  rw [rounds_succ]
  go_wp2_with fail
  replace bel := bel.drew
  replace hyb : w1.drew.heap[g4]? = _ := hyb
  refine wp_region_held_drew (S := fun W => W.heap[g4]? = some (.cells #[.int .u8 (y.a.toNat : Int), .int .u8 (y.b.toNat : Int), .int .u8 (y.c.toNat : Int), .int .u8 (y.d.toNat : Int)] 28 (0, 0))) (by kernel_rfl) hyb (fun hH => ?_)
  generalize w1.drew = w2 at bel hyb hH ⊢
  refine wpAnyH_take (i := 0) (v := ?_) rfl (by kernel_rfl) (by kernel_rfl) (by kernel_rfl) (fun _ _ _ h => h) (Or.inl ⟨by rfl, ?_⟩) hH ?_
  rotate_left
  · ((intro W hW; clear hW; go_simp) <;> with_reducible rfl)
  simp only [Act.put, List.getElem_toArray, List.getElem_cons_zero, List.setIfInBounds_toArray, List.set_cons_zero, List.set_cons_succ]
  refine wpAnyH_take (i := 1) (v := ?_) rfl (by kernel_rfl) (by kernel_rfl) (by kernel_rfl) (fun _ _ _ h => h) (Or.inl ⟨by rfl, ?_⟩) hH ?_
  rotate_left
  · ((intro W hW; clear hW; go_simp) <;> with_reducible rfl)
  simp only [Act.put, List.getElem_toArray, List.getElem_cons_zero, List.getElem_cons_succ, List.setIfInBounds_toArray, List.set_cons_zero, List.set_cons_succ]
  refine wpAnyH_take (i := 2) (v := ?_) rfl (by kernel_rfl) (by kernel_rfl) (by kernel_rfl) (fun _ _ _ h => h) (Or.inl ⟨by rfl, ?_⟩) hH ?_
  rotate_left
  · ((intro W hW; clear hW; go_simp) <;> with_reducible rfl)
  simp only [Act.put, List.getElem_toArray, List.getElem_cons_zero, List.getElem_cons_succ, List.setIfInBounds_toArray, List.set_cons_zero, List.set_cons_succ]
  refine wpAnyH_take (i := 3) (v := ?_) rfl (by kernel_rfl) (by kernel_rfl) (by kernel_rfl) (fun _ _ _ h => h) (Or.inl ⟨by rfl, ?_⟩) hH ?_
  rotate_left
  · ((intro W hW; clear hW; go_simp) <;> with_reducible rfl)
  simp only [Act.put, List.getElem_toArray, List.getElem_cons_zero, List.getElem_cons_succ, List.setIfInBounds_toArray, List.set_cons_zero, List.set_cons_succ]
  refine wpAnyH_take (i := 4) (v := ?_) rfl (by kernel_rfl) (by kernel_rfl) (by kernel_rfl) (fun _ _ _ h => h) (Or.inl ⟨by rfl, ?_⟩) hH ?_
  rotate_left
  · ((intro W hW; clear hW; go_simp) <;> with_reducible rfl)
  simp only [Act.put, List.getElem_toArray, List.getElem_cons_zero, List.getElem_cons_succ, List.setIfInBounds_toArray, List.set_cons_zero, List.set_cons_succ]
  refine wpAnyH_take (i := 5) (v := undef) rfl (by kernel_rfl) (by kernel_rfl) (by kernel_rfl) (fun _ _ _ h => h) (Or.inr ⟨by rfl, rfl⟩) hH ?_
  simp only [Act.put, List.getElem_toArray, List.getElem_cons_zero, List.getElem_cons_succ, List.setIfInBounds_toArray, List.set_cons_zero, List.set_cons_succ]
  refine wpAnyH_take (i := 6) (v := undef) rfl (by kernel_rfl) (by kernel_rfl) (by kernel_rfl) (fun _ _ _ h => h) (Or.inr ⟨by rfl, rfl⟩) hH ?_
  simp only [Act.put, List.getElem_toArray, List.getElem_cons_zero, List.getElem_cons_succ, List.setIfInBounds_toArray, List.set_cons_zero, List.set_cons_succ]
  refine wpAnyH_take (i := 7) (v := undef) rfl (by kernel_rfl) (by kernel_rfl) (by kernel_rfl) (fun _ _ _ h => h) (Or.inr ⟨by rfl, rfl⟩) hH ?_
  simp only [Act.put, List.getElem_toArray, List.getElem_cons_zero, List.getElem_cons_succ, List.setIfInBounds_toArray, List.set_cons_zero, List.set_cons_succ]
  refine wpAnyH_take (i := 8) (v := undef) rfl (by kernel_rfl) (by kernel_rfl) (by kernel_rfl) (fun _ _ _ h => h) (Or.inr ⟨by rfl, rfl⟩) hH ?_
  simp only [Act.put, List.getElem_toArray, List.getElem_cons_zero, List.getElem_cons_succ, List.setIfInBounds_toArray, List.set_cons_zero, List.set_cons_succ]
  refine wpAnyH_take (i := 9) (v := undef) rfl (by kernel_rfl) (by kernel_rfl) (by kernel_rfl) (fun _ _ _ h => h) (Or.inr ⟨by rfl, rfl⟩) hH ?_
  simp only [Act.put, List.getElem_toArray, List.getElem_cons_zero, List.getElem_cons_succ, List.setIfInBounds_toArray, List.set_cons_zero, List.set_cons_succ]
  refine wpAnyH_take (i := 10) (v := undef) rfl (by kernel_rfl) (by kernel_rfl) (by kernel_rfl) (fun _ _ _ h => h) (Or.inr ⟨by rfl, rfl⟩) hH ?_
  simp only [Act.put, List.getElem_toArray, List.getElem_cons_zero, List.getElem_cons_succ, List.setIfInBounds_toArray, List.set_cons_zero, List.set_cons_succ]
  refine wpAnyH_take (i := 11) (v := undef) rfl (by kernel_rfl) (by kernel_rfl) (by kernel_rfl) (fun _ _ _ h => h) (Or.inr ⟨by rfl, rfl⟩) hH ?_
  simp only [Act.put, List.getElem_toArray, List.getElem_cons_zero, List.getElem_cons_succ, List.setIfInBounds_toArray, List.set_cons_zero, List.set_cons_succ]
  refine wpAnyH_take (i := 12) (v := undef) rfl (by kernel_rfl) (by kernel_rfl) (by kernel_rfl) (fun _ _ _ h => h) (Or.inr ⟨by rfl, rfl⟩) hH ?_
  simp only [Act.put, List.getElem_toArray, List.getElem_cons_zero, List.getElem_cons_succ, List.setIfInBounds_toArray, List.set_cons_zero, List.set_cons_succ]
  refine wpAnyH_take (i := 13) (v := ?_) rfl (by kernel_rfl) (by kernel_rfl) (by kernel_rfl) (fun _ _ _ h => h) (Or.inl ⟨by rfl, ?_⟩) hH ?_
  rotate_left
  · ((intro W hW; clear hW; go_simp) <;> with_reducible rfl)
  simp only [Act.put, List.getElem_toArray, List.getElem_cons_zero, List.getElem_cons_succ, List.setIfInBounds_toArray, List.set_cons_zero, List.set_cons_succ]
  refine wpAnyH_take (i := 14) (v := ?_) rfl (by kernel_rfl) (by kernel_rfl) (by kernel_rfl) (fun _ _ _ h => h) (Or.inl ⟨by rfl, ?_⟩) hH ?_
  rotate_left
  · ((intro W hW; clear hW; go_simp) <;> with_reducible rfl)
  simp only [Act.put, List.getElem_toArray, List.getElem_cons_zero, List.getElem_cons_succ, List.setIfInBounds_toArray, List.set_cons_zero, List.set_cons_succ]
  refine wpAnyH_take (i := 15) (v := ?_) rfl (by kernel_rfl) (by kernel_rfl) (by kernel_rfl) (fun _ _ _ h => h) (Or.inl ⟨by rfl, ?_⟩) hH ?_
  rotate_left
  · ((intro W hW; clear hW; go_simp) <;> with_reducible rfl)
  simp only [Act.put, List.getElem_toArray, List.getElem_cons_zero, List.getElem_cons_succ, List.setIfInBounds_toArray, List.set_cons_zero, List.set_cons_succ]
  refine wpAnyH_done (by kernel_rfl) ?_ _
  go_wp2_with fail
  exact bodyPost_ret (v := .tuple #[.int .i64 0, .bool false]) (by simp [results, Try.results70, go_sem]) rfl ⟨by rw [HP.out, sfhas_end (HP.out.trans HE.out)]; rfl, bel⟩
theorem pbs_any {A : Option Addr} {n c : Nat} {l : List Sd} (y : Ad4) (w : World) (en : Sle slE 15 w A n c l) (hS : SSrt l) (h32 : n ≤ 1000) : Calls Try.prog 70 #[.slice A n c, .agg #[.int .u8 (y.a.toNat : Int), .int .u8 (y.b.toNat : Int), .int .u8 (y.c.toNat : Int), .int .u8 (y.d.toNat : Int)], .func (.func 71) #[] #[]] w fun e w' => e = .returned (.tuple #[.int .i64 (sfpos l y.num : Int), .bool (sfhas l y.num)]) ∧ Below w.heap.size w w' := by
  rcases Nat.eq_zero_or_pos n with h0 | h0
  · exact pbs_nil y w (List.eq_nil_of_length_eq_zero (en.1.trans h0)) h0
  · exact pbs_pos y w en hS h0 h32
set_option linter.unusedVariables false in
set_option linter.unusedSimpArgs false in
set_option maxRecDepth 100000 in
set_option maxHeartbeats 16000000 in
theorem pfind_any {gt mb : Nat} {now : Int} {A : Option Addr} {n c : Nat} {l : List Sd} (y : Ad4) (w : World) (htb : w.heap[gt]? = some (.cells #[.int .i64 now, .map (some mb), .slice A n c] 84 (0, 0))) (en : Sle slE 15 w A n c l) (hS : SSrt l) (h32 : n ≤ 1000) : Calls Try.prog 49 #[.pointer (some ⟨gt, 0, none⟩), .agg #[.int .u8 (y.a.toNat : Int), .int .u8 (y.b.toNat : Int), .int .u8 (y.c.toNat : Int), .int .u8 (y.d.toNat : Int)]] w fun e w' => e = .returned (.tuple #[.int .i64 (sfpos l y.num : Int), .bool (sfhas l y.num)]) ∧ Below w.heap.size w w' := by
  have HS := Lib.hid hS
  clear hS
  have bel := Below.refl w.heap.size w
  go_enter Try.func49, Try.ntmps49
  go_wp2_with (first | ((with_reducible show wpList _ _ _ (⟨some 3, _, _, _, _, _⟩ :: _) _ _); refine wpList_box_n rfl 28 (.tmp 1) rfl #[.int .u8 (y.a.toNat : Int), .int .u8 (y.b.toNat : Int), .int .u8 (y.c.toNat : Int), .int .u8 (y.d.toNat : Int)] rfl ?_; intro g3 w1 ge lt hh bb; have d_tb_yb := ne_new (hlt htb) ge; have av_en_yb := en.av_new ge; have oyb := Nat.le_trans bel.size ge; replace htb := blk_u htb bb; replace en := en.below bb; replace bel := bel.trans (bb.mono bel.size); have hyb := hh; clear hh lt ge bb))
  replace bel := bel.drew
  replace htb : w1.drew.heap[gt]? = _ := htb
  replace hyb : w1.drew.heap[g3]? = _ := hyb
  replace en := en.drew
  refine wp_region_held_drew (S := fun W => W.heap[gt]? = some (.cells #[.int .i64 now, .map (some mb), .slice A n c] 84 (0, 0)) ∧ W.heap[g3]? = some (.cells #[.int .u8 (y.a.toNat : Int), .int .u8 (y.b.toNat : Int), .int .u8 (y.c.toNat : Int), .int .u8 (y.d.toNat : Int)] 28 (0, 0))) (by kernel_rfl) ⟨htb, hyb⟩ (fun hH => ?_)
  generalize w1.drew = w2 at bel htb hyb en hH ⊢
  refine wpAnyH_take (i := 0) (v := ?_) rfl (by kernel_rfl) (by kernel_rfl) (by kernel_rfl) (fun _ _ _ h => h) (Or.inl ⟨by rfl, ?_⟩) hH ?_
  rotate_left
  · ((intro W hW; clear hW; go_simp) <;> with_reducible rfl)
  simp only [Act.put, List.getElem_toArray, List.getElem_cons_zero, List.setIfInBounds_toArray, List.set_cons_zero, List.set_cons_succ]
  refine wpAnyH_take (i := 1) (v := ?_) rfl (by kernel_rfl) (by kernel_rfl) (by kernel_rfl) (fun _ _ _ h => h) (Or.inl ⟨by rfl, ?_⟩) hH ?_
  rotate_left
  · ((intro W hW; clear hW; go_simp) <;> with_reducible rfl)
  simp only [Act.put, List.getElem_toArray, List.getElem_cons_zero, List.getElem_cons_succ, List.setIfInBounds_toArray, List.set_cons_zero, List.set_cons_succ]
  refine wpAnyH_take (i := 2) (v := ?_) rfl (by kernel_rfl) (by kernel_rfl) (by kernel_rfl) (fun _ _ _ h => h) (Or.inl ⟨by rfl, ?_⟩) hH ?_
  rotate_left
  · ((intro W hW; clear hW; go_simp) <;> with_reducible rfl)
  simp only [Act.put, List.getElem_toArray, List.getElem_cons_zero, List.getElem_cons_succ, List.setIfInBounds_toArray, List.set_cons_zero, List.set_cons_succ]
  refine wpAnyH_take (i := 3) (v := ?_) rfl (by kernel_rfl) (by kernel_rfl) (by kernel_rfl) (fun _ _ _ h => h) (Or.inl ⟨by rfl, ?_⟩) hH ?_
  rotate_left
  · ((intro W hW; have hk := cell_lit (hW.1) 2 _ rfl; clear hW; go_simp) <;> with_reducible rfl)
  simp only [Act.put, List.getElem_toArray, List.getElem_cons_zero, List.getElem_cons_succ, List.setIfInBounds_toArray, List.set_cons_zero, List.set_cons_succ]
  refine wpAnyH_take (i := 4) (v := .agg #[.int .u8 (y.a.toNat : Int), .int .u8 (y.b.toNat : Int), .int .u8 (y.c.toNat : Int), .int .u8 (y.d.toNat : Int)]) rfl (by kernel_rfl) (by kernel_rfl) (by kernel_rfl) (fun _ _ _ h => h) (yieldsIf_load_part (by kernel_rfl) 28 _ rfl g3 0 4 rfl _ 28 (0, 0) (fun W hW => hW.2) _ rfl _ Try.underlying28 rfl (by kernel_rfl)) hH ?_
  simp only [Act.put, List.getElem_toArray, List.getElem_cons_zero, List.getElem_cons_succ, List.setIfInBounds_toArray, List.set_cons_zero, List.set_cons_succ]
  refine wpAnyH_ready (rs := [5]) (by kernel_rfl) (by simp) ?_
  refine AllReadyH.cons (o := _) rfl (fun K hK => ?_) AllReadyH.nil
  simp only [List.getElem_toArray, List.getElem_cons_zero, List.getElem_cons_succ]
  go_simp
  with_reducible refine (pbs_any y _ en HS.out h32).mono ?_
  rintro e w3 ⟨rfl, b3⟩
  dsimp only
  replace htb := blk_u htb b3
  replace hyb := blk_u hyb b3
  replace en := en.below b3
  replace bel := bel.trans (b3.mono bel.size)
  clear b3
  refine hK.out _ _ ⟨htb, hyb⟩ (fun hH4 => ?_)
  clear hK K
  refine wpAnyH_take (i := 6) (v := ?_) rfl (by kernel_rfl) (by kernel_rfl) (by kernel_rfl) (fun _ _ _ h => h) (Or.inl ⟨by rfl, ?_⟩) hH4 ?_
  rotate_left
  · ((intro W hW; clear hW; go_simp) <;> with_reducible rfl)
  simp only [Act.put, List.getElem_toArray, List.getElem_cons_zero, List.getElem_cons_succ, List.setIfInBounds_toArray, List.set_cons_zero, List.set_cons_succ]
  refine wpAnyH_take (i := 7) (v := ?_) rfl (by kernel_rfl) (by kernel_rfl) (by kernel_rfl) (fun _ _ _ h => h) (Or.inl ⟨by rfl, ?_⟩) hH4 ?_
  rotate_left
  · ((intro W hW; clear hW; go_simp) <;> with_reducible rfl)
  simp only [Act.put, List.getElem_toArray, List.getElem_cons_zero, List.getElem_cons_succ, List.setIfInBounds_toArray, List.set_cons_zero, List.set_cons_succ]
  refine wpAnyH_take (i := 8) (v := ?_) rfl (by kernel_rfl) (by kernel_rfl) (by kernel_rfl) (fun _ _ _ h => h) (Or.inl ⟨by rfl, ?_⟩) hH4 ?_
  rotate_left
  · ((intro W hW; clear hW; go_simp) <;> with_reducible rfl)
  simp only [Act.put, List.getElem_toArray, List.getElem_cons_zero, List.getElem_cons_succ, List.setIfInBounds_toArray, List.set_cons_zero, List.set_cons_succ]
  refine wpAnyH_take (i := 9) (v := ?_) rfl (by kernel_rfl) (by kernel_rfl) (by kernel_rfl) (fun _ _ _ h => h) (Or.inl ⟨by rfl, ?_⟩) hH4 ?_
  rotate_left
  · ((intro W hW; clear hW; go_simp) <;> with_reducible rfl)
  simp only [Act.put, List.getElem_toArray, List.getElem_cons_zero, List.getElem_cons_succ, List.setIfInBounds_toArray, List.set_cons_zero, List.set_cons_succ]
  refine wpAnyH_done (by kernel_rfl) ?_ _
  go_wp2_with fail
  exact bodyPost_ret (v := .tuple #[.int .i64 (sfpos l y.num : Int), .bool (sfhas l y.num)]) (by simp [results, Try.results49, go_sem]) rfl ⟨rfl, bel⟩
/-- The search, its answer under names. -/
theorem pfind_is {gt mb : Nat} {now : Int} {A : Option Addr} {n c p : Nat} {b : Bool} {l : List Sd} (y : Ad4) (w : World) (htb : w.heap[gt]? = some (.cells #[.int .i64 now, .map (some mb), .slice A n c] 84 (0, 0))) (en : Sle slE 15 w A n c l) (hS : SSrt l) (h32 : n ≤ 1000) (hp : sfpos l y.num = p) (hb : sfhas l y.num = b) : Calls Try.prog 49 #[.pointer (some ⟨gt, 0, none⟩), .agg #[.int .u8 (y.a.toNat : Int), .int .u8 (y.b.toNat : Int), .int .u8 (y.c.toNat : Int), .int .u8 (y.d.toNat : Int)]] w fun e w' => e = .returned (.tuple #[.int .i64 (p : Int), .bool b]) ∧ Below w.heap.size w w' := by
  rw [← hp, ← hb]
  exact pfind_any y w htb en hS h32
end Go.Proofs.Ytapdmlfjohiekaa
