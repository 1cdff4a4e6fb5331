/- pool's small functions. -/
import Derived.Test.YthcjepafcemmnaaPlm
import Derived.Test.YthcjepafcemmnaaNum
namespace Go.Proofs.Ythcjepafcemmnaa
open Go.RowKit

set_option linter.unusedVariables false in
set_option linter.unusedSimpArgs false in
set_option maxRecDepth 100000 in
set_option maxHeartbeats 16000000 in
theorem pcmp_any (x y : Ad4) (w : World) : Calls Try.prog 36 #[.agg #[.int .u8 (x.a.toNat : Int), .int .u8 (x.b.toNat : Int), .int .u8 (x.c.toNat : Int), .int .u8 (x.d.toNat : Int)], .agg #[.int .u8 (y.a.toNat : Int), .int .u8 (y.b.toNat : Int), .int .u8 (y.c.toNat : Int), .int .u8 (y.d.toNat : Int)]] w fun e w' => e = .returned (.int .i64 (cmpN x.num y.num)) ∧ Below w.heap.size w w' := by
  have bel := Below.refl w.heap.size w
  go_enter Try.func36, Try.ntmps36
  go_wp2_with (first | ((with_reducible show wpList _ _ _ (⟨some 2, _, _, _, _, _⟩ :: _) _ _); refine wpList_box_n rfl 28 (.tmp 0) rfl #[.int .u8 (x.a.toNat : Int), .int .u8 (x.b.toNat : Int), .int .u8 (x.c.toNat : Int), .int .u8 (x.d.toNat : Int)] rfl ?_; intro g2 w1 ge lt hh bb; have oxb := Nat.le_trans bel.size ge; replace bel := bel.trans (bb.mono bel.size); have hxb := hh; clear hh lt ge bb) | ((with_reducible show wpList _ _ _ (⟨some 3, _, _, _, _, _⟩ :: _) _ _); refine wpList_box_n rfl 28 (.tmp 1) rfl #[.int .u8 (y.a.toNat : Int), .int .u8 (y.b.toNat : Int), .int .u8 (y.c.toNat : Int), .int .u8 (y.d.toNat : Int)] rfl ?_; intro g3 w2 ge lt hh bb; have d_xb_yb := ne_new (hlt hxb) ge; have oyb := Nat.le_trans bel.size ge; replace hxb := blk_u hxb bb; replace bel := bel.trans (bb.mono bel.size); have hyb := hh; clear hh lt ge bb))
  replace bel := bel.drew
  replace hxb : w2.drew.heap[g2]? = _ := hxb
  replace hyb : w2.drew.heap[g3]? = _ := hyb
  refine wp_region_held_drew (S := fun W => W.heap[g2]? = some (.cells #[.int .u8 (x.a.toNat : Int), .int .u8 (x.b.toNat : Int), .int .u8 (x.c.toNat : Int), .int .u8 (x.d.toNat : Int)] 28 (0, 0)) ∧ W.heap[g3]? = some (.cells #[.int .u8 (y.a.toNat : Int), .int .u8 (y.b.toNat : Int), .int .u8 (y.c.toNat : Int), .int .u8 (y.d.toNat : Int)] 28 (0, 0))) (by kernel_rfl) ⟨hxb, hyb⟩ (fun hH => ?_)
  generalize w2.drew = w3 at bel hxb hyb hH ⊢
  refine wpAnyH_take (i := 0) (v := .agg #[.int .u8 (x.a.toNat : Int), .int .u8 (x.b.toNat : Int), .int .u8 (x.c.toNat : Int), .int .u8 (x.d.toNat : Int)]) rfl (by kernel_rfl) (by kernel_rfl) (by kernel_rfl) (fun _ _ _ h => h) (yieldsIf_load_part (by kernel_rfl) 28 _ rfl g2 0 4 rfl _ 28 (0, 0) (fun W hW => hW.1) _ rfl _ Try.underlying28 rfl (by kernel_rfl)) hH ?_
  simp only [Act.put, List.getElem_toArray, List.getElem_cons_zero, List.setIfInBounds_toArray, List.set_cons_zero, List.set_cons_succ]
  refine wpAnyH_take (i := 2) (v := .agg #[.int .u8 (y.a.toNat : Int), .int .u8 (y.b.toNat : Int), .int .u8 (y.c.toNat : Int), .int .u8 (y.d.toNat : Int)]) rfl (by kernel_rfl) (by kernel_rfl) (by kernel_rfl) (fun _ _ _ h => h) (yieldsIf_load_part (by kernel_rfl) 28 _ rfl g3 0 4 rfl _ 28 (0, 0) (fun W hW => hW.2) _ rfl _ Try.underlying28 rfl (by kernel_rfl)) hH ?_
  simp only [Act.put, List.getElem_toArray, List.getElem_cons_zero, List.getElem_cons_succ, List.setIfInBounds_toArray, List.set_cons_zero, List.set_cons_succ]
  refine wpAnyH_ready (rs := [1]) (by kernel_rfl) (by simp) ?_
  refine AllReadyH.cons (o := _) rfl (fun K hK => ?_) AllReadyH.nil
  simp only [List.getElem_toArray, List.getElem_cons_zero, List.getElem_cons_succ]
  go_simp
  with_reducible refine (num_any x _).mono ?_
  rintro e w4 ⟨rfl, b4⟩
  dsimp only
  replace hxb := blk_u hxb b4
  replace hyb := blk_u hyb b4
  replace bel := bel.trans (b4.mono bel.size)
  clear b4
  refine hK.out _ _ ⟨hxb, hyb⟩ (fun hH5 => ?_)
  clear hK K
  refine wpAnyH_ready (rs := [3]) (by kernel_rfl) (by simp) ?_
  refine AllReadyH.cons (o := _) rfl (fun K hK => ?_) AllReadyH.nil
  simp only [List.getElem_toArray, List.getElem_cons_zero, List.getElem_cons_succ]
  go_simp
  with_reducible refine (num_any y _).mono ?_
  rintro e w6 ⟨rfl, b6⟩
  dsimp only
  replace hxb := blk_u hxb b6
  replace hyb := blk_u hyb b6
  replace bel := bel.trans (b6.mono bel.size)
  clear b6
  refine hK.out _ _ ⟨hxb, hyb⟩ (fun hH7 => ?_)
  clear hK K
  refine wpAnyH_ready (rs := [4]) (by kernel_rfl) (by simp) ?_
  refine AllReadyH.cons (o := _) rfl (fun K hK => ?_) AllReadyH.nil
  simp only [List.getElem_toArray, List.getElem_cons_zero, List.getElem_cons_succ]
  go_simp
  with_reducible refine (cmp_any _ _ _).mono ?_
  rintro e _ ⟨rfl, rfl⟩
  dsimp only
  refine hK.out _ _ ⟨hxb, hyb⟩ (fun hH8 => ?_)
  clear hK K
  refine wpAnyH_take (i := 5) (v := ?_) rfl (by kernel_rfl) (by kernel_rfl) (by kernel_rfl) (fun _ _ _ h => h) (Or.inl ⟨by rfl, ?_⟩) hH8 ?_
  rotate_left
  · ((intro W hW; clear hW; go_simp) <;> with_reducible rfl)
  simp only [Act.put, List.getElem_toArray, List.getElem_cons_zero, List.getElem_cons_succ, List.setIfInBounds_toArray, List.set_cons_zero, List.set_cons_succ]
  refine wpAnyH_done (by kernel_rfl) ?_ _
  go_wp2_with fail
  go_ret
  exact ⟨rfl, bel⟩
set_option linter.unusedVariables false in
set_option linter.unusedSimpArgs false in
set_option maxRecDepth 100000 in
set_option maxHeartbeats 16000000 in
theorem pfindf_any (x : Sd) (y : Ad4) (w : World) : Calls Try.prog 40 #[.agg #[.int .u8 (x.m.a.toNat : Int), .int .u8 (x.m.b.toNat : Int), .int .u8 (x.m.c.toNat : Int), .int .u8 (x.m.d.toNat : Int), .int .u8 (x.m.e.toNat : Int), .int .u8 (x.m.f.toNat : Int), .int .u8 (x.ad.a.toNat : Int), .int .u8 (x.ad.b.toNat : Int), .int .u8 (x.ad.c.toNat : Int), .int .u8 (x.ad.d.toNat : Int), .int .i64 x.u, .bool x.fx, .bool x.le, .bool x.rp, .int .i64 x.br], .agg #[.int .u8 (y.a.toNat : Int), .int .u8 (y.b.toNat : Int), .int .u8 (y.c.toNat : Int), .int .u8 (y.d.toNat : Int)]] w fun e w' => e = .returned (.int .i64 (cmpN x.num y.num)) ∧ Below w.heap.size w w' := by
  have bel := Below.refl w.heap.size w
  go_enter Try.func40, Try.ntmps40
  go_wp2_with (first | ((with_reducible show wpList _ _ _ (⟨some 2, _, _, _, _, _⟩ :: _) _ _); refine wpList_box_n rfl 66 (.tmp 0) rfl #[.int .u8 (x.m.a.toNat : Int), .int .u8 (x.m.b.toNat : Int), .int .u8 (x.m.c.toNat : Int), .int .u8 (x.m.d.toNat : Int), .int .u8 (x.m.e.toNat : Int), .int .u8 (x.m.f.toNat : Int), .int .u8 (x.ad.a.toNat : Int), .int .u8 (x.ad.b.toNat : Int), .int .u8 (x.ad.c.toNat : Int), .int .u8 (x.ad.d.toNat : Int), .int .i64 x.u, .bool x.fx, .bool x.le, .bool x.rp, .int .i64 x.br] rfl ?_; intro g2 w1 ge lt hh bb; have oeb := Nat.le_trans bel.size ge; replace bel := bel.trans (bb.mono bel.size); have heb := hh; clear hh lt ge bb) | ((with_reducible show wpList _ _ _ (⟨some 3, _, _, _, _, _⟩ :: _) _ _); refine wpList_box_n rfl 28 (.tmp 1) rfl #[.int .u8 (y.a.toNat : Int), .int .u8 (y.b.toNat : Int), .int .u8 (y.c.toNat : Int), .int .u8 (y.d.toNat : Int)] rfl ?_; intro g3 w2 ge lt hh bb; have d_eb_ab := ne_new (hlt heb) ge; have oab := Nat.le_trans bel.size ge; replace heb := blk_u heb bb; replace bel := bel.trans (bb.mono bel.size); have hab := hh; clear hh lt ge bb; have R7 := Lib.hid (range_lit heb 6 4 [.int .u8 (x.ad.a.toNat : Int), .int .u8 (x.ad.b.toNat : Int), .int .u8 (x.ad.c.toNat : Int), .int .u8 (x.ad.d.toNat : Int)] rfl)) | ((with_reducible show wpList _ _ _ (⟨some 7, _, _, _, _, _⟩ :: _) _ _); refine wpList_load_rng 28 (.tmp 6) rfl (by kernel_rfl) _ _ rfl _ R7.out _ Try.underlying28 rfl (by kernel_rfl) ?_; have R8 := Lib.hid (range_lit hab 0 4 [.int .u8 (y.a.toNat : Int), .int .u8 (y.b.toNat : Int), .int .u8 (y.c.toNat : Int), .int .u8 (y.d.toNat : Int)] rfl)) | ((with_reducible show wpList _ _ _ (⟨some 8, _, _, _, _, _⟩ :: _) _ _); refine wpList_load_rng 28 (.tmp 3) rfl (by kernel_rfl) _ _ rfl _ R8.out _ Try.underlying28 rfl (by kernel_rfl) ?_))
  try clear R7
  try clear R8
  with_reducible refine (pcmp_any x.ad y _).mono ?_
  rintro e w3 ⟨rfl, b3⟩
  replace heb := blk_u heb b3
  replace hab := blk_u hab b3
  replace bel := bel.trans (b3.mono bel.size)
  clear b3
  go_wp2_with fail
  go_ret
  exact ⟨rfl, bel⟩
set_option linter.unusedVariables false in
set_option linter.unusedSimpArgs false in
set_option maxRecDepth 100000 in
set_option maxHeartbeats 16000000 in
theorem presf_any (x y : Sd) (w : World) : Calls Try.prog 35 #[.agg #[.int .u8 (x.m.a.toNat : Int), .int .u8 (x.m.b.toNat : Int), .int .u8 (x.m.c.toNat : Int), .int .u8 (x.m.d.toNat : Int), .int .u8 (x.m.e.toNat : Int), .int .u8 (x.m.f.toNat : Int), .int .u8 (x.ad.a.toNat : Int), .int .u8 (x.ad.b.toNat : Int), .int .u8 (x.ad.c.toNat : Int), .int .u8 (x.ad.d.toNat : Int), .int .i64 x.u, .bool x.fx, .bool x.le, .bool x.rp, .int .i64 x.br], .agg #[.int .u8 (y.m.a.toNat : Int), .int .u8 (y.m.b.toNat : Int), .int .u8 (y.m.c.toNat : Int), .int .u8 (y.m.d.toNat : Int), .int .u8 (y.m.e.toNat : Int), .int .u8 (y.m.f.toNat : Int), .int .u8 (y.ad.a.toNat : Int), .int .u8 (y.ad.b.toNat : Int), .int .u8 (y.ad.c.toNat : Int), .int .u8 (y.ad.d.toNat : Int), .int .i64 y.u, .bool y.fx, .bool y.le, .bool y.rp, .int .i64 y.br]] w fun e w' => e = .returned (.int .i64 (cmpN x.num y.num)) ∧ Below w.heap.size w w' := by
  have bel := Below.refl w.heap.size w
  go_enter Try.func35, Try.ntmps35
  go_wp2_with (first | ((with_reducible show wpList _ _ _ (⟨some 2, _, _, _, _, _⟩ :: _) _ _); refine wpList_box_n rfl 66 (.tmp 0) rfl #[.int .u8 (x.m.a.toNat : Int), .int .u8 (x.m.b.toNat : Int), .int .u8 (x.m.c.toNat : Int), .int .u8 (x.m.d.toNat : Int), .int .u8 (x.m.e.toNat : Int), .int .u8 (x.m.f.toNat : Int), .int .u8 (x.ad.a.toNat : Int), .int .u8 (x.ad.b.toNat : Int), .int .u8 (x.ad.c.toNat : Int), .int .u8 (x.ad.d.toNat : Int), .int .i64 x.u, .bool x.fx, .bool x.le, .bool x.rp, .int .i64 x.br] rfl ?_; intro g2 w1 ge lt hh bb; have oeb := Nat.le_trans bel.size ge; replace bel := bel.trans (bb.mono bel.size); have heb := hh; clear hh lt ge bb) | ((with_reducible show wpList _ _ _ (⟨some 3, _, _, _, _, _⟩ :: _) _ _); refine wpList_box_n rfl 66 (.tmp 1) rfl #[.int .u8 (y.m.a.toNat : Int), .int .u8 (y.m.b.toNat : Int), .int .u8 (y.m.c.toNat : Int), .int .u8 (y.m.d.toNat : Int), .int .u8 (y.m.e.toNat : Int), .int .u8 (y.m.f.toNat : Int), .int .u8 (y.ad.a.toNat : Int), .int .u8 (y.ad.b.toNat : Int), .int .u8 (y.ad.c.toNat : Int), .int .u8 (y.ad.d.toNat : Int), .int .i64 y.u, .bool y.fx, .bool y.le, .bool y.rp, .int .i64 y.br] rfl ?_; intro g3 w2 ge lt hh bb; have d_eb_ab := ne_new (hlt heb) ge; have oab := Nat.le_trans bel.size ge; replace heb := blk_u heb bb; replace bel := bel.trans (bb.mono bel.size); have hab := hh; clear hh lt ge bb; have R7 := Lib.hid (range_lit heb 6 4 [.int .u8 (x.ad.a.toNat : Int), .int .u8 (x.ad.b.toNat : Int), .int .u8 (x.ad.c.toNat : Int), .int .u8 (x.ad.d.toNat : Int)] rfl)) | ((with_reducible show wpList _ _ _ (⟨some 7, _, _, _, _, _⟩ :: _) _ _); refine wpList_load_rng 28 (.tmp 6) rfl (by kernel_rfl) _ _ rfl _ R7.out _ Try.underlying28 rfl (by kernel_rfl) ?_; have R10 := Lib.hid (range_lit hab 6 4 [.int .u8 (y.ad.a.toNat : Int), .int .u8 (y.ad.b.toNat : Int), .int .u8 (y.ad.c.toNat : Int), .int .u8 (y.ad.d.toNat : Int)] rfl)) | ((with_reducible show wpList _ _ _ (⟨some 10, _, _, _, _, _⟩ :: _) _ _); refine wpList_load_rng 28 (.tmp 9) rfl (by kernel_rfl) _ _ rfl _ R10.out _ Try.underlying28 rfl (by kernel_rfl) ?_))
  try clear R7
  try clear R10
  with_reducible refine (pcmp_any x.ad y.ad _).mono ?_
  rintro e w3 ⟨rfl, b3⟩
  replace heb := blk_u heb b3
  replace hab := blk_u hab b3
  replace bel := bel.trans (b3.mono bel.size)
  clear b3
  go_wp2_with fail
  go_ret
  exact ⟨rfl, bel⟩
set_option linter.unusedVariables false in
set_option linter.unusedSimpArgs false in
set_option maxRecDepth 100000 in
set_option maxHeartbeats 16000000 in
theorem live_el {gE n c i : Nat} {l : List Sd} {x : Sd} {now : Int} {b : Bool} (w : World) (en : Sle slE 15 w (some ⟨gE, 0, none⟩) n c l) (hx : l[i]? = some x) (hb : x.liveB now = b) : Calls Try.prog 32 #[.pointer (some ⟨gE, i * 15, none⟩), .int .i64 now] w fun e w' => e = .returned (.bool b) ∧ w = w' := by
  have HX := Lib.hid hx
  clear hx
  skip
  go_enter Try.func32, Try.ntmps32
  have R10 := Sle.zcell en HX.out 10 _ rfl
  go_wp2_with fail
  clear R10
  go_ret
  exact ⟨by rw [← hb]; rfl, rfl⟩
set_option linter.unusedVariables false in
set_option linter.unusedSimpArgs false in
set_option maxRecDepth 100000 in
set_option maxHeartbeats 16000000 in
theorem live_box {ge : Nat} {x : Sd} {now : Int} {b : Bool} (w : World) (heb : w.heap[ge]? = some (.cells #[.int .u8 (x.m.a.toNat : Int), .int .u8 (x.m.b.toNat : Int), .int .u8 (x.m.c.toNat : Int), .int .u8 (x.m.d.toNat : Int), .int .u8 (x.m.e.toNat : Int), .int .u8 (x.m.f.toNat : Int), .int .u8 (x.ad.a.toNat : Int), .int .u8 (x.ad.b.toNat : Int), .int .u8 (x.ad.c.toNat : Int), .int .u8 (x.ad.d.toNat : Int), .int .i64 x.u, .bool x.fx, .bool x.le, .bool x.rp, .int .i64 x.br] 66 (0, 0))) (hb : x.liveB now = b) : Calls Try.prog 32 #[.pointer (some ⟨ge, 0, none⟩), .int .i64 now] w fun e w' => e = .returned (.bool b) ∧ w = w' := by
  skip
  go_enter Try.func32, Try.ntmps32
  have R10 := cell_lit heb 10 _ rfl
  go_wp2_with fail
  clear R10
  go_ret
  exact ⟨by rw [← hb]; rfl, rfl⟩
set_option linter.unusedVariables false in
set_option linter.unusedSimpArgs false in
set_option maxRecDepth 100000 in
set_option maxHeartbeats 16000000 in
theorem held_el {m : Mc6} {gE n c i : Nat} {l : List Sd} {x : Sd} {now : Int} {b : Bool} (w : World) (en : Sle slE 15 w (some ⟨gE, 0, none⟩) n c l) (hx : l[i]? = some x) (hb : x.heldB m now = b) : Calls Try.prog 38 #[.pointer (some ⟨gE, i * 15, none⟩), .agg #[.int .u8 (m.a.toNat : Int), .int .u8 (m.b.toNat : Int), .int .u8 (m.c.toNat : Int), .int .u8 (m.d.toNat : Int), .int .u8 (m.e.toNat : Int), .int .u8 (m.f.toNat : Int)], .int .i64 now] w fun e w' => e = .returned (.bool b) ∧ Below w.heap.size w w' := by
  have HX := Lib.hid hx
  clear hx
  obtain ⟨b1, H1_⟩ : ∃ b, x.liveB now = b := ⟨_, rfl⟩
  have H1 := Lib.hid H1_
  clear H1_
  obtain ⟨b2, H2_⟩ : ∃ b, x.m.eqB m = b := ⟨_, rfl⟩
  have H2 := Lib.hid H2_
  clear H2_
  have q17 : ∀ W, (binOp .eql 31 (.agg #[.int .u8 (x.m.a.toNat : Int), .int .u8 (x.m.b.toNat : Int), .int .u8 (x.m.c.toNat : Int), .int .u8 (x.m.d.toNat : Int), .int .u8 (x.m.e.toNat : Int), .int .u8 (x.m.f.toNat : Int)]) (.agg #[.int .u8 (m.a.toNat : Int), .int .u8 (m.b.toNat : Int), .int .u8 (m.c.toNat : Int), .int .u8 (m.d.toNat : Int), .int .u8 (m.e.toNat : Int), .int .u8 (m.f.toNat : Int)])).run Try.prog W = .ok (.bool b2) W := fun W => by have h_ := eqm_b x.m m W; rw [H2.out] at h_; exact h_
  have bel := Below.refl w.heap.size w
  go_enter Try.func38, Try.ntmps38
  go_wp2_with (first | ((with_reducible show wpList _ _ _ (⟨some 4, _, _, _, _, _⟩ :: _) _ _); refine wpList_box_n rfl 31 (.tmp 1) rfl #[.int .u8 (m.a.toNat : Int), .int .u8 (m.b.toNat : Int), .int .u8 (m.c.toNat : Int), .int .u8 (m.d.toNat : Int), .int .u8 (m.e.toNat : Int), .int .u8 (m.f.toNat : Int)] rfl ?_; intro g4 w1 ge lt hh bb; have av_en_mb := en.av_new ge; have omb := Nat.le_trans bel.size ge; replace en := en.below bb; replace bel := bel.trans (bb.mono bel.size); have hmb := hh; clear hh lt ge bb))
  replace bel := bel.drew
  replace hmb : w1.drew.heap[g4]? = _ := hmb
  replace en := en.drew
  refine wp_region_held_drew (S := fun W => W.heap[g4]? = some (.cells #[.int .u8 (m.a.toNat : Int), .int .u8 (m.b.toNat : Int), .int .u8 (m.c.toNat : Int), .int .u8 (m.d.toNat : Int), .int .u8 (m.e.toNat : Int), .int .u8 (m.f.toNat : Int)] 31 (0, 0)) ∧ Sle slE 15 W (some ⟨gE, 0, none⟩) (n) (c) (l)) (by kernel_rfl) ⟨hmb, en⟩ (fun hH => ?_)
  generalize w1.drew = w2 at bel hmb en hH ⊢
  refine wpAnyH_take (i := 0) (v := ?_) rfl (by kernel_rfl) (by kernel_rfl) (by kernel_rfl) (fun _ _ _ h => h) (Or.inl ⟨by rfl, ?_⟩) hH ?_
  rotate_left
  · ((intro W hW; clear hW; go_simp) <;> with_reducible rfl)
  simp only [Act.put, List.getElem_toArray, List.getElem_cons_zero, List.setIfInBounds_toArray, List.set_cons_zero, List.set_cons_succ]
  refine wpAnyH_take (i := 1) (v := ?_) rfl (by kernel_rfl) (by kernel_rfl) (by kernel_rfl) (fun _ _ _ h => h) (Or.inl ⟨by rfl, ?_⟩) hH ?_
  rotate_left
  · ((intro W hW; clear hW; go_simp) <;> with_reducible rfl)
  simp only [Act.put, List.getElem_toArray, List.getElem_cons_zero, List.getElem_cons_succ, List.setIfInBounds_toArray, List.set_cons_zero, List.set_cons_succ]
  rcases b1 with _ | _
  · refine wpAnyH_ready (rs := [2]) (by kernel_rfl) (by simp) ?_
    refine AllReadyH.cons (o := _) rfl (fun K hK => ?_) AllReadyH.nil
    simp only [List.getElem_toArray, List.getElem_cons_zero, List.getElem_cons_succ]
    go_simp
    with_reducible refine (live_el _ en HX.out H1.out).mono ?_
    rintro e _ ⟨rfl, rfl⟩
    dsimp only
    refine hK.out _ _ ⟨hmb, en⟩ (fun hH3 => ?_)
    clear hK K
    refine wpAnyH_take (i := 3) (v := ?_) rfl (by kernel_rfl) (by kernel_rfl) (by kernel_rfl) (fun _ _ _ h => h) (Or.inl ⟨by rfl, ?_⟩) hH3 ?_
    rotate_left
    · ((intro W hW; clear hW; go_simp) <;> with_reducible rfl)
    simp only [Act.put, List.getElem_toArray, List.getElem_cons_zero, List.getElem_cons_succ, List.setIfInBounds_toArray, List.set_cons_zero, List.set_cons_succ]
    refine wpAnyH_take (i := 4) (v := undef) rfl (by kernel_rfl) (by kernel_rfl) (by kernel_rfl) (fun _ _ _ h => h) (Or.inr ⟨by rfl, rfl⟩) hH3 ?_
    simp only [Act.put, List.getElem_toArray, List.getElem_cons_zero, List.getElem_cons_succ, List.setIfInBounds_toArray, List.set_cons_zero, List.set_cons_succ]
    refine wpAnyH_take (i := 5) (v := undef) rfl (by kernel_rfl) (by kernel_rfl) (by kernel_rfl) (fun _ _ _ h => h) (Or.inr ⟨by rfl, rfl⟩) hH3 ?_
    simp only [Act.put, List.getElem_toArray, List.getElem_cons_zero, List.getElem_cons_succ, List.setIfInBounds_toArray, List.set_cons_zero, List.set_cons_succ]
    refine wpAnyH_take (i := 6) (v := undef) rfl (by kernel_rfl) (by kernel_rfl) (by kernel_rfl) (fun _ _ _ h => h) (Or.inr ⟨by rfl, rfl⟩) hH3 ?_
    simp only [Act.put, List.getElem_toArray, List.getElem_cons_zero, List.getElem_cons_succ, List.setIfInBounds_toArray, List.set_cons_zero, List.set_cons_succ]
    refine wpAnyH_take (i := 7) (v := undef) rfl (by kernel_rfl) (by kernel_rfl) (by kernel_rfl) (fun _ _ _ h => h) (Or.inr ⟨by rfl, rfl⟩) hH3 ?_
    simp only [Act.put, List.getElem_toArray, List.getElem_cons_zero, List.getElem_cons_succ, List.setIfInBounds_toArray, List.set_cons_zero, List.set_cons_succ]
    refine wpAnyH_take (i := 8) (v := undef) rfl (by kernel_rfl) (by kernel_rfl) (by kernel_rfl) (fun _ _ _ h => h) (Or.inr ⟨by rfl, rfl⟩) hH3 ?_
    simp only [Act.put, List.getElem_toArray, List.getElem_cons_zero, List.getElem_cons_succ, List.setIfInBounds_toArray, List.set_cons_zero, List.set_cons_succ]
    refine wpAnyH_take (i := 9) (v := undef) rfl (by kernel_rfl) (by kernel_rfl) (by kernel_rfl) (fun _ _ _ h => h) (Or.inr ⟨by rfl, rfl⟩) hH3 ?_
    simp only [Act.put, List.getElem_toArray, List.getElem_cons_zero, List.getElem_cons_succ, List.setIfInBounds_toArray, List.set_cons_zero, List.set_cons_succ]
    refine wpAnyH_take (i := 10) (v := undef) rfl (by kernel_rfl) (by kernel_rfl) (by kernel_rfl) (fun _ _ _ h => h) (Or.inr ⟨by rfl, rfl⟩) hH3 ?_
    simp only [Act.put, List.getElem_toArray, List.getElem_cons_zero, List.getElem_cons_succ, List.setIfInBounds_toArray, List.set_cons_zero, List.set_cons_succ]
    refine wpAnyH_take (i := 11) (v := ?_) rfl (by kernel_rfl) (by kernel_rfl) (by kernel_rfl) (fun _ _ _ h => h) (Or.inl ⟨by rfl, ?_⟩) hH3 ?_
    rotate_left
    · ((intro W hW; clear hW; go_simp) <;> with_reducible rfl)
    simp only [Act.put, List.getElem_toArray, List.getElem_cons_zero, List.getElem_cons_succ, List.setIfInBounds_toArray, List.set_cons_zero, List.set_cons_succ]
    refine wpAnyH_take (i := 12) (v := ?_) rfl (by kernel_rfl) (by kernel_rfl) (by kernel_rfl) (fun _ _ _ h => h) (Or.inl ⟨by rfl, ?_⟩) hH3 ?_
    rotate_left
    · ((intro W hW; clear hW; go_simp) <;> with_reducible rfl)
    simp only [Act.put, List.getElem_toArray, List.getElem_cons_zero, List.getElem_cons_succ, List.setIfInBounds_toArray, List.set_cons_zero, List.set_cons_succ]
    refine wpAnyH_done (by kernel_rfl) ?_ _
    go_wp2_with fail
    go_ret
    exact ⟨by rw [← hb]; unfold Sd.heldB; rw [H1.out, Bool.false_and]; rfl, bel⟩
  refine wpAnyH_ready (rs := [2]) (by kernel_rfl) (by simp) ?_
  refine AllReadyH.cons (o := _) rfl (fun K hK => ?_) AllReadyH.nil
  simp only [List.getElem_toArray, List.getElem_cons_zero, List.getElem_cons_succ]
  go_simp
  with_reducible refine (live_el _ en HX.out H1.out).mono ?_
  rintro e _ ⟨rfl, rfl⟩
  dsimp only
  refine hK.out _ _ ⟨hmb, en⟩ (fun hH3 => ?_)
  clear hK K
  refine wpAnyH_take (i := 3) (v := ?_) rfl (by kernel_rfl) (by kernel_rfl) (by kernel_rfl) (fun _ _ _ h => h) (Or.inl ⟨by rfl, ?_⟩) hH3 ?_
  rotate_left
  · ((intro W hW; clear hW; go_simp) <;> with_reducible rfl)
  simp only [Act.put, List.getElem_toArray, List.getElem_cons_zero, List.getElem_cons_succ, List.setIfInBounds_toArray, List.set_cons_zero, List.set_cons_succ]
  refine wpAnyH_take (i := 4) (v := ?_) rfl (by kernel_rfl) (by kernel_rfl) (by kernel_rfl) (fun _ _ _ h => h) (Or.inl ⟨by rfl, ?_⟩) hH3 ?_
  rotate_left
  · ((intro W hW; clear hW; go_simp) <;> with_reducible rfl)
  simp only [Act.put, List.getElem_toArray, List.getElem_cons_zero, List.getElem_cons_succ, List.setIfInBounds_toArray, List.set_cons_zero, List.set_cons_succ]
  refine wpAnyH_take (i := 5) (v := ?_) rfl (by kernel_rfl) (by kernel_rfl) (by kernel_rfl) (fun _ _ _ h => h) (Or.inl ⟨by rfl, ?_⟩) hH3 ?_
  rotate_left
  · ((intro W hW; clear hW; go_simp) <;> with_reducible rfl)
  simp only [Act.put, List.getElem_toArray, List.getElem_cons_zero, List.getElem_cons_succ, List.setIfInBounds_toArray, List.set_cons_zero, List.set_cons_succ]
  refine wpAnyH_take (i := 6) (v := ?_) rfl (by kernel_rfl) (by kernel_rfl) (by kernel_rfl) (fun _ _ _ h => h) (Or.inl ⟨by rfl, ?_⟩) hH3 ?_
  rotate_left
  · ((intro W hW; clear hW; go_simp) <;> with_reducible rfl)
  simp only [Act.put, List.getElem_toArray, List.getElem_cons_zero, List.getElem_cons_succ, List.setIfInBounds_toArray, List.set_cons_zero, List.set_cons_succ]
  refine wpAnyH_take (i := 7) (v := ?_) rfl (by kernel_rfl) (by kernel_rfl) (by kernel_rfl) (fun _ _ _ h => h) (Or.inl ⟨by rfl, ?_⟩) hH3 ?_
  rotate_left
  · ((intro W hW; clear hW; go_simp) <;> with_reducible rfl)
  simp only [Act.put, List.getElem_toArray, List.getElem_cons_zero, List.getElem_cons_succ, List.setIfInBounds_toArray, List.set_cons_zero, List.set_cons_succ]
  refine wpAnyH_take (i := 8) (v := .agg #[.int .u8 (x.m.a.toNat : Int), .int .u8 (x.m.b.toNat : Int), .int .u8 (x.m.c.toNat : Int), .int .u8 (x.m.d.toNat : Int), .int .u8 (x.m.e.toNat : Int), .int .u8 (x.m.f.toNat : Int)]) rfl (by kernel_rfl) (by kernel_rfl) (by kernel_rfl) (fun _ _ _ h => h) (yieldsIf_load_mid (by kernel_rfl) 31 _ rfl gE (i * 15) rfl [.int .u8 (x.m.a.toNat : Int), .int .u8 (x.m.b.toNat : Int), .int .u8 (x.m.c.toNat : Int), .int .u8 (x.m.d.toNat : Int), .int .u8 (x.m.e.toNat : Int), .int .u8 (x.m.f.toNat : Int)] _ (fun W hW => Sle.zrange0 (hW.2) HX.out 6 [.int .u8 (x.m.a.toNat : Int), .int .u8 (x.m.b.toNat : Int), .int .u8 (x.m.c.toNat : Int), .int .u8 (x.m.d.toNat : Int), .int .u8 (x.m.e.toNat : Int), .int .u8 (x.m.f.toNat : Int)] rfl) Try.underlying31 rfl (by kernel_rfl)) hH3 ?_
  simp only [Act.put, List.getElem_toArray, List.getElem_cons_zero, List.getElem_cons_succ, List.setIfInBounds_toArray, List.set_cons_zero, List.set_cons_succ]
  refine wpAnyH_take (i := 9) (v := .agg #[.int .u8 (m.a.toNat : Int), .int .u8 (m.b.toNat : Int), .int .u8 (m.c.toNat : Int), .int .u8 (m.d.toNat : Int), .int .u8 (m.e.toNat : Int), .int .u8 (m.f.toNat : Int)]) rfl (by kernel_rfl) (by kernel_rfl) (by kernel_rfl) (fun _ _ _ h => h) (yieldsIf_load_part (by kernel_rfl) 31 _ rfl g4 0 6 rfl _ 31 (0, 0) (fun W hW => hW.1) _ rfl _ Try.underlying31 rfl (by kernel_rfl)) hH3 ?_
  simp only [Act.put, List.getElem_toArray, List.getElem_cons_zero, List.getElem_cons_succ, List.setIfInBounds_toArray, List.set_cons_zero, List.set_cons_succ]
  refine wpAnyH_take (i := 10) (v := ?_) rfl (by kernel_rfl) (by kernel_rfl) (by kernel_rfl) (fun _ _ _ h => h) (Or.inl ⟨by rfl, ?_⟩) hH3 ?_
  rotate_left
  · ((intro W hW; clear hW; go_simp) <;> with_reducible rfl)
  simp only [Act.put, List.getElem_toArray, List.getElem_cons_zero, List.getElem_cons_succ, List.setIfInBounds_toArray, List.set_cons_zero, List.set_cons_succ]
  refine wpAnyH_take (i := 11) (v := ?_) rfl (by kernel_rfl) (by kernel_rfl) (by kernel_rfl) (fun _ _ _ h => h) (Or.inl ⟨by rfl, ?_⟩) hH3 ?_
  rotate_left
  · ((intro W hW; clear hW; go_simp) <;> with_reducible rfl)
  simp only [Act.put, List.getElem_toArray, List.getElem_cons_zero, List.getElem_cons_succ, List.setIfInBounds_toArray, List.set_cons_zero, List.set_cons_succ]
  refine wpAnyH_take (i := 12) (v := ?_) rfl (by kernel_rfl) (by kernel_rfl) (by kernel_rfl) (fun _ _ _ h => h) (Or.inl ⟨by rfl, ?_⟩) hH3 ?_
  rotate_left
  · ((intro W hW; clear hW; go_simp) <;> with_reducible rfl)
  simp only [Act.put, List.getElem_toArray, List.getElem_cons_zero, List.getElem_cons_succ, List.setIfInBounds_toArray, List.set_cons_zero, List.set_cons_succ]
  refine wpAnyH_done (by kernel_rfl) ?_ _
  go_wp2_with fail
  go_ret
  exact ⟨by rw [← hb]; unfold Sd.heldB; rw [H1.out, H2.out, Bool.true_and]; rfl, bel⟩
set_option linter.unusedVariables false in
set_option linter.unusedSimpArgs false in
set_option maxRecDepth 100000 in
set_option maxHeartbeats 16000000 in
theorem free_el {gE n c i : Nat} {l : List Sd} {x : Sd} {now : Int} {b : Bool} (w : World) (en : Sle slE 15 w (some ⟨gE, 0, none⟩) n c l) (hx : l[i]? = some x) (hb : x.freeB now = b) : Calls Try.prog 28 #[.pointer (some ⟨gE, i * 15, none⟩), .int .i64 now] w fun e w' => e = .returned (.bool b) ∧ w = w' := by
  obtain ⟨xm, xa, xu, xf, xl, xr, xb⟩ := x
  have HX := Lib.hid hx
  clear hx
  skip
  go_enter Try.func28, Try.ntmps28
  rcases xf with _ | _
  rotate_left
  · have R8 := Sle.zcell en HX.out 11 _ rfl
    go_wp2_with fail
    clear R8
    go_ret
    exact ⟨by rw [← hb]; unfold Sd.freeB; rfl, rfl⟩
  obtain ⟨b1, H1_⟩ : ∃ b, Sd.liveB now ⟨xm, xa, xu, false, xl, xr, xb⟩ = b := ⟨_, rfl⟩
  have H1 := Lib.hid H1_
  clear H1_
  rcases b1 with _ | _
  rotate_left
  · have R8 := Sle.zcell en HX.out 11 _ rfl
    go_wp2_with fail
    clear R8
    with_reducible refine (live_el _ en HX.out H1.out).mono ?_
    rintro e _ ⟨rfl, rfl⟩
    go_wp2_with fail
    go_ret
    exact ⟨by rw [← hb]; unfold Sd.freeB; rw [H1.out]; rfl, rfl⟩
  have R8 := Sle.zcell en HX.out 11 _ rfl
  go_wp2_with fail
  clear R8
  with_reducible refine (live_el _ en HX.out H1.out).mono ?_
  rintro e _ ⟨rfl, rfl⟩
  have R21 := Sle.zcell en HX.out 14 _ rfl
  go_wp2_with fail
  clear R21
  go_ret
  exact ⟨by rw [← hb]; unfold Sd.freeB; rw [H1.out]; rfl, rfl⟩
set_option linter.unusedVariables false in
set_option linter.unusedSimpArgs false in
set_option maxRecDepth 100000 in
set_option maxHeartbeats 16000000 in
theorem rank_el {m : Mc6} {r : Int} {gE n c i : Nat} {l : List Sd} {x : Sd} (w : World) (en : Sle slE 15 w (some ⟨gE, 0, none⟩) n c l) (hx : l[i]? = some x) (hb : x.rank m = r) : Calls Try.prog 41 #[.pointer (some ⟨gE, i * 15, none⟩), .agg #[.int .u8 (m.a.toNat : Int), .int .u8 (m.b.toNat : Int), .int .u8 (m.c.toNat : Int), .int .u8 (m.d.toNat : Int), .int .u8 (m.e.toNat : Int), .int .u8 (m.f.toNat : Int)]] w fun e w' => e = .returned (.int .i64 r) ∧ Below w.heap.size w w' := by
  obtain ⟨xm, xa, xu, xf, xl, xr, xb⟩ := x
  have HX := Lib.hid hx
  clear hx
  have bel := Below.refl w.heap.size w
  go_enter Try.func41, Try.ntmps41
  rcases xl with _ | _
  · go_wp2_with (first | ((with_reducible show wpList _ _ _ (⟨some 3, _, _, _, _, _⟩ :: _) _ _); refine wpList_box_n rfl 31 (.tmp 1) rfl #[.int .u8 (m.a.toNat : Int), .int .u8 (m.b.toNat : Int), .int .u8 (m.c.toNat : Int), .int .u8 (m.d.toNat : Int), .int .u8 (m.e.toNat : Int), .int .u8 (m.f.toNat : Int)] rfl ?_; intro g3 w1 ge lt hh bb; have av_en_mb := en.av_new ge; have omb := Nat.le_trans bel.size ge; replace en := en.below bb; replace bel := bel.trans (bb.mono bel.size); have hmb := hh; clear hh lt ge bb; have R9 := Sle.zcell en HX.out 12 _ rfl))
    try clear R9
    go_ret
    exact ⟨by rw [← hb]; unfold Sd.rank; rfl, bel⟩
  obtain ⟨b2, H2_⟩ : ∃ b, xm.eqB m = b := ⟨_, rfl⟩
  have H2 := Lib.hid H2_
  clear H2_
  have q18 : ∀ W, (binOp .eql 31 (.agg #[.int .u8 (xm.a.toNat : Int), .int .u8 (xm.b.toNat : Int), .int .u8 (xm.c.toNat : Int), .int .u8 (xm.d.toNat : Int), .int .u8 (xm.e.toNat : Int), .int .u8 (xm.f.toNat : Int)]) (.agg #[.int .u8 (m.a.toNat : Int), .int .u8 (m.b.toNat : Int), .int .u8 (m.c.toNat : Int), .int .u8 (m.d.toNat : Int), .int .u8 (m.e.toNat : Int), .int .u8 (m.f.toNat : Int)])).run Try.prog W = .ok (.bool b2) W := fun W => by have h_ := eqm_b xm m W; rw [H2.out] at h_; exact h_
  rcases b2 with _ | _
  rotate_left
  · go_wp2_with (first | ((with_reducible show wpList _ _ _ (⟨some 3, _, _, _, _, _⟩ :: _) _ _); refine wpList_box_n rfl 31 (.tmp 1) rfl #[.int .u8 (m.a.toNat : Int), .int .u8 (m.b.toNat : Int), .int .u8 (m.c.toNat : Int), .int .u8 (m.d.toNat : Int), .int .u8 (m.e.toNat : Int), .int .u8 (m.f.toNat : Int)] rfl ?_; intro g3 w1 ge lt hh bb; have av_en_mb := en.av_new ge; have omb := Nat.le_trans bel.size ge; replace en := en.below bb; replace bel := bel.trans (bb.mono bel.size); have hmb := hh; clear hh lt ge bb; have R9 := Sle.zcell en HX.out 12 _ rfl))
    try clear R9
    replace bel := bel.drew
    replace hmb : w1.drew.heap[g3]? = _ := hmb
    replace en := en.drew
    refine wp_region_held_drew (S := fun W => W.heap[g3]? = some (.cells #[.int .u8 (m.a.toNat : Int), .int .u8 (m.b.toNat : Int), .int .u8 (m.c.toNat : Int), .int .u8 (m.d.toNat : Int), .int .u8 (m.e.toNat : Int), .int .u8 (m.f.toNat : Int)] 31 (0, 0)) ∧ Sle slE 15 W (some ⟨gE, 0, none⟩) (n) (c) (l)) (by kernel_rfl) ⟨hmb, en⟩ (fun hH => ?_)
    generalize w1.drew = w2 at bel hmb en hH ⊢
    refine wpAnyH_take (i := 0) (v := ?_) rfl (by kernel_rfl) (by kernel_rfl) (by kernel_rfl) (fun _ _ _ h => h) (Or.inl ⟨by rfl, ?_⟩) hH ?_
    rotate_left
    · ((intro W hW; clear hW; go_simp) <;> with_reducible rfl)
    simp only [Act.put, List.getElem_toArray, List.getElem_cons_zero, List.setIfInBounds_toArray, List.set_cons_zero, List.set_cons_succ]
    refine wpAnyH_take (i := 1) (v := ?_) rfl (by kernel_rfl) (by kernel_rfl) (by kernel_rfl) (fun _ _ _ h => h) (Or.inl ⟨by rfl, ?_⟩) hH ?_
    rotate_left
    · ((intro W hW; clear hW; go_simp) <;> with_reducible rfl)
    simp only [Act.put, List.getElem_toArray, List.getElem_cons_zero, List.getElem_cons_succ, List.setIfInBounds_toArray, List.set_cons_zero, List.set_cons_succ]
    refine wpAnyH_take (i := 2) (v := ?_) rfl (by kernel_rfl) (by kernel_rfl) (by kernel_rfl) (fun _ _ _ h => h) (Or.inl ⟨by rfl, ?_⟩) hH ?_
    rotate_left
    · ((intro W hW; clear hW; go_simp) <;> with_reducible rfl)
    simp only [Act.put, List.getElem_toArray, List.getElem_cons_zero, List.getElem_cons_succ, List.setIfInBounds_toArray, List.set_cons_zero, List.set_cons_succ]
    refine wpAnyH_take (i := 3) (v := ?_) rfl (by kernel_rfl) (by kernel_rfl) (by kernel_rfl) (fun _ _ _ h => h) (Or.inl ⟨by rfl, ?_⟩) hH ?_
    rotate_left
    · ((intro W hW; clear hW; go_simp) <;> with_reducible rfl)
    simp only [Act.put, List.getElem_toArray, List.getElem_cons_zero, List.getElem_cons_succ, List.setIfInBounds_toArray, List.set_cons_zero, List.set_cons_succ]
    refine wpAnyH_take (i := 4) (v := .agg #[.int .u8 (xm.a.toNat : Int), .int .u8 (xm.b.toNat : Int), .int .u8 (xm.c.toNat : Int), .int .u8 (xm.d.toNat : Int), .int .u8 (xm.e.toNat : Int), .int .u8 (xm.f.toNat : Int)]) rfl (by kernel_rfl) (by kernel_rfl) (by kernel_rfl) (fun _ _ _ h => h) (yieldsIf_load_mid (by kernel_rfl) 31 _ rfl gE (i * 15) rfl [.int .u8 (xm.a.toNat : Int), .int .u8 (xm.b.toNat : Int), .int .u8 (xm.c.toNat : Int), .int .u8 (xm.d.toNat : Int), .int .u8 (xm.e.toNat : Int), .int .u8 (xm.f.toNat : Int)] _ (fun W hW => Sle.zrange0 (hW.2) HX.out 6 [.int .u8 (xm.a.toNat : Int), .int .u8 (xm.b.toNat : Int), .int .u8 (xm.c.toNat : Int), .int .u8 (xm.d.toNat : Int), .int .u8 (xm.e.toNat : Int), .int .u8 (xm.f.toNat : Int)] rfl) Try.underlying31 rfl (by kernel_rfl)) hH ?_
    simp only [Act.put, List.getElem_toArray, List.getElem_cons_zero, List.getElem_cons_succ, List.setIfInBounds_toArray, List.set_cons_zero, List.set_cons_succ]
    refine wpAnyH_take (i := 5) (v := .agg #[.int .u8 (m.a.toNat : Int), .int .u8 (m.b.toNat : Int), .int .u8 (m.c.toNat : Int), .int .u8 (m.d.toNat : Int), .int .u8 (m.e.toNat : Int), .int .u8 (m.f.toNat : Int)]) rfl (by kernel_rfl) (by kernel_rfl) (by kernel_rfl) (fun _ _ _ h => h) (yieldsIf_load_part (by kernel_rfl) 31 _ rfl g3 0 6 rfl _ 31 (0, 0) (fun W hW => hW.1) _ rfl _ Try.underlying31 rfl (by kernel_rfl)) hH ?_
    simp only [Act.put, List.getElem_toArray, List.getElem_cons_zero, List.getElem_cons_succ, List.setIfInBounds_toArray, List.set_cons_zero, List.set_cons_succ]
    refine wpAnyH_take (i := 6) (v := ?_) rfl (by kernel_rfl) (by kernel_rfl) (by kernel_rfl) (fun _ _ _ h => h) (Or.inl ⟨by rfl, ?_⟩) hH ?_
    rotate_left
    · ((intro W hW; clear hW; go_simp) <;> with_reducible rfl)
    simp only [Act.put, List.getElem_toArray, List.getElem_cons_zero, List.getElem_cons_succ, List.setIfInBounds_toArray, List.set_cons_zero, List.set_cons_succ]
    refine wpAnyH_take (i := 7) (v := ?_) rfl (by kernel_rfl) (by kernel_rfl) (by kernel_rfl) (fun _ _ _ h => h) (Or.inl ⟨by rfl, ?_⟩) hH ?_
    rotate_left
    · ((intro W hW; clear hW; go_simp) <;> with_reducible rfl)
    simp only [Act.put, List.getElem_toArray, List.getElem_cons_zero, List.getElem_cons_succ, List.setIfInBounds_toArray, List.set_cons_zero, List.set_cons_succ]
    refine wpAnyH_done (by kernel_rfl) ?_ _
    go_wp2_with fail
    go_ret
    exact ⟨by rw [← hb]; unfold Sd.rank; simp only [if_true, H2.out]; rfl, bel⟩
  go_wp2_with (first | ((with_reducible show wpList _ _ _ (⟨some 3, _, _, _, _, _⟩ :: _) _ _); refine wpList_box_n rfl 31 (.tmp 1) rfl #[.int .u8 (m.a.toNat : Int), .int .u8 (m.b.toNat : Int), .int .u8 (m.c.toNat : Int), .int .u8 (m.d.toNat : Int), .int .u8 (m.e.toNat : Int), .int .u8 (m.f.toNat : Int)] rfl ?_; intro g3 w1 ge lt hh bb; have av_en_mb := en.av_new ge; have omb := Nat.le_trans bel.size ge; replace en := en.below bb; replace bel := bel.trans (bb.mono bel.size); have hmb := hh; clear hh lt ge bb; have R9 := Sle.zcell en HX.out 12 _ rfl))
  try clear R9
  replace bel := bel.drew
  replace hmb : w1.drew.heap[g3]? = _ := hmb
  replace en := en.drew
  refine wp_region_held_drew (S := fun W => W.heap[g3]? = some (.cells #[.int .u8 (m.a.toNat : Int), .int .u8 (m.b.toNat : Int), .int .u8 (m.c.toNat : Int), .int .u8 (m.d.toNat : Int), .int .u8 (m.e.toNat : Int), .int .u8 (m.f.toNat : Int)] 31 (0, 0)) ∧ Sle slE 15 W (some ⟨gE, 0, none⟩) (n) (c) (l)) (by kernel_rfl) ⟨hmb, en⟩ (fun hH => ?_)
  generalize w1.drew = w2 at bel hmb en hH ⊢
  refine wpAnyH_take (i := 0) (v := ?_) rfl (by kernel_rfl) (by kernel_rfl) (by kernel_rfl) (fun _ _ _ h => h) (Or.inl ⟨by rfl, ?_⟩) hH ?_
  rotate_left
  · ((intro W hW; clear hW; go_simp) <;> with_reducible rfl)
  simp only [Act.put, List.getElem_toArray, List.getElem_cons_zero, List.setIfInBounds_toArray, List.set_cons_zero, List.set_cons_succ]
  refine wpAnyH_take (i := 1) (v := ?_) rfl (by kernel_rfl) (by kernel_rfl) (by kernel_rfl) (fun _ _ _ h => h) (Or.inl ⟨by rfl, ?_⟩) hH ?_
  rotate_left
  · ((intro W hW; clear hW; go_simp) <;> with_reducible rfl)
  simp only [Act.put, List.getElem_toArray, List.getElem_cons_zero, List.getElem_cons_succ, List.setIfInBounds_toArray, List.set_cons_zero, List.set_cons_succ]
  refine wpAnyH_take (i := 2) (v := ?_) rfl (by kernel_rfl) (by kernel_rfl) (by kernel_rfl) (fun _ _ _ h => h) (Or.inl ⟨by rfl, ?_⟩) hH ?_
  rotate_left
  · ((intro W hW; clear hW; go_simp) <;> with_reducible rfl)
  simp only [Act.put, List.getElem_toArray, List.getElem_cons_zero, List.getElem_cons_succ, List.setIfInBounds_toArray, List.set_cons_zero, List.set_cons_succ]
  refine wpAnyH_take (i := 3) (v := ?_) rfl (by kernel_rfl) (by kernel_rfl) (by kernel_rfl) (fun _ _ _ h => h) (Or.inl ⟨by rfl, ?_⟩) hH ?_
  rotate_left
  · ((intro W hW; clear hW; go_simp) <;> with_reducible rfl)
  simp only [Act.put, List.getElem_toArray, List.getElem_cons_zero, List.getElem_cons_succ, List.setIfInBounds_toArray, List.set_cons_zero, List.set_cons_succ]
  refine wpAnyH_take (i := 4) (v := .agg #[.int .u8 (xm.a.toNat : Int), .int .u8 (xm.b.toNat : Int), .int .u8 (xm.c.toNat : Int), .int .u8 (xm.d.toNat : Int), .int .u8 (xm.e.toNat : Int), .int .u8 (xm.f.toNat : Int)]) rfl (by kernel_rfl) (by kernel_rfl) (by kernel_rfl) (fun _ _ _ h => h) (yieldsIf_load_mid (by kernel_rfl) 31 _ rfl gE (i * 15) rfl [.int .u8 (xm.a.toNat : Int), .int .u8 (xm.b.toNat : Int), .int .u8 (xm.c.toNat : Int), .int .u8 (xm.d.toNat : Int), .int .u8 (xm.e.toNat : Int), .int .u8 (xm.f.toNat : Int)] _ (fun W hW => Sle.zrange0 (hW.2) HX.out 6 [.int .u8 (xm.a.toNat : Int), .int .u8 (xm.b.toNat : Int), .int .u8 (xm.c.toNat : Int), .int .u8 (xm.d.toNat : Int), .int .u8 (xm.e.toNat : Int), .int .u8 (xm.f.toNat : Int)] rfl) Try.underlying31 rfl (by kernel_rfl)) hH ?_
  simp only [Act.put, List.getElem_toArray, List.getElem_cons_zero, List.getElem_cons_succ, List.setIfInBounds_toArray, List.set_cons_zero, List.set_cons_succ]
  refine wpAnyH_take (i := 5) (v := .agg #[.int .u8 (m.a.toNat : Int), .int .u8 (m.b.toNat : Int), .int .u8 (m.c.toNat : Int), .int .u8 (m.d.toNat : Int), .int .u8 (m.e.toNat : Int), .int .u8 (m.f.toNat : Int)]) rfl (by kernel_rfl) (by kernel_rfl) (by kernel_rfl) (fun _ _ _ h => h) (yieldsIf_load_part (by kernel_rfl) 31 _ rfl g3 0 6 rfl _ 31 (0, 0) (fun W hW => hW.1) _ rfl _ Try.underlying31 rfl (by kernel_rfl)) hH ?_
  simp only [Act.put, List.getElem_toArray, List.getElem_cons_zero, List.getElem_cons_succ, List.setIfInBounds_toArray, List.set_cons_zero, List.set_cons_succ]
  refine wpAnyH_take (i := 6) (v := ?_) rfl (by kernel_rfl) (by kernel_rfl) (by kernel_rfl) (fun _ _ _ h => h) (Or.inl ⟨by rfl, ?_⟩) hH ?_
  rotate_left
  · ((intro W hW; clear hW; go_simp) <;> with_reducible rfl)
  simp only [Act.put, List.getElem_toArray, List.getElem_cons_zero, List.getElem_cons_succ, List.setIfInBounds_toArray, List.set_cons_zero, List.set_cons_succ]
  refine wpAnyH_take (i := 7) (v := ?_) rfl (by kernel_rfl) (by kernel_rfl) (by kernel_rfl) (fun _ _ _ h => h) (Or.inl ⟨by rfl, ?_⟩) hH ?_
  rotate_left
  · ((intro W hW; clear hW; go_simp) <;> with_reducible rfl)
  simp only [Act.put, List.getElem_toArray, List.getElem_cons_zero, List.getElem_cons_succ, List.setIfInBounds_toArray, List.set_cons_zero, List.set_cons_succ]
  refine wpAnyH_done (by kernel_rfl) ?_ _
  have R23 := Sle.zcell en HX.out 10 _ rfl
  go_wp2_with fail
  clear R23
  go_ret
  exact ⟨by rw [← hb]; unfold Sd.rank; simp only [if_true, H2.out, Bool.false_eq_true, if_false]; rfl, bel⟩
set_option linter.unusedVariables false in
set_option linter.unusedSimpArgs false in
set_option maxRecDepth 100000 in
set_option maxHeartbeats 16000000 in
theorem perm_any {secs : Int} {b : Bool} (w : World) (hb : permB secs = b) : Calls Try.prog 30 #[.int .i64 secs] w fun e w' => e = .returned (.bool b) ∧ w = w' := by
  skip
  go_enter Try.func30, Try.ntmps30
  by_cases h1 : 1 ≤ secs
  · go_wp2_with fail
    go_ret
    exact ⟨by rw [← hb]; unfold permB; rw [decide_eq_true h1, Bool.true_and]; rfl, rfl⟩
  have h1d : decide (1 ≤ secs) = false := decide_eq_false h1
  go_wp2_with fail
  go_ret
  exact ⟨by rw [← hb]; unfold permB; rw [h1d, Bool.false_and]; rfl, rfl⟩
set_option linter.unusedVariables false in
set_option linter.unusedSimpArgs false in
set_option maxRecDepth 100000 in
set_option maxHeartbeats 16000000 in
theorem padv_yes {gt lo mb : Nat} {now : Int} {A : Option Addr} {n c : Nat} (t : Int) (w : World) (htb : w.heap[gt]? = some (.cells #[.int .i64 now, .map (some mb), .slice A n c] 58 (0, 0))) (otb : lo ≤ gt) (hlo : lo ≤ w.heap.size) (h1 : now < t) (h2 : t ≤ 1099511627776) : Calls Try.prog 25 #[.pointer (some ⟨gt, 0, none⟩), .int .i64 t] w fun e w' => e = .returned (.tuple #[]) ∧ w'.heap[gt]? = some (.cells #[.int .i64 (padv now t), .map (some mb), .slice A n c] 58 (0, 0)) ∧ w.grownBy w' (some gt) := by
  have HA : Hid (padv now t = t) := Lib.hid (by unfold padv; rw [if_pos ⟨h1, h2⟩])
  have gk := World.grownBy.refl w (some gt)
  have bel := Below.refl lo w
  go_enter Try.func25, Try.ntmps25
  have R8 := cell_lit htb 0 _ rfl
  go_wp2_with (first | ((with_reducible show wpList _ _ _ (⟨none, Op.store _ (.tmp 17) _, _, _, _, _⟩ :: _) _ _); refine wpList_store_part rfl 2 (.tmp 17) (.tmp 15) rfl gt 0 rfl [.int .i64 t] rfl [.int .i64 now, .map (some mb), .slice A n c] 58 htb (by simp) [.int .i64 t, .map (some mb), .slice A n c] rfl (by kernel_rfl) (by rfl) ?_; intro w1 hq gr; replace gk := gk.trans gr; replace bel := below_grown bel gr otb (Nat.le_trans hlo bel.size); clear htb; have htb := hq; clear hq gr))
  try clear R8
  exact bodyPost_end (results_none rfl _ _ _) rfl ⟨rfl, by rw [HA.out]; exact htb, gk⟩
set_option linter.unusedVariables false in
set_option linter.unusedSimpArgs false in
set_option maxRecDepth 100000 in
set_option maxHeartbeats 16000000 in
theorem padv_no1 {gt lo mb : Nat} {now : Int} {A : Option Addr} {n c : Nat} (t : Int) (w : World) (htb : w.heap[gt]? = some (.cells #[.int .i64 now, .map (some mb), .slice A n c] 58 (0, 0))) (otb : lo ≤ gt) (hlo : lo ≤ w.heap.size) (h1 : ¬ now < t) : Calls Try.prog 25 #[.pointer (some ⟨gt, 0, none⟩), .int .i64 t] w fun e w' => e = .returned (.tuple #[]) ∧ w'.heap[gt]? = some (.cells #[.int .i64 (padv now t), .map (some mb), .slice A n c] 58 (0, 0)) ∧ w.grownBy w' (some gt) := by
  have HA : Hid (padv now t = now) := Lib.hid (by unfold padv; rw [if_neg (by omega)])
  replace h1 : decide (now < t) = false := by simpa using h1
  have gk := World.grownBy.refl w (some gt)
  have bel := Below.refl lo w
  go_enter Try.func25, Try.ntmps25
  have R8 := cell_lit htb 0 _ rfl
  go_wp2_with fail
  clear R8
  exact bodyPost_end (results_none rfl _ _ _) rfl ⟨rfl, by rw [HA.out]; exact htb, gk⟩
set_option linter.unusedVariables false in
set_option linter.unusedSimpArgs false in
set_option maxRecDepth 100000 in
set_option maxHeartbeats 16000000 in
theorem padv_no2 {gt lo mb : Nat} {now : Int} {A : Option Addr} {n c : Nat} (t : Int) (w : World) (htb : w.heap[gt]? = some (.cells #[.int .i64 now, .map (some mb), .slice A n c] 58 (0, 0))) (otb : lo ≤ gt) (hlo : lo ≤ w.heap.size) (h1 : now < t) (h2 : ¬ t ≤ 1099511627776) : Calls Try.prog 25 #[.pointer (some ⟨gt, 0, none⟩), .int .i64 t] w fun e w' => e = .returned (.tuple #[]) ∧ w'.heap[gt]? = some (.cells #[.int .i64 (padv now t), .map (some mb), .slice A n c] 58 (0, 0)) ∧ w.grownBy w' (some gt) := by
  have HA : Hid (padv now t = now) := Lib.hid (by unfold padv; rw [if_neg (by omega)])
  replace h2 : decide (t ≤ 1099511627776) = false := by simpa using h2
  have gk := World.grownBy.refl w (some gt)
  have bel := Below.refl lo w
  go_enter Try.func25, Try.ntmps25
  have R8 := cell_lit htb 0 _ rfl
  go_wp2_with fail
  clear R8
  exact bodyPost_end (results_none rfl _ _ _) rfl ⟨rfl, by rw [HA.out]; exact htb, gk⟩
theorem padv_any {gt mb : Nat} {now : Int} {A : Option Addr} {n c : Nat} (t : Int) (w : World) (htb : w.heap[gt]? = some (.cells #[.int .i64 now, .map (some mb), .slice A n c] 58 (0, 0))) : Calls Try.prog 25 #[.pointer (some ⟨gt, 0, none⟩), .int .i64 t] w fun e w' => e = .returned (.tuple #[]) ∧ w'.heap[gt]? = some (.cells #[.int .i64 (padv now t), .map (some mb), .slice A n c] 58 (0, 0)) ∧ w.grownBy w' (some gt) := by
  by_cases h1 : now < t
  · by_cases h2 : t ≤ 1099511627776
    · exact padv_yes t w htb (Nat.zero_le _) (Nat.zero_le _) h1 h2
    · exact padv_no2 t w htb (Nat.zero_le _) (Nat.zero_le _) h1 h2
  · exact padv_no1 t w htb (Nat.zero_le _) (Nat.zero_le _) h1
end Go.Proofs.Ythcjepafcemmnaa
