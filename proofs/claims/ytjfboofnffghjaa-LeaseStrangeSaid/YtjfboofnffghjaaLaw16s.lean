/- LeaseStrange. -/
import Derived.Test.YtjfboofnffghjaaLaw16
import Derived.Stop.BytesEq
namespace Go.Proofs.Ytjfboofnffghjaa
open Go.RowKit

theorem mac_b {h : Mh} {b : Bool} (hb : ([h.m0, h.m1, h.m2, h.m3, h.m4, h.m5] == [2, 0, 0, 0, 0, 2]) = b) (W : World) : (binOp .eql 26 (.agg #[.int .u8 (h.m0.toNat : Int), .int .u8 (h.m1.toNat : Int), .int .u8 (h.m2.toNat : Int), .int .u8 (h.m3.toNat : Int), .int .u8 (h.m4.toNat : Int), .int .u8 (h.m5.toNat : Int)]) (.agg #[.int .u8 2, .int .u8 0, .int .u8 0, .int .u8 0, .int .u8 0, .int .u8 2])).run Try.prog W = .ok (.bool b) W := by
  have h_ := run_eql_bytes (P := Try.prog) W 26 5 6 (by kernel_rfl) (by kernel_rfl) (fun w => by kernel_rfl) [h.m0, h.m1, h.m2, h.m3, h.m4, h.m5] [2, 0, 0, 0, 0, 2] rfl rfl
  rw [hb] at h_
  exact h_
theorem lgreat_b {h : Mh} {A : Option Addr} {n c : Nat} {hs : List Oh} {b : Bool} (w : World) (en : Sle opE 2 w A n c hs) (hb : greatB n hs = b) : Calls Try.prog 18 #[.agg #[.int .i64 h.op, .int .i64 h.hops, .int .u32 h.xid, .int .i64 h.secs, .int .i64 h.flags, .int .u8 (h.c0.toNat : Int), .int .u8 (h.c1.toNat : Int), .int .u8 (h.c2.toNat : Int), .int .u8 (h.c3.toNat : Int), .int .u8 (h.y0.toNat : Int), .int .u8 (h.y1.toNat : Int), .int .u8 (h.y2.toNat : Int), .int .u8 (h.y3.toNat : Int), .int .u8 (h.s0.toNat : Int), .int .u8 (h.s1.toNat : Int), .int .u8 (h.s2.toNat : Int), .int .u8 (h.s3.toNat : Int), .int .u8 (h.r0.toNat : Int), .int .u8 (h.r1.toNat : Int), .int .u8 (h.r2.toNat : Int), .int .u8 (h.r3.toNat : Int), .int .u8 (h.m0.toNat : Int), .int .u8 (h.m1.toNat : Int), .int .u8 (h.m2.toNat : Int), .int .u8 (h.m3.toNat : Int), .int .u8 (h.m4.toNat : Int), .int .u8 (h.m5.toNat : Int), .slice A n c]] w fun e w' => e = .returned (.bool b) ∧ Below w.heap.size w w' := by
  subst hb
  exact great16_any w en
set_option linter.unusedVariables false in
set_option linter.unusedSimpArgs false in
set_option maxRecDepth 100000 in
set_option maxHeartbeats 16000000 in
theorem leaseStrange_h (h : Mh) {A : Option Addr} {n c : Nat} {hs : List Oh} (draw : Int) (w : World) (en : Sle opE 2 w A n c hs) : Calls Try.prog 5 #[.agg #[.int .i64 h.op, .int .i64 h.hops, .int .u32 h.xid, .int .i64 h.secs, .int .i64 h.flags, .int .u8 (h.c0.toNat : Int), .int .u8 (h.c1.toNat : Int), .int .u8 (h.c2.toNat : Int), .int .u8 (h.c3.toNat : Int), .int .u8 (h.y0.toNat : Int), .int .u8 (h.y1.toNat : Int), .int .u8 (h.y2.toNat : Int), .int .u8 (h.y3.toNat : Int), .int .u8 (h.s0.toNat : Int), .int .u8 (h.s1.toNat : Int), .int .u8 (h.s2.toNat : Int), .int .u8 (h.s3.toNat : Int), .int .u8 (h.r0.toNat : Int), .int .u8 (h.r1.toNat : Int), .int .u8 (h.r2.toNat : Int), .int .u8 (h.r3.toNat : Int), .int .u8 (h.m0.toNat : Int), .int .u8 (h.m1.toNat : Int), .int .u8 (h.m2.toNat : Int), .int .u8 (h.m3.toNat : Int), .int .u8 (h.m4.toNat : Int), .int .u8 (h.m5.toNat : Int), .slice A n c], .int .u32 draw] w fun e w' => e = .returned (.bool true) ∧ Below w.heap.size w w' := by
  have bel := Below.refl w.heap.size w
  go_enter Try.func5, Try.ntmps5
  go_wp2_with (first | ((with_reducible show wpList _ _ _ (⟨some 2, _, _, _, _, _⟩ :: _) _ _); refine wpList_box_n rfl 37 (.tmp 0) rfl #[.int .i64 h.op, .int .i64 h.hops, .int .u32 h.xid, .int .i64 h.secs, .int .i64 h.flags, .int .u8 (h.c0.toNat : Int), .int .u8 (h.c1.toNat : Int), .int .u8 (h.c2.toNat : Int), .int .u8 (h.c3.toNat : Int), .int .u8 (h.y0.toNat : Int), .int .u8 (h.y1.toNat : Int), .int .u8 (h.y2.toNat : Int), .int .u8 (h.y3.toNat : Int), .int .u8 (h.s0.toNat : Int), .int .u8 (h.s1.toNat : Int), .int .u8 (h.s2.toNat : Int), .int .u8 (h.s3.toNat : Int), .int .u8 (h.r0.toNat : Int), .int .u8 (h.r1.toNat : Int), .int .u8 (h.r2.toNat : Int), .int .u8 (h.r3.toNat : Int), .int .u8 (h.m0.toNat : Int), .int .u8 (h.m1.toNat : Int), .int .u8 (h.m2.toNat : Int), .int .u8 (h.m3.toNat : Int), .int .u8 (h.m4.toNat : Int), .int .u8 (h.m5.toNat : Int), .slice A n c] rfl ?_; intro g2 w1 ge lt hh bb; have av_en_mb := en.av_new ge; have omb := Nat.le_trans bel.size ge; replace en := en.below bb; replace bel := bel.trans (bb.mono bel.size); have hmb := hh; clear hh lt ge bb))
  with_reducible refine (lawake _).mono ?_
  rintro e w2 ⟨rfl, b2⟩
  replace hmb := blk_u hmb b2
  replace en := en.below b2
  replace bel := bel.trans (b2.mono bel.size)
  clear b2
  rcases HGB : greatB n hs with _ | _
  rotate_left
  · have HG := Lib.hid HGB
    clear HGB
    go_wp2_with fail
    replace bel := bel.drew
    replace hmb : w2.drew.heap[g2]? = _ := hmb
    replace en := en.drew
    refine wp_region_held_drew (S := fun W => W.heap[g2]? = some (.cells #[.int .i64 h.op, .int .i64 h.hops, .int .u32 h.xid, .int .i64 h.secs, .int .i64 h.flags, .int .u8 (h.c0.toNat : Int), .int .u8 (h.c1.toNat : Int), .int .u8 (h.c2.toNat : Int), .int .u8 (h.c3.toNat : Int), .int .u8 (h.y0.toNat : Int), .int .u8 (h.y1.toNat : Int), .int .u8 (h.y2.toNat : Int), .int .u8 (h.y3.toNat : Int), .int .u8 (h.s0.toNat : Int), .int .u8 (h.s1.toNat : Int), .int .u8 (h.s2.toNat : Int), .int .u8 (h.s3.toNat : Int), .int .u8 (h.r0.toNat : Int), .int .u8 (h.r1.toNat : Int), .int .u8 (h.r2.toNat : Int), .int .u8 (h.r3.toNat : Int), .int .u8 (h.m0.toNat : Int), .int .u8 (h.m1.toNat : Int), .int .u8 (h.m2.toNat : Int), .int .u8 (h.m3.toNat : Int), .int .u8 (h.m4.toNat : Int), .int .u8 (h.m5.toNat : Int), .slice A n c] 37 (0, 0))) (by kernel_rfl) hmb (fun hH => ?_)
    generalize w2.drew = w3 at bel hmb en hH ⊢
    refine wpAnyH_take (i := 0) (v := .agg #[.int .i64 h.op, .int .i64 h.hops, .int .u32 h.xid, .int .i64 h.secs, .int .i64 h.flags, .int .u8 (h.c0.toNat : Int), .int .u8 (h.c1.toNat : Int), .int .u8 (h.c2.toNat : Int), .int .u8 (h.c3.toNat : Int), .int .u8 (h.y0.toNat : Int), .int .u8 (h.y1.toNat : Int), .int .u8 (h.y2.toNat : Int), .int .u8 (h.y3.toNat : Int), .int .u8 (h.s0.toNat : Int), .int .u8 (h.s1.toNat : Int), .int .u8 (h.s2.toNat : Int), .int .u8 (h.s3.toNat : Int), .int .u8 (h.r0.toNat : Int), .int .u8 (h.r1.toNat : Int), .int .u8 (h.r2.toNat : Int), .int .u8 (h.r3.toNat : Int), .int .u8 (h.m0.toNat : Int), .int .u8 (h.m1.toNat : Int), .int .u8 (h.m2.toNat : Int), .int .u8 (h.m3.toNat : Int), .int .u8 (h.m4.toNat : Int), .int .u8 (h.m5.toNat : Int), .slice A n c]) rfl (by kernel_rfl) (by kernel_rfl) (by kernel_rfl) (fun _ _ _ h => h) (yieldsIf_load_part (by kernel_rfl) 37 _ rfl g2 0 28 rfl _ 37 (0, 0) (fun W hW => hW) _ rfl _ Try.underlying37 rfl (by kernel_rfl)) hH ?_
    simp only [Act.put, List.getElem_toArray, List.getElem_cons_zero, List.setIfInBounds_toArray, List.set_cons_zero, List.set_cons_succ]
    refine wpAnyH_ready (rs := [1]) (by kernel_rfl) (by simp) ?_
    refine AllReadyH.cons (o := _) rfl (fun K hK => ?_) AllReadyH.nil
    simp only [List.getElem_toArray, List.getElem_cons_zero, List.getElem_cons_succ]
    go_simp
    with_reducible refine (lgreat_b (h := h) _ en HG.out).mono ?_
    rintro e w4 ⟨rfl, b4⟩
    dsimp only
    replace hmb := blk_u hmb b4
    replace en := en.below b4
    replace bel := bel.trans (b4.mono bel.size)
    clear b4
    refine hK.out _ _ hmb (fun hH5 => ?_)
    clear hK K
    refine wpAnyH_take (i := 2) (v := ?_) rfl (by kernel_rfl) (by kernel_rfl) (by kernel_rfl) (fun _ _ _ h => h) (Or.inl ⟨by rfl, ?_⟩) hH5 ?_
    rotate_left
    · ((intro W hW; clear hW; go_simp) <;> with_reducible rfl)
    simp only [Act.put, List.getElem_toArray, List.getElem_cons_zero, List.getElem_cons_succ, List.setIfInBounds_toArray, List.set_cons_zero, List.set_cons_succ]
    refine wpAnyH_take (i := 3) (v := undef) rfl (by kernel_rfl) (by kernel_rfl) (by kernel_rfl) (fun _ _ _ h => h) (Or.inr ⟨by rfl, rfl⟩) hH5 ?_
    simp only [Act.put, List.getElem_toArray, List.getElem_cons_zero, List.getElem_cons_succ, List.setIfInBounds_toArray, List.set_cons_zero, List.set_cons_succ]
    refine wpAnyH_take (i := 4) (v := undef) rfl (by kernel_rfl) (by kernel_rfl) (by kernel_rfl) (fun _ _ _ h => h) (Or.inr ⟨by rfl, rfl⟩) hH5 ?_
    simp only [Act.put, List.getElem_toArray, List.getElem_cons_zero, List.getElem_cons_succ, List.setIfInBounds_toArray, List.set_cons_zero, List.set_cons_succ]
    refine wpAnyH_take (i := 5) (v := undef) rfl (by kernel_rfl) (by kernel_rfl) (by kernel_rfl) (fun _ _ _ h => h) (Or.inr ⟨by rfl, rfl⟩) hH5 ?_
    simp only [Act.put, List.getElem_toArray, List.getElem_cons_zero, List.getElem_cons_succ, List.setIfInBounds_toArray, List.set_cons_zero, List.set_cons_succ]
    refine wpAnyH_take (i := 6) (v := undef) rfl (by kernel_rfl) (by kernel_rfl) (by kernel_rfl) (fun _ _ _ h => h) (Or.inr ⟨by rfl, rfl⟩) hH5 ?_
    simp only [Act.put, List.getElem_toArray, List.getElem_cons_zero, List.getElem_cons_succ, List.setIfInBounds_toArray, List.set_cons_zero, List.set_cons_succ]
    refine wpAnyH_take (i := 7) (v := undef) rfl (by kernel_rfl) (by kernel_rfl) (by kernel_rfl) (fun _ _ _ h => h) (Or.inr ⟨by rfl, rfl⟩) hH5 ?_
    simp only [Act.put, List.getElem_toArray, List.getElem_cons_zero, List.getElem_cons_succ, List.setIfInBounds_toArray, List.set_cons_zero, List.set_cons_succ]
    refine wpAnyH_take (i := 8) (v := undef) rfl (by kernel_rfl) (by kernel_rfl) (by kernel_rfl) (fun _ _ _ h => h) (Or.inr ⟨by rfl, rfl⟩) hH5 ?_
    simp only [Act.put, List.getElem_toArray, List.getElem_cons_zero, List.getElem_cons_succ, List.setIfInBounds_toArray, List.set_cons_zero, List.set_cons_succ]
    refine wpAnyH_take (i := 9) (v := undef) rfl (by kernel_rfl) (by kernel_rfl) (by kernel_rfl) (fun _ _ _ h => h) (Or.inr ⟨by rfl, rfl⟩) hH5 ?_
    simp only [Act.put, List.getElem_toArray, List.getElem_cons_zero, List.getElem_cons_succ, List.setIfInBounds_toArray, List.set_cons_zero, List.set_cons_succ]
    refine wpAnyH_take (i := 10) (v := undef) rfl (by kernel_rfl) (by kernel_rfl) (by kernel_rfl) (fun _ _ _ h => h) (Or.inr ⟨by rfl, rfl⟩) hH5 ?_
    simp only [Act.put, List.getElem_toArray, List.getElem_cons_zero, List.getElem_cons_succ, List.setIfInBounds_toArray, List.set_cons_zero, List.set_cons_succ]
    refine wpAnyH_take (i := 11) (v := undef) rfl (by kernel_rfl) (by kernel_rfl) (by kernel_rfl) (fun _ _ _ h => h) (Or.inr ⟨by rfl, rfl⟩) hH5 ?_
    simp only [Act.put, List.getElem_toArray, List.getElem_cons_zero, List.getElem_cons_succ, List.setIfInBounds_toArray, List.set_cons_zero, List.set_cons_succ]
    refine wpAnyH_take (i := 12) (v := undef) rfl (by kernel_rfl) (by kernel_rfl) (by kernel_rfl) (fun _ _ _ h => h) (Or.inr ⟨by rfl, rfl⟩) hH5 ?_
    simp only [Act.put, List.getElem_toArray, List.getElem_cons_zero, List.getElem_cons_succ, List.setIfInBounds_toArray, List.set_cons_zero, List.set_cons_succ]
    refine wpAnyH_take (i := 13) (v := undef) rfl (by kernel_rfl) (by kernel_rfl) (by kernel_rfl) (fun _ _ _ h => h) (Or.inr ⟨by rfl, rfl⟩) hH5 ?_
    simp only [Act.put, List.getElem_toArray, List.getElem_cons_zero, List.getElem_cons_succ, List.setIfInBounds_toArray, List.set_cons_zero, List.set_cons_succ]
    refine wpAnyH_take (i := 14) (v := undef) rfl (by kernel_rfl) (by kernel_rfl) (by kernel_rfl) (fun _ _ _ h => h) (Or.inr ⟨by rfl, rfl⟩) hH5 ?_
    simp only [Act.put, List.getElem_toArray, List.getElem_cons_zero, List.getElem_cons_succ, List.setIfInBounds_toArray, List.set_cons_zero, List.set_cons_succ]
    refine wpAnyH_take (i := 15) (v := undef) rfl (by kernel_rfl) (by kernel_rfl) (by kernel_rfl) (fun _ _ _ h => h) (Or.inr ⟨by rfl, rfl⟩) hH5 ?_
    simp only [Act.put, List.getElem_toArray, List.getElem_cons_zero, List.getElem_cons_succ, List.setIfInBounds_toArray, List.set_cons_zero, List.set_cons_succ]
    refine wpAnyH_take (i := 16) (v := undef) rfl (by kernel_rfl) (by kernel_rfl) (by kernel_rfl) (fun _ _ _ h => h) (Or.inr ⟨by rfl, rfl⟩) hH5 ?_
    simp only [Act.put, List.getElem_toArray, List.getElem_cons_zero, List.getElem_cons_succ, List.setIfInBounds_toArray, List.set_cons_zero, List.set_cons_succ]
    refine wpAnyH_take (i := 17) (v := undef) rfl (by kernel_rfl) (by kernel_rfl) (by kernel_rfl) (fun _ _ _ h => h) (Or.inr ⟨by rfl, rfl⟩) hH5 ?_
    simp only [Act.put, List.getElem_toArray, List.getElem_cons_zero, List.getElem_cons_succ, List.setIfInBounds_toArray, List.set_cons_zero, List.set_cons_succ]
    refine wpAnyH_take (i := 18) (v := ?_) rfl (by kernel_rfl) (by kernel_rfl) (by kernel_rfl) (fun _ _ _ h => h) (Or.inl ⟨by rfl, ?_⟩) hH5 ?_
    rotate_left
    · ((intro W hW; clear hW; go_simp) <;> with_reducible rfl)
    simp only [Act.put, List.getElem_toArray, List.getElem_cons_zero, List.getElem_cons_succ, List.setIfInBounds_toArray, List.set_cons_zero, List.set_cons_succ]
    refine wpAnyH_done (by kernel_rfl) ?_ _
    go_wp2_with fail
    go_ret
    exact ⟨rfl, bel⟩
  have HG := Lib.hid HGB
  clear HGB
  by_cases hop_ : h.op = 2
  rotate_left
  · have HO2 : Hid ((h.op == 2) = false) := Lib.hid (beq_eq_false_iff_ne.2 hop_)
    have hop2 := HO2.out
    clear hop_
    go_wp2_with fail
    replace bel := bel.drew
    replace hmb : w2.drew.heap[g2]? = _ := hmb
    replace en := en.drew
    refine wp_region_held_drew (S := fun W => W.heap[g2]? = some (.cells #[.int .i64 h.op, .int .i64 h.hops, .int .u32 h.xid, .int .i64 h.secs, .int .i64 h.flags, .int .u8 (h.c0.toNat : Int), .int .u8 (h.c1.toNat : Int), .int .u8 (h.c2.toNat : Int), .int .u8 (h.c3.toNat : Int), .int .u8 (h.y0.toNat : Int), .int .u8 (h.y1.toNat : Int), .int .u8 (h.y2.toNat : Int), .int .u8 (h.y3.toNat : Int), .int .u8 (h.s0.toNat : Int), .int .u8 (h.s1.toNat : Int), .int .u8 (h.s2.toNat : Int), .int .u8 (h.s3.toNat : Int), .int .u8 (h.r0.toNat : Int), .int .u8 (h.r1.toNat : Int), .int .u8 (h.r2.toNat : Int), .int .u8 (h.r3.toNat : Int), .int .u8 (h.m0.toNat : Int), .int .u8 (h.m1.toNat : Int), .int .u8 (h.m2.toNat : Int), .int .u8 (h.m3.toNat : Int), .int .u8 (h.m4.toNat : Int), .int .u8 (h.m5.toNat : Int), .slice A n c] 37 (0, 0))) (by kernel_rfl) hmb (fun hH => ?_)
    generalize w2.drew = w3 at bel hmb en hH ⊢
    refine wpAnyH_take (i := 0) (v := .agg #[.int .i64 h.op, .int .i64 h.hops, .int .u32 h.xid, .int .i64 h.secs, .int .i64 h.flags, .int .u8 (h.c0.toNat : Int), .int .u8 (h.c1.toNat : Int), .int .u8 (h.c2.toNat : Int), .int .u8 (h.c3.toNat : Int), .int .u8 (h.y0.toNat : Int), .int .u8 (h.y1.toNat : Int), .int .u8 (h.y2.toNat : Int), .int .u8 (h.y3.toNat : Int), .int .u8 (h.s0.toNat : Int), .int .u8 (h.s1.toNat : Int), .int .u8 (h.s2.toNat : Int), .int .u8 (h.s3.toNat : Int), .int .u8 (h.r0.toNat : Int), .int .u8 (h.r1.toNat : Int), .int .u8 (h.r2.toNat : Int), .int .u8 (h.r3.toNat : Int), .int .u8 (h.m0.toNat : Int), .int .u8 (h.m1.toNat : Int), .int .u8 (h.m2.toNat : Int), .int .u8 (h.m3.toNat : Int), .int .u8 (h.m4.toNat : Int), .int .u8 (h.m5.toNat : Int), .slice A n c]) rfl (by kernel_rfl) (by kernel_rfl) (by kernel_rfl) (fun _ _ _ h => h) (yieldsIf_load_part (by kernel_rfl) 37 _ rfl g2 0 28 rfl _ 37 (0, 0) (fun W hW => hW) _ rfl _ Try.underlying37 rfl (by kernel_rfl)) hH ?_
    simp only [Act.put, List.getElem_toArray, List.getElem_cons_zero, List.setIfInBounds_toArray, List.set_cons_zero, List.set_cons_succ]
    refine wpAnyH_ready (rs := [1]) (by kernel_rfl) (by simp) ?_
    refine AllReadyH.cons (o := _) rfl (fun K hK => ?_) AllReadyH.nil
    simp only [List.getElem_toArray, List.getElem_cons_zero, List.getElem_cons_succ]
    go_simp
    with_reducible refine (lgreat_b (h := h) _ en HG.out).mono ?_
    rintro e w4 ⟨rfl, b4⟩
    dsimp only
    replace hmb := blk_u hmb b4
    replace en := en.below b4
    replace bel := bel.trans (b4.mono bel.size)
    clear b4
    refine hK.out _ _ hmb (fun hH5 => ?_)
    clear hK K
    refine wpAnyH_take (i := 2) (v := ?_) rfl (by kernel_rfl) (by kernel_rfl) (by kernel_rfl) (fun _ _ _ h => h) (Or.inl ⟨by rfl, ?_⟩) hH5 ?_
    rotate_left
    · ((intro W hW; clear hW; go_simp) <;> with_reducible rfl)
    simp only [Act.put, List.getElem_toArray, List.getElem_cons_zero, List.getElem_cons_succ, List.setIfInBounds_toArray, List.set_cons_zero, List.set_cons_succ]
    refine wpAnyH_take (i := 3) (v := ?_) rfl (by kernel_rfl) (by kernel_rfl) (by kernel_rfl) (fun _ _ _ h => h) (Or.inl ⟨by rfl, ?_⟩) hH5 ?_
    rotate_left
    · ((intro W hW; clear hW; go_simp) <;> with_reducible rfl)
    simp only [Act.put, List.getElem_toArray, List.getElem_cons_zero, List.getElem_cons_succ, List.setIfInBounds_toArray, List.set_cons_zero, List.set_cons_succ]
    refine wpAnyH_take (i := 4) (v := ?_) rfl (by kernel_rfl) (by kernel_rfl) (by kernel_rfl) (fun _ _ _ h => h) (Or.inl ⟨by rfl, ?_⟩) hH5 ?_
    rotate_left
    · ((intro W hW; have hk := cell_lit (hW) 0 _ rfl; clear hW; go_simp) <;> with_reducible rfl)
    simp only [Act.put, List.getElem_toArray, List.getElem_cons_zero, List.getElem_cons_succ, List.setIfInBounds_toArray, List.set_cons_zero, List.set_cons_succ]
    refine wpAnyH_take (i := 5) (v := ?_) rfl (by kernel_rfl) (by kernel_rfl) (by kernel_rfl) (fun _ _ _ h => h) (Or.inl ⟨by rfl, ?_⟩) hH5 ?_
    rotate_left
    · ((intro W hW; clear hW; go_simp) <;> with_reducible rfl)
    simp only [Act.put, List.getElem_toArray, List.getElem_cons_zero, List.getElem_cons_succ, List.setIfInBounds_toArray, List.set_cons_zero, List.set_cons_succ]
    refine wpAnyH_take (i := 6) (v := ?_) rfl (by kernel_rfl) (by kernel_rfl) (by kernel_rfl) (fun _ _ _ h => h) (Or.inl ⟨by rfl, ?_⟩) hH5 ?_
    rotate_left
    · ((intro W hW; clear hW; go_simp) <;> with_reducible rfl)
    simp only [Act.put, List.getElem_toArray, List.getElem_cons_zero, List.getElem_cons_succ, List.setIfInBounds_toArray, List.set_cons_zero, List.set_cons_succ]
    refine wpAnyH_take (i := 7) (v := undef) rfl (by kernel_rfl) (by kernel_rfl) (by kernel_rfl) (fun _ _ _ h => h) (Or.inr ⟨by rfl, rfl⟩) hH5 ?_
    simp only [Act.put, List.getElem_toArray, List.getElem_cons_zero, List.getElem_cons_succ, List.setIfInBounds_toArray, List.set_cons_zero, List.set_cons_succ]
    refine wpAnyH_take (i := 8) (v := undef) rfl (by kernel_rfl) (by kernel_rfl) (by kernel_rfl) (fun _ _ _ h => h) (Or.inr ⟨by rfl, rfl⟩) hH5 ?_
    simp only [Act.put, List.getElem_toArray, List.getElem_cons_zero, List.getElem_cons_succ, List.setIfInBounds_toArray, List.set_cons_zero, List.set_cons_succ]
    refine wpAnyH_take (i := 9) (v := undef) rfl (by kernel_rfl) (by kernel_rfl) (by kernel_rfl) (fun _ _ _ h => h) (Or.inr ⟨by rfl, rfl⟩) hH5 ?_
    simp only [Act.put, List.getElem_toArray, List.getElem_cons_zero, List.getElem_cons_succ, List.setIfInBounds_toArray, List.set_cons_zero, List.set_cons_succ]
    refine wpAnyH_take (i := 10) (v := undef) rfl (by kernel_rfl) (by kernel_rfl) (by kernel_rfl) (fun _ _ _ h => h) (Or.inr ⟨by rfl, rfl⟩) hH5 ?_
    simp only [Act.put, List.getElem_toArray, List.getElem_cons_zero, List.getElem_cons_succ, List.setIfInBounds_toArray, List.set_cons_zero, List.set_cons_succ]
    refine wpAnyH_take (i := 11) (v := ?_) rfl (by kernel_rfl) (by kernel_rfl) (by kernel_rfl) (fun _ _ _ h => h) (Or.inl ⟨by rfl, ?_⟩) hH5 ?_
    rotate_left
    · ((intro W hW; clear hW; go_simp) <;> with_reducible rfl)
    simp only [Act.put, List.getElem_toArray, List.getElem_cons_zero, List.getElem_cons_succ, List.setIfInBounds_toArray, List.set_cons_zero, List.set_cons_succ]
    refine wpAnyH_take (i := 12) (v := ?_) rfl (by kernel_rfl) (by kernel_rfl) (by kernel_rfl) (fun _ _ _ h => h) (Or.inl ⟨by rfl, ?_⟩) hH5 ?_
    rotate_left
    · ((intro W hW; clear hW; go_simp) <;> with_reducible rfl)
    simp only [Act.put, List.getElem_toArray, List.getElem_cons_zero, List.getElem_cons_succ, List.setIfInBounds_toArray, List.set_cons_zero, List.set_cons_succ]
    refine wpAnyH_take (i := 13) (v := undef) rfl (by kernel_rfl) (by kernel_rfl) (by kernel_rfl) (fun _ _ _ h => h) (Or.inr ⟨by rfl, rfl⟩) hH5 ?_
    simp only [Act.put, List.getElem_toArray, List.getElem_cons_zero, List.getElem_cons_succ, List.setIfInBounds_toArray, List.set_cons_zero, List.set_cons_succ]
    refine wpAnyH_take (i := 14) (v := undef) rfl (by kernel_rfl) (by kernel_rfl) (by kernel_rfl) (fun _ _ _ h => h) (Or.inr ⟨by rfl, rfl⟩) hH5 ?_
    simp only [Act.put, List.getElem_toArray, List.getElem_cons_zero, List.getElem_cons_succ, List.setIfInBounds_toArray, List.set_cons_zero, List.set_cons_succ]
    refine wpAnyH_take (i := 15) (v := undef) rfl (by kernel_rfl) (by kernel_rfl) (by kernel_rfl) (fun _ _ _ h => h) (Or.inr ⟨by rfl, rfl⟩) hH5 ?_
    simp only [Act.put, List.getElem_toArray, List.getElem_cons_zero, List.getElem_cons_succ, List.setIfInBounds_toArray, List.set_cons_zero, List.set_cons_succ]
    refine wpAnyH_take (i := 16) (v := undef) rfl (by kernel_rfl) (by kernel_rfl) (by kernel_rfl) (fun _ _ _ h => h) (Or.inr ⟨by rfl, rfl⟩) hH5 ?_
    simp only [Act.put, List.getElem_toArray, List.getElem_cons_zero, List.getElem_cons_succ, List.setIfInBounds_toArray, List.set_cons_zero, List.set_cons_succ]
    refine wpAnyH_take (i := 17) (v := ?_) rfl (by kernel_rfl) (by kernel_rfl) (by kernel_rfl) (fun _ _ _ h => h) (Or.inl ⟨by rfl, ?_⟩) hH5 ?_
    rotate_left
    · ((intro W hW; clear hW; go_simp) <;> with_reducible rfl)
    simp only [Act.put, List.getElem_toArray, List.getElem_cons_zero, List.getElem_cons_succ, List.setIfInBounds_toArray, List.set_cons_zero, List.set_cons_succ]
    refine wpAnyH_take (i := 18) (v := ?_) rfl (by kernel_rfl) (by kernel_rfl) (by kernel_rfl) (fun _ _ _ h => h) (Or.inl ⟨by rfl, ?_⟩) hH5 ?_
    rotate_left
    · ((intro W hW; clear hW; go_simp) <;> with_reducible rfl)
    simp only [Act.put, List.getElem_toArray, List.getElem_cons_zero, List.getElem_cons_succ, List.setIfInBounds_toArray, List.set_cons_zero, List.set_cons_succ]
    refine wpAnyH_done (by kernel_rfl) ?_ _
    go_wp2_with fail
    with_reducible refine (lmac _).mono ?_
    rintro e w6 ⟨rfl, b6⟩
    replace hmb := blk_u hmb b6
    replace en := en.below b6
    replace bel := bel.trans (b6.mono bel.size)
    clear b6
    go_wp2_with fail
    have HLO_ := bel.size
    with_reducible refine (lnew _).mono ?_
    rintro e w7 ⟨gc, rfl, hT, b7⟩
    replace hmb := blk_u hmb b7
    replace en := en.below b7
    replace bel := bel.trans (b7.mono bel.size)
    clear b7
    replace hT : Cl w.heap.size gc w7 #[.int .u8 2, .int .u8 0, .int .u8 0, .int .u8 0, .int .u8 0, .int .u8 2, .int .i64 0, .int .i64 0, .int .u32 0, .int .i64 0, .int .i64 0, .int .i64 0, .int .u8 0, .int .u8 0, .int .u8 0, .int .u8 0, .int .u8 0, .int .u8 0, .int .u8 0, .int .u8 0, .int .u8 0, .int .u8 0, .int .u8 0, .int .u8 0, .int .u8 0, .int .u8 0, .int .u8 0, .int .u8 0, .int .i64 0, .int .i64 0, .int .i64 0] := hT.lo_mono HLO_
    clear HLO_
    go_wp2_with fail
    go_wp2_with fail
    with_reducible refine (ltick_new _ hT (by decide) (by decide)).mono ?_
    rintro e w8 ⟨g_x, rfl, _, hT_, k_, bb⟩
    replace hmb := Kt.blk k_ hmb (by decide)
    clear en
    clear hT
    have hT := hT_
    replace bel := bel.trans bb
    clear bb k_ hT_
    have R39 := Lib.hid (range_lit hmb 0 28 [.int .i64 h.op, .int .i64 h.hops, .int .u32 h.xid, .int .i64 h.secs, .int .i64 h.flags, .int .u8 (h.c0.toNat : Int), .int .u8 (h.c1.toNat : Int), .int .u8 (h.c2.toNat : Int), .int .u8 (h.c3.toNat : Int), .int .u8 (h.y0.toNat : Int), .int .u8 (h.y1.toNat : Int), .int .u8 (h.y2.toNat : Int), .int .u8 (h.y3.toNat : Int), .int .u8 (h.s0.toNat : Int), .int .u8 (h.s1.toNat : Int), .int .u8 (h.s2.toNat : Int), .int .u8 (h.s3.toNat : Int), .int .u8 (h.r0.toNat : Int), .int .u8 (h.r1.toNat : Int), .int .u8 (h.r2.toNat : Int), .int .u8 (h.r3.toNat : Int), .int .u8 (h.m0.toNat : Int), .int .u8 (h.m1.toNat : Int), .int .u8 (h.m2.toNat : Int), .int .u8 (h.m3.toNat : Int), .int .u8 (h.m4.toNat : Int), .int .u8 (h.m5.toNat : Int), .slice A n c] rfl)
    go_wp2_with (first | ((with_reducible show wpList _ _ _ (⟨some 39, _, _, _, _, _⟩ :: _) _ _); refine wpList_load_rng 37 (.tmp 2) rfl (by kernel_rfl) _ _ rfl _ R39.out _ Try.underlying37 rfl (by kernel_rfl) ?_))
    try clear R39
    go_wp2_with fail
    with_reducible refine (lget_no_op _ hT (by decide) (by decide) (by decide) (by decide) HO2.out).mono ?_
    rintro e w9 ⟨rfl, hT_, k_, bb⟩
    replace hmb := Kt.blk k_ hmb (by decide)
    clear hT
    have hT := hT_
    replace bel := bel.trans bb
    clear bb k_ hT_
    go_wp2_with fail
    with_reducible refine (lstate _ hT).mono ?_
    rintro e _ ⟨rfl, rfl⟩
    go_wp2_with fail
    with_reducible refine (lword (kb := 2) _ rfl).mono ?_
    rintro e w10 ⟨Ao, co, rfl, hw_, b10⟩
    replace hmb := blk_u hmb b10
    replace hT := hT.below b10
    replace bel := bel.trans (b10.mono bel.size)
    clear b10
    obtain ⟨hso, ho⟩ := hw_
    go_wp2_with fail
    go_wp2_with fail
    with_reducible refine (lget_off _ hT (by decide) (by decide) ho (fun W => by kernel_rfl) (wl_2 _) (wl_54 _ _) (fun W => by kernel_rfl) by_5).mono ?_
    rintro e w11 ⟨g_x, rfl, _, hT_, k_, bb⟩
    replace hmb := Kt.blk k_ hmb (by decide)
    replace ho := ho.kt k_
    clear hT
    have hT := hT_
    replace bel := bel.trans bb
    clear bb k_ hT_
    clear ho
    have R52 := Lib.hid (range_lit hmb 0 28 [.int .i64 h.op, .int .i64 h.hops, .int .u32 h.xid, .int .i64 h.secs, .int .i64 h.flags, .int .u8 (h.c0.toNat : Int), .int .u8 (h.c1.toNat : Int), .int .u8 (h.c2.toNat : Int), .int .u8 (h.c3.toNat : Int), .int .u8 (h.y0.toNat : Int), .int .u8 (h.y1.toNat : Int), .int .u8 (h.y2.toNat : Int), .int .u8 (h.y3.toNat : Int), .int .u8 (h.s0.toNat : Int), .int .u8 (h.s1.toNat : Int), .int .u8 (h.s2.toNat : Int), .int .u8 (h.s3.toNat : Int), .int .u8 (h.r0.toNat : Int), .int .u8 (h.r1.toNat : Int), .int .u8 (h.r2.toNat : Int), .int .u8 (h.r3.toNat : Int), .int .u8 (h.m0.toNat : Int), .int .u8 (h.m1.toNat : Int), .int .u8 (h.m2.toNat : Int), .int .u8 (h.m3.toNat : Int), .int .u8 (h.m4.toNat : Int), .int .u8 (h.m5.toNat : Int), .slice A n c] rfl)
    go_wp2_with (first | ((with_reducible show wpList _ _ _ (⟨some 52, _, _, _, _, _⟩ :: _) _ _); refine wpList_load_rng 37 (.tmp 2) rfl (by kernel_rfl) _ _ rfl _ R52.out _ Try.underlying37 rfl (by kernel_rfl) ?_))
    try clear R52
    go_wp2_with fail
    with_reducible refine (lget_no_op _ hT (by decide) (by decide) (by decide) (by decide) HO2.out).mono ?_
    rintro e w12 ⟨rfl, hT_, k_, bb⟩
    replace hmb := Kt.blk k_ hmb (by decide)
    clear hT
    have hT := hT_
    replace bel := bel.trans bb
    clear bb k_ hT_
    go_wp2_with fail
    with_reducible refine (lstate _ hT).mono ?_
    rintro e _ ⟨rfl, rfl⟩
    go_wp2_with fail
    go_ret
    exact ⟨rfl, bel⟩
  have HO2 : Hid ((h.op == 2) = true) := Lib.hid (beq_iff_eq.2 hop_)
  have hop2 : (h.op == 2) = true := HO2.out
  clear hop_
  by_cases hx_ : h.xid = draw
  rotate_left
  · have HX2 : Hid ((h.xid == draw) = false) := Lib.hid (beq_eq_false_iff_ne.2 hx_)
    have hx2 := HX2.out
    obtain ⟨mb_, hmb_⟩ : ∃ b, ([h.m0, h.m1, h.m2, h.m3, h.m4, h.m5] == [2, 0, 0, 0, 0, 2]) = b := ⟨_, rfl⟩
    have HMB := Lib.hid hmb_
    clear hx_ hmb_
    go_wp2_with fail
    replace bel := bel.drew
    replace hmb : w2.drew.heap[g2]? = _ := hmb
    replace en := en.drew
    refine wp_region_held_drew (S := fun W => W.heap[g2]? = some (.cells #[.int .i64 h.op, .int .i64 h.hops, .int .u32 h.xid, .int .i64 h.secs, .int .i64 h.flags, .int .u8 (h.c0.toNat : Int), .int .u8 (h.c1.toNat : Int), .int .u8 (h.c2.toNat : Int), .int .u8 (h.c3.toNat : Int), .int .u8 (h.y0.toNat : Int), .int .u8 (h.y1.toNat : Int), .int .u8 (h.y2.toNat : Int), .int .u8 (h.y3.toNat : Int), .int .u8 (h.s0.toNat : Int), .int .u8 (h.s1.toNat : Int), .int .u8 (h.s2.toNat : Int), .int .u8 (h.s3.toNat : Int), .int .u8 (h.r0.toNat : Int), .int .u8 (h.r1.toNat : Int), .int .u8 (h.r2.toNat : Int), .int .u8 (h.r3.toNat : Int), .int .u8 (h.m0.toNat : Int), .int .u8 (h.m1.toNat : Int), .int .u8 (h.m2.toNat : Int), .int .u8 (h.m3.toNat : Int), .int .u8 (h.m4.toNat : Int), .int .u8 (h.m5.toNat : Int), .slice A n c] 37 (0, 0))) (by kernel_rfl) hmb (fun hH => ?_)
    generalize w2.drew = w3 at bel hmb en hH ⊢
    refine wpAnyH_take (i := 0) (v := .agg #[.int .i64 h.op, .int .i64 h.hops, .int .u32 h.xid, .int .i64 h.secs, .int .i64 h.flags, .int .u8 (h.c0.toNat : Int), .int .u8 (h.c1.toNat : Int), .int .u8 (h.c2.toNat : Int), .int .u8 (h.c3.toNat : Int), .int .u8 (h.y0.toNat : Int), .int .u8 (h.y1.toNat : Int), .int .u8 (h.y2.toNat : Int), .int .u8 (h.y3.toNat : Int), .int .u8 (h.s0.toNat : Int), .int .u8 (h.s1.toNat : Int), .int .u8 (h.s2.toNat : Int), .int .u8 (h.s3.toNat : Int), .int .u8 (h.r0.toNat : Int), .int .u8 (h.r1.toNat : Int), .int .u8 (h.r2.toNat : Int), .int .u8 (h.r3.toNat : Int), .int .u8 (h.m0.toNat : Int), .int .u8 (h.m1.toNat : Int), .int .u8 (h.m2.toNat : Int), .int .u8 (h.m3.toNat : Int), .int .u8 (h.m4.toNat : Int), .int .u8 (h.m5.toNat : Int), .slice A n c]) rfl (by kernel_rfl) (by kernel_rfl) (by kernel_rfl) (fun _ _ _ h => h) (yieldsIf_load_part (by kernel_rfl) 37 _ rfl g2 0 28 rfl _ 37 (0, 0) (fun W hW => hW) _ rfl _ Try.underlying37 rfl (by kernel_rfl)) hH ?_
    simp only [Act.put, List.getElem_toArray, List.getElem_cons_zero, List.setIfInBounds_toArray, List.set_cons_zero, List.set_cons_succ]
    refine wpAnyH_ready (rs := [1]) (by kernel_rfl) (by simp) ?_
    refine AllReadyH.cons (o := _) rfl (fun K hK => ?_) AllReadyH.nil
    simp only [List.getElem_toArray, List.getElem_cons_zero, List.getElem_cons_succ]
    go_simp
    with_reducible refine (lgreat_b (h := h) _ en HG.out).mono ?_
    rintro e w4 ⟨rfl, b4⟩
    dsimp only
    replace hmb := blk_u hmb b4
    replace en := en.below b4
    replace bel := bel.trans (b4.mono bel.size)
    clear b4
    refine hK.out _ _ hmb (fun hH5 => ?_)
    clear hK K
    refine wpAnyH_take (i := 2) (v := ?_) rfl (by kernel_rfl) (by kernel_rfl) (by kernel_rfl) (fun _ _ _ h => h) (Or.inl ⟨by rfl, ?_⟩) hH5 ?_
    rotate_left
    · ((intro W hW; clear hW; go_simp) <;> with_reducible rfl)
    simp only [Act.put, List.getElem_toArray, List.getElem_cons_zero, List.getElem_cons_succ, List.setIfInBounds_toArray, List.set_cons_zero, List.set_cons_succ]
    refine wpAnyH_take (i := 3) (v := ?_) rfl (by kernel_rfl) (by kernel_rfl) (by kernel_rfl) (fun _ _ _ h => h) (Or.inl ⟨by rfl, ?_⟩) hH5 ?_
    rotate_left
    · ((intro W hW; clear hW; go_simp) <;> with_reducible rfl)
    simp only [Act.put, List.getElem_toArray, List.getElem_cons_zero, List.getElem_cons_succ, List.setIfInBounds_toArray, List.set_cons_zero, List.set_cons_succ]
    refine wpAnyH_take (i := 4) (v := ?_) rfl (by kernel_rfl) (by kernel_rfl) (by kernel_rfl) (fun _ _ _ h => h) (Or.inl ⟨by rfl, ?_⟩) hH5 ?_
    rotate_left
    · ((intro W hW; have hk := cell_lit (hW) 0 _ rfl; clear hW; go_simp) <;> with_reducible rfl)
    simp only [Act.put, List.getElem_toArray, List.getElem_cons_zero, List.getElem_cons_succ, List.setIfInBounds_toArray, List.set_cons_zero, List.set_cons_succ]
    refine wpAnyH_take (i := 5) (v := ?_) rfl (by kernel_rfl) (by kernel_rfl) (by kernel_rfl) (fun _ _ _ h => h) (Or.inl ⟨by rfl, ?_⟩) hH5 ?_
    rotate_left
    · ((intro W hW; clear hW; go_simp) <;> with_reducible rfl)
    simp only [Act.put, List.getElem_toArray, List.getElem_cons_zero, List.getElem_cons_succ, List.setIfInBounds_toArray, List.set_cons_zero, List.set_cons_succ]
    refine wpAnyH_take (i := 6) (v := ?_) rfl (by kernel_rfl) (by kernel_rfl) (by kernel_rfl) (fun _ _ _ h => h) (Or.inl ⟨by rfl, ?_⟩) hH5 ?_
    rotate_left
    · ((intro W hW; clear hW; go_simp) <;> with_reducible rfl)
    simp only [Act.put, List.getElem_toArray, List.getElem_cons_zero, List.getElem_cons_succ, List.setIfInBounds_toArray, List.set_cons_zero, List.set_cons_succ]
    refine wpAnyH_take (i := 7) (v := ?_) rfl (by kernel_rfl) (by kernel_rfl) (by kernel_rfl) (fun _ _ _ h => h) (Or.inl ⟨by rfl, ?_⟩) hH5 ?_
    rotate_left
    · ((intro W hW; clear hW; go_simp) <;> with_reducible rfl)
    simp only [Act.put, List.getElem_toArray, List.getElem_cons_zero, List.getElem_cons_succ, List.setIfInBounds_toArray, List.set_cons_zero, List.set_cons_succ]
    refine wpAnyH_take (i := 8) (v := ?_) rfl (by kernel_rfl) (by kernel_rfl) (by kernel_rfl) (fun _ _ _ h => h) (Or.inl ⟨by rfl, ?_⟩) hH5 ?_
    rotate_left
    · ((intro W hW; have hk := cell_lit (hW) 2 _ rfl; clear hW; go_simp) <;> with_reducible rfl)
    simp only [Act.put, List.getElem_toArray, List.getElem_cons_zero, List.getElem_cons_succ, List.setIfInBounds_toArray, List.set_cons_zero, List.set_cons_succ]
    refine wpAnyH_take (i := 9) (v := ?_) rfl (by kernel_rfl) (by kernel_rfl) (by kernel_rfl) (fun _ _ _ h => h) (Or.inl ⟨by rfl, ?_⟩) hH5 ?_
    rotate_left
    · ((intro W hW; clear hW; go_simp) <;> with_reducible rfl)
    simp only [Act.put, List.getElem_toArray, List.getElem_cons_zero, List.getElem_cons_succ, List.setIfInBounds_toArray, List.set_cons_zero, List.set_cons_succ]
    refine wpAnyH_take (i := 10) (v := ?_) rfl (by kernel_rfl) (by kernel_rfl) (by kernel_rfl) (fun _ _ _ h => h) (Or.inl ⟨by rfl, ?_⟩) hH5 ?_
    rotate_left
    · ((intro W hW; clear hW; go_simp) <;> with_reducible rfl)
    simp only [Act.put, List.getElem_toArray, List.getElem_cons_zero, List.getElem_cons_succ, List.setIfInBounds_toArray, List.set_cons_zero, List.set_cons_succ]
    refine wpAnyH_take (i := 11) (v := ?_) rfl (by kernel_rfl) (by kernel_rfl) (by kernel_rfl) (fun _ _ _ h => h) (Or.inl ⟨by rfl, ?_⟩) hH5 ?_
    rotate_left
    · ((intro W hW; clear hW; go_simp) <;> with_reducible rfl)
    simp only [Act.put, List.getElem_toArray, List.getElem_cons_zero, List.getElem_cons_succ, List.setIfInBounds_toArray, List.set_cons_zero, List.set_cons_succ]
    refine wpAnyH_take (i := 12) (v := ?_) rfl (by kernel_rfl) (by kernel_rfl) (by kernel_rfl) (fun _ _ _ h => h) (Or.inl ⟨by rfl, ?_⟩) hH5 ?_
    rotate_left
    · ((intro W hW; clear hW; go_simp) <;> with_reducible rfl)
    simp only [Act.put, List.getElem_toArray, List.getElem_cons_zero, List.getElem_cons_succ, List.setIfInBounds_toArray, List.set_cons_zero, List.set_cons_succ]
    refine wpAnyH_take (i := 13) (v := undef) rfl (by kernel_rfl) (by kernel_rfl) (by kernel_rfl) (fun _ _ _ h => h) (Or.inr ⟨by rfl, rfl⟩) hH5 ?_
    simp only [Act.put, List.getElem_toArray, List.getElem_cons_zero, List.getElem_cons_succ, List.setIfInBounds_toArray, List.set_cons_zero, List.set_cons_succ]
    refine wpAnyH_take (i := 14) (v := undef) rfl (by kernel_rfl) (by kernel_rfl) (by kernel_rfl) (fun _ _ _ h => h) (Or.inr ⟨by rfl, rfl⟩) hH5 ?_
    simp only [Act.put, List.getElem_toArray, List.getElem_cons_zero, List.getElem_cons_succ, List.setIfInBounds_toArray, List.set_cons_zero, List.set_cons_succ]
    refine wpAnyH_take (i := 15) (v := undef) rfl (by kernel_rfl) (by kernel_rfl) (by kernel_rfl) (fun _ _ _ h => h) (Or.inr ⟨by rfl, rfl⟩) hH5 ?_
    simp only [Act.put, List.getElem_toArray, List.getElem_cons_zero, List.getElem_cons_succ, List.setIfInBounds_toArray, List.set_cons_zero, List.set_cons_succ]
    refine wpAnyH_take (i := 16) (v := undef) rfl (by kernel_rfl) (by kernel_rfl) (by kernel_rfl) (fun _ _ _ h => h) (Or.inr ⟨by rfl, rfl⟩) hH5 ?_
    simp only [Act.put, List.getElem_toArray, List.getElem_cons_zero, List.getElem_cons_succ, List.setIfInBounds_toArray, List.set_cons_zero, List.set_cons_succ]
    refine wpAnyH_take (i := 17) (v := ?_) rfl (by kernel_rfl) (by kernel_rfl) (by kernel_rfl) (fun _ _ _ h => h) (Or.inl ⟨by rfl, ?_⟩) hH5 ?_
    rotate_left
    · ((intro W hW; clear hW; go_simp) <;> with_reducible rfl)
    simp only [Act.put, List.getElem_toArray, List.getElem_cons_zero, List.getElem_cons_succ, List.setIfInBounds_toArray, List.set_cons_zero, List.set_cons_succ]
    refine wpAnyH_take (i := 18) (v := ?_) rfl (by kernel_rfl) (by kernel_rfl) (by kernel_rfl) (fun _ _ _ h => h) (Or.inl ⟨by rfl, ?_⟩) hH5 ?_
    rotate_left
    · ((intro W hW; clear hW; go_simp) <;> with_reducible rfl)
    simp only [Act.put, List.getElem_toArray, List.getElem_cons_zero, List.getElem_cons_succ, List.setIfInBounds_toArray, List.set_cons_zero, List.set_cons_succ]
    refine wpAnyH_done (by kernel_rfl) ?_ _
    rcases mb_ with _ | _
    · go_wp2_with fail
      with_reducible refine (lmac _).mono ?_
      rintro e w6 ⟨rfl, b6⟩
      replace hmb := blk_u hmb b6
      replace en := en.below b6
      replace bel := bel.trans (b6.mono bel.size)
      clear b6
      go_wp2_with fail
      have HLO_ := bel.size
      with_reducible refine (lnew _).mono ?_
      rintro e w7 ⟨gc, rfl, hT, b7⟩
      replace hmb := blk_u hmb b7
      replace en := en.below b7
      replace bel := bel.trans (b7.mono bel.size)
      clear b7
      replace hT : Cl w.heap.size gc w7 #[.int .u8 2, .int .u8 0, .int .u8 0, .int .u8 0, .int .u8 0, .int .u8 2, .int .i64 0, .int .i64 0, .int .u32 0, .int .i64 0, .int .i64 0, .int .i64 0, .int .u8 0, .int .u8 0, .int .u8 0, .int .u8 0, .int .u8 0, .int .u8 0, .int .u8 0, .int .u8 0, .int .u8 0, .int .u8 0, .int .u8 0, .int .u8 0, .int .u8 0, .int .u8 0, .int .u8 0, .int .u8 0, .int .i64 0, .int .i64 0, .int .i64 0] := hT.lo_mono HLO_
      clear HLO_
      go_wp2_with fail
      go_wp2_with fail
      with_reducible refine (ltick_new _ hT (by decide) (by decide)).mono ?_
      rintro e w8 ⟨g_x, rfl, _, hT_, k_, bb⟩
      replace hmb := Kt.blk k_ hmb (by decide)
      clear en
      clear hT
      have hT := hT_
      replace bel := bel.trans bb
      clear bb k_ hT_
      have R39 := Lib.hid (range_lit hmb 0 28 [.int .i64 h.op, .int .i64 h.hops, .int .u32 h.xid, .int .i64 h.secs, .int .i64 h.flags, .int .u8 (h.c0.toNat : Int), .int .u8 (h.c1.toNat : Int), .int .u8 (h.c2.toNat : Int), .int .u8 (h.c3.toNat : Int), .int .u8 (h.y0.toNat : Int), .int .u8 (h.y1.toNat : Int), .int .u8 (h.y2.toNat : Int), .int .u8 (h.y3.toNat : Int), .int .u8 (h.s0.toNat : Int), .int .u8 (h.s1.toNat : Int), .int .u8 (h.s2.toNat : Int), .int .u8 (h.s3.toNat : Int), .int .u8 (h.r0.toNat : Int), .int .u8 (h.r1.toNat : Int), .int .u8 (h.r2.toNat : Int), .int .u8 (h.r3.toNat : Int), .int .u8 (h.m0.toNat : Int), .int .u8 (h.m1.toNat : Int), .int .u8 (h.m2.toNat : Int), .int .u8 (h.m3.toNat : Int), .int .u8 (h.m4.toNat : Int), .int .u8 (h.m5.toNat : Int), .slice A n c] rfl)
      go_wp2_with (first | ((with_reducible show wpList _ _ _ (⟨some 39, _, _, _, _, _⟩ :: _) _ _); refine wpList_load_rng 37 (.tmp 2) rfl (by kernel_rfl) _ _ rfl _ R39.out _ Try.underlying37 rfl (by kernel_rfl) ?_))
      try clear R39
      go_wp2_with fail
      with_reducible refine (lget_no_mac _ hT (by decide) (by decide) (by decide) (by decide) HO2.out (mac_b HMB.out)).mono ?_
      rintro e w9 ⟨rfl, hT_, k_, bb⟩
      replace hmb := Kt.blk k_ hmb (by decide)
      clear hT
      have hT := hT_
      replace bel := bel.trans bb
      clear bb k_ hT_
      go_wp2_with fail
      with_reducible refine (lstate _ hT).mono ?_
      rintro e _ ⟨rfl, rfl⟩
      go_wp2_with fail
      with_reducible refine (lword (kb := 2) _ rfl).mono ?_
      rintro e w10 ⟨Ao, co, rfl, hw_, b10⟩
      replace hmb := blk_u hmb b10
      replace hT := hT.below b10
      replace bel := bel.trans (b10.mono bel.size)
      clear b10
      obtain ⟨hso, ho⟩ := hw_
      go_wp2_with fail
      go_wp2_with fail
      with_reducible refine (lget_off _ hT (by decide) (by decide) ho (fun W => by kernel_rfl) (wl_2 _) (wl_54 _ _) (fun W => by kernel_rfl) by_5).mono ?_
      rintro e w11 ⟨g_x, rfl, _, hT_, k_, bb⟩
      replace hmb := Kt.blk k_ hmb (by decide)
      replace ho := ho.kt k_
      clear hT
      have hT := hT_
      replace bel := bel.trans bb
      clear bb k_ hT_
      clear ho
      have R52 := Lib.hid (range_lit hmb 0 28 [.int .i64 h.op, .int .i64 h.hops, .int .u32 h.xid, .int .i64 h.secs, .int .i64 h.flags, .int .u8 (h.c0.toNat : Int), .int .u8 (h.c1.toNat : Int), .int .u8 (h.c2.toNat : Int), .int .u8 (h.c3.toNat : Int), .int .u8 (h.y0.toNat : Int), .int .u8 (h.y1.toNat : Int), .int .u8 (h.y2.toNat : Int), .int .u8 (h.y3.toNat : Int), .int .u8 (h.s0.toNat : Int), .int .u8 (h.s1.toNat : Int), .int .u8 (h.s2.toNat : Int), .int .u8 (h.s3.toNat : Int), .int .u8 (h.r0.toNat : Int), .int .u8 (h.r1.toNat : Int), .int .u8 (h.r2.toNat : Int), .int .u8 (h.r3.toNat : Int), .int .u8 (h.m0.toNat : Int), .int .u8 (h.m1.toNat : Int), .int .u8 (h.m2.toNat : Int), .int .u8 (h.m3.toNat : Int), .int .u8 (h.m4.toNat : Int), .int .u8 (h.m5.toNat : Int), .slice A n c] rfl)
      go_wp2_with (first | ((with_reducible show wpList _ _ _ (⟨some 52, _, _, _, _, _⟩ :: _) _ _); refine wpList_load_rng 37 (.tmp 2) rfl (by kernel_rfl) _ _ rfl _ R52.out _ Try.underlying37 rfl (by kernel_rfl) ?_))
      try clear R52
      go_wp2_with fail
      with_reducible refine (lget_no_mac _ hT (by decide) (by decide) (by decide) (by decide) HO2.out (mac_b HMB.out)).mono ?_
      rintro e w12 ⟨rfl, hT_, k_, bb⟩
      replace hmb := Kt.blk k_ hmb (by decide)
      clear hT
      have hT := hT_
      replace bel := bel.trans bb
      clear bb k_ hT_
      go_wp2_with fail
      with_reducible refine (lstate _ hT).mono ?_
      rintro e _ ⟨rfl, rfl⟩
      go_wp2_with fail
      go_ret
      exact ⟨rfl, bel⟩
    go_wp2_with fail
    with_reducible refine (lmac _).mono ?_
    rintro e w6 ⟨rfl, b6⟩
    replace hmb := blk_u hmb b6
    replace en := en.below b6
    replace bel := bel.trans (b6.mono bel.size)
    clear b6
    go_wp2_with fail
    have HLO_ := bel.size
    with_reducible refine (lnew _).mono ?_
    rintro e w7 ⟨gc, rfl, hT, b7⟩
    replace hmb := blk_u hmb b7
    replace en := en.below b7
    replace bel := bel.trans (b7.mono bel.size)
    clear b7
    replace hT : Cl w.heap.size gc w7 #[.int .u8 2, .int .u8 0, .int .u8 0, .int .u8 0, .int .u8 0, .int .u8 2, .int .i64 0, .int .i64 0, .int .u32 0, .int .i64 0, .int .i64 0, .int .i64 0, .int .u8 0, .int .u8 0, .int .u8 0, .int .u8 0, .int .u8 0, .int .u8 0, .int .u8 0, .int .u8 0, .int .u8 0, .int .u8 0, .int .u8 0, .int .u8 0, .int .u8 0, .int .u8 0, .int .u8 0, .int .u8 0, .int .i64 0, .int .i64 0, .int .i64 0] := hT.lo_mono HLO_
    clear HLO_
    go_wp2_with fail
    go_wp2_with fail
    with_reducible refine (ltick_new _ hT (by decide) (by decide)).mono ?_
    rintro e w8 ⟨g_x, rfl, _, hT_, k_, bb⟩
    replace hmb := Kt.blk k_ hmb (by decide)
    clear en
    clear hT
    have hT := hT_
    replace bel := bel.trans bb
    clear bb k_ hT_
    have R39 := Lib.hid (range_lit hmb 0 28 [.int .i64 h.op, .int .i64 h.hops, .int .u32 h.xid, .int .i64 h.secs, .int .i64 h.flags, .int .u8 (h.c0.toNat : Int), .int .u8 (h.c1.toNat : Int), .int .u8 (h.c2.toNat : Int), .int .u8 (h.c3.toNat : Int), .int .u8 (h.y0.toNat : Int), .int .u8 (h.y1.toNat : Int), .int .u8 (h.y2.toNat : Int), .int .u8 (h.y3.toNat : Int), .int .u8 (h.s0.toNat : Int), .int .u8 (h.s1.toNat : Int), .int .u8 (h.s2.toNat : Int), .int .u8 (h.s3.toNat : Int), .int .u8 (h.r0.toNat : Int), .int .u8 (h.r1.toNat : Int), .int .u8 (h.r2.toNat : Int), .int .u8 (h.r3.toNat : Int), .int .u8 (h.m0.toNat : Int), .int .u8 (h.m1.toNat : Int), .int .u8 (h.m2.toNat : Int), .int .u8 (h.m3.toNat : Int), .int .u8 (h.m4.toNat : Int), .int .u8 (h.m5.toNat : Int), .slice A n c] rfl)
    go_wp2_with (first | ((with_reducible show wpList _ _ _ (⟨some 39, _, _, _, _, _⟩ :: _) _ _); refine wpList_load_rng 37 (.tmp 2) rfl (by kernel_rfl) _ _ rfl _ R39.out _ Try.underlying37 rfl (by kernel_rfl) ?_))
    try clear R39
    go_wp2_with fail
    with_reducible refine (lget_no_xid _ hT (by decide) (by decide) (by decide) (by decide) HO2.out (mac_b HMB.out) HX2.out).mono ?_
    rintro e w9 ⟨rfl, hT_, k_, bb⟩
    replace hmb := Kt.blk k_ hmb (by decide)
    clear hT
    have hT := hT_
    replace bel := bel.trans bb
    clear bb k_ hT_
    go_wp2_with fail
    with_reducible refine (lstate _ hT).mono ?_
    rintro e _ ⟨rfl, rfl⟩
    go_wp2_with fail
    with_reducible refine (lword (kb := 2) _ rfl).mono ?_
    rintro e w10 ⟨Ao, co, rfl, hw_, b10⟩
    replace hmb := blk_u hmb b10
    replace hT := hT.below b10
    replace bel := bel.trans (b10.mono bel.size)
    clear b10
    obtain ⟨hso, ho⟩ := hw_
    go_wp2_with fail
    go_wp2_with fail
    with_reducible refine (lget_off _ hT (by decide) (by decide) ho (fun W => by kernel_rfl) (wl_2 _) (wl_54 _ _) (fun W => by kernel_rfl) by_5).mono ?_
    rintro e w11 ⟨g_x, rfl, _, hT_, k_, bb⟩
    replace hmb := Kt.blk k_ hmb (by decide)
    replace ho := ho.kt k_
    clear hT
    have hT := hT_
    replace bel := bel.trans bb
    clear bb k_ hT_
    clear ho
    have R52 := Lib.hid (range_lit hmb 0 28 [.int .i64 h.op, .int .i64 h.hops, .int .u32 h.xid, .int .i64 h.secs, .int .i64 h.flags, .int .u8 (h.c0.toNat : Int), .int .u8 (h.c1.toNat : Int), .int .u8 (h.c2.toNat : Int), .int .u8 (h.c3.toNat : Int), .int .u8 (h.y0.toNat : Int), .int .u8 (h.y1.toNat : Int), .int .u8 (h.y2.toNat : Int), .int .u8 (h.y3.toNat : Int), .int .u8 (h.s0.toNat : Int), .int .u8 (h.s1.toNat : Int), .int .u8 (h.s2.toNat : Int), .int .u8 (h.s3.toNat : Int), .int .u8 (h.r0.toNat : Int), .int .u8 (h.r1.toNat : Int), .int .u8 (h.r2.toNat : Int), .int .u8 (h.r3.toNat : Int), .int .u8 (h.m0.toNat : Int), .int .u8 (h.m1.toNat : Int), .int .u8 (h.m2.toNat : Int), .int .u8 (h.m3.toNat : Int), .int .u8 (h.m4.toNat : Int), .int .u8 (h.m5.toNat : Int), .slice A n c] rfl)
    go_wp2_with (first | ((with_reducible show wpList _ _ _ (⟨some 52, _, _, _, _, _⟩ :: _) _ _); refine wpList_load_rng 37 (.tmp 2) rfl (by kernel_rfl) _ _ rfl _ R52.out _ Try.underlying37 rfl (by kernel_rfl) ?_))
    try clear R52
    go_wp2_with fail
    with_reducible refine (lget_no_xid _ hT (by decide) (by decide) (by decide) (by decide) HO2.out (mac_b HMB.out) HX2.out).mono ?_
    rintro e w12 ⟨rfl, hT_, k_, bb⟩
    replace hmb := Kt.blk k_ hmb (by decide)
    clear hT
    have hT := hT_
    replace bel := bel.trans bb
    clear bb k_ hT_
    go_wp2_with fail
    with_reducible refine (lstate _ hT).mono ?_
    rintro e _ ⟨rfl, rfl⟩
    go_wp2_with fail
    go_ret
    exact ⟨rfl, bel⟩
  have hx2 : (h.xid == draw) = true := beq_iff_eq.2 hx_
  clear hx_
  rcases HMB : ([h.m0, h.m1, h.m2, h.m3, h.m4, h.m5] == [2, 0, 0, 0, 0, 2]) with _ | _
  rotate_left
  · have e29 := mac_b HMB
    clear HMB
    go_wp2_with fail
    replace bel := bel.drew
    replace hmb : w2.drew.heap[g2]? = _ := hmb
    replace en := en.drew
    refine wp_region_held_drew (S := fun W => W.heap[g2]? = some (.cells #[.int .i64 h.op, .int .i64 h.hops, .int .u32 h.xid, .int .i64 h.secs, .int .i64 h.flags, .int .u8 (h.c0.toNat : Int), .int .u8 (h.c1.toNat : Int), .int .u8 (h.c2.toNat : Int), .int .u8 (h.c3.toNat : Int), .int .u8 (h.y0.toNat : Int), .int .u8 (h.y1.toNat : Int), .int .u8 (h.y2.toNat : Int), .int .u8 (h.y3.toNat : Int), .int .u8 (h.s0.toNat : Int), .int .u8 (h.s1.toNat : Int), .int .u8 (h.s2.toNat : Int), .int .u8 (h.s3.toNat : Int), .int .u8 (h.r0.toNat : Int), .int .u8 (h.r1.toNat : Int), .int .u8 (h.r2.toNat : Int), .int .u8 (h.r3.toNat : Int), .int .u8 (h.m0.toNat : Int), .int .u8 (h.m1.toNat : Int), .int .u8 (h.m2.toNat : Int), .int .u8 (h.m3.toNat : Int), .int .u8 (h.m4.toNat : Int), .int .u8 (h.m5.toNat : Int), .slice A n c] 37 (0, 0))) (by kernel_rfl) hmb (fun hH => ?_)
    generalize w2.drew = w3 at bel hmb en hH ⊢
    refine wpAnyH_take (i := 0) (v := .agg #[.int .i64 h.op, .int .i64 h.hops, .int .u32 h.xid, .int .i64 h.secs, .int .i64 h.flags, .int .u8 (h.c0.toNat : Int), .int .u8 (h.c1.toNat : Int), .int .u8 (h.c2.toNat : Int), .int .u8 (h.c3.toNat : Int), .int .u8 (h.y0.toNat : Int), .int .u8 (h.y1.toNat : Int), .int .u8 (h.y2.toNat : Int), .int .u8 (h.y3.toNat : Int), .int .u8 (h.s0.toNat : Int), .int .u8 (h.s1.toNat : Int), .int .u8 (h.s2.toNat : Int), .int .u8 (h.s3.toNat : Int), .int .u8 (h.r0.toNat : Int), .int .u8 (h.r1.toNat : Int), .int .u8 (h.r2.toNat : Int), .int .u8 (h.r3.toNat : Int), .int .u8 (h.m0.toNat : Int), .int .u8 (h.m1.toNat : Int), .int .u8 (h.m2.toNat : Int), .int .u8 (h.m3.toNat : Int), .int .u8 (h.m4.toNat : Int), .int .u8 (h.m5.toNat : Int), .slice A n c]) rfl (by kernel_rfl) (by kernel_rfl) (by kernel_rfl) (fun _ _ _ h => h) (yieldsIf_load_part (by kernel_rfl) 37 _ rfl g2 0 28 rfl _ 37 (0, 0) (fun W hW => hW) _ rfl _ Try.underlying37 rfl (by kernel_rfl)) hH ?_
    simp only [Act.put, List.getElem_toArray, List.getElem_cons_zero, List.setIfInBounds_toArray, List.set_cons_zero, List.set_cons_succ]
    refine wpAnyH_ready (rs := [1]) (by kernel_rfl) (by simp) ?_
    refine AllReadyH.cons (o := _) rfl (fun K hK => ?_) AllReadyH.nil
    simp only [List.getElem_toArray, List.getElem_cons_zero, List.getElem_cons_succ]
    go_simp
    with_reducible refine (lgreat_b (h := h) _ en HG.out).mono ?_
    rintro e w4 ⟨rfl, b4⟩
    dsimp only
    replace hmb := blk_u hmb b4
    replace en := en.below b4
    replace bel := bel.trans (b4.mono bel.size)
    clear b4
    refine hK.out _ _ hmb (fun hH5 => ?_)
    clear hK K
    refine wpAnyH_take (i := 2) (v := ?_) rfl (by kernel_rfl) (by kernel_rfl) (by kernel_rfl) (fun _ _ _ h => h) (Or.inl ⟨by rfl, ?_⟩) hH5 ?_
    rotate_left
    · ((intro W hW; clear hW; go_simp) <;> with_reducible rfl)
    simp only [Act.put, List.getElem_toArray, List.getElem_cons_zero, List.getElem_cons_succ, List.setIfInBounds_toArray, List.set_cons_zero, List.set_cons_succ]
    refine wpAnyH_take (i := 3) (v := ?_) rfl (by kernel_rfl) (by kernel_rfl) (by kernel_rfl) (fun _ _ _ h => h) (Or.inl ⟨by rfl, ?_⟩) hH5 ?_
    rotate_left
    · ((intro W hW; clear hW; go_simp) <;> with_reducible rfl)
    simp only [Act.put, List.getElem_toArray, List.getElem_cons_zero, List.getElem_cons_succ, List.setIfInBounds_toArray, List.set_cons_zero, List.set_cons_succ]
    refine wpAnyH_take (i := 4) (v := ?_) rfl (by kernel_rfl) (by kernel_rfl) (by kernel_rfl) (fun _ _ _ h => h) (Or.inl ⟨by rfl, ?_⟩) hH5 ?_
    rotate_left
    · ((intro W hW; have hk := cell_lit (hW) 0 _ rfl; clear hW; go_simp) <;> with_reducible rfl)
    simp only [Act.put, List.getElem_toArray, List.getElem_cons_zero, List.getElem_cons_succ, List.setIfInBounds_toArray, List.set_cons_zero, List.set_cons_succ]
    refine wpAnyH_take (i := 5) (v := ?_) rfl (by kernel_rfl) (by kernel_rfl) (by kernel_rfl) (fun _ _ _ h => h) (Or.inl ⟨by rfl, ?_⟩) hH5 ?_
    rotate_left
    · ((intro W hW; clear hW; go_simp) <;> with_reducible rfl)
    simp only [Act.put, List.getElem_toArray, List.getElem_cons_zero, List.getElem_cons_succ, List.setIfInBounds_toArray, List.set_cons_zero, List.set_cons_succ]
    refine wpAnyH_take (i := 6) (v := ?_) rfl (by kernel_rfl) (by kernel_rfl) (by kernel_rfl) (fun _ _ _ h => h) (Or.inl ⟨by rfl, ?_⟩) hH5 ?_
    rotate_left
    · ((intro W hW; clear hW; go_simp) <;> with_reducible rfl)
    simp only [Act.put, List.getElem_toArray, List.getElem_cons_zero, List.getElem_cons_succ, List.setIfInBounds_toArray, List.set_cons_zero, List.set_cons_succ]
    refine wpAnyH_take (i := 7) (v := ?_) rfl (by kernel_rfl) (by kernel_rfl) (by kernel_rfl) (fun _ _ _ h => h) (Or.inl ⟨by rfl, ?_⟩) hH5 ?_
    rotate_left
    · ((intro W hW; clear hW; go_simp) <;> with_reducible rfl)
    simp only [Act.put, List.getElem_toArray, List.getElem_cons_zero, List.getElem_cons_succ, List.setIfInBounds_toArray, List.set_cons_zero, List.set_cons_succ]
    refine wpAnyH_take (i := 8) (v := ?_) rfl (by kernel_rfl) (by kernel_rfl) (by kernel_rfl) (fun _ _ _ h => h) (Or.inl ⟨by rfl, ?_⟩) hH5 ?_
    rotate_left
    · ((intro W hW; have hk := cell_lit (hW) 2 _ rfl; clear hW; go_simp) <;> with_reducible rfl)
    simp only [Act.put, List.getElem_toArray, List.getElem_cons_zero, List.getElem_cons_succ, List.setIfInBounds_toArray, List.set_cons_zero, List.set_cons_succ]
    refine wpAnyH_take (i := 9) (v := ?_) rfl (by kernel_rfl) (by kernel_rfl) (by kernel_rfl) (fun _ _ _ h => h) (Or.inl ⟨by rfl, ?_⟩) hH5 ?_
    rotate_left
    · ((intro W hW; clear hW; go_simp) <;> with_reducible rfl)
    simp only [Act.put, List.getElem_toArray, List.getElem_cons_zero, List.getElem_cons_succ, List.setIfInBounds_toArray, List.set_cons_zero, List.set_cons_succ]
    refine wpAnyH_take (i := 10) (v := ?_) rfl (by kernel_rfl) (by kernel_rfl) (by kernel_rfl) (fun _ _ _ h => h) (Or.inl ⟨by rfl, ?_⟩) hH5 ?_
    rotate_left
    · ((intro W hW; clear hW; go_simp) <;> with_reducible rfl)
    simp only [Act.put, List.getElem_toArray, List.getElem_cons_zero, List.getElem_cons_succ, List.setIfInBounds_toArray, List.set_cons_zero, List.set_cons_succ]
    refine wpAnyH_take (i := 11) (v := ?_) rfl (by kernel_rfl) (by kernel_rfl) (by kernel_rfl) (fun _ _ _ h => h) (Or.inl ⟨by rfl, ?_⟩) hH5 ?_
    rotate_left
    · ((intro W hW; clear hW; go_simp) <;> with_reducible rfl)
    simp only [Act.put, List.getElem_toArray, List.getElem_cons_zero, List.getElem_cons_succ, List.setIfInBounds_toArray, List.set_cons_zero, List.set_cons_succ]
    refine wpAnyH_take (i := 12) (v := ?_) rfl (by kernel_rfl) (by kernel_rfl) (by kernel_rfl) (fun _ _ _ h => h) (Or.inl ⟨by rfl, ?_⟩) hH5 ?_
    rotate_left
    · ((intro W hW; clear hW; go_simp) <;> with_reducible rfl)
    simp only [Act.put, List.getElem_toArray, List.getElem_cons_zero, List.getElem_cons_succ, List.setIfInBounds_toArray, List.set_cons_zero, List.set_cons_succ]
    refine wpAnyH_take (i := 13) (v := ?_) rfl (by kernel_rfl) (by kernel_rfl) (by kernel_rfl) (fun _ _ _ h => h) (Or.inl ⟨by rfl, ?_⟩) hH5 ?_
    rotate_left
    · ((intro W hW; clear hW; go_simp) <;> with_reducible rfl)
    simp only [Act.put, List.getElem_toArray, List.getElem_cons_zero, List.getElem_cons_succ, List.setIfInBounds_toArray, List.set_cons_zero, List.set_cons_succ]
    refine wpAnyH_take (i := 14) (v := .agg #[.int .u8 (h.m0.toNat : Int), .int .u8 (h.m1.toNat : Int), .int .u8 (h.m2.toNat : Int), .int .u8 (h.m3.toNat : Int), .int .u8 (h.m4.toNat : Int), .int .u8 (h.m5.toNat : Int)]) rfl (by kernel_rfl) (by kernel_rfl) (by kernel_rfl) (fun _ _ _ h => h) (yieldsIf_load_part (by kernel_rfl) 26 _ rfl g2 21 6 rfl _ 37 (0, 0) (fun W hW => hW) _ rfl _ Try.underlying26 rfl (by kernel_rfl)) hH5 ?_
    simp only [Act.put, List.getElem_toArray, List.getElem_cons_zero, List.getElem_cons_succ, List.setIfInBounds_toArray, List.set_cons_zero, List.set_cons_succ]
    refine wpAnyH_ready (rs := [15]) (by kernel_rfl) (by simp) ?_
    refine AllReadyH.cons (o := _) rfl (fun K hK => ?_) AllReadyH.nil
    simp only [List.getElem_toArray, List.getElem_cons_zero, List.getElem_cons_succ]
    go_simp
    with_reducible refine (lmac _).mono ?_
    rintro e w6 ⟨rfl, b6⟩
    dsimp only
    replace hmb := blk_u hmb b6
    replace en := en.below b6
    replace bel := bel.trans (b6.mono bel.size)
    clear b6
    refine hK.out _ _ hmb (fun hH7 => ?_)
    clear hK K
    refine wpAnyH_take (i := 16) (v := ?_) rfl (by kernel_rfl) (by kernel_rfl) (by kernel_rfl) (fun _ _ _ h => h) (Or.inl ⟨by rfl, ?_⟩) hH7 ?_
    rotate_left
    · ((intro W hW; clear hW; go_simp) <;> with_reducible rfl)
    simp only [Act.put, List.getElem_toArray, List.getElem_cons_zero, List.getElem_cons_succ, List.setIfInBounds_toArray, List.set_cons_zero, List.set_cons_succ]
    refine wpAnyH_take (i := 17) (v := ?_) rfl (by kernel_rfl) (by kernel_rfl) (by kernel_rfl) (fun _ _ _ h => h) (Or.inl ⟨by rfl, ?_⟩) hH7 ?_
    rotate_left
    · ((intro W hW; clear hW; go_simp) <;> with_reducible rfl)
    simp only [Act.put, List.getElem_toArray, List.getElem_cons_zero, List.getElem_cons_succ, List.setIfInBounds_toArray, List.set_cons_zero, List.set_cons_succ]
    refine wpAnyH_take (i := 18) (v := ?_) rfl (by kernel_rfl) (by kernel_rfl) (by kernel_rfl) (fun _ _ _ h => h) (Or.inl ⟨by rfl, ?_⟩) hH7 ?_
    rotate_left
    · ((intro W hW; clear hW; go_simp) <;> with_reducible rfl)
    simp only [Act.put, List.getElem_toArray, List.getElem_cons_zero, List.getElem_cons_succ, List.setIfInBounds_toArray, List.set_cons_zero, List.set_cons_succ]
    refine wpAnyH_done (by kernel_rfl) ?_ _
    go_wp2_with fail
    go_ret
    exact ⟨rfl, bel⟩
  have HM := Lib.hid HMB
  have e29 := mac_b HMB
  clear HMB
  go_wp2_with fail
  replace bel := bel.drew
  replace hmb : w2.drew.heap[g2]? = _ := hmb
  replace en := en.drew
  refine wp_region_held_drew (S := fun W => W.heap[g2]? = some (.cells #[.int .i64 h.op, .int .i64 h.hops, .int .u32 h.xid, .int .i64 h.secs, .int .i64 h.flags, .int .u8 (h.c0.toNat : Int), .int .u8 (h.c1.toNat : Int), .int .u8 (h.c2.toNat : Int), .int .u8 (h.c3.toNat : Int), .int .u8 (h.y0.toNat : Int), .int .u8 (h.y1.toNat : Int), .int .u8 (h.y2.toNat : Int), .int .u8 (h.y3.toNat : Int), .int .u8 (h.s0.toNat : Int), .int .u8 (h.s1.toNat : Int), .int .u8 (h.s2.toNat : Int), .int .u8 (h.s3.toNat : Int), .int .u8 (h.r0.toNat : Int), .int .u8 (h.r1.toNat : Int), .int .u8 (h.r2.toNat : Int), .int .u8 (h.r3.toNat : Int), .int .u8 (h.m0.toNat : Int), .int .u8 (h.m1.toNat : Int), .int .u8 (h.m2.toNat : Int), .int .u8 (h.m3.toNat : Int), .int .u8 (h.m4.toNat : Int), .int .u8 (h.m5.toNat : Int), .slice A n c] 37 (0, 0))) (by kernel_rfl) hmb (fun hH => ?_)
  generalize w2.drew = w3 at bel hmb en hH ⊢
  refine wpAnyH_take (i := 0) (v := .agg #[.int .i64 h.op, .int .i64 h.hops, .int .u32 h.xid, .int .i64 h.secs, .int .i64 h.flags, .int .u8 (h.c0.toNat : Int), .int .u8 (h.c1.toNat : Int), .int .u8 (h.c2.toNat : Int), .int .u8 (h.c3.toNat : Int), .int .u8 (h.y0.toNat : Int), .int .u8 (h.y1.toNat : Int), .int .u8 (h.y2.toNat : Int), .int .u8 (h.y3.toNat : Int), .int .u8 (h.s0.toNat : Int), .int .u8 (h.s1.toNat : Int), .int .u8 (h.s2.toNat : Int), .int .u8 (h.s3.toNat : Int), .int .u8 (h.r0.toNat : Int), .int .u8 (h.r1.toNat : Int), .int .u8 (h.r2.toNat : Int), .int .u8 (h.r3.toNat : Int), .int .u8 (h.m0.toNat : Int), .int .u8 (h.m1.toNat : Int), .int .u8 (h.m2.toNat : Int), .int .u8 (h.m3.toNat : Int), .int .u8 (h.m4.toNat : Int), .int .u8 (h.m5.toNat : Int), .slice A n c]) rfl (by kernel_rfl) (by kernel_rfl) (by kernel_rfl) (fun _ _ _ h => h) (yieldsIf_load_part (by kernel_rfl) 37 _ rfl g2 0 28 rfl _ 37 (0, 0) (fun W hW => hW) _ rfl _ Try.underlying37 rfl (by kernel_rfl)) hH ?_
  simp only [Act.put, List.getElem_toArray, List.getElem_cons_zero, List.setIfInBounds_toArray, List.set_cons_zero, List.set_cons_succ]
  refine wpAnyH_ready (rs := [1]) (by kernel_rfl) (by simp) ?_
  refine AllReadyH.cons (o := _) rfl (fun K hK => ?_) AllReadyH.nil
  simp only [List.getElem_toArray, List.getElem_cons_zero, List.getElem_cons_succ]
  go_simp
  with_reducible refine (lgreat_b (h := h) _ en HG.out).mono ?_
  rintro e w4 ⟨rfl, b4⟩
  dsimp only
  replace hmb := blk_u hmb b4
  replace en := en.below b4
  replace bel := bel.trans (b4.mono bel.size)
  clear b4
  refine hK.out _ _ hmb (fun hH5 => ?_)
  clear hK K
  refine wpAnyH_take (i := 2) (v := ?_) rfl (by kernel_rfl) (by kernel_rfl) (by kernel_rfl) (fun _ _ _ h => h) (Or.inl ⟨by rfl, ?_⟩) hH5 ?_
  rotate_left
  · ((intro W hW; clear hW; go_simp) <;> with_reducible rfl)
  simp only [Act.put, List.getElem_toArray, List.getElem_cons_zero, List.getElem_cons_succ, List.setIfInBounds_toArray, List.set_cons_zero, List.set_cons_succ]
  refine wpAnyH_take (i := 3) (v := ?_) rfl (by kernel_rfl) (by kernel_rfl) (by kernel_rfl) (fun _ _ _ h => h) (Or.inl ⟨by rfl, ?_⟩) hH5 ?_
  rotate_left
  · ((intro W hW; clear hW; go_simp) <;> with_reducible rfl)
  simp only [Act.put, List.getElem_toArray, List.getElem_cons_zero, List.getElem_cons_succ, List.setIfInBounds_toArray, List.set_cons_zero, List.set_cons_succ]
  refine wpAnyH_take (i := 4) (v := ?_) rfl (by kernel_rfl) (by kernel_rfl) (by kernel_rfl) (fun _ _ _ h => h) (Or.inl ⟨by rfl, ?_⟩) hH5 ?_
  rotate_left
  · ((intro W hW; have hk := cell_lit (hW) 0 _ rfl; clear hW; go_simp) <;> with_reducible rfl)
  simp only [Act.put, List.getElem_toArray, List.getElem_cons_zero, List.getElem_cons_succ, List.setIfInBounds_toArray, List.set_cons_zero, List.set_cons_succ]
  refine wpAnyH_take (i := 5) (v := ?_) rfl (by kernel_rfl) (by kernel_rfl) (by kernel_rfl) (fun _ _ _ h => h) (Or.inl ⟨by rfl, ?_⟩) hH5 ?_
  rotate_left
  · ((intro W hW; clear hW; go_simp) <;> with_reducible rfl)
  simp only [Act.put, List.getElem_toArray, List.getElem_cons_zero, List.getElem_cons_succ, List.setIfInBounds_toArray, List.set_cons_zero, List.set_cons_succ]
  refine wpAnyH_take (i := 6) (v := ?_) rfl (by kernel_rfl) (by kernel_rfl) (by kernel_rfl) (fun _ _ _ h => h) (Or.inl ⟨by rfl, ?_⟩) hH5 ?_
  rotate_left
  · ((intro W hW; clear hW; go_simp) <;> with_reducible rfl)
  simp only [Act.put, List.getElem_toArray, List.getElem_cons_zero, List.getElem_cons_succ, List.setIfInBounds_toArray, List.set_cons_zero, List.set_cons_succ]
  refine wpAnyH_take (i := 7) (v := ?_) rfl (by kernel_rfl) (by kernel_rfl) (by kernel_rfl) (fun _ _ _ h => h) (Or.inl ⟨by rfl, ?_⟩) hH5 ?_
  rotate_left
  · ((intro W hW; clear hW; go_simp) <;> with_reducible rfl)
  simp only [Act.put, List.getElem_toArray, List.getElem_cons_zero, List.getElem_cons_succ, List.setIfInBounds_toArray, List.set_cons_zero, List.set_cons_succ]
  refine wpAnyH_take (i := 8) (v := ?_) rfl (by kernel_rfl) (by kernel_rfl) (by kernel_rfl) (fun _ _ _ h => h) (Or.inl ⟨by rfl, ?_⟩) hH5 ?_
  rotate_left
  · ((intro W hW; have hk := cell_lit (hW) 2 _ rfl; clear hW; go_simp) <;> with_reducible rfl)
  simp only [Act.put, List.getElem_toArray, List.getElem_cons_zero, List.getElem_cons_succ, List.setIfInBounds_toArray, List.set_cons_zero, List.set_cons_succ]
  refine wpAnyH_take (i := 9) (v := ?_) rfl (by kernel_rfl) (by kernel_rfl) (by kernel_rfl) (fun _ _ _ h => h) (Or.inl ⟨by rfl, ?_⟩) hH5 ?_
  rotate_left
  · ((intro W hW; clear hW; go_simp) <;> with_reducible rfl)
  simp only [Act.put, List.getElem_toArray, List.getElem_cons_zero, List.getElem_cons_succ, List.setIfInBounds_toArray, List.set_cons_zero, List.set_cons_succ]
  refine wpAnyH_take (i := 10) (v := ?_) rfl (by kernel_rfl) (by kernel_rfl) (by kernel_rfl) (fun _ _ _ h => h) (Or.inl ⟨by rfl, ?_⟩) hH5 ?_
  rotate_left
  · ((intro W hW; clear hW; go_simp) <;> with_reducible rfl)
  simp only [Act.put, List.getElem_toArray, List.getElem_cons_zero, List.getElem_cons_succ, List.setIfInBounds_toArray, List.set_cons_zero, List.set_cons_succ]
  refine wpAnyH_take (i := 11) (v := ?_) rfl (by kernel_rfl) (by kernel_rfl) (by kernel_rfl) (fun _ _ _ h => h) (Or.inl ⟨by rfl, ?_⟩) hH5 ?_
  rotate_left
  · ((intro W hW; clear hW; go_simp) <;> with_reducible rfl)
  simp only [Act.put, List.getElem_toArray, List.getElem_cons_zero, List.getElem_cons_succ, List.setIfInBounds_toArray, List.set_cons_zero, List.set_cons_succ]
  refine wpAnyH_take (i := 12) (v := ?_) rfl (by kernel_rfl) (by kernel_rfl) (by kernel_rfl) (fun _ _ _ h => h) (Or.inl ⟨by rfl, ?_⟩) hH5 ?_
  rotate_left
  · ((intro W hW; clear hW; go_simp) <;> with_reducible rfl)
  simp only [Act.put, List.getElem_toArray, List.getElem_cons_zero, List.getElem_cons_succ, List.setIfInBounds_toArray, List.set_cons_zero, List.set_cons_succ]
  refine wpAnyH_take (i := 13) (v := ?_) rfl (by kernel_rfl) (by kernel_rfl) (by kernel_rfl) (fun _ _ _ h => h) (Or.inl ⟨by rfl, ?_⟩) hH5 ?_
  rotate_left
  · ((intro W hW; clear hW; go_simp) <;> with_reducible rfl)
  simp only [Act.put, List.getElem_toArray, List.getElem_cons_zero, List.getElem_cons_succ, List.setIfInBounds_toArray, List.set_cons_zero, List.set_cons_succ]
  refine wpAnyH_take (i := 14) (v := .agg #[.int .u8 (h.m0.toNat : Int), .int .u8 (h.m1.toNat : Int), .int .u8 (h.m2.toNat : Int), .int .u8 (h.m3.toNat : Int), .int .u8 (h.m4.toNat : Int), .int .u8 (h.m5.toNat : Int)]) rfl (by kernel_rfl) (by kernel_rfl) (by kernel_rfl) (fun _ _ _ h => h) (yieldsIf_load_part (by kernel_rfl) 26 _ rfl g2 21 6 rfl _ 37 (0, 0) (fun W hW => hW) _ rfl _ Try.underlying26 rfl (by kernel_rfl)) hH5 ?_
  simp only [Act.put, List.getElem_toArray, List.getElem_cons_zero, List.getElem_cons_succ, List.setIfInBounds_toArray, List.set_cons_zero, List.set_cons_succ]
  refine wpAnyH_ready (rs := [15]) (by kernel_rfl) (by simp) ?_
  refine AllReadyH.cons (o := _) rfl (fun K hK => ?_) AllReadyH.nil
  simp only [List.getElem_toArray, List.getElem_cons_zero, List.getElem_cons_succ]
  go_simp
  with_reducible refine (lmac _).mono ?_
  rintro e w6 ⟨rfl, b6⟩
  dsimp only
  replace hmb := blk_u hmb b6
  replace en := en.below b6
  replace bel := bel.trans (b6.mono bel.size)
  clear b6
  refine hK.out _ _ hmb (fun hH7 => ?_)
  clear hK K
  refine wpAnyH_take (i := 16) (v := ?_) rfl (by kernel_rfl) (by kernel_rfl) (by kernel_rfl) (fun _ _ _ h => h) (Or.inl ⟨by rfl, ?_⟩) hH7 ?_
  rotate_left
  · ((intro W hW; clear hW; go_simp) <;> with_reducible rfl)
  simp only [Act.put, List.getElem_toArray, List.getElem_cons_zero, List.getElem_cons_succ, List.setIfInBounds_toArray, List.set_cons_zero, List.set_cons_succ]
  refine wpAnyH_take (i := 17) (v := ?_) rfl (by kernel_rfl) (by kernel_rfl) (by kernel_rfl) (fun _ _ _ h => h) (Or.inl ⟨by rfl, ?_⟩) hH7 ?_
  rotate_left
  · ((intro W hW; clear hW; go_simp) <;> with_reducible rfl)
  simp only [Act.put, List.getElem_toArray, List.getElem_cons_zero, List.getElem_cons_succ, List.setIfInBounds_toArray, List.set_cons_zero, List.set_cons_succ]
  refine wpAnyH_take (i := 18) (v := ?_) rfl (by kernel_rfl) (by kernel_rfl) (by kernel_rfl) (fun _ _ _ h => h) (Or.inl ⟨by rfl, ?_⟩) hH7 ?_
  rotate_left
  · ((intro W hW; clear hW; go_simp) <;> with_reducible rfl)
  simp only [Act.put, List.getElem_toArray, List.getElem_cons_zero, List.getElem_cons_succ, List.setIfInBounds_toArray, List.set_cons_zero, List.set_cons_succ]
  refine wpAnyH_done (by kernel_rfl) ?_ _
  go_wp2_with fail
  with_reducible refine (lmac _).mono ?_
  rintro e w8 ⟨rfl, b8⟩
  replace hmb := blk_u hmb b8
  replace en := en.below b8
  replace bel := bel.trans (b8.mono bel.size)
  clear b8
  go_wp2_with fail
  have HLO_ := bel.size
  with_reducible refine (lnew _).mono ?_
  rintro e w9 ⟨gc, rfl, hT, b9⟩
  replace hmb := blk_u hmb b9
  replace en := en.below b9
  replace bel := bel.trans (b9.mono bel.size)
  clear b9
  replace hT : Cl w.heap.size gc w9 #[.int .u8 2, .int .u8 0, .int .u8 0, .int .u8 0, .int .u8 0, .int .u8 2, .int .i64 0, .int .i64 0, .int .u32 0, .int .i64 0, .int .i64 0, .int .i64 0, .int .u8 0, .int .u8 0, .int .u8 0, .int .u8 0, .int .u8 0, .int .u8 0, .int .u8 0, .int .u8 0, .int .u8 0, .int .u8 0, .int .u8 0, .int .u8 0, .int .u8 0, .int .u8 0, .int .u8 0, .int .u8 0, .int .i64 0, .int .i64 0, .int .i64 0] := hT.lo_mono HLO_
  clear HLO_
  go_wp2_with fail
  go_wp2_with fail
  with_reducible refine (ltick_new _ hT (by decide) (by decide)).mono ?_
  rintro e w10 ⟨g_x, rfl, _, hT_, k_, bb⟩
  replace hmb := Kt.blk k_ hmb (by decide)
  clear en
  clear hT
  have hT := hT_
  replace bel := bel.trans bb
  clear bb k_ hT_
  have R39 := Lib.hid (range_lit hmb 0 28 [.int .i64 h.op, .int .i64 h.hops, .int .u32 h.xid, .int .i64 h.secs, .int .i64 h.flags, .int .u8 (h.c0.toNat : Int), .int .u8 (h.c1.toNat : Int), .int .u8 (h.c2.toNat : Int), .int .u8 (h.c3.toNat : Int), .int .u8 (h.y0.toNat : Int), .int .u8 (h.y1.toNat : Int), .int .u8 (h.y2.toNat : Int), .int .u8 (h.y3.toNat : Int), .int .u8 (h.s0.toNat : Int), .int .u8 (h.s1.toNat : Int), .int .u8 (h.s2.toNat : Int), .int .u8 (h.s3.toNat : Int), .int .u8 (h.r0.toNat : Int), .int .u8 (h.r1.toNat : Int), .int .u8 (h.r2.toNat : Int), .int .u8 (h.r3.toNat : Int), .int .u8 (h.m0.toNat : Int), .int .u8 (h.m1.toNat : Int), .int .u8 (h.m2.toNat : Int), .int .u8 (h.m3.toNat : Int), .int .u8 (h.m4.toNat : Int), .int .u8 (h.m5.toNat : Int), .slice A n c] rfl)
  go_wp2_with (first | ((with_reducible show wpList _ _ _ (⟨some 39, _, _, _, _, _⟩ :: _) _ _); refine wpList_load_rng 37 (.tmp 2) rfl (by kernel_rfl) _ _ rfl _ R39.out _ Try.underlying37 rfl (by kernel_rfl) ?_))
  try clear R39
  go_wp2_with fail
  with_reducible refine (lget_no_mac _ hT (by decide) (by decide) (by decide) (by decide) HO2.out (mac_b HM.out)).mono ?_
  rintro e w11 ⟨rfl, hT_, k_, bb⟩
  replace hmb := Kt.blk k_ hmb (by decide)
  clear hT
  have hT := hT_
  replace bel := bel.trans bb
  clear bb k_ hT_
  go_wp2_with fail
  with_reducible refine (lstate _ hT).mono ?_
  rintro e _ ⟨rfl, rfl⟩
  go_wp2_with fail
  with_reducible refine (lword (kb := 2) _ rfl).mono ?_
  rintro e w12 ⟨Ao, co, rfl, hw_, b12⟩
  replace hmb := blk_u hmb b12
  replace hT := hT.below b12
  replace bel := bel.trans (b12.mono bel.size)
  clear b12
  obtain ⟨hso, ho⟩ := hw_
  go_wp2_with fail
  go_wp2_with fail
  with_reducible refine (lget_off _ hT (by decide) (by decide) ho (fun W => by kernel_rfl) (wl_2 _) (wl_54 _ _) (fun W => by kernel_rfl) by_5).mono ?_
  rintro e w13 ⟨g_x, rfl, _, hT_, k_, bb⟩
  replace hmb := Kt.blk k_ hmb (by decide)
  replace ho := ho.kt k_
  clear hT
  have hT := hT_
  replace bel := bel.trans bb
  clear bb k_ hT_
  clear ho
  have R52 := Lib.hid (range_lit hmb 0 28 [.int .i64 h.op, .int .i64 h.hops, .int .u32 h.xid, .int .i64 h.secs, .int .i64 h.flags, .int .u8 (h.c0.toNat : Int), .int .u8 (h.c1.toNat : Int), .int .u8 (h.c2.toNat : Int), .int .u8 (h.c3.toNat : Int), .int .u8 (h.y0.toNat : Int), .int .u8 (h.y1.toNat : Int), .int .u8 (h.y2.toNat : Int), .int .u8 (h.y3.toNat : Int), .int .u8 (h.s0.toNat : Int), .int .u8 (h.s1.toNat : Int), .int .u8 (h.s2.toNat : Int), .int .u8 (h.s3.toNat : Int), .int .u8 (h.r0.toNat : Int), .int .u8 (h.r1.toNat : Int), .int .u8 (h.r2.toNat : Int), .int .u8 (h.r3.toNat : Int), .int .u8 (h.m0.toNat : Int), .int .u8 (h.m1.toNat : Int), .int .u8 (h.m2.toNat : Int), .int .u8 (h.m3.toNat : Int), .int .u8 (h.m4.toNat : Int), .int .u8 (h.m5.toNat : Int), .slice A n c] rfl)
  go_wp2_with (first | ((with_reducible show wpList _ _ _ (⟨some 52, _, _, _, _, _⟩ :: _) _ _); refine wpList_load_rng 37 (.tmp 2) rfl (by kernel_rfl) _ _ rfl _ R52.out _ Try.underlying37 rfl (by kernel_rfl) ?_))
  try clear R52
  go_wp2_with fail
  with_reducible refine (lget_no_mac _ hT (by decide) (by decide) (by decide) (by decide) HO2.out (mac_b HM.out)).mono ?_
  rintro e w14 ⟨rfl, hT_, k_, bb⟩
  replace hmb := Kt.blk k_ hmb (by decide)
  clear hT
  have hT := hT_
  replace bel := bel.trans bb
  clear bb k_ hT_
  go_wp2_with fail
  with_reducible refine (lstate _ hT).mono ?_
  rintro e _ ⟨rfl, rfl⟩
  go_wp2_with fail
  go_ret
  exact ⟨rfl, bel⟩
set_option linter.unusedVariables false in
set_option linter.unusedSimpArgs false in
theorem leaseStrange_walk (op hops xid secs flags : Int) (c0 c1 c2 c3 y0 y1 y2 y3 s0 s1 s2 s3 r0 r1 r2 r3 m0 m1 m2 m3 m4 m5 : UInt8) (A : Option Addr) (n c : Nat) (hs : List Oh) (L : OptL) (draw : Int) (w : World) (wf : (Lit.int .u32 xid).wf = true) (en : Sle opE 2 w A n c hs) (hbd : Bd w hs L) : Calls Try.prog 5 #[.agg #[.int .i64 op, .int .i64 hops, .int .u32 xid, .int .i64 secs, .int .i64 flags, .int .u8 (c0.toNat : Int), .int .u8 (c1.toNat : Int), .int .u8 (c2.toNat : Int), .int .u8 (c3.toNat : Int), .int .u8 (y0.toNat : Int), .int .u8 (y1.toNat : Int), .int .u8 (y2.toNat : Int), .int .u8 (y3.toNat : Int), .int .u8 (s0.toNat : Int), .int .u8 (s1.toNat : Int), .int .u8 (s2.toNat : Int), .int .u8 (s3.toNat : Int), .int .u8 (r0.toNat : Int), .int .u8 (r1.toNat : Int), .int .u8 (r2.toNat : Int), .int .u8 (r3.toNat : Int), .int .u8 (m0.toNat : Int), .int .u8 (m1.toNat : Int), .int .u8 (m2.toNat : Int), .int .u8 (m3.toNat : Int), .int .u8 (m4.toNat : Int), .int .u8 (m5.toNat : Int), .slice A n c], .int .u32 draw] w fun e w' => e = .returned (.bool true) ∧ Below w.heap.size w w' :=
  leaseStrange_h ⟨op, hops, xid, secs, flags, c0, c1, c2, c3, y0, y1, y2, y3, s0, s1, s2, s3, r0, r1, r2, r3, m0, m1, m2, m3, m4, m5⟩ draw w en
end Go.Proofs.Ytjfboofnffghjaa
