/- DhcpWrites. -/
import Derived.Test.YtmljgpefbbifmaaDh8
namespace Go.Proofs.Ytmljgpefbbifmaa
open Go.RowKit

set_option linter.unusedVariables false in
set_option linter.unusedSimpArgs false in
set_option maxRecDepth 100000 in
set_option maxHeartbeats 16000000 in
theorem dhcpWrites_walk (h : Mh) (A : Option Addr) (n c : Nat) (hs : List Oh) (L : OptL) (w : World) (en : Sle opE 2 w A n c hs) (hbd : Bd w hs L) (h0 : 0 ≤ h.xid) (h1 : h.xid < 4294967296) : Calls Try.prog 5 #[.agg #[.int .i64 h.op, .int .i64 h.hops, .int .u32 h.xid, .int .i64 h.secs, .int .i64 h.flags, .int .u8 (h.c0.toNat : Int), .int .u8 (h.c1.toNat : Int), .int .u8 (h.c2.toNat : Int), .int .u8 (h.c3.toNat : Int), .int .u8 (h.y0.toNat : Int), .int .u8 (h.y1.toNat : Int), .int .u8 (h.y2.toNat : Int), .int .u8 (h.y3.toNat : Int), .int .u8 (h.s0.toNat : Int), .int .u8 (h.s1.toNat : Int), .int .u8 (h.s2.toNat : Int), .int .u8 (h.s3.toNat : Int), .int .u8 (h.r0.toNat : Int), .int .u8 (h.r1.toNat : Int), .int .u8 (h.r2.toNat : Int), .int .u8 (h.r3.toNat : Int), .int .u8 (h.m0.toNat : Int), .int .u8 (h.m1.toNat : Int), .int .u8 (h.m2.toNat : Int), .int .u8 (h.m3.toNat : Int), .int .u8 (h.m4.toNat : Int), .int .u8 (h.m5.toNat : Int), .slice A n c]] w fun e w' => e = .returned (.bool true) ∧ Below w.heap.size w w' := by
  have HBD := Lib.hid hbd
  clear hbd
  obtain ⟨tt, htt⟩ : ∃ x, typeL L = x := ⟨_, rfl⟩
  obtain ⟨er, her⟩ : ∃ x, (dPut h L).2 = x := ⟨_, rfl⟩
  have HTT := Lib.hid htt
  have HER := Lib.hid her
  have eer : (er != er) = false := by rw [bne, beq_self_eq_true]; rfl
  have ett : ((tt : Int) != (tt : Int)) = false := by rw [bne, beq_self_eq_true]; rfl
  clear htt her
  have bel := Below.refl w.heap.size w
  go_enter Try.func5, Try.ntmps5
  go_wp2_with (first | ((with_reducible show wpList _ _ _ (⟨some 1, _, _, _, _, _⟩ :: _) _ _); refine wpList_box_n rfl 30 (.tmp 0) rfl #[.int .i64 h.op, .int .i64 h.hops, .int .u32 h.xid, .int .i64 h.secs, .int .i64 h.flags, .int .u8 (h.c0.toNat : Int), .int .u8 (h.c1.toNat : Int), .int .u8 (h.c2.toNat : Int), .int .u8 (h.c3.toNat : Int), .int .u8 (h.y0.toNat : Int), .int .u8 (h.y1.toNat : Int), .int .u8 (h.y2.toNat : Int), .int .u8 (h.y3.toNat : Int), .int .u8 (h.s0.toNat : Int), .int .u8 (h.s1.toNat : Int), .int .u8 (h.s2.toNat : Int), .int .u8 (h.s3.toNat : Int), .int .u8 (h.r0.toNat : Int), .int .u8 (h.r1.toNat : Int), .int .u8 (h.r2.toNat : Int), .int .u8 (h.r3.toNat : Int), .int .u8 (h.m0.toNat : Int), .int .u8 (h.m1.toNat : Int), .int .u8 (h.m2.toNat : Int), .int .u8 (h.m3.toNat : Int), .int .u8 (h.m4.toNat : Int), .int .u8 (h.m5.toNat : Int), .slice A n c] rfl ?_; intro g1 w1 ge lt hh bb; have av_en_p := en.av_new ge; have op := Nat.le_trans bel.size ge; replace en := en.below bb; replace bel := bel.trans (bb.mono bel.size); have hp := hh; clear hh lt ge bb))
  with_reducible refine (awake13_any _).mono ?_
  rintro e w2 ⟨rfl, b2⟩
  replace hp := blk_u hp b2
  replace en := en.below b2
  replace bel := bel.trans (b2.mono bel.size)
  clear b2
  rcases hgb : greatB n hs with _ | _
  rotate_left
  · have HGB := Lib.hid hgb
    clear hgb
    have R11 := Lib.hid (range_lit hp 0 28 [.int .i64 h.op, .int .i64 h.hops, .int .u32 h.xid, .int .i64 h.secs, .int .i64 h.flags, .int .u8 (h.c0.toNat : Int), .int .u8 (h.c1.toNat : Int), .int .u8 (h.c2.toNat : Int), .int .u8 (h.c3.toNat : Int), .int .u8 (h.y0.toNat : Int), .int .u8 (h.y1.toNat : Int), .int .u8 (h.y2.toNat : Int), .int .u8 (h.y3.toNat : Int), .int .u8 (h.s0.toNat : Int), .int .u8 (h.s1.toNat : Int), .int .u8 (h.s2.toNat : Int), .int .u8 (h.s3.toNat : Int), .int .u8 (h.r0.toNat : Int), .int .u8 (h.r1.toNat : Int), .int .u8 (h.r2.toNat : Int), .int .u8 (h.r3.toNat : Int), .int .u8 (h.m0.toNat : Int), .int .u8 (h.m1.toNat : Int), .int .u8 (h.m2.toNat : Int), .int .u8 (h.m3.toNat : Int), .int .u8 (h.m4.toNat : Int), .int .u8 (h.m5.toNat : Int), .slice A n c] rfl)
    go_wp2_with (first | ((with_reducible show wpList _ _ _ (⟨some 11, _, _, _, _, _⟩ :: _) _ _); refine wpList_load_rng 30 (.tmp 1) rfl (by kernel_rfl) _ _ rfl _ R11.out _ Try.underlying30 rfl (by kernel_rfl) ?_))
    try clear R11
    with_reducible refine (great13_any (h := h) _ en).mono ?_
    rintro e w3 ⟨rfl, b3⟩
    replace hp := blk_u hp b3
    replace en := en.below b3
    replace bel := bel.trans (b3.mono bel.size)
    clear b3
    rw [HGB.out]
    go_wp2_with fail
    go_ret
    exact ⟨rfl, bel⟩
  have HGB := Lib.hid hgb
  obtain ⟨n20, hbx⟩ := great_all hgb
  have hn : n ≤ 100000 := by omega
  have HB : Hid (∀ x ∈ hs, x.n ≤ 100000) := Lib.hid (fun x hx => by have := hbx x hx; omega)
  clear hgb n20 hbx
  have R11 := Lib.hid (range_lit hp 0 28 [.int .i64 h.op, .int .i64 h.hops, .int .u32 h.xid, .int .i64 h.secs, .int .i64 h.flags, .int .u8 (h.c0.toNat : Int), .int .u8 (h.c1.toNat : Int), .int .u8 (h.c2.toNat : Int), .int .u8 (h.c3.toNat : Int), .int .u8 (h.y0.toNat : Int), .int .u8 (h.y1.toNat : Int), .int .u8 (h.y2.toNat : Int), .int .u8 (h.y3.toNat : Int), .int .u8 (h.s0.toNat : Int), .int .u8 (h.s1.toNat : Int), .int .u8 (h.s2.toNat : Int), .int .u8 (h.s3.toNat : Int), .int .u8 (h.r0.toNat : Int), .int .u8 (h.r1.toNat : Int), .int .u8 (h.r2.toNat : Int), .int .u8 (h.r3.toNat : Int), .int .u8 (h.m0.toNat : Int), .int .u8 (h.m1.toNat : Int), .int .u8 (h.m2.toNat : Int), .int .u8 (h.m3.toNat : Int), .int .u8 (h.m4.toNat : Int), .int .u8 (h.m5.toNat : Int), .slice A n c] rfl)
  go_wp2_with (first | ((with_reducible show wpList _ _ _ (⟨some 11, _, _, _, _, _⟩ :: _) _ _); refine wpList_load_rng 30 (.tmp 1) rfl (by kernel_rfl) _ _ rfl _ R11.out _ Try.underlying30 rfl (by kernel_rfl) ?_))
  try clear R11
  with_reducible refine (great13_any (h := h) _ en).mono ?_
  rintro e w3 ⟨rfl, b3⟩
  replace hp := blk_u hp b3
  replace en := en.below b3
  replace bel := bel.trans (b3.mono bel.size)
  clear b3
  rw [HGB.out]
  have R14 := Lib.hid (range_lit hp 0 28 [.int .i64 h.op, .int .i64 h.hops, .int .u32 h.xid, .int .i64 h.secs, .int .i64 h.flags, .int .u8 (h.c0.toNat : Int), .int .u8 (h.c1.toNat : Int), .int .u8 (h.c2.toNat : Int), .int .u8 (h.c3.toNat : Int), .int .u8 (h.y0.toNat : Int), .int .u8 (h.y1.toNat : Int), .int .u8 (h.y2.toNat : Int), .int .u8 (h.y3.toNat : Int), .int .u8 (h.s0.toNat : Int), .int .u8 (h.s1.toNat : Int), .int .u8 (h.s2.toNat : Int), .int .u8 (h.s3.toNat : Int), .int .u8 (h.r0.toNat : Int), .int .u8 (h.r1.toNat : Int), .int .u8 (h.r2.toNat : Int), .int .u8 (h.r3.toNat : Int), .int .u8 (h.m0.toNat : Int), .int .u8 (h.m1.toNat : Int), .int .u8 (h.m2.toNat : Int), .int .u8 (h.m3.toNat : Int), .int .u8 (h.m4.toNat : Int), .int .u8 (h.m5.toNat : Int), .slice A n c] rfl)
  go_wp2_with (first | ((with_reducible show wpList _ _ _ (⟨some 14, _, _, _, _, _⟩ :: _) _ _); refine wpList_load_rng 30 (.tmp 1) rfl (by kernel_rfl) _ _ rfl _ R14.out _ Try.underlying30 rfl (by kernel_rfl) ?_))
  try clear R14
  with_reducible refine (dput_any (h := h) _ en (HBD.out.below bel) hn HB.out h0 h1).mono ?_
  rintro e w4 ⟨A3, n3, c3, rfl, pb, b4⟩
  replace hp := blk_u hp b4
  replace en := en.below b4
  replace bel := bel.trans (b4.mono bel.size)
  clear b4
  replace pb : Sl w4 (A3) (n3) (c3) ((dPut h L).1) := pb
  rw [HER.out]
  have R19 := Lib.hid (range_lit hp 0 28 [.int .i64 h.op, .int .i64 h.hops, .int .u32 h.xid, .int .i64 h.secs, .int .i64 h.flags, .int .u8 (h.c0.toNat : Int), .int .u8 (h.c1.toNat : Int), .int .u8 (h.c2.toNat : Int), .int .u8 (h.c3.toNat : Int), .int .u8 (h.y0.toNat : Int), .int .u8 (h.y1.toNat : Int), .int .u8 (h.y2.toNat : Int), .int .u8 (h.y3.toNat : Int), .int .u8 (h.s0.toNat : Int), .int .u8 (h.s1.toNat : Int), .int .u8 (h.s2.toNat : Int), .int .u8 (h.s3.toNat : Int), .int .u8 (h.r0.toNat : Int), .int .u8 (h.r1.toNat : Int), .int .u8 (h.r2.toNat : Int), .int .u8 (h.r3.toNat : Int), .int .u8 (h.m0.toNat : Int), .int .u8 (h.m1.toNat : Int), .int .u8 (h.m2.toNat : Int), .int .u8 (h.m3.toNat : Int), .int .u8 (h.m4.toNat : Int), .int .u8 (h.m5.toNat : Int), .slice A n c] rfl)
  go_wp2_with (first | ((with_reducible show wpList _ _ _ (⟨some 19, _, _, _, _, _⟩ :: _) _ _); refine wpList_load_rng 30 (.tmp 1) rfl (by kernel_rfl) _ _ rfl _ R19.out _ Try.underlying30 rfl (by kernel_rfl) ?_))
  try clear R19
  with_reducible refine (own13_any (h := h) _ en hn).mono ?_
  rintro e w5 ⟨A20, c20, rfl, eo20, b5⟩
  replace hp := blk_u hp b5
  replace en := en.below b5
  replace pb := pb.below b5
  replace bel := bel.trans (b5.mono bel.size)
  clear b5
  replace eo20 : Sle opE 2 w5 (A20) (n) (c20) (hs) := eo20
  go_wp2_with fail
  with_reducible refine (rput13_any (h := h) _ eo20 (HBD.out.below bel) hn HB.out h0 h1).mono ?_
  rintro e w6 ⟨A5, n5, c5, rfl, pc, b6⟩
  replace hp := blk_u hp b6
  replace en := en.below b6
  replace pb := pb.below b6
  replace eo20 := eo20.below b6
  replace bel := bel.trans (b6.mono bel.size)
  clear b6
  replace pc : Sl w6 (A5) (n5) (c5) ((dPut h L).1) := pc
  rw [HER.out]
  obtain rfl : n3 = n5 := pb.1.symm.trans pc.1
  go_wp2_with fail
  replace bel := bel.drew
  replace hp : w6.drew.heap[g1]? = _ := hp
  replace en := en.drew
  replace pb := pb.drew
  replace eo20 := eo20.drew
  replace pc := pc.drew
  refine wp_region_held_drew (S := fun W => W.heap[g1]? = some (.cells #[.int .i64 h.op, .int .i64 h.hops, .int .u32 h.xid, .int .i64 h.secs, .int .i64 h.flags, .int .u8 (h.c0.toNat : Int), .int .u8 (h.c1.toNat : Int), .int .u8 (h.c2.toNat : Int), .int .u8 (h.c3.toNat : Int), .int .u8 (h.y0.toNat : Int), .int .u8 (h.y1.toNat : Int), .int .u8 (h.y2.toNat : Int), .int .u8 (h.y3.toNat : Int), .int .u8 (h.s0.toNat : Int), .int .u8 (h.s1.toNat : Int), .int .u8 (h.s2.toNat : Int), .int .u8 (h.s3.toNat : Int), .int .u8 (h.r0.toNat : Int), .int .u8 (h.r1.toNat : Int), .int .u8 (h.r2.toNat : Int), .int .u8 (h.r3.toNat : Int), .int .u8 (h.m0.toNat : Int), .int .u8 (h.m1.toNat : Int), .int .u8 (h.m2.toNat : Int), .int .u8 (h.m3.toNat : Int), .int .u8 (h.m4.toNat : Int), .int .u8 (h.m5.toNat : Int), .slice A n c] 30 (0, 0)) ∧ Sl W (A3) (n3) (c3) ((dPut h L).1) ∧ Sl W (A5) (n3) (c5) ((dPut h L).1)) (by kernel_rfl) ⟨hp, pb, pc⟩ (fun hH => ?_)
  generalize w6.drew = w7 at bel hp en pb eo20 pc hH ⊢
  refine wpAnyH_take (i := 0) (v := ?_) rfl (by kernel_rfl) (by kernel_rfl) (by kernel_rfl) (fun _ _ _ h => h) (Or.inl ⟨by rfl, ?_⟩) hH ?_
  rotate_left
  · ((intro W hW; clear hW; go_simp) <;> with_reducible rfl)
  simp only [Act.put, List.getElem_toArray, List.getElem_cons_zero, List.setIfInBounds_toArray, List.set_cons_zero, List.set_cons_succ]
  refine wpAnyH_take (i := 1) (v := ?_) rfl (by kernel_rfl) (by kernel_rfl) (by kernel_rfl) (fun _ _ _ h => h) (Or.inl ⟨by rfl, ?_⟩) hH ?_
  rotate_left
  · ((intro W hW; clear hW; go_simp) <;> with_reducible rfl)
  simp only [Act.put, List.getElem_toArray, List.getElem_cons_zero, List.getElem_cons_succ, List.setIfInBounds_toArray, List.set_cons_zero, List.set_cons_succ]
  refine wpAnyH_take (i := 2) (v := ?_) rfl (by kernel_rfl) (by kernel_rfl) (by kernel_rfl) (fun _ _ _ h => h) (Or.inl ⟨by rfl, ?_⟩) hH ?_
  rotate_left
  · ((intro W hW; clear hW; go_simp) <;> with_reducible rfl)
  simp only [Act.put, List.getElem_toArray, List.getElem_cons_zero, List.getElem_cons_succ, List.setIfInBounds_toArray, List.set_cons_zero, List.set_cons_succ]
  refine wpAnyH_take (i := 3) (v := ?_) rfl (by kernel_rfl) (by kernel_rfl) (by kernel_rfl) (fun _ _ _ h => h) (Or.inl ⟨by rfl, ?_⟩) hH ?_
  rotate_left
  · ((intro W hW; clear hW; go_simp) <;> with_reducible rfl)
  simp only [Act.put, List.getElem_toArray, List.getElem_cons_zero, List.getElem_cons_succ, List.setIfInBounds_toArray, List.set_cons_zero, List.set_cons_succ]
  refine wpAnyH_take (i := 4) (v := ?_) rfl (by kernel_rfl) (by kernel_rfl) (by kernel_rfl) (fun _ _ _ h => h) (Or.inl ⟨by rfl, ?_⟩) hH ?_
  rotate_left
  · ((intro W hW; clear hW; go_simp) <;> with_reducible rfl)
  simp only [Act.put, List.getElem_toArray, List.getElem_cons_zero, List.getElem_cons_succ, List.setIfInBounds_toArray, List.set_cons_zero, List.set_cons_succ]
  refine wpAnyH_take (i := 5) (v := ?_) rfl (by kernel_rfl) (by kernel_rfl) (by kernel_rfl) (fun _ _ _ h => h) (Or.inl ⟨by rfl, ?_⟩) hH ?_
  rotate_left
  · ((intro W hW; have st0 := (hW.2.1).str (P := Try.prog) 34 5 9 Try.underlying34 Try.underlying5 Try.underlying9; clear hW; go_simp) <;> with_reducible rfl)
  simp only [Act.put, List.getElem_toArray, List.getElem_cons_zero, List.getElem_cons_succ, List.setIfInBounds_toArray, List.set_cons_zero, List.set_cons_succ]
  refine wpAnyH_take (i := 6) (v := ?_) rfl (by kernel_rfl) (by kernel_rfl) (by kernel_rfl) (fun _ _ _ h => h) (Or.inl ⟨by rfl, ?_⟩) hH ?_
  rotate_left
  · ((intro W hW; clear hW; go_simp) <;> with_reducible rfl)
  simp only [Act.put, List.getElem_toArray, List.getElem_cons_zero, List.getElem_cons_succ, List.setIfInBounds_toArray, List.set_cons_zero, List.set_cons_succ]
  refine wpAnyH_take (i := 7) (v := ?_) rfl (by kernel_rfl) (by kernel_rfl) (by kernel_rfl) (fun _ _ _ h => h) (Or.inl ⟨by rfl, ?_⟩) hH ?_
  rotate_left
  · ((intro W hW; have st0 := (hW.2.2).str (P := Try.prog) 34 5 9 Try.underlying34 Try.underlying5 Try.underlying9; clear hW; go_simp) <;> with_reducible rfl)
  simp only [Act.put, List.getElem_toArray, List.getElem_cons_zero, List.getElem_cons_succ, List.setIfInBounds_toArray, List.set_cons_zero, List.set_cons_succ]
  refine wpAnyH_take (i := 8) (v := ?_) rfl (by kernel_rfl) (by kernel_rfl) (by kernel_rfl) (fun _ _ _ h => h) (Or.inl ⟨by rfl, ?_⟩) hH ?_
  rotate_left
  · ((intro W hW; clear hW; go_simp) <;> with_reducible rfl)
  simp only [Act.put, List.getElem_toArray, List.getElem_cons_zero, List.getElem_cons_succ, List.setIfInBounds_toArray, List.set_cons_zero, List.set_cons_succ]
  refine wpAnyH_take (i := 9) (v := ?_) rfl (by kernel_rfl) (by kernel_rfl) (by kernel_rfl) (fun _ _ _ h => h) (Or.inl ⟨by rfl, ?_⟩) hH ?_
  rotate_left
  · ((intro W hW; clear hW; go_simp) <;> with_reducible rfl)
  simp only [Act.put, List.getElem_toArray, List.getElem_cons_zero, List.getElem_cons_succ, List.setIfInBounds_toArray, List.set_cons_zero, List.set_cons_succ]
  refine wpAnyH_take (i := 10) (v := ?_) rfl (by kernel_rfl) (by kernel_rfl) (by kernel_rfl) (fun _ _ _ h => h) (Or.inl ⟨by rfl, ?_⟩) hH ?_
  rotate_left
  · ((intro W hW; clear hW; go_simp) <;> with_reducible rfl)
  simp only [Act.put, List.getElem_toArray, List.getElem_cons_zero, List.getElem_cons_succ, List.setIfInBounds_toArray, List.set_cons_zero, List.set_cons_succ]
  refine wpAnyH_take (i := 11) (v := .agg #[.int .i64 h.op, .int .i64 h.hops, .int .u32 h.xid, .int .i64 h.secs, .int .i64 h.flags, .int .u8 (h.c0.toNat : Int), .int .u8 (h.c1.toNat : Int), .int .u8 (h.c2.toNat : Int), .int .u8 (h.c3.toNat : Int), .int .u8 (h.y0.toNat : Int), .int .u8 (h.y1.toNat : Int), .int .u8 (h.y2.toNat : Int), .int .u8 (h.y3.toNat : Int), .int .u8 (h.s0.toNat : Int), .int .u8 (h.s1.toNat : Int), .int .u8 (h.s2.toNat : Int), .int .u8 (h.s3.toNat : Int), .int .u8 (h.r0.toNat : Int), .int .u8 (h.r1.toNat : Int), .int .u8 (h.r2.toNat : Int), .int .u8 (h.r3.toNat : Int), .int .u8 (h.m0.toNat : Int), .int .u8 (h.m1.toNat : Int), .int .u8 (h.m2.toNat : Int), .int .u8 (h.m3.toNat : Int), .int .u8 (h.m4.toNat : Int), .int .u8 (h.m5.toNat : Int), .slice A n c]) rfl (by kernel_rfl) (by kernel_rfl) (by kernel_rfl) (fun _ _ _ h => h) (yieldsIf_load_part (by kernel_rfl) 30 _ rfl g1 0 28 rfl _ 30 (0, 0) (fun W hW => hW.1) _ rfl _ Try.underlying30 rfl (by kernel_rfl)) hH ?_
  simp only [Act.put, List.getElem_toArray, List.getElem_cons_zero, List.getElem_cons_succ, List.setIfInBounds_toArray, List.set_cons_zero, List.set_cons_succ]
  refine wpAnyH_take (i := 13) (v := .agg #[.int .i64 h.op, .int .i64 h.hops, .int .u32 h.xid, .int .i64 h.secs, .int .i64 h.flags, .int .u8 (h.c0.toNat : Int), .int .u8 (h.c1.toNat : Int), .int .u8 (h.c2.toNat : Int), .int .u8 (h.c3.toNat : Int), .int .u8 (h.y0.toNat : Int), .int .u8 (h.y1.toNat : Int), .int .u8 (h.y2.toNat : Int), .int .u8 (h.y3.toNat : Int), .int .u8 (h.s0.toNat : Int), .int .u8 (h.s1.toNat : Int), .int .u8 (h.s2.toNat : Int), .int .u8 (h.s3.toNat : Int), .int .u8 (h.r0.toNat : Int), .int .u8 (h.r1.toNat : Int), .int .u8 (h.r2.toNat : Int), .int .u8 (h.r3.toNat : Int), .int .u8 (h.m0.toNat : Int), .int .u8 (h.m1.toNat : Int), .int .u8 (h.m2.toNat : Int), .int .u8 (h.m3.toNat : Int), .int .u8 (h.m4.toNat : Int), .int .u8 (h.m5.toNat : Int), .slice A n c]) rfl (by kernel_rfl) (by kernel_rfl) (by kernel_rfl) (fun _ _ _ h => h) (yieldsIf_load_part (by kernel_rfl) 30 _ rfl g1 0 28 rfl _ 30 (0, 0) (fun W hW => hW.1) _ rfl _ Try.underlying30 rfl (by kernel_rfl)) hH ?_
  simp only [Act.put, List.getElem_toArray, List.getElem_cons_zero, List.getElem_cons_succ, List.setIfInBounds_toArray, List.set_cons_zero, List.set_cons_succ]
  refine wpAnyH_ready (rs := [12]) (by kernel_rfl) (by simp) ?_
  refine AllReadyH.cons (o := _) rfl (fun K hK => ?_) AllReadyH.nil
  simp only [List.getElem_toArray, List.getElem_cons_zero, List.getElem_cons_succ]
  go_simp
  with_reducible refine (dtype_any (h := h) _ en (HBD.out.below bel) hn HB.out).mono ?_
  rintro e w8 ⟨rfl, b8⟩
  dsimp only
  replace hp := blk_u hp b8
  replace en := en.below b8
  replace pb := pb.below b8
  replace eo20 := eo20.below b8
  replace pc := pc.below b8
  replace bel := bel.trans (b8.mono bel.size)
  clear b8
  rw [HTT.out]
  refine hK.out _ _ ⟨hp, pb, pc⟩ (fun hH9 => ?_)
  clear hK K
  refine wpAnyH_ready (rs := [14]) (by kernel_rfl) (by simp) ?_
  refine AllReadyH.cons (o := _) rfl (fun K hK => ?_) AllReadyH.nil
  simp only [List.getElem_toArray, List.getElem_cons_zero, List.getElem_cons_succ]
  go_simp
  with_reducible refine (own13_any (h := h) _ en hn).mono ?_
  rintro e w10 ⟨A38, c38, rfl, eo38, b10⟩
  dsimp only
  replace hp := blk_u hp b10
  replace en := en.below b10
  replace pb := pb.below b10
  replace eo20 := eo20.below b10
  replace pc := pc.below b10
  replace bel := bel.trans (b10.mono bel.size)
  clear b10
  replace eo38 : Sle opE 2 w10 (A38) (n) (c38) (hs) := eo38
  refine hK.out _ _ ⟨hp, pb, pc⟩ (fun hH11 => ?_)
  clear hK K
  refine wpAnyH_ready (rs := [15]) (by kernel_rfl) (by simp) ?_
  refine AllReadyH.cons (o := _) rfl (fun K hK => ?_) AllReadyH.nil
  simp only [List.getElem_toArray, List.getElem_cons_zero, List.getElem_cons_succ]
  go_simp
  with_reducible refine (rtype_any (h := h) _ eo38 (HBD.out.below bel) hn).mono ?_
  rintro e w12 ⟨rfl, b12⟩
  dsimp only
  replace hp := blk_u hp b12
  replace en := en.below b12
  replace pb := pb.below b12
  replace eo20 := eo20.below b12
  replace pc := pc.below b12
  replace eo38 := eo38.below b12
  replace bel := bel.trans (b12.mono bel.size)
  clear b12
  rw [HTT.out]
  refine hK.out _ _ ⟨hp, pb, pc⟩ (fun hH13 => ?_)
  clear hK K
  refine wpAnyH_take (i := 16) (v := ?_) rfl (by kernel_rfl) (by kernel_rfl) (by kernel_rfl) (fun _ _ _ h => h) (Or.inl ⟨by rfl, ?_⟩) hH13 ?_
  rotate_left
  · ((intro W hW; clear hW; go_simp) <;> with_reducible rfl)
  simp only [Act.put, List.getElem_toArray, List.getElem_cons_zero, List.getElem_cons_succ, List.setIfInBounds_toArray, List.set_cons_zero, List.set_cons_succ]
  refine wpAnyH_take (i := 17) (v := ?_) rfl (by kernel_rfl) (by kernel_rfl) (by kernel_rfl) (fun _ _ _ h => h) (Or.inl ⟨by rfl, ?_⟩) hH13 ?_
  rotate_left
  · ((intro W hW; clear hW; go_simp) <;> with_reducible rfl)
  simp only [Act.put, List.getElem_toArray, List.getElem_cons_zero, List.getElem_cons_succ, List.setIfInBounds_toArray, List.set_cons_zero, List.set_cons_succ]
  refine wpAnyH_done (by kernel_rfl) ?_ _
  by_cases he : er = 0
  rotate_left
  · have he1 : (er != 0) = true := by rw [bne, beq_eq_false_iff_ne.2 he]; rfl
    clear he
    go_wp2_with fail
    go_ret
    exact ⟨rfl, bel⟩
  have he1 : (er != 0) = false := by rw [he]; rfl
  have hdp := dput_get (HER.out.trans he) h0 h1
  have HDG := Lib.hid hdp.1
  have HLE := Lib.hid hdp.2.2
  have ge3 : (300 : Int) ≤ n3 := by have h_ := hdp.2.1; have h2_ := pb.1; omega
  clear he hdp
  go_wp2_with fail
  have HPL := Lib.hid pb.1
  with_reducible refine (dget_any _ pb (by have h_ := HPL.out; have h2_ := HLE.out; omega)).mono ?_
  rintro e w14 ⟨h2, A7, n7, c7, hs7, rfl, hh, ⟨em, hbe⟩, hn7, hb7, b14⟩
  replace hp := blk_u hp b14
  replace en := en.below b14
  replace pb := pb.below b14
  replace eo20 := eo20.below b14
  replace pc := pc.below b14
  replace eo38 := eo38.below b14
  replace bel := bel.trans (b14.mono bel.size)
  clear b14
  replace em : Sle opE 2 w14 (A7) (n7) (c7) (hs7) := em
  obtain rfl : h = h2 := by rw [hh, HDG.out]
  rw [HDG.out] at hbe
  replace hbe : Bd _ hs7 L := hbe
  rw [HDG.out]
  have HBE := Lib.hid hbe
  have HN7 := Lib.hid hn7
  clear hbe hn7 hb7 hh
  have bd1 := Below.refl w14.heap.size w14
  go_wp2_with (first | ((with_reducible show wpList _ _ _ (⟨some 7, _, _, _, _, _⟩ :: _) _ _); refine wpList_new_a rfl 30 rfl #[.int .i64 0, .int .i64 0, .int .u32 0, .int .i64 0, .int .i64 0, .int .u8 0, .int .u8 0, .int .u8 0, .int .u8 0, .int .u8 0, .int .u8 0, .int .u8 0, .int .u8 0, .int .u8 0, .int .u8 0, .int .u8 0, .int .u8 0, .int .u8 0, .int .u8 0, .int .u8 0, .int .u8 0, .int .u8 0, .int .u8 0, .int .u8 0, .int .u8 0, .int .u8 0, .int .u8 0, .slice none 0 0] (by kernel_rfl) ?_; intro g7 w15 ge hh bb; have d_p_nn := ne_new (hlt hp) ge; have av_en_nn := en.av_new ge; have av_pb_nn := pb.av_new ge; have av_eo20_nn := eo20.av_new ge; have av_pc_nn := pc.av_new ge; have av_eo38_nn := eo38.av_new ge; have av_em_nn := em.av_new ge; have onn := Nat.le_trans bel.size ge; have o1_nn := Nat.le_trans bd1.size ge; replace hp := blk_u hp bb; replace en := en.below bb; replace pb := pb.below bb; replace eo20 := eo20.below bb; replace pc := pc.below bb; replace eo38 := eo38.below bb; replace em := em.below bb; replace bd1 := bd1.trans (bb.mono bd1.size); replace bel := bel.trans (bb.mono bel.size); have hnn := hh; clear hh ge bb) | ((with_reducible show wpList _ _ _ (⟨none, Op.store _ (.tmp 7) _, _, _, _, _⟩ :: _) _ _); refine wpList_store_blk rfl 30 (.tmp 7) (.tmp 47) rfl g7 rfl _ rfl _ 30 hnn (by rfl) (by kernel_rfl) (by kernel_rfl) ?_; intro w16 hq gr; replace en := en.away av_en_nn gr; replace pb := pb.away av_pb_nn gr; replace eo20 := eo20.away av_eo20_nn gr; replace pc := pc.away av_pc_nn gr; replace eo38 := eo38.away av_eo38_nn gr; replace em := em.away av_em_nn gr; replace hp := blk_a hp gr d_p_nn; replace bd1 := below_grown bd1 gr o1_nn bd1.size; replace bel := below_grown bel gr onn bel.size; clear hnn; have hnn := hq; clear hq gr))
  replace bel := bel.drew
  replace hp : w16.drew.heap[g1]? = _ := hp
  replace hnn : w16.drew.heap[g7]? = _ := hnn
  replace en := en.drew
  replace pb := pb.drew
  replace eo20 := eo20.drew
  replace pc := pc.drew
  replace eo38 := eo38.drew
  replace em := em.drew
  replace bd1 := bd1.drew
  refine wp_region_held_drew (S := fun W => W.heap[g7]? = some (.cells #[.int .i64 h.op, .int .i64 h.hops, .int .u32 h.xid, .int .i64 h.secs, .int .i64 h.flags, .int .u8 (h.c0.toNat : Int), .int .u8 (h.c1.toNat : Int), .int .u8 (h.c2.toNat : Int), .int .u8 (h.c3.toNat : Int), .int .u8 (h.y0.toNat : Int), .int .u8 (h.y1.toNat : Int), .int .u8 (h.y2.toNat : Int), .int .u8 (h.y3.toNat : Int), .int .u8 (h.s0.toNat : Int), .int .u8 (h.s1.toNat : Int), .int .u8 (h.s2.toNat : Int), .int .u8 (h.s3.toNat : Int), .int .u8 (h.r0.toNat : Int), .int .u8 (h.r1.toNat : Int), .int .u8 (h.r2.toNat : Int), .int .u8 (h.r3.toNat : Int), .int .u8 (h.m0.toNat : Int), .int .u8 (h.m1.toNat : Int), .int .u8 (h.m2.toNat : Int), .int .u8 (h.m3.toNat : Int), .int .u8 (h.m4.toNat : Int), .int .u8 (h.m5.toNat : Int), .slice A7 n7 c7] 30 (0, 0)) ∧ W.heap[g1]? = some (.cells #[.int .i64 h.op, .int .i64 h.hops, .int .u32 h.xid, .int .i64 h.secs, .int .i64 h.flags, .int .u8 (h.c0.toNat : Int), .int .u8 (h.c1.toNat : Int), .int .u8 (h.c2.toNat : Int), .int .u8 (h.c3.toNat : Int), .int .u8 (h.y0.toNat : Int), .int .u8 (h.y1.toNat : Int), .int .u8 (h.y2.toNat : Int), .int .u8 (h.y3.toNat : Int), .int .u8 (h.s0.toNat : Int), .int .u8 (h.s1.toNat : Int), .int .u8 (h.s2.toNat : Int), .int .u8 (h.s3.toNat : Int), .int .u8 (h.r0.toNat : Int), .int .u8 (h.r1.toNat : Int), .int .u8 (h.r2.toNat : Int), .int .u8 (h.r3.toNat : Int), .int .u8 (h.m0.toNat : Int), .int .u8 (h.m1.toNat : Int), .int .u8 (h.m2.toNat : Int), .int .u8 (h.m3.toNat : Int), .int .u8 (h.m4.toNat : Int), .int .u8 (h.m5.toNat : Int), .slice A n c] 30 (0, 0))) (by kernel_rfl) ⟨hnn, hp⟩ (fun hH => ?_)
  generalize w16.drew = w17 at bel hp hnn en pb eo20 pc eo38 em bd1 hH ⊢
  refine wpAnyH_take (i := 0) (v := ?_) rfl (by kernel_rfl) (by kernel_rfl) (by kernel_rfl) (fun _ _ _ h => h) (Or.inl ⟨by rfl, ?_⟩) hH ?_
  rotate_left
  · ((intro W hW; clear hW; go_simp) <;> with_reducible rfl)
  simp only [Act.put, List.getElem_toArray, List.getElem_cons_zero, List.setIfInBounds_toArray, List.set_cons_zero, List.set_cons_succ]
  refine wpAnyH_take (i := 1) (v := ?_) rfl (by kernel_rfl) (by kernel_rfl) (by kernel_rfl) (fun _ _ _ h => h) (Or.inl ⟨by rfl, ?_⟩) hH ?_
  rotate_left
  · ((intro W hW; clear hW; go_simp) <;> with_reducible rfl)
  simp only [Act.put, List.getElem_toArray, List.getElem_cons_zero, List.getElem_cons_succ, List.setIfInBounds_toArray, List.set_cons_zero, List.set_cons_succ]
  refine wpAnyH_take (i := 2) (v := ?_) rfl (by kernel_rfl) (by kernel_rfl) (by kernel_rfl) (fun _ _ _ h => h) (Or.inl ⟨by rfl, ?_⟩) hH ?_
  rotate_left
  · ((intro W hW; clear hW; go_simp) <;> with_reducible rfl)
  simp only [Act.put, List.getElem_toArray, List.getElem_cons_zero, List.getElem_cons_succ, List.setIfInBounds_toArray, List.set_cons_zero, List.set_cons_succ]
  refine wpAnyH_take (i := 3) (v := .agg #[.int .i64 h.op, .int .i64 h.hops, .int .u32 h.xid, .int .i64 h.secs, .int .i64 h.flags, .int .u8 (h.c0.toNat : Int), .int .u8 (h.c1.toNat : Int), .int .u8 (h.c2.toNat : Int), .int .u8 (h.c3.toNat : Int), .int .u8 (h.y0.toNat : Int), .int .u8 (h.y1.toNat : Int), .int .u8 (h.y2.toNat : Int), .int .u8 (h.y3.toNat : Int), .int .u8 (h.s0.toNat : Int), .int .u8 (h.s1.toNat : Int), .int .u8 (h.s2.toNat : Int), .int .u8 (h.s3.toNat : Int), .int .u8 (h.r0.toNat : Int), .int .u8 (h.r1.toNat : Int), .int .u8 (h.r2.toNat : Int), .int .u8 (h.r3.toNat : Int), .int .u8 (h.m0.toNat : Int), .int .u8 (h.m1.toNat : Int), .int .u8 (h.m2.toNat : Int), .int .u8 (h.m3.toNat : Int), .int .u8 (h.m4.toNat : Int), .int .u8 (h.m5.toNat : Int), .slice A7 n7 c7]) rfl (by kernel_rfl) (by kernel_rfl) (by kernel_rfl) (fun _ _ _ h => h) (yieldsIf_load_part (by kernel_rfl) 30 _ rfl g7 0 28 rfl _ 30 (0, 0) (fun W hW => hW.1) _ rfl _ Try.underlying30 rfl (by kernel_rfl)) hH ?_
  simp only [Act.put, List.getElem_toArray, List.getElem_cons_zero, List.getElem_cons_succ, List.setIfInBounds_toArray, List.set_cons_zero, List.set_cons_succ]
  refine wpAnyH_take (i := 5) (v := .agg #[.int .i64 h.op, .int .i64 h.hops, .int .u32 h.xid, .int .i64 h.secs, .int .i64 h.flags, .int .u8 (h.c0.toNat : Int), .int .u8 (h.c1.toNat : Int), .int .u8 (h.c2.toNat : Int), .int .u8 (h.c3.toNat : Int), .int .u8 (h.y0.toNat : Int), .int .u8 (h.y1.toNat : Int), .int .u8 (h.y2.toNat : Int), .int .u8 (h.y3.toNat : Int), .int .u8 (h.s0.toNat : Int), .int .u8 (h.s1.toNat : Int), .int .u8 (h.s2.toNat : Int), .int .u8 (h.s3.toNat : Int), .int .u8 (h.r0.toNat : Int), .int .u8 (h.r1.toNat : Int), .int .u8 (h.r2.toNat : Int), .int .u8 (h.r3.toNat : Int), .int .u8 (h.m0.toNat : Int), .int .u8 (h.m1.toNat : Int), .int .u8 (h.m2.toNat : Int), .int .u8 (h.m3.toNat : Int), .int .u8 (h.m4.toNat : Int), .int .u8 (h.m5.toNat : Int), .slice A n c]) rfl (by kernel_rfl) (by kernel_rfl) (by kernel_rfl) (fun _ _ _ h => h) (yieldsIf_load_part (by kernel_rfl) 30 _ rfl g1 0 28 rfl _ 30 (0, 0) (fun W hW => hW.2) _ rfl _ Try.underlying30 rfl (by kernel_rfl)) hH ?_
  simp only [Act.put, List.getElem_toArray, List.getElem_cons_zero, List.getElem_cons_succ, List.setIfInBounds_toArray, List.set_cons_zero, List.set_cons_succ]
  refine wpAnyH_ready (rs := [4]) (by kernel_rfl) (by simp) ?_
  refine AllReadyH.cons (o := _) rfl (fun K hK => ?_) AllReadyH.nil
  simp only [List.getElem_toArray, List.getElem_cons_zero, List.getElem_cons_succ]
  go_simp
  with_reducible refine (own13_any (h := h) _ em HN7.out).mono ?_
  rintro e w18 ⟨A53, c53, rfl, eo53, b18⟩
  dsimp only
  replace hp := blk_u hp b18
  replace hnn := blk_u hnn b18
  replace en := en.below b18
  replace pb := pb.below b18
  replace eo20 := eo20.below b18
  replace pc := pc.below b18
  replace eo38 := eo38.below b18
  replace em := em.below b18
  replace bd1 := bd1.trans (b18.mono bd1.size)
  replace bel := bel.trans (b18.mono bel.size)
  clear b18
  replace eo53 : Sle opE 2 w18 (A53) (n7) (c53) (hs7) := eo53
  refine hK.out _ _ ⟨hnn, hp⟩ (fun hH19 => ?_)
  clear hK K
  refine wpAnyH_ready (rs := [6]) (by kernel_rfl) (by simp) ?_
  refine AllReadyH.cons (o := _) rfl (fun K hK => ?_) AllReadyH.nil
  simp only [List.getElem_toArray, List.getElem_cons_zero, List.getElem_cons_succ]
  go_simp
  with_reducible refine (own13_any (h := h) _ en hn).mono ?_
  rintro e w20 ⟨A55, c55, rfl, eo55, b20⟩
  dsimp only
  replace hp := blk_u hp b20
  replace hnn := blk_u hnn b20
  replace en := en.below b20
  replace pb := pb.below b20
  replace eo20 := eo20.below b20
  replace pc := pc.below b20
  replace eo38 := eo38.below b20
  replace em := em.below b20
  replace eo53 := eo53.below b20
  replace bd1 := bd1.trans (b20.mono bd1.size)
  replace bel := bel.trans (b20.mono bel.size)
  clear b20
  replace eo55 : Sle opE 2 w20 (A55) (n) (c55) (hs) := eo55
  refine hK.out _ _ ⟨hnn, hp⟩ (fun hH21 => ?_)
  clear hK K
  refine wpAnyH_ready (rs := [7]) (by kernel_rfl) (by simp) ?_
  refine AllReadyH.cons (o := _) rfl (fun K hK => ?_) AllReadyH.nil
  simp only [List.getElem_toArray, List.getElem_cons_zero, List.getElem_cons_succ]
  go_simp
  with_reducible refine (same13_any (h := h) _ eo53 (HBE.out.below bd1) eo55 (HBD.out.below bel) HN7.out).mono ?_
  rintro e w22 ⟨rfl, b22⟩
  dsimp only
  replace hp := blk_u hp b22
  replace hnn := blk_u hnn b22
  replace en := en.below b22
  replace pb := pb.below b22
  replace eo20 := eo20.below b22
  replace pc := pc.below b22
  replace eo38 := eo38.below b22
  replace em := em.below b22
  replace eo53 := eo53.below b22
  replace eo55 := eo55.below b22
  replace bd1 := bd1.trans (b22.mono bd1.size)
  replace bel := bel.trans (b22.mono bel.size)
  clear b22
  refine hK.out _ _ ⟨hnn, hp⟩ (fun hH23 => ?_)
  clear hK K
  refine wpAnyH_take (i := 8) (v := ?_) rfl (by kernel_rfl) (by kernel_rfl) (by kernel_rfl) (fun _ _ _ h => h) (Or.inl ⟨by rfl, ?_⟩) hH23 ?_
  rotate_left
  · ((intro W hW; clear hW; go_simp) <;> with_reducible rfl)
  simp only [Act.put, List.getElem_toArray, List.getElem_cons_zero, List.getElem_cons_succ, List.setIfInBounds_toArray, List.set_cons_zero, List.set_cons_succ]
  refine wpAnyH_take (i := 9) (v := ?_) rfl (by kernel_rfl) (by kernel_rfl) (by kernel_rfl) (fun _ _ _ h => h) (Or.inl ⟨by rfl, ?_⟩) hH23 ?_
  rotate_left
  · ((intro W hW; clear hW; go_simp) <;> with_reducible rfl)
  simp only [Act.put, List.getElem_toArray, List.getElem_cons_zero, List.getElem_cons_succ, List.setIfInBounds_toArray, List.set_cons_zero, List.set_cons_succ]
  refine wpAnyH_take (i := 10) (v := ?_) rfl (by kernel_rfl) (by kernel_rfl) (by kernel_rfl) (fun _ _ _ h => h) (Or.inl ⟨by rfl, ?_⟩) hH23 ?_
  rotate_left
  · ((intro W hW; clear hW; go_simp) <;> with_reducible rfl)
  simp only [Act.put, List.getElem_toArray, List.getElem_cons_zero, List.getElem_cons_succ, List.setIfInBounds_toArray, List.set_cons_zero, List.set_cons_succ]
  refine wpAnyH_take (i := 11) (v := ?_) rfl (by kernel_rfl) (by kernel_rfl) (by kernel_rfl) (fun _ _ _ h => h) (Or.inl ⟨by rfl, ?_⟩) hH23 ?_
  rotate_left
  · ((intro W hW; clear hW; go_simp) <;> with_reducible rfl)
  simp only [Act.put, List.getElem_toArray, List.getElem_cons_zero, List.getElem_cons_succ, List.setIfInBounds_toArray, List.set_cons_zero, List.set_cons_succ]
  refine wpAnyH_take (i := 12) (v := ?_) rfl (by kernel_rfl) (by kernel_rfl) (by kernel_rfl) (fun _ _ _ h => h) (Or.inl ⟨by rfl, ?_⟩) hH23 ?_
  rotate_left
  · ((intro W hW; clear hW; go_simp) <;> with_reducible rfl)
  simp only [Act.put, List.getElem_toArray, List.getElem_cons_zero, List.getElem_cons_succ, List.setIfInBounds_toArray, List.set_cons_zero, List.set_cons_succ]
  refine wpAnyH_take (i := 13) (v := ?_) rfl (by kernel_rfl) (by kernel_rfl) (by kernel_rfl) (fun _ _ _ h => h) (Or.inl ⟨by rfl, ?_⟩) hH23 ?_
  rotate_left
  · ((intro W hW; clear hW; go_simp) <;> with_reducible rfl)
  simp only [Act.put, List.getElem_toArray, List.getElem_cons_zero, List.getElem_cons_succ, List.setIfInBounds_toArray, List.set_cons_zero, List.set_cons_succ]
  refine wpAnyH_take (i := 14) (v := ?_) rfl (by kernel_rfl) (by kernel_rfl) (by kernel_rfl) (fun _ _ _ h => h) (Or.inl ⟨by rfl, ?_⟩) hH23 ?_
  rotate_left
  · ((intro W hW; clear hW; go_simp) <;> with_reducible rfl)
  simp only [Act.put, List.getElem_toArray, List.getElem_cons_zero, List.getElem_cons_succ, List.setIfInBounds_toArray, List.set_cons_zero, List.set_cons_succ]
  refine wpAnyH_done (by kernel_rfl) ?_ _
  go_wp2_with fail
  go_ret
  exact ⟨rfl, bel⟩
end Go.Proofs.Ytmljgpefbbifmaa
