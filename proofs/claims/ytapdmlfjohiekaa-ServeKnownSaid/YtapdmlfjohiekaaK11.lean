/- Texts put together: Sv2. -/
import Derived.Test.YtapdmlfjohiekaaK1
import Derived.Test.YtapdmlfjohiekaaK10
namespace Go.Proofs.Ytapdmlfjohiekaa
open Go.RowKit

abbrev Mh.cl (h : Mh) : Ad4 := ⟨h.c0, h.c1, h.c2, h.c3⟩
abbrev Mh.mc (h : Mh) : Mc6 := ⟨h.m0, h.m1, h.m2, h.m3, h.m4, h.m5⟩
set_option linter.unusedVariables false in
set_option linter.unusedSimpArgs false in
set_option maxRecDepth 100000 in
set_option maxHeartbeats 16000000 in
theorem srcv_2your {h : Mh} {y : Ad4} {A : Option Addr} {n c : Nat} (w : World) (hcl : h.cl.eqB Ad4.zero = true) (hfl : (bits .and .i64 h.flags 32768 != 0) = false) : Calls Try.prog 67 #[.agg #[.int .i64 h.op, .int .i64 h.hops, .int .u32 h.xid, .int .i64 h.secs, .int .i64 h.flags, .int .u8 (h.c0.toNat : Int), .int .u8 (h.c1.toNat : Int), .int .u8 (h.c2.toNat : Int), .int .u8 (h.c3.toNat : Int), .int .u8 (h.y0.toNat : Int), .int .u8 (h.y1.toNat : Int), .int .u8 (h.y2.toNat : Int), .int .u8 (h.y3.toNat : Int), .int .u8 (h.s0.toNat : Int), .int .u8 (h.s1.toNat : Int), .int .u8 (h.s2.toNat : Int), .int .u8 (h.s3.toNat : Int), .int .u8 (h.r0.toNat : Int), .int .u8 (h.r1.toNat : Int), .int .u8 (h.r2.toNat : Int), .int .u8 (h.r3.toNat : Int), .int .u8 (h.m0.toNat : Int), .int .u8 (h.m1.toNat : Int), .int .u8 (h.m2.toNat : Int), .int .u8 (h.m3.toNat : Int), .int .u8 (h.m4.toNat : Int), .int .u8 (h.m5.toNat : Int), .slice A n c], .int .u8 2, .agg #[.int .u8 (y.a.toNat : Int), .int .u8 (y.b.toNat : Int), .int .u8 (y.c.toNat : Int), .int .u8 (y.d.toNat : Int)]] w fun e w' => e = .returned (.tuple #[.agg #[.int .u8 (h.m0.toNat : Int), .int .u8 (h.m1.toNat : Int), .int .u8 (h.m2.toNat : Int), .int .u8 (h.m3.toNat : Int), .int .u8 (h.m4.toNat : Int), .int .u8 (h.m5.toNat : Int)], .agg #[.int .u8 (y.a.toNat : Int), .int .u8 (y.b.toNat : Int), .int .u8 (y.c.toNat : Int), .int .u8 (y.d.toNat : Int)]]) ∧ Below w.heap.size w w' := by
  have HCL := Lib.hid hcl
  clear hcl
  have bel := Below.refl w.heap.size w
  go_enter Try.func67, Try.ntmps67
  go_wp2_with (first | ((with_reducible show wpList _ _ _ (⟨some 3, _, _, _, _, _⟩ :: _) _ _); refine wpList_box_n rfl 41 (.tmp 0) rfl #[.int .i64 h.op, .int .i64 h.hops, .int .u32 h.xid, .int .i64 h.secs, .int .i64 h.flags, .int .u8 (h.c0.toNat : Int), .int .u8 (h.c1.toNat : Int), .int .u8 (h.c2.toNat : Int), .int .u8 (h.c3.toNat : Int), .int .u8 (h.y0.toNat : Int), .int .u8 (h.y1.toNat : Int), .int .u8 (h.y2.toNat : Int), .int .u8 (h.y3.toNat : Int), .int .u8 (h.s0.toNat : Int), .int .u8 (h.s1.toNat : Int), .int .u8 (h.s2.toNat : Int), .int .u8 (h.s3.toNat : Int), .int .u8 (h.r0.toNat : Int), .int .u8 (h.r1.toNat : Int), .int .u8 (h.r2.toNat : Int), .int .u8 (h.r3.toNat : Int), .int .u8 (h.m0.toNat : Int), .int .u8 (h.m1.toNat : Int), .int .u8 (h.m2.toNat : Int), .int .u8 (h.m3.toNat : Int), .int .u8 (h.m4.toNat : Int), .int .u8 (h.m5.toNat : Int), .slice A n c] rfl ?_; intro g3 w1 ge lt hh bb; have op := Nat.le_trans bel.size ge; replace bel := bel.trans (bb.mono bel.size); have hp := hh; clear hh lt ge bb) | ((with_reducible show wpList _ _ _ (⟨some 5, _, _, _, _, _⟩ :: _) _ _); refine wpList_box_n rfl 28 (.tmp 2) rfl #[.int .u8 (y.a.toNat : Int), .int .u8 (y.b.toNat : Int), .int .u8 (y.c.toNat : Int), .int .u8 (y.d.toNat : Int)] rfl ?_; intro g5 w2 ge lt hh bb; have d_p_yb := ne_new (hlt hp) ge; have oyb := Nat.le_trans bel.size ge; replace hp := blk_u hp bb; replace bel := bel.trans (bb.mono bel.size); have hyb := hh; clear hh lt ge bb) | ((with_reducible show wpList _ _ _ (⟨some 6, _, _, _, _, _⟩ :: _) _ _); refine wpList_new_a rfl 32 rfl #[.int .u8 0, .int .u8 0, .int .u8 0, .int .u8 0, .int .u8 0, .int .u8 0] (by kernel_rfl) ?_; intro g6 w3 ge hh bb; have d_p_ra := ne_new (hlt hp) ge; have d_yb_ra := ne_new (hlt hyb) ge; have ora := Nat.le_trans bel.size ge; replace hp := blk_u hp bb; replace hyb := blk_u hyb bb; replace bel := bel.trans (bb.mono bel.size); have hra := hh; clear hh ge bb) | ((with_reducible show wpList _ _ _ (⟨some 7, _, _, _, _, _⟩ :: _) _ _); refine wpList_new_a rfl 28 rfl #[.int .u8 0, .int .u8 0, .int .u8 0, .int .u8 0] (by kernel_rfl) ?_; intro g7 w4 ge hh bb; have d_p_rb := ne_new (hlt hp) ge; have d_yb_rb := ne_new (hlt hyb) ge; have d_ra_rb := ne_new (hlt hra) ge; have orb := Nat.le_trans bel.size ge; replace hp := blk_u hp bb; replace hyb := blk_u hyb bb; replace hra := blk_u hra bb; replace bel := bel.trans (bb.mono bel.size); have hrb := hh; clear hh ge bb; have R13 := Lib.hid (range_lit hp 5 4 [.int .u8 (h.c0.toNat : Int), .int .u8 (h.c1.toNat : Int), .int .u8 (h.c2.toNat : Int), .int .u8 (h.c3.toNat : Int)] rfl)) | ((with_reducible show wpList _ _ _ (⟨some 13, _, _, _, _, _⟩ :: _) _ _); refine wpList_load_rng 28 (.tmp 12) rfl (by kernel_rfl) _ _ rfl _ R13.out _ Try.underlying28 rfl (by kernel_rfl) ?_))
  try clear R13
  with_reducible refine (snone_any (a := ⟨h.c0, h.c1, h.c2, h.c3⟩) _ HCL.out).mono ?_
  rintro e w5 ⟨rfl, b5⟩
  replace hp := blk_u hp b5
  replace hyb := blk_u hyb b5
  replace hra := blk_u hra b5
  replace hrb := blk_u hrb b5
  replace bel := bel.trans (b5.mono bel.size)
  clear b5
  have R26 := cell_lit hp 4 _ rfl
  go_wp2_with fail
  clear R26
  replace bel := bel.drew
  replace hp : w5.drew.heap[g3]? = _ := hp
  replace hyb : w5.drew.heap[g5]? = _ := hyb
  replace hra : w5.drew.heap[g6]? = _ := hra
  replace hrb : w5.drew.heap[g7]? = _ := hrb
  refine wp_region_held_drew (S := fun W => W.heap[g3]? = some (.cells #[.int .i64 h.op, .int .i64 h.hops, .int .u32 h.xid, .int .i64 h.secs, .int .i64 h.flags, .int .u8 (h.c0.toNat : Int), .int .u8 (h.c1.toNat : Int), .int .u8 (h.c2.toNat : Int), .int .u8 (h.c3.toNat : Int), .int .u8 (h.y0.toNat : Int), .int .u8 (h.y1.toNat : Int), .int .u8 (h.y2.toNat : Int), .int .u8 (h.y3.toNat : Int), .int .u8 (h.s0.toNat : Int), .int .u8 (h.s1.toNat : Int), .int .u8 (h.s2.toNat : Int), .int .u8 (h.s3.toNat : Int), .int .u8 (h.r0.toNat : Int), .int .u8 (h.r1.toNat : Int), .int .u8 (h.r2.toNat : Int), .int .u8 (h.r3.toNat : Int), .int .u8 (h.m0.toNat : Int), .int .u8 (h.m1.toNat : Int), .int .u8 (h.m2.toNat : Int), .int .u8 (h.m3.toNat : Int), .int .u8 (h.m4.toNat : Int), .int .u8 (h.m5.toNat : Int), .slice A n c] 41 (0, 0)) ∧ W.heap[g5]? = some (.cells #[.int .u8 (y.a.toNat : Int), .int .u8 (y.b.toNat : Int), .int .u8 (y.c.toNat : Int), .int .u8 (y.d.toNat : Int)] 28 (0, 0))) (by kernel_rfl) ⟨hp, hyb⟩ (fun hH => ?_)
  generalize w5.drew = w6 at bel hp hyb hra hrb hH ⊢
  refine wpAnyH_take (i := 0) (v := ?_) rfl (by kernel_rfl) (by kernel_rfl) (by kernel_rfl) (fun _ _ _ h => h) (Or.inl ⟨by rfl, ?_⟩) hH ?_
  rotate_left
  · ((intro W hW; clear hW; go_simp) <;> with_reducible rfl)
  simp only [Act.put, List.getElem_toArray, List.getElem_cons_zero, List.setIfInBounds_toArray, List.set_cons_zero, List.set_cons_succ]
  refine wpAnyH_take (i := 1) (v := .agg #[.int .u8 (h.m0.toNat : Int), .int .u8 (h.m1.toNat : Int), .int .u8 (h.m2.toNat : Int), .int .u8 (h.m3.toNat : Int), .int .u8 (h.m4.toNat : Int), .int .u8 (h.m5.toNat : Int)]) rfl (by kernel_rfl) (by kernel_rfl) (by kernel_rfl) (fun _ _ _ h => h) (yieldsIf_load_part (by kernel_rfl) 32 _ rfl g3 21 6 rfl _ 41 (0, 0) (fun W hW => hW.1) _ rfl _ Try.underlying32 rfl (by kernel_rfl)) hH ?_
  simp only [sq3, sq4]
  refine wpAnyH_take (i := 2) (v := .agg #[.int .u8 (y.a.toNat : Int), .int .u8 (y.b.toNat : Int), .int .u8 (y.c.toNat : Int), .int .u8 (y.d.toNat : Int)]) rfl (by kernel_rfl) (by kernel_rfl) (by kernel_rfl) (fun _ _ _ h => h) (yieldsIf_load_part (by kernel_rfl) 28 _ rfl g5 0 4 rfl _ 28 (0, 0) (fun W hW => hW.2) _ rfl _ Try.underlying28 rfl (by kernel_rfl)) hH ?_
  simp only [sq3, sq4]
  refine wpAnyH_ready (rs := [3]) (by kernel_rfl) (by simp) ?_
  refine AllReadyH.cons (o := _) rfl (fun K hK => ?_) AllReadyH.nil
  simp only [sq3]
  rw [if_pos (by rfl)]
  refine wp_store_blk 32 (.tmp 6) (.tmp 33) rfl g6 rfl _ rfl _ 32 hra (by rfl) (by kernel_rfl) (by kernel_rfl) ?_
  intro w7 hq gr
  replace hp := blk_a hp gr d_p_ra
  replace hyb := blk_a hyb gr d_yb_ra
  replace hrb := blk_a hrb gr (ne_symm d_ra_rb)
  replace bel := below_grown bel gr ora bel.size
  clear hra
  have hra := hq
  clear hq gr
  refine hK.out _ _ ⟨hp, hyb⟩ (fun hH8 => ?_)
  clear hK K
  simp only [Act.put]
  refine wpAnyH_ready (rs := [4]) (by kernel_rfl) (by simp) ?_
  refine AllReadyH.cons (o := _) rfl (fun K hK => ?_) AllReadyH.nil
  simp only [sq3]
  rw [if_pos (by rfl)]
  refine wp_store_blk 28 (.tmp 7) (.tmp 34) rfl g7 rfl _ rfl _ 28 hrb (by rfl) (by kernel_rfl) (by kernel_rfl) ?_
  intro w9 hq gr
  replace hp := blk_a hp gr d_p_rb
  replace hyb := blk_a hyb gr d_yb_rb
  replace hra := blk_a hra gr d_ra_rb
  replace bel := below_grown bel gr orb bel.size
  clear hrb
  have hrb := hq
  clear hq gr
  refine hK.out _ _ ⟨hp, hyb⟩ (fun hH10 => ?_)
  clear hK K
  simp only [Act.put]
  refine wpAnyH_done (by kernel_rfl) ?_ _
  go_wp2_with fail
  exact bodyPost_ret (results_cell2_row rfl _ _ _ _ _ _ _ _ _ _ _ _ rfl hra Try.underlying32 rfl (by kernel_rfl) rfl hrb Try.underlying28 rfl (by kernel_rfl)) rfl ⟨rfl, bel⟩
set_option linter.unusedVariables false in
set_option linter.unusedSimpArgs false in
set_option maxRecDepth 100000 in
set_option maxHeartbeats 16000000 in
theorem srcv_5your {h : Mh} {y : Ad4} {A : Option Addr} {n c : Nat} (w : World) (hcl : h.cl.eqB Ad4.zero = true) (hfl : (bits .and .i64 h.flags 32768 != 0) = false) : Calls Try.prog 67 #[.agg #[.int .i64 h.op, .int .i64 h.hops, .int .u32 h.xid, .int .i64 h.secs, .int .i64 h.flags, .int .u8 (h.c0.toNat : Int), .int .u8 (h.c1.toNat : Int), .int .u8 (h.c2.toNat : Int), .int .u8 (h.c3.toNat : Int), .int .u8 (h.y0.toNat : Int), .int .u8 (h.y1.toNat : Int), .int .u8 (h.y2.toNat : Int), .int .u8 (h.y3.toNat : Int), .int .u8 (h.s0.toNat : Int), .int .u8 (h.s1.toNat : Int), .int .u8 (h.s2.toNat : Int), .int .u8 (h.s3.toNat : Int), .int .u8 (h.r0.toNat : Int), .int .u8 (h.r1.toNat : Int), .int .u8 (h.r2.toNat : Int), .int .u8 (h.r3.toNat : Int), .int .u8 (h.m0.toNat : Int), .int .u8 (h.m1.toNat : Int), .int .u8 (h.m2.toNat : Int), .int .u8 (h.m3.toNat : Int), .int .u8 (h.m4.toNat : Int), .int .u8 (h.m5.toNat : Int), .slice A n c], .int .u8 5, .agg #[.int .u8 (y.a.toNat : Int), .int .u8 (y.b.toNat : Int), .int .u8 (y.c.toNat : Int), .int .u8 (y.d.toNat : Int)]] w fun e w' => e = .returned (.tuple #[.agg #[.int .u8 (h.m0.toNat : Int), .int .u8 (h.m1.toNat : Int), .int .u8 (h.m2.toNat : Int), .int .u8 (h.m3.toNat : Int), .int .u8 (h.m4.toNat : Int), .int .u8 (h.m5.toNat : Int)], .agg #[.int .u8 (y.a.toNat : Int), .int .u8 (y.b.toNat : Int), .int .u8 (y.c.toNat : Int), .int .u8 (y.d.toNat : Int)]]) ∧ Below w.heap.size w w' := by
  have HCL := Lib.hid hcl
  clear hcl
  have bel := Below.refl w.heap.size w
  go_enter Try.func67, Try.ntmps67
  go_wp2_with (first | ((with_reducible show wpList _ _ _ (⟨some 3, _, _, _, _, _⟩ :: _) _ _); refine wpList_box_n rfl 41 (.tmp 0) rfl #[.int .i64 h.op, .int .i64 h.hops, .int .u32 h.xid, .int .i64 h.secs, .int .i64 h.flags, .int .u8 (h.c0.toNat : Int), .int .u8 (h.c1.toNat : Int), .int .u8 (h.c2.toNat : Int), .int .u8 (h.c3.toNat : Int), .int .u8 (h.y0.toNat : Int), .int .u8 (h.y1.toNat : Int), .int .u8 (h.y2.toNat : Int), .int .u8 (h.y3.toNat : Int), .int .u8 (h.s0.toNat : Int), .int .u8 (h.s1.toNat : Int), .int .u8 (h.s2.toNat : Int), .int .u8 (h.s3.toNat : Int), .int .u8 (h.r0.toNat : Int), .int .u8 (h.r1.toNat : Int), .int .u8 (h.r2.toNat : Int), .int .u8 (h.r3.toNat : Int), .int .u8 (h.m0.toNat : Int), .int .u8 (h.m1.toNat : Int), .int .u8 (h.m2.toNat : Int), .int .u8 (h.m3.toNat : Int), .int .u8 (h.m4.toNat : Int), .int .u8 (h.m5.toNat : Int), .slice A n c] rfl ?_; intro g3 w1 ge lt hh bb; have op := Nat.le_trans bel.size ge; replace bel := bel.trans (bb.mono bel.size); have hp := hh; clear hh lt ge bb) | ((with_reducible show wpList _ _ _ (⟨some 5, _, _, _, _, _⟩ :: _) _ _); refine wpList_box_n rfl 28 (.tmp 2) rfl #[.int .u8 (y.a.toNat : Int), .int .u8 (y.b.toNat : Int), .int .u8 (y.c.toNat : Int), .int .u8 (y.d.toNat : Int)] rfl ?_; intro g5 w2 ge lt hh bb; have d_p_yb := ne_new (hlt hp) ge; have oyb := Nat.le_trans bel.size ge; replace hp := blk_u hp bb; replace bel := bel.trans (bb.mono bel.size); have hyb := hh; clear hh lt ge bb) | ((with_reducible show wpList _ _ _ (⟨some 6, _, _, _, _, _⟩ :: _) _ _); refine wpList_new_a rfl 32 rfl #[.int .u8 0, .int .u8 0, .int .u8 0, .int .u8 0, .int .u8 0, .int .u8 0] (by kernel_rfl) ?_; intro g6 w3 ge hh bb; have d_p_ra := ne_new (hlt hp) ge; have d_yb_ra := ne_new (hlt hyb) ge; have ora := Nat.le_trans bel.size ge; replace hp := blk_u hp bb; replace hyb := blk_u hyb bb; replace bel := bel.trans (bb.mono bel.size); have hra := hh; clear hh ge bb) | ((with_reducible show wpList _ _ _ (⟨some 7, _, _, _, _, _⟩ :: _) _ _); refine wpList_new_a rfl 28 rfl #[.int .u8 0, .int .u8 0, .int .u8 0, .int .u8 0] (by kernel_rfl) ?_; intro g7 w4 ge hh bb; have d_p_rb := ne_new (hlt hp) ge; have d_yb_rb := ne_new (hlt hyb) ge; have d_ra_rb := ne_new (hlt hra) ge; have orb := Nat.le_trans bel.size ge; replace hp := blk_u hp bb; replace hyb := blk_u hyb bb; replace hra := blk_u hra bb; replace bel := bel.trans (bb.mono bel.size); have hrb := hh; clear hh ge bb; have R13 := Lib.hid (range_lit hp 5 4 [.int .u8 (h.c0.toNat : Int), .int .u8 (h.c1.toNat : Int), .int .u8 (h.c2.toNat : Int), .int .u8 (h.c3.toNat : Int)] rfl)) | ((with_reducible show wpList _ _ _ (⟨some 13, _, _, _, _, _⟩ :: _) _ _); refine wpList_load_rng 28 (.tmp 12) rfl (by kernel_rfl) _ _ rfl _ R13.out _ Try.underlying28 rfl (by kernel_rfl) ?_))
  try clear R13
  with_reducible refine (snone_any (a := ⟨h.c0, h.c1, h.c2, h.c3⟩) _ HCL.out).mono ?_
  rintro e w5 ⟨rfl, b5⟩
  replace hp := blk_u hp b5
  replace hyb := blk_u hyb b5
  replace hra := blk_u hra b5
  replace hrb := blk_u hrb b5
  replace bel := bel.trans (b5.mono bel.size)
  clear b5
  have R26 := cell_lit hp 4 _ rfl
  go_wp2_with fail
  clear R26
  replace bel := bel.drew
  replace hp : w5.drew.heap[g3]? = _ := hp
  replace hyb : w5.drew.heap[g5]? = _ := hyb
  replace hra : w5.drew.heap[g6]? = _ := hra
  replace hrb : w5.drew.heap[g7]? = _ := hrb
  refine wp_region_held_drew (S := fun W => W.heap[g3]? = some (.cells #[.int .i64 h.op, .int .i64 h.hops, .int .u32 h.xid, .int .i64 h.secs, .int .i64 h.flags, .int .u8 (h.c0.toNat : Int), .int .u8 (h.c1.toNat : Int), .int .u8 (h.c2.toNat : Int), .int .u8 (h.c3.toNat : Int), .int .u8 (h.y0.toNat : Int), .int .u8 (h.y1.toNat : Int), .int .u8 (h.y2.toNat : Int), .int .u8 (h.y3.toNat : Int), .int .u8 (h.s0.toNat : Int), .int .u8 (h.s1.toNat : Int), .int .u8 (h.s2.toNat : Int), .int .u8 (h.s3.toNat : Int), .int .u8 (h.r0.toNat : Int), .int .u8 (h.r1.toNat : Int), .int .u8 (h.r2.toNat : Int), .int .u8 (h.r3.toNat : Int), .int .u8 (h.m0.toNat : Int), .int .u8 (h.m1.toNat : Int), .int .u8 (h.m2.toNat : Int), .int .u8 (h.m3.toNat : Int), .int .u8 (h.m4.toNat : Int), .int .u8 (h.m5.toNat : Int), .slice A n c] 41 (0, 0)) ∧ W.heap[g5]? = some (.cells #[.int .u8 (y.a.toNat : Int), .int .u8 (y.b.toNat : Int), .int .u8 (y.c.toNat : Int), .int .u8 (y.d.toNat : Int)] 28 (0, 0))) (by kernel_rfl) ⟨hp, hyb⟩ (fun hH => ?_)
  generalize w5.drew = w6 at bel hp hyb hra hrb hH ⊢
  refine wpAnyH_take (i := 0) (v := ?_) rfl (by kernel_rfl) (by kernel_rfl) (by kernel_rfl) (fun _ _ _ h => h) (Or.inl ⟨by rfl, ?_⟩) hH ?_
  rotate_left
  · ((intro W hW; clear hW; go_simp) <;> with_reducible rfl)
  simp only [Act.put, List.getElem_toArray, List.getElem_cons_zero, List.setIfInBounds_toArray, List.set_cons_zero, List.set_cons_succ]
  refine wpAnyH_take (i := 1) (v := .agg #[.int .u8 (h.m0.toNat : Int), .int .u8 (h.m1.toNat : Int), .int .u8 (h.m2.toNat : Int), .int .u8 (h.m3.toNat : Int), .int .u8 (h.m4.toNat : Int), .int .u8 (h.m5.toNat : Int)]) rfl (by kernel_rfl) (by kernel_rfl) (by kernel_rfl) (fun _ _ _ h => h) (yieldsIf_load_part (by kernel_rfl) 32 _ rfl g3 21 6 rfl _ 41 (0, 0) (fun W hW => hW.1) _ rfl _ Try.underlying32 rfl (by kernel_rfl)) hH ?_
  simp only [sq3, sq4]
  refine wpAnyH_take (i := 2) (v := .agg #[.int .u8 (y.a.toNat : Int), .int .u8 (y.b.toNat : Int), .int .u8 (y.c.toNat : Int), .int .u8 (y.d.toNat : Int)]) rfl (by kernel_rfl) (by kernel_rfl) (by kernel_rfl) (fun _ _ _ h => h) (yieldsIf_load_part (by kernel_rfl) 28 _ rfl g5 0 4 rfl _ 28 (0, 0) (fun W hW => hW.2) _ rfl _ Try.underlying28 rfl (by kernel_rfl)) hH ?_
  simp only [sq3, sq4]
  refine wpAnyH_ready (rs := [3]) (by kernel_rfl) (by simp) ?_
  refine AllReadyH.cons (o := _) rfl (fun K hK => ?_) AllReadyH.nil
  simp only [sq3]
  rw [if_pos (by rfl)]
  refine wp_store_blk 32 (.tmp 6) (.tmp 33) rfl g6 rfl _ rfl _ 32 hra (by rfl) (by kernel_rfl) (by kernel_rfl) ?_
  intro w7 hq gr
  replace hp := blk_a hp gr d_p_ra
  replace hyb := blk_a hyb gr d_yb_ra
  replace hrb := blk_a hrb gr (ne_symm d_ra_rb)
  replace bel := below_grown bel gr ora bel.size
  clear hra
  have hra := hq
  clear hq gr
  refine hK.out _ _ ⟨hp, hyb⟩ (fun hH8 => ?_)
  clear hK K
  simp only [Act.put]
  refine wpAnyH_ready (rs := [4]) (by kernel_rfl) (by simp) ?_
  refine AllReadyH.cons (o := _) rfl (fun K hK => ?_) AllReadyH.nil
  simp only [sq3]
  rw [if_pos (by rfl)]
  refine wp_store_blk 28 (.tmp 7) (.tmp 34) rfl g7 rfl _ rfl _ 28 hrb (by rfl) (by kernel_rfl) (by kernel_rfl) ?_
  intro w9 hq gr
  replace hp := blk_a hp gr d_p_rb
  replace hyb := blk_a hyb gr d_yb_rb
  replace hra := blk_a hra gr d_ra_rb
  replace bel := below_grown bel gr orb bel.size
  clear hrb
  have hrb := hq
  clear hq gr
  refine hK.out _ _ ⟨hp, hyb⟩ (fun hH10 => ?_)
  clear hK K
  simp only [Act.put]
  refine wpAnyH_done (by kernel_rfl) ?_ _
  go_wp2_with fail
  exact bodyPost_ret (results_cell2_row rfl _ _ _ _ _ _ _ _ _ _ _ _ rfl hra Try.underlying32 rfl (by kernel_rfl) rfl hrb Try.underlying28 rfl (by kernel_rfl)) rfl ⟨rfl, bel⟩
set_option linter.unusedVariables false in
set_option linter.unusedSimpArgs false in
set_option maxRecDepth 100000 in
set_option maxHeartbeats 16000000 in
theorem srcv_6all {h : Mh} {y : Ad4} {A : Option Addr} {n c : Nat} (w : World)  : Calls Try.prog 67 #[.agg #[.int .i64 h.op, .int .i64 h.hops, .int .u32 h.xid, .int .i64 h.secs, .int .i64 h.flags, .int .u8 (h.c0.toNat : Int), .int .u8 (h.c1.toNat : Int), .int .u8 (h.c2.toNat : Int), .int .u8 (h.c3.toNat : Int), .int .u8 (h.y0.toNat : Int), .int .u8 (h.y1.toNat : Int), .int .u8 (h.y2.toNat : Int), .int .u8 (h.y3.toNat : Int), .int .u8 (h.s0.toNat : Int), .int .u8 (h.s1.toNat : Int), .int .u8 (h.s2.toNat : Int), .int .u8 (h.s3.toNat : Int), .int .u8 (h.r0.toNat : Int), .int .u8 (h.r1.toNat : Int), .int .u8 (h.r2.toNat : Int), .int .u8 (h.r3.toNat : Int), .int .u8 (h.m0.toNat : Int), .int .u8 (h.m1.toNat : Int), .int .u8 (h.m2.toNat : Int), .int .u8 (h.m3.toNat : Int), .int .u8 (h.m4.toNat : Int), .int .u8 (h.m5.toNat : Int), .slice A n c], .int .u8 6, .agg #[.int .u8 (y.a.toNat : Int), .int .u8 (y.b.toNat : Int), .int .u8 (y.c.toNat : Int), .int .u8 (y.d.toNat : Int)]] w fun e w' => e = .returned (.tuple #[.agg #[.int .u8 255, .int .u8 255, .int .u8 255, .int .u8 255, .int .u8 255, .int .u8 255], .agg #[.int .u8 255, .int .u8 255, .int .u8 255, .int .u8 255]]) ∧ Below w.heap.size w w' := by
  have bel := Below.refl w.heap.size w
  go_enter Try.func67, Try.ntmps67
  go_wp2_with (first | ((with_reducible show wpList _ _ _ (⟨some 3, _, _, _, _, _⟩ :: _) _ _); refine wpList_box_n rfl 41 (.tmp 0) rfl #[.int .i64 h.op, .int .i64 h.hops, .int .u32 h.xid, .int .i64 h.secs, .int .i64 h.flags, .int .u8 (h.c0.toNat : Int), .int .u8 (h.c1.toNat : Int), .int .u8 (h.c2.toNat : Int), .int .u8 (h.c3.toNat : Int), .int .u8 (h.y0.toNat : Int), .int .u8 (h.y1.toNat : Int), .int .u8 (h.y2.toNat : Int), .int .u8 (h.y3.toNat : Int), .int .u8 (h.s0.toNat : Int), .int .u8 (h.s1.toNat : Int), .int .u8 (h.s2.toNat : Int), .int .u8 (h.s3.toNat : Int), .int .u8 (h.r0.toNat : Int), .int .u8 (h.r1.toNat : Int), .int .u8 (h.r2.toNat : Int), .int .u8 (h.r3.toNat : Int), .int .u8 (h.m0.toNat : Int), .int .u8 (h.m1.toNat : Int), .int .u8 (h.m2.toNat : Int), .int .u8 (h.m3.toNat : Int), .int .u8 (h.m4.toNat : Int), .int .u8 (h.m5.toNat : Int), .slice A n c] rfl ?_; intro g3 w1 ge lt hh bb; have op := Nat.le_trans bel.size ge; replace bel := bel.trans (bb.mono bel.size); have hp := hh; clear hh lt ge bb) | ((with_reducible show wpList _ _ _ (⟨some 5, _, _, _, _, _⟩ :: _) _ _); refine wpList_box_n rfl 28 (.tmp 2) rfl #[.int .u8 (y.a.toNat : Int), .int .u8 (y.b.toNat : Int), .int .u8 (y.c.toNat : Int), .int .u8 (y.d.toNat : Int)] rfl ?_; intro g5 w2 ge lt hh bb; have d_p_yb := ne_new (hlt hp) ge; have oyb := Nat.le_trans bel.size ge; replace hp := blk_u hp bb; replace bel := bel.trans (bb.mono bel.size); have hyb := hh; clear hh lt ge bb) | ((with_reducible show wpList _ _ _ (⟨some 6, _, _, _, _, _⟩ :: _) _ _); refine wpList_new_a rfl 32 rfl #[.int .u8 0, .int .u8 0, .int .u8 0, .int .u8 0, .int .u8 0, .int .u8 0] (by kernel_rfl) ?_; intro g6 w3 ge hh bb; have d_p_ra := ne_new (hlt hp) ge; have d_yb_ra := ne_new (hlt hyb) ge; have ora := Nat.le_trans bel.size ge; replace hp := blk_u hp bb; replace hyb := blk_u hyb bb; replace bel := bel.trans (bb.mono bel.size); have hra := hh; clear hh ge bb) | ((with_reducible show wpList _ _ _ (⟨some 7, _, _, _, _, _⟩ :: _) _ _); refine wpList_new_a rfl 28 rfl #[.int .u8 0, .int .u8 0, .int .u8 0, .int .u8 0] (by kernel_rfl) ?_; intro g7 w4 ge hh bb; have d_p_rb := ne_new (hlt hp) ge; have d_yb_rb := ne_new (hlt hyb) ge; have d_ra_rb := ne_new (hlt hra) ge; have orb := Nat.le_trans bel.size ge; replace hp := blk_u hp bb; replace hyb := blk_u hyb bb; replace hra := blk_u hra bb; replace bel := bel.trans (bb.mono bel.size); have hrb := hh; clear hh ge bb) | ((with_reducible show wpList _ _ _ (⟨none, Op.store _ (.tmp 6) _, _, _, _, _⟩ :: _) _ _); refine wpList_store_blk rfl 32 (.tmp 6) (.tmp 30) rfl g6 rfl _ rfl _ 32 hra (by rfl) (by kernel_rfl) (by kernel_rfl) ?_; intro w5 hq gr; replace hp := blk_a hp gr d_p_ra; replace hyb := blk_a hyb gr d_yb_ra; replace hrb := blk_a hrb gr (ne_symm d_ra_rb); replace bel := below_grown bel gr ora bel.size; clear hra; have hra := hq; clear hq gr) | ((with_reducible show wpList _ _ _ (⟨none, Op.store _ (.tmp 7) _, _, _, _, _⟩ :: _) _ _); refine wpList_store_blk rfl 28 (.tmp 7) (.tmp 31) rfl g7 rfl _ rfl _ 28 hrb (by rfl) (by kernel_rfl) (by kernel_rfl) ?_; intro w6 hq gr; replace hp := blk_a hp gr d_p_rb; replace hyb := blk_a hyb gr d_yb_rb; replace hra := blk_a hra gr d_ra_rb; replace bel := below_grown bel gr orb bel.size; clear hrb; have hrb := hq; clear hq gr))
  exact bodyPost_ret (results_cell2_row rfl _ _ _ _ _ _ _ _ _ _ _ _ rfl hra Try.underlying32 rfl (by kernel_rfl) rfl hrb Try.underlying28 rfl (by kernel_rfl)) rfl ⟨rfl, bel⟩
theorem srcv_6allz {h : Mh} {A : Option Addr} {n c : Nat} (w : World)  : Calls Try.prog 67 #[.agg #[.int .i64 h.op, .int .i64 h.hops, .int .u32 h.xid, .int .i64 h.secs, .int .i64 h.flags, .int .u8 (h.c0.toNat : Int), .int .u8 (h.c1.toNat : Int), .int .u8 (h.c2.toNat : Int), .int .u8 (h.c3.toNat : Int), .int .u8 (h.y0.toNat : Int), .int .u8 (h.y1.toNat : Int), .int .u8 (h.y2.toNat : Int), .int .u8 (h.y3.toNat : Int), .int .u8 (h.s0.toNat : Int), .int .u8 (h.s1.toNat : Int), .int .u8 (h.s2.toNat : Int), .int .u8 (h.s3.toNat : Int), .int .u8 (h.r0.toNat : Int), .int .u8 (h.r1.toNat : Int), .int .u8 (h.r2.toNat : Int), .int .u8 (h.r3.toNat : Int), .int .u8 (h.m0.toNat : Int), .int .u8 (h.m1.toNat : Int), .int .u8 (h.m2.toNat : Int), .int .u8 (h.m3.toNat : Int), .int .u8 (h.m4.toNat : Int), .int .u8 (h.m5.toNat : Int), .slice A n c], .int .u8 6, .agg #[.int .u8 0, .int .u8 0, .int .u8 0, .int .u8 0]] w fun e w' => e = .returned (.tuple #[.agg #[.int .u8 255, .int .u8 255, .int .u8 255, .int .u8 255, .int .u8 255, .int .u8 255], .agg #[.int .u8 255, .int .u8 255, .int .u8 255, .int .u8 255]]) ∧ Below w.heap.size w w' := srcv_6all (y := Ad4.zero) w
set_option linter.unusedVariables false in
set_option linter.unusedSimpArgs false in
set_option maxRecDepth 100000 in
set_option maxHeartbeats 16000000 in
theorem sans_offer_your {gs gp : Nat} {own : Ad4} {mk sc ty : Int} {h : Mh} {A : Option Addr} {n c : Nat} {hs : List Oh} {L : OptL} {y : Ad4} (w : World) (hsv : w.heap[gs]? = some (.cells #[.pointer (some ⟨gp, 0, none⟩), .int .u8 (own.a.toNat : Int), .int .u8 (own.b.toNat : Int), .int .u8 (own.c.toNat : Int), .int .u8 (own.d.toNat : Int), .int .u32 mk, .int .i64 sc, .slice none 0 0] 64 (0, 0))) (hO : Opv w A n c hs L) (hs0 : 0 ≤ sc) (hs1 : sc < 4294967296) (hty : (typeL L : Int) = ty) (hne : (ty != 8) = true) (hcl : h.cl.eqB Ad4.zero = true) (hfl : (bits .and .i64 h.flags 32768 != 0) = false) : Calls Try.prog 44 #[.pointer (some ⟨gs, 0, none⟩), .agg #[.int .i64 h.op, .int .i64 h.hops, .int .u32 h.xid, .int .i64 h.secs, .int .i64 h.flags, .int .u8 (h.c0.toNat : Int), .int .u8 (h.c1.toNat : Int), .int .u8 (h.c2.toNat : Int), .int .u8 (h.c3.toNat : Int), .int .u8 (h.y0.toNat : Int), .int .u8 (h.y1.toNat : Int), .int .u8 (h.y2.toNat : Int), .int .u8 (h.y3.toNat : Int), .int .u8 (h.s0.toNat : Int), .int .u8 (h.s1.toNat : Int), .int .u8 (h.s2.toNat : Int), .int .u8 (h.s3.toNat : Int), .int .u8 (h.r0.toNat : Int), .int .u8 (h.r1.toNat : Int), .int .u8 (h.r2.toNat : Int), .int .u8 (h.r3.toNat : Int), .int .u8 (h.m0.toNat : Int), .int .u8 (h.m1.toNat : Int), .int .u8 (h.m2.toNat : Int), .int .u8 (h.m3.toNat : Int), .int .u8 (h.m4.toNat : Int), .int .u8 (h.m5.toNat : Int), .slice A n c], .int .u8 2, .agg #[.int .u8 (y.a.toNat : Int), .int .u8 (y.b.toNat : Int), .int .u8 (y.c.toNat : Int), .int .u8 (y.d.toNat : Int)]] w fun e w' => ∃ A2 c2 hs2, e = .returned (.agg #[.int .i64 2, .int .i64 0, .int .u32 h.xid, .int .i64 0, .int .i64 h.flags, .int .u8 0, .int .u8 0, .int .u8 0, .int .u8 0, .int .u8 (y.a.toNat : Int), .int .u8 (y.b.toNat : Int), .int .u8 (y.c.toNat : Int), .int .u8 (y.d.toNat : Int), .int .u8 (own.a.toNat : Int), .int .u8 (own.b.toNat : Int), .int .u8 (own.c.toNat : Int), .int .u8 (own.d.toNat : Int), .int .u8 (h.r0.toNat : Int), .int .u8 (h.r1.toNat : Int), .int .u8 (h.r2.toNat : Int), .int .u8 (h.r3.toNat : Int), .int .u8 (h.m0.toNat : Int), .int .u8 (h.m1.toNat : Int), .int .u8 (h.m2.toNat : Int), .int .u8 (h.m3.toNat : Int), .int .u8 (h.m4.toNat : Int), .int .u8 (h.m5.toNat : Int), .slice A2 6 c2, .int .u8 (h.m0.toNat : Int), .int .u8 (h.m1.toNat : Int), .int .u8 (h.m2.toNat : Int), .int .u8 (h.m3.toNat : Int), .int .u8 (h.m4.toNat : Int), .int .u8 (h.m5.toNat : Int), .int .u8 (y.a.toNat : Int), .int .u8 (y.b.toNat : Int), .int .u8 (y.c.toNat : Int), .int .u8 (y.d.toNat : Int)]) ∧ Opv w' A2 6 c2 hs2 [(53, [2]), (54, own.l), (51, four sc), (1, four mk), (3, own.l), (6, own.l)] ∧ (∀ q, q < w.heap.size → Oa A2 6 hs2 q) ∧ Below w.heap.size w w' := by
  have HS0 := Lib.hid hs0
  have HS1 := Lib.hid hs1
  have HTY := Lib.hid hty
  clear hs0 hs1 hty
  have HCL := Lib.hid hcl
  clear hcl
  have HFL := Lib.hid hfl
  clear hfl
  have bel := Below.refl w.heap.size w
  go_enter Try.func44, Try.ntmps44
  go_wp2_with (first | ((with_reducible show wpList _ _ _ (⟨some 5, _, _, _, _, _⟩ :: _) _ _); refine wpList_box_n rfl 41 (.tmp 1) rfl #[.int .i64 h.op, .int .i64 h.hops, .int .u32 h.xid, .int .i64 h.secs, .int .i64 h.flags, .int .u8 (h.c0.toNat : Int), .int .u8 (h.c1.toNat : Int), .int .u8 (h.c2.toNat : Int), .int .u8 (h.c3.toNat : Int), .int .u8 (h.y0.toNat : Int), .int .u8 (h.y1.toNat : Int), .int .u8 (h.y2.toNat : Int), .int .u8 (h.y3.toNat : Int), .int .u8 (h.s0.toNat : Int), .int .u8 (h.s1.toNat : Int), .int .u8 (h.s2.toNat : Int), .int .u8 (h.s3.toNat : Int), .int .u8 (h.r0.toNat : Int), .int .u8 (h.r1.toNat : Int), .int .u8 (h.r2.toNat : Int), .int .u8 (h.r3.toNat : Int), .int .u8 (h.m0.toNat : Int), .int .u8 (h.m1.toNat : Int), .int .u8 (h.m2.toNat : Int), .int .u8 (h.m3.toNat : Int), .int .u8 (h.m4.toNat : Int), .int .u8 (h.m5.toNat : Int), .slice A n c] rfl ?_; intro g5 w1 ge lt hh bb; have d_sv_p := ne_new (hlt hsv) ge; have op := Nat.le_trans bel.size ge; have oa_p := hO.oa ge; have pp := Nat.le_trans bel.size ge; replace hsv := blk_u hsv bb; replace hO := hO.below bb; replace bel := bel.trans (bb.mono bel.size); have hp := hh; clear hh lt ge bb) | ((with_reducible show wpList _ _ _ (⟨some 7, _, _, _, _, _⟩ :: _) _ _); refine wpList_box_n rfl 28 (.tmp 3) rfl #[.int .u8 (y.a.toNat : Int), .int .u8 (y.b.toNat : Int), .int .u8 (y.c.toNat : Int), .int .u8 (y.d.toNat : Int)] rfl ?_; intro g7 w2 ge lt hh bb; have d_sv_yb := ne_new (hlt hsv) ge; have d_p_yb := ne_new (hlt hp) ge; have oyb := Nat.le_trans bel.size ge; have oa_yb := hO.oa ge; have pyb := Nat.le_trans bel.size ge; replace hsv := blk_u hsv bb; replace hp := blk_u hp bb; replace hO := hO.below bb; replace bel := bel.trans (bb.mono bel.size); have hyb := hh; clear hh lt ge bb) | ((with_reducible show wpList _ _ _ (⟨some 8, _, _, _, _, _⟩ :: _) _ _); refine wpList_new_a rfl 43 rfl #[.int .i64 0, .int .i64 0, .int .u32 0, .int .i64 0, .int .i64 0, .int .u8 0, .int .u8 0, .int .u8 0, .int .u8 0, .int .u8 0, .int .u8 0, .int .u8 0, .int .u8 0, .int .u8 0, .int .u8 0, .int .u8 0, .int .u8 0, .int .u8 0, .int .u8 0, .int .u8 0, .int .u8 0, .int .u8 0, .int .u8 0, .int .u8 0, .int .u8 0, .int .u8 0, .int .u8 0, .slice none 0 0, .int .u8 0, .int .u8 0, .int .u8 0, .int .u8 0, .int .u8 0, .int .u8 0, .int .u8 0, .int .u8 0, .int .u8 0, .int .u8 0] (by kernel_rfl) ?_; intro g8 w3 ge hh bb; have d_sv_z := ne_new (hlt hsv) ge; have d_p_z := ne_new (hlt hp) ge; have d_yb_z := ne_new (hlt hyb) ge; have oz := Nat.le_trans bel.size ge; have oa_z := hO.oa ge; have pz := Nat.le_trans bel.size ge; replace hsv := blk_u hsv bb; replace hp := blk_u hp bb; replace hyb := blk_u hyb bb; replace hO := hO.below bb; replace bel := bel.trans (bb.mono bel.size); have hz := hh; clear hh ge bb))
  go_cut [9] from 9999 (fun s9 W => ∃ g9 : Nat, ∃ A2 : Option Addr, ∃ c2 : Nat, ∃ hs2 : List Oh, s9 = .pointer (some ⟨g9, 0, none⟩) ∧ W.heap[gs]? = some (.cells #[.pointer (some ⟨gp, 0, none⟩), .int .u8 (own.a.toNat : Int), .int .u8 (own.b.toNat : Int), .int .u8 (own.c.toNat : Int), .int .u8 (own.d.toNat : Int), .int .u32 mk, .int .i64 sc, .slice none 0 0] 64 (0, 0)) ∧ W.heap[g5]? = some (.cells #[.int .i64 h.op, .int .i64 h.hops, .int .u32 h.xid, .int .i64 h.secs, .int .i64 h.flags, .int .u8 (h.c0.toNat : Int), .int .u8 (h.c1.toNat : Int), .int .u8 (h.c2.toNat : Int), .int .u8 (h.c3.toNat : Int), .int .u8 (h.y0.toNat : Int), .int .u8 (h.y1.toNat : Int), .int .u8 (h.y2.toNat : Int), .int .u8 (h.y3.toNat : Int), .int .u8 (h.s0.toNat : Int), .int .u8 (h.s1.toNat : Int), .int .u8 (h.s2.toNat : Int), .int .u8 (h.s3.toNat : Int), .int .u8 (h.r0.toNat : Int), .int .u8 (h.r1.toNat : Int), .int .u8 (h.r2.toNat : Int), .int .u8 (h.r3.toNat : Int), .int .u8 (h.m0.toNat : Int), .int .u8 (h.m1.toNat : Int), .int .u8 (h.m2.toNat : Int), .int .u8 (h.m3.toNat : Int), .int .u8 (h.m4.toNat : Int), .int .u8 (h.m5.toNat : Int), .slice A n c] 41 (0, 0)) ∧ W.heap[g7]? = some (.cells #[.int .u8 (y.a.toNat : Int), .int .u8 (y.b.toNat : Int), .int .u8 (y.c.toNat : Int), .int .u8 (y.d.toNat : Int)] 28 (0, 0)) ∧ W.heap[g8]? = some (.cells #[.int .i64 0, .int .i64 0, .int .u32 0, .int .i64 0, .int .i64 0, .int .u8 0, .int .u8 0, .int .u8 0, .int .u8 0, .int .u8 0, .int .u8 0, .int .u8 0, .int .u8 0, .int .u8 0, .int .u8 0, .int .u8 0, .int .u8 0, .int .u8 0, .int .u8 0, .int .u8 0, .int .u8 0, .int .u8 0, .int .u8 0, .int .u8 0, .int .u8 0, .int .u8 0, .int .u8 0, .slice none 0 0, .int .u8 0, .int .u8 0, .int .u8 0, .int .u8 0, .int .u8 0, .int .u8 0, .int .u8 0, .int .u8 0, .int .u8 0, .int .u8 0] 43 (0, 0)) ∧ W.heap[g9]? = some (.cells #[.int .i64 2, .int .i64 0, .int .u32 h.xid, .int .i64 0, .int .i64 h.flags, .int .u8 0, .int .u8 0, .int .u8 0, .int .u8 0, .int .u8 (y.a.toNat : Int), .int .u8 (y.b.toNat : Int), .int .u8 (y.c.toNat : Int), .int .u8 (y.d.toNat : Int), .int .u8 (own.a.toNat : Int), .int .u8 (own.b.toNat : Int), .int .u8 (own.c.toNat : Int), .int .u8 (own.d.toNat : Int), .int .u8 (h.r0.toNat : Int), .int .u8 (h.r1.toNat : Int), .int .u8 (h.r2.toNat : Int), .int .u8 (h.r3.toNat : Int), .int .u8 (h.m0.toNat : Int), .int .u8 (h.m1.toNat : Int), .int .u8 (h.m2.toNat : Int), .int .u8 (h.m3.toNat : Int), .int .u8 (h.m4.toNat : Int), .int .u8 (h.m5.toNat : Int), .slice A2 6 c2] 41 (0, 0)) ∧ w.heap.size ≤ g9 ∧ w.heap.size ≤ g9 ∧ Hid (g9 ≠ g5) ∧ Hid (g9 ≠ gs) ∧ Hid (g9 ≠ g7) ∧ Hid (g9 ≠ g8) ∧ Hid (g5 ≠ gs) ∧ Hid (g5 ≠ g7) ∧ Hid (g5 ≠ g8) ∧ Hid (gs ≠ g7) ∧ Hid (gs ≠ g8) ∧ Hid (g7 ≠ g8) ∧ (∀ q, q < w.heap.size → Oa A2 6 hs2 q) ∧ Oa A n hs g9 ∧ Oa A2 6 hs2 g9 ∧ Oa A2 6 hs2 g8 ∧ Opv W A n c hs L ∧ Opv W A2 6 c2 hs2 [(53, [2]), (54, own.l), (51, four sc), (1, four mk), (3, own.l), (6, own.l)] ∧ Below w.heap.size w W)
  case first =>
    replace bel := bel.drew
    replace hsv : w3.drew.heap[gs]? = _ := hsv
    replace hp : w3.drew.heap[g5]? = _ := hp
    replace hyb : w3.drew.heap[g7]? = _ := hyb
    replace hz : w3.drew.heap[g8]? = _ := hz
    replace hO := hO.drew
    refine wp_region_held_drew (S := fun W => W.heap[g5]? = some (.cells #[.int .i64 h.op, .int .i64 h.hops, .int .u32 h.xid, .int .i64 h.secs, .int .i64 h.flags, .int .u8 (h.c0.toNat : Int), .int .u8 (h.c1.toNat : Int), .int .u8 (h.c2.toNat : Int), .int .u8 (h.c3.toNat : Int), .int .u8 (h.y0.toNat : Int), .int .u8 (h.y1.toNat : Int), .int .u8 (h.y2.toNat : Int), .int .u8 (h.y3.toNat : Int), .int .u8 (h.s0.toNat : Int), .int .u8 (h.s1.toNat : Int), .int .u8 (h.s2.toNat : Int), .int .u8 (h.s3.toNat : Int), .int .u8 (h.r0.toNat : Int), .int .u8 (h.r1.toNat : Int), .int .u8 (h.r2.toNat : Int), .int .u8 (h.r3.toNat : Int), .int .u8 (h.m0.toNat : Int), .int .u8 (h.m1.toNat : Int), .int .u8 (h.m2.toNat : Int), .int .u8 (h.m3.toNat : Int), .int .u8 (h.m4.toNat : Int), .int .u8 (h.m5.toNat : Int), .slice A n c] 41 (0, 0)) ∧ W.heap[g7]? = some (.cells #[.int .u8 (y.a.toNat : Int), .int .u8 (y.b.toNat : Int), .int .u8 (y.c.toNat : Int), .int .u8 (y.d.toNat : Int)] 28 (0, 0)) ∧ W.heap[gs]? = some (.cells #[.pointer (some ⟨gp, 0, none⟩), .int .u8 (own.a.toNat : Int), .int .u8 (own.b.toNat : Int), .int .u8 (own.c.toNat : Int), .int .u8 (own.d.toNat : Int), .int .u32 mk, .int .i64 sc, .slice none 0 0] 64 (0, 0))) (by kernel_rfl) ⟨hp, hyb, hsv⟩ (fun hH => ?_)
    generalize w3.drew = w4 at bel hsv hp hyb hz hO hH ⊢
    refine wpAnyH_take (i := 0) (v := ?_) rfl (by kernel_rfl) (by kernel_rfl) (by kernel_rfl) (fun _ _ _ h => h) (Or.inl ⟨by rfl, ?_⟩) hH ?_
    rotate_left
    · ((intro W hW; clear hW; go_simp) <;> with_reducible rfl)
    simp only [Act.put, List.getElem_toArray, List.getElem_cons_zero, List.setIfInBounds_toArray, List.set_cons_zero, List.set_cons_succ]
    refine wpAnyH_take (i := 1) (v := ?_) rfl (by kernel_rfl) (by kernel_rfl) (by kernel_rfl) (fun _ _ _ h => h) (Or.inl ⟨by rfl, ?_⟩) hH ?_
    rotate_left
    · ((intro W hW; have hk := cell_lit (hW.1) 2 _ rfl; clear hW; go_simp) <;> with_reducible rfl)
    simp only [sq3, sq4]
    refine wpAnyH_take (i := 2) (v := ?_) rfl (by kernel_rfl) (by kernel_rfl) (by kernel_rfl) (fun _ _ _ h => h) (Or.inl ⟨by rfl, ?_⟩) hH ?_
    rotate_left
    · ((intro W hW; clear hW; go_simp) <;> with_reducible rfl)
    simp only [sq3, sq4]
    refine wpAnyH_take (i := 3) (v := ?_) rfl (by kernel_rfl) (by kernel_rfl) (by kernel_rfl) (fun _ _ _ h => h) (Or.inl ⟨by rfl, ?_⟩) hH ?_
    rotate_left
    · ((intro W hW; have hk := cell_lit (hW.1) 4 _ rfl; clear hW; go_simp) <;> with_reducible rfl)
    simp only [sq3, sq4]
    refine wpAnyH_take (i := 4) (v := .agg #[.int .u8 (y.a.toNat : Int), .int .u8 (y.b.toNat : Int), .int .u8 (y.c.toNat : Int), .int .u8 (y.d.toNat : Int)]) rfl (by kernel_rfl) (by kernel_rfl) (by kernel_rfl) (fun _ _ _ h => h) (yieldsIf_load_part (by kernel_rfl) 28 _ rfl g7 0 4 rfl _ 28 (0, 0) (fun W hW => hW.2.1) _ rfl _ Try.underlying28 rfl (by kernel_rfl)) hH ?_
    simp only [sq3, sq4]
    refine wpAnyH_take (i := 5) (v := ?_) rfl (by kernel_rfl) (by kernel_rfl) (by kernel_rfl) (fun _ _ _ h => h) (Or.inl ⟨by rfl, ?_⟩) hH ?_
    rotate_left
    · ((intro W hW; clear hW; go_simp) <;> with_reducible rfl)
    simp only [sq3, sq4]
    refine wpAnyH_take (i := 6) (v := ?_) rfl (by kernel_rfl) (by kernel_rfl) (by kernel_rfl) (fun _ _ _ h => h) (Or.inl ⟨by rfl, ?_⟩) hH ?_
    rotate_left
    · ((intro W hW; clear hW; go_simp) <;> with_reducible rfl)
    simp only [sq3, sq4]
    refine wpAnyH_take (i := 7) (v := ?_) rfl (by kernel_rfl) (by kernel_rfl) (by kernel_rfl) (fun _ _ _ h => h) (Or.inl ⟨by rfl, ?_⟩) hH ?_
    rotate_left
    · ((intro W hW; clear hW; go_simp) <;> with_reducible rfl)
    simp only [sq3, sq4]
    refine wpAnyH_take (i := 8) (v := .agg #[.int .u8 (own.a.toNat : Int), .int .u8 (own.b.toNat : Int), .int .u8 (own.c.toNat : Int), .int .u8 (own.d.toNat : Int)]) rfl (by kernel_rfl) (by kernel_rfl) (by kernel_rfl) (fun _ _ _ h => h) (yieldsIf_load_part (by kernel_rfl) 28 _ rfl gs 1 4 rfl _ 64 (0, 0) (fun W hW => hW.2.2) _ rfl _ Try.underlying28 rfl (by kernel_rfl)) hH ?_
    simp only [sq3, sq4]
    refine wpAnyH_take (i := 9) (v := ?_) rfl (by kernel_rfl) (by kernel_rfl) (by kernel_rfl) (fun _ _ _ h => h) (Or.inl ⟨by rfl, ?_⟩) hH ?_
    rotate_left
    · ((intro W hW; clear hW; go_simp) <;> with_reducible rfl)
    simp only [sq3, sq4]
    refine wpAnyH_take (i := 10) (v := .agg #[.int .u8 (h.r0.toNat : Int), .int .u8 (h.r1.toNat : Int), .int .u8 (h.r2.toNat : Int), .int .u8 (h.r3.toNat : Int)]) rfl (by kernel_rfl) (by kernel_rfl) (by kernel_rfl) (fun _ _ _ h => h) (yieldsIf_load_part (by kernel_rfl) 28 _ rfl g5 17 4 rfl _ 41 (0, 0) (fun W hW => hW.1) _ rfl _ Try.underlying28 rfl (by kernel_rfl)) hH ?_
    simp only [sq3, sq4]
    refine wpAnyH_take (i := 11) (v := ?_) rfl (by kernel_rfl) (by kernel_rfl) (by kernel_rfl) (fun _ _ _ h => h) (Or.inl ⟨by rfl, ?_⟩) hH ?_
    rotate_left
    · ((intro W hW; clear hW; go_simp) <;> with_reducible rfl)
    simp only [sq3, sq4]
    refine wpAnyH_take (i := 12) (v := .agg #[.int .u8 (h.m0.toNat : Int), .int .u8 (h.m1.toNat : Int), .int .u8 (h.m2.toNat : Int), .int .u8 (h.m3.toNat : Int), .int .u8 (h.m4.toNat : Int), .int .u8 (h.m5.toNat : Int)]) rfl (by kernel_rfl) (by kernel_rfl) (by kernel_rfl) (fun _ _ _ h => h) (yieldsIf_load_part (by kernel_rfl) 32 _ rfl g5 21 6 rfl _ 41 (0, 0) (fun W hW => hW.1) _ rfl _ Try.underlying32 rfl (by kernel_rfl)) hH ?_
    simp only [sq3, sq4]
    refine wpAnyH_take (i := 13) (v := ?_) rfl (by kernel_rfl) (by kernel_rfl) (by kernel_rfl) (fun _ _ _ h => h) (Or.inl ⟨by rfl, ?_⟩) hH ?_
    rotate_left
    · ((intro W hW; clear hW; go_simp) <;> with_reducible rfl)
    simp only [sq3, sq4]
    refine wpAnyH_take (i := 14) (v := ?_) rfl (by kernel_rfl) (by kernel_rfl) (by kernel_rfl) (fun _ _ _ h => h) (Or.inl ⟨by rfl, ?_⟩) hH ?_
    rotate_left
    · ((intro W hW; clear hW; go_simp) <;> with_reducible rfl)
    simp only [sq3, sq4]
    refine wpAnyH_take (i := 15) (v := .agg #[.int .i64 h.op, .int .i64 h.hops, .int .u32 h.xid, .int .i64 h.secs, .int .i64 h.flags, .int .u8 (h.c0.toNat : Int), .int .u8 (h.c1.toNat : Int), .int .u8 (h.c2.toNat : Int), .int .u8 (h.c3.toNat : Int), .int .u8 (h.y0.toNat : Int), .int .u8 (h.y1.toNat : Int), .int .u8 (h.y2.toNat : Int), .int .u8 (h.y3.toNat : Int), .int .u8 (h.s0.toNat : Int), .int .u8 (h.s1.toNat : Int), .int .u8 (h.s2.toNat : Int), .int .u8 (h.s3.toNat : Int), .int .u8 (h.r0.toNat : Int), .int .u8 (h.r1.toNat : Int), .int .u8 (h.r2.toNat : Int), .int .u8 (h.r3.toNat : Int), .int .u8 (h.m0.toNat : Int), .int .u8 (h.m1.toNat : Int), .int .u8 (h.m2.toNat : Int), .int .u8 (h.m3.toNat : Int), .int .u8 (h.m4.toNat : Int), .int .u8 (h.m5.toNat : Int), .slice A n c]) rfl (by kernel_rfl) (by kernel_rfl) (by kernel_rfl) (fun _ _ _ h => h) (yieldsIf_load_part (by kernel_rfl) 41 _ rfl g5 0 28 rfl _ 41 (0, 0) (fun W hW => hW.1) _ rfl _ Try.underlying41 rfl (by kernel_rfl)) hH ?_
    simp only [sq3, sq4]
    refine wpAnyH_ready (rs := [16, 20]) (by kernel_rfl) (by simp) ?_
    refine AllReadyH.cons (o := _) rfl (fun K hK => ?_) (AllReadyH.cons (o := _) rfl (fun K hK => ?_) AllReadyH.nil)
    rotate_left
    · simp only [sq3]
      rw [if_pos (by rfl)]
      refine wp_new_a 41 rfl #[.int .i64 0, .int .i64 0, .int .u32 0, .int .i64 0, .int .i64 0, .int .u8 0, .int .u8 0, .int .u8 0, .int .u8 0, .int .u8 0, .int .u8 0, .int .u8 0, .int .u8 0, .int .u8 0, .int .u8 0, .int .u8 0, .int .u8 0, .int .u8 0, .int .u8 0, .int .u8 0, .int .u8 0, .int .u8 0, .int .u8 0, .int .u8 0, .int .u8 0, .int .u8 0, .int .u8 0, .slice none 0 0] (by kernel_rfl) ?_
      intro g9 w5 ge hh bb
      have d_sv_mo := ne_new (hlt hsv) ge
      have d_p_mo := ne_new (hlt hp) ge
      have d_yb_mo := ne_new (hlt hyb) ge
      have d_z_mo := ne_new (hlt hz) ge
      have omo := Nat.le_trans bel.size ge
      have oa_mo := hO.oa ge
      have pmo := Nat.le_trans bel.size ge
      replace hsv := blk_u hsv bb
      replace hp := blk_u hp bb
      replace hyb := blk_u hyb bb
      replace hz := blk_u hz bb
      replace hO := hO.below bb
      replace bel := bel.trans (bb.mono bel.size)
      have hmo := hh
      clear hh ge bb
      refine hK.out _ _ ⟨hp, hyb, hsv⟩ (fun hH6 => ?_)
      clear hK K
      simp only [sq4]
      refine wpAnyH_ready (rs := [16]) (by kernel_rfl) (by simp) ?_
      refine AllReadyH.cons (o := _) rfl (fun K hK => ?_) AllReadyH.nil
      simp only [sq3]
      go_simp
      with_reducible refine (dtype_o (h := h) _ hO HTY.out).mono ?_
      rintro e w7 ⟨rfl, b7⟩
      dsimp only
      replace hsv := blk_u hsv b7
      replace hp := blk_u hp b7
      replace hyb := blk_u hyb b7
      replace hz := blk_u hz b7
      replace hmo := blk_u hmo b7
      replace hO := hO.below b7
      replace bel := bel.trans (b7.mono bel.size)
      clear b7
      refine hK.out _ _ ⟨hp, hyb, hsv⟩ (fun hH8 => ?_)
      clear hK K
      refine wpAnyH_take (i := 17) (v := ?_) rfl (by kernel_rfl) (by kernel_rfl) (by kernel_rfl) (fun _ _ _ h => h) (Or.inl ⟨by rfl, ?_⟩) hH8 ?_
      rotate_left
      · ((intro W hW; clear hW; go_simp) <;> with_reducible rfl)
      simp only [sq3, sq4]
      refine wpAnyH_ready (rs := [18]) (by kernel_rfl) (by simp) ?_
      refine AllReadyH.cons (o := _) rfl (fun K hK => ?_) AllReadyH.nil
      simp only [sq3]
      go_simp
      have sp_sv := hlt hsv
      have sp_p := hlt hp
      have sp_yb := hlt hyb
      have sp_z := hlt hz
      have sp_mo := hlt hmo
      have hwz := bel.size
      with_reducible refine (sopts_offer _ hsv HS0.out HS1.out).mono ?_
      rintro e w9 ⟨A2, c2, hs2, rfl, hP, fP, b9⟩
      dsimp only
      replace hsv := blk_u hsv b9
      replace hp := blk_u hp b9
      replace hyb := blk_u hyb b9
      replace hz := blk_u hz b9
      replace hmo := blk_u hmo b9
      replace hO := hO.below b9
      replace bel := bel.trans (b9.mono bel.size)
      clear b9
      have fA : ∀ q, q < w.heap.size → Oa A2 6 hs2 q := fun q_ hq_ => fP q_ (Nat.lt_of_lt_of_le hq_ hwz)
      clear hwz
      have ob_sv := fP _ sp_sv
      have ob_p := fP _ sp_p
      have ob_yb := fP _ sp_yb
      have ob_z := fP _ sp_z
      have ob_mo := fP _ sp_mo
      clear sp_sv sp_p sp_yb sp_z sp_mo
      clear fP
      refine hK.out _ _ ⟨hp, hyb, hsv⟩ (fun hH10 => ?_)
      clear hK K
      refine wpAnyH_take (i := 19) (v := ?_) rfl (by kernel_rfl) (by kernel_rfl) (by kernel_rfl) (fun _ _ _ h => h) (Or.inl ⟨by rfl, ?_⟩) hH10 ?_
      rotate_left
      · ((intro W hW; clear hW; go_simp) <;> with_reducible rfl)
      simp only [sq3, sq4]
      refine wpAnyH_ready (rs := [21]) (by kernel_rfl) (by simp) ?_
      refine AllReadyH.cons (o := _) rfl (fun K hK => ?_) AllReadyH.nil
      simp only [sq3]
      rw [if_pos (by rfl)]
      refine wp_store_blk 41 (.tmp 9) (.tmp 31) rfl g9 rfl _ rfl _ 41 hmo (by rfl) (by kernel_rfl) (by kernel_rfl) ?_
      intro w11 hq gr
      replace hsv := blk_a hsv gr d_sv_mo
      replace hp := blk_a hp gr d_p_mo
      replace hyb := blk_a hyb gr d_yb_mo
      replace hz := blk_a hz gr d_z_mo
      replace hO := hO.away oa_mo gr
      replace hP := hP.away ob_mo gr
      replace bel := below_grown bel gr omo bel.size
      clear hmo
      have hmo := hq
      clear hq gr
      refine hK.out _ _ ⟨hp, hyb, hsv⟩ (fun hH12 => ?_)
      clear hK K
      simp only [Act.put]
      refine wpAnyH_done (by kernel_rfl) ?_ _
      go_wp2_with fail
      go_meet
      case rel => exact ⟨g9, A2, c2, hs2, rfl, hsv, hp, hyb, hz, hmo, omo, pmo, (ne_symm d_p_mo), (ne_symm d_sv_mo), (ne_symm d_yb_mo), (ne_symm d_z_mo), (ne_symm d_sv_p), d_p_yb, d_p_z, d_sv_yb, d_sv_z, d_yb_z, fA, oa_mo, ob_mo, ob_z, hO, hP, bel⟩
    simp only [sq3]
    go_simp
    with_reducible refine (dtype_o (h := h) _ hO HTY.out).mono ?_
    rintro e w5 ⟨rfl, b5⟩
    dsimp only
    replace hsv := blk_u hsv b5
    replace hp := blk_u hp b5
    replace hyb := blk_u hyb b5
    replace hz := blk_u hz b5
    replace hO := hO.below b5
    replace bel := bel.trans (b5.mono bel.size)
    clear b5
    refine hK.out _ _ ⟨hp, hyb, hsv⟩ (fun hH6 => ?_)
    clear hK K
    refine wpAnyH_take (i := 17) (v := ?_) rfl (by kernel_rfl) (by kernel_rfl) (by kernel_rfl) (fun _ _ _ h => h) (Or.inl ⟨by rfl, ?_⟩) hH6 ?_
    rotate_left
    · ((intro W hW; clear hW; go_simp) <;> with_reducible rfl)
    simp only [sq3, sq4]
    refine wpAnyH_ready (rs := [18, 20]) (by kernel_rfl) (by simp) ?_
    refine AllReadyH.cons (o := _) rfl (fun K hK => ?_) (AllReadyH.cons (o := _) rfl (fun K hK => ?_) AllReadyH.nil)
    · simp only [sq3]
      go_simp
      have sp_sv := hlt hsv
      have sp_p := hlt hp
      have sp_yb := hlt hyb
      have sp_z := hlt hz
      have hwz := bel.size
      with_reducible refine (sopts_offer _ hsv HS0.out HS1.out).mono ?_
      rintro e w7 ⟨A2, c2, hs2, rfl, hP, fP, b7⟩
      dsimp only
      replace hsv := blk_u hsv b7
      replace hp := blk_u hp b7
      replace hyb := blk_u hyb b7
      replace hz := blk_u hz b7
      replace hO := hO.below b7
      replace bel := bel.trans (b7.mono bel.size)
      clear b7
      have fA : ∀ q, q < w.heap.size → Oa A2 6 hs2 q := fun q_ hq_ => fP q_ (Nat.lt_of_lt_of_le hq_ hwz)
      clear hwz
      have ob_sv := fP _ sp_sv
      have ob_p := fP _ sp_p
      have ob_yb := fP _ sp_yb
      have ob_z := fP _ sp_z
      clear sp_sv sp_p sp_yb sp_z
      clear fP
      refine hK.out _ _ ⟨hp, hyb, hsv⟩ (fun hH8 => ?_)
      clear hK K
      refine wpAnyH_take (i := 19) (v := ?_) rfl (by kernel_rfl) (by kernel_rfl) (by kernel_rfl) (fun _ _ _ h => h) (Or.inl ⟨by rfl, ?_⟩) hH8 ?_
      rotate_left
      · ((intro W hW; clear hW; go_simp) <;> with_reducible rfl)
      simp only [sq3, sq4]
      refine wpAnyH_ready (rs := [20]) (by kernel_rfl) (by simp) ?_
      refine AllReadyH.cons (o := _) rfl (fun K hK => ?_) AllReadyH.nil
      simp only [sq3]
      rw [if_pos (by rfl)]
      refine wp_new_a 41 rfl #[.int .i64 0, .int .i64 0, .int .u32 0, .int .i64 0, .int .i64 0, .int .u8 0, .int .u8 0, .int .u8 0, .int .u8 0, .int .u8 0, .int .u8 0, .int .u8 0, .int .u8 0, .int .u8 0, .int .u8 0, .int .u8 0, .int .u8 0, .int .u8 0, .int .u8 0, .int .u8 0, .int .u8 0, .int .u8 0, .int .u8 0, .int .u8 0, .int .u8 0, .int .u8 0, .int .u8 0, .slice none 0 0] (by kernel_rfl) ?_
      intro g9 w9 ge hh bb
      have d_sv_mo := ne_new (hlt hsv) ge
      have d_p_mo := ne_new (hlt hp) ge
      have d_yb_mo := ne_new (hlt hyb) ge
      have d_z_mo := ne_new (hlt hz) ge
      have omo := Nat.le_trans bel.size ge
      have oa_mo := hO.oa ge
      have pmo := Nat.le_trans bel.size ge
      have ob_mo := hP.oa ge
      replace hsv := blk_u hsv bb
      replace hp := blk_u hp bb
      replace hyb := blk_u hyb bb
      replace hz := blk_u hz bb
      replace hO := hO.below bb
      replace hP := hP.below bb
      replace bel := bel.trans (bb.mono bel.size)
      have hmo := hh
      clear hh ge bb
      refine hK.out _ _ ⟨hp, hyb, hsv⟩ (fun hH10 => ?_)
      clear hK K
      simp only [sq4]
      refine wpAnyH_ready (rs := [21]) (by kernel_rfl) (by simp) ?_
      refine AllReadyH.cons (o := _) rfl (fun K hK => ?_) AllReadyH.nil
      simp only [sq3]
      rw [if_pos (by rfl)]
      refine wp_store_blk 41 (.tmp 9) (.tmp 31) rfl g9 rfl _ rfl _ 41 hmo (by rfl) (by kernel_rfl) (by kernel_rfl) ?_
      intro w11 hq gr
      replace hsv := blk_a hsv gr d_sv_mo
      replace hp := blk_a hp gr d_p_mo
      replace hyb := blk_a hyb gr d_yb_mo
      replace hz := blk_a hz gr d_z_mo
      replace hO := hO.away oa_mo gr
      replace hP := hP.away ob_mo gr
      replace bel := below_grown bel gr omo bel.size
      clear hmo
      have hmo := hq
      clear hq gr
      refine hK.out _ _ ⟨hp, hyb, hsv⟩ (fun hH12 => ?_)
      clear hK K
      simp only [Act.put]
      refine wpAnyH_done (by kernel_rfl) ?_ _
      go_wp2_with fail
      go_meet
      case rel => exact ⟨g9, A2, c2, hs2, rfl, hsv, hp, hyb, hz, hmo, omo, pmo, (ne_symm d_p_mo), (ne_symm d_sv_mo), (ne_symm d_yb_mo), (ne_symm d_z_mo), (ne_symm d_sv_p), d_p_yb, d_p_z, d_sv_yb, d_sv_z, d_yb_z, fA, oa_mo, ob_mo, ob_z, hO, hP, bel⟩
    simp only [sq3]
    rw [if_pos (by rfl)]
    refine wp_new_a 41 rfl #[.int .i64 0, .int .i64 0, .int .u32 0, .int .i64 0, .int .i64 0, .int .u8 0, .int .u8 0, .int .u8 0, .int .u8 0, .int .u8 0, .int .u8 0, .int .u8 0, .int .u8 0, .int .u8 0, .int .u8 0, .int .u8 0, .int .u8 0, .int .u8 0, .int .u8 0, .int .u8 0, .int .u8 0, .int .u8 0, .int .u8 0, .int .u8 0, .int .u8 0, .int .u8 0, .int .u8 0, .slice none 0 0] (by kernel_rfl) ?_
    intro g9 w7 ge hh bb
    have d_sv_mo := ne_new (hlt hsv) ge
    have d_p_mo := ne_new (hlt hp) ge
    have d_yb_mo := ne_new (hlt hyb) ge
    have d_z_mo := ne_new (hlt hz) ge
    have omo := Nat.le_trans bel.size ge
    have oa_mo := hO.oa ge
    have pmo := Nat.le_trans bel.size ge
    replace hsv := blk_u hsv bb
    replace hp := blk_u hp bb
    replace hyb := blk_u hyb bb
    replace hz := blk_u hz bb
    replace hO := hO.below bb
    replace bel := bel.trans (bb.mono bel.size)
    have hmo := hh
    clear hh ge bb
    refine hK.out _ _ ⟨hp, hyb, hsv⟩ (fun hH8 => ?_)
    clear hK K
    simp only [sq4]
    refine wpAnyH_ready (rs := [18]) (by kernel_rfl) (by simp) ?_
    refine AllReadyH.cons (o := _) rfl (fun K hK => ?_) AllReadyH.nil
    simp only [sq3]
    go_simp
    have sp_sv := hlt hsv
    have sp_p := hlt hp
    have sp_yb := hlt hyb
    have sp_z := hlt hz
    have sp_mo := hlt hmo
    have hwz := bel.size
    with_reducible refine (sopts_offer _ hsv HS0.out HS1.out).mono ?_
    rintro e w9 ⟨A2, c2, hs2, rfl, hP, fP, b9⟩
    dsimp only
    replace hsv := blk_u hsv b9
    replace hp := blk_u hp b9
    replace hyb := blk_u hyb b9
    replace hz := blk_u hz b9
    replace hmo := blk_u hmo b9
    replace hO := hO.below b9
    replace bel := bel.trans (b9.mono bel.size)
    clear b9
    have fA : ∀ q, q < w.heap.size → Oa A2 6 hs2 q := fun q_ hq_ => fP q_ (Nat.lt_of_lt_of_le hq_ hwz)
    clear hwz
    have ob_sv := fP _ sp_sv
    have ob_p := fP _ sp_p
    have ob_yb := fP _ sp_yb
    have ob_z := fP _ sp_z
    have ob_mo := fP _ sp_mo
    clear sp_sv sp_p sp_yb sp_z sp_mo
    clear fP
    refine hK.out _ _ ⟨hp, hyb, hsv⟩ (fun hH10 => ?_)
    clear hK K
    refine wpAnyH_take (i := 19) (v := ?_) rfl (by kernel_rfl) (by kernel_rfl) (by kernel_rfl) (fun _ _ _ h => h) (Or.inl ⟨by rfl, ?_⟩) hH10 ?_
    rotate_left
    · ((intro W hW; clear hW; go_simp) <;> with_reducible rfl)
    simp only [sq3, sq4]
    refine wpAnyH_ready (rs := [21]) (by kernel_rfl) (by simp) ?_
    refine AllReadyH.cons (o := _) rfl (fun K hK => ?_) AllReadyH.nil
    simp only [sq3]
    rw [if_pos (by rfl)]
    refine wp_store_blk 41 (.tmp 9) (.tmp 31) rfl g9 rfl _ rfl _ 41 hmo (by rfl) (by kernel_rfl) (by kernel_rfl) ?_
    intro w11 hq gr
    replace hsv := blk_a hsv gr d_sv_mo
    replace hp := blk_a hp gr d_p_mo
    replace hyb := blk_a hyb gr d_yb_mo
    replace hz := blk_a hz gr d_z_mo
    replace hO := hO.away oa_mo gr
    replace hP := hP.away ob_mo gr
    replace bel := below_grown bel gr omo bel.size
    clear hmo
    have hmo := hq
    clear hq gr
    refine hK.out _ _ ⟨hp, hyb, hsv⟩ (fun hH12 => ?_)
    clear hK K
    simp only [Act.put]
    refine wpAnyH_done (by kernel_rfl) ?_ _
    go_wp2_with fail
    go_meet
    case rel => exact ⟨g9, A2, c2, hs2, rfl, hsv, hp, hyb, hz, hmo, omo, pmo, (ne_symm d_p_mo), (ne_symm d_sv_mo), (ne_symm d_yb_mo), (ne_symm d_z_mo), (ne_symm d_sv_p), d_p_yb, d_p_z, d_sv_yb, d_sv_z, d_yb_z, fA, oa_mo, ob_mo, ob_z, hO, hP, bel⟩
  obtain ⟨w13, hw_⟩ : ∃ x, x = wc := ⟨_, rfl⟩
  subst hw_
  obtain ⟨g9, A2, c2, hs2, rfl, hsv, hp, hyb, hz, hmo, omo, pmo, d_mo_p, d_mo_sv, d_mo_yb, d_mo_z, d_p_sv, d_p_yb, d_p_z, d_sv_yb, d_sv_z, d_yb_z, fA, oa_mo, ob_mo, ob_z, hO, hP, bel⟩ := hcut
  have R38 := Lib.hid (range_lit hp 0 28 [.int .i64 h.op, .int .i64 h.hops, .int .u32 h.xid, .int .i64 h.secs, .int .i64 h.flags, .int .u8 (h.c0.toNat : Int), .int .u8 (h.c1.toNat : Int), .int .u8 (h.c2.toNat : Int), .int .u8 (h.c3.toNat : Int), .int .u8 (h.y0.toNat : Int), .int .u8 (h.y1.toNat : Int), .int .u8 (h.y2.toNat : Int), .int .u8 (h.y3.toNat : Int), .int .u8 (h.s0.toNat : Int), .int .u8 (h.s1.toNat : Int), .int .u8 (h.s2.toNat : Int), .int .u8 (h.s3.toNat : Int), .int .u8 (h.r0.toNat : Int), .int .u8 (h.r1.toNat : Int), .int .u8 (h.r2.toNat : Int), .int .u8 (h.r3.toNat : Int), .int .u8 (h.m0.toNat : Int), .int .u8 (h.m1.toNat : Int), .int .u8 (h.m2.toNat : Int), .int .u8 (h.m3.toNat : Int), .int .u8 (h.m4.toNat : Int), .int .u8 (h.m5.toNat : Int), .slice A n c] rfl)
  go_wp2_with (first | ((with_reducible show wpList _ _ _ (⟨some 38, _, _, _, _, _⟩ :: _) _ _); refine wpList_load_rng 41 (.tmp 5) rfl (by kernel_rfl) _ _ rfl _ R38.out _ Try.underlying41 rfl (by kernel_rfl) ?_; have R40 := Lib.hid (range_lit hyb 0 4 [.int .u8 (y.a.toNat : Int), .int .u8 (y.b.toNat : Int), .int .u8 (y.c.toNat : Int), .int .u8 (y.d.toNat : Int)] rfl)) | ((with_reducible show wpList _ _ _ (⟨some 40, _, _, _, _, _⟩ :: _) _ _); refine wpList_load_rng 28 (.tmp 7) rfl (by kernel_rfl) _ _ rfl _ R40.out _ Try.underlying28 rfl (by kernel_rfl) ?_))
  try clear R38
  try clear R40
  with_reducible refine (srcv_2your _ HCL.out HFL.out).mono ?_
  rintro e w14 ⟨rfl, b14⟩
  replace hsv := blk_u hsv b14
  replace hp := blk_u hp b14
  replace hyb := blk_u hyb b14
  replace hz := blk_u hz b14
  replace hmo := blk_u hmo b14
  replace hO := hO.below b14
  replace hP := hP.below b14
  replace bel := bel.trans (b14.mono bel.size)
  clear b14
  go_wp2_with (first | ((with_reducible show wpList _ _ _ (⟨some 10, _, _, _, _, _⟩ :: _) _ _); refine wpList_new_a rfl 32 rfl #[.int .u8 0, .int .u8 0, .int .u8 0, .int .u8 0, .int .u8 0, .int .u8 0] (by kernel_rfl) ?_; intro g10 w15 ge hh bb; have d_sv_mm := ne_new (hlt hsv) ge; have d_p_mm := ne_new (hlt hp) ge; have d_yb_mm := ne_new (hlt hyb) ge; have d_z_mm := ne_new (hlt hz) ge; have d_mo_mm := ne_new (hlt hmo) ge; have omm := Nat.le_trans bel.size ge; have oa_mm := hO.oa ge; have pmm := Nat.le_trans bel.size ge; have ob_mm := hP.oa ge; replace hsv := blk_u hsv bb; replace hp := blk_u hp bb; replace hyb := blk_u hyb bb; replace hz := blk_u hz bb; replace hmo := blk_u hmo bb; replace hO := hO.below bb; replace hP := hP.below bb; replace bel := bel.trans (bb.mono bel.size); have hmm := hh; clear hh ge bb) | ((with_reducible show wpList _ _ _ (⟨some 11, _, _, _, _, _⟩ :: _) _ _); refine wpList_new_a rfl 28 rfl #[.int .u8 0, .int .u8 0, .int .u8 0, .int .u8 0] (by kernel_rfl) ?_; intro g11 w16 ge hh bb; have d_sv_mt := ne_new (hlt hsv) ge; have d_p_mt := ne_new (hlt hp) ge; have d_yb_mt := ne_new (hlt hyb) ge; have d_z_mt := ne_new (hlt hz) ge; have d_mo_mt := ne_new (hlt hmo) ge; have d_mm_mt := ne_new (hlt hmm) ge; have omt := Nat.le_trans bel.size ge; have oa_mt := hO.oa ge; have pmt := Nat.le_trans bel.size ge; have ob_mt := hP.oa ge; replace hsv := blk_u hsv bb; replace hp := blk_u hp bb; replace hyb := blk_u hyb bb; replace hz := blk_u hz bb; replace hmo := blk_u hmo bb; replace hmm := blk_u hmm bb; replace hO := hO.below bb; replace hP := hP.below bb; replace bel := bel.trans (bb.mono bel.size); have hmt := hh; clear hh ge bb) | ((with_reducible show wpList _ _ _ (⟨none, Op.store _ (.tmp 10) _, _, _, _, _⟩ :: _) _ _); refine wpList_store_blk rfl 32 (.tmp 10) (.tmp 42) rfl g10 rfl _ rfl _ 32 hmm (by rfl) (by kernel_rfl) (by kernel_rfl) ?_; intro w17 hq gr; replace hsv := blk_a hsv gr d_sv_mm; replace hp := blk_a hp gr d_p_mm; replace hyb := blk_a hyb gr d_yb_mm; replace hz := blk_a hz gr d_z_mm; replace hmo := blk_a hmo gr d_mo_mm; replace hmt := blk_a hmt gr (ne_symm d_mm_mt); replace hO := hO.away oa_mm gr; replace hP := hP.away ob_mm gr; replace bel := below_grown bel gr omm bel.size; clear hmm; have hmm := hq; clear hq gr) | ((with_reducible show wpList _ _ _ (⟨none, Op.store _ (.tmp 11) _, _, _, _, _⟩ :: _) _ _); refine wpList_store_blk rfl 28 (.tmp 11) (.tmp 43) rfl g11 rfl _ rfl _ 28 hmt (by rfl) (by kernel_rfl) (by kernel_rfl) ?_; intro w18 hq gr; replace hsv := blk_a hsv gr d_sv_mt; replace hp := blk_a hp gr d_p_mt; replace hyb := blk_a hyb gr d_yb_mt; replace hz := blk_a hz gr d_z_mt; replace hmo := blk_a hmo gr d_mo_mt; replace hmm := blk_a hmm gr d_mm_mt; replace hO := hO.away oa_mt gr; replace hP := hP.away ob_mt gr; replace bel := below_grown bel gr omt bel.size; clear hmt; have hmt := hq; clear hq gr; have R44 := Lib.hid (range_lit hmo 0 28 [.int .i64 2, .int .i64 0, .int .u32 h.xid, .int .i64 0, .int .i64 h.flags, .int .u8 0, .int .u8 0, .int .u8 0, .int .u8 0, .int .u8 (y.a.toNat : Int), .int .u8 (y.b.toNat : Int), .int .u8 (y.c.toNat : Int), .int .u8 (y.d.toNat : Int), .int .u8 (own.a.toNat : Int), .int .u8 (own.b.toNat : Int), .int .u8 (own.c.toNat : Int), .int .u8 (own.d.toNat : Int), .int .u8 (h.r0.toNat : Int), .int .u8 (h.r1.toNat : Int), .int .u8 (h.r2.toNat : Int), .int .u8 (h.r3.toNat : Int), .int .u8 (h.m0.toNat : Int), .int .u8 (h.m1.toNat : Int), .int .u8 (h.m2.toNat : Int), .int .u8 (h.m3.toNat : Int), .int .u8 (h.m4.toNat : Int), .int .u8 (h.m5.toNat : Int), .slice A2 6 c2] rfl)) | ((with_reducible show wpList _ _ _ (⟨some 44, _, _, _, _, _⟩ :: _) _ _); refine wpList_load_rng 41 (.tmp 9) rfl (by kernel_rfl) _ _ rfl _ R44.out _ Try.underlying41 rfl (by kernel_rfl) ?_; have R45 := Lib.hid (range_lit hmm 0 6 [.int .u8 (h.m0.toNat : Int), .int .u8 (h.m1.toNat : Int), .int .u8 (h.m2.toNat : Int), .int .u8 (h.m3.toNat : Int), .int .u8 (h.m4.toNat : Int), .int .u8 (h.m5.toNat : Int)] rfl)) | ((with_reducible show wpList _ _ _ (⟨some 45, _, _, _, _, _⟩ :: _) _ _); refine wpList_load_rng 32 (.tmp 10) rfl (by kernel_rfl) _ _ rfl _ R45.out _ Try.underlying32 rfl (by kernel_rfl) ?_; have R46 := Lib.hid (range_lit hmt 0 4 [.int .u8 (y.a.toNat : Int), .int .u8 (y.b.toNat : Int), .int .u8 (y.c.toNat : Int), .int .u8 (y.d.toNat : Int)] rfl)) | ((with_reducible show wpList _ _ _ (⟨some 46, _, _, _, _, _⟩ :: _) _ _); refine wpList_load_rng 28 (.tmp 11) rfl (by kernel_rfl) _ _ rfl _ R46.out _ Try.underlying28 rfl (by kernel_rfl) ?_) | ((with_reducible show wpList _ _ _ (⟨none, Op.store _ (.tmp 8) _, _, _, _, _⟩ :: _) _ _); refine wpList_store_blk rfl 43 (.tmp 8) (.tmp 47) rfl g8 rfl _ rfl _ 43 hz (by rfl) (by kernel_rfl) (by kernel_rfl) ?_; intro w19 hq gr; replace hsv := blk_a hsv gr d_sv_z; replace hp := blk_a hp gr d_p_z; replace hyb := blk_a hyb gr d_yb_z; replace hmo := blk_a hmo gr d_mo_z; replace hmm := blk_a hmm gr (ne_symm d_z_mm); replace hmt := blk_a hmt gr (ne_symm d_z_mt); replace hO := hO.away oa_z gr; replace hP := hP.away ob_z gr; replace bel := below_grown bel gr oz bel.size; clear hz; have hz := hq; clear hq gr))
  try clear R44
  try clear R45
  try clear R46
  exact bodyPost_ret (results_cell_row' rfl _ _ _ _ _ _ _ rfl hz Try.underlying43 rfl (by kernel_rfl)) rfl ⟨_, _, _, rfl, hP, fun q_ hq_ => fA q_ hq_, bel⟩
set_option linter.unusedVariables false in
set_option linter.unusedSimpArgs false in
set_option maxRecDepth 100000 in
set_option maxHeartbeats 16000000 in
theorem sans_ack_your {gs gp : Nat} {own : Ad4} {mk sc ty : Int} {h : Mh} {A : Option Addr} {n c : Nat} {hs : List Oh} {L : OptL} {y : Ad4} (w : World) (hsv : w.heap[gs]? = some (.cells #[.pointer (some ⟨gp, 0, none⟩), .int .u8 (own.a.toNat : Int), .int .u8 (own.b.toNat : Int), .int .u8 (own.c.toNat : Int), .int .u8 (own.d.toNat : Int), .int .u32 mk, .int .i64 sc, .slice none 0 0] 64 (0, 0))) (hO : Opv w A n c hs L) (hs0 : 0 ≤ sc) (hs1 : sc < 4294967296) (hty : (typeL L : Int) = ty) (hne : (ty != 8) = true) (hcl : h.cl.eqB Ad4.zero = true) (hfl : (bits .and .i64 h.flags 32768 != 0) = false) : Calls Try.prog 44 #[.pointer (some ⟨gs, 0, none⟩), .agg #[.int .i64 h.op, .int .i64 h.hops, .int .u32 h.xid, .int .i64 h.secs, .int .i64 h.flags, .int .u8 (h.c0.toNat : Int), .int .u8 (h.c1.toNat : Int), .int .u8 (h.c2.toNat : Int), .int .u8 (h.c3.toNat : Int), .int .u8 (h.y0.toNat : Int), .int .u8 (h.y1.toNat : Int), .int .u8 (h.y2.toNat : Int), .int .u8 (h.y3.toNat : Int), .int .u8 (h.s0.toNat : Int), .int .u8 (h.s1.toNat : Int), .int .u8 (h.s2.toNat : Int), .int .u8 (h.s3.toNat : Int), .int .u8 (h.r0.toNat : Int), .int .u8 (h.r1.toNat : Int), .int .u8 (h.r2.toNat : Int), .int .u8 (h.r3.toNat : Int), .int .u8 (h.m0.toNat : Int), .int .u8 (h.m1.toNat : Int), .int .u8 (h.m2.toNat : Int), .int .u8 (h.m3.toNat : Int), .int .u8 (h.m4.toNat : Int), .int .u8 (h.m5.toNat : Int), .slice A n c], .int .u8 5, .agg #[.int .u8 (y.a.toNat : Int), .int .u8 (y.b.toNat : Int), .int .u8 (y.c.toNat : Int), .int .u8 (y.d.toNat : Int)]] w fun e w' => ∃ A2 c2 hs2, e = .returned (.agg #[.int .i64 2, .int .i64 0, .int .u32 h.xid, .int .i64 0, .int .i64 h.flags, .int .u8 (h.c0.toNat : Int), .int .u8 (h.c1.toNat : Int), .int .u8 (h.c2.toNat : Int), .int .u8 (h.c3.toNat : Int), .int .u8 (y.a.toNat : Int), .int .u8 (y.b.toNat : Int), .int .u8 (y.c.toNat : Int), .int .u8 (y.d.toNat : Int), .int .u8 (own.a.toNat : Int), .int .u8 (own.b.toNat : Int), .int .u8 (own.c.toNat : Int), .int .u8 (own.d.toNat : Int), .int .u8 (h.r0.toNat : Int), .int .u8 (h.r1.toNat : Int), .int .u8 (h.r2.toNat : Int), .int .u8 (h.r3.toNat : Int), .int .u8 (h.m0.toNat : Int), .int .u8 (h.m1.toNat : Int), .int .u8 (h.m2.toNat : Int), .int .u8 (h.m3.toNat : Int), .int .u8 (h.m4.toNat : Int), .int .u8 (h.m5.toNat : Int), .slice A2 6 c2, .int .u8 (h.m0.toNat : Int), .int .u8 (h.m1.toNat : Int), .int .u8 (h.m2.toNat : Int), .int .u8 (h.m3.toNat : Int), .int .u8 (h.m4.toNat : Int), .int .u8 (h.m5.toNat : Int), .int .u8 (y.a.toNat : Int), .int .u8 (y.b.toNat : Int), .int .u8 (y.c.toNat : Int), .int .u8 (y.d.toNat : Int)]) ∧ Opv w' A2 6 c2 hs2 [(53, [5]), (54, own.l), (51, four sc), (1, four mk), (3, own.l), (6, own.l)] ∧ (∀ q, q < w.heap.size → Oa A2 6 hs2 q) ∧ Below w.heap.size w w' := by
  have HS0 := Lib.hid hs0
  have HS1 := Lib.hid hs1
  have HTY := Lib.hid hty
  clear hs0 hs1 hty
  have HCL := Lib.hid hcl
  clear hcl
  have HFL := Lib.hid hfl
  clear hfl
  have bel := Below.refl w.heap.size w
  go_enter Try.func44, Try.ntmps44
  go_wp2_with (first | ((with_reducible show wpList _ _ _ (⟨some 5, _, _, _, _, _⟩ :: _) _ _); refine wpList_box_n rfl 41 (.tmp 1) rfl #[.int .i64 h.op, .int .i64 h.hops, .int .u32 h.xid, .int .i64 h.secs, .int .i64 h.flags, .int .u8 (h.c0.toNat : Int), .int .u8 (h.c1.toNat : Int), .int .u8 (h.c2.toNat : Int), .int .u8 (h.c3.toNat : Int), .int .u8 (h.y0.toNat : Int), .int .u8 (h.y1.toNat : Int), .int .u8 (h.y2.toNat : Int), .int .u8 (h.y3.toNat : Int), .int .u8 (h.s0.toNat : Int), .int .u8 (h.s1.toNat : Int), .int .u8 (h.s2.toNat : Int), .int .u8 (h.s3.toNat : Int), .int .u8 (h.r0.toNat : Int), .int .u8 (h.r1.toNat : Int), .int .u8 (h.r2.toNat : Int), .int .u8 (h.r3.toNat : Int), .int .u8 (h.m0.toNat : Int), .int .u8 (h.m1.toNat : Int), .int .u8 (h.m2.toNat : Int), .int .u8 (h.m3.toNat : Int), .int .u8 (h.m4.toNat : Int), .int .u8 (h.m5.toNat : Int), .slice A n c] rfl ?_; intro g5 w1 ge lt hh bb; have d_sv_p := ne_new (hlt hsv) ge; have op := Nat.le_trans bel.size ge; have oa_p := hO.oa ge; have pp := Nat.le_trans bel.size ge; replace hsv := blk_u hsv bb; replace hO := hO.below bb; replace bel := bel.trans (bb.mono bel.size); have hp := hh; clear hh lt ge bb) | ((with_reducible show wpList _ _ _ (⟨some 7, _, _, _, _, _⟩ :: _) _ _); refine wpList_box_n rfl 28 (.tmp 3) rfl #[.int .u8 (y.a.toNat : Int), .int .u8 (y.b.toNat : Int), .int .u8 (y.c.toNat : Int), .int .u8 (y.d.toNat : Int)] rfl ?_; intro g7 w2 ge lt hh bb; have d_sv_yb := ne_new (hlt hsv) ge; have d_p_yb := ne_new (hlt hp) ge; have oyb := Nat.le_trans bel.size ge; have oa_yb := hO.oa ge; have pyb := Nat.le_trans bel.size ge; replace hsv := blk_u hsv bb; replace hp := blk_u hp bb; replace hO := hO.below bb; replace bel := bel.trans (bb.mono bel.size); have hyb := hh; clear hh lt ge bb) | ((with_reducible show wpList _ _ _ (⟨some 8, _, _, _, _, _⟩ :: _) _ _); refine wpList_new_a rfl 43 rfl #[.int .i64 0, .int .i64 0, .int .u32 0, .int .i64 0, .int .i64 0, .int .u8 0, .int .u8 0, .int .u8 0, .int .u8 0, .int .u8 0, .int .u8 0, .int .u8 0, .int .u8 0, .int .u8 0, .int .u8 0, .int .u8 0, .int .u8 0, .int .u8 0, .int .u8 0, .int .u8 0, .int .u8 0, .int .u8 0, .int .u8 0, .int .u8 0, .int .u8 0, .int .u8 0, .int .u8 0, .slice none 0 0, .int .u8 0, .int .u8 0, .int .u8 0, .int .u8 0, .int .u8 0, .int .u8 0, .int .u8 0, .int .u8 0, .int .u8 0, .int .u8 0] (by kernel_rfl) ?_; intro g8 w3 ge hh bb; have d_sv_z := ne_new (hlt hsv) ge; have d_p_z := ne_new (hlt hp) ge; have d_yb_z := ne_new (hlt hyb) ge; have oz := Nat.le_trans bel.size ge; have oa_z := hO.oa ge; have pz := Nat.le_trans bel.size ge; replace hsv := blk_u hsv bb; replace hp := blk_u hp bb; replace hyb := blk_u hyb bb; replace hO := hO.below bb; replace bel := bel.trans (bb.mono bel.size); have hz := hh; clear hh ge bb))
  go_cut [9] from 9999 (fun s9 W => ∃ g9 : Nat, ∃ A2 : Option Addr, ∃ c2 : Nat, ∃ hs2 : List Oh, s9 = .pointer (some ⟨g9, 0, none⟩) ∧ W.heap[gs]? = some (.cells #[.pointer (some ⟨gp, 0, none⟩), .int .u8 (own.a.toNat : Int), .int .u8 (own.b.toNat : Int), .int .u8 (own.c.toNat : Int), .int .u8 (own.d.toNat : Int), .int .u32 mk, .int .i64 sc, .slice none 0 0] 64 (0, 0)) ∧ W.heap[g5]? = some (.cells #[.int .i64 h.op, .int .i64 h.hops, .int .u32 h.xid, .int .i64 h.secs, .int .i64 h.flags, .int .u8 (h.c0.toNat : Int), .int .u8 (h.c1.toNat : Int), .int .u8 (h.c2.toNat : Int), .int .u8 (h.c3.toNat : Int), .int .u8 (h.y0.toNat : Int), .int .u8 (h.y1.toNat : Int), .int .u8 (h.y2.toNat : Int), .int .u8 (h.y3.toNat : Int), .int .u8 (h.s0.toNat : Int), .int .u8 (h.s1.toNat : Int), .int .u8 (h.s2.toNat : Int), .int .u8 (h.s3.toNat : Int), .int .u8 (h.r0.toNat : Int), .int .u8 (h.r1.toNat : Int), .int .u8 (h.r2.toNat : Int), .int .u8 (h.r3.toNat : Int), .int .u8 (h.m0.toNat : Int), .int .u8 (h.m1.toNat : Int), .int .u8 (h.m2.toNat : Int), .int .u8 (h.m3.toNat : Int), .int .u8 (h.m4.toNat : Int), .int .u8 (h.m5.toNat : Int), .slice A n c] 41 (0, 0)) ∧ W.heap[g7]? = some (.cells #[.int .u8 (y.a.toNat : Int), .int .u8 (y.b.toNat : Int), .int .u8 (y.c.toNat : Int), .int .u8 (y.d.toNat : Int)] 28 (0, 0)) ∧ W.heap[g8]? = some (.cells #[.int .i64 0, .int .i64 0, .int .u32 0, .int .i64 0, .int .i64 0, .int .u8 0, .int .u8 0, .int .u8 0, .int .u8 0, .int .u8 0, .int .u8 0, .int .u8 0, .int .u8 0, .int .u8 0, .int .u8 0, .int .u8 0, .int .u8 0, .int .u8 0, .int .u8 0, .int .u8 0, .int .u8 0, .int .u8 0, .int .u8 0, .int .u8 0, .int .u8 0, .int .u8 0, .int .u8 0, .slice none 0 0, .int .u8 0, .int .u8 0, .int .u8 0, .int .u8 0, .int .u8 0, .int .u8 0, .int .u8 0, .int .u8 0, .int .u8 0, .int .u8 0] 43 (0, 0)) ∧ W.heap[g9]? = some (.cells #[.int .i64 2, .int .i64 0, .int .u32 h.xid, .int .i64 0, .int .i64 h.flags, .int .u8 0, .int .u8 0, .int .u8 0, .int .u8 0, .int .u8 (y.a.toNat : Int), .int .u8 (y.b.toNat : Int), .int .u8 (y.c.toNat : Int), .int .u8 (y.d.toNat : Int), .int .u8 (own.a.toNat : Int), .int .u8 (own.b.toNat : Int), .int .u8 (own.c.toNat : Int), .int .u8 (own.d.toNat : Int), .int .u8 (h.r0.toNat : Int), .int .u8 (h.r1.toNat : Int), .int .u8 (h.r2.toNat : Int), .int .u8 (h.r3.toNat : Int), .int .u8 (h.m0.toNat : Int), .int .u8 (h.m1.toNat : Int), .int .u8 (h.m2.toNat : Int), .int .u8 (h.m3.toNat : Int), .int .u8 (h.m4.toNat : Int), .int .u8 (h.m5.toNat : Int), .slice A2 6 c2] 41 (0, 0)) ∧ w.heap.size ≤ g9 ∧ w.heap.size ≤ g9 ∧ Hid (g9 ≠ g5) ∧ Hid (g9 ≠ gs) ∧ Hid (g9 ≠ g7) ∧ Hid (g9 ≠ g8) ∧ Hid (g5 ≠ gs) ∧ Hid (g5 ≠ g7) ∧ Hid (g5 ≠ g8) ∧ Hid (gs ≠ g7) ∧ Hid (gs ≠ g8) ∧ Hid (g7 ≠ g8) ∧ (∀ q, q < w.heap.size → Oa A2 6 hs2 q) ∧ Oa A n hs g9 ∧ Oa A2 6 hs2 g9 ∧ Oa A2 6 hs2 g8 ∧ Opv W A n c hs L ∧ Opv W A2 6 c2 hs2 [(53, [5]), (54, own.l), (51, four sc), (1, four mk), (3, own.l), (6, own.l)] ∧ Below w.heap.size w W)
  case first =>
    replace bel := bel.drew
    replace hsv : w3.drew.heap[gs]? = _ := hsv
    replace hp : w3.drew.heap[g5]? = _ := hp
    replace hyb : w3.drew.heap[g7]? = _ := hyb
    replace hz : w3.drew.heap[g8]? = _ := hz
    replace hO := hO.drew
    refine wp_region_held_drew (S := fun W => W.heap[g5]? = some (.cells #[.int .i64 h.op, .int .i64 h.hops, .int .u32 h.xid, .int .i64 h.secs, .int .i64 h.flags, .int .u8 (h.c0.toNat : Int), .int .u8 (h.c1.toNat : Int), .int .u8 (h.c2.toNat : Int), .int .u8 (h.c3.toNat : Int), .int .u8 (h.y0.toNat : Int), .int .u8 (h.y1.toNat : Int), .int .u8 (h.y2.toNat : Int), .int .u8 (h.y3.toNat : Int), .int .u8 (h.s0.toNat : Int), .int .u8 (h.s1.toNat : Int), .int .u8 (h.s2.toNat : Int), .int .u8 (h.s3.toNat : Int), .int .u8 (h.r0.toNat : Int), .int .u8 (h.r1.toNat : Int), .int .u8 (h.r2.toNat : Int), .int .u8 (h.r3.toNat : Int), .int .u8 (h.m0.toNat : Int), .int .u8 (h.m1.toNat : Int), .int .u8 (h.m2.toNat : Int), .int .u8 (h.m3.toNat : Int), .int .u8 (h.m4.toNat : Int), .int .u8 (h.m5.toNat : Int), .slice A n c] 41 (0, 0)) ∧ W.heap[g7]? = some (.cells #[.int .u8 (y.a.toNat : Int), .int .u8 (y.b.toNat : Int), .int .u8 (y.c.toNat : Int), .int .u8 (y.d.toNat : Int)] 28 (0, 0)) ∧ W.heap[gs]? = some (.cells #[.pointer (some ⟨gp, 0, none⟩), .int .u8 (own.a.toNat : Int), .int .u8 (own.b.toNat : Int), .int .u8 (own.c.toNat : Int), .int .u8 (own.d.toNat : Int), .int .u32 mk, .int .i64 sc, .slice none 0 0] 64 (0, 0))) (by kernel_rfl) ⟨hp, hyb, hsv⟩ (fun hH => ?_)
    generalize w3.drew = w4 at bel hsv hp hyb hz hO hH ⊢
    refine wpAnyH_take (i := 0) (v := ?_) rfl (by kernel_rfl) (by kernel_rfl) (by kernel_rfl) (fun _ _ _ h => h) (Or.inl ⟨by rfl, ?_⟩) hH ?_
    rotate_left
    · ((intro W hW; clear hW; go_simp) <;> with_reducible rfl)
    simp only [Act.put, List.getElem_toArray, List.getElem_cons_zero, List.setIfInBounds_toArray, List.set_cons_zero, List.set_cons_succ]
    refine wpAnyH_take (i := 1) (v := ?_) rfl (by kernel_rfl) (by kernel_rfl) (by kernel_rfl) (fun _ _ _ h => h) (Or.inl ⟨by rfl, ?_⟩) hH ?_
    rotate_left
    · ((intro W hW; have hk := cell_lit (hW.1) 2 _ rfl; clear hW; go_simp) <;> with_reducible rfl)
    simp only [sq3, sq4]
    refine wpAnyH_take (i := 2) (v := ?_) rfl (by kernel_rfl) (by kernel_rfl) (by kernel_rfl) (fun _ _ _ h => h) (Or.inl ⟨by rfl, ?_⟩) hH ?_
    rotate_left
    · ((intro W hW; clear hW; go_simp) <;> with_reducible rfl)
    simp only [sq3, sq4]
    refine wpAnyH_take (i := 3) (v := ?_) rfl (by kernel_rfl) (by kernel_rfl) (by kernel_rfl) (fun _ _ _ h => h) (Or.inl ⟨by rfl, ?_⟩) hH ?_
    rotate_left
    · ((intro W hW; have hk := cell_lit (hW.1) 4 _ rfl; clear hW; go_simp) <;> with_reducible rfl)
    simp only [sq3, sq4]
    refine wpAnyH_take (i := 4) (v := .agg #[.int .u8 (y.a.toNat : Int), .int .u8 (y.b.toNat : Int), .int .u8 (y.c.toNat : Int), .int .u8 (y.d.toNat : Int)]) rfl (by kernel_rfl) (by kernel_rfl) (by kernel_rfl) (fun _ _ _ h => h) (yieldsIf_load_part (by kernel_rfl) 28 _ rfl g7 0 4 rfl _ 28 (0, 0) (fun W hW => hW.2.1) _ rfl _ Try.underlying28 rfl (by kernel_rfl)) hH ?_
    simp only [sq3, sq4]
    refine wpAnyH_take (i := 5) (v := ?_) rfl (by kernel_rfl) (by kernel_rfl) (by kernel_rfl) (fun _ _ _ h => h) (Or.inl ⟨by rfl, ?_⟩) hH ?_
    rotate_left
    · ((intro W hW; clear hW; go_simp) <;> with_reducible rfl)
    simp only [sq3, sq4]
    refine wpAnyH_take (i := 6) (v := ?_) rfl (by kernel_rfl) (by kernel_rfl) (by kernel_rfl) (fun _ _ _ h => h) (Or.inl ⟨by rfl, ?_⟩) hH ?_
    rotate_left
    · ((intro W hW; clear hW; go_simp) <;> with_reducible rfl)
    simp only [sq3, sq4]
    refine wpAnyH_take (i := 7) (v := ?_) rfl (by kernel_rfl) (by kernel_rfl) (by kernel_rfl) (fun _ _ _ h => h) (Or.inl ⟨by rfl, ?_⟩) hH ?_
    rotate_left
    · ((intro W hW; clear hW; go_simp) <;> with_reducible rfl)
    simp only [sq3, sq4]
    refine wpAnyH_take (i := 8) (v := .agg #[.int .u8 (own.a.toNat : Int), .int .u8 (own.b.toNat : Int), .int .u8 (own.c.toNat : Int), .int .u8 (own.d.toNat : Int)]) rfl (by kernel_rfl) (by kernel_rfl) (by kernel_rfl) (fun _ _ _ h => h) (yieldsIf_load_part (by kernel_rfl) 28 _ rfl gs 1 4 rfl _ 64 (0, 0) (fun W hW => hW.2.2) _ rfl _ Try.underlying28 rfl (by kernel_rfl)) hH ?_
    simp only [sq3, sq4]
    refine wpAnyH_take (i := 9) (v := ?_) rfl (by kernel_rfl) (by kernel_rfl) (by kernel_rfl) (fun _ _ _ h => h) (Or.inl ⟨by rfl, ?_⟩) hH ?_
    rotate_left
    · ((intro W hW; clear hW; go_simp) <;> with_reducible rfl)
    simp only [sq3, sq4]
    refine wpAnyH_take (i := 10) (v := .agg #[.int .u8 (h.r0.toNat : Int), .int .u8 (h.r1.toNat : Int), .int .u8 (h.r2.toNat : Int), .int .u8 (h.r3.toNat : Int)]) rfl (by kernel_rfl) (by kernel_rfl) (by kernel_rfl) (fun _ _ _ h => h) (yieldsIf_load_part (by kernel_rfl) 28 _ rfl g5 17 4 rfl _ 41 (0, 0) (fun W hW => hW.1) _ rfl _ Try.underlying28 rfl (by kernel_rfl)) hH ?_
    simp only [sq3, sq4]
    refine wpAnyH_take (i := 11) (v := ?_) rfl (by kernel_rfl) (by kernel_rfl) (by kernel_rfl) (fun _ _ _ h => h) (Or.inl ⟨by rfl, ?_⟩) hH ?_
    rotate_left
    · ((intro W hW; clear hW; go_simp) <;> with_reducible rfl)
    simp only [sq3, sq4]
    refine wpAnyH_take (i := 12) (v := .agg #[.int .u8 (h.m0.toNat : Int), .int .u8 (h.m1.toNat : Int), .int .u8 (h.m2.toNat : Int), .int .u8 (h.m3.toNat : Int), .int .u8 (h.m4.toNat : Int), .int .u8 (h.m5.toNat : Int)]) rfl (by kernel_rfl) (by kernel_rfl) (by kernel_rfl) (fun _ _ _ h => h) (yieldsIf_load_part (by kernel_rfl) 32 _ rfl g5 21 6 rfl _ 41 (0, 0) (fun W hW => hW.1) _ rfl _ Try.underlying32 rfl (by kernel_rfl)) hH ?_
    simp only [sq3, sq4]
    refine wpAnyH_take (i := 13) (v := ?_) rfl (by kernel_rfl) (by kernel_rfl) (by kernel_rfl) (fun _ _ _ h => h) (Or.inl ⟨by rfl, ?_⟩) hH ?_
    rotate_left
    · ((intro W hW; clear hW; go_simp) <;> with_reducible rfl)
    simp only [sq3, sq4]
    refine wpAnyH_take (i := 14) (v := ?_) rfl (by kernel_rfl) (by kernel_rfl) (by kernel_rfl) (fun _ _ _ h => h) (Or.inl ⟨by rfl, ?_⟩) hH ?_
    rotate_left
    · ((intro W hW; clear hW; go_simp) <;> with_reducible rfl)
    simp only [sq3, sq4]
    refine wpAnyH_take (i := 15) (v := .agg #[.int .i64 h.op, .int .i64 h.hops, .int .u32 h.xid, .int .i64 h.secs, .int .i64 h.flags, .int .u8 (h.c0.toNat : Int), .int .u8 (h.c1.toNat : Int), .int .u8 (h.c2.toNat : Int), .int .u8 (h.c3.toNat : Int), .int .u8 (h.y0.toNat : Int), .int .u8 (h.y1.toNat : Int), .int .u8 (h.y2.toNat : Int), .int .u8 (h.y3.toNat : Int), .int .u8 (h.s0.toNat : Int), .int .u8 (h.s1.toNat : Int), .int .u8 (h.s2.toNat : Int), .int .u8 (h.s3.toNat : Int), .int .u8 (h.r0.toNat : Int), .int .u8 (h.r1.toNat : Int), .int .u8 (h.r2.toNat : Int), .int .u8 (h.r3.toNat : Int), .int .u8 (h.m0.toNat : Int), .int .u8 (h.m1.toNat : Int), .int .u8 (h.m2.toNat : Int), .int .u8 (h.m3.toNat : Int), .int .u8 (h.m4.toNat : Int), .int .u8 (h.m5.toNat : Int), .slice A n c]) rfl (by kernel_rfl) (by kernel_rfl) (by kernel_rfl) (fun _ _ _ h => h) (yieldsIf_load_part (by kernel_rfl) 41 _ rfl g5 0 28 rfl _ 41 (0, 0) (fun W hW => hW.1) _ rfl _ Try.underlying41 rfl (by kernel_rfl)) hH ?_
    simp only [sq3, sq4]
    refine wpAnyH_ready (rs := [16, 20]) (by kernel_rfl) (by simp) ?_
    refine AllReadyH.cons (o := _) rfl (fun K hK => ?_) (AllReadyH.cons (o := _) rfl (fun K hK => ?_) AllReadyH.nil)
    rotate_left
    · simp only [sq3]
      rw [if_pos (by rfl)]
      refine wp_new_a 41 rfl #[.int .i64 0, .int .i64 0, .int .u32 0, .int .i64 0, .int .i64 0, .int .u8 0, .int .u8 0, .int .u8 0, .int .u8 0, .int .u8 0, .int .u8 0, .int .u8 0, .int .u8 0, .int .u8 0, .int .u8 0, .int .u8 0, .int .u8 0, .int .u8 0, .int .u8 0, .int .u8 0, .int .u8 0, .int .u8 0, .int .u8 0, .int .u8 0, .int .u8 0, .int .u8 0, .int .u8 0, .slice none 0 0] (by kernel_rfl) ?_
      intro g9 w5 ge hh bb
      have d_sv_mo := ne_new (hlt hsv) ge
      have d_p_mo := ne_new (hlt hp) ge
      have d_yb_mo := ne_new (hlt hyb) ge
      have d_z_mo := ne_new (hlt hz) ge
      have omo := Nat.le_trans bel.size ge
      have oa_mo := hO.oa ge
      have pmo := Nat.le_trans bel.size ge
      replace hsv := blk_u hsv bb
      replace hp := blk_u hp bb
      replace hyb := blk_u hyb bb
      replace hz := blk_u hz bb
      replace hO := hO.below bb
      replace bel := bel.trans (bb.mono bel.size)
      have hmo := hh
      clear hh ge bb
      refine hK.out _ _ ⟨hp, hyb, hsv⟩ (fun hH6 => ?_)
      clear hK K
      simp only [sq4]
      refine wpAnyH_ready (rs := [16]) (by kernel_rfl) (by simp) ?_
      refine AllReadyH.cons (o := _) rfl (fun K hK => ?_) AllReadyH.nil
      simp only [sq3]
      go_simp
      with_reducible refine (dtype_o (h := h) _ hO HTY.out).mono ?_
      rintro e w7 ⟨rfl, b7⟩
      dsimp only
      replace hsv := blk_u hsv b7
      replace hp := blk_u hp b7
      replace hyb := blk_u hyb b7
      replace hz := blk_u hz b7
      replace hmo := blk_u hmo b7
      replace hO := hO.below b7
      replace bel := bel.trans (b7.mono bel.size)
      clear b7
      refine hK.out _ _ ⟨hp, hyb, hsv⟩ (fun hH8 => ?_)
      clear hK K
      refine wpAnyH_take (i := 17) (v := ?_) rfl (by kernel_rfl) (by kernel_rfl) (by kernel_rfl) (fun _ _ _ h => h) (Or.inl ⟨by rfl, ?_⟩) hH8 ?_
      rotate_left
      · ((intro W hW; clear hW; go_simp) <;> with_reducible rfl)
      simp only [sq3, sq4]
      refine wpAnyH_ready (rs := [18]) (by kernel_rfl) (by simp) ?_
      refine AllReadyH.cons (o := _) rfl (fun K hK => ?_) AllReadyH.nil
      simp only [sq3]
      go_simp
      have sp_sv := hlt hsv
      have sp_p := hlt hp
      have sp_yb := hlt hyb
      have sp_z := hlt hz
      have sp_mo := hlt hmo
      have hwz := bel.size
      with_reducible refine (sopts_ack _ hsv HS0.out HS1.out).mono ?_
      rintro e w9 ⟨A2, c2, hs2, rfl, hP, fP, b9⟩
      dsimp only
      replace hsv := blk_u hsv b9
      replace hp := blk_u hp b9
      replace hyb := blk_u hyb b9
      replace hz := blk_u hz b9
      replace hmo := blk_u hmo b9
      replace hO := hO.below b9
      replace bel := bel.trans (b9.mono bel.size)
      clear b9
      have fA : ∀ q, q < w.heap.size → Oa A2 6 hs2 q := fun q_ hq_ => fP q_ (Nat.lt_of_lt_of_le hq_ hwz)
      clear hwz
      have ob_sv := fP _ sp_sv
      have ob_p := fP _ sp_p
      have ob_yb := fP _ sp_yb
      have ob_z := fP _ sp_z
      have ob_mo := fP _ sp_mo
      clear sp_sv sp_p sp_yb sp_z sp_mo
      clear fP
      refine hK.out _ _ ⟨hp, hyb, hsv⟩ (fun hH10 => ?_)
      clear hK K
      refine wpAnyH_take (i := 19) (v := ?_) rfl (by kernel_rfl) (by kernel_rfl) (by kernel_rfl) (fun _ _ _ h => h) (Or.inl ⟨by rfl, ?_⟩) hH10 ?_
      rotate_left
      · ((intro W hW; clear hW; go_simp) <;> with_reducible rfl)
      simp only [sq3, sq4]
      refine wpAnyH_ready (rs := [21]) (by kernel_rfl) (by simp) ?_
      refine AllReadyH.cons (o := _) rfl (fun K hK => ?_) AllReadyH.nil
      simp only [sq3]
      rw [if_pos (by rfl)]
      refine wp_store_blk 41 (.tmp 9) (.tmp 31) rfl g9 rfl _ rfl _ 41 hmo (by rfl) (by kernel_rfl) (by kernel_rfl) ?_
      intro w11 hq gr
      replace hsv := blk_a hsv gr d_sv_mo
      replace hp := blk_a hp gr d_p_mo
      replace hyb := blk_a hyb gr d_yb_mo
      replace hz := blk_a hz gr d_z_mo
      replace hO := hO.away oa_mo gr
      replace hP := hP.away ob_mo gr
      replace bel := below_grown bel gr omo bel.size
      clear hmo
      have hmo := hq
      clear hq gr
      refine hK.out _ _ ⟨hp, hyb, hsv⟩ (fun hH12 => ?_)
      clear hK K
      simp only [Act.put]
      refine wpAnyH_done (by kernel_rfl) ?_ _
      go_wp2_with fail
      go_meet
      case rel => exact ⟨g9, A2, c2, hs2, rfl, hsv, hp, hyb, hz, hmo, omo, pmo, (ne_symm d_p_mo), (ne_symm d_sv_mo), (ne_symm d_yb_mo), (ne_symm d_z_mo), (ne_symm d_sv_p), d_p_yb, d_p_z, d_sv_yb, d_sv_z, d_yb_z, fA, oa_mo, ob_mo, ob_z, hO, hP, bel⟩
    simp only [sq3]
    go_simp
    with_reducible refine (dtype_o (h := h) _ hO HTY.out).mono ?_
    rintro e w5 ⟨rfl, b5⟩
    dsimp only
    replace hsv := blk_u hsv b5
    replace hp := blk_u hp b5
    replace hyb := blk_u hyb b5
    replace hz := blk_u hz b5
    replace hO := hO.below b5
    replace bel := bel.trans (b5.mono bel.size)
    clear b5
    refine hK.out _ _ ⟨hp, hyb, hsv⟩ (fun hH6 => ?_)
    clear hK K
    refine wpAnyH_take (i := 17) (v := ?_) rfl (by kernel_rfl) (by kernel_rfl) (by kernel_rfl) (fun _ _ _ h => h) (Or.inl ⟨by rfl, ?_⟩) hH6 ?_
    rotate_left
    · ((intro W hW; clear hW; go_simp) <;> with_reducible rfl)
    simp only [sq3, sq4]
    refine wpAnyH_ready (rs := [18, 20]) (by kernel_rfl) (by simp) ?_
    refine AllReadyH.cons (o := _) rfl (fun K hK => ?_) (AllReadyH.cons (o := _) rfl (fun K hK => ?_) AllReadyH.nil)
    · simp only [sq3]
      go_simp
      have sp_sv := hlt hsv
      have sp_p := hlt hp
      have sp_yb := hlt hyb
      have sp_z := hlt hz
      have hwz := bel.size
      with_reducible refine (sopts_ack _ hsv HS0.out HS1.out).mono ?_
      rintro e w7 ⟨A2, c2, hs2, rfl, hP, fP, b7⟩
      dsimp only
      replace hsv := blk_u hsv b7
      replace hp := blk_u hp b7
      replace hyb := blk_u hyb b7
      replace hz := blk_u hz b7
      replace hO := hO.below b7
      replace bel := bel.trans (b7.mono bel.size)
      clear b7
      have fA : ∀ q, q < w.heap.size → Oa A2 6 hs2 q := fun q_ hq_ => fP q_ (Nat.lt_of_lt_of_le hq_ hwz)
      clear hwz
      have ob_sv := fP _ sp_sv
      have ob_p := fP _ sp_p
      have ob_yb := fP _ sp_yb
      have ob_z := fP _ sp_z
      clear sp_sv sp_p sp_yb sp_z
      clear fP
      refine hK.out _ _ ⟨hp, hyb, hsv⟩ (fun hH8 => ?_)
      clear hK K
      refine wpAnyH_take (i := 19) (v := ?_) rfl (by kernel_rfl) (by kernel_rfl) (by kernel_rfl) (fun _ _ _ h => h) (Or.inl ⟨by rfl, ?_⟩) hH8 ?_
      rotate_left
      · ((intro W hW; clear hW; go_simp) <;> with_reducible rfl)
      simp only [sq3, sq4]
      refine wpAnyH_ready (rs := [20]) (by kernel_rfl) (by simp) ?_
      refine AllReadyH.cons (o := _) rfl (fun K hK => ?_) AllReadyH.nil
      simp only [sq3]
      rw [if_pos (by rfl)]
      refine wp_new_a 41 rfl #[.int .i64 0, .int .i64 0, .int .u32 0, .int .i64 0, .int .i64 0, .int .u8 0, .int .u8 0, .int .u8 0, .int .u8 0, .int .u8 0, .int .u8 0, .int .u8 0, .int .u8 0, .int .u8 0, .int .u8 0, .int .u8 0, .int .u8 0, .int .u8 0, .int .u8 0, .int .u8 0, .int .u8 0, .int .u8 0, .int .u8 0, .int .u8 0, .int .u8 0, .int .u8 0, .int .u8 0, .slice none 0 0] (by kernel_rfl) ?_
      intro g9 w9 ge hh bb
      have d_sv_mo := ne_new (hlt hsv) ge
      have d_p_mo := ne_new (hlt hp) ge
      have d_yb_mo := ne_new (hlt hyb) ge
      have d_z_mo := ne_new (hlt hz) ge
      have omo := Nat.le_trans bel.size ge
      have oa_mo := hO.oa ge
      have pmo := Nat.le_trans bel.size ge
      have ob_mo := hP.oa ge
      replace hsv := blk_u hsv bb
      replace hp := blk_u hp bb
      replace hyb := blk_u hyb bb
      replace hz := blk_u hz bb
      replace hO := hO.below bb
      replace hP := hP.below bb
      replace bel := bel.trans (bb.mono bel.size)
      have hmo := hh
      clear hh ge bb
      refine hK.out _ _ ⟨hp, hyb, hsv⟩ (fun hH10 => ?_)
      clear hK K
      simp only [sq4]
      refine wpAnyH_ready (rs := [21]) (by kernel_rfl) (by simp) ?_
      refine AllReadyH.cons (o := _) rfl (fun K hK => ?_) AllReadyH.nil
      simp only [sq3]
      rw [if_pos (by rfl)]
      refine wp_store_blk 41 (.tmp 9) (.tmp 31) rfl g9 rfl _ rfl _ 41 hmo (by rfl) (by kernel_rfl) (by kernel_rfl) ?_
      intro w11 hq gr
      replace hsv := blk_a hsv gr d_sv_mo
      replace hp := blk_a hp gr d_p_mo
      replace hyb := blk_a hyb gr d_yb_mo
      replace hz := blk_a hz gr d_z_mo
      replace hO := hO.away oa_mo gr
      replace hP := hP.away ob_mo gr
      replace bel := below_grown bel gr omo bel.size
      clear hmo
      have hmo := hq
      clear hq gr
      refine hK.out _ _ ⟨hp, hyb, hsv⟩ (fun hH12 => ?_)
      clear hK K
      simp only [Act.put]
      refine wpAnyH_done (by kernel_rfl) ?_ _
      go_wp2_with fail
      go_meet
      case rel => exact ⟨g9, A2, c2, hs2, rfl, hsv, hp, hyb, hz, hmo, omo, pmo, (ne_symm d_p_mo), (ne_symm d_sv_mo), (ne_symm d_yb_mo), (ne_symm d_z_mo), (ne_symm d_sv_p), d_p_yb, d_p_z, d_sv_yb, d_sv_z, d_yb_z, fA, oa_mo, ob_mo, ob_z, hO, hP, bel⟩
    simp only [sq3]
    rw [if_pos (by rfl)]
    refine wp_new_a 41 rfl #[.int .i64 0, .int .i64 0, .int .u32 0, .int .i64 0, .int .i64 0, .int .u8 0, .int .u8 0, .int .u8 0, .int .u8 0, .int .u8 0, .int .u8 0, .int .u8 0, .int .u8 0, .int .u8 0, .int .u8 0, .int .u8 0, .int .u8 0, .int .u8 0, .int .u8 0, .int .u8 0, .int .u8 0, .int .u8 0, .int .u8 0, .int .u8 0, .int .u8 0, .int .u8 0, .int .u8 0, .slice none 0 0] (by kernel_rfl) ?_
    intro g9 w7 ge hh bb
    have d_sv_mo := ne_new (hlt hsv) ge
    have d_p_mo := ne_new (hlt hp) ge
    have d_yb_mo := ne_new (hlt hyb) ge
    have d_z_mo := ne_new (hlt hz) ge
    have omo := Nat.le_trans bel.size ge
    have oa_mo := hO.oa ge
    have pmo := Nat.le_trans bel.size ge
    replace hsv := blk_u hsv bb
    replace hp := blk_u hp bb
    replace hyb := blk_u hyb bb
    replace hz := blk_u hz bb
    replace hO := hO.below bb
    replace bel := bel.trans (bb.mono bel.size)
    have hmo := hh
    clear hh ge bb
    refine hK.out _ _ ⟨hp, hyb, hsv⟩ (fun hH8 => ?_)
    clear hK K
    simp only [sq4]
    refine wpAnyH_ready (rs := [18]) (by kernel_rfl) (by simp) ?_
    refine AllReadyH.cons (o := _) rfl (fun K hK => ?_) AllReadyH.nil
    simp only [sq3]
    go_simp
    have sp_sv := hlt hsv
    have sp_p := hlt hp
    have sp_yb := hlt hyb
    have sp_z := hlt hz
    have sp_mo := hlt hmo
    have hwz := bel.size
    with_reducible refine (sopts_ack _ hsv HS0.out HS1.out).mono ?_
    rintro e w9 ⟨A2, c2, hs2, rfl, hP, fP, b9⟩
    dsimp only
    replace hsv := blk_u hsv b9
    replace hp := blk_u hp b9
    replace hyb := blk_u hyb b9
    replace hz := blk_u hz b9
    replace hmo := blk_u hmo b9
    replace hO := hO.below b9
    replace bel := bel.trans (b9.mono bel.size)
    clear b9
    have fA : ∀ q, q < w.heap.size → Oa A2 6 hs2 q := fun q_ hq_ => fP q_ (Nat.lt_of_lt_of_le hq_ hwz)
    clear hwz
    have ob_sv := fP _ sp_sv
    have ob_p := fP _ sp_p
    have ob_yb := fP _ sp_yb
    have ob_z := fP _ sp_z
    have ob_mo := fP _ sp_mo
    clear sp_sv sp_p sp_yb sp_z sp_mo
    clear fP
    refine hK.out _ _ ⟨hp, hyb, hsv⟩ (fun hH10 => ?_)
    clear hK K
    refine wpAnyH_take (i := 19) (v := ?_) rfl (by kernel_rfl) (by kernel_rfl) (by kernel_rfl) (fun _ _ _ h => h) (Or.inl ⟨by rfl, ?_⟩) hH10 ?_
    rotate_left
    · ((intro W hW; clear hW; go_simp) <;> with_reducible rfl)
    simp only [sq3, sq4]
    refine wpAnyH_ready (rs := [21]) (by kernel_rfl) (by simp) ?_
    refine AllReadyH.cons (o := _) rfl (fun K hK => ?_) AllReadyH.nil
    simp only [sq3]
    rw [if_pos (by rfl)]
    refine wp_store_blk 41 (.tmp 9) (.tmp 31) rfl g9 rfl _ rfl _ 41 hmo (by rfl) (by kernel_rfl) (by kernel_rfl) ?_
    intro w11 hq gr
    replace hsv := blk_a hsv gr d_sv_mo
    replace hp := blk_a hp gr d_p_mo
    replace hyb := blk_a hyb gr d_yb_mo
    replace hz := blk_a hz gr d_z_mo
    replace hO := hO.away oa_mo gr
    replace hP := hP.away ob_mo gr
    replace bel := below_grown bel gr omo bel.size
    clear hmo
    have hmo := hq
    clear hq gr
    refine hK.out _ _ ⟨hp, hyb, hsv⟩ (fun hH12 => ?_)
    clear hK K
    simp only [Act.put]
    refine wpAnyH_done (by kernel_rfl) ?_ _
    go_wp2_with fail
    go_meet
    case rel => exact ⟨g9, A2, c2, hs2, rfl, hsv, hp, hyb, hz, hmo, omo, pmo, (ne_symm d_p_mo), (ne_symm d_sv_mo), (ne_symm d_yb_mo), (ne_symm d_z_mo), (ne_symm d_sv_p), d_p_yb, d_p_z, d_sv_yb, d_sv_z, d_yb_z, fA, oa_mo, ob_mo, ob_z, hO, hP, bel⟩
  obtain ⟨w13, hw_⟩ : ∃ x, x = wc := ⟨_, rfl⟩
  subst hw_
  obtain ⟨g9, A2, c2, hs2, rfl, hsv, hp, hyb, hz, hmo, omo, pmo, d_mo_p, d_mo_sv, d_mo_yb, d_mo_z, d_p_sv, d_p_yb, d_p_z, d_sv_yb, d_sv_z, d_yb_z, fA, oa_mo, ob_mo, ob_z, hO, hP, bel⟩ := hcut
  have R35 := Lib.hid (range_lit hp 5 4 [.int .u8 (h.c0.toNat : Int), .int .u8 (h.c1.toNat : Int), .int .u8 (h.c2.toNat : Int), .int .u8 (h.c3.toNat : Int)] rfl)
  go_wp2_with (first | ((with_reducible show wpList _ _ _ (⟨some 35, _, _, _, _, _⟩ :: _) _ _); refine wpList_load_rng 28 (.tmp 34) rfl (by kernel_rfl) _ _ rfl _ R35.out _ Try.underlying28 rfl (by kernel_rfl) ?_) | ((with_reducible show wpList _ _ _ (⟨none, Op.store _ (.tmp 36) _, _, _, _, _⟩ :: _) _ _); refine wpList_store_part rfl 28 (.tmp 36) (.tmp 35) rfl g9 5 rfl [.int .u8 (h.c0.toNat : Int), .int .u8 (h.c1.toNat : Int), .int .u8 (h.c2.toNat : Int), .int .u8 (h.c3.toNat : Int)] rfl [.int .i64 2, .int .i64 0, .int .u32 h.xid, .int .i64 0, .int .i64 h.flags, .int .u8 0, .int .u8 0, .int .u8 0, .int .u8 0, .int .u8 (y.a.toNat : Int), .int .u8 (y.b.toNat : Int), .int .u8 (y.c.toNat : Int), .int .u8 (y.d.toNat : Int), .int .u8 (own.a.toNat : Int), .int .u8 (own.b.toNat : Int), .int .u8 (own.c.toNat : Int), .int .u8 (own.d.toNat : Int), .int .u8 (h.r0.toNat : Int), .int .u8 (h.r1.toNat : Int), .int .u8 (h.r2.toNat : Int), .int .u8 (h.r3.toNat : Int), .int .u8 (h.m0.toNat : Int), .int .u8 (h.m1.toNat : Int), .int .u8 (h.m2.toNat : Int), .int .u8 (h.m3.toNat : Int), .int .u8 (h.m4.toNat : Int), .int .u8 (h.m5.toNat : Int), .slice A2 6 c2] 41 hmo (by simp) [.int .i64 2, .int .i64 0, .int .u32 h.xid, .int .i64 0, .int .i64 h.flags, .int .u8 (h.c0.toNat : Int), .int .u8 (h.c1.toNat : Int), .int .u8 (h.c2.toNat : Int), .int .u8 (h.c3.toNat : Int), .int .u8 (y.a.toNat : Int), .int .u8 (y.b.toNat : Int), .int .u8 (y.c.toNat : Int), .int .u8 (y.d.toNat : Int), .int .u8 (own.a.toNat : Int), .int .u8 (own.b.toNat : Int), .int .u8 (own.c.toNat : Int), .int .u8 (own.d.toNat : Int), .int .u8 (h.r0.toNat : Int), .int .u8 (h.r1.toNat : Int), .int .u8 (h.r2.toNat : Int), .int .u8 (h.r3.toNat : Int), .int .u8 (h.m0.toNat : Int), .int .u8 (h.m1.toNat : Int), .int .u8 (h.m2.toNat : Int), .int .u8 (h.m3.toNat : Int), .int .u8 (h.m4.toNat : Int), .int .u8 (h.m5.toNat : Int), .slice A2 6 c2] rfl (by kernel_rfl) (by rfl) ?_; intro w14 hq gr; replace hsv := blk_a hsv gr (ne_symm d_mo_sv); replace hp := blk_a hp gr (ne_symm d_mo_p); replace hyb := blk_a hyb gr (ne_symm d_mo_yb); replace hz := blk_a hz gr (ne_symm d_mo_z); replace hO := hO.away oa_mo gr; replace hP := hP.away ob_mo gr; replace bel := below_grown bel gr omo bel.size; clear hmo; have hmo := hq; clear hq gr; have R38 := Lib.hid (range_lit hp 0 28 [.int .i64 h.op, .int .i64 h.hops, .int .u32 h.xid, .int .i64 h.secs, .int .i64 h.flags, .int .u8 (h.c0.toNat : Int), .int .u8 (h.c1.toNat : Int), .int .u8 (h.c2.toNat : Int), .int .u8 (h.c3.toNat : Int), .int .u8 (h.y0.toNat : Int), .int .u8 (h.y1.toNat : Int), .int .u8 (h.y2.toNat : Int), .int .u8 (h.y3.toNat : Int), .int .u8 (h.s0.toNat : Int), .int .u8 (h.s1.toNat : Int), .int .u8 (h.s2.toNat : Int), .int .u8 (h.s3.toNat : Int), .int .u8 (h.r0.toNat : Int), .int .u8 (h.r1.toNat : Int), .int .u8 (h.r2.toNat : Int), .int .u8 (h.r3.toNat : Int), .int .u8 (h.m0.toNat : Int), .int .u8 (h.m1.toNat : Int), .int .u8 (h.m2.toNat : Int), .int .u8 (h.m3.toNat : Int), .int .u8 (h.m4.toNat : Int), .int .u8 (h.m5.toNat : Int), .slice A n c] rfl)) | ((with_reducible show wpList _ _ _ (⟨some 38, _, _, _, _, _⟩ :: _) _ _); refine wpList_load_rng 41 (.tmp 5) rfl (by kernel_rfl) _ _ rfl _ R38.out _ Try.underlying41 rfl (by kernel_rfl) ?_; have R40 := Lib.hid (range_lit hyb 0 4 [.int .u8 (y.a.toNat : Int), .int .u8 (y.b.toNat : Int), .int .u8 (y.c.toNat : Int), .int .u8 (y.d.toNat : Int)] rfl)) | ((with_reducible show wpList _ _ _ (⟨some 40, _, _, _, _, _⟩ :: _) _ _); refine wpList_load_rng 28 (.tmp 7) rfl (by kernel_rfl) _ _ rfl _ R40.out _ Try.underlying28 rfl (by kernel_rfl) ?_))
  try clear R35
  try clear R38
  try clear R40
  with_reducible refine (srcv_5your _ HCL.out HFL.out).mono ?_
  rintro e w15 ⟨rfl, b15⟩
  replace hsv := blk_u hsv b15
  replace hp := blk_u hp b15
  replace hyb := blk_u hyb b15
  replace hz := blk_u hz b15
  replace hmo := blk_u hmo b15
  replace hO := hO.below b15
  replace hP := hP.below b15
  replace bel := bel.trans (b15.mono bel.size)
  clear b15
  go_wp2_with (first | ((with_reducible show wpList _ _ _ (⟨some 10, _, _, _, _, _⟩ :: _) _ _); refine wpList_new_a rfl 32 rfl #[.int .u8 0, .int .u8 0, .int .u8 0, .int .u8 0, .int .u8 0, .int .u8 0] (by kernel_rfl) ?_; intro g10 w16 ge hh bb; have d_sv_mm := ne_new (hlt hsv) ge; have d_p_mm := ne_new (hlt hp) ge; have d_yb_mm := ne_new (hlt hyb) ge; have d_z_mm := ne_new (hlt hz) ge; have d_mo_mm := ne_new (hlt hmo) ge; have omm := Nat.le_trans bel.size ge; have oa_mm := hO.oa ge; have pmm := Nat.le_trans bel.size ge; have ob_mm := hP.oa ge; replace hsv := blk_u hsv bb; replace hp := blk_u hp bb; replace hyb := blk_u hyb bb; replace hz := blk_u hz bb; replace hmo := blk_u hmo bb; replace hO := hO.below bb; replace hP := hP.below bb; replace bel := bel.trans (bb.mono bel.size); have hmm := hh; clear hh ge bb) | ((with_reducible show wpList _ _ _ (⟨some 11, _, _, _, _, _⟩ :: _) _ _); refine wpList_new_a rfl 28 rfl #[.int .u8 0, .int .u8 0, .int .u8 0, .int .u8 0] (by kernel_rfl) ?_; intro g11 w17 ge hh bb; have d_sv_mt := ne_new (hlt hsv) ge; have d_p_mt := ne_new (hlt hp) ge; have d_yb_mt := ne_new (hlt hyb) ge; have d_z_mt := ne_new (hlt hz) ge; have d_mo_mt := ne_new (hlt hmo) ge; have d_mm_mt := ne_new (hlt hmm) ge; have omt := Nat.le_trans bel.size ge; have oa_mt := hO.oa ge; have pmt := Nat.le_trans bel.size ge; have ob_mt := hP.oa ge; replace hsv := blk_u hsv bb; replace hp := blk_u hp bb; replace hyb := blk_u hyb bb; replace hz := blk_u hz bb; replace hmo := blk_u hmo bb; replace hmm := blk_u hmm bb; replace hO := hO.below bb; replace hP := hP.below bb; replace bel := bel.trans (bb.mono bel.size); have hmt := hh; clear hh ge bb) | ((with_reducible show wpList _ _ _ (⟨none, Op.store _ (.tmp 10) _, _, _, _, _⟩ :: _) _ _); refine wpList_store_blk rfl 32 (.tmp 10) (.tmp 42) rfl g10 rfl _ rfl _ 32 hmm (by rfl) (by kernel_rfl) (by kernel_rfl) ?_; intro w18 hq gr; replace hsv := blk_a hsv gr d_sv_mm; replace hp := blk_a hp gr d_p_mm; replace hyb := blk_a hyb gr d_yb_mm; replace hz := blk_a hz gr d_z_mm; replace hmo := blk_a hmo gr d_mo_mm; replace hmt := blk_a hmt gr (ne_symm d_mm_mt); replace hO := hO.away oa_mm gr; replace hP := hP.away ob_mm gr; replace bel := below_grown bel gr omm bel.size; clear hmm; have hmm := hq; clear hq gr) | ((with_reducible show wpList _ _ _ (⟨none, Op.store _ (.tmp 11) _, _, _, _, _⟩ :: _) _ _); refine wpList_store_blk rfl 28 (.tmp 11) (.tmp 43) rfl g11 rfl _ rfl _ 28 hmt (by rfl) (by kernel_rfl) (by kernel_rfl) ?_; intro w19 hq gr; replace hsv := blk_a hsv gr d_sv_mt; replace hp := blk_a hp gr d_p_mt; replace hyb := blk_a hyb gr d_yb_mt; replace hz := blk_a hz gr d_z_mt; replace hmo := blk_a hmo gr d_mo_mt; replace hmm := blk_a hmm gr d_mm_mt; replace hO := hO.away oa_mt gr; replace hP := hP.away ob_mt gr; replace bel := below_grown bel gr omt bel.size; clear hmt; have hmt := hq; clear hq gr; have R44 := Lib.hid (range_lit hmo 0 28 [.int .i64 2, .int .i64 0, .int .u32 h.xid, .int .i64 0, .int .i64 h.flags, .int .u8 (h.c0.toNat : Int), .int .u8 (h.c1.toNat : Int), .int .u8 (h.c2.toNat : Int), .int .u8 (h.c3.toNat : Int), .int .u8 (y.a.toNat : Int), .int .u8 (y.b.toNat : Int), .int .u8 (y.c.toNat : Int), .int .u8 (y.d.toNat : Int), .int .u8 (own.a.toNat : Int), .int .u8 (own.b.toNat : Int), .int .u8 (own.c.toNat : Int), .int .u8 (own.d.toNat : Int), .int .u8 (h.r0.toNat : Int), .int .u8 (h.r1.toNat : Int), .int .u8 (h.r2.toNat : Int), .int .u8 (h.r3.toNat : Int), .int .u8 (h.m0.toNat : Int), .int .u8 (h.m1.toNat : Int), .int .u8 (h.m2.toNat : Int), .int .u8 (h.m3.toNat : Int), .int .u8 (h.m4.toNat : Int), .int .u8 (h.m5.toNat : Int), .slice A2 6 c2] rfl)) | ((with_reducible show wpList _ _ _ (⟨some 44, _, _, _, _, _⟩ :: _) _ _); refine wpList_load_rng 41 (.tmp 9) rfl (by kernel_rfl) _ _ rfl _ R44.out _ Try.underlying41 rfl (by kernel_rfl) ?_; have R45 := Lib.hid (range_lit hmm 0 6 [.int .u8 (h.m0.toNat : Int), .int .u8 (h.m1.toNat : Int), .int .u8 (h.m2.toNat : Int), .int .u8 (h.m3.toNat : Int), .int .u8 (h.m4.toNat : Int), .int .u8 (h.m5.toNat : Int)] rfl)) | ((with_reducible show wpList _ _ _ (⟨some 45, _, _, _, _, _⟩ :: _) _ _); refine wpList_load_rng 32 (.tmp 10) rfl (by kernel_rfl) _ _ rfl _ R45.out _ Try.underlying32 rfl (by kernel_rfl) ?_; have R46 := Lib.hid (range_lit hmt 0 4 [.int .u8 (y.a.toNat : Int), .int .u8 (y.b.toNat : Int), .int .u8 (y.c.toNat : Int), .int .u8 (y.d.toNat : Int)] rfl)) | ((with_reducible show wpList _ _ _ (⟨some 46, _, _, _, _, _⟩ :: _) _ _); refine wpList_load_rng 28 (.tmp 11) rfl (by kernel_rfl) _ _ rfl _ R46.out _ Try.underlying28 rfl (by kernel_rfl) ?_) | ((with_reducible show wpList _ _ _ (⟨none, Op.store _ (.tmp 8) _, _, _, _, _⟩ :: _) _ _); refine wpList_store_blk rfl 43 (.tmp 8) (.tmp 47) rfl g8 rfl _ rfl _ 43 hz (by rfl) (by kernel_rfl) (by kernel_rfl) ?_; intro w20 hq gr; replace hsv := blk_a hsv gr d_sv_z; replace hp := blk_a hp gr d_p_z; replace hyb := blk_a hyb gr d_yb_z; replace hmo := blk_a hmo gr d_mo_z; replace hmm := blk_a hmm gr (ne_symm d_z_mm); replace hmt := blk_a hmt gr (ne_symm d_z_mt); replace hO := hO.away oa_z gr; replace hP := hP.away ob_z gr; replace bel := below_grown bel gr oz bel.size; clear hz; have hz := hq; clear hq gr))
  try clear R44
  try clear R45
  try clear R46
  exact bodyPost_ret (results_cell_row' rfl _ _ _ _ _ _ _ rfl hz Try.underlying43 rfl (by kernel_rfl)) rfl ⟨_, _, _, rfl, hP, fun q_ hq_ => fA q_ hq_, bel⟩
set_option linter.unusedVariables false in
set_option linter.unusedSimpArgs false in
set_option maxRecDepth 100000 in
set_option maxHeartbeats 16000000 in
theorem sans_nak_all {gs gp : Nat} {own : Ad4} {mk sc ty : Int} {h : Mh} {A : Option Addr} {n c : Nat} {hs : List Oh} {L : OptL} (w : World) (hsv : w.heap[gs]? = some (.cells #[.pointer (some ⟨gp, 0, none⟩), .int .u8 (own.a.toNat : Int), .int .u8 (own.b.toNat : Int), .int .u8 (own.c.toNat : Int), .int .u8 (own.d.toNat : Int), .int .u32 mk, .int .i64 sc, .slice none 0 0] 64 (0, 0))) (hO : Opv w A n c hs L) (hs0 : 0 ≤ sc) (hs1 : sc < 4294967296) (hty : (typeL L : Int) = ty) (hne : (ty != 8) = true)  : Calls Try.prog 44 #[.pointer (some ⟨gs, 0, none⟩), .agg #[.int .i64 h.op, .int .i64 h.hops, .int .u32 h.xid, .int .i64 h.secs, .int .i64 h.flags, .int .u8 (h.c0.toNat : Int), .int .u8 (h.c1.toNat : Int), .int .u8 (h.c2.toNat : Int), .int .u8 (h.c3.toNat : Int), .int .u8 (h.y0.toNat : Int), .int .u8 (h.y1.toNat : Int), .int .u8 (h.y2.toNat : Int), .int .u8 (h.y3.toNat : Int), .int .u8 (h.s0.toNat : Int), .int .u8 (h.s1.toNat : Int), .int .u8 (h.s2.toNat : Int), .int .u8 (h.s3.toNat : Int), .int .u8 (h.r0.toNat : Int), .int .u8 (h.r1.toNat : Int), .int .u8 (h.r2.toNat : Int), .int .u8 (h.r3.toNat : Int), .int .u8 (h.m0.toNat : Int), .int .u8 (h.m1.toNat : Int), .int .u8 (h.m2.toNat : Int), .int .u8 (h.m3.toNat : Int), .int .u8 (h.m4.toNat : Int), .int .u8 (h.m5.toNat : Int), .slice A n c], .int .u8 6, .agg #[.int .u8 0, .int .u8 0, .int .u8 0, .int .u8 0]] w fun e w' => ∃ A2 c2 hs2, e = .returned (.agg #[.int .i64 2, .int .i64 0, .int .u32 h.xid, .int .i64 0, .int .i64 h.flags, .int .u8 0, .int .u8 0, .int .u8 0, .int .u8 0, .int .u8 0, .int .u8 0, .int .u8 0, .int .u8 0, .int .u8 (own.a.toNat : Int), .int .u8 (own.b.toNat : Int), .int .u8 (own.c.toNat : Int), .int .u8 (own.d.toNat : Int), .int .u8 (h.r0.toNat : Int), .int .u8 (h.r1.toNat : Int), .int .u8 (h.r2.toNat : Int), .int .u8 (h.r3.toNat : Int), .int .u8 (h.m0.toNat : Int), .int .u8 (h.m1.toNat : Int), .int .u8 (h.m2.toNat : Int), .int .u8 (h.m3.toNat : Int), .int .u8 (h.m4.toNat : Int), .int .u8 (h.m5.toNat : Int), .slice A2 2 c2, .int .u8 255, .int .u8 255, .int .u8 255, .int .u8 255, .int .u8 255, .int .u8 255, .int .u8 255, .int .u8 255, .int .u8 255, .int .u8 255]) ∧ Opv w' A2 2 c2 hs2 [(53, [6]), (54, own.l)] ∧ (∀ q, q < w.heap.size → Oa A2 2 hs2 q) ∧ Below w.heap.size w w' := by
  have HS0 := Lib.hid hs0
  have HS1 := Lib.hid hs1
  have HTY := Lib.hid hty
  clear hs0 hs1 hty
  have bel := Below.refl w.heap.size w
  go_enter Try.func44, Try.ntmps44
  go_wp2_with (first | ((with_reducible show wpList _ _ _ (⟨some 5, _, _, _, _, _⟩ :: _) _ _); refine wpList_box_n rfl 41 (.tmp 1) rfl #[.int .i64 h.op, .int .i64 h.hops, .int .u32 h.xid, .int .i64 h.secs, .int .i64 h.flags, .int .u8 (h.c0.toNat : Int), .int .u8 (h.c1.toNat : Int), .int .u8 (h.c2.toNat : Int), .int .u8 (h.c3.toNat : Int), .int .u8 (h.y0.toNat : Int), .int .u8 (h.y1.toNat : Int), .int .u8 (h.y2.toNat : Int), .int .u8 (h.y3.toNat : Int), .int .u8 (h.s0.toNat : Int), .int .u8 (h.s1.toNat : Int), .int .u8 (h.s2.toNat : Int), .int .u8 (h.s3.toNat : Int), .int .u8 (h.r0.toNat : Int), .int .u8 (h.r1.toNat : Int), .int .u8 (h.r2.toNat : Int), .int .u8 (h.r3.toNat : Int), .int .u8 (h.m0.toNat : Int), .int .u8 (h.m1.toNat : Int), .int .u8 (h.m2.toNat : Int), .int .u8 (h.m3.toNat : Int), .int .u8 (h.m4.toNat : Int), .int .u8 (h.m5.toNat : Int), .slice A n c] rfl ?_; intro g5 w1 ge lt hh bb; have d_sv_p := ne_new (hlt hsv) ge; have op := Nat.le_trans bel.size ge; have oa_p := hO.oa ge; have pp := Nat.le_trans bel.size ge; replace hsv := blk_u hsv bb; replace hO := hO.below bb; replace bel := bel.trans (bb.mono bel.size); have hp := hh; clear hh lt ge bb) | ((with_reducible show wpList _ _ _ (⟨some 7, _, _, _, _, _⟩ :: _) _ _); refine wpList_box_n rfl 28 (.tmp 3) rfl #[.int .u8 0, .int .u8 0, .int .u8 0, .int .u8 0] rfl ?_; intro g7 w2 ge lt hh bb; have d_sv_yb := ne_new (hlt hsv) ge; have d_p_yb := ne_new (hlt hp) ge; have oyb := Nat.le_trans bel.size ge; have oa_yb := hO.oa ge; have pyb := Nat.le_trans bel.size ge; replace hsv := blk_u hsv bb; replace hp := blk_u hp bb; replace hO := hO.below bb; replace bel := bel.trans (bb.mono bel.size); have hyb := hh; clear hh lt ge bb) | ((with_reducible show wpList _ _ _ (⟨some 8, _, _, _, _, _⟩ :: _) _ _); refine wpList_new_a rfl 43 rfl #[.int .i64 0, .int .i64 0, .int .u32 0, .int .i64 0, .int .i64 0, .int .u8 0, .int .u8 0, .int .u8 0, .int .u8 0, .int .u8 0, .int .u8 0, .int .u8 0, .int .u8 0, .int .u8 0, .int .u8 0, .int .u8 0, .int .u8 0, .int .u8 0, .int .u8 0, .int .u8 0, .int .u8 0, .int .u8 0, .int .u8 0, .int .u8 0, .int .u8 0, .int .u8 0, .int .u8 0, .slice none 0 0, .int .u8 0, .int .u8 0, .int .u8 0, .int .u8 0, .int .u8 0, .int .u8 0, .int .u8 0, .int .u8 0, .int .u8 0, .int .u8 0] (by kernel_rfl) ?_; intro g8 w3 ge hh bb; have d_sv_z := ne_new (hlt hsv) ge; have d_p_z := ne_new (hlt hp) ge; have d_yb_z := ne_new (hlt hyb) ge; have oz := Nat.le_trans bel.size ge; have oa_z := hO.oa ge; have pz := Nat.le_trans bel.size ge; replace hsv := blk_u hsv bb; replace hp := blk_u hp bb; replace hyb := blk_u hyb bb; replace hO := hO.below bb; replace bel := bel.trans (bb.mono bel.size); have hz := hh; clear hh ge bb))
  go_cut [9] from 9999 (fun s9 W => ∃ g9 : Nat, ∃ A2 : Option Addr, ∃ c2 : Nat, ∃ hs2 : List Oh, s9 = .pointer (some ⟨g9, 0, none⟩) ∧ W.heap[gs]? = some (.cells #[.pointer (some ⟨gp, 0, none⟩), .int .u8 (own.a.toNat : Int), .int .u8 (own.b.toNat : Int), .int .u8 (own.c.toNat : Int), .int .u8 (own.d.toNat : Int), .int .u32 mk, .int .i64 sc, .slice none 0 0] 64 (0, 0)) ∧ W.heap[g5]? = some (.cells #[.int .i64 h.op, .int .i64 h.hops, .int .u32 h.xid, .int .i64 h.secs, .int .i64 h.flags, .int .u8 (h.c0.toNat : Int), .int .u8 (h.c1.toNat : Int), .int .u8 (h.c2.toNat : Int), .int .u8 (h.c3.toNat : Int), .int .u8 (h.y0.toNat : Int), .int .u8 (h.y1.toNat : Int), .int .u8 (h.y2.toNat : Int), .int .u8 (h.y3.toNat : Int), .int .u8 (h.s0.toNat : Int), .int .u8 (h.s1.toNat : Int), .int .u8 (h.s2.toNat : Int), .int .u8 (h.s3.toNat : Int), .int .u8 (h.r0.toNat : Int), .int .u8 (h.r1.toNat : Int), .int .u8 (h.r2.toNat : Int), .int .u8 (h.r3.toNat : Int), .int .u8 (h.m0.toNat : Int), .int .u8 (h.m1.toNat : Int), .int .u8 (h.m2.toNat : Int), .int .u8 (h.m3.toNat : Int), .int .u8 (h.m4.toNat : Int), .int .u8 (h.m5.toNat : Int), .slice A n c] 41 (0, 0)) ∧ W.heap[g7]? = some (.cells #[.int .u8 0, .int .u8 0, .int .u8 0, .int .u8 0] 28 (0, 0)) ∧ W.heap[g8]? = some (.cells #[.int .i64 0, .int .i64 0, .int .u32 0, .int .i64 0, .int .i64 0, .int .u8 0, .int .u8 0, .int .u8 0, .int .u8 0, .int .u8 0, .int .u8 0, .int .u8 0, .int .u8 0, .int .u8 0, .int .u8 0, .int .u8 0, .int .u8 0, .int .u8 0, .int .u8 0, .int .u8 0, .int .u8 0, .int .u8 0, .int .u8 0, .int .u8 0, .int .u8 0, .int .u8 0, .int .u8 0, .slice none 0 0, .int .u8 0, .int .u8 0, .int .u8 0, .int .u8 0, .int .u8 0, .int .u8 0, .int .u8 0, .int .u8 0, .int .u8 0, .int .u8 0] 43 (0, 0)) ∧ W.heap[g9]? = some (.cells #[.int .i64 2, .int .i64 0, .int .u32 h.xid, .int .i64 0, .int .i64 h.flags, .int .u8 0, .int .u8 0, .int .u8 0, .int .u8 0, .int .u8 0, .int .u8 0, .int .u8 0, .int .u8 0, .int .u8 (own.a.toNat : Int), .int .u8 (own.b.toNat : Int), .int .u8 (own.c.toNat : Int), .int .u8 (own.d.toNat : Int), .int .u8 (h.r0.toNat : Int), .int .u8 (h.r1.toNat : Int), .int .u8 (h.r2.toNat : Int), .int .u8 (h.r3.toNat : Int), .int .u8 (h.m0.toNat : Int), .int .u8 (h.m1.toNat : Int), .int .u8 (h.m2.toNat : Int), .int .u8 (h.m3.toNat : Int), .int .u8 (h.m4.toNat : Int), .int .u8 (h.m5.toNat : Int), .slice A2 2 c2] 41 (0, 0)) ∧ w.heap.size ≤ g9 ∧ w.heap.size ≤ g9 ∧ Hid (g9 ≠ g5) ∧ Hid (g9 ≠ gs) ∧ Hid (g9 ≠ g7) ∧ Hid (g9 ≠ g8) ∧ Hid (g5 ≠ gs) ∧ Hid (g5 ≠ g7) ∧ Hid (g5 ≠ g8) ∧ Hid (gs ≠ g7) ∧ Hid (gs ≠ g8) ∧ Hid (g7 ≠ g8) ∧ (∀ q, q < w.heap.size → Oa A2 2 hs2 q) ∧ Oa A n hs g9 ∧ Oa A2 2 hs2 g9 ∧ Oa A2 2 hs2 g8 ∧ Opv W A n c hs L ∧ Opv W A2 2 c2 hs2 [(53, [6]), (54, own.l)] ∧ Below w.heap.size w W)
  case first =>
    replace bel := bel.drew
    replace hsv : w3.drew.heap[gs]? = _ := hsv
    replace hp : w3.drew.heap[g5]? = _ := hp
    replace hyb : w3.drew.heap[g7]? = _ := hyb
    replace hz : w3.drew.heap[g8]? = _ := hz
    replace hO := hO.drew
    refine wp_region_held_drew (S := fun W => W.heap[g5]? = some (.cells #[.int .i64 h.op, .int .i64 h.hops, .int .u32 h.xid, .int .i64 h.secs, .int .i64 h.flags, .int .u8 (h.c0.toNat : Int), .int .u8 (h.c1.toNat : Int), .int .u8 (h.c2.toNat : Int), .int .u8 (h.c3.toNat : Int), .int .u8 (h.y0.toNat : Int), .int .u8 (h.y1.toNat : Int), .int .u8 (h.y2.toNat : Int), .int .u8 (h.y3.toNat : Int), .int .u8 (h.s0.toNat : Int), .int .u8 (h.s1.toNat : Int), .int .u8 (h.s2.toNat : Int), .int .u8 (h.s3.toNat : Int), .int .u8 (h.r0.toNat : Int), .int .u8 (h.r1.toNat : Int), .int .u8 (h.r2.toNat : Int), .int .u8 (h.r3.toNat : Int), .int .u8 (h.m0.toNat : Int), .int .u8 (h.m1.toNat : Int), .int .u8 (h.m2.toNat : Int), .int .u8 (h.m3.toNat : Int), .int .u8 (h.m4.toNat : Int), .int .u8 (h.m5.toNat : Int), .slice A n c] 41 (0, 0)) ∧ W.heap[g7]? = some (.cells #[.int .u8 0, .int .u8 0, .int .u8 0, .int .u8 0] 28 (0, 0)) ∧ W.heap[gs]? = some (.cells #[.pointer (some ⟨gp, 0, none⟩), .int .u8 (own.a.toNat : Int), .int .u8 (own.b.toNat : Int), .int .u8 (own.c.toNat : Int), .int .u8 (own.d.toNat : Int), .int .u32 mk, .int .i64 sc, .slice none 0 0] 64 (0, 0))) (by kernel_rfl) ⟨hp, hyb, hsv⟩ (fun hH => ?_)
    generalize w3.drew = w4 at bel hsv hp hyb hz hO hH ⊢
    refine wpAnyH_take (i := 0) (v := ?_) rfl (by kernel_rfl) (by kernel_rfl) (by kernel_rfl) (fun _ _ _ h => h) (Or.inl ⟨by rfl, ?_⟩) hH ?_
    rotate_left
    · ((intro W hW; clear hW; go_simp) <;> with_reducible rfl)
    simp only [Act.put, List.getElem_toArray, List.getElem_cons_zero, List.setIfInBounds_toArray, List.set_cons_zero, List.set_cons_succ]
    refine wpAnyH_take (i := 1) (v := ?_) rfl (by kernel_rfl) (by kernel_rfl) (by kernel_rfl) (fun _ _ _ h => h) (Or.inl ⟨by rfl, ?_⟩) hH ?_
    rotate_left
    · ((intro W hW; have hk := cell_lit (hW.1) 2 _ rfl; clear hW; go_simp) <;> with_reducible rfl)
    simp only [sq3, sq4]
    refine wpAnyH_take (i := 2) (v := ?_) rfl (by kernel_rfl) (by kernel_rfl) (by kernel_rfl) (fun _ _ _ h => h) (Or.inl ⟨by rfl, ?_⟩) hH ?_
    rotate_left
    · ((intro W hW; clear hW; go_simp) <;> with_reducible rfl)
    simp only [sq3, sq4]
    refine wpAnyH_take (i := 3) (v := ?_) rfl (by kernel_rfl) (by kernel_rfl) (by kernel_rfl) (fun _ _ _ h => h) (Or.inl ⟨by rfl, ?_⟩) hH ?_
    rotate_left
    · ((intro W hW; have hk := cell_lit (hW.1) 4 _ rfl; clear hW; go_simp) <;> with_reducible rfl)
    simp only [sq3, sq4]
    refine wpAnyH_take (i := 4) (v := .agg #[.int .u8 0, .int .u8 0, .int .u8 0, .int .u8 0]) rfl (by kernel_rfl) (by kernel_rfl) (by kernel_rfl) (fun _ _ _ h => h) (yieldsIf_load_part (by kernel_rfl) 28 _ rfl g7 0 4 rfl _ 28 (0, 0) (fun W hW => hW.2.1) _ rfl _ Try.underlying28 rfl (by kernel_rfl)) hH ?_
    simp only [sq3, sq4]
    refine wpAnyH_take (i := 5) (v := ?_) rfl (by kernel_rfl) (by kernel_rfl) (by kernel_rfl) (fun _ _ _ h => h) (Or.inl ⟨by rfl, ?_⟩) hH ?_
    rotate_left
    · ((intro W hW; clear hW; go_simp) <;> with_reducible rfl)
    simp only [sq3, sq4]
    refine wpAnyH_take (i := 6) (v := ?_) rfl (by kernel_rfl) (by kernel_rfl) (by kernel_rfl) (fun _ _ _ h => h) (Or.inl ⟨by rfl, ?_⟩) hH ?_
    rotate_left
    · ((intro W hW; clear hW; go_simp) <;> with_reducible rfl)
    simp only [sq3, sq4]
    refine wpAnyH_take (i := 7) (v := ?_) rfl (by kernel_rfl) (by kernel_rfl) (by kernel_rfl) (fun _ _ _ h => h) (Or.inl ⟨by rfl, ?_⟩) hH ?_
    rotate_left
    · ((intro W hW; clear hW; go_simp) <;> with_reducible rfl)
    simp only [sq3, sq4]
    refine wpAnyH_take (i := 8) (v := .agg #[.int .u8 (own.a.toNat : Int), .int .u8 (own.b.toNat : Int), .int .u8 (own.c.toNat : Int), .int .u8 (own.d.toNat : Int)]) rfl (by kernel_rfl) (by kernel_rfl) (by kernel_rfl) (fun _ _ _ h => h) (yieldsIf_load_part (by kernel_rfl) 28 _ rfl gs 1 4 rfl _ 64 (0, 0) (fun W hW => hW.2.2) _ rfl _ Try.underlying28 rfl (by kernel_rfl)) hH ?_
    simp only [sq3, sq4]
    refine wpAnyH_take (i := 9) (v := ?_) rfl (by kernel_rfl) (by kernel_rfl) (by kernel_rfl) (fun _ _ _ h => h) (Or.inl ⟨by rfl, ?_⟩) hH ?_
    rotate_left
    · ((intro W hW; clear hW; go_simp) <;> with_reducible rfl)
    simp only [sq3, sq4]
    refine wpAnyH_take (i := 10) (v := .agg #[.int .u8 (h.r0.toNat : Int), .int .u8 (h.r1.toNat : Int), .int .u8 (h.r2.toNat : Int), .int .u8 (h.r3.toNat : Int)]) rfl (by kernel_rfl) (by kernel_rfl) (by kernel_rfl) (fun _ _ _ h => h) (yieldsIf_load_part (by kernel_rfl) 28 _ rfl g5 17 4 rfl _ 41 (0, 0) (fun W hW => hW.1) _ rfl _ Try.underlying28 rfl (by kernel_rfl)) hH ?_
    simp only [sq3, sq4]
    refine wpAnyH_take (i := 11) (v := ?_) rfl (by kernel_rfl) (by kernel_rfl) (by kernel_rfl) (fun _ _ _ h => h) (Or.inl ⟨by rfl, ?_⟩) hH ?_
    rotate_left
    · ((intro W hW; clear hW; go_simp) <;> with_reducible rfl)
    simp only [sq3, sq4]
    refine wpAnyH_take (i := 12) (v := .agg #[.int .u8 (h.m0.toNat : Int), .int .u8 (h.m1.toNat : Int), .int .u8 (h.m2.toNat : Int), .int .u8 (h.m3.toNat : Int), .int .u8 (h.m4.toNat : Int), .int .u8 (h.m5.toNat : Int)]) rfl (by kernel_rfl) (by kernel_rfl) (by kernel_rfl) (fun _ _ _ h => h) (yieldsIf_load_part (by kernel_rfl) 32 _ rfl g5 21 6 rfl _ 41 (0, 0) (fun W hW => hW.1) _ rfl _ Try.underlying32 rfl (by kernel_rfl)) hH ?_
    simp only [sq3, sq4]
    refine wpAnyH_take (i := 13) (v := ?_) rfl (by kernel_rfl) (by kernel_rfl) (by kernel_rfl) (fun _ _ _ h => h) (Or.inl ⟨by rfl, ?_⟩) hH ?_
    rotate_left
    · ((intro W hW; clear hW; go_simp) <;> with_reducible rfl)
    simp only [sq3, sq4]
    refine wpAnyH_take (i := 14) (v := ?_) rfl (by kernel_rfl) (by kernel_rfl) (by kernel_rfl) (fun _ _ _ h => h) (Or.inl ⟨by rfl, ?_⟩) hH ?_
    rotate_left
    · ((intro W hW; clear hW; go_simp) <;> with_reducible rfl)
    simp only [sq3, sq4]
    refine wpAnyH_take (i := 15) (v := .agg #[.int .i64 h.op, .int .i64 h.hops, .int .u32 h.xid, .int .i64 h.secs, .int .i64 h.flags, .int .u8 (h.c0.toNat : Int), .int .u8 (h.c1.toNat : Int), .int .u8 (h.c2.toNat : Int), .int .u8 (h.c3.toNat : Int), .int .u8 (h.y0.toNat : Int), .int .u8 (h.y1.toNat : Int), .int .u8 (h.y2.toNat : Int), .int .u8 (h.y3.toNat : Int), .int .u8 (h.s0.toNat : Int), .int .u8 (h.s1.toNat : Int), .int .u8 (h.s2.toNat : Int), .int .u8 (h.s3.toNat : Int), .int .u8 (h.r0.toNat : Int), .int .u8 (h.r1.toNat : Int), .int .u8 (h.r2.toNat : Int), .int .u8 (h.r3.toNat : Int), .int .u8 (h.m0.toNat : Int), .int .u8 (h.m1.toNat : Int), .int .u8 (h.m2.toNat : Int), .int .u8 (h.m3.toNat : Int), .int .u8 (h.m4.toNat : Int), .int .u8 (h.m5.toNat : Int), .slice A n c]) rfl (by kernel_rfl) (by kernel_rfl) (by kernel_rfl) (fun _ _ _ h => h) (yieldsIf_load_part (by kernel_rfl) 41 _ rfl g5 0 28 rfl _ 41 (0, 0) (fun W hW => hW.1) _ rfl _ Try.underlying41 rfl (by kernel_rfl)) hH ?_
    simp only [sq3, sq4]
    refine wpAnyH_ready (rs := [16, 20]) (by kernel_rfl) (by simp) ?_
    refine AllReadyH.cons (o := _) rfl (fun K hK => ?_) (AllReadyH.cons (o := _) rfl (fun K hK => ?_) AllReadyH.nil)
    rotate_left
    · simp only [sq3]
      rw [if_pos (by rfl)]
      refine wp_new_a 41 rfl #[.int .i64 0, .int .i64 0, .int .u32 0, .int .i64 0, .int .i64 0, .int .u8 0, .int .u8 0, .int .u8 0, .int .u8 0, .int .u8 0, .int .u8 0, .int .u8 0, .int .u8 0, .int .u8 0, .int .u8 0, .int .u8 0, .int .u8 0, .int .u8 0, .int .u8 0, .int .u8 0, .int .u8 0, .int .u8 0, .int .u8 0, .int .u8 0, .int .u8 0, .int .u8 0, .int .u8 0, .slice none 0 0] (by kernel_rfl) ?_
      intro g9 w5 ge hh bb
      have d_sv_mo := ne_new (hlt hsv) ge
      have d_p_mo := ne_new (hlt hp) ge
      have d_yb_mo := ne_new (hlt hyb) ge
      have d_z_mo := ne_new (hlt hz) ge
      have omo := Nat.le_trans bel.size ge
      have oa_mo := hO.oa ge
      have pmo := Nat.le_trans bel.size ge
      replace hsv := blk_u hsv bb
      replace hp := blk_u hp bb
      replace hyb := blk_u hyb bb
      replace hz := blk_u hz bb
      replace hO := hO.below bb
      replace bel := bel.trans (bb.mono bel.size)
      have hmo := hh
      clear hh ge bb
      refine hK.out _ _ ⟨hp, hyb, hsv⟩ (fun hH6 => ?_)
      clear hK K
      simp only [sq4]
      refine wpAnyH_ready (rs := [16]) (by kernel_rfl) (by simp) ?_
      refine AllReadyH.cons (o := _) rfl (fun K hK => ?_) AllReadyH.nil
      simp only [sq3]
      go_simp
      with_reducible refine (dtype_o (h := h) _ hO HTY.out).mono ?_
      rintro e w7 ⟨rfl, b7⟩
      dsimp only
      replace hsv := blk_u hsv b7
      replace hp := blk_u hp b7
      replace hyb := blk_u hyb b7
      replace hz := blk_u hz b7
      replace hmo := blk_u hmo b7
      replace hO := hO.below b7
      replace bel := bel.trans (b7.mono bel.size)
      clear b7
      refine hK.out _ _ ⟨hp, hyb, hsv⟩ (fun hH8 => ?_)
      clear hK K
      refine wpAnyH_take (i := 17) (v := ?_) rfl (by kernel_rfl) (by kernel_rfl) (by kernel_rfl) (fun _ _ _ h => h) (Or.inl ⟨by rfl, ?_⟩) hH8 ?_
      rotate_left
      · ((intro W hW; clear hW; go_simp) <;> with_reducible rfl)
      simp only [sq3, sq4]
      refine wpAnyH_ready (rs := [18]) (by kernel_rfl) (by simp) ?_
      refine AllReadyH.cons (o := _) rfl (fun K hK => ?_) AllReadyH.nil
      simp only [sq3]
      go_simp
      have sp_sv := hlt hsv
      have sp_p := hlt hp
      have sp_yb := hlt hyb
      have sp_z := hlt hz
      have sp_mo := hlt hmo
      have hwz := bel.size
      with_reducible refine (sopts_nak _ hsv HS0.out HS1.out).mono ?_
      rintro e w9 ⟨A2, c2, hs2, rfl, hP, fP, b9⟩
      dsimp only
      replace hsv := blk_u hsv b9
      replace hp := blk_u hp b9
      replace hyb := blk_u hyb b9
      replace hz := blk_u hz b9
      replace hmo := blk_u hmo b9
      replace hO := hO.below b9
      replace bel := bel.trans (b9.mono bel.size)
      clear b9
      have fA : ∀ q, q < w.heap.size → Oa A2 2 hs2 q := fun q_ hq_ => fP q_ (Nat.lt_of_lt_of_le hq_ hwz)
      clear hwz
      have ob_sv := fP _ sp_sv
      have ob_p := fP _ sp_p
      have ob_yb := fP _ sp_yb
      have ob_z := fP _ sp_z
      have ob_mo := fP _ sp_mo
      clear sp_sv sp_p sp_yb sp_z sp_mo
      clear fP
      refine hK.out _ _ ⟨hp, hyb, hsv⟩ (fun hH10 => ?_)
      clear hK K
      refine wpAnyH_take (i := 19) (v := ?_) rfl (by kernel_rfl) (by kernel_rfl) (by kernel_rfl) (fun _ _ _ h => h) (Or.inl ⟨by rfl, ?_⟩) hH10 ?_
      rotate_left
      · ((intro W hW; clear hW; go_simp) <;> with_reducible rfl)
      simp only [sq3, sq4]
      refine wpAnyH_ready (rs := [21]) (by kernel_rfl) (by simp) ?_
      refine AllReadyH.cons (o := _) rfl (fun K hK => ?_) AllReadyH.nil
      simp only [sq3]
      rw [if_pos (by rfl)]
      refine wp_store_blk 41 (.tmp 9) (.tmp 31) rfl g9 rfl _ rfl _ 41 hmo (by rfl) (by kernel_rfl) (by kernel_rfl) ?_
      intro w11 hq gr
      replace hsv := blk_a hsv gr d_sv_mo
      replace hp := blk_a hp gr d_p_mo
      replace hyb := blk_a hyb gr d_yb_mo
      replace hz := blk_a hz gr d_z_mo
      replace hO := hO.away oa_mo gr
      replace hP := hP.away ob_mo gr
      replace bel := below_grown bel gr omo bel.size
      clear hmo
      have hmo := hq
      clear hq gr
      refine hK.out _ _ ⟨hp, hyb, hsv⟩ (fun hH12 => ?_)
      clear hK K
      simp only [Act.put]
      refine wpAnyH_done (by kernel_rfl) ?_ _
      go_wp2_with fail
      go_meet
      case rel => exact ⟨g9, A2, c2, hs2, rfl, hsv, hp, hyb, hz, hmo, omo, pmo, (ne_symm d_p_mo), (ne_symm d_sv_mo), (ne_symm d_yb_mo), (ne_symm d_z_mo), (ne_symm d_sv_p), d_p_yb, d_p_z, d_sv_yb, d_sv_z, d_yb_z, fA, oa_mo, ob_mo, ob_z, hO, hP, bel⟩
    simp only [sq3]
    go_simp
    with_reducible refine (dtype_o (h := h) _ hO HTY.out).mono ?_
    rintro e w5 ⟨rfl, b5⟩
    dsimp only
    replace hsv := blk_u hsv b5
    replace hp := blk_u hp b5
    replace hyb := blk_u hyb b5
    replace hz := blk_u hz b5
    replace hO := hO.below b5
    replace bel := bel.trans (b5.mono bel.size)
    clear b5
    refine hK.out _ _ ⟨hp, hyb, hsv⟩ (fun hH6 => ?_)
    clear hK K
    refine wpAnyH_take (i := 17) (v := ?_) rfl (by kernel_rfl) (by kernel_rfl) (by kernel_rfl) (fun _ _ _ h => h) (Or.inl ⟨by rfl, ?_⟩) hH6 ?_
    rotate_left
    · ((intro W hW; clear hW; go_simp) <;> with_reducible rfl)
    simp only [sq3, sq4]
    refine wpAnyH_ready (rs := [18, 20]) (by kernel_rfl) (by simp) ?_
    refine AllReadyH.cons (o := _) rfl (fun K hK => ?_) (AllReadyH.cons (o := _) rfl (fun K hK => ?_) AllReadyH.nil)
    · simp only [sq3]
      go_simp
      have sp_sv := hlt hsv
      have sp_p := hlt hp
      have sp_yb := hlt hyb
      have sp_z := hlt hz
      have hwz := bel.size
      with_reducible refine (sopts_nak _ hsv HS0.out HS1.out).mono ?_
      rintro e w7 ⟨A2, c2, hs2, rfl, hP, fP, b7⟩
      dsimp only
      replace hsv := blk_u hsv b7
      replace hp := blk_u hp b7
      replace hyb := blk_u hyb b7
      replace hz := blk_u hz b7
      replace hO := hO.below b7
      replace bel := bel.trans (b7.mono bel.size)
      clear b7
      have fA : ∀ q, q < w.heap.size → Oa A2 2 hs2 q := fun q_ hq_ => fP q_ (Nat.lt_of_lt_of_le hq_ hwz)
      clear hwz
      have ob_sv := fP _ sp_sv
      have ob_p := fP _ sp_p
      have ob_yb := fP _ sp_yb
      have ob_z := fP _ sp_z
      clear sp_sv sp_p sp_yb sp_z
      clear fP
      refine hK.out _ _ ⟨hp, hyb, hsv⟩ (fun hH8 => ?_)
      clear hK K
      refine wpAnyH_take (i := 19) (v := ?_) rfl (by kernel_rfl) (by kernel_rfl) (by kernel_rfl) (fun _ _ _ h => h) (Or.inl ⟨by rfl, ?_⟩) hH8 ?_
      rotate_left
      · ((intro W hW; clear hW; go_simp) <;> with_reducible rfl)
      simp only [sq3, sq4]
      refine wpAnyH_ready (rs := [20]) (by kernel_rfl) (by simp) ?_
      refine AllReadyH.cons (o := _) rfl (fun K hK => ?_) AllReadyH.nil
      simp only [sq3]
      rw [if_pos (by rfl)]
      refine wp_new_a 41 rfl #[.int .i64 0, .int .i64 0, .int .u32 0, .int .i64 0, .int .i64 0, .int .u8 0, .int .u8 0, .int .u8 0, .int .u8 0, .int .u8 0, .int .u8 0, .int .u8 0, .int .u8 0, .int .u8 0, .int .u8 0, .int .u8 0, .int .u8 0, .int .u8 0, .int .u8 0, .int .u8 0, .int .u8 0, .int .u8 0, .int .u8 0, .int .u8 0, .int .u8 0, .int .u8 0, .int .u8 0, .slice none 0 0] (by kernel_rfl) ?_
      intro g9 w9 ge hh bb
      have d_sv_mo := ne_new (hlt hsv) ge
      have d_p_mo := ne_new (hlt hp) ge
      have d_yb_mo := ne_new (hlt hyb) ge
      have d_z_mo := ne_new (hlt hz) ge
      have omo := Nat.le_trans bel.size ge
      have oa_mo := hO.oa ge
      have pmo := Nat.le_trans bel.size ge
      have ob_mo := hP.oa ge
      replace hsv := blk_u hsv bb
      replace hp := blk_u hp bb
      replace hyb := blk_u hyb bb
      replace hz := blk_u hz bb
      replace hO := hO.below bb
      replace hP := hP.below bb
      replace bel := bel.trans (bb.mono bel.size)
      have hmo := hh
      clear hh ge bb
      refine hK.out _ _ ⟨hp, hyb, hsv⟩ (fun hH10 => ?_)
      clear hK K
      simp only [sq4]
      refine wpAnyH_ready (rs := [21]) (by kernel_rfl) (by simp) ?_
      refine AllReadyH.cons (o := _) rfl (fun K hK => ?_) AllReadyH.nil
      simp only [sq3]
      rw [if_pos (by rfl)]
      refine wp_store_blk 41 (.tmp 9) (.tmp 31) rfl g9 rfl _ rfl _ 41 hmo (by rfl) (by kernel_rfl) (by kernel_rfl) ?_
      intro w11 hq gr
      replace hsv := blk_a hsv gr d_sv_mo
      replace hp := blk_a hp gr d_p_mo
      replace hyb := blk_a hyb gr d_yb_mo
      replace hz := blk_a hz gr d_z_mo
      replace hO := hO.away oa_mo gr
      replace hP := hP.away ob_mo gr
      replace bel := below_grown bel gr omo bel.size
      clear hmo
      have hmo := hq
      clear hq gr
      refine hK.out _ _ ⟨hp, hyb, hsv⟩ (fun hH12 => ?_)
      clear hK K
      simp only [Act.put]
      refine wpAnyH_done (by kernel_rfl) ?_ _
      go_wp2_with fail
      go_meet
      case rel => exact ⟨g9, A2, c2, hs2, rfl, hsv, hp, hyb, hz, hmo, omo, pmo, (ne_symm d_p_mo), (ne_symm d_sv_mo), (ne_symm d_yb_mo), (ne_symm d_z_mo), (ne_symm d_sv_p), d_p_yb, d_p_z, d_sv_yb, d_sv_z, d_yb_z, fA, oa_mo, ob_mo, ob_z, hO, hP, bel⟩
    simp only [sq3]
    rw [if_pos (by rfl)]
    refine wp_new_a 41 rfl #[.int .i64 0, .int .i64 0, .int .u32 0, .int .i64 0, .int .i64 0, .int .u8 0, .int .u8 0, .int .u8 0, .int .u8 0, .int .u8 0, .int .u8 0, .int .u8 0, .int .u8 0, .int .u8 0, .int .u8 0, .int .u8 0, .int .u8 0, .int .u8 0, .int .u8 0, .int .u8 0, .int .u8 0, .int .u8 0, .int .u8 0, .int .u8 0, .int .u8 0, .int .u8 0, .int .u8 0, .slice none 0 0] (by kernel_rfl) ?_
    intro g9 w7 ge hh bb
    have d_sv_mo := ne_new (hlt hsv) ge
    have d_p_mo := ne_new (hlt hp) ge
    have d_yb_mo := ne_new (hlt hyb) ge
    have d_z_mo := ne_new (hlt hz) ge
    have omo := Nat.le_trans bel.size ge
    have oa_mo := hO.oa ge
    have pmo := Nat.le_trans bel.size ge
    replace hsv := blk_u hsv bb
    replace hp := blk_u hp bb
    replace hyb := blk_u hyb bb
    replace hz := blk_u hz bb
    replace hO := hO.below bb
    replace bel := bel.trans (bb.mono bel.size)
    have hmo := hh
    clear hh ge bb
    refine hK.out _ _ ⟨hp, hyb, hsv⟩ (fun hH8 => ?_)
    clear hK K
    simp only [sq4]
    refine wpAnyH_ready (rs := [18]) (by kernel_rfl) (by simp) ?_
    refine AllReadyH.cons (o := _) rfl (fun K hK => ?_) AllReadyH.nil
    simp only [sq3]
    go_simp
    have sp_sv := hlt hsv
    have sp_p := hlt hp
    have sp_yb := hlt hyb
    have sp_z := hlt hz
    have sp_mo := hlt hmo
    have hwz := bel.size
    with_reducible refine (sopts_nak _ hsv HS0.out HS1.out).mono ?_
    rintro e w9 ⟨A2, c2, hs2, rfl, hP, fP, b9⟩
    dsimp only
    replace hsv := blk_u hsv b9
    replace hp := blk_u hp b9
    replace hyb := blk_u hyb b9
    replace hz := blk_u hz b9
    replace hmo := blk_u hmo b9
    replace hO := hO.below b9
    replace bel := bel.trans (b9.mono bel.size)
    clear b9
    have fA : ∀ q, q < w.heap.size → Oa A2 2 hs2 q := fun q_ hq_ => fP q_ (Nat.lt_of_lt_of_le hq_ hwz)
    clear hwz
    have ob_sv := fP _ sp_sv
    have ob_p := fP _ sp_p
    have ob_yb := fP _ sp_yb
    have ob_z := fP _ sp_z
    have ob_mo := fP _ sp_mo
    clear sp_sv sp_p sp_yb sp_z sp_mo
    clear fP
    refine hK.out _ _ ⟨hp, hyb, hsv⟩ (fun hH10 => ?_)
    clear hK K
    refine wpAnyH_take (i := 19) (v := ?_) rfl (by kernel_rfl) (by kernel_rfl) (by kernel_rfl) (fun _ _ _ h => h) (Or.inl ⟨by rfl, ?_⟩) hH10 ?_
    rotate_left
    · ((intro W hW; clear hW; go_simp) <;> with_reducible rfl)
    simp only [sq3, sq4]
    refine wpAnyH_ready (rs := [21]) (by kernel_rfl) (by simp) ?_
    refine AllReadyH.cons (o := _) rfl (fun K hK => ?_) AllReadyH.nil
    simp only [sq3]
    rw [if_pos (by rfl)]
    refine wp_store_blk 41 (.tmp 9) (.tmp 31) rfl g9 rfl _ rfl _ 41 hmo (by rfl) (by kernel_rfl) (by kernel_rfl) ?_
    intro w11 hq gr
    replace hsv := blk_a hsv gr d_sv_mo
    replace hp := blk_a hp gr d_p_mo
    replace hyb := blk_a hyb gr d_yb_mo
    replace hz := blk_a hz gr d_z_mo
    replace hO := hO.away oa_mo gr
    replace hP := hP.away ob_mo gr
    replace bel := below_grown bel gr omo bel.size
    clear hmo
    have hmo := hq
    clear hq gr
    refine hK.out _ _ ⟨hp, hyb, hsv⟩ (fun hH12 => ?_)
    clear hK K
    simp only [Act.put]
    refine wpAnyH_done (by kernel_rfl) ?_ _
    go_wp2_with fail
    go_meet
    case rel => exact ⟨g9, A2, c2, hs2, rfl, hsv, hp, hyb, hz, hmo, omo, pmo, (ne_symm d_p_mo), (ne_symm d_sv_mo), (ne_symm d_yb_mo), (ne_symm d_z_mo), (ne_symm d_sv_p), d_p_yb, d_p_z, d_sv_yb, d_sv_z, d_yb_z, fA, oa_mo, ob_mo, ob_z, hO, hP, bel⟩
  obtain ⟨w13, hw_⟩ : ∃ x, x = wc := ⟨_, rfl⟩
  subst hw_
  obtain ⟨g9, A2, c2, hs2, rfl, hsv, hp, hyb, hz, hmo, omo, pmo, d_mo_p, d_mo_sv, d_mo_yb, d_mo_z, d_p_sv, d_p_yb, d_p_z, d_sv_yb, d_sv_z, d_yb_z, fA, oa_mo, ob_mo, ob_z, hO, hP, bel⟩ := hcut
  have R38 := Lib.hid (range_lit hp 0 28 [.int .i64 h.op, .int .i64 h.hops, .int .u32 h.xid, .int .i64 h.secs, .int .i64 h.flags, .int .u8 (h.c0.toNat : Int), .int .u8 (h.c1.toNat : Int), .int .u8 (h.c2.toNat : Int), .int .u8 (h.c3.toNat : Int), .int .u8 (h.y0.toNat : Int), .int .u8 (h.y1.toNat : Int), .int .u8 (h.y2.toNat : Int), .int .u8 (h.y3.toNat : Int), .int .u8 (h.s0.toNat : Int), .int .u8 (h.s1.toNat : Int), .int .u8 (h.s2.toNat : Int), .int .u8 (h.s3.toNat : Int), .int .u8 (h.r0.toNat : Int), .int .u8 (h.r1.toNat : Int), .int .u8 (h.r2.toNat : Int), .int .u8 (h.r3.toNat : Int), .int .u8 (h.m0.toNat : Int), .int .u8 (h.m1.toNat : Int), .int .u8 (h.m2.toNat : Int), .int .u8 (h.m3.toNat : Int), .int .u8 (h.m4.toNat : Int), .int .u8 (h.m5.toNat : Int), .slice A n c] rfl)
  go_wp2_with (first | ((with_reducible show wpList _ _ _ (⟨some 38, _, _, _, _, _⟩ :: _) _ _); refine wpList_load_rng 41 (.tmp 5) rfl (by kernel_rfl) _ _ rfl _ R38.out _ Try.underlying41 rfl (by kernel_rfl) ?_; have R40 := Lib.hid (range_lit hyb 0 4 [.int .u8 0, .int .u8 0, .int .u8 0, .int .u8 0] rfl)) | ((with_reducible show wpList _ _ _ (⟨some 40, _, _, _, _, _⟩ :: _) _ _); refine wpList_load_rng 28 (.tmp 7) rfl (by kernel_rfl) _ _ rfl _ R40.out _ Try.underlying28 rfl (by kernel_rfl) ?_))
  try clear R38
  try clear R40
  with_reducible refine (srcv_6allz _).mono ?_
  rintro e w14 ⟨rfl, b14⟩
  replace hsv := blk_u hsv b14
  replace hp := blk_u hp b14
  replace hyb := blk_u hyb b14
  replace hz := blk_u hz b14
  replace hmo := blk_u hmo b14
  replace hO := hO.below b14
  replace hP := hP.below b14
  replace bel := bel.trans (b14.mono bel.size)
  clear b14
  go_wp2_with (first | ((with_reducible show wpList _ _ _ (⟨some 10, _, _, _, _, _⟩ :: _) _ _); refine wpList_new_a rfl 32 rfl #[.int .u8 0, .int .u8 0, .int .u8 0, .int .u8 0, .int .u8 0, .int .u8 0] (by kernel_rfl) ?_; intro g10 w15 ge hh bb; have d_sv_mm := ne_new (hlt hsv) ge; have d_p_mm := ne_new (hlt hp) ge; have d_yb_mm := ne_new (hlt hyb) ge; have d_z_mm := ne_new (hlt hz) ge; have d_mo_mm := ne_new (hlt hmo) ge; have omm := Nat.le_trans bel.size ge; have oa_mm := hO.oa ge; have pmm := Nat.le_trans bel.size ge; have ob_mm := hP.oa ge; replace hsv := blk_u hsv bb; replace hp := blk_u hp bb; replace hyb := blk_u hyb bb; replace hz := blk_u hz bb; replace hmo := blk_u hmo bb; replace hO := hO.below bb; replace hP := hP.below bb; replace bel := bel.trans (bb.mono bel.size); have hmm := hh; clear hh ge bb) | ((with_reducible show wpList _ _ _ (⟨some 11, _, _, _, _, _⟩ :: _) _ _); refine wpList_new_a rfl 28 rfl #[.int .u8 0, .int .u8 0, .int .u8 0, .int .u8 0] (by kernel_rfl) ?_; intro g11 w16 ge hh bb; have d_sv_mt := ne_new (hlt hsv) ge; have d_p_mt := ne_new (hlt hp) ge; have d_yb_mt := ne_new (hlt hyb) ge; have d_z_mt := ne_new (hlt hz) ge; have d_mo_mt := ne_new (hlt hmo) ge; have d_mm_mt := ne_new (hlt hmm) ge; have omt := Nat.le_trans bel.size ge; have oa_mt := hO.oa ge; have pmt := Nat.le_trans bel.size ge; have ob_mt := hP.oa ge; replace hsv := blk_u hsv bb; replace hp := blk_u hp bb; replace hyb := blk_u hyb bb; replace hz := blk_u hz bb; replace hmo := blk_u hmo bb; replace hmm := blk_u hmm bb; replace hO := hO.below bb; replace hP := hP.below bb; replace bel := bel.trans (bb.mono bel.size); have hmt := hh; clear hh ge bb) | ((with_reducible show wpList _ _ _ (⟨none, Op.store _ (.tmp 10) _, _, _, _, _⟩ :: _) _ _); refine wpList_store_blk rfl 32 (.tmp 10) (.tmp 42) rfl g10 rfl _ rfl _ 32 hmm (by rfl) (by kernel_rfl) (by kernel_rfl) ?_; intro w17 hq gr; replace hsv := blk_a hsv gr d_sv_mm; replace hp := blk_a hp gr d_p_mm; replace hyb := blk_a hyb gr d_yb_mm; replace hz := blk_a hz gr d_z_mm; replace hmo := blk_a hmo gr d_mo_mm; replace hmt := blk_a hmt gr (ne_symm d_mm_mt); replace hO := hO.away oa_mm gr; replace hP := hP.away ob_mm gr; replace bel := below_grown bel gr omm bel.size; clear hmm; have hmm := hq; clear hq gr) | ((with_reducible show wpList _ _ _ (⟨none, Op.store _ (.tmp 11) _, _, _, _, _⟩ :: _) _ _); refine wpList_store_blk rfl 28 (.tmp 11) (.tmp 43) rfl g11 rfl _ rfl _ 28 hmt (by rfl) (by kernel_rfl) (by kernel_rfl) ?_; intro w18 hq gr; replace hsv := blk_a hsv gr d_sv_mt; replace hp := blk_a hp gr d_p_mt; replace hyb := blk_a hyb gr d_yb_mt; replace hz := blk_a hz gr d_z_mt; replace hmo := blk_a hmo gr d_mo_mt; replace hmm := blk_a hmm gr d_mm_mt; replace hO := hO.away oa_mt gr; replace hP := hP.away ob_mt gr; replace bel := below_grown bel gr omt bel.size; clear hmt; have hmt := hq; clear hq gr; have R44 := Lib.hid (range_lit hmo 0 28 [.int .i64 2, .int .i64 0, .int .u32 h.xid, .int .i64 0, .int .i64 h.flags, .int .u8 0, .int .u8 0, .int .u8 0, .int .u8 0, .int .u8 0, .int .u8 0, .int .u8 0, .int .u8 0, .int .u8 (own.a.toNat : Int), .int .u8 (own.b.toNat : Int), .int .u8 (own.c.toNat : Int), .int .u8 (own.d.toNat : Int), .int .u8 (h.r0.toNat : Int), .int .u8 (h.r1.toNat : Int), .int .u8 (h.r2.toNat : Int), .int .u8 (h.r3.toNat : Int), .int .u8 (h.m0.toNat : Int), .int .u8 (h.m1.toNat : Int), .int .u8 (h.m2.toNat : Int), .int .u8 (h.m3.toNat : Int), .int .u8 (h.m4.toNat : Int), .int .u8 (h.m5.toNat : Int), .slice A2 2 c2] rfl)) | ((with_reducible show wpList _ _ _ (⟨some 44, _, _, _, _, _⟩ :: _) _ _); refine wpList_load_rng 41 (.tmp 9) rfl (by kernel_rfl) _ _ rfl _ R44.out _ Try.underlying41 rfl (by kernel_rfl) ?_; have R45 := Lib.hid (range_lit hmm 0 6 [.int .u8 255, .int .u8 255, .int .u8 255, .int .u8 255, .int .u8 255, .int .u8 255] rfl)) | ((with_reducible show wpList _ _ _ (⟨some 45, _, _, _, _, _⟩ :: _) _ _); refine wpList_load_rng 32 (.tmp 10) rfl (by kernel_rfl) _ _ rfl _ R45.out _ Try.underlying32 rfl (by kernel_rfl) ?_; have R46 := Lib.hid (range_lit hmt 0 4 [.int .u8 255, .int .u8 255, .int .u8 255, .int .u8 255] rfl)) | ((with_reducible show wpList _ _ _ (⟨some 46, _, _, _, _, _⟩ :: _) _ _); refine wpList_load_rng 28 (.tmp 11) rfl (by kernel_rfl) _ _ rfl _ R46.out _ Try.underlying28 rfl (by kernel_rfl) ?_) | ((with_reducible show wpList _ _ _ (⟨none, Op.store _ (.tmp 8) _, _, _, _, _⟩ :: _) _ _); refine wpList_store_blk rfl 43 (.tmp 8) (.tmp 47) rfl g8 rfl _ rfl _ 43 hz (by rfl) (by kernel_rfl) (by kernel_rfl) ?_; intro w19 hq gr; replace hsv := blk_a hsv gr d_sv_z; replace hp := blk_a hp gr d_p_z; replace hyb := blk_a hyb gr d_yb_z; replace hmo := blk_a hmo gr d_mo_z; replace hmm := blk_a hmm gr (ne_symm d_z_mm); replace hmt := blk_a hmt gr (ne_symm d_z_mt); replace hO := hO.away oa_z gr; replace hP := hP.away ob_z gr; replace bel := below_grown bel gr oz bel.size; clear hz; have hz := hq; clear hq gr))
  try clear R44
  try clear R45
  try clear R46
  exact bodyPost_ret (results_cell_row' rfl _ _ _ _ _ _ _ rfl hz Try.underlying43 rfl (by kernel_rfl)) rfl ⟨_, _, _, rfl, hP, fun q_ hq_ => fA q_ hq_, bel⟩
end Go.Proofs.Ytapdmlfjohiekaa
