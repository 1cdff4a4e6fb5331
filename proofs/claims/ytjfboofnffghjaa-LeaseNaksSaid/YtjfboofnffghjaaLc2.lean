/- lease's message, send, enter, begin. -/
import Derived.Test.YtjfboofnffghjaaLc1
namespace Go.Proofs.Ytjfboofnffghjaa
open Go.RowKit

set_option linter.unusedVariables false in
set_option linter.unusedSimpArgs false in
set_option maxRecDepth 100000 in
set_option maxHeartbeats 16000000 in
theorem lmsg_1 {lo gc : Nat} {m0 m1 m2 m3 m4 m5 now xid sent wait tries a0 a1 a2 a3 k0 k1 k2 k3 r0 r1 r2 r3 s0 s1 s2 s3 un t1 t2 : Int} (w : World) (hT : Cl lo gc w #[.int .u8 m0, .int .u8 m1, .int .u8 m2, .int .u8 m3, .int .u8 m4, .int .u8 m5, .int .i64 now, .int .i64 1, .int .u32 xid, .int .i64 sent, .int .i64 wait, .int .i64 tries, .int .u8 a0, .int .u8 a1, .int .u8 a2, .int .u8 a3, .int .u8 k0, .int .u8 k1, .int .u8 k2, .int .u8 k3, .int .u8 r0, .int .u8 r1, .int .u8 r2, .int .u8 r3, .int .u8 s0, .int .u8 s1, .int .u8 s2, .int .u8 s3, .int .i64 un, .int .i64 t1, .int .i64 t2]) : Calls Try.prog 33 #[.pointer (some ⟨gc, 0, none⟩)] w fun e w' => ∃ A n c hs L, e = .returned (.agg #[.int .i64 1, .int .i64 0, .int .u32 xid, .int .i64 0, .int .i64 32768, .int .u8 0, .int .u8 0, .int .u8 0, .int .u8 0, .int .u8 0, .int .u8 0, .int .u8 0, .int .u8 0, .int .u8 0, .int .u8 0, .int .u8 0, .int .u8 0, .int .u8 0, .int .u8 0, .int .u8 0, .int .u8 0, .int .u8 m0, .int .u8 m1, .int .u8 m2, .int .u8 m3, .int .u8 m4, .int .u8 m5, .slice A n c]) ∧ Opv w' A n c hs L ∧ typeL L = 1 ∧ Below w.heap.size w w' := by
  obtain ⟨hcl, _⟩ := hT
  have bel := Below.refl w.heap.size w
  go_enter Try.func33, Try.ntmps33
  go_wp2_with (first | ((with_reducible show wpList _ _ _ (⟨some 2, _, _, _, _, _⟩ :: _) _ _); refine wpList_new_a rfl 37 rfl #[.int .i64 0, .int .i64 0, .int .u32 0, .int .i64 0, .int .i64 0, .int .u8 0, .int .u8 0, .int .u8 0, .int .u8 0, .int .u8 0, .int .u8 0, .int .u8 0, .int .u8 0, .int .u8 0, .int .u8 0, .int .u8 0, .int .u8 0, .int .u8 0, .int .u8 0, .int .u8 0, .int .u8 0, .int .u8 0, .int .u8 0, .int .u8 0, .int .u8 0, .int .u8 0, .int .u8 0, .slice none 0 0] (by kernel_rfl) ?_; intro g2 w1 ge hh bb; have d_cl_z := ne_new (hlt hcl) ge; have oz := Nat.le_trans bel.size ge; replace hcl := blk_u hcl bb; replace bel := bel.trans (bb.mono bel.size); have hz := hh; clear hh ge bb))
  replace bel := bel.drew
  replace hcl : w1.drew.heap[gc]? = _ := hcl
  replace hz : w1.drew.heap[g2]? = _ := hz
  refine wp_region_held_drew (S := fun W => W.heap[gc]? = some (.cells #[.int .u8 m0, .int .u8 m1, .int .u8 m2, .int .u8 m3, .int .u8 m4, .int .u8 m5, .int .i64 now, .int .i64 1, .int .u32 xid, .int .i64 sent, .int .i64 wait, .int .i64 tries, .int .u8 a0, .int .u8 a1, .int .u8 a2, .int .u8 a3, .int .u8 k0, .int .u8 k1, .int .u8 k2, .int .u8 k3, .int .u8 r0, .int .u8 r1, .int .u8 r2, .int .u8 r3, .int .u8 s0, .int .u8 s1, .int .u8 s2, .int .u8 s3, .int .i64 un, .int .i64 t1, .int .i64 t2] 51 (0, 0))) (by kernel_rfl) hcl (fun hH => ?_)
  generalize w1.drew = w2 at bel hcl hz hH ⊢
  refine wpAnyH_take (i := 0) (v := ?_) rfl (by kernel_rfl) (by kernel_rfl) (by kernel_rfl) (fun _ _ _ h => h) (Or.inl ⟨by rfl, ?_⟩) hH ?_
  rotate_left
  · ((intro W hW; clear hW; go_simp) <;> with_reducible rfl)
  simp only [Act.put, List.getElem_toArray, List.getElem_cons_zero, List.setIfInBounds_toArray, List.set_cons_zero, List.set_cons_succ]
  refine wpAnyH_take (i := 1) (v := ?_) rfl (by kernel_rfl) (by kernel_rfl) (by kernel_rfl) (fun _ _ _ h => h) (Or.inl ⟨by rfl, ?_⟩) hH ?_
  rotate_left
  · ((intro W hW; clear hW; go_simp) <;> with_reducible rfl)
  simp only [Act.put, List.getElem_toArray, List.getElem_cons_zero, List.getElem_cons_succ, List.setIfInBounds_toArray, List.set_cons_zero, List.set_cons_succ]
  refine wpAnyH_take (i := 2) (v := ?_) rfl (by kernel_rfl) (by kernel_rfl) (by kernel_rfl) (fun _ _ _ h => h) (Or.inl ⟨by rfl, ?_⟩) hH ?_
  rotate_left
  · ((intro W hW; clear hW; go_simp) <;> with_reducible rfl)
  simp only [Act.put, List.getElem_toArray, List.getElem_cons_zero, List.getElem_cons_succ, List.setIfInBounds_toArray, List.set_cons_zero, List.set_cons_succ]
  refine wpAnyH_take (i := 3) (v := ?_) rfl (by kernel_rfl) (by kernel_rfl) (by kernel_rfl) (fun _ _ _ h => h) (Or.inl ⟨by rfl, ?_⟩) hH ?_
  rotate_left
  · ((intro W hW; have hk := cell_lit (hW) 8 _ rfl; clear hW; go_simp) <;> with_reducible rfl)
  simp only [Act.put, List.getElem_toArray, List.getElem_cons_zero, List.getElem_cons_succ, List.setIfInBounds_toArray, List.set_cons_zero, List.set_cons_succ]
  refine wpAnyH_take (i := 4) (v := ?_) rfl (by kernel_rfl) (by kernel_rfl) (by kernel_rfl) (fun _ _ _ h => h) (Or.inl ⟨by rfl, ?_⟩) hH ?_
  rotate_left
  · ((intro W hW; clear hW; go_simp) <;> with_reducible rfl)
  simp only [Act.put, List.getElem_toArray, List.getElem_cons_zero, List.getElem_cons_succ, List.setIfInBounds_toArray, List.set_cons_zero, List.set_cons_succ]
  refine wpAnyH_take (i := 5) (v := ?_) rfl (by kernel_rfl) (by kernel_rfl) (by kernel_rfl) (fun _ _ _ h => h) (Or.inl ⟨by rfl, ?_⟩) hH ?_
  rotate_left
  · ((intro W hW; clear hW; go_simp) <;> with_reducible rfl)
  simp only [Act.put, List.getElem_toArray, List.getElem_cons_zero, List.getElem_cons_succ, List.setIfInBounds_toArray, List.set_cons_zero, List.set_cons_succ]
  refine wpAnyH_take (i := 6) (v := ?_) rfl (by kernel_rfl) (by kernel_rfl) (by kernel_rfl) (fun _ _ _ h => h) (Or.inl ⟨by rfl, ?_⟩) hH ?_
  rotate_left
  · ((intro W hW; clear hW; go_simp) <;> with_reducible rfl)
  simp only [Act.put, List.getElem_toArray, List.getElem_cons_zero, List.getElem_cons_succ, List.setIfInBounds_toArray, List.set_cons_zero, List.set_cons_succ]
  refine wpAnyH_take (i := 7) (v := .agg #[.int .u8 m0, .int .u8 m1, .int .u8 m2, .int .u8 m3, .int .u8 m4, .int .u8 m5]) rfl (by kernel_rfl) (by kernel_rfl) (by kernel_rfl) (fun _ _ _ h => h) (yieldsIf_load_part (by kernel_rfl) 26 _ rfl gc 0 6 rfl _ 51 (0, 0) (fun W hW => hW) _ rfl _ Try.underlying26 rfl (by kernel_rfl)) hH ?_
  simp only [Act.put, List.getElem_toArray, List.getElem_cons_zero, List.getElem_cons_succ, List.setIfInBounds_toArray, List.set_cons_zero, List.set_cons_succ]
  refine wpAnyH_take (i := 8) (v := ?_) rfl (by kernel_rfl) (by kernel_rfl) (by kernel_rfl) (fun _ _ _ h => h) (Or.inl ⟨by rfl, ?_⟩) hH ?_
  rotate_left
  · ((intro W hW; clear hW; go_simp) <;> with_reducible rfl)
  simp only [Act.put, List.getElem_toArray, List.getElem_cons_zero, List.getElem_cons_succ, List.setIfInBounds_toArray, List.set_cons_zero, List.set_cons_succ]
  refine wpAnyH_ready (rs := [9]) (by kernel_rfl) (by simp) ?_
  refine AllReadyH.cons (o := _) rfl (fun K hK => ?_) AllReadyH.nil
  simp only [List.getElem_toArray, List.getElem_cons_zero, List.getElem_cons_succ]
  rw [if_pos (by rfl)]
  refine wp_new_a 37 rfl #[.int .i64 0, .int .i64 0, .int .u32 0, .int .i64 0, .int .i64 0, .int .u8 0, .int .u8 0, .int .u8 0, .int .u8 0, .int .u8 0, .int .u8 0, .int .u8 0, .int .u8 0, .int .u8 0, .int .u8 0, .int .u8 0, .int .u8 0, .int .u8 0, .int .u8 0, .int .u8 0, .int .u8 0, .int .u8 0, .int .u8 0, .int .u8 0, .int .u8 0, .int .u8 0, .int .u8 0, .slice none 0 0] (by kernel_rfl) ?_
  intro g3 w3 ge hh bb
  have d_cl_m3 := ne_new (hlt hcl) ge
  have d_z_m3 := ne_new (hlt hz) ge
  have om3 := Nat.le_trans bel.size ge
  replace hcl := blk_u hcl bb
  replace hz := blk_u hz bb
  replace bel := bel.trans (bb.mono bel.size)
  have hm3 := hh
  clear hh ge bb
  refine hK.out _ _ hcl (fun hH4 => ?_)
  clear hK K
  simp only [Act.put, List.setIfInBounds_toArray, List.set_cons_zero, List.set_cons_succ]
  refine wpAnyH_ready (rs := [10]) (by kernel_rfl) (by simp) ?_
  refine AllReadyH.cons (o := _) rfl (fun K hK => ?_) AllReadyH.nil
  simp only [List.getElem_toArray, List.getElem_cons_zero, List.getElem_cons_succ]
  rw [if_pos (by rfl)]
  refine wp_store_blk 37 (.tmp 3) (.tmp 12) rfl g3 rfl _ rfl _ 37 hm3 (by rfl) (by kernel_rfl) (by kernel_rfl) ?_
  intro w5 hq gr
  replace hcl := blk_a hcl gr d_cl_m3
  replace hz := blk_a hz gr d_z_m3
  replace bel := below_grown bel gr om3 bel.size
  clear hm3
  have hm3 := hq
  clear hq gr
  refine hK.out _ _ hcl (fun hH6 => ?_)
  clear hK K
  simp only [Act.put]
  refine wpAnyH_done (by kernel_rfl) ?_ _
  have R16 := cell_lit hcl 7 _ rfl
  go_wp2_with (first | ((with_reducible show wpList _ _ _ (⟨none, Op.store _ (.tmp 28) _, _, _, _, _⟩ :: _) _ _); refine wpList_store_part rfl 3 (.tmp 28) (.const (.int .i64 32768)) rfl g3 4 rfl [.int .i64 32768] rfl [.int .i64 1, .int .i64 0, .int .u32 xid, .int .i64 0, .int .i64 0, .int .u8 0, .int .u8 0, .int .u8 0, .int .u8 0, .int .u8 0, .int .u8 0, .int .u8 0, .int .u8 0, .int .u8 0, .int .u8 0, .int .u8 0, .int .u8 0, .int .u8 0, .int .u8 0, .int .u8 0, .int .u8 0, .int .u8 m0, .int .u8 m1, .int .u8 m2, .int .u8 m3, .int .u8 m4, .int .u8 m5, .slice none 0 0] 37 hm3 (by simp) [.int .i64 1, .int .i64 0, .int .u32 xid, .int .i64 0, .int .i64 32768, .int .u8 0, .int .u8 0, .int .u8 0, .int .u8 0, .int .u8 0, .int .u8 0, .int .u8 0, .int .u8 0, .int .u8 0, .int .u8 0, .int .u8 0, .int .u8 0, .int .u8 0, .int .u8 0, .int .u8 0, .int .u8 0, .int .u8 m0, .int .u8 m1, .int .u8 m2, .int .u8 m3, .int .u8 m4, .int .u8 m5, .slice none 0 0] rfl (by kernel_rfl) (by rfl) ?_; intro w7 hq gr; replace hcl := blk_a hcl gr d_cl_m3; replace hz := blk_a hz gr d_z_m3; replace bel := below_grown bel gr om3 bel.size; clear hm3; have hm3 := hq; clear hq gr))
  try clear R16
  with_reducible refine (ltyp1 _).mono ?_
  rintro e w8 ⟨gT, rfl, ge, hh, b8⟩
  have d_cl_bt := ne_new (hlt hcl) ge
  have d_z_bt := ne_new (hlt hz) ge
  have d_m3_bt := ne_new (hlt hm3) ge
  have obt := Nat.le_trans bel.size ge
  replace hcl := blk_u hcl b8
  replace hz := blk_u hz b8
  replace hm3 := blk_u hm3 b8
  replace bel := bel.trans (b8.mono bel.size)
  have hbt := hh
  clear hh ge b8
  go_wp2_with fail
  with_reducible refine (llist _).mono ?_
  rintro e w9 ⟨gL, rfl, ge, hh, b9⟩
  have d_cl_bl := ne_new (hlt hcl) ge
  have d_z_bl := ne_new (hlt hz) ge
  have d_m3_bl := ne_new (hlt hm3) ge
  have d_bt_bl := ne_new (hlt hbt) ge
  have obl := Nat.le_trans bel.size ge
  replace hcl := blk_u hcl b9
  replace hz := blk_u hz b9
  replace hm3 := blk_u hm3 b9
  replace hbt := blk_u hbt b9
  replace bel := bel.trans (b9.mono bel.size)
  have hbl := hh
  clear hh ge b9
  go_wp2_with (first | ((with_reducible show wpList _ _ _ (⟨some 31, _, _, _, _, _⟩ :: _) _ _); refine wpList_lit_n rfl 35 59 2 _ rfl #[.int .i64 53, .slice (some ⟨gT, 0, none⟩) 1 1, .int .i64 55, .slice (some ⟨gL, 0, none⟩) 3 3] (.agg #[.int .i64 0, .slice none 0 0]) Try.underlying35 (by kernel_rfl) 2 (by kernel_rfl) (by decide) (by kernel_rfl) ?_; intro g31 w10 ge lt hh bb; have d_cl_rw := ne_new (hlt hcl) ge; have d_z_rw := ne_new (hlt hz) ge; have d_m3_rw := ne_new (hlt hm3) ge; have d_bt_rw := ne_new (hlt hbt) ge; have d_bl_rw := ne_new (hlt hbl) ge; have orw := Nat.le_trans bel.size ge; replace hcl := blk_u hcl bb; replace hz := blk_u hz bb; replace hm3 := blk_u hm3 bb; replace hbt := blk_u hbt bb; replace hbl := blk_u hbl bb; replace bel := bel.trans (bb.mono bel.size); have hrw := hh; clear hh lt ge bb) | ((with_reducible show wpList _ _ _ (⟨none, Op.store _ (.tmp 32) _, _, _, _, _⟩ :: _) _ _); refine wpList_store_part rfl 35 (.tmp 32) (.tmp 31) rfl g3 27 rfl [.slice (some ⟨g31, 0, none⟩) 2 2] rfl [.int .i64 1, .int .i64 0, .int .u32 xid, .int .i64 0, .int .i64 32768, .int .u8 0, .int .u8 0, .int .u8 0, .int .u8 0, .int .u8 0, .int .u8 0, .int .u8 0, .int .u8 0, .int .u8 0, .int .u8 0, .int .u8 0, .int .u8 0, .int .u8 0, .int .u8 0, .int .u8 0, .int .u8 0, .int .u8 m0, .int .u8 m1, .int .u8 m2, .int .u8 m3, .int .u8 m4, .int .u8 m5, .slice none 0 0] 37 hm3 (by simp) [.int .i64 1, .int .i64 0, .int .u32 xid, .int .i64 0, .int .i64 32768, .int .u8 0, .int .u8 0, .int .u8 0, .int .u8 0, .int .u8 0, .int .u8 0, .int .u8 0, .int .u8 0, .int .u8 0, .int .u8 0, .int .u8 0, .int .u8 0, .int .u8 0, .int .u8 0, .int .u8 0, .int .u8 0, .int .u8 m0, .int .u8 m1, .int .u8 m2, .int .u8 m3, .int .u8 m4, .int .u8 m5, .slice (some ⟨g31, 0, none⟩) 2 2] rfl (by kernel_rfl) (by rfl) ?_; intro w11 hq gr; replace hcl := blk_a hcl gr d_cl_m3; replace hz := blk_a hz gr d_z_m3; replace hbt := blk_a hbt gr (ne_symm d_m3_bt); replace hbl := blk_a hbl gr (ne_symm d_m3_bl); replace hrw := blk_a hrw gr (ne_symm d_m3_rw); replace bel := below_grown bel gr om3 bel.size; clear hm3; have hm3 := hq; clear hq gr; have R52 := Lib.hid (range_lit hm3 0 28 [.int .i64 1, .int .i64 0, .int .u32 xid, .int .i64 0, .int .i64 32768, .int .u8 0, .int .u8 0, .int .u8 0, .int .u8 0, .int .u8 0, .int .u8 0, .int .u8 0, .int .u8 0, .int .u8 0, .int .u8 0, .int .u8 0, .int .u8 0, .int .u8 0, .int .u8 0, .int .u8 0, .int .u8 0, .int .u8 m0, .int .u8 m1, .int .u8 m2, .int .u8 m3, .int .u8 m4, .int .u8 m5, .slice (some ⟨g31, 0, none⟩) 2 2] rfl)) | ((with_reducible show wpList _ _ _ (⟨some 52, _, _, _, _, _⟩ :: _) _ _); refine wpList_load_rng 37 (.tmp 3) rfl (by kernel_rfl) _ _ rfl _ R52.out _ Try.underlying37 rfl (by kernel_rfl) ?_) | ((with_reducible show wpList _ _ _ (⟨none, Op.store _ (.tmp 2) _, _, _, _, _⟩ :: _) _ _); refine wpList_store_blk rfl 37 (.tmp 2) (.tmp 52) rfl g2 rfl _ rfl _ 37 hz (by rfl) (by kernel_rfl) (by kernel_rfl) ?_; intro w12 hq gr; replace hcl := blk_a hcl gr d_cl_z; replace hm3 := blk_a hm3 gr (ne_symm d_z_m3); replace hbt := blk_a hbt gr (ne_symm d_z_bt); replace hbl := blk_a hbl gr (ne_symm d_z_bl); replace hrw := blk_a hrw gr (ne_symm d_z_rw); replace bel := below_grown bel gr oz bel.size; clear hz; have hz := hq; clear hq gr))
  try clear R52
  exact bodyPost_ret (results_cell_row' rfl _ _ _ _ _ _ _ rfl hz Try.underlying37 rfl (by kernel_rfl)) rfl ⟨_, _, _, _, _, rfl, os_two (x := ⟨53, some ⟨gT, 0, none⟩, 1, 1⟩) (y := ⟨55, some ⟨gL, 0, none⟩, 3, 3⟩) hrw (ob_one (x := 1) 53 hbt rfl (by decide)) (ob_three (x0 := 1) (x1 := 3) (x2 := 6) 55 hbl rfl rfl rfl (by decide)), rfl, bel⟩
set_option linter.unusedVariables false in
set_option linter.unusedSimpArgs false in
set_option maxRecDepth 100000 in
set_option maxHeartbeats 16000000 in
theorem lmsg_4 {lo gc : Nat} {m0 m1 m2 m3 m4 m5 now st xid sent wait tries a0 a1 a2 a3 k0 k1 k2 k3 r0 r1 r2 r3 s0 s1 s2 s3 un t1 t2 : Int} (w : World) (hT : Cl lo gc w #[.int .u8 m0, .int .u8 m1, .int .u8 m2, .int .u8 m3, .int .u8 m4, .int .u8 m5, .int .i64 now, .int .i64 st, .int .u32 xid, .int .i64 sent, .int .i64 wait, .int .i64 tries, .int .u8 a0, .int .u8 a1, .int .u8 a2, .int .u8 a3, .int .u8 k0, .int .u8 k1, .int .u8 k2, .int .u8 k3, .int .u8 r0, .int .u8 r1, .int .u8 r2, .int .u8 r3, .int .u8 s0, .int .u8 s1, .int .u8 s2, .int .u8 s3, .int .i64 un, .int .i64 t1, .int .i64 t2]) (h1 : (st == 1) = false) (h2 : (st == 2) = false) : Calls Try.prog 33 #[.pointer (some ⟨gc, 0, none⟩)] w fun e w' => ∃ A n c hs L, e = .returned (.agg #[.int .i64 1, .int .i64 0, .int .u32 xid, .int .i64 0, .int .i64 0, .int .u8 a0, .int .u8 a1, .int .u8 a2, .int .u8 a3, .int .u8 0, .int .u8 0, .int .u8 0, .int .u8 0, .int .u8 0, .int .u8 0, .int .u8 0, .int .u8 0, .int .u8 0, .int .u8 0, .int .u8 0, .int .u8 0, .int .u8 m0, .int .u8 m1, .int .u8 m2, .int .u8 m3, .int .u8 m4, .int .u8 m5, .slice A n c]) ∧ Opv w' A n c hs L ∧ typeL L = 3 ∧ Below w.heap.size w w' := by
  obtain ⟨hcl, _⟩ := hT
  have bel := Below.refl w.heap.size w
  go_enter Try.func33, Try.ntmps33
  go_wp2_with (first | ((with_reducible show wpList _ _ _ (⟨some 2, _, _, _, _, _⟩ :: _) _ _); refine wpList_new_a rfl 37 rfl #[.int .i64 0, .int .i64 0, .int .u32 0, .int .i64 0, .int .i64 0, .int .u8 0, .int .u8 0, .int .u8 0, .int .u8 0, .int .u8 0, .int .u8 0, .int .u8 0, .int .u8 0, .int .u8 0, .int .u8 0, .int .u8 0, .int .u8 0, .int .u8 0, .int .u8 0, .int .u8 0, .int .u8 0, .int .u8 0, .int .u8 0, .int .u8 0, .int .u8 0, .int .u8 0, .int .u8 0, .slice none 0 0] (by kernel_rfl) ?_; intro g2 w1 ge hh bb; have d_cl_z := ne_new (hlt hcl) ge; have oz := Nat.le_trans bel.size ge; replace hcl := blk_u hcl bb; replace bel := bel.trans (bb.mono bel.size); have hz := hh; clear hh ge bb))
  replace bel := bel.drew
  replace hcl : w1.drew.heap[gc]? = _ := hcl
  replace hz : w1.drew.heap[g2]? = _ := hz
  refine wp_region_held_drew (S := fun W => W.heap[gc]? = some (.cells #[.int .u8 m0, .int .u8 m1, .int .u8 m2, .int .u8 m3, .int .u8 m4, .int .u8 m5, .int .i64 now, .int .i64 st, .int .u32 xid, .int .i64 sent, .int .i64 wait, .int .i64 tries, .int .u8 a0, .int .u8 a1, .int .u8 a2, .int .u8 a3, .int .u8 k0, .int .u8 k1, .int .u8 k2, .int .u8 k3, .int .u8 r0, .int .u8 r1, .int .u8 r2, .int .u8 r3, .int .u8 s0, .int .u8 s1, .int .u8 s2, .int .u8 s3, .int .i64 un, .int .i64 t1, .int .i64 t2] 51 (0, 0))) (by kernel_rfl) hcl (fun hH => ?_)
  generalize w1.drew = w2 at bel hcl hz hH ⊢
  refine wpAnyH_take (i := 0) (v := ?_) rfl (by kernel_rfl) (by kernel_rfl) (by kernel_rfl) (fun _ _ _ h => h) (Or.inl ⟨by rfl, ?_⟩) hH ?_
  rotate_left
  · ((intro W hW; clear hW; go_simp) <;> with_reducible rfl)
  simp only [Act.put, List.getElem_toArray, List.getElem_cons_zero, List.setIfInBounds_toArray, List.set_cons_zero, List.set_cons_succ]
  refine wpAnyH_take (i := 1) (v := ?_) rfl (by kernel_rfl) (by kernel_rfl) (by kernel_rfl) (fun _ _ _ h => h) (Or.inl ⟨by rfl, ?_⟩) hH ?_
  rotate_left
  · ((intro W hW; clear hW; go_simp) <;> with_reducible rfl)
  simp only [Act.put, List.getElem_toArray, List.getElem_cons_zero, List.getElem_cons_succ, List.setIfInBounds_toArray, List.set_cons_zero, List.set_cons_succ]
  refine wpAnyH_take (i := 2) (v := ?_) rfl (by kernel_rfl) (by kernel_rfl) (by kernel_rfl) (fun _ _ _ h => h) (Or.inl ⟨by rfl, ?_⟩) hH ?_
  rotate_left
  · ((intro W hW; clear hW; go_simp) <;> with_reducible rfl)
  simp only [Act.put, List.getElem_toArray, List.getElem_cons_zero, List.getElem_cons_succ, List.setIfInBounds_toArray, List.set_cons_zero, List.set_cons_succ]
  refine wpAnyH_take (i := 3) (v := ?_) rfl (by kernel_rfl) (by kernel_rfl) (by kernel_rfl) (fun _ _ _ h => h) (Or.inl ⟨by rfl, ?_⟩) hH ?_
  rotate_left
  · ((intro W hW; have hk := cell_lit (hW) 8 _ rfl; clear hW; go_simp) <;> with_reducible rfl)
  simp only [Act.put, List.getElem_toArray, List.getElem_cons_zero, List.getElem_cons_succ, List.setIfInBounds_toArray, List.set_cons_zero, List.set_cons_succ]
  refine wpAnyH_take (i := 4) (v := ?_) rfl (by kernel_rfl) (by kernel_rfl) (by kernel_rfl) (fun _ _ _ h => h) (Or.inl ⟨by rfl, ?_⟩) hH ?_
  rotate_left
  · ((intro W hW; clear hW; go_simp) <;> with_reducible rfl)
  simp only [Act.put, List.getElem_toArray, List.getElem_cons_zero, List.getElem_cons_succ, List.setIfInBounds_toArray, List.set_cons_zero, List.set_cons_succ]
  refine wpAnyH_take (i := 5) (v := ?_) rfl (by kernel_rfl) (by kernel_rfl) (by kernel_rfl) (fun _ _ _ h => h) (Or.inl ⟨by rfl, ?_⟩) hH ?_
  rotate_left
  · ((intro W hW; clear hW; go_simp) <;> with_reducible rfl)
  simp only [Act.put, List.getElem_toArray, List.getElem_cons_zero, List.getElem_cons_succ, List.setIfInBounds_toArray, List.set_cons_zero, List.set_cons_succ]
  refine wpAnyH_take (i := 6) (v := ?_) rfl (by kernel_rfl) (by kernel_rfl) (by kernel_rfl) (fun _ _ _ h => h) (Or.inl ⟨by rfl, ?_⟩) hH ?_
  rotate_left
  · ((intro W hW; clear hW; go_simp) <;> with_reducible rfl)
  simp only [Act.put, List.getElem_toArray, List.getElem_cons_zero, List.getElem_cons_succ, List.setIfInBounds_toArray, List.set_cons_zero, List.set_cons_succ]
  refine wpAnyH_take (i := 7) (v := .agg #[.int .u8 m0, .int .u8 m1, .int .u8 m2, .int .u8 m3, .int .u8 m4, .int .u8 m5]) rfl (by kernel_rfl) (by kernel_rfl) (by kernel_rfl) (fun _ _ _ h => h) (yieldsIf_load_part (by kernel_rfl) 26 _ rfl gc 0 6 rfl _ 51 (0, 0) (fun W hW => hW) _ rfl _ Try.underlying26 rfl (by kernel_rfl)) hH ?_
  simp only [Act.put, List.getElem_toArray, List.getElem_cons_zero, List.getElem_cons_succ, List.setIfInBounds_toArray, List.set_cons_zero, List.set_cons_succ]
  refine wpAnyH_take (i := 8) (v := ?_) rfl (by kernel_rfl) (by kernel_rfl) (by kernel_rfl) (fun _ _ _ h => h) (Or.inl ⟨by rfl, ?_⟩) hH ?_
  rotate_left
  · ((intro W hW; clear hW; go_simp) <;> with_reducible rfl)
  simp only [Act.put, List.getElem_toArray, List.getElem_cons_zero, List.getElem_cons_succ, List.setIfInBounds_toArray, List.set_cons_zero, List.set_cons_succ]
  refine wpAnyH_ready (rs := [9]) (by kernel_rfl) (by simp) ?_
  refine AllReadyH.cons (o := _) rfl (fun K hK => ?_) AllReadyH.nil
  simp only [List.getElem_toArray, List.getElem_cons_zero, List.getElem_cons_succ]
  rw [if_pos (by rfl)]
  refine wp_new_a 37 rfl #[.int .i64 0, .int .i64 0, .int .u32 0, .int .i64 0, .int .i64 0, .int .u8 0, .int .u8 0, .int .u8 0, .int .u8 0, .int .u8 0, .int .u8 0, .int .u8 0, .int .u8 0, .int .u8 0, .int .u8 0, .int .u8 0, .int .u8 0, .int .u8 0, .int .u8 0, .int .u8 0, .int .u8 0, .int .u8 0, .int .u8 0, .int .u8 0, .int .u8 0, .int .u8 0, .int .u8 0, .slice none 0 0] (by kernel_rfl) ?_
  intro g3 w3 ge hh bb
  have d_cl_m3 := ne_new (hlt hcl) ge
  have d_z_m3 := ne_new (hlt hz) ge
  have om3 := Nat.le_trans bel.size ge
  replace hcl := blk_u hcl bb
  replace hz := blk_u hz bb
  replace bel := bel.trans (bb.mono bel.size)
  have hm3 := hh
  clear hh ge bb
  refine hK.out _ _ hcl (fun hH4 => ?_)
  clear hK K
  simp only [Act.put, List.setIfInBounds_toArray, List.set_cons_zero, List.set_cons_succ]
  refine wpAnyH_ready (rs := [10]) (by kernel_rfl) (by simp) ?_
  refine AllReadyH.cons (o := _) rfl (fun K hK => ?_) AllReadyH.nil
  simp only [List.getElem_toArray, List.getElem_cons_zero, List.getElem_cons_succ]
  rw [if_pos (by rfl)]
  refine wp_store_blk 37 (.tmp 3) (.tmp 12) rfl g3 rfl _ rfl _ 37 hm3 (by rfl) (by kernel_rfl) (by kernel_rfl) ?_
  intro w5 hq gr
  replace hcl := blk_a hcl gr d_cl_m3
  replace hz := blk_a hz gr d_z_m3
  replace bel := below_grown bel gr om3 bel.size
  clear hm3
  have hm3 := hq
  clear hq gr
  refine hK.out _ _ hcl (fun hH6 => ?_)
  clear hK K
  simp only [Act.put]
  refine wpAnyH_done (by kernel_rfl) ?_ _
  have R16 := cell_lit hcl 7 _ rfl
  have R21 := Lib.hid (range_lit hcl 12 4 [.int .u8 a0, .int .u8 a1, .int .u8 a2, .int .u8 a3] rfl)
  go_wp2_with (first | ((with_reducible show wpList _ _ _ (⟨some 21, _, _, _, _, _⟩ :: _) _ _); refine wpList_load_rng 34 (.tmp 20) rfl (by kernel_rfl) _ _ rfl _ R21.out _ Try.underlying34 rfl (by kernel_rfl) ?_) | ((with_reducible show wpList _ _ _ (⟨none, Op.store _ (.tmp 22) _, _, _, _, _⟩ :: _) _ _); refine wpList_store_part rfl 34 (.tmp 22) (.tmp 21) rfl g3 5 rfl [.int .u8 a0, .int .u8 a1, .int .u8 a2, .int .u8 a3] rfl [.int .i64 1, .int .i64 0, .int .u32 xid, .int .i64 0, .int .i64 0, .int .u8 0, .int .u8 0, .int .u8 0, .int .u8 0, .int .u8 0, .int .u8 0, .int .u8 0, .int .u8 0, .int .u8 0, .int .u8 0, .int .u8 0, .int .u8 0, .int .u8 0, .int .u8 0, .int .u8 0, .int .u8 0, .int .u8 m0, .int .u8 m1, .int .u8 m2, .int .u8 m3, .int .u8 m4, .int .u8 m5, .slice none 0 0] 37 hm3 (by simp) [.int .i64 1, .int .i64 0, .int .u32 xid, .int .i64 0, .int .i64 0, .int .u8 a0, .int .u8 a1, .int .u8 a2, .int .u8 a3, .int .u8 0, .int .u8 0, .int .u8 0, .int .u8 0, .int .u8 0, .int .u8 0, .int .u8 0, .int .u8 0, .int .u8 0, .int .u8 0, .int .u8 0, .int .u8 0, .int .u8 m0, .int .u8 m1, .int .u8 m2, .int .u8 m3, .int .u8 m4, .int .u8 m5, .slice none 0 0] rfl (by kernel_rfl) (by rfl) ?_; intro w7 hq gr; replace hcl := blk_a hcl gr d_cl_m3; replace hz := blk_a hz gr d_z_m3; replace bel := below_grown bel gr om3 bel.size; clear hm3; have hm3 := hq; clear hq gr))
  try clear R16
  try clear R21
  with_reducible refine (ltyp3 _).mono ?_
  rintro e w8 ⟨gT, rfl, ge, hh, b8⟩
  have d_cl_bt := ne_new (hlt hcl) ge
  have d_z_bt := ne_new (hlt hz) ge
  have d_m3_bt := ne_new (hlt hm3) ge
  have obt := Nat.le_trans bel.size ge
  replace hcl := blk_u hcl b8
  replace hz := blk_u hz b8
  replace hm3 := blk_u hm3 b8
  replace bel := bel.trans (b8.mono bel.size)
  have hbt := hh
  clear hh ge b8
  go_wp2_with (first | ((with_reducible show wpList _ _ _ (⟨some 24, _, _, _, _, _⟩ :: _) _ _); refine wpList_lit_n rfl 35 59 1 _ rfl #[.int .i64 53, .slice (some ⟨gT, 0, none⟩) 1 1] (.agg #[.int .i64 0, .slice none 0 0]) Try.underlying35 (by kernel_rfl) 2 (by kernel_rfl) (by decide) (by kernel_rfl) ?_; intro g24 w9 ge lt hh bb; have d_cl_rw := ne_new (hlt hcl) ge; have d_z_rw := ne_new (hlt hz) ge; have d_m3_rw := ne_new (hlt hm3) ge; have d_bt_rw := ne_new (hlt hbt) ge; have orw := Nat.le_trans bel.size ge; replace hcl := blk_u hcl bb; replace hz := blk_u hz bb; replace hm3 := blk_u hm3 bb; replace hbt := blk_u hbt bb; replace bel := bel.trans (bb.mono bel.size); have hrw := hh; clear hh lt ge bb) | ((with_reducible show wpList _ _ _ (⟨none, Op.store _ (.tmp 25) _, _, _, _, _⟩ :: _) _ _); refine wpList_store_part rfl 35 (.tmp 25) (.tmp 24) rfl g3 27 rfl [.slice (some ⟨g24, 0, none⟩) 1 1] rfl [.int .i64 1, .int .i64 0, .int .u32 xid, .int .i64 0, .int .i64 0, .int .u8 a0, .int .u8 a1, .int .u8 a2, .int .u8 a3, .int .u8 0, .int .u8 0, .int .u8 0, .int .u8 0, .int .u8 0, .int .u8 0, .int .u8 0, .int .u8 0, .int .u8 0, .int .u8 0, .int .u8 0, .int .u8 0, .int .u8 m0, .int .u8 m1, .int .u8 m2, .int .u8 m3, .int .u8 m4, .int .u8 m5, .slice none 0 0] 37 hm3 (by simp) [.int .i64 1, .int .i64 0, .int .u32 xid, .int .i64 0, .int .i64 0, .int .u8 a0, .int .u8 a1, .int .u8 a2, .int .u8 a3, .int .u8 0, .int .u8 0, .int .u8 0, .int .u8 0, .int .u8 0, .int .u8 0, .int .u8 0, .int .u8 0, .int .u8 0, .int .u8 0, .int .u8 0, .int .u8 0, .int .u8 m0, .int .u8 m1, .int .u8 m2, .int .u8 m3, .int .u8 m4, .int .u8 m5, .slice (some ⟨g24, 0, none⟩) 1 1] rfl (by kernel_rfl) (by rfl) ?_; intro w10 hq gr; replace hcl := blk_a hcl gr d_cl_m3; replace hz := blk_a hz gr d_z_m3; replace hbt := blk_a hbt gr (ne_symm d_m3_bt); replace hrw := blk_a hrw gr (ne_symm d_m3_rw); replace bel := below_grown bel gr om3 bel.size; clear hm3; have hm3 := hq; clear hq gr; have R52 := Lib.hid (range_lit hm3 0 28 [.int .i64 1, .int .i64 0, .int .u32 xid, .int .i64 0, .int .i64 0, .int .u8 a0, .int .u8 a1, .int .u8 a2, .int .u8 a3, .int .u8 0, .int .u8 0, .int .u8 0, .int .u8 0, .int .u8 0, .int .u8 0, .int .u8 0, .int .u8 0, .int .u8 0, .int .u8 0, .int .u8 0, .int .u8 0, .int .u8 m0, .int .u8 m1, .int .u8 m2, .int .u8 m3, .int .u8 m4, .int .u8 m5, .slice (some ⟨g24, 0, none⟩) 1 1] rfl)) | ((with_reducible show wpList _ _ _ (⟨some 52, _, _, _, _, _⟩ :: _) _ _); refine wpList_load_rng 37 (.tmp 3) rfl (by kernel_rfl) _ _ rfl _ R52.out _ Try.underlying37 rfl (by kernel_rfl) ?_) | ((with_reducible show wpList _ _ _ (⟨none, Op.store _ (.tmp 2) _, _, _, _, _⟩ :: _) _ _); refine wpList_store_blk rfl 37 (.tmp 2) (.tmp 52) rfl g2 rfl _ rfl _ 37 hz (by rfl) (by kernel_rfl) (by kernel_rfl) ?_; intro w11 hq gr; replace hcl := blk_a hcl gr d_cl_z; replace hm3 := blk_a hm3 gr (ne_symm d_z_m3); replace hbt := blk_a hbt gr (ne_symm d_z_bt); replace hrw := blk_a hrw gr (ne_symm d_z_rw); replace bel := below_grown bel gr oz bel.size; clear hz; have hz := hq; clear hq gr))
  try clear R52
  exact bodyPost_ret (results_cell_row' rfl _ _ _ _ _ _ _ rfl hz Try.underlying37 rfl (by kernel_rfl)) rfl ⟨_, _, _, _, _, rfl, os_one (x := ⟨53, some ⟨gT, 0, none⟩, 1, 1⟩) hrw (ob_one (x := 3) 53 hbt rfl (by decide)), rfl, bel⟩
set_option linter.unusedVariables false in
set_option linter.unusedSimpArgs false in
set_option maxRecDepth 100000 in
set_option maxHeartbeats 16000000 in
theorem lmsg_2 {lo gc : Nat} {m0 m1 m2 m3 m4 m5 now xid sent wait tries a0 a1 a2 a3 k0 k1 k2 k3 r0 r1 r2 r3 s0 s1 s2 s3 un t1 t2 : Int} (w : World) (hT : Cl lo gc w #[.int .u8 m0, .int .u8 m1, .int .u8 m2, .int .u8 m3, .int .u8 m4, .int .u8 m5, .int .i64 now, .int .i64 2, .int .u32 xid, .int .i64 sent, .int .i64 wait, .int .i64 tries, .int .u8 a0, .int .u8 a1, .int .u8 a2, .int .u8 a3, .int .u8 k0, .int .u8 k1, .int .u8 k2, .int .u8 k3, .int .u8 r0, .int .u8 r1, .int .u8 r2, .int .u8 r3, .int .u8 s0, .int .u8 s1, .int .u8 s2, .int .u8 s3, .int .i64 un, .int .i64 t1, .int .i64 t2]) (ha : By4 a0 a1 a2 a3) (hs : By4 s0 s1 s2 s3) : Calls Try.prog 33 #[.pointer (some ⟨gc, 0, none⟩)] w fun e w' => ∃ A n c hs L, e = .returned (.agg #[.int .i64 1, .int .i64 0, .int .u32 xid, .int .i64 0, .int .i64 32768, .int .u8 0, .int .u8 0, .int .u8 0, .int .u8 0, .int .u8 0, .int .u8 0, .int .u8 0, .int .u8 0, .int .u8 0, .int .u8 0, .int .u8 0, .int .u8 0, .int .u8 0, .int .u8 0, .int .u8 0, .int .u8 0, .int .u8 m0, .int .u8 m1, .int .u8 m2, .int .u8 m3, .int .u8 m4, .int .u8 m5, .slice A n c]) ∧ Opv w' A n c hs L ∧ typeL L = 3 ∧ Below w.heap.size w w' := by
  obtain ⟨hcl, _⟩ := hT
  obtain ⟨ba0, ba1, ba2, ba3, ha0_, ha1_, ha2_, ha3_⟩ := ha.ex
  have HA0_ := Lib.hid ha0_
  clear ha0_
  have HA1_ := Lib.hid ha1_
  clear ha1_
  have HA2_ := Lib.hid ha2_
  clear ha2_
  have HA3_ := Lib.hid ha3_
  clear ha3_
  obtain ⟨bs0, bs1, bs2, bs3, hs0_, hs1_, hs2_, hs3_⟩ := hs.ex
  have HS0_ := Lib.hid hs0_
  clear hs0_
  have HS1_ := Lib.hid hs1_
  clear hs1_
  have HS2_ := Lib.hid hs2_
  clear hs2_
  have HS3_ := Lib.hid hs3_
  clear hs3_
  have bel := Below.refl w.heap.size w
  go_enter Try.func33, Try.ntmps33
  go_wp2_with (first | ((with_reducible show wpList _ _ _ (⟨some 2, _, _, _, _, _⟩ :: _) _ _); refine wpList_new_a rfl 37 rfl #[.int .i64 0, .int .i64 0, .int .u32 0, .int .i64 0, .int .i64 0, .int .u8 0, .int .u8 0, .int .u8 0, .int .u8 0, .int .u8 0, .int .u8 0, .int .u8 0, .int .u8 0, .int .u8 0, .int .u8 0, .int .u8 0, .int .u8 0, .int .u8 0, .int .u8 0, .int .u8 0, .int .u8 0, .int .u8 0, .int .u8 0, .int .u8 0, .int .u8 0, .int .u8 0, .int .u8 0, .slice none 0 0] (by kernel_rfl) ?_; intro g2 w1 ge hh bb; have d_cl_z := ne_new (hlt hcl) ge; have oz := Nat.le_trans bel.size ge; replace hcl := blk_u hcl bb; replace bel := bel.trans (bb.mono bel.size); have hz := hh; clear hh ge bb))
  replace bel := bel.drew
  replace hcl : w1.drew.heap[gc]? = _ := hcl
  replace hz : w1.drew.heap[g2]? = _ := hz
  refine wp_region_held_drew (S := fun W => W.heap[gc]? = some (.cells #[.int .u8 m0, .int .u8 m1, .int .u8 m2, .int .u8 m3, .int .u8 m4, .int .u8 m5, .int .i64 now, .int .i64 2, .int .u32 xid, .int .i64 sent, .int .i64 wait, .int .i64 tries, .int .u8 a0, .int .u8 a1, .int .u8 a2, .int .u8 a3, .int .u8 k0, .int .u8 k1, .int .u8 k2, .int .u8 k3, .int .u8 r0, .int .u8 r1, .int .u8 r2, .int .u8 r3, .int .u8 s0, .int .u8 s1, .int .u8 s2, .int .u8 s3, .int .i64 un, .int .i64 t1, .int .i64 t2] 51 (0, 0))) (by kernel_rfl) hcl (fun hH => ?_)
  generalize w1.drew = w2 at bel hcl hz hH ⊢
  refine wpAnyH_take (i := 0) (v := ?_) rfl (by kernel_rfl) (by kernel_rfl) (by kernel_rfl) (fun _ _ _ h => h) (Or.inl ⟨by rfl, ?_⟩) hH ?_
  rotate_left
  · ((intro W hW; clear hW; go_simp) <;> with_reducible rfl)
  simp only [Act.put, List.getElem_toArray, List.getElem_cons_zero, List.setIfInBounds_toArray, List.set_cons_zero, List.set_cons_succ]
  refine wpAnyH_take (i := 1) (v := ?_) rfl (by kernel_rfl) (by kernel_rfl) (by kernel_rfl) (fun _ _ _ h => h) (Or.inl ⟨by rfl, ?_⟩) hH ?_
  rotate_left
  · ((intro W hW; clear hW; go_simp) <;> with_reducible rfl)
  simp only [Act.put, List.getElem_toArray, List.getElem_cons_zero, List.getElem_cons_succ, List.setIfInBounds_toArray, List.set_cons_zero, List.set_cons_succ]
  refine wpAnyH_take (i := 2) (v := ?_) rfl (by kernel_rfl) (by kernel_rfl) (by kernel_rfl) (fun _ _ _ h => h) (Or.inl ⟨by rfl, ?_⟩) hH ?_
  rotate_left
  · ((intro W hW; clear hW; go_simp) <;> with_reducible rfl)
  simp only [Act.put, List.getElem_toArray, List.getElem_cons_zero, List.getElem_cons_succ, List.setIfInBounds_toArray, List.set_cons_zero, List.set_cons_succ]
  refine wpAnyH_take (i := 3) (v := ?_) rfl (by kernel_rfl) (by kernel_rfl) (by kernel_rfl) (fun _ _ _ h => h) (Or.inl ⟨by rfl, ?_⟩) hH ?_
  rotate_left
  · ((intro W hW; have hk := cell_lit (hW) 8 _ rfl; clear hW; go_simp) <;> with_reducible rfl)
  simp only [Act.put, List.getElem_toArray, List.getElem_cons_zero, List.getElem_cons_succ, List.setIfInBounds_toArray, List.set_cons_zero, List.set_cons_succ]
  refine wpAnyH_take (i := 4) (v := ?_) rfl (by kernel_rfl) (by kernel_rfl) (by kernel_rfl) (fun _ _ _ h => h) (Or.inl ⟨by rfl, ?_⟩) hH ?_
  rotate_left
  · ((intro W hW; clear hW; go_simp) <;> with_reducible rfl)
  simp only [Act.put, List.getElem_toArray, List.getElem_cons_zero, List.getElem_cons_succ, List.setIfInBounds_toArray, List.set_cons_zero, List.set_cons_succ]
  refine wpAnyH_take (i := 5) (v := ?_) rfl (by kernel_rfl) (by kernel_rfl) (by kernel_rfl) (fun _ _ _ h => h) (Or.inl ⟨by rfl, ?_⟩) hH ?_
  rotate_left
  · ((intro W hW; clear hW; go_simp) <;> with_reducible rfl)
  simp only [Act.put, List.getElem_toArray, List.getElem_cons_zero, List.getElem_cons_succ, List.setIfInBounds_toArray, List.set_cons_zero, List.set_cons_succ]
  refine wpAnyH_take (i := 6) (v := ?_) rfl (by kernel_rfl) (by kernel_rfl) (by kernel_rfl) (fun _ _ _ h => h) (Or.inl ⟨by rfl, ?_⟩) hH ?_
  rotate_left
  · ((intro W hW; clear hW; go_simp) <;> with_reducible rfl)
  simp only [Act.put, List.getElem_toArray, List.getElem_cons_zero, List.getElem_cons_succ, List.setIfInBounds_toArray, List.set_cons_zero, List.set_cons_succ]
  refine wpAnyH_take (i := 7) (v := .agg #[.int .u8 m0, .int .u8 m1, .int .u8 m2, .int .u8 m3, .int .u8 m4, .int .u8 m5]) rfl (by kernel_rfl) (by kernel_rfl) (by kernel_rfl) (fun _ _ _ h => h) (yieldsIf_load_part (by kernel_rfl) 26 _ rfl gc 0 6 rfl _ 51 (0, 0) (fun W hW => hW) _ rfl _ Try.underlying26 rfl (by kernel_rfl)) hH ?_
  simp only [Act.put, List.getElem_toArray, List.getElem_cons_zero, List.getElem_cons_succ, List.setIfInBounds_toArray, List.set_cons_zero, List.set_cons_succ]
  refine wpAnyH_take (i := 8) (v := ?_) rfl (by kernel_rfl) (by kernel_rfl) (by kernel_rfl) (fun _ _ _ h => h) (Or.inl ⟨by rfl, ?_⟩) hH ?_
  rotate_left
  · ((intro W hW; clear hW; go_simp) <;> with_reducible rfl)
  simp only [Act.put, List.getElem_toArray, List.getElem_cons_zero, List.getElem_cons_succ, List.setIfInBounds_toArray, List.set_cons_zero, List.set_cons_succ]
  refine wpAnyH_ready (rs := [9]) (by kernel_rfl) (by simp) ?_
  refine AllReadyH.cons (o := _) rfl (fun K hK => ?_) AllReadyH.nil
  simp only [List.getElem_toArray, List.getElem_cons_zero, List.getElem_cons_succ]
  rw [if_pos (by rfl)]
  refine wp_new_a 37 rfl #[.int .i64 0, .int .i64 0, .int .u32 0, .int .i64 0, .int .i64 0, .int .u8 0, .int .u8 0, .int .u8 0, .int .u8 0, .int .u8 0, .int .u8 0, .int .u8 0, .int .u8 0, .int .u8 0, .int .u8 0, .int .u8 0, .int .u8 0, .int .u8 0, .int .u8 0, .int .u8 0, .int .u8 0, .int .u8 0, .int .u8 0, .int .u8 0, .int .u8 0, .int .u8 0, .int .u8 0, .slice none 0 0] (by kernel_rfl) ?_
  intro g3 w3 ge hh bb
  have d_cl_m3 := ne_new (hlt hcl) ge
  have d_z_m3 := ne_new (hlt hz) ge
  have om3 := Nat.le_trans bel.size ge
  replace hcl := blk_u hcl bb
  replace hz := blk_u hz bb
  replace bel := bel.trans (bb.mono bel.size)
  have hm3 := hh
  clear hh ge bb
  refine hK.out _ _ hcl (fun hH4 => ?_)
  clear hK K
  simp only [Act.put, List.setIfInBounds_toArray, List.set_cons_zero, List.set_cons_succ]
  refine wpAnyH_ready (rs := [10]) (by kernel_rfl) (by simp) ?_
  refine AllReadyH.cons (o := _) rfl (fun K hK => ?_) AllReadyH.nil
  simp only [List.getElem_toArray, List.getElem_cons_zero, List.getElem_cons_succ]
  rw [if_pos (by rfl)]
  refine wp_store_blk 37 (.tmp 3) (.tmp 12) rfl g3 rfl _ rfl _ 37 hm3 (by rfl) (by kernel_rfl) (by kernel_rfl) ?_
  intro w5 hq gr
  replace hcl := blk_a hcl gr d_cl_m3
  replace hz := blk_a hz gr d_z_m3
  replace bel := below_grown bel gr om3 bel.size
  clear hm3
  have hm3 := hq
  clear hq gr
  refine hK.out _ _ hcl (fun hH6 => ?_)
  clear hK K
  simp only [Act.put]
  refine wpAnyH_done (by kernel_rfl) ?_ _
  have R16 := cell_lit hcl 7 _ rfl
  go_wp2_with (first | ((with_reducible show wpList _ _ _ (⟨none, Op.store _ (.tmp 35) _, _, _, _, _⟩ :: _) _ _); refine wpList_store_part rfl 3 (.tmp 35) (.const (.int .i64 32768)) rfl g3 4 rfl [.int .i64 32768] rfl [.int .i64 1, .int .i64 0, .int .u32 xid, .int .i64 0, .int .i64 0, .int .u8 0, .int .u8 0, .int .u8 0, .int .u8 0, .int .u8 0, .int .u8 0, .int .u8 0, .int .u8 0, .int .u8 0, .int .u8 0, .int .u8 0, .int .u8 0, .int .u8 0, .int .u8 0, .int .u8 0, .int .u8 0, .int .u8 m0, .int .u8 m1, .int .u8 m2, .int .u8 m3, .int .u8 m4, .int .u8 m5, .slice none 0 0] 37 hm3 (by simp) [.int .i64 1, .int .i64 0, .int .u32 xid, .int .i64 0, .int .i64 32768, .int .u8 0, .int .u8 0, .int .u8 0, .int .u8 0, .int .u8 0, .int .u8 0, .int .u8 0, .int .u8 0, .int .u8 0, .int .u8 0, .int .u8 0, .int .u8 0, .int .u8 0, .int .u8 0, .int .u8 0, .int .u8 0, .int .u8 m0, .int .u8 m1, .int .u8 m2, .int .u8 m3, .int .u8 m4, .int .u8 m5, .slice none 0 0] rfl (by kernel_rfl) (by rfl) ?_; intro w7 hq gr; replace hcl := blk_a hcl gr d_cl_m3; replace hz := blk_a hz gr d_z_m3; replace bel := below_grown bel gr om3 bel.size; clear hm3; have hm3 := hq; clear hq gr))
  try clear R16
  replace bel := bel.drew
  replace hcl : w7.drew.heap[gc]? = _ := hcl
  replace hz : w7.drew.heap[g2]? = _ := hz
  replace hm3 : w7.drew.heap[g3]? = _ := hm3
  refine wp_region_held_drew (S := fun W => W.heap[gc]? = some (.cells #[.int .u8 m0, .int .u8 m1, .int .u8 m2, .int .u8 m3, .int .u8 m4, .int .u8 m5, .int .i64 now, .int .i64 2, .int .u32 xid, .int .i64 sent, .int .i64 wait, .int .i64 tries, .int .u8 a0, .int .u8 a1, .int .u8 a2, .int .u8 a3, .int .u8 k0, .int .u8 k1, .int .u8 k2, .int .u8 k3, .int .u8 r0, .int .u8 r1, .int .u8 r2, .int .u8 r3, .int .u8 s0, .int .u8 s1, .int .u8 s2, .int .u8 s3, .int .i64 un, .int .i64 t1, .int .i64 t2] 51 (0, 0))) (by kernel_rfl) hcl (fun hH => ?_)
  generalize w7.drew = w8 at bel hcl hz hm3 hH ⊢
  refine wpAnyH_take (i := 1) (v := ?_) rfl (by kernel_rfl) (by kernel_rfl) (by kernel_rfl) (fun _ _ _ h => h) (Or.inl ⟨by rfl, ?_⟩) hH ?_
  rotate_left
  · ((intro W hW; clear hW; go_simp) <;> with_reducible rfl)
  simp only [Act.put, List.getElem_toArray, List.getElem_cons_zero, List.getElem_cons_succ, List.setIfInBounds_toArray, List.set_cons_zero, List.set_cons_succ]
  refine wpAnyH_take (i := 2) (v := ?_) rfl (by kernel_rfl) (by kernel_rfl) (by kernel_rfl) (fun _ _ _ h => h) (Or.inl ⟨by rfl, ?_⟩) hH ?_
  rotate_left
  · ((intro W hW; clear hW; go_simp) <;> with_reducible rfl)
  simp only [Act.put, List.getElem_toArray, List.getElem_cons_zero, List.getElem_cons_succ, List.setIfInBounds_toArray, List.set_cons_zero, List.set_cons_succ]
  refine wpAnyH_take (i := 3) (v := ?_) rfl (by kernel_rfl) (by kernel_rfl) (by kernel_rfl) (fun _ _ _ h => h) (Or.inl ⟨by rfl, ?_⟩) hH ?_
  rotate_left
  · ((intro W hW; clear hW; go_simp) <;> with_reducible rfl)
  simp only [Act.put, List.getElem_toArray, List.getElem_cons_zero, List.getElem_cons_succ, List.setIfInBounds_toArray, List.set_cons_zero, List.set_cons_succ]
  refine wpAnyH_take (i := 4) (v := ?_) rfl (by kernel_rfl) (by kernel_rfl) (by kernel_rfl) (fun _ _ _ h => h) (Or.inl ⟨by rfl, ?_⟩) hH ?_
  rotate_left
  · ((intro W hW; clear hW; go_simp) <;> with_reducible rfl)
  simp only [Act.put, List.getElem_toArray, List.getElem_cons_zero, List.getElem_cons_succ, List.setIfInBounds_toArray, List.set_cons_zero, List.set_cons_succ]
  refine wpAnyH_take (i := 5) (v := .agg #[.int .u8 a0, .int .u8 a1, .int .u8 a2, .int .u8 a3]) rfl (by kernel_rfl) (by kernel_rfl) (by kernel_rfl) (fun _ _ _ h => h) (yieldsIf_load_part (by kernel_rfl) 34 _ rfl gc 12 4 rfl _ 51 (0, 0) (fun W hW => hW) _ rfl _ Try.underlying34 rfl (by kernel_rfl)) hH ?_
  simp only [Act.put, List.getElem_toArray, List.getElem_cons_zero, List.getElem_cons_succ, List.setIfInBounds_toArray, List.set_cons_zero, List.set_cons_succ]
  refine wpAnyH_take (i := 7) (v := ?_) rfl (by kernel_rfl) (by kernel_rfl) (by kernel_rfl) (fun _ _ _ h => h) (Or.inl ⟨by rfl, ?_⟩) hH ?_
  rotate_left
  · ((intro W hW; clear hW; go_simp) <;> with_reducible rfl)
  simp only [Act.put, List.getElem_toArray, List.getElem_cons_zero, List.getElem_cons_succ, List.setIfInBounds_toArray, List.set_cons_zero, List.set_cons_succ]
  refine wpAnyH_take (i := 8) (v := ?_) rfl (by kernel_rfl) (by kernel_rfl) (by kernel_rfl) (fun _ _ _ h => h) (Or.inl ⟨by rfl, ?_⟩) hH ?_
  rotate_left
  · ((intro W hW; clear hW; go_simp) <;> with_reducible rfl)
  simp only [Act.put, List.getElem_toArray, List.getElem_cons_zero, List.getElem_cons_succ, List.setIfInBounds_toArray, List.set_cons_zero, List.set_cons_succ]
  refine wpAnyH_take (i := 9) (v := ?_) rfl (by kernel_rfl) (by kernel_rfl) (by kernel_rfl) (fun _ _ _ h => h) (Or.inl ⟨by rfl, ?_⟩) hH ?_
  rotate_left
  · ((intro W hW; clear hW; go_simp) <;> with_reducible rfl)
  simp only [Act.put, List.getElem_toArray, List.getElem_cons_zero, List.getElem_cons_succ, List.setIfInBounds_toArray, List.set_cons_zero, List.set_cons_succ]
  refine wpAnyH_take (i := 10) (v := ?_) rfl (by kernel_rfl) (by kernel_rfl) (by kernel_rfl) (fun _ _ _ h => h) (Or.inl ⟨by rfl, ?_⟩) hH ?_
  rotate_left
  · ((intro W hW; clear hW; go_simp) <;> with_reducible rfl)
  simp only [Act.put, List.getElem_toArray, List.getElem_cons_zero, List.getElem_cons_succ, List.setIfInBounds_toArray, List.set_cons_zero, List.set_cons_succ]
  refine wpAnyH_take (i := 11) (v := .agg #[.int .u8 s0, .int .u8 s1, .int .u8 s2, .int .u8 s3]) rfl (by kernel_rfl) (by kernel_rfl) (by kernel_rfl) (fun _ _ _ h => h) (yieldsIf_load_part (by kernel_rfl) 34 _ rfl gc 24 4 rfl _ 51 (0, 0) (fun W hW => hW) _ rfl _ Try.underlying34 rfl (by kernel_rfl)) hH ?_
  simp only [Act.put, List.getElem_toArray, List.getElem_cons_zero, List.getElem_cons_succ, List.setIfInBounds_toArray, List.set_cons_zero, List.set_cons_succ]
  refine wpAnyH_ready (rs := [0]) (by kernel_rfl) (by simp) ?_
  refine AllReadyH.cons (o := _) rfl (fun K hK => ?_) AllReadyH.nil
  simp only [List.getElem_toArray, List.getElem_cons_zero]
  go_simp
  with_reducible refine (ltyp3 _).mono ?_
  rintro e w9 ⟨gT, rfl, ge, hh, b9⟩
  dsimp only
  have d_cl_bt := ne_new (hlt hcl) ge
  have d_z_bt := ne_new (hlt hz) ge
  have d_m3_bt := ne_new (hlt hm3) ge
  have obt := Nat.le_trans bel.size ge
  replace hcl := blk_u hcl b9
  replace hz := blk_u hz b9
  replace hm3 := blk_u hm3 b9
  replace bel := bel.trans (b9.mono bel.size)
  have hbt := hh
  clear hh ge b9
  refine hK.out _ _ hcl (fun hH10 => ?_)
  clear hK K
  refine wpAnyH_ready (rs := [6]) (by kernel_rfl) (by simp) ?_
  refine AllReadyH.cons (o := _) rfl (fun K hK => ?_) AllReadyH.nil
  simp only [List.getElem_toArray, List.getElem_cons_zero, List.getElem_cons_succ]
  go_simp
  with_reducible refine (laddr _).mono ?_
  rintro e w11 ⟨gA, rfl, ge, hh, b11⟩
  dsimp only
  have d_cl_ba := ne_new (hlt hcl) ge
  have d_z_ba := ne_new (hlt hz) ge
  have d_m3_ba := ne_new (hlt hm3) ge
  have d_bt_ba := ne_new (hlt hbt) ge
  have oba := Nat.le_trans bel.size ge
  replace hcl := blk_u hcl b11
  replace hz := blk_u hz b11
  replace hm3 := blk_u hm3 b11
  replace hbt := blk_u hbt b11
  replace bel := bel.trans (b11.mono bel.size)
  have hba := hh
  clear hh ge b11
  refine hK.out _ _ hcl (fun hH12 => ?_)
  clear hK K
  refine wpAnyH_ready (rs := [12]) (by kernel_rfl) (by simp) ?_
  refine AllReadyH.cons (o := _) rfl (fun K hK => ?_) AllReadyH.nil
  simp only [List.getElem_toArray, List.getElem_cons_zero, List.getElem_cons_succ]
  go_simp
  with_reducible refine (laddr _).mono ?_
  rintro e w13 ⟨gS, rfl, ge, hh, b13⟩
  dsimp only
  have d_cl_bs := ne_new (hlt hcl) ge
  have d_z_bs := ne_new (hlt hz) ge
  have d_m3_bs := ne_new (hlt hm3) ge
  have d_bt_bs := ne_new (hlt hbt) ge
  have d_ba_bs := ne_new (hlt hba) ge
  have obs := Nat.le_trans bel.size ge
  replace hcl := blk_u hcl b13
  replace hz := blk_u hz b13
  replace hm3 := blk_u hm3 b13
  replace hbt := blk_u hbt b13
  replace hba := blk_u hba b13
  replace bel := bel.trans (b13.mono bel.size)
  have hbs := hh
  clear hh ge b13
  refine hK.out _ _ hcl (fun hH14 => ?_)
  clear hK K
  refine wpAnyH_ready (rs := [13]) (by kernel_rfl) (by simp) ?_
  refine AllReadyH.cons (o := _) rfl (fun K hK => ?_) AllReadyH.nil
  simp only [List.getElem_toArray, List.getElem_cons_zero, List.getElem_cons_succ]
  go_simp
  with_reducible refine (llist _).mono ?_
  rintro e w15 ⟨gL, rfl, ge, hh, b15⟩
  dsimp only
  have d_cl_bl := ne_new (hlt hcl) ge
  have d_z_bl := ne_new (hlt hz) ge
  have d_m3_bl := ne_new (hlt hm3) ge
  have d_bt_bl := ne_new (hlt hbt) ge
  have d_ba_bl := ne_new (hlt hba) ge
  have d_bs_bl := ne_new (hlt hbs) ge
  have obl := Nat.le_trans bel.size ge
  replace hcl := blk_u hcl b15
  replace hz := blk_u hz b15
  replace hm3 := blk_u hm3 b15
  replace hbt := blk_u hbt b15
  replace hba := blk_u hba b15
  replace hbs := blk_u hbs b15
  replace bel := bel.trans (b15.mono bel.size)
  have hbl := hh
  clear hh ge b15
  refine hK.out _ _ hcl (fun hH16 => ?_)
  clear hK K
  refine wpAnyH_ready (rs := [14]) (by kernel_rfl) (by simp) ?_
  refine AllReadyH.cons (o := _) rfl (fun K hK => ?_) AllReadyH.nil
  simp only [List.getElem_toArray, List.getElem_cons_zero, List.getElem_cons_succ]
  rw [if_pos (by rfl)]
  refine wp_lit_n 35 59 4 _ rfl #[.int .i64 53, .slice (some ⟨gT, 0, none⟩) 1 1, .int .i64 50, .slice (some ⟨gA, 0, none⟩) 4 4, .int .i64 54, .slice (some ⟨gS, 0, none⟩) 4 4, .int .i64 55, .slice (some ⟨gL, 0, none⟩) 3 3] (.agg #[.int .i64 0, .slice none 0 0]) Try.underlying35 (by kernel_rfl) 2 (by kernel_rfl) (by decide) (by kernel_rfl) ?_
  intro g50 w17 ge lt hh bb
  have d_cl_rw := ne_new (hlt hcl) ge
  have d_z_rw := ne_new (hlt hz) ge
  have d_m3_rw := ne_new (hlt hm3) ge
  have d_bt_rw := ne_new (hlt hbt) ge
  have d_ba_rw := ne_new (hlt hba) ge
  have d_bs_rw := ne_new (hlt hbs) ge
  have d_bl_rw := ne_new (hlt hbl) ge
  have orw := Nat.le_trans bel.size ge
  replace hcl := blk_u hcl bb
  replace hz := blk_u hz bb
  replace hm3 := blk_u hm3 bb
  replace hbt := blk_u hbt bb
  replace hba := blk_u hba bb
  replace hbs := blk_u hbs bb
  replace hbl := blk_u hbl bb
  replace bel := bel.trans (bb.mono bel.size)
  have hrw := hh
  clear hh lt ge bb
  refine hK.out _ _ hcl (fun hH18 => ?_)
  clear hK K
  simp only [Act.put, List.setIfInBounds_toArray, List.set_cons_zero, List.set_cons_succ]
  refine wpAnyH_take (i := 15) (v := ?_) rfl (by kernel_rfl) (by kernel_rfl) (by kernel_rfl) (fun _ _ _ h => h) (Or.inl ⟨by rfl, ?_⟩) hH18 ?_
  rotate_left
  · ((intro W hW; clear hW; go_simp) <;> with_reducible rfl)
  simp only [Act.put, List.getElem_toArray, List.getElem_cons_zero, List.getElem_cons_succ, List.setIfInBounds_toArray, List.set_cons_zero, List.set_cons_succ]
  refine wpAnyH_ready (rs := [16]) (by kernel_rfl) (by simp) ?_
  refine AllReadyH.cons (o := _) rfl (fun K hK => ?_) AllReadyH.nil
  simp only [List.getElem_toArray, List.getElem_cons_zero, List.getElem_cons_succ]
  rw [if_pos (by rfl)]
  refine wp_store_part 35 (.tmp 51) (.tmp 50) rfl g3 27 rfl [.slice (some ⟨g50, 0, none⟩) 4 4] rfl [.int .i64 1, .int .i64 0, .int .u32 xid, .int .i64 0, .int .i64 32768, .int .u8 0, .int .u8 0, .int .u8 0, .int .u8 0, .int .u8 0, .int .u8 0, .int .u8 0, .int .u8 0, .int .u8 0, .int .u8 0, .int .u8 0, .int .u8 0, .int .u8 0, .int .u8 0, .int .u8 0, .int .u8 0, .int .u8 m0, .int .u8 m1, .int .u8 m2, .int .u8 m3, .int .u8 m4, .int .u8 m5, .slice none 0 0] 37 hm3 (by simp) [.int .i64 1, .int .i64 0, .int .u32 xid, .int .i64 0, .int .i64 32768, .int .u8 0, .int .u8 0, .int .u8 0, .int .u8 0, .int .u8 0, .int .u8 0, .int .u8 0, .int .u8 0, .int .u8 0, .int .u8 0, .int .u8 0, .int .u8 0, .int .u8 0, .int .u8 0, .int .u8 0, .int .u8 0, .int .u8 m0, .int .u8 m1, .int .u8 m2, .int .u8 m3, .int .u8 m4, .int .u8 m5, .slice (some ⟨g50, 0, none⟩) 4 4] rfl (by kernel_rfl) (by rfl) ?_
  intro w19 hq gr
  replace hcl := blk_a hcl gr d_cl_m3
  replace hz := blk_a hz gr d_z_m3
  replace hbt := blk_a hbt gr (ne_symm d_m3_bt)
  replace hba := blk_a hba gr (ne_symm d_m3_ba)
  replace hbs := blk_a hbs gr (ne_symm d_m3_bs)
  replace hbl := blk_a hbl gr (ne_symm d_m3_bl)
  replace hrw := blk_a hrw gr (ne_symm d_m3_rw)
  replace bel := below_grown bel gr om3 bel.size
  clear hm3
  have hm3 := hq
  clear hq gr
  refine hK.out _ _ hcl (fun hH20 => ?_)
  clear hK K
  simp only [Act.put]
  refine wpAnyH_done (by kernel_rfl) ?_ _
  have R52 := Lib.hid (range_lit hm3 0 28 [.int .i64 1, .int .i64 0, .int .u32 xid, .int .i64 0, .int .i64 32768, .int .u8 0, .int .u8 0, .int .u8 0, .int .u8 0, .int .u8 0, .int .u8 0, .int .u8 0, .int .u8 0, .int .u8 0, .int .u8 0, .int .u8 0, .int .u8 0, .int .u8 0, .int .u8 0, .int .u8 0, .int .u8 0, .int .u8 m0, .int .u8 m1, .int .u8 m2, .int .u8 m3, .int .u8 m4, .int .u8 m5, .slice (some ⟨g50, 0, none⟩) 4 4] rfl)
  go_wp2_with (first | ((with_reducible show wpList _ _ _ (⟨some 52, _, _, _, _, _⟩ :: _) _ _); refine wpList_load_rng 37 (.tmp 3) rfl (by kernel_rfl) _ _ rfl _ R52.out _ Try.underlying37 rfl (by kernel_rfl) ?_) | ((with_reducible show wpList _ _ _ (⟨none, Op.store _ (.tmp 2) _, _, _, _, _⟩ :: _) _ _); refine wpList_store_blk rfl 37 (.tmp 2) (.tmp 52) rfl g2 rfl _ rfl _ 37 hz (by rfl) (by kernel_rfl) (by kernel_rfl) ?_; intro w21 hq gr; replace hcl := blk_a hcl gr d_cl_z; replace hm3 := blk_a hm3 gr (ne_symm d_z_m3); replace hbt := blk_a hbt gr (ne_symm d_z_bt); replace hba := blk_a hba gr (ne_symm d_z_ba); replace hbs := blk_a hbs gr (ne_symm d_z_bs); replace hbl := blk_a hbl gr (ne_symm d_z_bl); replace hrw := blk_a hrw gr (ne_symm d_z_rw); replace bel := below_grown bel gr oz bel.size; clear hz; have hz := hq; clear hq gr))
  try clear R52
  exact bodyPost_ret (results_cell_row' rfl _ _ _ _ _ _ _ rfl hz Try.underlying37 rfl (by kernel_rfl)) rfl ⟨_, _, _, _, _, rfl, os_four (x := ⟨53, some ⟨gT, 0, none⟩, 1, 1⟩) (y := ⟨50, some ⟨gA, 0, none⟩, 4, 4⟩) (z := ⟨54, some ⟨gS, 0, none⟩, 4, 4⟩) (u := ⟨55, some ⟨gL, 0, none⟩, 3, 3⟩) hrw (ob_one (x := 3) 53 hbt rfl (by decide)) (ob_four 50 hba HA0_.out HA1_.out HA2_.out HA3_.out (by decide)) (ob_four 54 hbs HS0_.out HS1_.out HS2_.out HS3_.out (by decide)) (ob_three (x0 := 1) (x1 := 3) (x2 := 6) 55 hbl rfl rfl rfl (by decide)), rfl, bel⟩
set_option linter.unusedVariables false in
set_option linter.unusedSimpArgs false in
set_option maxRecDepth 100000 in
set_option maxHeartbeats 16000000 in
theorem lsend_1 {lo gc : Nat} {m0 m1 m2 m3 m4 m5 now xid sent wait tries a0 a1 a2 a3 k0 k1 k2 k3 r0 r1 r2 r3 s0 s1 s2 s3 un t1 t2 : Int} (w : World) (hT : Cl lo gc w #[.int .u8 m0, .int .u8 m1, .int .u8 m2, .int .u8 m3, .int .u8 m4, .int .u8 m5, .int .i64 now, .int .i64 1, .int .u32 xid, .int .i64 sent, .int .i64 wait, .int .i64 tries, .int .u8 a0, .int .u8 a1, .int .u8 a2, .int .u8 a3, .int .u8 k0, .int .u8 k1, .int .u8 k2, .int .u8 k3, .int .u8 r0, .int .u8 r1, .int .u8 r2, .int .u8 r3, .int .u8 s0, .int .u8 s1, .int .u8 s2, .int .u8 s3, .int .i64 un, .int .i64 t1, .int .i64 t2]) : Calls Try.prog 26 #[.pointer (some ⟨gc, 0, none⟩)] w fun e w' => ∃ g, e = .returned (.slice (some ⟨g, 0, none⟩) 1 1) ∧ Ms w' g [.int .i64 1, .int .i64 0, .int .u32 xid, .int .i64 0, .int .i64 32768, .int .u8 0, .int .u8 0, .int .u8 0, .int .u8 0, .int .u8 0, .int .u8 0, .int .u8 0, .int .u8 0, .int .u8 0, .int .u8 0, .int .u8 0, .int .u8 0, .int .u8 0, .int .u8 0, .int .u8 0, .int .u8 0, .int .u8 m0, .int .u8 m1, .int .u8 m2, .int .u8 m3, .int .u8 m4, .int .u8 m5] 1 ∧ Cl lo gc w' #[.int .u8 m0, .int .u8 m1, .int .u8 m2, .int .u8 m3, .int .u8 m4, .int .u8 m5, .int .i64 now, .int .i64 1, .int .u32 xid, .int .i64 now, .int .i64 wait, .int .i64 tries, .int .u8 a0, .int .u8 a1, .int .u8 a2, .int .u8 a3, .int .u8 k0, .int .u8 k1, .int .u8 k2, .int .u8 k3, .int .u8 r0, .int .u8 r1, .int .u8 r2, .int .u8 r3, .int .u8 s0, .int .u8 s1, .int .u8 s2, .int .u8 s3, .int .i64 un, .int .i64 t1, .int .i64 t2] ∧ Kt [51] w w' ∧ Below lo w w' := by
  obtain ⟨hcl, ocl⟩ := hT
  have hlo : lo ≤ w.heap.size := Nat.le_trans ocl (Nat.le_of_lt (hlt hcl))
  have kt := Kt.refl [51] w
  have bel := Below.refl lo w
  go_enter Try.func26, Try.ntmps26
  have R7 := cell_lit hcl 6 _ rfl
  go_wp2_with (first | ((with_reducible show wpList _ _ _ (⟨none, Op.store _ (.tmp 9) _, _, _, _, _⟩ :: _) _ _); refine wpList_store_part rfl 2 (.tmp 9) (.tmp 7) rfl gc 9 rfl [.int .i64 now] rfl [.int .u8 m0, .int .u8 m1, .int .u8 m2, .int .u8 m3, .int .u8 m4, .int .u8 m5, .int .i64 now, .int .i64 1, .int .u32 xid, .int .i64 sent, .int .i64 wait, .int .i64 tries, .int .u8 a0, .int .u8 a1, .int .u8 a2, .int .u8 a3, .int .u8 k0, .int .u8 k1, .int .u8 k2, .int .u8 k3, .int .u8 r0, .int .u8 r1, .int .u8 r2, .int .u8 r3, .int .u8 s0, .int .u8 s1, .int .u8 s2, .int .u8 s3, .int .i64 un, .int .i64 t1, .int .i64 t2] 51 hcl (by simp) [.int .u8 m0, .int .u8 m1, .int .u8 m2, .int .u8 m3, .int .u8 m4, .int .u8 m5, .int .i64 now, .int .i64 1, .int .u32 xid, .int .i64 now, .int .i64 wait, .int .i64 tries, .int .u8 a0, .int .u8 a1, .int .u8 a2, .int .u8 a3, .int .u8 k0, .int .u8 k1, .int .u8 k2, .int .u8 k3, .int .u8 r0, .int .u8 r1, .int .u8 r2, .int .u8 r3, .int .u8 s0, .int .u8 s1, .int .u8 s2, .int .u8 s3, .int .i64 un, .int .i64 t1, .int .i64 t2] rfl (by kernel_rfl) (by rfl) ?_; intro w1 hq gr; replace kt := kt.trans (kt_grown gr hcl (by simp)); replace bel := below_grown bel gr ocl (Nat.le_trans hlo bel.size); clear hcl; have hcl := hq; clear hq gr))
  try clear R7
  with_reducible refine (lmsg_1 _ (cl_of hcl)).mono ?_
  rintro e w2 ⟨A2, n2, c2, hs2, L2, rfl, hP, hty, b2⟩
  replace hcl := blk_u hcl b2
  replace kt := kt.trans (kt_below b2)
  replace bel := bel.trans (b2.mono (Nat.le_trans hlo bel.size))
  clear b2
  have HTY := Lib.hid hty
  clear hty
  go_wp2_with (first | ((with_reducible show wpList _ _ _ (⟨some 12, _, _, _, _, _⟩ :: _) _ _); refine wpList_lit_n rfl 28 37 1 _ rfl #[.int .i64 1, .int .i64 0, .int .u32 xid, .int .i64 0, .int .i64 32768, .int .u8 0, .int .u8 0, .int .u8 0, .int .u8 0, .int .u8 0, .int .u8 0, .int .u8 0, .int .u8 0, .int .u8 0, .int .u8 0, .int .u8 0, .int .u8 0, .int .u8 0, .int .u8 0, .int .u8 0, .int .u8 0, .int .u8 m0, .int .u8 m1, .int .u8 m2, .int .u8 m3, .int .u8 m4, .int .u8 m5, .slice A2 n2 c2] (.agg #[.int .i64 0, .int .i64 0, .int .u32 0, .int .i64 0, .int .i64 0, .int .u8 0, .int .u8 0, .int .u8 0, .int .u8 0, .int .u8 0, .int .u8 0, .int .u8 0, .int .u8 0, .int .u8 0, .int .u8 0, .int .u8 0, .int .u8 0, .int .u8 0, .int .u8 0, .int .u8 0, .int .u8 0, .int .u8 0, .int .u8 0, .int .u8 0, .int .u8 0, .int .u8 0, .int .u8 0, .slice none 0 0]) Try.underlying28 (by kernel_rfl) 28 (by kernel_rfl) (by decide) (by kernel_rfl) ?_; intro g12 w3 ge lt hh bb; have d_cl_lm := ne_new (hlt hcl) ge; have olm := Nat.le_trans (Nat.le_trans hlo bel.size) ge; have plm := Nat.le_trans bel.size ge; replace hcl := blk_u hcl bb; replace kt := kt.trans (kt_below bb); replace hP := hP.below bb; replace bel := bel.trans (bb.mono (Nat.le_trans hlo bel.size)); have hlm := hh; clear hh lt ge bb))
  go_ret
  exact ⟨_, rfl, ⟨_, _, _, _, _, hlm, hP, HTY.out⟩, ⟨hcl, ocl⟩, kt, bel⟩
set_option linter.unusedVariables false in
set_option linter.unusedSimpArgs false in
set_option maxRecDepth 100000 in
set_option maxHeartbeats 16000000 in
theorem lsend_2 {lo gc : Nat} {m0 m1 m2 m3 m4 m5 now xid sent wait tries a0 a1 a2 a3 k0 k1 k2 k3 r0 r1 r2 r3 s0 s1 s2 s3 un t1 t2 : Int} (w : World) (hT : Cl lo gc w #[.int .u8 m0, .int .u8 m1, .int .u8 m2, .int .u8 m3, .int .u8 m4, .int .u8 m5, .int .i64 now, .int .i64 2, .int .u32 xid, .int .i64 sent, .int .i64 wait, .int .i64 tries, .int .u8 a0, .int .u8 a1, .int .u8 a2, .int .u8 a3, .int .u8 k0, .int .u8 k1, .int .u8 k2, .int .u8 k3, .int .u8 r0, .int .u8 r1, .int .u8 r2, .int .u8 r3, .int .u8 s0, .int .u8 s1, .int .u8 s2, .int .u8 s3, .int .i64 un, .int .i64 t1, .int .i64 t2]) (ha : By4 a0 a1 a2 a3) (hs : By4 s0 s1 s2 s3) : Calls Try.prog 26 #[.pointer (some ⟨gc, 0, none⟩)] w fun e w' => ∃ g, e = .returned (.slice (some ⟨g, 0, none⟩) 1 1) ∧ Ms w' g [.int .i64 1, .int .i64 0, .int .u32 xid, .int .i64 0, .int .i64 32768, .int .u8 0, .int .u8 0, .int .u8 0, .int .u8 0, .int .u8 0, .int .u8 0, .int .u8 0, .int .u8 0, .int .u8 0, .int .u8 0, .int .u8 0, .int .u8 0, .int .u8 0, .int .u8 0, .int .u8 0, .int .u8 0, .int .u8 m0, .int .u8 m1, .int .u8 m2, .int .u8 m3, .int .u8 m4, .int .u8 m5] 3 ∧ Cl lo gc w' #[.int .u8 m0, .int .u8 m1, .int .u8 m2, .int .u8 m3, .int .u8 m4, .int .u8 m5, .int .i64 now, .int .i64 2, .int .u32 xid, .int .i64 now, .int .i64 wait, .int .i64 tries, .int .u8 a0, .int .u8 a1, .int .u8 a2, .int .u8 a3, .int .u8 k0, .int .u8 k1, .int .u8 k2, .int .u8 k3, .int .u8 r0, .int .u8 r1, .int .u8 r2, .int .u8 r3, .int .u8 s0, .int .u8 s1, .int .u8 s2, .int .u8 s3, .int .i64 un, .int .i64 t1, .int .i64 t2] ∧ Kt [51] w w' ∧ Below lo w w' := by
  obtain ⟨hcl, ocl⟩ := hT
  have hlo : lo ≤ w.heap.size := Nat.le_trans ocl (Nat.le_of_lt (hlt hcl))
  have kt := Kt.refl [51] w
  have bel := Below.refl lo w
  go_enter Try.func26, Try.ntmps26
  have R7 := cell_lit hcl 6 _ rfl
  go_wp2_with (first | ((with_reducible show wpList _ _ _ (⟨none, Op.store _ (.tmp 9) _, _, _, _, _⟩ :: _) _ _); refine wpList_store_part rfl 2 (.tmp 9) (.tmp 7) rfl gc 9 rfl [.int .i64 now] rfl [.int .u8 m0, .int .u8 m1, .int .u8 m2, .int .u8 m3, .int .u8 m4, .int .u8 m5, .int .i64 now, .int .i64 2, .int .u32 xid, .int .i64 sent, .int .i64 wait, .int .i64 tries, .int .u8 a0, .int .u8 a1, .int .u8 a2, .int .u8 a3, .int .u8 k0, .int .u8 k1, .int .u8 k2, .int .u8 k3, .int .u8 r0, .int .u8 r1, .int .u8 r2, .int .u8 r3, .int .u8 s0, .int .u8 s1, .int .u8 s2, .int .u8 s3, .int .i64 un, .int .i64 t1, .int .i64 t2] 51 hcl (by simp) [.int .u8 m0, .int .u8 m1, .int .u8 m2, .int .u8 m3, .int .u8 m4, .int .u8 m5, .int .i64 now, .int .i64 2, .int .u32 xid, .int .i64 now, .int .i64 wait, .int .i64 tries, .int .u8 a0, .int .u8 a1, .int .u8 a2, .int .u8 a3, .int .u8 k0, .int .u8 k1, .int .u8 k2, .int .u8 k3, .int .u8 r0, .int .u8 r1, .int .u8 r2, .int .u8 r3, .int .u8 s0, .int .u8 s1, .int .u8 s2, .int .u8 s3, .int .i64 un, .int .i64 t1, .int .i64 t2] rfl (by kernel_rfl) (by rfl) ?_; intro w1 hq gr; replace kt := kt.trans (kt_grown gr hcl (by simp)); replace bel := below_grown bel gr ocl (Nat.le_trans hlo bel.size); clear hcl; have hcl := hq; clear hq gr))
  try clear R7
  with_reducible refine (lmsg_2 _ (cl_of hcl) ha hs).mono ?_
  rintro e w2 ⟨A2, n2, c2, hs2, L2, rfl, hP, hty, b2⟩
  replace hcl := blk_u hcl b2
  replace kt := kt.trans (kt_below b2)
  replace bel := bel.trans (b2.mono (Nat.le_trans hlo bel.size))
  clear b2
  have HTY := Lib.hid hty
  clear hty
  go_wp2_with (first | ((with_reducible show wpList _ _ _ (⟨some 12, _, _, _, _, _⟩ :: _) _ _); refine wpList_lit_n rfl 28 37 1 _ rfl #[.int .i64 1, .int .i64 0, .int .u32 xid, .int .i64 0, .int .i64 32768, .int .u8 0, .int .u8 0, .int .u8 0, .int .u8 0, .int .u8 0, .int .u8 0, .int .u8 0, .int .u8 0, .int .u8 0, .int .u8 0, .int .u8 0, .int .u8 0, .int .u8 0, .int .u8 0, .int .u8 0, .int .u8 0, .int .u8 m0, .int .u8 m1, .int .u8 m2, .int .u8 m3, .int .u8 m4, .int .u8 m5, .slice A2 n2 c2] (.agg #[.int .i64 0, .int .i64 0, .int .u32 0, .int .i64 0, .int .i64 0, .int .u8 0, .int .u8 0, .int .u8 0, .int .u8 0, .int .u8 0, .int .u8 0, .int .u8 0, .int .u8 0, .int .u8 0, .int .u8 0, .int .u8 0, .int .u8 0, .int .u8 0, .int .u8 0, .int .u8 0, .int .u8 0, .int .u8 0, .int .u8 0, .int .u8 0, .int .u8 0, .int .u8 0, .int .u8 0, .slice none 0 0]) Try.underlying28 (by kernel_rfl) 28 (by kernel_rfl) (by decide) (by kernel_rfl) ?_; intro g12 w3 ge lt hh bb; have d_cl_lm := ne_new (hlt hcl) ge; have olm := Nat.le_trans (Nat.le_trans hlo bel.size) ge; have plm := Nat.le_trans bel.size ge; replace hcl := blk_u hcl bb; replace kt := kt.trans (kt_below bb); replace hP := hP.below bb; replace bel := bel.trans (bb.mono (Nat.le_trans hlo bel.size)); have hlm := hh; clear hh lt ge bb))
  go_ret
  exact ⟨_, rfl, ⟨_, _, _, _, _, hlm, hP, HTY.out⟩, ⟨hcl, ocl⟩, kt, bel⟩
set_option linter.unusedVariables false in
set_option linter.unusedSimpArgs false in
set_option maxRecDepth 100000 in
set_option maxHeartbeats 16000000 in
theorem lsend_4 {lo gc : Nat} {m0 m1 m2 m3 m4 m5 now st xid sent wait tries a0 a1 a2 a3 k0 k1 k2 k3 r0 r1 r2 r3 s0 s1 s2 s3 un t1 t2 : Int} (w : World) (hT : Cl lo gc w #[.int .u8 m0, .int .u8 m1, .int .u8 m2, .int .u8 m3, .int .u8 m4, .int .u8 m5, .int .i64 now, .int .i64 st, .int .u32 xid, .int .i64 sent, .int .i64 wait, .int .i64 tries, .int .u8 a0, .int .u8 a1, .int .u8 a2, .int .u8 a3, .int .u8 k0, .int .u8 k1, .int .u8 k2, .int .u8 k3, .int .u8 r0, .int .u8 r1, .int .u8 r2, .int .u8 r3, .int .u8 s0, .int .u8 s1, .int .u8 s2, .int .u8 s3, .int .i64 un, .int .i64 t1, .int .i64 t2]) (h1 : (st == 1) = false) (h2 : (st == 2) = false) : Calls Try.prog 26 #[.pointer (some ⟨gc, 0, none⟩)] w fun e w' => ∃ g, e = .returned (.slice (some ⟨g, 0, none⟩) 1 1) ∧ Ms w' g [.int .i64 1, .int .i64 0, .int .u32 xid, .int .i64 0, .int .i64 0, .int .u8 a0, .int .u8 a1, .int .u8 a2, .int .u8 a3, .int .u8 0, .int .u8 0, .int .u8 0, .int .u8 0, .int .u8 0, .int .u8 0, .int .u8 0, .int .u8 0, .int .u8 0, .int .u8 0, .int .u8 0, .int .u8 0, .int .u8 m0, .int .u8 m1, .int .u8 m2, .int .u8 m3, .int .u8 m4, .int .u8 m5] 3 ∧ Cl lo gc w' #[.int .u8 m0, .int .u8 m1, .int .u8 m2, .int .u8 m3, .int .u8 m4, .int .u8 m5, .int .i64 now, .int .i64 st, .int .u32 xid, .int .i64 now, .int .i64 wait, .int .i64 tries, .int .u8 a0, .int .u8 a1, .int .u8 a2, .int .u8 a3, .int .u8 k0, .int .u8 k1, .int .u8 k2, .int .u8 k3, .int .u8 r0, .int .u8 r1, .int .u8 r2, .int .u8 r3, .int .u8 s0, .int .u8 s1, .int .u8 s2, .int .u8 s3, .int .i64 un, .int .i64 t1, .int .i64 t2] ∧ Kt [51] w w' ∧ Below lo w w' := by
  obtain ⟨hcl, ocl⟩ := hT
  have hlo : lo ≤ w.heap.size := Nat.le_trans ocl (Nat.le_of_lt (hlt hcl))
  have kt := Kt.refl [51] w
  have bel := Below.refl lo w
  go_enter Try.func26, Try.ntmps26
  have R7 := cell_lit hcl 6 _ rfl
  go_wp2_with (first | ((with_reducible show wpList _ _ _ (⟨none, Op.store _ (.tmp 9) _, _, _, _, _⟩ :: _) _ _); refine wpList_store_part rfl 2 (.tmp 9) (.tmp 7) rfl gc 9 rfl [.int .i64 now] rfl [.int .u8 m0, .int .u8 m1, .int .u8 m2, .int .u8 m3, .int .u8 m4, .int .u8 m5, .int .i64 now, .int .i64 st, .int .u32 xid, .int .i64 sent, .int .i64 wait, .int .i64 tries, .int .u8 a0, .int .u8 a1, .int .u8 a2, .int .u8 a3, .int .u8 k0, .int .u8 k1, .int .u8 k2, .int .u8 k3, .int .u8 r0, .int .u8 r1, .int .u8 r2, .int .u8 r3, .int .u8 s0, .int .u8 s1, .int .u8 s2, .int .u8 s3, .int .i64 un, .int .i64 t1, .int .i64 t2] 51 hcl (by simp) [.int .u8 m0, .int .u8 m1, .int .u8 m2, .int .u8 m3, .int .u8 m4, .int .u8 m5, .int .i64 now, .int .i64 st, .int .u32 xid, .int .i64 now, .int .i64 wait, .int .i64 tries, .int .u8 a0, .int .u8 a1, .int .u8 a2, .int .u8 a3, .int .u8 k0, .int .u8 k1, .int .u8 k2, .int .u8 k3, .int .u8 r0, .int .u8 r1, .int .u8 r2, .int .u8 r3, .int .u8 s0, .int .u8 s1, .int .u8 s2, .int .u8 s3, .int .i64 un, .int .i64 t1, .int .i64 t2] rfl (by kernel_rfl) (by rfl) ?_; intro w1 hq gr; replace kt := kt.trans (kt_grown gr hcl (by simp)); replace bel := below_grown bel gr ocl (Nat.le_trans hlo bel.size); clear hcl; have hcl := hq; clear hq gr))
  try clear R7
  with_reducible refine (lmsg_4 _ (cl_of hcl) h1 h2).mono ?_
  rintro e w2 ⟨A2, n2, c2, hs2, L2, rfl, hP, hty, b2⟩
  replace hcl := blk_u hcl b2
  replace kt := kt.trans (kt_below b2)
  replace bel := bel.trans (b2.mono (Nat.le_trans hlo bel.size))
  clear b2
  have HTY := Lib.hid hty
  clear hty
  go_wp2_with (first | ((with_reducible show wpList _ _ _ (⟨some 12, _, _, _, _, _⟩ :: _) _ _); refine wpList_lit_n rfl 28 37 1 _ rfl #[.int .i64 1, .int .i64 0, .int .u32 xid, .int .i64 0, .int .i64 0, .int .u8 a0, .int .u8 a1, .int .u8 a2, .int .u8 a3, .int .u8 0, .int .u8 0, .int .u8 0, .int .u8 0, .int .u8 0, .int .u8 0, .int .u8 0, .int .u8 0, .int .u8 0, .int .u8 0, .int .u8 0, .int .u8 0, .int .u8 m0, .int .u8 m1, .int .u8 m2, .int .u8 m3, .int .u8 m4, .int .u8 m5, .slice A2 n2 c2] (.agg #[.int .i64 0, .int .i64 0, .int .u32 0, .int .i64 0, .int .i64 0, .int .u8 0, .int .u8 0, .int .u8 0, .int .u8 0, .int .u8 0, .int .u8 0, .int .u8 0, .int .u8 0, .int .u8 0, .int .u8 0, .int .u8 0, .int .u8 0, .int .u8 0, .int .u8 0, .int .u8 0, .int .u8 0, .int .u8 0, .int .u8 0, .int .u8 0, .int .u8 0, .int .u8 0, .int .u8 0, .slice none 0 0]) Try.underlying28 (by kernel_rfl) 28 (by kernel_rfl) (by decide) (by kernel_rfl) ?_; intro g12 w3 ge lt hh bb; have d_cl_lm := ne_new (hlt hcl) ge; have olm := Nat.le_trans (Nat.le_trans hlo bel.size) ge; have plm := Nat.le_trans bel.size ge; replace hcl := blk_u hcl bb; replace kt := kt.trans (kt_below bb); replace hP := hP.below bb; replace bel := bel.trans (bb.mono (Nat.le_trans hlo bel.size)); have hlm := hh; clear hh lt ge bb))
  go_ret
  exact ⟨_, rfl, ⟨_, _, _, _, _, hlm, hP, HTY.out⟩, ⟨hcl, ocl⟩, kt, bel⟩
set_option linter.unusedVariables false in
set_option linter.unusedSimpArgs false in
set_option maxRecDepth 100000 in
set_option maxHeartbeats 16000000 in
theorem lenter_1 {lo gc : Nat} {m0 m1 m2 m3 m4 m5 now st xid sent wait tries a0 a1 a2 a3 k0 k1 k2 k3 r0 r1 r2 r3 s0 s1 s2 s3 un t1 t2 : Int} (w : World) (hT : Cl lo gc w #[.int .u8 m0, .int .u8 m1, .int .u8 m2, .int .u8 m3, .int .u8 m4, .int .u8 m5, .int .i64 now, .int .i64 st, .int .u32 xid, .int .i64 sent, .int .i64 wait, .int .i64 tries, .int .u8 a0, .int .u8 a1, .int .u8 a2, .int .u8 a3, .int .u8 k0, .int .u8 k1, .int .u8 k2, .int .u8 k3, .int .u8 r0, .int .u8 r1, .int .u8 r2, .int .u8 r3, .int .u8 s0, .int .u8 s1, .int .u8 s2, .int .u8 s3, .int .i64 un, .int .i64 t1, .int .i64 t2]) : Calls Try.prog 24 #[.pointer (some ⟨gc, 0, none⟩), .int .i64 1] w fun e w' => ∃ g, e = .returned (.slice (some ⟨g, 0, none⟩) 1 1) ∧ Ms w' g [.int .i64 1, .int .i64 0, .int .u32 xid, .int .i64 0, .int .i64 32768, .int .u8 0, .int .u8 0, .int .u8 0, .int .u8 0, .int .u8 0, .int .u8 0, .int .u8 0, .int .u8 0, .int .u8 0, .int .u8 0, .int .u8 0, .int .u8 0, .int .u8 0, .int .u8 0, .int .u8 0, .int .u8 0, .int .u8 m0, .int .u8 m1, .int .u8 m2, .int .u8 m3, .int .u8 m4, .int .u8 m5] 1 ∧ Cl lo gc w' #[.int .u8 m0, .int .u8 m1, .int .u8 m2, .int .u8 m3, .int .u8 m4, .int .u8 m5, .int .i64 now, .int .i64 1, .int .u32 xid, .int .i64 now, .int .i64 wait, .int .i64 tries, .int .u8 a0, .int .u8 a1, .int .u8 a2, .int .u8 a3, .int .u8 k0, .int .u8 k1, .int .u8 k2, .int .u8 k3, .int .u8 r0, .int .u8 r1, .int .u8 r2, .int .u8 r3, .int .u8 s0, .int .u8 s1, .int .u8 s2, .int .u8 s3, .int .i64 un, .int .i64 t1, .int .i64 t2] ∧ Kt [51] w w' ∧ Below lo w w' := by
  obtain ⟨hcl, ocl⟩ := hT
  have hlo : lo ≤ w.heap.size := Nat.le_trans ocl (Nat.le_of_lt (hlt hcl))
  have kt := Kt.refl [51] w
  have bel := Below.refl lo w
  go_enter Try.func24, Try.ntmps24
  go_wp2_with (first | ((with_reducible show wpList _ _ _ (⟨none, Op.store _ (.tmp 8) _, _, _, _, _⟩ :: _) _ _); refine wpList_store_part rfl 3 (.tmp 8) (.tmp 6) rfl gc 7 rfl [.int .i64 1] rfl [.int .u8 m0, .int .u8 m1, .int .u8 m2, .int .u8 m3, .int .u8 m4, .int .u8 m5, .int .i64 now, .int .i64 st, .int .u32 xid, .int .i64 sent, .int .i64 wait, .int .i64 tries, .int .u8 a0, .int .u8 a1, .int .u8 a2, .int .u8 a3, .int .u8 k0, .int .u8 k1, .int .u8 k2, .int .u8 k3, .int .u8 r0, .int .u8 r1, .int .u8 r2, .int .u8 r3, .int .u8 s0, .int .u8 s1, .int .u8 s2, .int .u8 s3, .int .i64 un, .int .i64 t1, .int .i64 t2] 51 hcl (by simp) [.int .u8 m0, .int .u8 m1, .int .u8 m2, .int .u8 m3, .int .u8 m4, .int .u8 m5, .int .i64 now, .int .i64 1, .int .u32 xid, .int .i64 sent, .int .i64 wait, .int .i64 tries, .int .u8 a0, .int .u8 a1, .int .u8 a2, .int .u8 a3, .int .u8 k0, .int .u8 k1, .int .u8 k2, .int .u8 k3, .int .u8 r0, .int .u8 r1, .int .u8 r2, .int .u8 r3, .int .u8 s0, .int .u8 s1, .int .u8 s2, .int .u8 s3, .int .i64 un, .int .i64 t1, .int .i64 t2] rfl (by kernel_rfl) (by rfl) ?_; intro w1 hq gr; replace kt := kt.trans (kt_grown gr hcl (by simp)); replace bel := below_grown bel gr ocl (Nat.le_trans hlo bel.size); clear hcl; have hcl := hq; clear hq gr))
  go_wp2_with fail
  have hT : Cl lo gc w1 _ := ⟨hcl, ocl⟩
  clear hcl
  with_reducible refine (lsend_1 _ hT).mono ?_
  rintro e w2 ⟨gm, rfl, hm, hT_, k_, bb⟩
  replace kt := kt.trans k_
  clear hT
  have hT := hT_
  replace bel := bel.trans bb
  clear bb k_ hT_
  go_wp2_with fail
  go_ret
  exact ⟨_, rfl, hm, hT, kt, bel⟩
set_option linter.unusedVariables false in
set_option linter.unusedSimpArgs false in
set_option maxRecDepth 100000 in
set_option maxHeartbeats 16000000 in
theorem lenter_2 {lo gc : Nat} {m0 m1 m2 m3 m4 m5 now st xid sent wait tries a0 a1 a2 a3 k0 k1 k2 k3 r0 r1 r2 r3 s0 s1 s2 s3 un t1 t2 : Int} (w : World) (hT : Cl lo gc w #[.int .u8 m0, .int .u8 m1, .int .u8 m2, .int .u8 m3, .int .u8 m4, .int .u8 m5, .int .i64 now, .int .i64 st, .int .u32 xid, .int .i64 sent, .int .i64 wait, .int .i64 tries, .int .u8 a0, .int .u8 a1, .int .u8 a2, .int .u8 a3, .int .u8 k0, .int .u8 k1, .int .u8 k2, .int .u8 k3, .int .u8 r0, .int .u8 r1, .int .u8 r2, .int .u8 r3, .int .u8 s0, .int .u8 s1, .int .u8 s2, .int .u8 s3, .int .i64 un, .int .i64 t1, .int .i64 t2]) (ha : By4 a0 a1 a2 a3) (hs : By4 s0 s1 s2 s3) : Calls Try.prog 24 #[.pointer (some ⟨gc, 0, none⟩), .int .i64 2] w fun e w' => ∃ g, e = .returned (.slice (some ⟨g, 0, none⟩) 1 1) ∧ Ms w' g [.int .i64 1, .int .i64 0, .int .u32 xid, .int .i64 0, .int .i64 32768, .int .u8 0, .int .u8 0, .int .u8 0, .int .u8 0, .int .u8 0, .int .u8 0, .int .u8 0, .int .u8 0, .int .u8 0, .int .u8 0, .int .u8 0, .int .u8 0, .int .u8 0, .int .u8 0, .int .u8 0, .int .u8 0, .int .u8 m0, .int .u8 m1, .int .u8 m2, .int .u8 m3, .int .u8 m4, .int .u8 m5] 3 ∧ Cl lo gc w' #[.int .u8 m0, .int .u8 m1, .int .u8 m2, .int .u8 m3, .int .u8 m4, .int .u8 m5, .int .i64 now, .int .i64 2, .int .u32 xid, .int .i64 now, .int .i64 wait, .int .i64 tries, .int .u8 a0, .int .u8 a1, .int .u8 a2, .int .u8 a3, .int .u8 k0, .int .u8 k1, .int .u8 k2, .int .u8 k3, .int .u8 r0, .int .u8 r1, .int .u8 r2, .int .u8 r3, .int .u8 s0, .int .u8 s1, .int .u8 s2, .int .u8 s3, .int .i64 un, .int .i64 t1, .int .i64 t2] ∧ Kt [51] w w' ∧ Below lo w w' := by
  obtain ⟨hcl, ocl⟩ := hT
  have hlo : lo ≤ w.heap.size := Nat.le_trans ocl (Nat.le_of_lt (hlt hcl))
  have kt := Kt.refl [51] w
  have bel := Below.refl lo w
  go_enter Try.func24, Try.ntmps24
  go_wp2_with (first | ((with_reducible show wpList _ _ _ (⟨none, Op.store _ (.tmp 8) _, _, _, _, _⟩ :: _) _ _); refine wpList_store_part rfl 3 (.tmp 8) (.tmp 6) rfl gc 7 rfl [.int .i64 2] rfl [.int .u8 m0, .int .u8 m1, .int .u8 m2, .int .u8 m3, .int .u8 m4, .int .u8 m5, .int .i64 now, .int .i64 st, .int .u32 xid, .int .i64 sent, .int .i64 wait, .int .i64 tries, .int .u8 a0, .int .u8 a1, .int .u8 a2, .int .u8 a3, .int .u8 k0, .int .u8 k1, .int .u8 k2, .int .u8 k3, .int .u8 r0, .int .u8 r1, .int .u8 r2, .int .u8 r3, .int .u8 s0, .int .u8 s1, .int .u8 s2, .int .u8 s3, .int .i64 un, .int .i64 t1, .int .i64 t2] 51 hcl (by simp) [.int .u8 m0, .int .u8 m1, .int .u8 m2, .int .u8 m3, .int .u8 m4, .int .u8 m5, .int .i64 now, .int .i64 2, .int .u32 xid, .int .i64 sent, .int .i64 wait, .int .i64 tries, .int .u8 a0, .int .u8 a1, .int .u8 a2, .int .u8 a3, .int .u8 k0, .int .u8 k1, .int .u8 k2, .int .u8 k3, .int .u8 r0, .int .u8 r1, .int .u8 r2, .int .u8 r3, .int .u8 s0, .int .u8 s1, .int .u8 s2, .int .u8 s3, .int .i64 un, .int .i64 t1, .int .i64 t2] rfl (by kernel_rfl) (by rfl) ?_; intro w1 hq gr; replace kt := kt.trans (kt_grown gr hcl (by simp)); replace bel := below_grown bel gr ocl (Nat.le_trans hlo bel.size); clear hcl; have hcl := hq; clear hq gr))
  go_wp2_with fail
  have hT : Cl lo gc w1 _ := ⟨hcl, ocl⟩
  clear hcl
  with_reducible refine (lsend_2 _ hT ha hs).mono ?_
  rintro e w2 ⟨gm, rfl, hm, hT_, k_, bb⟩
  replace kt := kt.trans k_
  clear hT
  have hT := hT_
  replace bel := bel.trans bb
  clear bb k_ hT_
  go_wp2_with fail
  go_ret
  exact ⟨_, rfl, hm, hT, kt, bel⟩
set_option linter.unusedVariables false in
set_option linter.unusedSimpArgs false in
set_option maxRecDepth 100000 in
set_option maxHeartbeats 16000000 in
theorem lenter_4 {lo gc : Nat} {m0 m1 m2 m3 m4 m5 now st xid sent wait tries a0 a1 a2 a3 k0 k1 k2 k3 r0 r1 r2 r3 s0 s1 s2 s3 un t1 t2 : Int} (w : World) (hT : Cl lo gc w #[.int .u8 m0, .int .u8 m1, .int .u8 m2, .int .u8 m3, .int .u8 m4, .int .u8 m5, .int .i64 now, .int .i64 st, .int .u32 xid, .int .i64 sent, .int .i64 wait, .int .i64 tries, .int .u8 a0, .int .u8 a1, .int .u8 a2, .int .u8 a3, .int .u8 k0, .int .u8 k1, .int .u8 k2, .int .u8 k3, .int .u8 r0, .int .u8 r1, .int .u8 r2, .int .u8 r3, .int .u8 s0, .int .u8 s1, .int .u8 s2, .int .u8 s3, .int .i64 un, .int .i64 t1, .int .i64 t2]) : Calls Try.prog 24 #[.pointer (some ⟨gc, 0, none⟩), .int .i64 4] w fun e w' => ∃ g, e = .returned (.slice (some ⟨g, 0, none⟩) 1 1) ∧ Ms w' g [.int .i64 1, .int .i64 0, .int .u32 xid, .int .i64 0, .int .i64 0, .int .u8 a0, .int .u8 a1, .int .u8 a2, .int .u8 a3, .int .u8 0, .int .u8 0, .int .u8 0, .int .u8 0, .int .u8 0, .int .u8 0, .int .u8 0, .int .u8 0, .int .u8 0, .int .u8 0, .int .u8 0, .int .u8 0, .int .u8 m0, .int .u8 m1, .int .u8 m2, .int .u8 m3, .int .u8 m4, .int .u8 m5] 3 ∧ Cl lo gc w' #[.int .u8 m0, .int .u8 m1, .int .u8 m2, .int .u8 m3, .int .u8 m4, .int .u8 m5, .int .i64 now, .int .i64 4, .int .u32 xid, .int .i64 now, .int .i64 wait, .int .i64 tries, .int .u8 a0, .int .u8 a1, .int .u8 a2, .int .u8 a3, .int .u8 k0, .int .u8 k1, .int .u8 k2, .int .u8 k3, .int .u8 r0, .int .u8 r1, .int .u8 r2, .int .u8 r3, .int .u8 s0, .int .u8 s1, .int .u8 s2, .int .u8 s3, .int .i64 un, .int .i64 t1, .int .i64 t2] ∧ Kt [51] w w' ∧ Below lo w w' := by
  obtain ⟨hcl, ocl⟩ := hT
  have hlo : lo ≤ w.heap.size := Nat.le_trans ocl (Nat.le_of_lt (hlt hcl))
  have kt := Kt.refl [51] w
  have bel := Below.refl lo w
  go_enter Try.func24, Try.ntmps24
  go_wp2_with (first | ((with_reducible show wpList _ _ _ (⟨none, Op.store _ (.tmp 8) _, _, _, _, _⟩ :: _) _ _); refine wpList_store_part rfl 3 (.tmp 8) (.tmp 6) rfl gc 7 rfl [.int .i64 4] rfl [.int .u8 m0, .int .u8 m1, .int .u8 m2, .int .u8 m3, .int .u8 m4, .int .u8 m5, .int .i64 now, .int .i64 st, .int .u32 xid, .int .i64 sent, .int .i64 wait, .int .i64 tries, .int .u8 a0, .int .u8 a1, .int .u8 a2, .int .u8 a3, .int .u8 k0, .int .u8 k1, .int .u8 k2, .int .u8 k3, .int .u8 r0, .int .u8 r1, .int .u8 r2, .int .u8 r3, .int .u8 s0, .int .u8 s1, .int .u8 s2, .int .u8 s3, .int .i64 un, .int .i64 t1, .int .i64 t2] 51 hcl (by simp) [.int .u8 m0, .int .u8 m1, .int .u8 m2, .int .u8 m3, .int .u8 m4, .int .u8 m5, .int .i64 now, .int .i64 4, .int .u32 xid, .int .i64 sent, .int .i64 wait, .int .i64 tries, .int .u8 a0, .int .u8 a1, .int .u8 a2, .int .u8 a3, .int .u8 k0, .int .u8 k1, .int .u8 k2, .int .u8 k3, .int .u8 r0, .int .u8 r1, .int .u8 r2, .int .u8 r3, .int .u8 s0, .int .u8 s1, .int .u8 s2, .int .u8 s3, .int .i64 un, .int .i64 t1, .int .i64 t2] rfl (by kernel_rfl) (by rfl) ?_; intro w1 hq gr; replace kt := kt.trans (kt_grown gr hcl (by simp)); replace bel := below_grown bel gr ocl (Nat.le_trans hlo bel.size); clear hcl; have hcl := hq; clear hq gr))
  go_wp2_with fail
  have hT : Cl lo gc w1 _ := ⟨hcl, ocl⟩
  clear hcl
  with_reducible refine (lsend_4 _ hT (by decide) (by decide)).mono ?_
  rintro e w2 ⟨gm, rfl, hm, hT_, k_, bb⟩
  replace kt := kt.trans k_
  clear hT
  have hT := hT_
  replace bel := bel.trans bb
  clear bb k_ hT_
  go_wp2_with fail
  go_ret
  exact ⟨_, rfl, hm, hT, kt, bel⟩
set_option linter.unusedVariables false in
set_option linter.unusedSimpArgs false in
set_option maxRecDepth 100000 in
set_option maxHeartbeats 16000000 in
theorem lenter_5 {lo gc : Nat} {m0 m1 m2 m3 m4 m5 now st xid sent wait tries a0 a1 a2 a3 k0 k1 k2 k3 r0 r1 r2 r3 s0 s1 s2 s3 un t1 t2 : Int} (w : World) (hT : Cl lo gc w #[.int .u8 m0, .int .u8 m1, .int .u8 m2, .int .u8 m3, .int .u8 m4, .int .u8 m5, .int .i64 now, .int .i64 st, .int .u32 xid, .int .i64 sent, .int .i64 wait, .int .i64 tries, .int .u8 a0, .int .u8 a1, .int .u8 a2, .int .u8 a3, .int .u8 k0, .int .u8 k1, .int .u8 k2, .int .u8 k3, .int .u8 r0, .int .u8 r1, .int .u8 r2, .int .u8 r3, .int .u8 s0, .int .u8 s1, .int .u8 s2, .int .u8 s3, .int .i64 un, .int .i64 t1, .int .i64 t2]) : Calls Try.prog 24 #[.pointer (some ⟨gc, 0, none⟩), .int .i64 5] w fun e w' => ∃ g, e = .returned (.slice (some ⟨g, 0, none⟩) 1 1) ∧ Ms w' g [.int .i64 1, .int .i64 0, .int .u32 xid, .int .i64 0, .int .i64 0, .int .u8 a0, .int .u8 a1, .int .u8 a2, .int .u8 a3, .int .u8 0, .int .u8 0, .int .u8 0, .int .u8 0, .int .u8 0, .int .u8 0, .int .u8 0, .int .u8 0, .int .u8 0, .int .u8 0, .int .u8 0, .int .u8 0, .int .u8 m0, .int .u8 m1, .int .u8 m2, .int .u8 m3, .int .u8 m4, .int .u8 m5] 3 ∧ Cl lo gc w' #[.int .u8 m0, .int .u8 m1, .int .u8 m2, .int .u8 m3, .int .u8 m4, .int .u8 m5, .int .i64 now, .int .i64 5, .int .u32 xid, .int .i64 now, .int .i64 wait, .int .i64 tries, .int .u8 a0, .int .u8 a1, .int .u8 a2, .int .u8 a3, .int .u8 k0, .int .u8 k1, .int .u8 k2, .int .u8 k3, .int .u8 r0, .int .u8 r1, .int .u8 r2, .int .u8 r3, .int .u8 s0, .int .u8 s1, .int .u8 s2, .int .u8 s3, .int .i64 un, .int .i64 t1, .int .i64 t2] ∧ Kt [51] w w' ∧ Below lo w w' := by
  obtain ⟨hcl, ocl⟩ := hT
  have hlo : lo ≤ w.heap.size := Nat.le_trans ocl (Nat.le_of_lt (hlt hcl))
  have kt := Kt.refl [51] w
  have bel := Below.refl lo w
  go_enter Try.func24, Try.ntmps24
  go_wp2_with (first | ((with_reducible show wpList _ _ _ (⟨none, Op.store _ (.tmp 8) _, _, _, _, _⟩ :: _) _ _); refine wpList_store_part rfl 3 (.tmp 8) (.tmp 6) rfl gc 7 rfl [.int .i64 5] rfl [.int .u8 m0, .int .u8 m1, .int .u8 m2, .int .u8 m3, .int .u8 m4, .int .u8 m5, .int .i64 now, .int .i64 st, .int .u32 xid, .int .i64 sent, .int .i64 wait, .int .i64 tries, .int .u8 a0, .int .u8 a1, .int .u8 a2, .int .u8 a3, .int .u8 k0, .int .u8 k1, .int .u8 k2, .int .u8 k3, .int .u8 r0, .int .u8 r1, .int .u8 r2, .int .u8 r3, .int .u8 s0, .int .u8 s1, .int .u8 s2, .int .u8 s3, .int .i64 un, .int .i64 t1, .int .i64 t2] 51 hcl (by simp) [.int .u8 m0, .int .u8 m1, .int .u8 m2, .int .u8 m3, .int .u8 m4, .int .u8 m5, .int .i64 now, .int .i64 5, .int .u32 xid, .int .i64 sent, .int .i64 wait, .int .i64 tries, .int .u8 a0, .int .u8 a1, .int .u8 a2, .int .u8 a3, .int .u8 k0, .int .u8 k1, .int .u8 k2, .int .u8 k3, .int .u8 r0, .int .u8 r1, .int .u8 r2, .int .u8 r3, .int .u8 s0, .int .u8 s1, .int .u8 s2, .int .u8 s3, .int .i64 un, .int .i64 t1, .int .i64 t2] rfl (by kernel_rfl) (by rfl) ?_; intro w1 hq gr; replace kt := kt.trans (kt_grown gr hcl (by simp)); replace bel := below_grown bel gr ocl (Nat.le_trans hlo bel.size); clear hcl; have hcl := hq; clear hq gr))
  go_wp2_with fail
  have hT : Cl lo gc w1 _ := ⟨hcl, ocl⟩
  clear hcl
  with_reducible refine (lsend_4 _ hT (by decide) (by decide)).mono ?_
  rintro e w2 ⟨gm, rfl, hm, hT_, k_, bb⟩
  replace kt := kt.trans k_
  clear hT
  have hT := hT_
  replace bel := bel.trans bb
  clear bb k_ hT_
  go_wp2_with fail
  go_ret
  exact ⟨_, rfl, hm, hT, kt, bel⟩
set_option linter.unusedVariables false in
set_option linter.unusedSimpArgs false in
set_option maxRecDepth 100000 in
set_option maxHeartbeats 16000000 in
theorem lbegin_1 {lo gc : Nat} {m0 m1 m2 m3 m4 m5 now st xid sent wait tries a0 a1 a2 a3 k0 k1 k2 k3 r0 r1 r2 r3 s0 s1 s2 s3 un t1 t2 : Int} (w : World) (hT : Cl lo gc w #[.int .u8 m0, .int .u8 m1, .int .u8 m2, .int .u8 m3, .int .u8 m4, .int .u8 m5, .int .i64 now, .int .i64 st, .int .u32 xid, .int .i64 sent, .int .i64 wait, .int .i64 tries, .int .u8 a0, .int .u8 a1, .int .u8 a2, .int .u8 a3, .int .u8 k0, .int .u8 k1, .int .u8 k2, .int .u8 k3, .int .u8 r0, .int .u8 r1, .int .u8 r2, .int .u8 r3, .int .u8 s0, .int .u8 s1, .int .u8 s2, .int .u8 s3, .int .i64 un, .int .i64 t1, .int .i64 t2]) : Calls Try.prog 22 #[.pointer (some ⟨gc, 0, none⟩), .int .i64 1] w fun e w' => ∃ g, e = .returned (.slice (some ⟨g, 0, none⟩) 1 1) ∧ Ms w' g [.int .i64 1, .int .i64 0, .int .u32 xid, .int .i64 0, .int .i64 32768, .int .u8 0, .int .u8 0, .int .u8 0, .int .u8 0, .int .u8 0, .int .u8 0, .int .u8 0, .int .u8 0, .int .u8 0, .int .u8 0, .int .u8 0, .int .u8 0, .int .u8 0, .int .u8 0, .int .u8 0, .int .u8 0, .int .u8 m0, .int .u8 m1, .int .u8 m2, .int .u8 m3, .int .u8 m4, .int .u8 m5] 1 ∧ Cl lo gc w' #[.int .u8 m0, .int .u8 m1, .int .u8 m2, .int .u8 m3, .int .u8 m4, .int .u8 m5, .int .i64 now, .int .i64 1, .int .u32 xid, .int .i64 now, .int .i64 4, .int .i64 1, .int .u8 a0, .int .u8 a1, .int .u8 a2, .int .u8 a3, .int .u8 k0, .int .u8 k1, .int .u8 k2, .int .u8 k3, .int .u8 r0, .int .u8 r1, .int .u8 r2, .int .u8 r3, .int .u8 s0, .int .u8 s1, .int .u8 s2, .int .u8 s3, .int .i64 un, .int .i64 t1, .int .i64 t2] ∧ Kt [51] w w' ∧ Below lo w w' := by
  obtain ⟨hcl, ocl⟩ := hT
  have hlo : lo ≤ w.heap.size := Nat.le_trans ocl (Nat.le_of_lt (hlt hcl))
  have kt := Kt.refl [51] w
  have bel := Below.refl lo w
  go_enter Try.func22, Try.ntmps22
  go_wp2_with (first | ((with_reducible show wpList _ _ _ (⟨none, Op.store _ (.tmp 7) _, _, _, _, _⟩ :: _) _ _); refine wpList_store_part rfl 2 (.tmp 7) (.const (.int .i64 4)) rfl gc 10 rfl [.int .i64 4] rfl [.int .u8 m0, .int .u8 m1, .int .u8 m2, .int .u8 m3, .int .u8 m4, .int .u8 m5, .int .i64 now, .int .i64 st, .int .u32 xid, .int .i64 sent, .int .i64 wait, .int .i64 tries, .int .u8 a0, .int .u8 a1, .int .u8 a2, .int .u8 a3, .int .u8 k0, .int .u8 k1, .int .u8 k2, .int .u8 k3, .int .u8 r0, .int .u8 r1, .int .u8 r2, .int .u8 r3, .int .u8 s0, .int .u8 s1, .int .u8 s2, .int .u8 s3, .int .i64 un, .int .i64 t1, .int .i64 t2] 51 hcl (by simp) [.int .u8 m0, .int .u8 m1, .int .u8 m2, .int .u8 m3, .int .u8 m4, .int .u8 m5, .int .i64 now, .int .i64 st, .int .u32 xid, .int .i64 sent, .int .i64 4, .int .i64 tries, .int .u8 a0, .int .u8 a1, .int .u8 a2, .int .u8 a3, .int .u8 k0, .int .u8 k1, .int .u8 k2, .int .u8 k3, .int .u8 r0, .int .u8 r1, .int .u8 r2, .int .u8 r3, .int .u8 s0, .int .u8 s1, .int .u8 s2, .int .u8 s3, .int .i64 un, .int .i64 t1, .int .i64 t2] rfl (by kernel_rfl) (by rfl) ?_; intro w1 hq gr; replace kt := kt.trans (kt_grown gr hcl (by simp)); replace bel := below_grown bel gr ocl (Nat.le_trans hlo bel.size); clear hcl; have hcl := hq; clear hq gr) | ((with_reducible show wpList _ _ _ (⟨none, Op.store _ (.tmp 10) _, _, _, _, _⟩ :: _) _ _); refine wpList_store_part rfl 3 (.tmp 10) (.const (.int .i64 1)) rfl gc 11 rfl [.int .i64 1] rfl [.int .u8 m0, .int .u8 m1, .int .u8 m2, .int .u8 m3, .int .u8 m4, .int .u8 m5, .int .i64 now, .int .i64 st, .int .u32 xid, .int .i64 sent, .int .i64 4, .int .i64 tries, .int .u8 a0, .int .u8 a1, .int .u8 a2, .int .u8 a3, .int .u8 k0, .int .u8 k1, .int .u8 k2, .int .u8 k3, .int .u8 r0, .int .u8 r1, .int .u8 r2, .int .u8 r3, .int .u8 s0, .int .u8 s1, .int .u8 s2, .int .u8 s3, .int .i64 un, .int .i64 t1, .int .i64 t2] 51 hcl (by simp) [.int .u8 m0, .int .u8 m1, .int .u8 m2, .int .u8 m3, .int .u8 m4, .int .u8 m5, .int .i64 now, .int .i64 st, .int .u32 xid, .int .i64 sent, .int .i64 4, .int .i64 1, .int .u8 a0, .int .u8 a1, .int .u8 a2, .int .u8 a3, .int .u8 k0, .int .u8 k1, .int .u8 k2, .int .u8 k3, .int .u8 r0, .int .u8 r1, .int .u8 r2, .int .u8 r3, .int .u8 s0, .int .u8 s1, .int .u8 s2, .int .u8 s3, .int .i64 un, .int .i64 t1, .int .i64 t2] rfl (by kernel_rfl) (by rfl) ?_; intro w2 hq gr; replace kt := kt.trans (kt_grown gr hcl (by simp)); replace bel := below_grown bel gr ocl (Nat.le_trans hlo bel.size); clear hcl; have hcl := hq; clear hq gr))
  go_wp2_with fail
  have hT : Cl lo gc w2 _ := ⟨hcl, ocl⟩
  clear hcl
  with_reducible refine (lenter_1 _ hT).mono ?_
  rintro e w3 ⟨gm, rfl, hm, hT_, k_, bb⟩
  replace kt := kt.trans k_
  clear hT
  have hT := hT_
  replace bel := bel.trans bb
  clear bb k_ hT_
  go_wp2_with fail
  go_ret
  exact ⟨_, rfl, hm, hT, kt, bel⟩
set_option linter.unusedVariables false in
set_option linter.unusedSimpArgs false in
set_option maxRecDepth 100000 in
set_option maxHeartbeats 16000000 in
theorem lbegin_2 {lo gc : Nat} {m0 m1 m2 m3 m4 m5 now st xid sent wait tries a0 a1 a2 a3 k0 k1 k2 k3 r0 r1 r2 r3 s0 s1 s2 s3 un t1 t2 : Int} (w : World) (hT : Cl lo gc w #[.int .u8 m0, .int .u8 m1, .int .u8 m2, .int .u8 m3, .int .u8 m4, .int .u8 m5, .int .i64 now, .int .i64 st, .int .u32 xid, .int .i64 sent, .int .i64 wait, .int .i64 tries, .int .u8 a0, .int .u8 a1, .int .u8 a2, .int .u8 a3, .int .u8 k0, .int .u8 k1, .int .u8 k2, .int .u8 k3, .int .u8 r0, .int .u8 r1, .int .u8 r2, .int .u8 r3, .int .u8 s0, .int .u8 s1, .int .u8 s2, .int .u8 s3, .int .i64 un, .int .i64 t1, .int .i64 t2]) (ha : By4 a0 a1 a2 a3) (hs : By4 s0 s1 s2 s3) : Calls Try.prog 22 #[.pointer (some ⟨gc, 0, none⟩), .int .i64 2] w fun e w' => ∃ g, e = .returned (.slice (some ⟨g, 0, none⟩) 1 1) ∧ Ms w' g [.int .i64 1, .int .i64 0, .int .u32 xid, .int .i64 0, .int .i64 32768, .int .u8 0, .int .u8 0, .int .u8 0, .int .u8 0, .int .u8 0, .int .u8 0, .int .u8 0, .int .u8 0, .int .u8 0, .int .u8 0, .int .u8 0, .int .u8 0, .int .u8 0, .int .u8 0, .int .u8 0, .int .u8 0, .int .u8 m0, .int .u8 m1, .int .u8 m2, .int .u8 m3, .int .u8 m4, .int .u8 m5] 3 ∧ Cl lo gc w' #[.int .u8 m0, .int .u8 m1, .int .u8 m2, .int .u8 m3, .int .u8 m4, .int .u8 m5, .int .i64 now, .int .i64 2, .int .u32 xid, .int .i64 now, .int .i64 4, .int .i64 1, .int .u8 a0, .int .u8 a1, .int .u8 a2, .int .u8 a3, .int .u8 k0, .int .u8 k1, .int .u8 k2, .int .u8 k3, .int .u8 r0, .int .u8 r1, .int .u8 r2, .int .u8 r3, .int .u8 s0, .int .u8 s1, .int .u8 s2, .int .u8 s3, .int .i64 un, .int .i64 t1, .int .i64 t2] ∧ Kt [51] w w' ∧ Below lo w w' := by
  obtain ⟨hcl, ocl⟩ := hT
  have hlo : lo ≤ w.heap.size := Nat.le_trans ocl (Nat.le_of_lt (hlt hcl))
  have kt := Kt.refl [51] w
  have bel := Below.refl lo w
  go_enter Try.func22, Try.ntmps22
  go_wp2_with (first | ((with_reducible show wpList _ _ _ (⟨none, Op.store _ (.tmp 7) _, _, _, _, _⟩ :: _) _ _); refine wpList_store_part rfl 2 (.tmp 7) (.const (.int .i64 4)) rfl gc 10 rfl [.int .i64 4] rfl [.int .u8 m0, .int .u8 m1, .int .u8 m2, .int .u8 m3, .int .u8 m4, .int .u8 m5, .int .i64 now, .int .i64 st, .int .u32 xid, .int .i64 sent, .int .i64 wait, .int .i64 tries, .int .u8 a0, .int .u8 a1, .int .u8 a2, .int .u8 a3, .int .u8 k0, .int .u8 k1, .int .u8 k2, .int .u8 k3, .int .u8 r0, .int .u8 r1, .int .u8 r2, .int .u8 r3, .int .u8 s0, .int .u8 s1, .int .u8 s2, .int .u8 s3, .int .i64 un, .int .i64 t1, .int .i64 t2] 51 hcl (by simp) [.int .u8 m0, .int .u8 m1, .int .u8 m2, .int .u8 m3, .int .u8 m4, .int .u8 m5, .int .i64 now, .int .i64 st, .int .u32 xid, .int .i64 sent, .int .i64 4, .int .i64 tries, .int .u8 a0, .int .u8 a1, .int .u8 a2, .int .u8 a3, .int .u8 k0, .int .u8 k1, .int .u8 k2, .int .u8 k3, .int .u8 r0, .int .u8 r1, .int .u8 r2, .int .u8 r3, .int .u8 s0, .int .u8 s1, .int .u8 s2, .int .u8 s3, .int .i64 un, .int .i64 t1, .int .i64 t2] rfl (by kernel_rfl) (by rfl) ?_; intro w1 hq gr; replace kt := kt.trans (kt_grown gr hcl (by simp)); replace bel := below_grown bel gr ocl (Nat.le_trans hlo bel.size); clear hcl; have hcl := hq; clear hq gr) | ((with_reducible show wpList _ _ _ (⟨none, Op.store _ (.tmp 10) _, _, _, _, _⟩ :: _) _ _); refine wpList_store_part rfl 3 (.tmp 10) (.const (.int .i64 1)) rfl gc 11 rfl [.int .i64 1] rfl [.int .u8 m0, .int .u8 m1, .int .u8 m2, .int .u8 m3, .int .u8 m4, .int .u8 m5, .int .i64 now, .int .i64 st, .int .u32 xid, .int .i64 sent, .int .i64 4, .int .i64 tries, .int .u8 a0, .int .u8 a1, .int .u8 a2, .int .u8 a3, .int .u8 k0, .int .u8 k1, .int .u8 k2, .int .u8 k3, .int .u8 r0, .int .u8 r1, .int .u8 r2, .int .u8 r3, .int .u8 s0, .int .u8 s1, .int .u8 s2, .int .u8 s3, .int .i64 un, .int .i64 t1, .int .i64 t2] 51 hcl (by simp) [.int .u8 m0, .int .u8 m1, .int .u8 m2, .int .u8 m3, .int .u8 m4, .int .u8 m5, .int .i64 now, .int .i64 st, .int .u32 xid, .int .i64 sent, .int .i64 4, .int .i64 1, .int .u8 a0, .int .u8 a1, .int .u8 a2, .int .u8 a3, .int .u8 k0, .int .u8 k1, .int .u8 k2, .int .u8 k3, .int .u8 r0, .int .u8 r1, .int .u8 r2, .int .u8 r3, .int .u8 s0, .int .u8 s1, .int .u8 s2, .int .u8 s3, .int .i64 un, .int .i64 t1, .int .i64 t2] rfl (by kernel_rfl) (by rfl) ?_; intro w2 hq gr; replace kt := kt.trans (kt_grown gr hcl (by simp)); replace bel := below_grown bel gr ocl (Nat.le_trans hlo bel.size); clear hcl; have hcl := hq; clear hq gr))
  go_wp2_with fail
  have hT : Cl lo gc w2 _ := ⟨hcl, ocl⟩
  clear hcl
  with_reducible refine (lenter_2 _ hT ha hs).mono ?_
  rintro e w3 ⟨gm, rfl, hm, hT_, k_, bb⟩
  replace kt := kt.trans k_
  clear hT
  have hT := hT_
  replace bel := bel.trans bb
  clear bb k_ hT_
  go_wp2_with fail
  go_ret
  exact ⟨_, rfl, hm, hT, kt, bel⟩
end Go.Proofs.Ytjfboofnffghjaa
