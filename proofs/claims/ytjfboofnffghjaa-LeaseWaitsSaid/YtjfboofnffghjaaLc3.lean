/- lease's tryAgain, Tick. -/
import Derived.Test.YtjfboofnffghjaaLc2
namespace Go.Proofs.Ytjfboofnffghjaa
open Go.RowKit

set_option linter.unusedVariables false in
set_option linter.unusedSimpArgs false in
set_option maxRecDepth 100000 in
set_option maxHeartbeats 16000000 in
theorem ltry_no {lo gc : Nat} {m0 m1 m2 m3 m4 m5 now xid sent wait tries a0 a1 a2 a3 k0 k1 k2 k3 r0 r1 r2 r3 s0 s1 s2 s3 un t1 t2 : Int} {d : Int} (w : World) (hT : Cl lo gc w #[.int .u8 m0, .int .u8 m1, .int .u8 m2, .int .u8 m3, .int .u8 m4, .int .u8 m5, .int .i64 now, .int .i64 1, .int .u32 xid, .int .i64 sent, .int .i64 wait, .int .i64 tries, .int .u8 a0, .int .u8 a1, .int .u8 a2, .int .u8 a3, .int .u8 k0, .int .u8 k1, .int .u8 k2, .int .u8 k3, .int .u8 r0, .int .u8 r1, .int .u8 r2, .int .u8 r3, .int .u8 s0, .int .u8 s1, .int .u8 s2, .int .u8 s3, .int .i64 un, .int .i64 t1, .int .i64 t2]) (hd : IntKind.i64.wrap (now - sent) = d) (hb : decide (wait ≤ d) = false) : Calls Try.prog 23 #[.pointer (some ⟨gc, 0, none⟩)] w fun e w' => e = .returned (.slice none 0 0) ∧ Cl lo gc w' #[.int .u8 m0, .int .u8 m1, .int .u8 m2, .int .u8 m3, .int .u8 m4, .int .u8 m5, .int .i64 now, .int .i64 1, .int .u32 xid, .int .i64 sent, .int .i64 wait, .int .i64 tries, .int .u8 a0, .int .u8 a1, .int .u8 a2, .int .u8 a3, .int .u8 k0, .int .u8 k1, .int .u8 k2, .int .u8 k3, .int .u8 r0, .int .u8 r1, .int .u8 r2, .int .u8 r3, .int .u8 s0, .int .u8 s1, .int .u8 s2, .int .u8 s3, .int .i64 un, .int .i64 t1, .int .i64 t2] ∧ Kt [51] w w' ∧ Below lo w w' := by
  obtain ⟨hcl, ocl⟩ := hT
  have hlo : lo ≤ w.heap.size := Nat.le_trans ocl (Nat.le_of_lt (hlt hcl))
  have kt := Kt.refl [51] w
  have bel := Below.refl lo w
  go_enter Try.func23, Try.ntmps23
  have R7 := cell_lit hcl 10 _ rfl
  go_wp2_with fail
  clear R7
  with_reducible refine (lwaited (b := false) _ (cl_of hcl) hd hb).mono ?_
  rintro e w1 ⟨rfl, b1⟩
  replace hcl := blk_u hcl b1
  replace kt := kt.trans (kt_below b1)
  replace bel := bel.trans (b1.mono (Nat.le_trans hlo bel.size))
  clear b1
  go_wp2_with fail
  go_ret
  exact ⟨rfl, ⟨hcl, ocl⟩, kt, bel⟩
set_option linter.unusedVariables false in
set_option linter.unusedSimpArgs false in
set_option maxRecDepth 100000 in
set_option maxHeartbeats 16000000 in
theorem ltry_yes {lo gc : Nat} {m0 m1 m2 m3 m4 m5 now xid sent wait tries a0 a1 a2 a3 k0 k1 k2 k3 r0 r1 r2 r3 s0 s1 s2 s3 un t1 t2 : Int} {d wn q : Int} (w : World) (hT : Cl lo gc w #[.int .u8 m0, .int .u8 m1, .int .u8 m2, .int .u8 m3, .int .u8 m4, .int .u8 m5, .int .i64 now, .int .i64 1, .int .u32 xid, .int .i64 sent, .int .i64 wait, .int .i64 tries, .int .u8 a0, .int .u8 a1, .int .u8 a2, .int .u8 a3, .int .u8 k0, .int .u8 k1, .int .u8 k2, .int .u8 k3, .int .u8 r0, .int .u8 r1, .int .u8 r2, .int .u8 r3, .int .u8 s0, .int .u8 s1, .int .u8 s2, .int .u8 s3, .int .i64 un, .int .i64 t1, .int .i64 t2]) (hd : IntKind.i64.wrap (now - sent) = d) (hb : decide (wait ≤ d) = true) (hw : IntKind.i64.wrap (2 * wait) = 2 * wait) (hw2 : (if 64 < 2 * wait then 64 else 2 * wait) = wn) (hq : IntKind.i64.wrap (tries + 1) = q) : Calls Try.prog 23 #[.pointer (some ⟨gc, 0, none⟩)] w fun e w' => ∃ g, e = .returned (.slice (some ⟨g, 0, none⟩) 1 1) ∧ Ms w' g [.int .i64 1, .int .i64 0, .int .u32 xid, .int .i64 0, .int .i64 32768, .int .u8 0, .int .u8 0, .int .u8 0, .int .u8 0, .int .u8 0, .int .u8 0, .int .u8 0, .int .u8 0, .int .u8 0, .int .u8 0, .int .u8 0, .int .u8 0, .int .u8 0, .int .u8 0, .int .u8 0, .int .u8 0, .int .u8 m0, .int .u8 m1, .int .u8 m2, .int .u8 m3, .int .u8 m4, .int .u8 m5] 1 ∧ Cl lo gc w' #[.int .u8 m0, .int .u8 m1, .int .u8 m2, .int .u8 m3, .int .u8 m4, .int .u8 m5, .int .i64 now, .int .i64 1, .int .u32 xid, .int .i64 now, .int .i64 wn, .int .i64 q, .int .u8 a0, .int .u8 a1, .int .u8 a2, .int .u8 a3, .int .u8 k0, .int .u8 k1, .int .u8 k2, .int .u8 k3, .int .u8 r0, .int .u8 r1, .int .u8 r2, .int .u8 r3, .int .u8 s0, .int .u8 s1, .int .u8 s2, .int .u8 s3, .int .i64 un, .int .i64 t1, .int .i64 t2] ∧ Kt [51] w w' ∧ Below lo w w' := by
  obtain ⟨hcl, ocl⟩ := hT
  have hlo : lo ≤ w.heap.size := Nat.le_trans ocl (Nat.le_of_lt (hlt hcl))
  have kt := Kt.refl [51] w
  have bel := Below.refl lo w
  go_enter Try.func23, Try.ntmps23
  have R7 := cell_lit hcl 10 _ rfl
  go_wp2_with fail
  clear R7
  with_reducible refine (lwaited (b := true) _ (cl_of hcl) hd hb).mono ?_
  rintro e w1 ⟨rfl, b1⟩
  replace hcl := blk_u hcl b1
  replace kt := kt.trans (kt_below b1)
  replace bel := bel.trans (b1.mono (Nat.le_trans hlo bel.size))
  clear b1
  have R13 := cell_lit hcl 7 _ rfl
  have R28 := cell_lit hcl 10 _ rfl
  go_wp2_with (first | ((with_reducible show wpList _ _ _ (⟨none, Op.store _ (.tmp 32) _, _, _, _, _⟩ :: _) _ _); refine wpList_store_part rfl 2 (.tmp 32) (.tmp 30) rfl gc 10 rfl [.int .i64 wn] rfl [.int .u8 m0, .int .u8 m1, .int .u8 m2, .int .u8 m3, .int .u8 m4, .int .u8 m5, .int .i64 now, .int .i64 1, .int .u32 xid, .int .i64 sent, .int .i64 wait, .int .i64 tries, .int .u8 a0, .int .u8 a1, .int .u8 a2, .int .u8 a3, .int .u8 k0, .int .u8 k1, .int .u8 k2, .int .u8 k3, .int .u8 r0, .int .u8 r1, .int .u8 r2, .int .u8 r3, .int .u8 s0, .int .u8 s1, .int .u8 s2, .int .u8 s3, .int .i64 un, .int .i64 t1, .int .i64 t2] 51 hcl (by simp) [.int .u8 m0, .int .u8 m1, .int .u8 m2, .int .u8 m3, .int .u8 m4, .int .u8 m5, .int .i64 now, .int .i64 1, .int .u32 xid, .int .i64 sent, .int .i64 wn, .int .i64 tries, .int .u8 a0, .int .u8 a1, .int .u8 a2, .int .u8 a3, .int .u8 k0, .int .u8 k1, .int .u8 k2, .int .u8 k3, .int .u8 r0, .int .u8 r1, .int .u8 r2, .int .u8 r3, .int .u8 s0, .int .u8 s1, .int .u8 s2, .int .u8 s3, .int .i64 un, .int .i64 t1, .int .i64 t2] rfl (by kernel_rfl) (by rfl) ?_; intro w2 hq gr; replace kt := kt.trans (kt_grown gr hcl (by simp)); replace bel := below_grown bel gr ocl (Nat.le_trans hlo bel.size); clear hcl; have hcl := hq; clear hq gr; have R36 := cell_lit hcl 11 _ rfl) | ((with_reducible show wpList _ _ _ (⟨none, Op.store _ (.tmp 39) _, _, _, _, _⟩ :: _) _ _); refine wpList_store_part rfl 3 (.tmp 39) (.tmp 37) rfl gc 11 rfl [.int .i64 q] rfl [.int .u8 m0, .int .u8 m1, .int .u8 m2, .int .u8 m3, .int .u8 m4, .int .u8 m5, .int .i64 now, .int .i64 1, .int .u32 xid, .int .i64 sent, .int .i64 wn, .int .i64 tries, .int .u8 a0, .int .u8 a1, .int .u8 a2, .int .u8 a3, .int .u8 k0, .int .u8 k1, .int .u8 k2, .int .u8 k3, .int .u8 r0, .int .u8 r1, .int .u8 r2, .int .u8 r3, .int .u8 s0, .int .u8 s1, .int .u8 s2, .int .u8 s3, .int .i64 un, .int .i64 t1, .int .i64 t2] 51 hcl (by simp) [.int .u8 m0, .int .u8 m1, .int .u8 m2, .int .u8 m3, .int .u8 m4, .int .u8 m5, .int .i64 now, .int .i64 1, .int .u32 xid, .int .i64 sent, .int .i64 wn, .int .i64 q, .int .u8 a0, .int .u8 a1, .int .u8 a2, .int .u8 a3, .int .u8 k0, .int .u8 k1, .int .u8 k2, .int .u8 k3, .int .u8 r0, .int .u8 r1, .int .u8 r2, .int .u8 r3, .int .u8 s0, .int .u8 s1, .int .u8 s2, .int .u8 s3, .int .i64 un, .int .i64 t1, .int .i64 t2] rfl (by kernel_rfl) (by rfl) ?_; intro w3 hq gr; replace kt := kt.trans (kt_grown gr hcl (by simp)); replace bel := below_grown bel gr ocl (Nat.le_trans hlo bel.size); clear hcl; have hcl := hq; clear hq gr))
  try clear R13
  try clear R28
  try clear R36
  go_wp2_with fail
  have hT : Cl lo gc w3 _ := ⟨hcl, ocl⟩
  clear hcl
  with_reducible refine (lsend_1 _ hT).mono ?_
  rintro e w4 ⟨gm, rfl, hm, hT_, k_, bb⟩
  replace kt := kt.trans k_
  clear hT
  have hT := hT_
  replace bel := bel.trans bb
  clear bb k_ hT_
  go_wp2_with fail
  go_ret
  exact ⟨_, rfl, hm, hT, kt, bel⟩
set_option linter.unusedVariables false in
set_option linter.unusedSimpArgs false in
set_option maxRecDepth 100000 in
set_option maxHeartbeats 16000000 in
theorem ltick_new {lo gc : Nat} {m0 m1 m2 m3 m4 m5 now xid sent wait tries a0 a1 a2 a3 k0 k1 k2 k3 r0 r1 r2 r3 s0 s1 s2 s3 un t1 t2 : Int} {t draw : Int} (w : World) (hT : Cl lo gc w #[.int .u8 m0, .int .u8 m1, .int .u8 m2, .int .u8 m3, .int .u8 m4, .int .u8 m5, .int .i64 now, .int .i64 0, .int .u32 xid, .int .i64 sent, .int .i64 wait, .int .i64 tries, .int .u8 a0, .int .u8 a1, .int .u8 a2, .int .u8 a3, .int .u8 k0, .int .u8 k1, .int .u8 k2, .int .u8 k3, .int .u8 r0, .int .u8 r1, .int .u8 r2, .int .u8 r3, .int .u8 s0, .int .u8 s1, .int .u8 s2, .int .u8 s3, .int .i64 un, .int .i64 t1, .int .i64 t2]) (h0 : now ≤ t) (h2 : t ≤ 1099511627776) : Calls Try.prog 12 #[.pointer (some ⟨gc, 0, none⟩), .int .i64 t, .int .u32 draw] w fun e w' => ∃ g, e = .returned (.slice (some ⟨g, 0, none⟩) 1 1) ∧ Ms w' g [.int .i64 1, .int .i64 0, .int .u32 draw, .int .i64 0, .int .i64 32768, .int .u8 0, .int .u8 0, .int .u8 0, .int .u8 0, .int .u8 0, .int .u8 0, .int .u8 0, .int .u8 0, .int .u8 0, .int .u8 0, .int .u8 0, .int .u8 0, .int .u8 0, .int .u8 0, .int .u8 0, .int .u8 0, .int .u8 m0, .int .u8 m1, .int .u8 m2, .int .u8 m3, .int .u8 m4, .int .u8 m5] 1 ∧ Cl lo gc w' #[.int .u8 m0, .int .u8 m1, .int .u8 m2, .int .u8 m3, .int .u8 m4, .int .u8 m5, .int .i64 t, .int .i64 1, .int .u32 draw, .int .i64 t, .int .i64 4, .int .i64 1, .int .u8 a0, .int .u8 a1, .int .u8 a2, .int .u8 a3, .int .u8 k0, .int .u8 k1, .int .u8 k2, .int .u8 k3, .int .u8 r0, .int .u8 r1, .int .u8 r2, .int .u8 r3, .int .u8 s0, .int .u8 s1, .int .u8 s2, .int .u8 s3, .int .i64 un, .int .i64 t1, .int .i64 t2] ∧ Kt [51] w w' ∧ Below lo w w' := by
  obtain ⟨hcl, ocl⟩ := hT
  have hlo : lo ≤ w.heap.size := Nat.le_trans ocl (Nat.le_of_lt (hlt hcl))
  have kt := Kt.refl [51] w
  have bel := Below.refl lo w
  go_enter Try.func12, Try.ntmps12
  go_wp2_with fail
  go_wp2_with fail
  have hT : Cl lo gc w _ := ⟨hcl, ocl⟩
  clear hcl
  with_reducible refine (ladv _ hT h0 h2).mono ?_
  rintro e w1 ⟨rfl, hT_, k_, bb⟩
  replace kt := kt.trans k_
  clear hT
  have hT := hT_
  replace bel := bel.trans bb
  clear bb k_ hT_
  obtain ⟨hcl, _⟩ := hT
  go_wp2_with fail
  replace bel := bel.drew
  replace hcl : w1.drew.heap[gc]? = _ := hcl
  replace kt := kt_drew kt
  refine wp_region_held_drew (S := fun W => W.heap[gc]? = some (.cells #[.int .u8 m0, .int .u8 m1, .int .u8 m2, .int .u8 m3, .int .u8 m4, .int .u8 m5, .int .i64 t, .int .i64 0, .int .u32 xid, .int .i64 sent, .int .i64 wait, .int .i64 tries, .int .u8 a0, .int .u8 a1, .int .u8 a2, .int .u8 a3, .int .u8 k0, .int .u8 k1, .int .u8 k2, .int .u8 k3, .int .u8 r0, .int .u8 r1, .int .u8 r2, .int .u8 r3, .int .u8 s0, .int .u8 s1, .int .u8 s2, .int .u8 s3, .int .i64 un, .int .i64 t1, .int .i64 t2] 51 (0, 0))) (by kernel_rfl) hcl (fun hH => ?_)
  generalize w1.drew = w2 at bel hcl kt hH ⊢
  refine wpAnyH_take (i := 0) (v := ?_) rfl (by kernel_rfl) (by kernel_rfl) (by kernel_rfl) (fun _ _ _ h => h) (Or.inl ⟨by rfl, ?_⟩) hH ?_
  rotate_left
  · ((intro W hW; clear hW; go_simp) <;> with_reducible rfl)
  simp only [Act.put, List.getElem_toArray, List.getElem_cons_zero, List.setIfInBounds_toArray, List.set_cons_zero, List.set_cons_succ]
  refine wpAnyH_ready (rs := [1]) (by kernel_rfl) (by simp) ?_
  refine AllReadyH.cons (o := _) rfl (fun K hK => ?_) AllReadyH.nil
  simp only [List.getElem_toArray, List.getElem_cons_zero, List.getElem_cons_succ]
  go_simp
  with_reducible refine (lbound_is (b := false) _ (cl_of hcl) (by decide)).mono ?_
  rintro e _ ⟨rfl, rfl⟩
  dsimp only
  refine hK.out _ _ hcl (fun hH3 => ?_)
  clear hK K
  refine wpAnyH_take (i := 2) (v := ?_) rfl (by kernel_rfl) (by kernel_rfl) (by kernel_rfl) (fun _ _ _ h => h) (Or.inl ⟨by rfl, ?_⟩) hH3 ?_
  rotate_left
  · ((intro W hW; clear hW; go_simp) <;> with_reducible rfl)
  simp only [Act.put, List.getElem_toArray, List.getElem_cons_zero, List.getElem_cons_succ, List.setIfInBounds_toArray, List.set_cons_zero, List.set_cons_succ]
  refine wpAnyH_take (i := 3) (v := undef) rfl (by kernel_rfl) (by kernel_rfl) (by kernel_rfl) (fun _ _ _ h => h) (Or.inr ⟨by rfl, rfl⟩) hH3 ?_
  simp only [Act.put, List.getElem_toArray, List.getElem_cons_zero, List.getElem_cons_succ, List.setIfInBounds_toArray, List.set_cons_zero, List.set_cons_succ]
  refine wpAnyH_take (i := 4) (v := undef) rfl (by kernel_rfl) (by kernel_rfl) (by kernel_rfl) (fun _ _ _ h => h) (Or.inr ⟨by rfl, rfl⟩) hH3 ?_
  simp only [Act.put, List.getElem_toArray, List.getElem_cons_zero, List.getElem_cons_succ, List.setIfInBounds_toArray, List.set_cons_zero, List.set_cons_succ]
  refine wpAnyH_take (i := 5) (v := undef) rfl (by kernel_rfl) (by kernel_rfl) (by kernel_rfl) (fun _ _ _ h => h) (Or.inr ⟨by rfl, rfl⟩) hH3 ?_
  simp only [Act.put, List.getElem_toArray, List.getElem_cons_zero, List.getElem_cons_succ, List.setIfInBounds_toArray, List.set_cons_zero, List.set_cons_succ]
  refine wpAnyH_take (i := 6) (v := undef) rfl (by kernel_rfl) (by kernel_rfl) (by kernel_rfl) (fun _ _ _ h => h) (Or.inr ⟨by rfl, rfl⟩) hH3 ?_
  simp only [Act.put, List.getElem_toArray, List.getElem_cons_zero, List.getElem_cons_succ, List.setIfInBounds_toArray, List.set_cons_zero, List.set_cons_succ]
  refine wpAnyH_take (i := 7) (v := undef) rfl (by kernel_rfl) (by kernel_rfl) (by kernel_rfl) (fun _ _ _ h => h) (Or.inr ⟨by rfl, rfl⟩) hH3 ?_
  simp only [Act.put, List.getElem_toArray, List.getElem_cons_zero, List.getElem_cons_succ, List.setIfInBounds_toArray, List.set_cons_zero, List.set_cons_succ]
  refine wpAnyH_take (i := 8) (v := undef) rfl (by kernel_rfl) (by kernel_rfl) (by kernel_rfl) (fun _ _ _ h => h) (Or.inr ⟨by rfl, rfl⟩) hH3 ?_
  simp only [Act.put, List.getElem_toArray, List.getElem_cons_zero, List.getElem_cons_succ, List.setIfInBounds_toArray, List.set_cons_zero, List.set_cons_succ]
  refine wpAnyH_take (i := 9) (v := undef) rfl (by kernel_rfl) (by kernel_rfl) (by kernel_rfl) (fun _ _ _ h => h) (Or.inr ⟨by rfl, rfl⟩) hH3 ?_
  simp only [Act.put, List.getElem_toArray, List.getElem_cons_zero, List.getElem_cons_succ, List.setIfInBounds_toArray, List.set_cons_zero, List.set_cons_succ]
  refine wpAnyH_take (i := 10) (v := undef) rfl (by kernel_rfl) (by kernel_rfl) (by kernel_rfl) (fun _ _ _ h => h) (Or.inr ⟨by rfl, rfl⟩) hH3 ?_
  simp only [Act.put, List.getElem_toArray, List.getElem_cons_zero, List.getElem_cons_succ, List.setIfInBounds_toArray, List.set_cons_zero, List.set_cons_succ]
  refine wpAnyH_take (i := 11) (v := undef) rfl (by kernel_rfl) (by kernel_rfl) (by kernel_rfl) (fun _ _ _ h => h) (Or.inr ⟨by rfl, rfl⟩) hH3 ?_
  simp only [Act.put, List.getElem_toArray, List.getElem_cons_zero, List.getElem_cons_succ, List.setIfInBounds_toArray, List.set_cons_zero, List.set_cons_succ]
  refine wpAnyH_take (i := 12) (v := undef) rfl (by kernel_rfl) (by kernel_rfl) (by kernel_rfl) (fun _ _ _ h => h) (Or.inr ⟨by rfl, rfl⟩) hH3 ?_
  simp only [Act.put, List.getElem_toArray, List.getElem_cons_zero, List.getElem_cons_succ, List.setIfInBounds_toArray, List.set_cons_zero, List.set_cons_succ]
  refine wpAnyH_take (i := 13) (v := ?_) rfl (by kernel_rfl) (by kernel_rfl) (by kernel_rfl) (fun _ _ _ h => h) (Or.inl ⟨by rfl, ?_⟩) hH3 ?_
  rotate_left
  · ((intro W hW; clear hW; go_simp) <;> with_reducible rfl)
  simp only [Act.put, List.getElem_toArray, List.getElem_cons_zero, List.getElem_cons_succ, List.setIfInBounds_toArray, List.set_cons_zero, List.set_cons_succ]
  refine wpAnyH_done (by kernel_rfl) ?_ _
  have R29 := cell_lit hcl 7 _ rfl
  go_wp2_with (first | ((with_reducible show wpList _ _ _ (⟨none, Op.store _ (.tmp 35) _, _, _, _, _⟩ :: _) _ _); refine wpList_store_part rfl 30 (.tmp 35) (.tmp 33) rfl gc 8 rfl [.int .u32 draw] rfl [.int .u8 m0, .int .u8 m1, .int .u8 m2, .int .u8 m3, .int .u8 m4, .int .u8 m5, .int .i64 t, .int .i64 0, .int .u32 xid, .int .i64 sent, .int .i64 wait, .int .i64 tries, .int .u8 a0, .int .u8 a1, .int .u8 a2, .int .u8 a3, .int .u8 k0, .int .u8 k1, .int .u8 k2, .int .u8 k3, .int .u8 r0, .int .u8 r1, .int .u8 r2, .int .u8 r3, .int .u8 s0, .int .u8 s1, .int .u8 s2, .int .u8 s3, .int .i64 un, .int .i64 t1, .int .i64 t2] 51 hcl (by simp) [.int .u8 m0, .int .u8 m1, .int .u8 m2, .int .u8 m3, .int .u8 m4, .int .u8 m5, .int .i64 t, .int .i64 0, .int .u32 draw, .int .i64 sent, .int .i64 wait, .int .i64 tries, .int .u8 a0, .int .u8 a1, .int .u8 a2, .int .u8 a3, .int .u8 k0, .int .u8 k1, .int .u8 k2, .int .u8 k3, .int .u8 r0, .int .u8 r1, .int .u8 r2, .int .u8 r3, .int .u8 s0, .int .u8 s1, .int .u8 s2, .int .u8 s3, .int .i64 un, .int .i64 t1, .int .i64 t2] rfl (by kernel_rfl) (by rfl) ?_; intro w4 hq gr; replace kt := kt.trans (kt_grown gr hcl (by simp)); replace bel := below_grown bel gr ocl (Nat.le_trans hlo bel.size); clear hcl; have hcl := hq; clear hq gr))
  try clear R29
  go_wp2_with fail
  have hT : Cl lo gc w4 _ := ⟨hcl, ocl⟩
  clear hcl
  with_reducible refine (lbegin_1 _ hT).mono ?_
  rintro e w5 ⟨gm, rfl, hm, hT_, k_, bb⟩
  replace kt := kt.trans k_
  clear hT
  have hT := hT_
  replace bel := bel.trans bb
  clear bb k_ hT_
  go_wp2_with fail
  go_ret
  exact ⟨_, rfl, hm, hT, kt, bel⟩
set_option linter.unusedVariables false in
set_option linter.unusedSimpArgs false in
set_option maxRecDepth 100000 in
set_option maxHeartbeats 16000000 in
theorem ltick_end {lo gc : Nat} {m0 m1 m2 m3 m4 m5 now st xid sent wait tries a0 a1 a2 a3 k0 k1 k2 k3 r0 r1 r2 r3 s0 s1 s2 s3 un t1 t2 : Int} {t draw : Int} (w : World) (hT : Cl lo gc w #[.int .u8 m0, .int .u8 m1, .int .u8 m2, .int .u8 m3, .int .u8 m4, .int .u8 m5, .int .i64 now, .int .i64 st, .int .u32 xid, .int .i64 sent, .int .i64 wait, .int .i64 tries, .int .u8 a0, .int .u8 a1, .int .u8 a2, .int .u8 a3, .int .u8 k0, .int .u8 k1, .int .u8 k2, .int .u8 k3, .int .u8 r0, .int .u8 r1, .int .u8 r2, .int .u8 r3, .int .u8 s0, .int .u8 s1, .int .u8 s2, .int .u8 s3, .int .i64 un, .int .i64 t1, .int .i64 t2]) (h0 : now ≤ t) (h2 : t ≤ 1099511627776) (hst : decide (3 ≤ st) = true) (hu : un ≤ t) : Calls Try.prog 12 #[.pointer (some ⟨gc, 0, none⟩), .int .i64 t, .int .u32 draw] w fun e w' => ∃ g, e = .returned (.slice (some ⟨g, 0, none⟩) 1 1) ∧ Ms w' g [.int .i64 1, .int .i64 0, .int .u32 draw, .int .i64 0, .int .i64 32768, .int .u8 0, .int .u8 0, .int .u8 0, .int .u8 0, .int .u8 0, .int .u8 0, .int .u8 0, .int .u8 0, .int .u8 0, .int .u8 0, .int .u8 0, .int .u8 0, .int .u8 0, .int .u8 0, .int .u8 0, .int .u8 0, .int .u8 m0, .int .u8 m1, .int .u8 m2, .int .u8 m3, .int .u8 m4, .int .u8 m5] 1 ∧ Cl lo gc w' #[.int .u8 m0, .int .u8 m1, .int .u8 m2, .int .u8 m3, .int .u8 m4, .int .u8 m5, .int .i64 t, .int .i64 1, .int .u32 draw, .int .i64 t, .int .i64 4, .int .i64 1, .int .u8 0, .int .u8 0, .int .u8 0, .int .u8 0, .int .u8 0, .int .u8 0, .int .u8 0, .int .u8 0, .int .u8 0, .int .u8 0, .int .u8 0, .int .u8 0, .int .u8 0, .int .u8 0, .int .u8 0, .int .u8 0, .int .i64 0, .int .i64 t1, .int .i64 t2] ∧ Kt [51] w w' ∧ Below lo w w' := by
  obtain ⟨hcl, ocl⟩ := hT
  have hlo : lo ≤ w.heap.size := Nat.le_trans ocl (Nat.le_of_lt (hlt hcl))
  have kt := Kt.refl [51] w
  have bel := Below.refl lo w
  go_enter Try.func12, Try.ntmps12
  go_wp2_with fail
  go_wp2_with fail
  have hT : Cl lo gc w _ := ⟨hcl, ocl⟩
  clear hcl
  with_reducible refine (ladv _ hT h0 h2).mono ?_
  rintro e w1 ⟨rfl, hT_, k_, bb⟩
  replace kt := kt.trans k_
  clear hT
  have hT := hT_
  replace bel := bel.trans bb
  clear bb k_ hT_
  obtain ⟨hcl, _⟩ := hT
  go_wp2_with fail
  replace bel := bel.drew
  replace hcl : w1.drew.heap[gc]? = _ := hcl
  replace kt := kt_drew kt
  refine wp_region_held_drew (S := fun W => W.heap[gc]? = some (.cells #[.int .u8 m0, .int .u8 m1, .int .u8 m2, .int .u8 m3, .int .u8 m4, .int .u8 m5, .int .i64 t, .int .i64 st, .int .u32 xid, .int .i64 sent, .int .i64 wait, .int .i64 tries, .int .u8 a0, .int .u8 a1, .int .u8 a2, .int .u8 a3, .int .u8 k0, .int .u8 k1, .int .u8 k2, .int .u8 k3, .int .u8 r0, .int .u8 r1, .int .u8 r2, .int .u8 r3, .int .u8 s0, .int .u8 s1, .int .u8 s2, .int .u8 s3, .int .i64 un, .int .i64 t1, .int .i64 t2] 51 (0, 0))) (by kernel_rfl) hcl (fun hH => ?_)
  generalize w1.drew = w2 at bel hcl kt hH ⊢
  refine wpAnyH_take (i := 0) (v := ?_) rfl (by kernel_rfl) (by kernel_rfl) (by kernel_rfl) (fun _ _ _ h => h) (Or.inl ⟨by rfl, ?_⟩) hH ?_
  rotate_left
  · ((intro W hW; clear hW; go_simp) <;> with_reducible rfl)
  simp only [Act.put, List.getElem_toArray, List.getElem_cons_zero, List.setIfInBounds_toArray, List.set_cons_zero, List.set_cons_succ]
  refine wpAnyH_ready (rs := [1]) (by kernel_rfl) (by simp) ?_
  refine AllReadyH.cons (o := _) rfl (fun K hK => ?_) AllReadyH.nil
  simp only [List.getElem_toArray, List.getElem_cons_zero, List.getElem_cons_succ]
  go_simp
  with_reducible refine (lbound_is (b := true) _ (cl_of hcl) hst).mono ?_
  rintro e _ ⟨rfl, rfl⟩
  dsimp only
  refine hK.out _ _ hcl (fun hH3 => ?_)
  clear hK K
  refine wpAnyH_take (i := 2) (v := ?_) rfl (by kernel_rfl) (by kernel_rfl) (by kernel_rfl) (fun _ _ _ h => h) (Or.inl ⟨by rfl, ?_⟩) hH3 ?_
  rotate_left
  · ((intro W hW; clear hW; go_simp) <;> with_reducible rfl)
  simp only [Act.put, List.getElem_toArray, List.getElem_cons_zero, List.getElem_cons_succ, List.setIfInBounds_toArray, List.set_cons_zero, List.set_cons_succ]
  refine wpAnyH_take (i := 3) (v := ?_) rfl (by kernel_rfl) (by kernel_rfl) (by kernel_rfl) (fun _ _ _ h => h) (Or.inl ⟨by rfl, ?_⟩) hH3 ?_
  rotate_left
  · ((intro W hW; clear hW; go_simp) <;> with_reducible rfl)
  simp only [Act.put, List.getElem_toArray, List.getElem_cons_zero, List.getElem_cons_succ, List.setIfInBounds_toArray, List.set_cons_zero, List.set_cons_succ]
  refine wpAnyH_take (i := 4) (v := ?_) rfl (by kernel_rfl) (by kernel_rfl) (by kernel_rfl) (fun _ _ _ h => h) (Or.inl ⟨by rfl, ?_⟩) hH3 ?_
  rotate_left
  · ((intro W hW; clear hW; go_simp) <;> with_reducible rfl)
  simp only [Act.put, List.getElem_toArray, List.getElem_cons_zero, List.getElem_cons_succ, List.setIfInBounds_toArray, List.set_cons_zero, List.set_cons_succ]
  refine wpAnyH_take (i := 5) (v := ?_) rfl (by kernel_rfl) (by kernel_rfl) (by kernel_rfl) (fun _ _ _ h => h) (Or.inl ⟨by rfl, ?_⟩) hH3 ?_
  rotate_left
  · ((intro W hW; clear hW; go_simp) <;> with_reducible rfl)
  simp only [Act.put, List.getElem_toArray, List.getElem_cons_zero, List.getElem_cons_succ, List.setIfInBounds_toArray, List.set_cons_zero, List.set_cons_succ]
  refine wpAnyH_take (i := 6) (v := ?_) rfl (by kernel_rfl) (by kernel_rfl) (by kernel_rfl) (fun _ _ _ h => h) (Or.inl ⟨by rfl, ?_⟩) hH3 ?_
  rotate_left
  · ((intro W hW; have hk := cell_lit (hW) 6 _ rfl; clear hW; go_simp) <;> with_reducible rfl)
  simp only [Act.put, List.getElem_toArray, List.getElem_cons_zero, List.getElem_cons_succ, List.setIfInBounds_toArray, List.set_cons_zero, List.set_cons_succ]
  refine wpAnyH_take (i := 7) (v := ?_) rfl (by kernel_rfl) (by kernel_rfl) (by kernel_rfl) (fun _ _ _ h => h) (Or.inl ⟨by rfl, ?_⟩) hH3 ?_
  rotate_left
  · ((intro W hW; clear hW; go_simp) <;> with_reducible rfl)
  simp only [Act.put, List.getElem_toArray, List.getElem_cons_zero, List.getElem_cons_succ, List.setIfInBounds_toArray, List.set_cons_zero, List.set_cons_succ]
  refine wpAnyH_take (i := 8) (v := ?_) rfl (by kernel_rfl) (by kernel_rfl) (by kernel_rfl) (fun _ _ _ h => h) (Or.inl ⟨by rfl, ?_⟩) hH3 ?_
  rotate_left
  · ((intro W hW; clear hW; go_simp) <;> with_reducible rfl)
  simp only [Act.put, List.getElem_toArray, List.getElem_cons_zero, List.getElem_cons_succ, List.setIfInBounds_toArray, List.set_cons_zero, List.set_cons_succ]
  refine wpAnyH_take (i := 9) (v := ?_) rfl (by kernel_rfl) (by kernel_rfl) (by kernel_rfl) (fun _ _ _ h => h) (Or.inl ⟨by rfl, ?_⟩) hH3 ?_
  rotate_left
  · ((intro W hW; clear hW; go_simp) <;> with_reducible rfl)
  simp only [Act.put, List.getElem_toArray, List.getElem_cons_zero, List.getElem_cons_succ, List.setIfInBounds_toArray, List.set_cons_zero, List.set_cons_succ]
  refine wpAnyH_take (i := 10) (v := ?_) rfl (by kernel_rfl) (by kernel_rfl) (by kernel_rfl) (fun _ _ _ h => h) (Or.inl ⟨by rfl, ?_⟩) hH3 ?_
  rotate_left
  · ((intro W hW; clear hW; go_simp) <;> with_reducible rfl)
  simp only [Act.put, List.getElem_toArray, List.getElem_cons_zero, List.getElem_cons_succ, List.setIfInBounds_toArray, List.set_cons_zero, List.set_cons_succ]
  refine wpAnyH_take (i := 11) (v := ?_) rfl (by kernel_rfl) (by kernel_rfl) (by kernel_rfl) (fun _ _ _ h => h) (Or.inl ⟨by rfl, ?_⟩) hH3 ?_
  rotate_left
  · ((intro W hW; have hk := cell_lit (hW) 28 _ rfl; clear hW; go_simp) <;> with_reducible rfl)
  simp only [Act.put, List.getElem_toArray, List.getElem_cons_zero, List.getElem_cons_succ, List.setIfInBounds_toArray, List.set_cons_zero, List.set_cons_succ]
  refine wpAnyH_take (i := 12) (v := ?_) rfl (by kernel_rfl) (by kernel_rfl) (by kernel_rfl) (fun _ _ _ h => h) (Or.inl ⟨by rfl, ?_⟩) hH3 ?_
  rotate_left
  · ((intro W hW; clear hW; go_simp) <;> with_reducible rfl)
  simp only [Act.put, List.getElem_toArray, List.getElem_cons_zero, List.getElem_cons_succ, List.setIfInBounds_toArray, List.set_cons_zero, List.set_cons_succ]
  refine wpAnyH_take (i := 13) (v := ?_) rfl (by kernel_rfl) (by kernel_rfl) (by kernel_rfl) (fun _ _ _ h => h) (Or.inl ⟨by rfl, ?_⟩) hH3 ?_
  rotate_left
  · ((intro W hW; clear hW; go_simp) <;> with_reducible rfl)
  simp only [Act.put, List.getElem_toArray, List.getElem_cons_zero, List.getElem_cons_succ, List.setIfInBounds_toArray, List.set_cons_zero, List.set_cons_succ]
  refine wpAnyH_done (by kernel_rfl) ?_ _
  go_wp2_with fail
  go_wp2_with fail
  have hT : Cl lo gc w2 _ := ⟨hcl, ocl⟩
  clear hcl
  with_reducible refine (llose _ hT).mono ?_
  rintro e w4 ⟨rfl, hT_, k_, bb⟩
  replace kt := kt.trans k_
  clear hT
  have hT := hT_
  replace bel := bel.trans bb
  clear bb k_ hT_
  obtain ⟨hcl, _⟩ := hT
  have R29 := cell_lit hcl 7 _ rfl
  go_wp2_with (first | ((with_reducible show wpList _ _ _ (⟨none, Op.store _ (.tmp 35) _, _, _, _, _⟩ :: _) _ _); refine wpList_store_part rfl 30 (.tmp 35) (.tmp 33) rfl gc 8 rfl [.int .u32 draw] rfl [.int .u8 m0, .int .u8 m1, .int .u8 m2, .int .u8 m3, .int .u8 m4, .int .u8 m5, .int .i64 t, .int .i64 0, .int .u32 xid, .int .i64 sent, .int .i64 wait, .int .i64 tries, .int .u8 0, .int .u8 0, .int .u8 0, .int .u8 0, .int .u8 0, .int .u8 0, .int .u8 0, .int .u8 0, .int .u8 0, .int .u8 0, .int .u8 0, .int .u8 0, .int .u8 0, .int .u8 0, .int .u8 0, .int .u8 0, .int .i64 0, .int .i64 t1, .int .i64 t2] 51 hcl (by simp) [.int .u8 m0, .int .u8 m1, .int .u8 m2, .int .u8 m3, .int .u8 m4, .int .u8 m5, .int .i64 t, .int .i64 0, .int .u32 draw, .int .i64 sent, .int .i64 wait, .int .i64 tries, .int .u8 0, .int .u8 0, .int .u8 0, .int .u8 0, .int .u8 0, .int .u8 0, .int .u8 0, .int .u8 0, .int .u8 0, .int .u8 0, .int .u8 0, .int .u8 0, .int .u8 0, .int .u8 0, .int .u8 0, .int .u8 0, .int .i64 0, .int .i64 t1, .int .i64 t2] rfl (by kernel_rfl) (by rfl) ?_; intro w5 hq gr; replace kt := kt.trans (kt_grown gr hcl (by simp)); replace bel := below_grown bel gr ocl (Nat.le_trans hlo bel.size); clear hcl; have hcl := hq; clear hq gr))
  try clear R29
  go_wp2_with fail
  have hT : Cl lo gc w5 _ := ⟨hcl, ocl⟩
  clear hcl
  with_reducible refine (lbegin_1 _ hT).mono ?_
  rintro e w6 ⟨gm, rfl, hm, hT_, k_, bb⟩
  replace kt := kt.trans k_
  clear hT
  have hT := hT_
  replace bel := bel.trans bb
  clear bb k_ hT_
  go_wp2_with fail
  go_ret
  exact ⟨_, rfl, hm, hT, kt, bel⟩
set_option linter.unusedVariables false in
set_option linter.unusedSimpArgs false in
set_option maxRecDepth 100000 in
set_option maxHeartbeats 16000000 in
theorem ltick_1no {lo gc : Nat} {m0 m1 m2 m3 m4 m5 now xid sent wait tries a0 a1 a2 a3 k0 k1 k2 k3 r0 r1 r2 r3 s0 s1 s2 s3 un t1 t2 : Int} {t draw d : Int} (w : World) (hT : Cl lo gc w #[.int .u8 m0, .int .u8 m1, .int .u8 m2, .int .u8 m3, .int .u8 m4, .int .u8 m5, .int .i64 now, .int .i64 1, .int .u32 xid, .int .i64 sent, .int .i64 wait, .int .i64 tries, .int .u8 a0, .int .u8 a1, .int .u8 a2, .int .u8 a3, .int .u8 k0, .int .u8 k1, .int .u8 k2, .int .u8 k3, .int .u8 r0, .int .u8 r1, .int .u8 r2, .int .u8 r3, .int .u8 s0, .int .u8 s1, .int .u8 s2, .int .u8 s3, .int .i64 un, .int .i64 t1, .int .i64 t2]) (h0 : now ≤ t) (h2 : t ≤ 1099511627776) (hd : IntKind.i64.wrap (t - sent) = d) (hb : decide (wait ≤ d) = false) : Calls Try.prog 12 #[.pointer (some ⟨gc, 0, none⟩), .int .i64 t, .int .u32 draw] w fun e w' => e = .returned (.slice none 0 0) ∧ Cl lo gc w' #[.int .u8 m0, .int .u8 m1, .int .u8 m2, .int .u8 m3, .int .u8 m4, .int .u8 m5, .int .i64 t, .int .i64 1, .int .u32 xid, .int .i64 sent, .int .i64 wait, .int .i64 tries, .int .u8 a0, .int .u8 a1, .int .u8 a2, .int .u8 a3, .int .u8 k0, .int .u8 k1, .int .u8 k2, .int .u8 k3, .int .u8 r0, .int .u8 r1, .int .u8 r2, .int .u8 r3, .int .u8 s0, .int .u8 s1, .int .u8 s2, .int .u8 s3, .int .i64 un, .int .i64 t1, .int .i64 t2] ∧ Kt [51] w w' ∧ Below lo w w' := by
  obtain ⟨hcl, ocl⟩ := hT
  have hlo : lo ≤ w.heap.size := Nat.le_trans ocl (Nat.le_of_lt (hlt hcl))
  have kt := Kt.refl [51] w
  have bel := Below.refl lo w
  go_enter Try.func12, Try.ntmps12
  go_wp2_with fail
  go_wp2_with fail
  have hT : Cl lo gc w _ := ⟨hcl, ocl⟩
  clear hcl
  with_reducible refine (ladv _ hT h0 h2).mono ?_
  rintro e w1 ⟨rfl, hT_, k_, bb⟩
  replace kt := kt.trans k_
  clear hT
  have hT := hT_
  replace bel := bel.trans bb
  clear bb k_ hT_
  obtain ⟨hcl, _⟩ := hT
  go_wp2_with fail
  replace bel := bel.drew
  replace hcl : w1.drew.heap[gc]? = _ := hcl
  replace kt := kt_drew kt
  refine wp_region_held_drew (S := fun W => W.heap[gc]? = some (.cells #[.int .u8 m0, .int .u8 m1, .int .u8 m2, .int .u8 m3, .int .u8 m4, .int .u8 m5, .int .i64 t, .int .i64 1, .int .u32 xid, .int .i64 sent, .int .i64 wait, .int .i64 tries, .int .u8 a0, .int .u8 a1, .int .u8 a2, .int .u8 a3, .int .u8 k0, .int .u8 k1, .int .u8 k2, .int .u8 k3, .int .u8 r0, .int .u8 r1, .int .u8 r2, .int .u8 r3, .int .u8 s0, .int .u8 s1, .int .u8 s2, .int .u8 s3, .int .i64 un, .int .i64 t1, .int .i64 t2] 51 (0, 0))) (by kernel_rfl) hcl (fun hH => ?_)
  generalize w1.drew = w2 at bel hcl kt hH ⊢
  refine wpAnyH_take (i := 0) (v := ?_) rfl (by kernel_rfl) (by kernel_rfl) (by kernel_rfl) (fun _ _ _ h => h) (Or.inl ⟨by rfl, ?_⟩) hH ?_
  rotate_left
  · ((intro W hW; clear hW; go_simp) <;> with_reducible rfl)
  simp only [Act.put, List.getElem_toArray, List.getElem_cons_zero, List.setIfInBounds_toArray, List.set_cons_zero, List.set_cons_succ]
  refine wpAnyH_ready (rs := [1]) (by kernel_rfl) (by simp) ?_
  refine AllReadyH.cons (o := _) rfl (fun K hK => ?_) AllReadyH.nil
  simp only [List.getElem_toArray, List.getElem_cons_zero, List.getElem_cons_succ]
  go_simp
  with_reducible refine (lbound_is (b := false) _ (cl_of hcl) (by decide)).mono ?_
  rintro e _ ⟨rfl, rfl⟩
  dsimp only
  refine hK.out _ _ hcl (fun hH3 => ?_)
  clear hK K
  refine wpAnyH_take (i := 2) (v := ?_) rfl (by kernel_rfl) (by kernel_rfl) (by kernel_rfl) (fun _ _ _ h => h) (Or.inl ⟨by rfl, ?_⟩) hH3 ?_
  rotate_left
  · ((intro W hW; clear hW; go_simp) <;> with_reducible rfl)
  simp only [Act.put, List.getElem_toArray, List.getElem_cons_zero, List.getElem_cons_succ, List.setIfInBounds_toArray, List.set_cons_zero, List.set_cons_succ]
  refine wpAnyH_take (i := 3) (v := undef) rfl (by kernel_rfl) (by kernel_rfl) (by kernel_rfl) (fun _ _ _ h => h) (Or.inr ⟨by rfl, rfl⟩) hH3 ?_
  simp only [Act.put, List.getElem_toArray, List.getElem_cons_zero, List.getElem_cons_succ, List.setIfInBounds_toArray, List.set_cons_zero, List.set_cons_succ]
  refine wpAnyH_take (i := 4) (v := undef) rfl (by kernel_rfl) (by kernel_rfl) (by kernel_rfl) (fun _ _ _ h => h) (Or.inr ⟨by rfl, rfl⟩) hH3 ?_
  simp only [Act.put, List.getElem_toArray, List.getElem_cons_zero, List.getElem_cons_succ, List.setIfInBounds_toArray, List.set_cons_zero, List.set_cons_succ]
  refine wpAnyH_take (i := 5) (v := undef) rfl (by kernel_rfl) (by kernel_rfl) (by kernel_rfl) (fun _ _ _ h => h) (Or.inr ⟨by rfl, rfl⟩) hH3 ?_
  simp only [Act.put, List.getElem_toArray, List.getElem_cons_zero, List.getElem_cons_succ, List.setIfInBounds_toArray, List.set_cons_zero, List.set_cons_succ]
  refine wpAnyH_take (i := 6) (v := undef) rfl (by kernel_rfl) (by kernel_rfl) (by kernel_rfl) (fun _ _ _ h => h) (Or.inr ⟨by rfl, rfl⟩) hH3 ?_
  simp only [Act.put, List.getElem_toArray, List.getElem_cons_zero, List.getElem_cons_succ, List.setIfInBounds_toArray, List.set_cons_zero, List.set_cons_succ]
  refine wpAnyH_take (i := 7) (v := undef) rfl (by kernel_rfl) (by kernel_rfl) (by kernel_rfl) (fun _ _ _ h => h) (Or.inr ⟨by rfl, rfl⟩) hH3 ?_
  simp only [Act.put, List.getElem_toArray, List.getElem_cons_zero, List.getElem_cons_succ, List.setIfInBounds_toArray, List.set_cons_zero, List.set_cons_succ]
  refine wpAnyH_take (i := 8) (v := undef) rfl (by kernel_rfl) (by kernel_rfl) (by kernel_rfl) (fun _ _ _ h => h) (Or.inr ⟨by rfl, rfl⟩) hH3 ?_
  simp only [Act.put, List.getElem_toArray, List.getElem_cons_zero, List.getElem_cons_succ, List.setIfInBounds_toArray, List.set_cons_zero, List.set_cons_succ]
  refine wpAnyH_take (i := 9) (v := undef) rfl (by kernel_rfl) (by kernel_rfl) (by kernel_rfl) (fun _ _ _ h => h) (Or.inr ⟨by rfl, rfl⟩) hH3 ?_
  simp only [Act.put, List.getElem_toArray, List.getElem_cons_zero, List.getElem_cons_succ, List.setIfInBounds_toArray, List.set_cons_zero, List.set_cons_succ]
  refine wpAnyH_take (i := 10) (v := undef) rfl (by kernel_rfl) (by kernel_rfl) (by kernel_rfl) (fun _ _ _ h => h) (Or.inr ⟨by rfl, rfl⟩) hH3 ?_
  simp only [Act.put, List.getElem_toArray, List.getElem_cons_zero, List.getElem_cons_succ, List.setIfInBounds_toArray, List.set_cons_zero, List.set_cons_succ]
  refine wpAnyH_take (i := 11) (v := undef) rfl (by kernel_rfl) (by kernel_rfl) (by kernel_rfl) (fun _ _ _ h => h) (Or.inr ⟨by rfl, rfl⟩) hH3 ?_
  simp only [Act.put, List.getElem_toArray, List.getElem_cons_zero, List.getElem_cons_succ, List.setIfInBounds_toArray, List.set_cons_zero, List.set_cons_succ]
  refine wpAnyH_take (i := 12) (v := undef) rfl (by kernel_rfl) (by kernel_rfl) (by kernel_rfl) (fun _ _ _ h => h) (Or.inr ⟨by rfl, rfl⟩) hH3 ?_
  simp only [Act.put, List.getElem_toArray, List.getElem_cons_zero, List.getElem_cons_succ, List.setIfInBounds_toArray, List.set_cons_zero, List.set_cons_succ]
  refine wpAnyH_take (i := 13) (v := ?_) rfl (by kernel_rfl) (by kernel_rfl) (by kernel_rfl) (fun _ _ _ h => h) (Or.inl ⟨by rfl, ?_⟩) hH3 ?_
  rotate_left
  · ((intro W hW; clear hW; go_simp) <;> with_reducible rfl)
  simp only [Act.put, List.getElem_toArray, List.getElem_cons_zero, List.getElem_cons_succ, List.setIfInBounds_toArray, List.set_cons_zero, List.set_cons_succ]
  refine wpAnyH_done (by kernel_rfl) ?_ _
  have R29 := cell_lit hcl 7 _ rfl
  go_wp2_with fail
  clear R29
  go_wp2_with fail
  have hT : Cl lo gc w2 _ := ⟨hcl, ocl⟩
  clear hcl
  with_reducible refine (ltry_no _ hT hd hb).mono ?_
  rintro e w4 ⟨rfl, hT_, k_, bb⟩
  replace kt := kt.trans k_
  clear hT
  have hT := hT_
  replace bel := bel.trans bb
  clear bb k_ hT_
  obtain ⟨hcl, _⟩ := hT
  go_wp2_with fail
  go_ret
  exact ⟨rfl, ⟨hcl, ocl⟩, kt, bel⟩
set_option linter.unusedVariables false in
set_option linter.unusedSimpArgs false in
set_option maxRecDepth 100000 in
set_option maxHeartbeats 16000000 in
theorem ltick_1yes {lo gc : Nat} {m0 m1 m2 m3 m4 m5 now xid sent wait tries a0 a1 a2 a3 k0 k1 k2 k3 r0 r1 r2 r3 s0 s1 s2 s3 un t1 t2 : Int} {t draw d wn q : Int} (w : World) (hT : Cl lo gc w #[.int .u8 m0, .int .u8 m1, .int .u8 m2, .int .u8 m3, .int .u8 m4, .int .u8 m5, .int .i64 now, .int .i64 1, .int .u32 xid, .int .i64 sent, .int .i64 wait, .int .i64 tries, .int .u8 a0, .int .u8 a1, .int .u8 a2, .int .u8 a3, .int .u8 k0, .int .u8 k1, .int .u8 k2, .int .u8 k3, .int .u8 r0, .int .u8 r1, .int .u8 r2, .int .u8 r3, .int .u8 s0, .int .u8 s1, .int .u8 s2, .int .u8 s3, .int .i64 un, .int .i64 t1, .int .i64 t2]) (h0 : now ≤ t) (h2 : t ≤ 1099511627776) (hd : IntKind.i64.wrap (t - sent) = d) (hb : decide (wait ≤ d) = true) (hw : IntKind.i64.wrap (2 * wait) = 2 * wait) (hw2 : (if 64 < 2 * wait then 64 else 2 * wait) = wn) (hq : IntKind.i64.wrap (tries + 1) = q) : Calls Try.prog 12 #[.pointer (some ⟨gc, 0, none⟩), .int .i64 t, .int .u32 draw] w fun e w' => ∃ g, e = .returned (.slice (some ⟨g, 0, none⟩) 1 1) ∧ Ms w' g [.int .i64 1, .int .i64 0, .int .u32 xid, .int .i64 0, .int .i64 32768, .int .u8 0, .int .u8 0, .int .u8 0, .int .u8 0, .int .u8 0, .int .u8 0, .int .u8 0, .int .u8 0, .int .u8 0, .int .u8 0, .int .u8 0, .int .u8 0, .int .u8 0, .int .u8 0, .int .u8 0, .int .u8 0, .int .u8 m0, .int .u8 m1, .int .u8 m2, .int .u8 m3, .int .u8 m4, .int .u8 m5] 1 ∧ Cl lo gc w' #[.int .u8 m0, .int .u8 m1, .int .u8 m2, .int .u8 m3, .int .u8 m4, .int .u8 m5, .int .i64 t, .int .i64 1, .int .u32 xid, .int .i64 t, .int .i64 wn, .int .i64 q, .int .u8 a0, .int .u8 a1, .int .u8 a2, .int .u8 a3, .int .u8 k0, .int .u8 k1, .int .u8 k2, .int .u8 k3, .int .u8 r0, .int .u8 r1, .int .u8 r2, .int .u8 r3, .int .u8 s0, .int .u8 s1, .int .u8 s2, .int .u8 s3, .int .i64 un, .int .i64 t1, .int .i64 t2] ∧ Kt [51] w w' ∧ Below lo w w' := by
  obtain ⟨hcl, ocl⟩ := hT
  have hlo : lo ≤ w.heap.size := Nat.le_trans ocl (Nat.le_of_lt (hlt hcl))
  have kt := Kt.refl [51] w
  have bel := Below.refl lo w
  go_enter Try.func12, Try.ntmps12
  go_wp2_with fail
  go_wp2_with fail
  have hT : Cl lo gc w _ := ⟨hcl, ocl⟩
  clear hcl
  with_reducible refine (ladv _ hT h0 h2).mono ?_
  rintro e w1 ⟨rfl, hT_, k_, bb⟩
  replace kt := kt.trans k_
  clear hT
  have hT := hT_
  replace bel := bel.trans bb
  clear bb k_ hT_
  obtain ⟨hcl, _⟩ := hT
  go_wp2_with fail
  replace bel := bel.drew
  replace hcl : w1.drew.heap[gc]? = _ := hcl
  replace kt := kt_drew kt
  refine wp_region_held_drew (S := fun W => W.heap[gc]? = some (.cells #[.int .u8 m0, .int .u8 m1, .int .u8 m2, .int .u8 m3, .int .u8 m4, .int .u8 m5, .int .i64 t, .int .i64 1, .int .u32 xid, .int .i64 sent, .int .i64 wait, .int .i64 tries, .int .u8 a0, .int .u8 a1, .int .u8 a2, .int .u8 a3, .int .u8 k0, .int .u8 k1, .int .u8 k2, .int .u8 k3, .int .u8 r0, .int .u8 r1, .int .u8 r2, .int .u8 r3, .int .u8 s0, .int .u8 s1, .int .u8 s2, .int .u8 s3, .int .i64 un, .int .i64 t1, .int .i64 t2] 51 (0, 0))) (by kernel_rfl) hcl (fun hH => ?_)
  generalize w1.drew = w2 at bel hcl kt hH ⊢
  refine wpAnyH_take (i := 0) (v := ?_) rfl (by kernel_rfl) (by kernel_rfl) (by kernel_rfl) (fun _ _ _ h => h) (Or.inl ⟨by rfl, ?_⟩) hH ?_
  rotate_left
  · ((intro W hW; clear hW; go_simp) <;> with_reducible rfl)
  simp only [Act.put, List.getElem_toArray, List.getElem_cons_zero, List.setIfInBounds_toArray, List.set_cons_zero, List.set_cons_succ]
  refine wpAnyH_ready (rs := [1]) (by kernel_rfl) (by simp) ?_
  refine AllReadyH.cons (o := _) rfl (fun K hK => ?_) AllReadyH.nil
  simp only [List.getElem_toArray, List.getElem_cons_zero, List.getElem_cons_succ]
  go_simp
  with_reducible refine (lbound_is (b := false) _ (cl_of hcl) (by decide)).mono ?_
  rintro e _ ⟨rfl, rfl⟩
  dsimp only
  refine hK.out _ _ hcl (fun hH3 => ?_)
  clear hK K
  refine wpAnyH_take (i := 2) (v := ?_) rfl (by kernel_rfl) (by kernel_rfl) (by kernel_rfl) (fun _ _ _ h => h) (Or.inl ⟨by rfl, ?_⟩) hH3 ?_
  rotate_left
  · ((intro W hW; clear hW; go_simp) <;> with_reducible rfl)
  simp only [Act.put, List.getElem_toArray, List.getElem_cons_zero, List.getElem_cons_succ, List.setIfInBounds_toArray, List.set_cons_zero, List.set_cons_succ]
  refine wpAnyH_take (i := 3) (v := undef) rfl (by kernel_rfl) (by kernel_rfl) (by kernel_rfl) (fun _ _ _ h => h) (Or.inr ⟨by rfl, rfl⟩) hH3 ?_
  simp only [Act.put, List.getElem_toArray, List.getElem_cons_zero, List.getElem_cons_succ, List.setIfInBounds_toArray, List.set_cons_zero, List.set_cons_succ]
  refine wpAnyH_take (i := 4) (v := undef) rfl (by kernel_rfl) (by kernel_rfl) (by kernel_rfl) (fun _ _ _ h => h) (Or.inr ⟨by rfl, rfl⟩) hH3 ?_
  simp only [Act.put, List.getElem_toArray, List.getElem_cons_zero, List.getElem_cons_succ, List.setIfInBounds_toArray, List.set_cons_zero, List.set_cons_succ]
  refine wpAnyH_take (i := 5) (v := undef) rfl (by kernel_rfl) (by kernel_rfl) (by kernel_rfl) (fun _ _ _ h => h) (Or.inr ⟨by rfl, rfl⟩) hH3 ?_
  simp only [Act.put, List.getElem_toArray, List.getElem_cons_zero, List.getElem_cons_succ, List.setIfInBounds_toArray, List.set_cons_zero, List.set_cons_succ]
  refine wpAnyH_take (i := 6) (v := undef) rfl (by kernel_rfl) (by kernel_rfl) (by kernel_rfl) (fun _ _ _ h => h) (Or.inr ⟨by rfl, rfl⟩) hH3 ?_
  simp only [Act.put, List.getElem_toArray, List.getElem_cons_zero, List.getElem_cons_succ, List.setIfInBounds_toArray, List.set_cons_zero, List.set_cons_succ]
  refine wpAnyH_take (i := 7) (v := undef) rfl (by kernel_rfl) (by kernel_rfl) (by kernel_rfl) (fun _ _ _ h => h) (Or.inr ⟨by rfl, rfl⟩) hH3 ?_
  simp only [Act.put, List.getElem_toArray, List.getElem_cons_zero, List.getElem_cons_succ, List.setIfInBounds_toArray, List.set_cons_zero, List.set_cons_succ]
  refine wpAnyH_take (i := 8) (v := undef) rfl (by kernel_rfl) (by kernel_rfl) (by kernel_rfl) (fun _ _ _ h => h) (Or.inr ⟨by rfl, rfl⟩) hH3 ?_
  simp only [Act.put, List.getElem_toArray, List.getElem_cons_zero, List.getElem_cons_succ, List.setIfInBounds_toArray, List.set_cons_zero, List.set_cons_succ]
  refine wpAnyH_take (i := 9) (v := undef) rfl (by kernel_rfl) (by kernel_rfl) (by kernel_rfl) (fun _ _ _ h => h) (Or.inr ⟨by rfl, rfl⟩) hH3 ?_
  simp only [Act.put, List.getElem_toArray, List.getElem_cons_zero, List.getElem_cons_succ, List.setIfInBounds_toArray, List.set_cons_zero, List.set_cons_succ]
  refine wpAnyH_take (i := 10) (v := undef) rfl (by kernel_rfl) (by kernel_rfl) (by kernel_rfl) (fun _ _ _ h => h) (Or.inr ⟨by rfl, rfl⟩) hH3 ?_
  simp only [Act.put, List.getElem_toArray, List.getElem_cons_zero, List.getElem_cons_succ, List.setIfInBounds_toArray, List.set_cons_zero, List.set_cons_succ]
  refine wpAnyH_take (i := 11) (v := undef) rfl (by kernel_rfl) (by kernel_rfl) (by kernel_rfl) (fun _ _ _ h => h) (Or.inr ⟨by rfl, rfl⟩) hH3 ?_
  simp only [Act.put, List.getElem_toArray, List.getElem_cons_zero, List.getElem_cons_succ, List.setIfInBounds_toArray, List.set_cons_zero, List.set_cons_succ]
  refine wpAnyH_take (i := 12) (v := undef) rfl (by kernel_rfl) (by kernel_rfl) (by kernel_rfl) (fun _ _ _ h => h) (Or.inr ⟨by rfl, rfl⟩) hH3 ?_
  simp only [Act.put, List.getElem_toArray, List.getElem_cons_zero, List.getElem_cons_succ, List.setIfInBounds_toArray, List.set_cons_zero, List.set_cons_succ]
  refine wpAnyH_take (i := 13) (v := ?_) rfl (by kernel_rfl) (by kernel_rfl) (by kernel_rfl) (fun _ _ _ h => h) (Or.inl ⟨by rfl, ?_⟩) hH3 ?_
  rotate_left
  · ((intro W hW; clear hW; go_simp) <;> with_reducible rfl)
  simp only [Act.put, List.getElem_toArray, List.getElem_cons_zero, List.getElem_cons_succ, List.setIfInBounds_toArray, List.set_cons_zero, List.set_cons_succ]
  refine wpAnyH_done (by kernel_rfl) ?_ _
  have R29 := cell_lit hcl 7 _ rfl
  go_wp2_with fail
  clear R29
  go_wp2_with fail
  have hT : Cl lo gc w2 _ := ⟨hcl, ocl⟩
  clear hcl
  with_reducible refine (ltry_yes _ hT hd hb hw hw2 hq).mono ?_
  rintro e w4 ⟨gm, rfl, hm, hT_, k_, bb⟩
  replace kt := kt.trans k_
  clear hT
  have hT := hT_
  replace bel := bel.trans bb
  clear bb k_ hT_
  go_wp2_with fail
  go_ret
  exact ⟨_, rfl, hm, hT, kt, bel⟩
set_option linter.unusedVariables false in
set_option linter.unusedSimpArgs false in
set_option maxRecDepth 100000 in
set_option maxHeartbeats 16000000 in
theorem ltick_3no {lo gc : Nat} {m0 m1 m2 m3 m4 m5 now xid sent wait tries a0 a1 a2 a3 k0 k1 k2 k3 r0 r1 r2 r3 s0 s1 s2 s3 un t1 t2 : Int} {t draw : Int} (w : World) (hT : Cl lo gc w #[.int .u8 m0, .int .u8 m1, .int .u8 m2, .int .u8 m3, .int .u8 m4, .int .u8 m5, .int .i64 now, .int .i64 3, .int .u32 xid, .int .i64 sent, .int .i64 wait, .int .i64 tries, .int .u8 a0, .int .u8 a1, .int .u8 a2, .int .u8 a3, .int .u8 k0, .int .u8 k1, .int .u8 k2, .int .u8 k3, .int .u8 r0, .int .u8 r1, .int .u8 r2, .int .u8 r3, .int .u8 s0, .int .u8 s1, .int .u8 s2, .int .u8 s3, .int .i64 un, .int .i64 t1, .int .i64 t2]) (h0 : now ≤ t) (h2 : t ≤ 1099511627776) (hu : decide (un ≤ t) = false) (hq : t < t1) : Calls Try.prog 12 #[.pointer (some ⟨gc, 0, none⟩), .int .i64 t, .int .u32 draw] w fun e w' => e = .returned (.slice none 0 0) ∧ Cl lo gc w' #[.int .u8 m0, .int .u8 m1, .int .u8 m2, .int .u8 m3, .int .u8 m4, .int .u8 m5, .int .i64 t, .int .i64 3, .int .u32 xid, .int .i64 sent, .int .i64 wait, .int .i64 tries, .int .u8 a0, .int .u8 a1, .int .u8 a2, .int .u8 a3, .int .u8 k0, .int .u8 k1, .int .u8 k2, .int .u8 k3, .int .u8 r0, .int .u8 r1, .int .u8 r2, .int .u8 r3, .int .u8 s0, .int .u8 s1, .int .u8 s2, .int .u8 s3, .int .i64 un, .int .i64 t1, .int .i64 t2] ∧ Kt [51] w w' ∧ Below lo w w' := by
  obtain ⟨hcl, ocl⟩ := hT
  have hlo : lo ≤ w.heap.size := Nat.le_trans ocl (Nat.le_of_lt (hlt hcl))
  have kt := Kt.refl [51] w
  have bel := Below.refl lo w
  go_enter Try.func12, Try.ntmps12
  go_wp2_with fail
  go_wp2_with fail
  have hT : Cl lo gc w _ := ⟨hcl, ocl⟩
  clear hcl
  with_reducible refine (ladv _ hT h0 h2).mono ?_
  rintro e w1 ⟨rfl, hT_, k_, bb⟩
  replace kt := kt.trans k_
  clear hT
  have hT := hT_
  replace bel := bel.trans bb
  clear bb k_ hT_
  obtain ⟨hcl, _⟩ := hT
  go_wp2_with fail
  replace bel := bel.drew
  replace hcl : w1.drew.heap[gc]? = _ := hcl
  replace kt := kt_drew kt
  refine wp_region_held_drew (S := fun W => W.heap[gc]? = some (.cells #[.int .u8 m0, .int .u8 m1, .int .u8 m2, .int .u8 m3, .int .u8 m4, .int .u8 m5, .int .i64 t, .int .i64 3, .int .u32 xid, .int .i64 sent, .int .i64 wait, .int .i64 tries, .int .u8 a0, .int .u8 a1, .int .u8 a2, .int .u8 a3, .int .u8 k0, .int .u8 k1, .int .u8 k2, .int .u8 k3, .int .u8 r0, .int .u8 r1, .int .u8 r2, .int .u8 r3, .int .u8 s0, .int .u8 s1, .int .u8 s2, .int .u8 s3, .int .i64 un, .int .i64 t1, .int .i64 t2] 51 (0, 0))) (by kernel_rfl) hcl (fun hH => ?_)
  generalize w1.drew = w2 at bel hcl kt hH ⊢
  refine wpAnyH_take (i := 0) (v := ?_) rfl (by kernel_rfl) (by kernel_rfl) (by kernel_rfl) (fun _ _ _ h => h) (Or.inl ⟨by rfl, ?_⟩) hH ?_
  rotate_left
  · ((intro W hW; clear hW; go_simp) <;> with_reducible rfl)
  simp only [Act.put, List.getElem_toArray, List.getElem_cons_zero, List.setIfInBounds_toArray, List.set_cons_zero, List.set_cons_succ]
  refine wpAnyH_ready (rs := [1]) (by kernel_rfl) (by simp) ?_
  refine AllReadyH.cons (o := _) rfl (fun K hK => ?_) AllReadyH.nil
  simp only [List.getElem_toArray, List.getElem_cons_zero, List.getElem_cons_succ]
  go_simp
  with_reducible refine (lbound_is (b := true) _ (cl_of hcl) (by decide)).mono ?_
  rintro e _ ⟨rfl, rfl⟩
  dsimp only
  refine hK.out _ _ hcl (fun hH3 => ?_)
  clear hK K
  refine wpAnyH_take (i := 2) (v := ?_) rfl (by kernel_rfl) (by kernel_rfl) (by kernel_rfl) (fun _ _ _ h => h) (Or.inl ⟨by rfl, ?_⟩) hH3 ?_
  rotate_left
  · ((intro W hW; clear hW; go_simp) <;> with_reducible rfl)
  simp only [Act.put, List.getElem_toArray, List.getElem_cons_zero, List.getElem_cons_succ, List.setIfInBounds_toArray, List.set_cons_zero, List.set_cons_succ]
  refine wpAnyH_take (i := 3) (v := ?_) rfl (by kernel_rfl) (by kernel_rfl) (by kernel_rfl) (fun _ _ _ h => h) (Or.inl ⟨by rfl, ?_⟩) hH3 ?_
  rotate_left
  · ((intro W hW; clear hW; go_simp) <;> with_reducible rfl)
  simp only [Act.put, List.getElem_toArray, List.getElem_cons_zero, List.getElem_cons_succ, List.setIfInBounds_toArray, List.set_cons_zero, List.set_cons_succ]
  refine wpAnyH_take (i := 4) (v := ?_) rfl (by kernel_rfl) (by kernel_rfl) (by kernel_rfl) (fun _ _ _ h => h) (Or.inl ⟨by rfl, ?_⟩) hH3 ?_
  rotate_left
  · ((intro W hW; clear hW; go_simp) <;> with_reducible rfl)
  simp only [Act.put, List.getElem_toArray, List.getElem_cons_zero, List.getElem_cons_succ, List.setIfInBounds_toArray, List.set_cons_zero, List.set_cons_succ]
  refine wpAnyH_take (i := 5) (v := ?_) rfl (by kernel_rfl) (by kernel_rfl) (by kernel_rfl) (fun _ _ _ h => h) (Or.inl ⟨by rfl, ?_⟩) hH3 ?_
  rotate_left
  · ((intro W hW; clear hW; go_simp) <;> with_reducible rfl)
  simp only [Act.put, List.getElem_toArray, List.getElem_cons_zero, List.getElem_cons_succ, List.setIfInBounds_toArray, List.set_cons_zero, List.set_cons_succ]
  refine wpAnyH_take (i := 6) (v := ?_) rfl (by kernel_rfl) (by kernel_rfl) (by kernel_rfl) (fun _ _ _ h => h) (Or.inl ⟨by rfl, ?_⟩) hH3 ?_
  rotate_left
  · ((intro W hW; have hk := cell_lit (hW) 6 _ rfl; clear hW; go_simp) <;> with_reducible rfl)
  simp only [Act.put, List.getElem_toArray, List.getElem_cons_zero, List.getElem_cons_succ, List.setIfInBounds_toArray, List.set_cons_zero, List.set_cons_succ]
  refine wpAnyH_take (i := 7) (v := ?_) rfl (by kernel_rfl) (by kernel_rfl) (by kernel_rfl) (fun _ _ _ h => h) (Or.inl ⟨by rfl, ?_⟩) hH3 ?_
  rotate_left
  · ((intro W hW; clear hW; go_simp) <;> with_reducible rfl)
  simp only [Act.put, List.getElem_toArray, List.getElem_cons_zero, List.getElem_cons_succ, List.setIfInBounds_toArray, List.set_cons_zero, List.set_cons_succ]
  refine wpAnyH_take (i := 8) (v := ?_) rfl (by kernel_rfl) (by kernel_rfl) (by kernel_rfl) (fun _ _ _ h => h) (Or.inl ⟨by rfl, ?_⟩) hH3 ?_
  rotate_left
  · ((intro W hW; clear hW; go_simp) <;> with_reducible rfl)
  simp only [Act.put, List.getElem_toArray, List.getElem_cons_zero, List.getElem_cons_succ, List.setIfInBounds_toArray, List.set_cons_zero, List.set_cons_succ]
  refine wpAnyH_take (i := 9) (v := ?_) rfl (by kernel_rfl) (by kernel_rfl) (by kernel_rfl) (fun _ _ _ h => h) (Or.inl ⟨by rfl, ?_⟩) hH3 ?_
  rotate_left
  · ((intro W hW; clear hW; go_simp) <;> with_reducible rfl)
  simp only [Act.put, List.getElem_toArray, List.getElem_cons_zero, List.getElem_cons_succ, List.setIfInBounds_toArray, List.set_cons_zero, List.set_cons_succ]
  refine wpAnyH_take (i := 10) (v := ?_) rfl (by kernel_rfl) (by kernel_rfl) (by kernel_rfl) (fun _ _ _ h => h) (Or.inl ⟨by rfl, ?_⟩) hH3 ?_
  rotate_left
  · ((intro W hW; clear hW; go_simp) <;> with_reducible rfl)
  simp only [Act.put, List.getElem_toArray, List.getElem_cons_zero, List.getElem_cons_succ, List.setIfInBounds_toArray, List.set_cons_zero, List.set_cons_succ]
  refine wpAnyH_take (i := 11) (v := ?_) rfl (by kernel_rfl) (by kernel_rfl) (by kernel_rfl) (fun _ _ _ h => h) (Or.inl ⟨by rfl, ?_⟩) hH3 ?_
  rotate_left
  · ((intro W hW; have hk := cell_lit (hW) 28 _ rfl; clear hW; go_simp) <;> with_reducible rfl)
  simp only [Act.put, List.getElem_toArray, List.getElem_cons_zero, List.getElem_cons_succ, List.setIfInBounds_toArray, List.set_cons_zero, List.set_cons_succ]
  refine wpAnyH_take (i := 12) (v := ?_) rfl (by kernel_rfl) (by kernel_rfl) (by kernel_rfl) (fun _ _ _ h => h) (Or.inl ⟨by rfl, ?_⟩) hH3 ?_
  rotate_left
  · ((intro W hW; clear hW; go_simp) <;> with_reducible rfl)
  simp only [Act.put, List.getElem_toArray, List.getElem_cons_zero, List.getElem_cons_succ, List.setIfInBounds_toArray, List.set_cons_zero, List.set_cons_succ]
  refine wpAnyH_take (i := 13) (v := ?_) rfl (by kernel_rfl) (by kernel_rfl) (by kernel_rfl) (fun _ _ _ h => h) (Or.inl ⟨by rfl, ?_⟩) hH3 ?_
  rotate_left
  · ((intro W hW; clear hW; go_simp) <;> with_reducible rfl)
  simp only [Act.put, List.getElem_toArray, List.getElem_cons_zero, List.getElem_cons_succ, List.setIfInBounds_toArray, List.set_cons_zero, List.set_cons_succ]
  refine wpAnyH_done (by kernel_rfl) ?_ _
  have R29 := cell_lit hcl 7 _ rfl
  go_wp2_with fail
  clear R29
  replace bel := bel.drew
  replace hcl : w2.drew.heap[gc]? = _ := hcl
  replace kt := kt_drew kt
  refine wp_region_held_drew (S := fun W => W.heap[gc]? = some (.cells #[.int .u8 m0, .int .u8 m1, .int .u8 m2, .int .u8 m3, .int .u8 m4, .int .u8 m5, .int .i64 t, .int .i64 3, .int .u32 xid, .int .i64 sent, .int .i64 wait, .int .i64 tries, .int .u8 a0, .int .u8 a1, .int .u8 a2, .int .u8 a3, .int .u8 k0, .int .u8 k1, .int .u8 k2, .int .u8 k3, .int .u8 r0, .int .u8 r1, .int .u8 r2, .int .u8 r3, .int .u8 s0, .int .u8 s1, .int .u8 s2, .int .u8 s3, .int .i64 un, .int .i64 t1, .int .i64 t2] 51 (0, 0))) (by kernel_rfl) hcl (fun hH => ?_)
  generalize w2.drew = w4 at bel hcl kt hH ⊢
  refine wpAnyH_take (i := 0) (v := ?_) rfl (by kernel_rfl) (by kernel_rfl) (by kernel_rfl) (fun _ _ _ h => h) (Or.inl ⟨by rfl, ?_⟩) hH ?_
  rotate_left
  · ((intro W hW; clear hW; go_simp) <;> with_reducible rfl)
  simp only [Act.put, List.getElem_toArray, List.getElem_cons_zero, List.setIfInBounds_toArray, List.set_cons_zero, List.set_cons_succ]
  refine wpAnyH_take (i := 1) (v := ?_) rfl (by kernel_rfl) (by kernel_rfl) (by kernel_rfl) (fun _ _ _ h => h) (Or.inl ⟨by rfl, ?_⟩) hH ?_
  rotate_left
  · ((intro W hW; clear hW; go_simp) <;> with_reducible rfl)
  simp only [Act.put, List.getElem_toArray, List.getElem_cons_zero, List.getElem_cons_succ, List.setIfInBounds_toArray, List.set_cons_zero, List.set_cons_succ]
  refine wpAnyH_take (i := 2) (v := ?_) rfl (by kernel_rfl) (by kernel_rfl) (by kernel_rfl) (fun _ _ _ h => h) (Or.inl ⟨by rfl, ?_⟩) hH ?_
  rotate_left
  · ((intro W hW; clear hW; go_simp) <;> with_reducible rfl)
  simp only [Act.put, List.getElem_toArray, List.getElem_cons_zero, List.getElem_cons_succ, List.setIfInBounds_toArray, List.set_cons_zero, List.set_cons_succ]
  refine wpAnyH_take (i := 3) (v := ?_) rfl (by kernel_rfl) (by kernel_rfl) (by kernel_rfl) (fun _ _ _ h => h) (Or.inl ⟨by rfl, ?_⟩) hH ?_
  rotate_left
  · ((intro W hW; have hk := cell_lit (hW) 6 _ rfl; clear hW; go_simp) <;> with_reducible rfl)
  simp only [Act.put, List.getElem_toArray, List.getElem_cons_zero, List.getElem_cons_succ, List.setIfInBounds_toArray, List.set_cons_zero, List.set_cons_succ]
  refine wpAnyH_take (i := 4) (v := ?_) rfl (by kernel_rfl) (by kernel_rfl) (by kernel_rfl) (fun _ _ _ h => h) (Or.inl ⟨by rfl, ?_⟩) hH ?_
  rotate_left
  · ((intro W hW; clear hW; go_simp) <;> with_reducible rfl)
  simp only [Act.put, List.getElem_toArray, List.getElem_cons_zero, List.getElem_cons_succ, List.setIfInBounds_toArray, List.set_cons_zero, List.set_cons_succ]
  refine wpAnyH_take (i := 5) (v := ?_) rfl (by kernel_rfl) (by kernel_rfl) (by kernel_rfl) (fun _ _ _ h => h) (Or.inl ⟨by rfl, ?_⟩) hH ?_
  rotate_left
  · ((intro W hW; clear hW; go_simp) <;> with_reducible rfl)
  simp only [Act.put, List.getElem_toArray, List.getElem_cons_zero, List.getElem_cons_succ, List.setIfInBounds_toArray, List.set_cons_zero, List.set_cons_succ]
  refine wpAnyH_take (i := 6) (v := ?_) rfl (by kernel_rfl) (by kernel_rfl) (by kernel_rfl) (fun _ _ _ h => h) (Or.inl ⟨by rfl, ?_⟩) hH ?_
  rotate_left
  · ((intro W hW; clear hW; go_simp) <;> with_reducible rfl)
  simp only [Act.put, List.getElem_toArray, List.getElem_cons_zero, List.getElem_cons_succ, List.setIfInBounds_toArray, List.set_cons_zero, List.set_cons_succ]
  refine wpAnyH_take (i := 7) (v := ?_) rfl (by kernel_rfl) (by kernel_rfl) (by kernel_rfl) (fun _ _ _ h => h) (Or.inl ⟨by rfl, ?_⟩) hH ?_
  rotate_left
  · ((intro W hW; have hk := cell_lit (hW) 29 _ rfl; clear hW; go_simp) <;> with_reducible rfl)
  simp only [Act.put, List.getElem_toArray, List.getElem_cons_zero, List.getElem_cons_succ, List.setIfInBounds_toArray, List.set_cons_zero, List.set_cons_succ]
  refine wpAnyH_take (i := 8) (v := ?_) rfl (by kernel_rfl) (by kernel_rfl) (by kernel_rfl) (fun _ _ _ h => h) (Or.inl ⟨by rfl, ?_⟩) hH ?_
  rotate_left
  · ((intro W hW; clear hW; go_simp) <;> with_reducible rfl)
  simp only [Act.put, List.getElem_toArray, List.getElem_cons_zero, List.getElem_cons_succ, List.setIfInBounds_toArray, List.set_cons_zero, List.set_cons_succ]
  refine wpAnyH_done (by kernel_rfl) ?_ _
  go_wp2_with fail
  go_ret
  exact ⟨rfl, ⟨hcl, ocl⟩, kt, bel⟩
set_option linter.unusedVariables false in
set_option linter.unusedSimpArgs false in
set_option maxRecDepth 100000 in
set_option maxHeartbeats 16000000 in
theorem ltick_3yes {lo gc : Nat} {m0 m1 m2 m3 m4 m5 now xid sent wait tries a0 a1 a2 a3 k0 k1 k2 k3 r0 r1 r2 r3 s0 s1 s2 s3 un t1 t2 : Int} {t draw : Int} (w : World) (hT : Cl lo gc w #[.int .u8 m0, .int .u8 m1, .int .u8 m2, .int .u8 m3, .int .u8 m4, .int .u8 m5, .int .i64 now, .int .i64 3, .int .u32 xid, .int .i64 sent, .int .i64 wait, .int .i64 tries, .int .u8 a0, .int .u8 a1, .int .u8 a2, .int .u8 a3, .int .u8 k0, .int .u8 k1, .int .u8 k2, .int .u8 k3, .int .u8 r0, .int .u8 r1, .int .u8 r2, .int .u8 r3, .int .u8 s0, .int .u8 s1, .int .u8 s2, .int .u8 s3, .int .i64 un, .int .i64 t1, .int .i64 t2]) (h0 : now ≤ t) (h2 : t ≤ 1099511627776) (hu : decide (un ≤ t) = false) (hq : decide (t < t1) = false) : Calls Try.prog 12 #[.pointer (some ⟨gc, 0, none⟩), .int .i64 t, .int .u32 draw] w fun e w' => ∃ g, e = .returned (.slice (some ⟨g, 0, none⟩) 1 1) ∧ Ms w' g [.int .i64 1, .int .i64 0, .int .u32 draw, .int .i64 0, .int .i64 0, .int .u8 a0, .int .u8 a1, .int .u8 a2, .int .u8 a3, .int .u8 0, .int .u8 0, .int .u8 0, .int .u8 0, .int .u8 0, .int .u8 0, .int .u8 0, .int .u8 0, .int .u8 0, .int .u8 0, .int .u8 0, .int .u8 0, .int .u8 m0, .int .u8 m1, .int .u8 m2, .int .u8 m3, .int .u8 m4, .int .u8 m5] 3 ∧ Cl lo gc w' #[.int .u8 m0, .int .u8 m1, .int .u8 m2, .int .u8 m3, .int .u8 m4, .int .u8 m5, .int .i64 t, .int .i64 4, .int .u32 draw, .int .i64 t, .int .i64 wait, .int .i64 tries, .int .u8 a0, .int .u8 a1, .int .u8 a2, .int .u8 a3, .int .u8 k0, .int .u8 k1, .int .u8 k2, .int .u8 k3, .int .u8 r0, .int .u8 r1, .int .u8 r2, .int .u8 r3, .int .u8 s0, .int .u8 s1, .int .u8 s2, .int .u8 s3, .int .i64 un, .int .i64 t1, .int .i64 t2] ∧ Kt [51] w w' ∧ Below lo w w' := by
  obtain ⟨hcl, ocl⟩ := hT
  have hlo : lo ≤ w.heap.size := Nat.le_trans ocl (Nat.le_of_lt (hlt hcl))
  have kt := Kt.refl [51] w
  have bel := Below.refl lo w
  go_enter Try.func12, Try.ntmps12
  go_wp2_with fail
  go_wp2_with fail
  have hT : Cl lo gc w _ := ⟨hcl, ocl⟩
  clear hcl
  with_reducible refine (ladv _ hT h0 h2).mono ?_
  rintro e w1 ⟨rfl, hT_, k_, bb⟩
  replace kt := kt.trans k_
  clear hT
  have hT := hT_
  replace bel := bel.trans bb
  clear bb k_ hT_
  obtain ⟨hcl, _⟩ := hT
  go_wp2_with fail
  replace bel := bel.drew
  replace hcl : w1.drew.heap[gc]? = _ := hcl
  replace kt := kt_drew kt
  refine wp_region_held_drew (S := fun W => W.heap[gc]? = some (.cells #[.int .u8 m0, .int .u8 m1, .int .u8 m2, .int .u8 m3, .int .u8 m4, .int .u8 m5, .int .i64 t, .int .i64 3, .int .u32 xid, .int .i64 sent, .int .i64 wait, .int .i64 tries, .int .u8 a0, .int .u8 a1, .int .u8 a2, .int .u8 a3, .int .u8 k0, .int .u8 k1, .int .u8 k2, .int .u8 k3, .int .u8 r0, .int .u8 r1, .int .u8 r2, .int .u8 r3, .int .u8 s0, .int .u8 s1, .int .u8 s2, .int .u8 s3, .int .i64 un, .int .i64 t1, .int .i64 t2] 51 (0, 0))) (by kernel_rfl) hcl (fun hH => ?_)
  generalize w1.drew = w2 at bel hcl kt hH ⊢
  refine wpAnyH_take (i := 0) (v := ?_) rfl (by kernel_rfl) (by kernel_rfl) (by kernel_rfl) (fun _ _ _ h => h) (Or.inl ⟨by rfl, ?_⟩) hH ?_
  rotate_left
  · ((intro W hW; clear hW; go_simp) <;> with_reducible rfl)
  simp only [Act.put, List.getElem_toArray, List.getElem_cons_zero, List.setIfInBounds_toArray, List.set_cons_zero, List.set_cons_succ]
  refine wpAnyH_ready (rs := [1]) (by kernel_rfl) (by simp) ?_
  refine AllReadyH.cons (o := _) rfl (fun K hK => ?_) AllReadyH.nil
  simp only [List.getElem_toArray, List.getElem_cons_zero, List.getElem_cons_succ]
  go_simp
  with_reducible refine (lbound_is (b := true) _ (cl_of hcl) (by decide)).mono ?_
  rintro e _ ⟨rfl, rfl⟩
  dsimp only
  refine hK.out _ _ hcl (fun hH3 => ?_)
  clear hK K
  refine wpAnyH_take (i := 2) (v := ?_) rfl (by kernel_rfl) (by kernel_rfl) (by kernel_rfl) (fun _ _ _ h => h) (Or.inl ⟨by rfl, ?_⟩) hH3 ?_
  rotate_left
  · ((intro W hW; clear hW; go_simp) <;> with_reducible rfl)
  simp only [Act.put, List.getElem_toArray, List.getElem_cons_zero, List.getElem_cons_succ, List.setIfInBounds_toArray, List.set_cons_zero, List.set_cons_succ]
  refine wpAnyH_take (i := 3) (v := ?_) rfl (by kernel_rfl) (by kernel_rfl) (by kernel_rfl) (fun _ _ _ h => h) (Or.inl ⟨by rfl, ?_⟩) hH3 ?_
  rotate_left
  · ((intro W hW; clear hW; go_simp) <;> with_reducible rfl)
  simp only [Act.put, List.getElem_toArray, List.getElem_cons_zero, List.getElem_cons_succ, List.setIfInBounds_toArray, List.set_cons_zero, List.set_cons_succ]
  refine wpAnyH_take (i := 4) (v := ?_) rfl (by kernel_rfl) (by kernel_rfl) (by kernel_rfl) (fun _ _ _ h => h) (Or.inl ⟨by rfl, ?_⟩) hH3 ?_
  rotate_left
  · ((intro W hW; clear hW; go_simp) <;> with_reducible rfl)
  simp only [Act.put, List.getElem_toArray, List.getElem_cons_zero, List.getElem_cons_succ, List.setIfInBounds_toArray, List.set_cons_zero, List.set_cons_succ]
  refine wpAnyH_take (i := 5) (v := ?_) rfl (by kernel_rfl) (by kernel_rfl) (by kernel_rfl) (fun _ _ _ h => h) (Or.inl ⟨by rfl, ?_⟩) hH3 ?_
  rotate_left
  · ((intro W hW; clear hW; go_simp) <;> with_reducible rfl)
  simp only [Act.put, List.getElem_toArray, List.getElem_cons_zero, List.getElem_cons_succ, List.setIfInBounds_toArray, List.set_cons_zero, List.set_cons_succ]
  refine wpAnyH_take (i := 6) (v := ?_) rfl (by kernel_rfl) (by kernel_rfl) (by kernel_rfl) (fun _ _ _ h => h) (Or.inl ⟨by rfl, ?_⟩) hH3 ?_
  rotate_left
  · ((intro W hW; have hk := cell_lit (hW) 6 _ rfl; clear hW; go_simp) <;> with_reducible rfl)
  simp only [Act.put, List.getElem_toArray, List.getElem_cons_zero, List.getElem_cons_succ, List.setIfInBounds_toArray, List.set_cons_zero, List.set_cons_succ]
  refine wpAnyH_take (i := 7) (v := ?_) rfl (by kernel_rfl) (by kernel_rfl) (by kernel_rfl) (fun _ _ _ h => h) (Or.inl ⟨by rfl, ?_⟩) hH3 ?_
  rotate_left
  · ((intro W hW; clear hW; go_simp) <;> with_reducible rfl)
  simp only [Act.put, List.getElem_toArray, List.getElem_cons_zero, List.getElem_cons_succ, List.setIfInBounds_toArray, List.set_cons_zero, List.set_cons_succ]
  refine wpAnyH_take (i := 8) (v := ?_) rfl (by kernel_rfl) (by kernel_rfl) (by kernel_rfl) (fun _ _ _ h => h) (Or.inl ⟨by rfl, ?_⟩) hH3 ?_
  rotate_left
  · ((intro W hW; clear hW; go_simp) <;> with_reducible rfl)
  simp only [Act.put, List.getElem_toArray, List.getElem_cons_zero, List.getElem_cons_succ, List.setIfInBounds_toArray, List.set_cons_zero, List.set_cons_succ]
  refine wpAnyH_take (i := 9) (v := ?_) rfl (by kernel_rfl) (by kernel_rfl) (by kernel_rfl) (fun _ _ _ h => h) (Or.inl ⟨by rfl, ?_⟩) hH3 ?_
  rotate_left
  · ((intro W hW; clear hW; go_simp) <;> with_reducible rfl)
  simp only [Act.put, List.getElem_toArray, List.getElem_cons_zero, List.getElem_cons_succ, List.setIfInBounds_toArray, List.set_cons_zero, List.set_cons_succ]
  refine wpAnyH_take (i := 10) (v := ?_) rfl (by kernel_rfl) (by kernel_rfl) (by kernel_rfl) (fun _ _ _ h => h) (Or.inl ⟨by rfl, ?_⟩) hH3 ?_
  rotate_left
  · ((intro W hW; clear hW; go_simp) <;> with_reducible rfl)
  simp only [Act.put, List.getElem_toArray, List.getElem_cons_zero, List.getElem_cons_succ, List.setIfInBounds_toArray, List.set_cons_zero, List.set_cons_succ]
  refine wpAnyH_take (i := 11) (v := ?_) rfl (by kernel_rfl) (by kernel_rfl) (by kernel_rfl) (fun _ _ _ h => h) (Or.inl ⟨by rfl, ?_⟩) hH3 ?_
  rotate_left
  · ((intro W hW; have hk := cell_lit (hW) 28 _ rfl; clear hW; go_simp) <;> with_reducible rfl)
  simp only [Act.put, List.getElem_toArray, List.getElem_cons_zero, List.getElem_cons_succ, List.setIfInBounds_toArray, List.set_cons_zero, List.set_cons_succ]
  refine wpAnyH_take (i := 12) (v := ?_) rfl (by kernel_rfl) (by kernel_rfl) (by kernel_rfl) (fun _ _ _ h => h) (Or.inl ⟨by rfl, ?_⟩) hH3 ?_
  rotate_left
  · ((intro W hW; clear hW; go_simp) <;> with_reducible rfl)
  simp only [Act.put, List.getElem_toArray, List.getElem_cons_zero, List.getElem_cons_succ, List.setIfInBounds_toArray, List.set_cons_zero, List.set_cons_succ]
  refine wpAnyH_take (i := 13) (v := ?_) rfl (by kernel_rfl) (by kernel_rfl) (by kernel_rfl) (fun _ _ _ h => h) (Or.inl ⟨by rfl, ?_⟩) hH3 ?_
  rotate_left
  · ((intro W hW; clear hW; go_simp) <;> with_reducible rfl)
  simp only [Act.put, List.getElem_toArray, List.getElem_cons_zero, List.getElem_cons_succ, List.setIfInBounds_toArray, List.set_cons_zero, List.set_cons_succ]
  refine wpAnyH_done (by kernel_rfl) ?_ _
  have R29 := cell_lit hcl 7 _ rfl
  go_wp2_with fail
  clear R29
  replace bel := bel.drew
  replace hcl : w2.drew.heap[gc]? = _ := hcl
  replace kt := kt_drew kt
  refine wp_region_held_drew (S := fun W => W.heap[gc]? = some (.cells #[.int .u8 m0, .int .u8 m1, .int .u8 m2, .int .u8 m3, .int .u8 m4, .int .u8 m5, .int .i64 t, .int .i64 3, .int .u32 xid, .int .i64 sent, .int .i64 wait, .int .i64 tries, .int .u8 a0, .int .u8 a1, .int .u8 a2, .int .u8 a3, .int .u8 k0, .int .u8 k1, .int .u8 k2, .int .u8 k3, .int .u8 r0, .int .u8 r1, .int .u8 r2, .int .u8 r3, .int .u8 s0, .int .u8 s1, .int .u8 s2, .int .u8 s3, .int .i64 un, .int .i64 t1, .int .i64 t2] 51 (0, 0))) (by kernel_rfl) hcl (fun hH => ?_)
  generalize w2.drew = w4 at bel hcl kt hH ⊢
  refine wpAnyH_take (i := 0) (v := ?_) rfl (by kernel_rfl) (by kernel_rfl) (by kernel_rfl) (fun _ _ _ h => h) (Or.inl ⟨by rfl, ?_⟩) hH ?_
  rotate_left
  · ((intro W hW; clear hW; go_simp) <;> with_reducible rfl)
  simp only [Act.put, List.getElem_toArray, List.getElem_cons_zero, List.setIfInBounds_toArray, List.set_cons_zero, List.set_cons_succ]
  refine wpAnyH_take (i := 1) (v := ?_) rfl (by kernel_rfl) (by kernel_rfl) (by kernel_rfl) (fun _ _ _ h => h) (Or.inl ⟨by rfl, ?_⟩) hH ?_
  rotate_left
  · ((intro W hW; clear hW; go_simp) <;> with_reducible rfl)
  simp only [Act.put, List.getElem_toArray, List.getElem_cons_zero, List.getElem_cons_succ, List.setIfInBounds_toArray, List.set_cons_zero, List.set_cons_succ]
  refine wpAnyH_take (i := 2) (v := ?_) rfl (by kernel_rfl) (by kernel_rfl) (by kernel_rfl) (fun _ _ _ h => h) (Or.inl ⟨by rfl, ?_⟩) hH ?_
  rotate_left
  · ((intro W hW; clear hW; go_simp) <;> with_reducible rfl)
  simp only [Act.put, List.getElem_toArray, List.getElem_cons_zero, List.getElem_cons_succ, List.setIfInBounds_toArray, List.set_cons_zero, List.set_cons_succ]
  refine wpAnyH_take (i := 3) (v := ?_) rfl (by kernel_rfl) (by kernel_rfl) (by kernel_rfl) (fun _ _ _ h => h) (Or.inl ⟨by rfl, ?_⟩) hH ?_
  rotate_left
  · ((intro W hW; have hk := cell_lit (hW) 6 _ rfl; clear hW; go_simp) <;> with_reducible rfl)
  simp only [Act.put, List.getElem_toArray, List.getElem_cons_zero, List.getElem_cons_succ, List.setIfInBounds_toArray, List.set_cons_zero, List.set_cons_succ]
  refine wpAnyH_take (i := 4) (v := ?_) rfl (by kernel_rfl) (by kernel_rfl) (by kernel_rfl) (fun _ _ _ h => h) (Or.inl ⟨by rfl, ?_⟩) hH ?_
  rotate_left
  · ((intro W hW; clear hW; go_simp) <;> with_reducible rfl)
  simp only [Act.put, List.getElem_toArray, List.getElem_cons_zero, List.getElem_cons_succ, List.setIfInBounds_toArray, List.set_cons_zero, List.set_cons_succ]
  refine wpAnyH_take (i := 5) (v := ?_) rfl (by kernel_rfl) (by kernel_rfl) (by kernel_rfl) (fun _ _ _ h => h) (Or.inl ⟨by rfl, ?_⟩) hH ?_
  rotate_left
  · ((intro W hW; clear hW; go_simp) <;> with_reducible rfl)
  simp only [Act.put, List.getElem_toArray, List.getElem_cons_zero, List.getElem_cons_succ, List.setIfInBounds_toArray, List.set_cons_zero, List.set_cons_succ]
  refine wpAnyH_take (i := 6) (v := ?_) rfl (by kernel_rfl) (by kernel_rfl) (by kernel_rfl) (fun _ _ _ h => h) (Or.inl ⟨by rfl, ?_⟩) hH ?_
  rotate_left
  · ((intro W hW; clear hW; go_simp) <;> with_reducible rfl)
  simp only [Act.put, List.getElem_toArray, List.getElem_cons_zero, List.getElem_cons_succ, List.setIfInBounds_toArray, List.set_cons_zero, List.set_cons_succ]
  refine wpAnyH_take (i := 7) (v := ?_) rfl (by kernel_rfl) (by kernel_rfl) (by kernel_rfl) (fun _ _ _ h => h) (Or.inl ⟨by rfl, ?_⟩) hH ?_
  rotate_left
  · ((intro W hW; have hk := cell_lit (hW) 29 _ rfl; clear hW; go_simp) <;> with_reducible rfl)
  simp only [Act.put, List.getElem_toArray, List.getElem_cons_zero, List.getElem_cons_succ, List.setIfInBounds_toArray, List.set_cons_zero, List.set_cons_succ]
  refine wpAnyH_take (i := 8) (v := ?_) rfl (by kernel_rfl) (by kernel_rfl) (by kernel_rfl) (fun _ _ _ h => h) (Or.inl ⟨by rfl, ?_⟩) hH ?_
  rotate_left
  · ((intro W hW; clear hW; go_simp) <;> with_reducible rfl)
  simp only [Act.put, List.getElem_toArray, List.getElem_cons_zero, List.getElem_cons_succ, List.setIfInBounds_toArray, List.set_cons_zero, List.set_cons_succ]
  refine wpAnyH_done (by kernel_rfl) ?_ _
  go_wp2_with (first | ((with_reducible show wpList _ _ _ (⟨none, Op.store _ (.tmp 57) _, _, _, _, _⟩ :: _) _ _); refine wpList_store_part rfl 30 (.tmp 57) (.tmp 55) rfl gc 8 rfl [.int .u32 draw] rfl [.int .u8 m0, .int .u8 m1, .int .u8 m2, .int .u8 m3, .int .u8 m4, .int .u8 m5, .int .i64 t, .int .i64 3, .int .u32 xid, .int .i64 sent, .int .i64 wait, .int .i64 tries, .int .u8 a0, .int .u8 a1, .int .u8 a2, .int .u8 a3, .int .u8 k0, .int .u8 k1, .int .u8 k2, .int .u8 k3, .int .u8 r0, .int .u8 r1, .int .u8 r2, .int .u8 r3, .int .u8 s0, .int .u8 s1, .int .u8 s2, .int .u8 s3, .int .i64 un, .int .i64 t1, .int .i64 t2] 51 hcl (by simp) [.int .u8 m0, .int .u8 m1, .int .u8 m2, .int .u8 m3, .int .u8 m4, .int .u8 m5, .int .i64 t, .int .i64 3, .int .u32 draw, .int .i64 sent, .int .i64 wait, .int .i64 tries, .int .u8 a0, .int .u8 a1, .int .u8 a2, .int .u8 a3, .int .u8 k0, .int .u8 k1, .int .u8 k2, .int .u8 k3, .int .u8 r0, .int .u8 r1, .int .u8 r2, .int .u8 r3, .int .u8 s0, .int .u8 s1, .int .u8 s2, .int .u8 s3, .int .i64 un, .int .i64 t1, .int .i64 t2] rfl (by kernel_rfl) (by rfl) ?_; intro w5 hq gr; replace kt := kt.trans (kt_grown gr hcl (by simp)); replace bel := below_grown bel gr ocl (Nat.le_trans hlo bel.size); clear hcl; have hcl := hq; clear hq gr))
  go_wp2_with fail
  have hT : Cl lo gc w5 _ := ⟨hcl, ocl⟩
  clear hcl
  with_reducible refine (lenter_4 _ hT).mono ?_
  rintro e w6 ⟨gm, rfl, hm, hT_, k_, bb⟩
  replace kt := kt.trans k_
  clear hT
  have hT := hT_
  replace bel := bel.trans bb
  clear bb k_ hT_
  go_wp2_with fail
  go_ret
  exact ⟨_, rfl, hm, hT, kt, bel⟩
set_option linter.unusedVariables false in
set_option linter.unusedSimpArgs false in
set_option maxRecDepth 100000 in
set_option maxHeartbeats 16000000 in
theorem ltick_4go {lo gc : Nat} {m0 m1 m2 m3 m4 m5 now xid sent wait tries a0 a1 a2 a3 k0 k1 k2 k3 r0 r1 r2 r3 s0 s1 s2 s3 un t1 t2 : Int} {t draw : Int} (w : World) (hT : Cl lo gc w #[.int .u8 m0, .int .u8 m1, .int .u8 m2, .int .u8 m3, .int .u8 m4, .int .u8 m5, .int .i64 now, .int .i64 4, .int .u32 xid, .int .i64 sent, .int .i64 wait, .int .i64 tries, .int .u8 a0, .int .u8 a1, .int .u8 a2, .int .u8 a3, .int .u8 k0, .int .u8 k1, .int .u8 k2, .int .u8 k3, .int .u8 r0, .int .u8 r1, .int .u8 r2, .int .u8 r3, .int .u8 s0, .int .u8 s1, .int .u8 s2, .int .u8 s3, .int .i64 un, .int .i64 t1, .int .i64 t2]) (h0 : now ≤ t) (h2 : t ≤ 1099511627776) (hu : decide (un ≤ t) = false) (hq : t2 ≤ t) : Calls Try.prog 12 #[.pointer (some ⟨gc, 0, none⟩), .int .i64 t, .int .u32 draw] w fun e w' => ∃ g, e = .returned (.slice (some ⟨g, 0, none⟩) 1 1) ∧ Ms w' g [.int .i64 1, .int .i64 0, .int .u32 xid, .int .i64 0, .int .i64 0, .int .u8 a0, .int .u8 a1, .int .u8 a2, .int .u8 a3, .int .u8 0, .int .u8 0, .int .u8 0, .int .u8 0, .int .u8 0, .int .u8 0, .int .u8 0, .int .u8 0, .int .u8 0, .int .u8 0, .int .u8 0, .int .u8 0, .int .u8 m0, .int .u8 m1, .int .u8 m2, .int .u8 m3, .int .u8 m4, .int .u8 m5] 3 ∧ Cl lo gc w' #[.int .u8 m0, .int .u8 m1, .int .u8 m2, .int .u8 m3, .int .u8 m4, .int .u8 m5, .int .i64 t, .int .i64 5, .int .u32 xid, .int .i64 t, .int .i64 wait, .int .i64 tries, .int .u8 a0, .int .u8 a1, .int .u8 a2, .int .u8 a3, .int .u8 k0, .int .u8 k1, .int .u8 k2, .int .u8 k3, .int .u8 r0, .int .u8 r1, .int .u8 r2, .int .u8 r3, .int .u8 s0, .int .u8 s1, .int .u8 s2, .int .u8 s3, .int .i64 un, .int .i64 t1, .int .i64 t2] ∧ Kt [51] w w' ∧ Below lo w w' := by
  obtain ⟨hcl, ocl⟩ := hT
  have hlo : lo ≤ w.heap.size := Nat.le_trans ocl (Nat.le_of_lt (hlt hcl))
  have kt := Kt.refl [51] w
  have bel := Below.refl lo w
  go_enter Try.func12, Try.ntmps12
  go_wp2_with fail
  go_wp2_with fail
  have hT : Cl lo gc w _ := ⟨hcl, ocl⟩
  clear hcl
  with_reducible refine (ladv _ hT h0 h2).mono ?_
  rintro e w1 ⟨rfl, hT_, k_, bb⟩
  replace kt := kt.trans k_
  clear hT
  have hT := hT_
  replace bel := bel.trans bb
  clear bb k_ hT_
  obtain ⟨hcl, _⟩ := hT
  go_wp2_with fail
  replace bel := bel.drew
  replace hcl : w1.drew.heap[gc]? = _ := hcl
  replace kt := kt_drew kt
  refine wp_region_held_drew (S := fun W => W.heap[gc]? = some (.cells #[.int .u8 m0, .int .u8 m1, .int .u8 m2, .int .u8 m3, .int .u8 m4, .int .u8 m5, .int .i64 t, .int .i64 4, .int .u32 xid, .int .i64 sent, .int .i64 wait, .int .i64 tries, .int .u8 a0, .int .u8 a1, .int .u8 a2, .int .u8 a3, .int .u8 k0, .int .u8 k1, .int .u8 k2, .int .u8 k3, .int .u8 r0, .int .u8 r1, .int .u8 r2, .int .u8 r3, .int .u8 s0, .int .u8 s1, .int .u8 s2, .int .u8 s3, .int .i64 un, .int .i64 t1, .int .i64 t2] 51 (0, 0))) (by kernel_rfl) hcl (fun hH => ?_)
  generalize w1.drew = w2 at bel hcl kt hH ⊢
  refine wpAnyH_take (i := 0) (v := ?_) rfl (by kernel_rfl) (by kernel_rfl) (by kernel_rfl) (fun _ _ _ h => h) (Or.inl ⟨by rfl, ?_⟩) hH ?_
  rotate_left
  · ((intro W hW; clear hW; go_simp) <;> with_reducible rfl)
  simp only [Act.put, List.getElem_toArray, List.getElem_cons_zero, List.setIfInBounds_toArray, List.set_cons_zero, List.set_cons_succ]
  refine wpAnyH_ready (rs := [1]) (by kernel_rfl) (by simp) ?_
  refine AllReadyH.cons (o := _) rfl (fun K hK => ?_) AllReadyH.nil
  simp only [List.getElem_toArray, List.getElem_cons_zero, List.getElem_cons_succ]
  go_simp
  with_reducible refine (lbound_is (b := true) _ (cl_of hcl) (by decide)).mono ?_
  rintro e _ ⟨rfl, rfl⟩
  dsimp only
  refine hK.out _ _ hcl (fun hH3 => ?_)
  clear hK K
  refine wpAnyH_take (i := 2) (v := ?_) rfl (by kernel_rfl) (by kernel_rfl) (by kernel_rfl) (fun _ _ _ h => h) (Or.inl ⟨by rfl, ?_⟩) hH3 ?_
  rotate_left
  · ((intro W hW; clear hW; go_simp) <;> with_reducible rfl)
  simp only [Act.put, List.getElem_toArray, List.getElem_cons_zero, List.getElem_cons_succ, List.setIfInBounds_toArray, List.set_cons_zero, List.set_cons_succ]
  refine wpAnyH_take (i := 3) (v := ?_) rfl (by kernel_rfl) (by kernel_rfl) (by kernel_rfl) (fun _ _ _ h => h) (Or.inl ⟨by rfl, ?_⟩) hH3 ?_
  rotate_left
  · ((intro W hW; clear hW; go_simp) <;> with_reducible rfl)
  simp only [Act.put, List.getElem_toArray, List.getElem_cons_zero, List.getElem_cons_succ, List.setIfInBounds_toArray, List.set_cons_zero, List.set_cons_succ]
  refine wpAnyH_take (i := 4) (v := ?_) rfl (by kernel_rfl) (by kernel_rfl) (by kernel_rfl) (fun _ _ _ h => h) (Or.inl ⟨by rfl, ?_⟩) hH3 ?_
  rotate_left
  · ((intro W hW; clear hW; go_simp) <;> with_reducible rfl)
  simp only [Act.put, List.getElem_toArray, List.getElem_cons_zero, List.getElem_cons_succ, List.setIfInBounds_toArray, List.set_cons_zero, List.set_cons_succ]
  refine wpAnyH_take (i := 5) (v := ?_) rfl (by kernel_rfl) (by kernel_rfl) (by kernel_rfl) (fun _ _ _ h => h) (Or.inl ⟨by rfl, ?_⟩) hH3 ?_
  rotate_left
  · ((intro W hW; clear hW; go_simp) <;> with_reducible rfl)
  simp only [Act.put, List.getElem_toArray, List.getElem_cons_zero, List.getElem_cons_succ, List.setIfInBounds_toArray, List.set_cons_zero, List.set_cons_succ]
  refine wpAnyH_take (i := 6) (v := ?_) rfl (by kernel_rfl) (by kernel_rfl) (by kernel_rfl) (fun _ _ _ h => h) (Or.inl ⟨by rfl, ?_⟩) hH3 ?_
  rotate_left
  · ((intro W hW; have hk := cell_lit (hW) 6 _ rfl; clear hW; go_simp) <;> with_reducible rfl)
  simp only [Act.put, List.getElem_toArray, List.getElem_cons_zero, List.getElem_cons_succ, List.setIfInBounds_toArray, List.set_cons_zero, List.set_cons_succ]
  refine wpAnyH_take (i := 7) (v := ?_) rfl (by kernel_rfl) (by kernel_rfl) (by kernel_rfl) (fun _ _ _ h => h) (Or.inl ⟨by rfl, ?_⟩) hH3 ?_
  rotate_left
  · ((intro W hW; clear hW; go_simp) <;> with_reducible rfl)
  simp only [Act.put, List.getElem_toArray, List.getElem_cons_zero, List.getElem_cons_succ, List.setIfInBounds_toArray, List.set_cons_zero, List.set_cons_succ]
  refine wpAnyH_take (i := 8) (v := ?_) rfl (by kernel_rfl) (by kernel_rfl) (by kernel_rfl) (fun _ _ _ h => h) (Or.inl ⟨by rfl, ?_⟩) hH3 ?_
  rotate_left
  · ((intro W hW; clear hW; go_simp) <;> with_reducible rfl)
  simp only [Act.put, List.getElem_toArray, List.getElem_cons_zero, List.getElem_cons_succ, List.setIfInBounds_toArray, List.set_cons_zero, List.set_cons_succ]
  refine wpAnyH_take (i := 9) (v := ?_) rfl (by kernel_rfl) (by kernel_rfl) (by kernel_rfl) (fun _ _ _ h => h) (Or.inl ⟨by rfl, ?_⟩) hH3 ?_
  rotate_left
  · ((intro W hW; clear hW; go_simp) <;> with_reducible rfl)
  simp only [Act.put, List.getElem_toArray, List.getElem_cons_zero, List.getElem_cons_succ, List.setIfInBounds_toArray, List.set_cons_zero, List.set_cons_succ]
  refine wpAnyH_take (i := 10) (v := ?_) rfl (by kernel_rfl) (by kernel_rfl) (by kernel_rfl) (fun _ _ _ h => h) (Or.inl ⟨by rfl, ?_⟩) hH3 ?_
  rotate_left
  · ((intro W hW; clear hW; go_simp) <;> with_reducible rfl)
  simp only [Act.put, List.getElem_toArray, List.getElem_cons_zero, List.getElem_cons_succ, List.setIfInBounds_toArray, List.set_cons_zero, List.set_cons_succ]
  refine wpAnyH_take (i := 11) (v := ?_) rfl (by kernel_rfl) (by kernel_rfl) (by kernel_rfl) (fun _ _ _ h => h) (Or.inl ⟨by rfl, ?_⟩) hH3 ?_
  rotate_left
  · ((intro W hW; have hk := cell_lit (hW) 28 _ rfl; clear hW; go_simp) <;> with_reducible rfl)
  simp only [Act.put, List.getElem_toArray, List.getElem_cons_zero, List.getElem_cons_succ, List.setIfInBounds_toArray, List.set_cons_zero, List.set_cons_succ]
  refine wpAnyH_take (i := 12) (v := ?_) rfl (by kernel_rfl) (by kernel_rfl) (by kernel_rfl) (fun _ _ _ h => h) (Or.inl ⟨by rfl, ?_⟩) hH3 ?_
  rotate_left
  · ((intro W hW; clear hW; go_simp) <;> with_reducible rfl)
  simp only [Act.put, List.getElem_toArray, List.getElem_cons_zero, List.getElem_cons_succ, List.setIfInBounds_toArray, List.set_cons_zero, List.set_cons_succ]
  refine wpAnyH_take (i := 13) (v := ?_) rfl (by kernel_rfl) (by kernel_rfl) (by kernel_rfl) (fun _ _ _ h => h) (Or.inl ⟨by rfl, ?_⟩) hH3 ?_
  rotate_left
  · ((intro W hW; clear hW; go_simp) <;> with_reducible rfl)
  simp only [Act.put, List.getElem_toArray, List.getElem_cons_zero, List.getElem_cons_succ, List.setIfInBounds_toArray, List.set_cons_zero, List.set_cons_succ]
  refine wpAnyH_done (by kernel_rfl) ?_ _
  have R29 := cell_lit hcl 7 _ rfl
  go_wp2_with fail
  clear R29
  replace bel := bel.drew
  replace hcl : w2.drew.heap[gc]? = _ := hcl
  replace kt := kt_drew kt
  refine wp_region_held_drew (S := fun W => W.heap[gc]? = some (.cells #[.int .u8 m0, .int .u8 m1, .int .u8 m2, .int .u8 m3, .int .u8 m4, .int .u8 m5, .int .i64 t, .int .i64 4, .int .u32 xid, .int .i64 sent, .int .i64 wait, .int .i64 tries, .int .u8 a0, .int .u8 a1, .int .u8 a2, .int .u8 a3, .int .u8 k0, .int .u8 k1, .int .u8 k2, .int .u8 k3, .int .u8 r0, .int .u8 r1, .int .u8 r2, .int .u8 r3, .int .u8 s0, .int .u8 s1, .int .u8 s2, .int .u8 s3, .int .i64 un, .int .i64 t1, .int .i64 t2] 51 (0, 0))) (by kernel_rfl) hcl (fun hH => ?_)
  generalize w2.drew = w4 at bel hcl kt hH ⊢
  refine wpAnyH_take (i := 0) (v := ?_) rfl (by kernel_rfl) (by kernel_rfl) (by kernel_rfl) (fun _ _ _ h => h) (Or.inl ⟨by rfl, ?_⟩) hH ?_
  rotate_left
  · ((intro W hW; clear hW; go_simp) <;> with_reducible rfl)
  simp only [Act.put, List.getElem_toArray, List.getElem_cons_zero, List.setIfInBounds_toArray, List.set_cons_zero, List.set_cons_succ]
  refine wpAnyH_take (i := 1) (v := ?_) rfl (by kernel_rfl) (by kernel_rfl) (by kernel_rfl) (fun _ _ _ h => h) (Or.inl ⟨by rfl, ?_⟩) hH ?_
  rotate_left
  · ((intro W hW; clear hW; go_simp) <;> with_reducible rfl)
  simp only [Act.put, List.getElem_toArray, List.getElem_cons_zero, List.getElem_cons_succ, List.setIfInBounds_toArray, List.set_cons_zero, List.set_cons_succ]
  refine wpAnyH_take (i := 2) (v := ?_) rfl (by kernel_rfl) (by kernel_rfl) (by kernel_rfl) (fun _ _ _ h => h) (Or.inl ⟨by rfl, ?_⟩) hH ?_
  rotate_left
  · ((intro W hW; clear hW; go_simp) <;> with_reducible rfl)
  simp only [Act.put, List.getElem_toArray, List.getElem_cons_zero, List.getElem_cons_succ, List.setIfInBounds_toArray, List.set_cons_zero, List.set_cons_succ]
  refine wpAnyH_take (i := 3) (v := ?_) rfl (by kernel_rfl) (by kernel_rfl) (by kernel_rfl) (fun _ _ _ h => h) (Or.inl ⟨by rfl, ?_⟩) hH ?_
  rotate_left
  · ((intro W hW; have hk := cell_lit (hW) 6 _ rfl; clear hW; go_simp) <;> with_reducible rfl)
  simp only [Act.put, List.getElem_toArray, List.getElem_cons_zero, List.getElem_cons_succ, List.setIfInBounds_toArray, List.set_cons_zero, List.set_cons_succ]
  refine wpAnyH_take (i := 4) (v := ?_) rfl (by kernel_rfl) (by kernel_rfl) (by kernel_rfl) (fun _ _ _ h => h) (Or.inl ⟨by rfl, ?_⟩) hH ?_
  rotate_left
  · ((intro W hW; clear hW; go_simp) <;> with_reducible rfl)
  simp only [Act.put, List.getElem_toArray, List.getElem_cons_zero, List.getElem_cons_succ, List.setIfInBounds_toArray, List.set_cons_zero, List.set_cons_succ]
  refine wpAnyH_take (i := 5) (v := ?_) rfl (by kernel_rfl) (by kernel_rfl) (by kernel_rfl) (fun _ _ _ h => h) (Or.inl ⟨by rfl, ?_⟩) hH ?_
  rotate_left
  · ((intro W hW; clear hW; go_simp) <;> with_reducible rfl)
  simp only [Act.put, List.getElem_toArray, List.getElem_cons_zero, List.getElem_cons_succ, List.setIfInBounds_toArray, List.set_cons_zero, List.set_cons_succ]
  refine wpAnyH_take (i := 6) (v := ?_) rfl (by kernel_rfl) (by kernel_rfl) (by kernel_rfl) (fun _ _ _ h => h) (Or.inl ⟨by rfl, ?_⟩) hH ?_
  rotate_left
  · ((intro W hW; clear hW; go_simp) <;> with_reducible rfl)
  simp only [Act.put, List.getElem_toArray, List.getElem_cons_zero, List.getElem_cons_succ, List.setIfInBounds_toArray, List.set_cons_zero, List.set_cons_succ]
  refine wpAnyH_take (i := 7) (v := ?_) rfl (by kernel_rfl) (by kernel_rfl) (by kernel_rfl) (fun _ _ _ h => h) (Or.inl ⟨by rfl, ?_⟩) hH ?_
  rotate_left
  · ((intro W hW; have hk := cell_lit (hW) 30 _ rfl; clear hW; go_simp) <;> with_reducible rfl)
  simp only [Act.put, List.getElem_toArray, List.getElem_cons_zero, List.getElem_cons_succ, List.setIfInBounds_toArray, List.set_cons_zero, List.set_cons_succ]
  refine wpAnyH_take (i := 8) (v := ?_) rfl (by kernel_rfl) (by kernel_rfl) (by kernel_rfl) (fun _ _ _ h => h) (Or.inl ⟨by rfl, ?_⟩) hH ?_
  rotate_left
  · ((intro W hW; clear hW; go_simp) <;> with_reducible rfl)
  simp only [Act.put, List.getElem_toArray, List.getElem_cons_zero, List.getElem_cons_succ, List.setIfInBounds_toArray, List.set_cons_zero, List.set_cons_succ]
  refine wpAnyH_done (by kernel_rfl) ?_ _
  go_wp2_with fail
  go_wp2_with fail
  have hT : Cl lo gc w4 _ := ⟨hcl, ocl⟩
  clear hcl
  with_reducible refine (lenter_5 _ hT).mono ?_
  rintro e w5 ⟨gm, rfl, hm, hT_, k_, bb⟩
  replace kt := kt.trans k_
  clear hT
  have hT := hT_
  replace bel := bel.trans bb
  clear bb k_ hT_
  go_wp2_with fail
  go_ret
  exact ⟨_, rfl, hm, hT, kt, bel⟩
set_option linter.unusedVariables false in
set_option linter.unusedSimpArgs false in
set_option maxRecDepth 100000 in
set_option maxHeartbeats 16000000 in
theorem ltick_4no {lo gc : Nat} {m0 m1 m2 m3 m4 m5 now xid sent wait tries a0 a1 a2 a3 k0 k1 k2 k3 r0 r1 r2 r3 s0 s1 s2 s3 un t1 t2 : Int} {t draw d : Int} (w : World) (hT : Cl lo gc w #[.int .u8 m0, .int .u8 m1, .int .u8 m2, .int .u8 m3, .int .u8 m4, .int .u8 m5, .int .i64 now, .int .i64 4, .int .u32 xid, .int .i64 sent, .int .i64 wait, .int .i64 tries, .int .u8 a0, .int .u8 a1, .int .u8 a2, .int .u8 a3, .int .u8 k0, .int .u8 k1, .int .u8 k2, .int .u8 k3, .int .u8 r0, .int .u8 r1, .int .u8 r2, .int .u8 r3, .int .u8 s0, .int .u8 s1, .int .u8 s2, .int .u8 s3, .int .i64 un, .int .i64 t1, .int .i64 t2]) (h0 : now ≤ t) (h2 : t ≤ 1099511627776) (hu : decide (un ≤ t) = false) (hq : decide (t2 ≤ t) = false) (hd : IntKind.i64.wrap (t - sent) = d) (hb : decide (60 ≤ d) = false) : Calls Try.prog 12 #[.pointer (some ⟨gc, 0, none⟩), .int .i64 t, .int .u32 draw] w fun e w' => e = .returned (.slice none 0 0) ∧ Cl lo gc w' #[.int .u8 m0, .int .u8 m1, .int .u8 m2, .int .u8 m3, .int .u8 m4, .int .u8 m5, .int .i64 t, .int .i64 4, .int .u32 xid, .int .i64 sent, .int .i64 wait, .int .i64 tries, .int .u8 a0, .int .u8 a1, .int .u8 a2, .int .u8 a3, .int .u8 k0, .int .u8 k1, .int .u8 k2, .int .u8 k3, .int .u8 r0, .int .u8 r1, .int .u8 r2, .int .u8 r3, .int .u8 s0, .int .u8 s1, .int .u8 s2, .int .u8 s3, .int .i64 un, .int .i64 t1, .int .i64 t2] ∧ Kt [51] w w' ∧ Below lo w w' := by
  obtain ⟨hcl, ocl⟩ := hT
  have hlo : lo ≤ w.heap.size := Nat.le_trans ocl (Nat.le_of_lt (hlt hcl))
  have kt := Kt.refl [51] w
  have bel := Below.refl lo w
  go_enter Try.func12, Try.ntmps12
  go_wp2_with fail
  go_wp2_with fail
  have hT : Cl lo gc w _ := ⟨hcl, ocl⟩
  clear hcl
  with_reducible refine (ladv _ hT h0 h2).mono ?_
  rintro e w1 ⟨rfl, hT_, k_, bb⟩
  replace kt := kt.trans k_
  clear hT
  have hT := hT_
  replace bel := bel.trans bb
  clear bb k_ hT_
  obtain ⟨hcl, _⟩ := hT
  go_wp2_with fail
  replace bel := bel.drew
  replace hcl : w1.drew.heap[gc]? = _ := hcl
  replace kt := kt_drew kt
  refine wp_region_held_drew (S := fun W => W.heap[gc]? = some (.cells #[.int .u8 m0, .int .u8 m1, .int .u8 m2, .int .u8 m3, .int .u8 m4, .int .u8 m5, .int .i64 t, .int .i64 4, .int .u32 xid, .int .i64 sent, .int .i64 wait, .int .i64 tries, .int .u8 a0, .int .u8 a1, .int .u8 a2, .int .u8 a3, .int .u8 k0, .int .u8 k1, .int .u8 k2, .int .u8 k3, .int .u8 r0, .int .u8 r1, .int .u8 r2, .int .u8 r3, .int .u8 s0, .int .u8 s1, .int .u8 s2, .int .u8 s3, .int .i64 un, .int .i64 t1, .int .i64 t2] 51 (0, 0))) (by kernel_rfl) hcl (fun hH => ?_)
  generalize w1.drew = w2 at bel hcl kt hH ⊢
  refine wpAnyH_take (i := 0) (v := ?_) rfl (by kernel_rfl) (by kernel_rfl) (by kernel_rfl) (fun _ _ _ h => h) (Or.inl ⟨by rfl, ?_⟩) hH ?_
  rotate_left
  · ((intro W hW; clear hW; go_simp) <;> with_reducible rfl)
  simp only [Act.put, List.getElem_toArray, List.getElem_cons_zero, List.setIfInBounds_toArray, List.set_cons_zero, List.set_cons_succ]
  refine wpAnyH_ready (rs := [1]) (by kernel_rfl) (by simp) ?_
  refine AllReadyH.cons (o := _) rfl (fun K hK => ?_) AllReadyH.nil
  simp only [List.getElem_toArray, List.getElem_cons_zero, List.getElem_cons_succ]
  go_simp
  with_reducible refine (lbound_is (b := true) _ (cl_of hcl) (by decide)).mono ?_
  rintro e _ ⟨rfl, rfl⟩
  dsimp only
  refine hK.out _ _ hcl (fun hH3 => ?_)
  clear hK K
  refine wpAnyH_take (i := 2) (v := ?_) rfl (by kernel_rfl) (by kernel_rfl) (by kernel_rfl) (fun _ _ _ h => h) (Or.inl ⟨by rfl, ?_⟩) hH3 ?_
  rotate_left
  · ((intro W hW; clear hW; go_simp) <;> with_reducible rfl)
  simp only [Act.put, List.getElem_toArray, List.getElem_cons_zero, List.getElem_cons_succ, List.setIfInBounds_toArray, List.set_cons_zero, List.set_cons_succ]
  refine wpAnyH_take (i := 3) (v := ?_) rfl (by kernel_rfl) (by kernel_rfl) (by kernel_rfl) (fun _ _ _ h => h) (Or.inl ⟨by rfl, ?_⟩) hH3 ?_
  rotate_left
  · ((intro W hW; clear hW; go_simp) <;> with_reducible rfl)
  simp only [Act.put, List.getElem_toArray, List.getElem_cons_zero, List.getElem_cons_succ, List.setIfInBounds_toArray, List.set_cons_zero, List.set_cons_succ]
  refine wpAnyH_take (i := 4) (v := ?_) rfl (by kernel_rfl) (by kernel_rfl) (by kernel_rfl) (fun _ _ _ h => h) (Or.inl ⟨by rfl, ?_⟩) hH3 ?_
  rotate_left
  · ((intro W hW; clear hW; go_simp) <;> with_reducible rfl)
  simp only [Act.put, List.getElem_toArray, List.getElem_cons_zero, List.getElem_cons_succ, List.setIfInBounds_toArray, List.set_cons_zero, List.set_cons_succ]
  refine wpAnyH_take (i := 5) (v := ?_) rfl (by kernel_rfl) (by kernel_rfl) (by kernel_rfl) (fun _ _ _ h => h) (Or.inl ⟨by rfl, ?_⟩) hH3 ?_
  rotate_left
  · ((intro W hW; clear hW; go_simp) <;> with_reducible rfl)
  simp only [Act.put, List.getElem_toArray, List.getElem_cons_zero, List.getElem_cons_succ, List.setIfInBounds_toArray, List.set_cons_zero, List.set_cons_succ]
  refine wpAnyH_take (i := 6) (v := ?_) rfl (by kernel_rfl) (by kernel_rfl) (by kernel_rfl) (fun _ _ _ h => h) (Or.inl ⟨by rfl, ?_⟩) hH3 ?_
  rotate_left
  · ((intro W hW; have hk := cell_lit (hW) 6 _ rfl; clear hW; go_simp) <;> with_reducible rfl)
  simp only [Act.put, List.getElem_toArray, List.getElem_cons_zero, List.getElem_cons_succ, List.setIfInBounds_toArray, List.set_cons_zero, List.set_cons_succ]
  refine wpAnyH_take (i := 7) (v := ?_) rfl (by kernel_rfl) (by kernel_rfl) (by kernel_rfl) (fun _ _ _ h => h) (Or.inl ⟨by rfl, ?_⟩) hH3 ?_
  rotate_left
  · ((intro W hW; clear hW; go_simp) <;> with_reducible rfl)
  simp only [Act.put, List.getElem_toArray, List.getElem_cons_zero, List.getElem_cons_succ, List.setIfInBounds_toArray, List.set_cons_zero, List.set_cons_succ]
  refine wpAnyH_take (i := 8) (v := ?_) rfl (by kernel_rfl) (by kernel_rfl) (by kernel_rfl) (fun _ _ _ h => h) (Or.inl ⟨by rfl, ?_⟩) hH3 ?_
  rotate_left
  · ((intro W hW; clear hW; go_simp) <;> with_reducible rfl)
  simp only [Act.put, List.getElem_toArray, List.getElem_cons_zero, List.getElem_cons_succ, List.setIfInBounds_toArray, List.set_cons_zero, List.set_cons_succ]
  refine wpAnyH_take (i := 9) (v := ?_) rfl (by kernel_rfl) (by kernel_rfl) (by kernel_rfl) (fun _ _ _ h => h) (Or.inl ⟨by rfl, ?_⟩) hH3 ?_
  rotate_left
  · ((intro W hW; clear hW; go_simp) <;> with_reducible rfl)
  simp only [Act.put, List.getElem_toArray, List.getElem_cons_zero, List.getElem_cons_succ, List.setIfInBounds_toArray, List.set_cons_zero, List.set_cons_succ]
  refine wpAnyH_take (i := 10) (v := ?_) rfl (by kernel_rfl) (by kernel_rfl) (by kernel_rfl) (fun _ _ _ h => h) (Or.inl ⟨by rfl, ?_⟩) hH3 ?_
  rotate_left
  · ((intro W hW; clear hW; go_simp) <;> with_reducible rfl)
  simp only [Act.put, List.getElem_toArray, List.getElem_cons_zero, List.getElem_cons_succ, List.setIfInBounds_toArray, List.set_cons_zero, List.set_cons_succ]
  refine wpAnyH_take (i := 11) (v := ?_) rfl (by kernel_rfl) (by kernel_rfl) (by kernel_rfl) (fun _ _ _ h => h) (Or.inl ⟨by rfl, ?_⟩) hH3 ?_
  rotate_left
  · ((intro W hW; have hk := cell_lit (hW) 28 _ rfl; clear hW; go_simp) <;> with_reducible rfl)
  simp only [Act.put, List.getElem_toArray, List.getElem_cons_zero, List.getElem_cons_succ, List.setIfInBounds_toArray, List.set_cons_zero, List.set_cons_succ]
  refine wpAnyH_take (i := 12) (v := ?_) rfl (by kernel_rfl) (by kernel_rfl) (by kernel_rfl) (fun _ _ _ h => h) (Or.inl ⟨by rfl, ?_⟩) hH3 ?_
  rotate_left
  · ((intro W hW; clear hW; go_simp) <;> with_reducible rfl)
  simp only [Act.put, List.getElem_toArray, List.getElem_cons_zero, List.getElem_cons_succ, List.setIfInBounds_toArray, List.set_cons_zero, List.set_cons_succ]
  refine wpAnyH_take (i := 13) (v := ?_) rfl (by kernel_rfl) (by kernel_rfl) (by kernel_rfl) (fun _ _ _ h => h) (Or.inl ⟨by rfl, ?_⟩) hH3 ?_
  rotate_left
  · ((intro W hW; clear hW; go_simp) <;> with_reducible rfl)
  simp only [Act.put, List.getElem_toArray, List.getElem_cons_zero, List.getElem_cons_succ, List.setIfInBounds_toArray, List.set_cons_zero, List.set_cons_succ]
  refine wpAnyH_done (by kernel_rfl) ?_ _
  have R29 := cell_lit hcl 7 _ rfl
  go_wp2_with fail
  clear R29
  replace bel := bel.drew
  replace hcl : w2.drew.heap[gc]? = _ := hcl
  replace kt := kt_drew kt
  refine wp_region_held_drew (S := fun W => W.heap[gc]? = some (.cells #[.int .u8 m0, .int .u8 m1, .int .u8 m2, .int .u8 m3, .int .u8 m4, .int .u8 m5, .int .i64 t, .int .i64 4, .int .u32 xid, .int .i64 sent, .int .i64 wait, .int .i64 tries, .int .u8 a0, .int .u8 a1, .int .u8 a2, .int .u8 a3, .int .u8 k0, .int .u8 k1, .int .u8 k2, .int .u8 k3, .int .u8 r0, .int .u8 r1, .int .u8 r2, .int .u8 r3, .int .u8 s0, .int .u8 s1, .int .u8 s2, .int .u8 s3, .int .i64 un, .int .i64 t1, .int .i64 t2] 51 (0, 0))) (by kernel_rfl) hcl (fun hH => ?_)
  generalize w2.drew = w4 at bel hcl kt hH ⊢
  refine wpAnyH_take (i := 0) (v := ?_) rfl (by kernel_rfl) (by kernel_rfl) (by kernel_rfl) (fun _ _ _ h => h) (Or.inl ⟨by rfl, ?_⟩) hH ?_
  rotate_left
  · ((intro W hW; clear hW; go_simp) <;> with_reducible rfl)
  simp only [Act.put, List.getElem_toArray, List.getElem_cons_zero, List.setIfInBounds_toArray, List.set_cons_zero, List.set_cons_succ]
  refine wpAnyH_take (i := 1) (v := ?_) rfl (by kernel_rfl) (by kernel_rfl) (by kernel_rfl) (fun _ _ _ h => h) (Or.inl ⟨by rfl, ?_⟩) hH ?_
  rotate_left
  · ((intro W hW; clear hW; go_simp) <;> with_reducible rfl)
  simp only [Act.put, List.getElem_toArray, List.getElem_cons_zero, List.getElem_cons_succ, List.setIfInBounds_toArray, List.set_cons_zero, List.set_cons_succ]
  refine wpAnyH_take (i := 2) (v := ?_) rfl (by kernel_rfl) (by kernel_rfl) (by kernel_rfl) (fun _ _ _ h => h) (Or.inl ⟨by rfl, ?_⟩) hH ?_
  rotate_left
  · ((intro W hW; clear hW; go_simp) <;> with_reducible rfl)
  simp only [Act.put, List.getElem_toArray, List.getElem_cons_zero, List.getElem_cons_succ, List.setIfInBounds_toArray, List.set_cons_zero, List.set_cons_succ]
  refine wpAnyH_take (i := 3) (v := ?_) rfl (by kernel_rfl) (by kernel_rfl) (by kernel_rfl) (fun _ _ _ h => h) (Or.inl ⟨by rfl, ?_⟩) hH ?_
  rotate_left
  · ((intro W hW; have hk := cell_lit (hW) 6 _ rfl; clear hW; go_simp) <;> with_reducible rfl)
  simp only [Act.put, List.getElem_toArray, List.getElem_cons_zero, List.getElem_cons_succ, List.setIfInBounds_toArray, List.set_cons_zero, List.set_cons_succ]
  refine wpAnyH_take (i := 4) (v := ?_) rfl (by kernel_rfl) (by kernel_rfl) (by kernel_rfl) (fun _ _ _ h => h) (Or.inl ⟨by rfl, ?_⟩) hH ?_
  rotate_left
  · ((intro W hW; clear hW; go_simp) <;> with_reducible rfl)
  simp only [Act.put, List.getElem_toArray, List.getElem_cons_zero, List.getElem_cons_succ, List.setIfInBounds_toArray, List.set_cons_zero, List.set_cons_succ]
  refine wpAnyH_take (i := 5) (v := ?_) rfl (by kernel_rfl) (by kernel_rfl) (by kernel_rfl) (fun _ _ _ h => h) (Or.inl ⟨by rfl, ?_⟩) hH ?_
  rotate_left
  · ((intro W hW; clear hW; go_simp) <;> with_reducible rfl)
  simp only [Act.put, List.getElem_toArray, List.getElem_cons_zero, List.getElem_cons_succ, List.setIfInBounds_toArray, List.set_cons_zero, List.set_cons_succ]
  refine wpAnyH_take (i := 6) (v := ?_) rfl (by kernel_rfl) (by kernel_rfl) (by kernel_rfl) (fun _ _ _ h => h) (Or.inl ⟨by rfl, ?_⟩) hH ?_
  rotate_left
  · ((intro W hW; clear hW; go_simp) <;> with_reducible rfl)
  simp only [Act.put, List.getElem_toArray, List.getElem_cons_zero, List.getElem_cons_succ, List.setIfInBounds_toArray, List.set_cons_zero, List.set_cons_succ]
  refine wpAnyH_take (i := 7) (v := ?_) rfl (by kernel_rfl) (by kernel_rfl) (by kernel_rfl) (fun _ _ _ h => h) (Or.inl ⟨by rfl, ?_⟩) hH ?_
  rotate_left
  · ((intro W hW; have hk := cell_lit (hW) 30 _ rfl; clear hW; go_simp) <;> with_reducible rfl)
  simp only [Act.put, List.getElem_toArray, List.getElem_cons_zero, List.getElem_cons_succ, List.setIfInBounds_toArray, List.set_cons_zero, List.set_cons_succ]
  refine wpAnyH_take (i := 8) (v := ?_) rfl (by kernel_rfl) (by kernel_rfl) (by kernel_rfl) (fun _ _ _ h => h) (Or.inl ⟨by rfl, ?_⟩) hH ?_
  rotate_left
  · ((intro W hW; clear hW; go_simp) <;> with_reducible rfl)
  simp only [Act.put, List.getElem_toArray, List.getElem_cons_zero, List.getElem_cons_succ, List.setIfInBounds_toArray, List.set_cons_zero, List.set_cons_succ]
  refine wpAnyH_done (by kernel_rfl) ?_ _
  go_wp2_with fail
  with_reducible refine (lwaited (b := false) _ (cl_of hcl) hd hb).mono ?_
  rintro e w5 ⟨rfl, b5⟩
  replace hcl := blk_u hcl b5
  replace kt := kt.trans (kt_below b5)
  replace bel := bel.trans (b5.mono (Nat.le_trans hlo bel.size))
  clear b5
  go_wp2_with fail
  go_ret
  exact ⟨rfl, ⟨hcl, ocl⟩, kt, bel⟩
set_option linter.unusedVariables false in
set_option linter.unusedSimpArgs false in
set_option maxRecDepth 100000 in
set_option maxHeartbeats 16000000 in
theorem ltick_4again {lo gc : Nat} {m0 m1 m2 m3 m4 m5 now xid sent wait tries a0 a1 a2 a3 k0 k1 k2 k3 r0 r1 r2 r3 s0 s1 s2 s3 un t1 t2 : Int} {t draw d : Int} (w : World) (hT : Cl lo gc w #[.int .u8 m0, .int .u8 m1, .int .u8 m2, .int .u8 m3, .int .u8 m4, .int .u8 m5, .int .i64 now, .int .i64 4, .int .u32 xid, .int .i64 sent, .int .i64 wait, .int .i64 tries, .int .u8 a0, .int .u8 a1, .int .u8 a2, .int .u8 a3, .int .u8 k0, .int .u8 k1, .int .u8 k2, .int .u8 k3, .int .u8 r0, .int .u8 r1, .int .u8 r2, .int .u8 r3, .int .u8 s0, .int .u8 s1, .int .u8 s2, .int .u8 s3, .int .i64 un, .int .i64 t1, .int .i64 t2]) (h0 : now ≤ t) (h2 : t ≤ 1099511627776) (hu : decide (un ≤ t) = false) (hq : decide (t2 ≤ t) = false) (hd : IntKind.i64.wrap (t - sent) = d) (hb : decide (60 ≤ d) = true) : Calls Try.prog 12 #[.pointer (some ⟨gc, 0, none⟩), .int .i64 t, .int .u32 draw] w fun e w' => ∃ g, e = .returned (.slice (some ⟨g, 0, none⟩) 1 1) ∧ Ms w' g [.int .i64 1, .int .i64 0, .int .u32 xid, .int .i64 0, .int .i64 0, .int .u8 a0, .int .u8 a1, .int .u8 a2, .int .u8 a3, .int .u8 0, .int .u8 0, .int .u8 0, .int .u8 0, .int .u8 0, .int .u8 0, .int .u8 0, .int .u8 0, .int .u8 0, .int .u8 0, .int .u8 0, .int .u8 0, .int .u8 m0, .int .u8 m1, .int .u8 m2, .int .u8 m3, .int .u8 m4, .int .u8 m5] 3 ∧ Cl lo gc w' #[.int .u8 m0, .int .u8 m1, .int .u8 m2, .int .u8 m3, .int .u8 m4, .int .u8 m5, .int .i64 t, .int .i64 4, .int .u32 xid, .int .i64 t, .int .i64 wait, .int .i64 tries, .int .u8 a0, .int .u8 a1, .int .u8 a2, .int .u8 a3, .int .u8 k0, .int .u8 k1, .int .u8 k2, .int .u8 k3, .int .u8 r0, .int .u8 r1, .int .u8 r2, .int .u8 r3, .int .u8 s0, .int .u8 s1, .int .u8 s2, .int .u8 s3, .int .i64 un, .int .i64 t1, .int .i64 t2] ∧ Kt [51] w w' ∧ Below lo w w' := by
  obtain ⟨hcl, ocl⟩ := hT
  have hlo : lo ≤ w.heap.size := Nat.le_trans ocl (Nat.le_of_lt (hlt hcl))
  have kt := Kt.refl [51] w
  have bel := Below.refl lo w
  go_enter Try.func12, Try.ntmps12
  go_wp2_with fail
  go_wp2_with fail
  have hT : Cl lo gc w _ := ⟨hcl, ocl⟩
  clear hcl
  with_reducible refine (ladv _ hT h0 h2).mono ?_
  rintro e w1 ⟨rfl, hT_, k_, bb⟩
  replace kt := kt.trans k_
  clear hT
  have hT := hT_
  replace bel := bel.trans bb
  clear bb k_ hT_
  obtain ⟨hcl, _⟩ := hT
  go_wp2_with fail
  replace bel := bel.drew
  replace hcl : w1.drew.heap[gc]? = _ := hcl
  replace kt := kt_drew kt
  refine wp_region_held_drew (S := fun W => W.heap[gc]? = some (.cells #[.int .u8 m0, .int .u8 m1, .int .u8 m2, .int .u8 m3, .int .u8 m4, .int .u8 m5, .int .i64 t, .int .i64 4, .int .u32 xid, .int .i64 sent, .int .i64 wait, .int .i64 tries, .int .u8 a0, .int .u8 a1, .int .u8 a2, .int .u8 a3, .int .u8 k0, .int .u8 k1, .int .u8 k2, .int .u8 k3, .int .u8 r0, .int .u8 r1, .int .u8 r2, .int .u8 r3, .int .u8 s0, .int .u8 s1, .int .u8 s2, .int .u8 s3, .int .i64 un, .int .i64 t1, .int .i64 t2] 51 (0, 0))) (by kernel_rfl) hcl (fun hH => ?_)
  generalize w1.drew = w2 at bel hcl kt hH ⊢
  refine wpAnyH_take (i := 0) (v := ?_) rfl (by kernel_rfl) (by kernel_rfl) (by kernel_rfl) (fun _ _ _ h => h) (Or.inl ⟨by rfl, ?_⟩) hH ?_
  rotate_left
  · ((intro W hW; clear hW; go_simp) <;> with_reducible rfl)
  simp only [Act.put, List.getElem_toArray, List.getElem_cons_zero, List.setIfInBounds_toArray, List.set_cons_zero, List.set_cons_succ]
  refine wpAnyH_ready (rs := [1]) (by kernel_rfl) (by simp) ?_
  refine AllReadyH.cons (o := _) rfl (fun K hK => ?_) AllReadyH.nil
  simp only [List.getElem_toArray, List.getElem_cons_zero, List.getElem_cons_succ]
  go_simp
  with_reducible refine (lbound_is (b := true) _ (cl_of hcl) (by decide)).mono ?_
  rintro e _ ⟨rfl, rfl⟩
  dsimp only
  refine hK.out _ _ hcl (fun hH3 => ?_)
  clear hK K
  refine wpAnyH_take (i := 2) (v := ?_) rfl (by kernel_rfl) (by kernel_rfl) (by kernel_rfl) (fun _ _ _ h => h) (Or.inl ⟨by rfl, ?_⟩) hH3 ?_
  rotate_left
  · ((intro W hW; clear hW; go_simp) <;> with_reducible rfl)
  simp only [Act.put, List.getElem_toArray, List.getElem_cons_zero, List.getElem_cons_succ, List.setIfInBounds_toArray, List.set_cons_zero, List.set_cons_succ]
  refine wpAnyH_take (i := 3) (v := ?_) rfl (by kernel_rfl) (by kernel_rfl) (by kernel_rfl) (fun _ _ _ h => h) (Or.inl ⟨by rfl, ?_⟩) hH3 ?_
  rotate_left
  · ((intro W hW; clear hW; go_simp) <;> with_reducible rfl)
  simp only [Act.put, List.getElem_toArray, List.getElem_cons_zero, List.getElem_cons_succ, List.setIfInBounds_toArray, List.set_cons_zero, List.set_cons_succ]
  refine wpAnyH_take (i := 4) (v := ?_) rfl (by kernel_rfl) (by kernel_rfl) (by kernel_rfl) (fun _ _ _ h => h) (Or.inl ⟨by rfl, ?_⟩) hH3 ?_
  rotate_left
  · ((intro W hW; clear hW; go_simp) <;> with_reducible rfl)
  simp only [Act.put, List.getElem_toArray, List.getElem_cons_zero, List.getElem_cons_succ, List.setIfInBounds_toArray, List.set_cons_zero, List.set_cons_succ]
  refine wpAnyH_take (i := 5) (v := ?_) rfl (by kernel_rfl) (by kernel_rfl) (by kernel_rfl) (fun _ _ _ h => h) (Or.inl ⟨by rfl, ?_⟩) hH3 ?_
  rotate_left
  · ((intro W hW; clear hW; go_simp) <;> with_reducible rfl)
  simp only [Act.put, List.getElem_toArray, List.getElem_cons_zero, List.getElem_cons_succ, List.setIfInBounds_toArray, List.set_cons_zero, List.set_cons_succ]
  refine wpAnyH_take (i := 6) (v := ?_) rfl (by kernel_rfl) (by kernel_rfl) (by kernel_rfl) (fun _ _ _ h => h) (Or.inl ⟨by rfl, ?_⟩) hH3 ?_
  rotate_left
  · ((intro W hW; have hk := cell_lit (hW) 6 _ rfl; clear hW; go_simp) <;> with_reducible rfl)
  simp only [Act.put, List.getElem_toArray, List.getElem_cons_zero, List.getElem_cons_succ, List.setIfInBounds_toArray, List.set_cons_zero, List.set_cons_succ]
  refine wpAnyH_take (i := 7) (v := ?_) rfl (by kernel_rfl) (by kernel_rfl) (by kernel_rfl) (fun _ _ _ h => h) (Or.inl ⟨by rfl, ?_⟩) hH3 ?_
  rotate_left
  · ((intro W hW; clear hW; go_simp) <;> with_reducible rfl)
  simp only [Act.put, List.getElem_toArray, List.getElem_cons_zero, List.getElem_cons_succ, List.setIfInBounds_toArray, List.set_cons_zero, List.set_cons_succ]
  refine wpAnyH_take (i := 8) (v := ?_) rfl (by kernel_rfl) (by kernel_rfl) (by kernel_rfl) (fun _ _ _ h => h) (Or.inl ⟨by rfl, ?_⟩) hH3 ?_
  rotate_left
  · ((intro W hW; clear hW; go_simp) <;> with_reducible rfl)
  simp only [Act.put, List.getElem_toArray, List.getElem_cons_zero, List.getElem_cons_succ, List.setIfInBounds_toArray, List.set_cons_zero, List.set_cons_succ]
  refine wpAnyH_take (i := 9) (v := ?_) rfl (by kernel_rfl) (by kernel_rfl) (by kernel_rfl) (fun _ _ _ h => h) (Or.inl ⟨by rfl, ?_⟩) hH3 ?_
  rotate_left
  · ((intro W hW; clear hW; go_simp) <;> with_reducible rfl)
  simp only [Act.put, List.getElem_toArray, List.getElem_cons_zero, List.getElem_cons_succ, List.setIfInBounds_toArray, List.set_cons_zero, List.set_cons_succ]
  refine wpAnyH_take (i := 10) (v := ?_) rfl (by kernel_rfl) (by kernel_rfl) (by kernel_rfl) (fun _ _ _ h => h) (Or.inl ⟨by rfl, ?_⟩) hH3 ?_
  rotate_left
  · ((intro W hW; clear hW; go_simp) <;> with_reducible rfl)
  simp only [Act.put, List.getElem_toArray, List.getElem_cons_zero, List.getElem_cons_succ, List.setIfInBounds_toArray, List.set_cons_zero, List.set_cons_succ]
  refine wpAnyH_take (i := 11) (v := ?_) rfl (by kernel_rfl) (by kernel_rfl) (by kernel_rfl) (fun _ _ _ h => h) (Or.inl ⟨by rfl, ?_⟩) hH3 ?_
  rotate_left
  · ((intro W hW; have hk := cell_lit (hW) 28 _ rfl; clear hW; go_simp) <;> with_reducible rfl)
  simp only [Act.put, List.getElem_toArray, List.getElem_cons_zero, List.getElem_cons_succ, List.setIfInBounds_toArray, List.set_cons_zero, List.set_cons_succ]
  refine wpAnyH_take (i := 12) (v := ?_) rfl (by kernel_rfl) (by kernel_rfl) (by kernel_rfl) (fun _ _ _ h => h) (Or.inl ⟨by rfl, ?_⟩) hH3 ?_
  rotate_left
  · ((intro W hW; clear hW; go_simp) <;> with_reducible rfl)
  simp only [Act.put, List.getElem_toArray, List.getElem_cons_zero, List.getElem_cons_succ, List.setIfInBounds_toArray, List.set_cons_zero, List.set_cons_succ]
  refine wpAnyH_take (i := 13) (v := ?_) rfl (by kernel_rfl) (by kernel_rfl) (by kernel_rfl) (fun _ _ _ h => h) (Or.inl ⟨by rfl, ?_⟩) hH3 ?_
  rotate_left
  · ((intro W hW; clear hW; go_simp) <;> with_reducible rfl)
  simp only [Act.put, List.getElem_toArray, List.getElem_cons_zero, List.getElem_cons_succ, List.setIfInBounds_toArray, List.set_cons_zero, List.set_cons_succ]
  refine wpAnyH_done (by kernel_rfl) ?_ _
  have R29 := cell_lit hcl 7 _ rfl
  go_wp2_with fail
  clear R29
  replace bel := bel.drew
  replace hcl : w2.drew.heap[gc]? = _ := hcl
  replace kt := kt_drew kt
  refine wp_region_held_drew (S := fun W => W.heap[gc]? = some (.cells #[.int .u8 m0, .int .u8 m1, .int .u8 m2, .int .u8 m3, .int .u8 m4, .int .u8 m5, .int .i64 t, .int .i64 4, .int .u32 xid, .int .i64 sent, .int .i64 wait, .int .i64 tries, .int .u8 a0, .int .u8 a1, .int .u8 a2, .int .u8 a3, .int .u8 k0, .int .u8 k1, .int .u8 k2, .int .u8 k3, .int .u8 r0, .int .u8 r1, .int .u8 r2, .int .u8 r3, .int .u8 s0, .int .u8 s1, .int .u8 s2, .int .u8 s3, .int .i64 un, .int .i64 t1, .int .i64 t2] 51 (0, 0))) (by kernel_rfl) hcl (fun hH => ?_)
  generalize w2.drew = w4 at bel hcl kt hH ⊢
  refine wpAnyH_take (i := 0) (v := ?_) rfl (by kernel_rfl) (by kernel_rfl) (by kernel_rfl) (fun _ _ _ h => h) (Or.inl ⟨by rfl, ?_⟩) hH ?_
  rotate_left
  · ((intro W hW; clear hW; go_simp) <;> with_reducible rfl)
  simp only [Act.put, List.getElem_toArray, List.getElem_cons_zero, List.setIfInBounds_toArray, List.set_cons_zero, List.set_cons_succ]
  refine wpAnyH_take (i := 1) (v := ?_) rfl (by kernel_rfl) (by kernel_rfl) (by kernel_rfl) (fun _ _ _ h => h) (Or.inl ⟨by rfl, ?_⟩) hH ?_
  rotate_left
  · ((intro W hW; clear hW; go_simp) <;> with_reducible rfl)
  simp only [Act.put, List.getElem_toArray, List.getElem_cons_zero, List.getElem_cons_succ, List.setIfInBounds_toArray, List.set_cons_zero, List.set_cons_succ]
  refine wpAnyH_take (i := 2) (v := ?_) rfl (by kernel_rfl) (by kernel_rfl) (by kernel_rfl) (fun _ _ _ h => h) (Or.inl ⟨by rfl, ?_⟩) hH ?_
  rotate_left
  · ((intro W hW; clear hW; go_simp) <;> with_reducible rfl)
  simp only [Act.put, List.getElem_toArray, List.getElem_cons_zero, List.getElem_cons_succ, List.setIfInBounds_toArray, List.set_cons_zero, List.set_cons_succ]
  refine wpAnyH_take (i := 3) (v := ?_) rfl (by kernel_rfl) (by kernel_rfl) (by kernel_rfl) (fun _ _ _ h => h) (Or.inl ⟨by rfl, ?_⟩) hH ?_
  rotate_left
  · ((intro W hW; have hk := cell_lit (hW) 6 _ rfl; clear hW; go_simp) <;> with_reducible rfl)
  simp only [Act.put, List.getElem_toArray, List.getElem_cons_zero, List.getElem_cons_succ, List.setIfInBounds_toArray, List.set_cons_zero, List.set_cons_succ]
  refine wpAnyH_take (i := 4) (v := ?_) rfl (by kernel_rfl) (by kernel_rfl) (by kernel_rfl) (fun _ _ _ h => h) (Or.inl ⟨by rfl, ?_⟩) hH ?_
  rotate_left
  · ((intro W hW; clear hW; go_simp) <;> with_reducible rfl)
  simp only [Act.put, List.getElem_toArray, List.getElem_cons_zero, List.getElem_cons_succ, List.setIfInBounds_toArray, List.set_cons_zero, List.set_cons_succ]
  refine wpAnyH_take (i := 5) (v := ?_) rfl (by kernel_rfl) (by kernel_rfl) (by kernel_rfl) (fun _ _ _ h => h) (Or.inl ⟨by rfl, ?_⟩) hH ?_
  rotate_left
  · ((intro W hW; clear hW; go_simp) <;> with_reducible rfl)
  simp only [Act.put, List.getElem_toArray, List.getElem_cons_zero, List.getElem_cons_succ, List.setIfInBounds_toArray, List.set_cons_zero, List.set_cons_succ]
  refine wpAnyH_take (i := 6) (v := ?_) rfl (by kernel_rfl) (by kernel_rfl) (by kernel_rfl) (fun _ _ _ h => h) (Or.inl ⟨by rfl, ?_⟩) hH ?_
  rotate_left
  · ((intro W hW; clear hW; go_simp) <;> with_reducible rfl)
  simp only [Act.put, List.getElem_toArray, List.getElem_cons_zero, List.getElem_cons_succ, List.setIfInBounds_toArray, List.set_cons_zero, List.set_cons_succ]
  refine wpAnyH_take (i := 7) (v := ?_) rfl (by kernel_rfl) (by kernel_rfl) (by kernel_rfl) (fun _ _ _ h => h) (Or.inl ⟨by rfl, ?_⟩) hH ?_
  rotate_left
  · ((intro W hW; have hk := cell_lit (hW) 30 _ rfl; clear hW; go_simp) <;> with_reducible rfl)
  simp only [Act.put, List.getElem_toArray, List.getElem_cons_zero, List.getElem_cons_succ, List.setIfInBounds_toArray, List.set_cons_zero, List.set_cons_succ]
  refine wpAnyH_take (i := 8) (v := ?_) rfl (by kernel_rfl) (by kernel_rfl) (by kernel_rfl) (fun _ _ _ h => h) (Or.inl ⟨by rfl, ?_⟩) hH ?_
  rotate_left
  · ((intro W hW; clear hW; go_simp) <;> with_reducible rfl)
  simp only [Act.put, List.getElem_toArray, List.getElem_cons_zero, List.getElem_cons_succ, List.setIfInBounds_toArray, List.set_cons_zero, List.set_cons_succ]
  refine wpAnyH_done (by kernel_rfl) ?_ _
  go_wp2_with fail
  with_reducible refine (lwaited (b := true) _ (cl_of hcl) hd hb).mono ?_
  rintro e w5 ⟨rfl, b5⟩
  replace hcl := blk_u hcl b5
  replace kt := kt.trans (kt_below b5)
  replace bel := bel.trans (b5.mono (Nat.le_trans hlo bel.size))
  clear b5
  go_wp2_with fail
  go_wp2_with fail
  have hT : Cl lo gc w5 _ := ⟨hcl, ocl⟩
  clear hcl
  with_reducible refine (lsend_4 _ hT (by decide) (by decide)).mono ?_
  rintro e w6 ⟨gm, rfl, hm, hT_, k_, bb⟩
  replace kt := kt.trans k_
  clear hT
  have hT := hT_
  replace bel := bel.trans bb
  clear bb k_ hT_
  go_wp2_with fail
  go_ret
  exact ⟨_, rfl, hm, hT, kt, bel⟩
set_option linter.unusedVariables false in
set_option linter.unusedSimpArgs false in
set_option maxRecDepth 100000 in
set_option maxHeartbeats 16000000 in
theorem ltick_5no {lo gc : Nat} {m0 m1 m2 m3 m4 m5 now xid sent wait tries a0 a1 a2 a3 k0 k1 k2 k3 r0 r1 r2 r3 s0 s1 s2 s3 un t1 t2 : Int} {t draw d : Int} (w : World) (hT : Cl lo gc w #[.int .u8 m0, .int .u8 m1, .int .u8 m2, .int .u8 m3, .int .u8 m4, .int .u8 m5, .int .i64 now, .int .i64 5, .int .u32 xid, .int .i64 sent, .int .i64 wait, .int .i64 tries, .int .u8 a0, .int .u8 a1, .int .u8 a2, .int .u8 a3, .int .u8 k0, .int .u8 k1, .int .u8 k2, .int .u8 k3, .int .u8 r0, .int .u8 r1, .int .u8 r2, .int .u8 r3, .int .u8 s0, .int .u8 s1, .int .u8 s2, .int .u8 s3, .int .i64 un, .int .i64 t1, .int .i64 t2]) (h0 : now ≤ t) (h2 : t ≤ 1099511627776) (hu : decide (un ≤ t) = false) (hd : IntKind.i64.wrap (t - sent) = d) (hb : decide (60 ≤ d) = false) : Calls Try.prog 12 #[.pointer (some ⟨gc, 0, none⟩), .int .i64 t, .int .u32 draw] w fun e w' => e = .returned (.slice none 0 0) ∧ Cl lo gc w' #[.int .u8 m0, .int .u8 m1, .int .u8 m2, .int .u8 m3, .int .u8 m4, .int .u8 m5, .int .i64 t, .int .i64 5, .int .u32 xid, .int .i64 sent, .int .i64 wait, .int .i64 tries, .int .u8 a0, .int .u8 a1, .int .u8 a2, .int .u8 a3, .int .u8 k0, .int .u8 k1, .int .u8 k2, .int .u8 k3, .int .u8 r0, .int .u8 r1, .int .u8 r2, .int .u8 r3, .int .u8 s0, .int .u8 s1, .int .u8 s2, .int .u8 s3, .int .i64 un, .int .i64 t1, .int .i64 t2] ∧ Kt [51] w w' ∧ Below lo w w' := by
  obtain ⟨hcl, ocl⟩ := hT
  have hlo : lo ≤ w.heap.size := Nat.le_trans ocl (Nat.le_of_lt (hlt hcl))
  have kt := Kt.refl [51] w
  have bel := Below.refl lo w
  go_enter Try.func12, Try.ntmps12
  go_wp2_with fail
  go_wp2_with fail
  have hT : Cl lo gc w _ := ⟨hcl, ocl⟩
  clear hcl
  with_reducible refine (ladv _ hT h0 h2).mono ?_
  rintro e w1 ⟨rfl, hT_, k_, bb⟩
  replace kt := kt.trans k_
  clear hT
  have hT := hT_
  replace bel := bel.trans bb
  clear bb k_ hT_
  obtain ⟨hcl, _⟩ := hT
  go_wp2_with fail
  replace bel := bel.drew
  replace hcl : w1.drew.heap[gc]? = _ := hcl
  replace kt := kt_drew kt
  refine wp_region_held_drew (S := fun W => W.heap[gc]? = some (.cells #[.int .u8 m0, .int .u8 m1, .int .u8 m2, .int .u8 m3, .int .u8 m4, .int .u8 m5, .int .i64 t, .int .i64 5, .int .u32 xid, .int .i64 sent, .int .i64 wait, .int .i64 tries, .int .u8 a0, .int .u8 a1, .int .u8 a2, .int .u8 a3, .int .u8 k0, .int .u8 k1, .int .u8 k2, .int .u8 k3, .int .u8 r0, .int .u8 r1, .int .u8 r2, .int .u8 r3, .int .u8 s0, .int .u8 s1, .int .u8 s2, .int .u8 s3, .int .i64 un, .int .i64 t1, .int .i64 t2] 51 (0, 0))) (by kernel_rfl) hcl (fun hH => ?_)
  generalize w1.drew = w2 at bel hcl kt hH ⊢
  refine wpAnyH_take (i := 0) (v := ?_) rfl (by kernel_rfl) (by kernel_rfl) (by kernel_rfl) (fun _ _ _ h => h) (Or.inl ⟨by rfl, ?_⟩) hH ?_
  rotate_left
  · ((intro W hW; clear hW; go_simp) <;> with_reducible rfl)
  simp only [Act.put, List.getElem_toArray, List.getElem_cons_zero, List.setIfInBounds_toArray, List.set_cons_zero, List.set_cons_succ]
  refine wpAnyH_ready (rs := [1]) (by kernel_rfl) (by simp) ?_
  refine AllReadyH.cons (o := _) rfl (fun K hK => ?_) AllReadyH.nil
  simp only [List.getElem_toArray, List.getElem_cons_zero, List.getElem_cons_succ]
  go_simp
  with_reducible refine (lbound_is (b := true) _ (cl_of hcl) (by decide)).mono ?_
  rintro e _ ⟨rfl, rfl⟩
  dsimp only
  refine hK.out _ _ hcl (fun hH3 => ?_)
  clear hK K
  refine wpAnyH_take (i := 2) (v := ?_) rfl (by kernel_rfl) (by kernel_rfl) (by kernel_rfl) (fun _ _ _ h => h) (Or.inl ⟨by rfl, ?_⟩) hH3 ?_
  rotate_left
  · ((intro W hW; clear hW; go_simp) <;> with_reducible rfl)
  simp only [Act.put, List.getElem_toArray, List.getElem_cons_zero, List.getElem_cons_succ, List.setIfInBounds_toArray, List.set_cons_zero, List.set_cons_succ]
  refine wpAnyH_take (i := 3) (v := ?_) rfl (by kernel_rfl) (by kernel_rfl) (by kernel_rfl) (fun _ _ _ h => h) (Or.inl ⟨by rfl, ?_⟩) hH3 ?_
  rotate_left
  · ((intro W hW; clear hW; go_simp) <;> with_reducible rfl)
  simp only [Act.put, List.getElem_toArray, List.getElem_cons_zero, List.getElem_cons_succ, List.setIfInBounds_toArray, List.set_cons_zero, List.set_cons_succ]
  refine wpAnyH_take (i := 4) (v := ?_) rfl (by kernel_rfl) (by kernel_rfl) (by kernel_rfl) (fun _ _ _ h => h) (Or.inl ⟨by rfl, ?_⟩) hH3 ?_
  rotate_left
  · ((intro W hW; clear hW; go_simp) <;> with_reducible rfl)
  simp only [Act.put, List.getElem_toArray, List.getElem_cons_zero, List.getElem_cons_succ, List.setIfInBounds_toArray, List.set_cons_zero, List.set_cons_succ]
  refine wpAnyH_take (i := 5) (v := ?_) rfl (by kernel_rfl) (by kernel_rfl) (by kernel_rfl) (fun _ _ _ h => h) (Or.inl ⟨by rfl, ?_⟩) hH3 ?_
  rotate_left
  · ((intro W hW; clear hW; go_simp) <;> with_reducible rfl)
  simp only [Act.put, List.getElem_toArray, List.getElem_cons_zero, List.getElem_cons_succ, List.setIfInBounds_toArray, List.set_cons_zero, List.set_cons_succ]
  refine wpAnyH_take (i := 6) (v := ?_) rfl (by kernel_rfl) (by kernel_rfl) (by kernel_rfl) (fun _ _ _ h => h) (Or.inl ⟨by rfl, ?_⟩) hH3 ?_
  rotate_left
  · ((intro W hW; have hk := cell_lit (hW) 6 _ rfl; clear hW; go_simp) <;> with_reducible rfl)
  simp only [Act.put, List.getElem_toArray, List.getElem_cons_zero, List.getElem_cons_succ, List.setIfInBounds_toArray, List.set_cons_zero, List.set_cons_succ]
  refine wpAnyH_take (i := 7) (v := ?_) rfl (by kernel_rfl) (by kernel_rfl) (by kernel_rfl) (fun _ _ _ h => h) (Or.inl ⟨by rfl, ?_⟩) hH3 ?_
  rotate_left
  · ((intro W hW; clear hW; go_simp) <;> with_reducible rfl)
  simp only [Act.put, List.getElem_toArray, List.getElem_cons_zero, List.getElem_cons_succ, List.setIfInBounds_toArray, List.set_cons_zero, List.set_cons_succ]
  refine wpAnyH_take (i := 8) (v := ?_) rfl (by kernel_rfl) (by kernel_rfl) (by kernel_rfl) (fun _ _ _ h => h) (Or.inl ⟨by rfl, ?_⟩) hH3 ?_
  rotate_left
  · ((intro W hW; clear hW; go_simp) <;> with_reducible rfl)
  simp only [Act.put, List.getElem_toArray, List.getElem_cons_zero, List.getElem_cons_succ, List.setIfInBounds_toArray, List.set_cons_zero, List.set_cons_succ]
  refine wpAnyH_take (i := 9) (v := ?_) rfl (by kernel_rfl) (by kernel_rfl) (by kernel_rfl) (fun _ _ _ h => h) (Or.inl ⟨by rfl, ?_⟩) hH3 ?_
  rotate_left
  · ((intro W hW; clear hW; go_simp) <;> with_reducible rfl)
  simp only [Act.put, List.getElem_toArray, List.getElem_cons_zero, List.getElem_cons_succ, List.setIfInBounds_toArray, List.set_cons_zero, List.set_cons_succ]
  refine wpAnyH_take (i := 10) (v := ?_) rfl (by kernel_rfl) (by kernel_rfl) (by kernel_rfl) (fun _ _ _ h => h) (Or.inl ⟨by rfl, ?_⟩) hH3 ?_
  rotate_left
  · ((intro W hW; clear hW; go_simp) <;> with_reducible rfl)
  simp only [Act.put, List.getElem_toArray, List.getElem_cons_zero, List.getElem_cons_succ, List.setIfInBounds_toArray, List.set_cons_zero, List.set_cons_succ]
  refine wpAnyH_take (i := 11) (v := ?_) rfl (by kernel_rfl) (by kernel_rfl) (by kernel_rfl) (fun _ _ _ h => h) (Or.inl ⟨by rfl, ?_⟩) hH3 ?_
  rotate_left
  · ((intro W hW; have hk := cell_lit (hW) 28 _ rfl; clear hW; go_simp) <;> with_reducible rfl)
  simp only [Act.put, List.getElem_toArray, List.getElem_cons_zero, List.getElem_cons_succ, List.setIfInBounds_toArray, List.set_cons_zero, List.set_cons_succ]
  refine wpAnyH_take (i := 12) (v := ?_) rfl (by kernel_rfl) (by kernel_rfl) (by kernel_rfl) (fun _ _ _ h => h) (Or.inl ⟨by rfl, ?_⟩) hH3 ?_
  rotate_left
  · ((intro W hW; clear hW; go_simp) <;> with_reducible rfl)
  simp only [Act.put, List.getElem_toArray, List.getElem_cons_zero, List.getElem_cons_succ, List.setIfInBounds_toArray, List.set_cons_zero, List.set_cons_succ]
  refine wpAnyH_take (i := 13) (v := ?_) rfl (by kernel_rfl) (by kernel_rfl) (by kernel_rfl) (fun _ _ _ h => h) (Or.inl ⟨by rfl, ?_⟩) hH3 ?_
  rotate_left
  · ((intro W hW; clear hW; go_simp) <;> with_reducible rfl)
  simp only [Act.put, List.getElem_toArray, List.getElem_cons_zero, List.getElem_cons_succ, List.setIfInBounds_toArray, List.set_cons_zero, List.set_cons_succ]
  refine wpAnyH_done (by kernel_rfl) ?_ _
  have R29 := cell_lit hcl 7 _ rfl
  go_wp2_with fail
  clear R29
  with_reducible refine (lwaited (b := false) _ (cl_of hcl) hd hb).mono ?_
  rintro e w4 ⟨rfl, b4⟩
  replace hcl := blk_u hcl b4
  replace kt := kt.trans (kt_below b4)
  replace bel := bel.trans (b4.mono (Nat.le_trans hlo bel.size))
  clear b4
  go_wp2_with fail
  go_ret
  exact ⟨rfl, ⟨hcl, ocl⟩, kt, bel⟩
set_option linter.unusedVariables false in
set_option linter.unusedSimpArgs false in
set_option maxRecDepth 100000 in
set_option maxHeartbeats 16000000 in
theorem ltick_5again {lo gc : Nat} {m0 m1 m2 m3 m4 m5 now xid sent wait tries a0 a1 a2 a3 k0 k1 k2 k3 r0 r1 r2 r3 s0 s1 s2 s3 un t1 t2 : Int} {t draw d : Int} (w : World) (hT : Cl lo gc w #[.int .u8 m0, .int .u8 m1, .int .u8 m2, .int .u8 m3, .int .u8 m4, .int .u8 m5, .int .i64 now, .int .i64 5, .int .u32 xid, .int .i64 sent, .int .i64 wait, .int .i64 tries, .int .u8 a0, .int .u8 a1, .int .u8 a2, .int .u8 a3, .int .u8 k0, .int .u8 k1, .int .u8 k2, .int .u8 k3, .int .u8 r0, .int .u8 r1, .int .u8 r2, .int .u8 r3, .int .u8 s0, .int .u8 s1, .int .u8 s2, .int .u8 s3, .int .i64 un, .int .i64 t1, .int .i64 t2]) (h0 : now ≤ t) (h2 : t ≤ 1099511627776) (hu : decide (un ≤ t) = false) (hd : IntKind.i64.wrap (t - sent) = d) (hb : decide (60 ≤ d) = true) : Calls Try.prog 12 #[.pointer (some ⟨gc, 0, none⟩), .int .i64 t, .int .u32 draw] w fun e w' => ∃ g, e = .returned (.slice (some ⟨g, 0, none⟩) 1 1) ∧ Ms w' g [.int .i64 1, .int .i64 0, .int .u32 xid, .int .i64 0, .int .i64 0, .int .u8 a0, .int .u8 a1, .int .u8 a2, .int .u8 a3, .int .u8 0, .int .u8 0, .int .u8 0, .int .u8 0, .int .u8 0, .int .u8 0, .int .u8 0, .int .u8 0, .int .u8 0, .int .u8 0, .int .u8 0, .int .u8 0, .int .u8 m0, .int .u8 m1, .int .u8 m2, .int .u8 m3, .int .u8 m4, .int .u8 m5] 3 ∧ Cl lo gc w' #[.int .u8 m0, .int .u8 m1, .int .u8 m2, .int .u8 m3, .int .u8 m4, .int .u8 m5, .int .i64 t, .int .i64 5, .int .u32 xid, .int .i64 t, .int .i64 wait, .int .i64 tries, .int .u8 a0, .int .u8 a1, .int .u8 a2, .int .u8 a3, .int .u8 k0, .int .u8 k1, .int .u8 k2, .int .u8 k3, .int .u8 r0, .int .u8 r1, .int .u8 r2, .int .u8 r3, .int .u8 s0, .int .u8 s1, .int .u8 s2, .int .u8 s3, .int .i64 un, .int .i64 t1, .int .i64 t2] ∧ Kt [51] w w' ∧ Below lo w w' := by
  obtain ⟨hcl, ocl⟩ := hT
  have hlo : lo ≤ w.heap.size := Nat.le_trans ocl (Nat.le_of_lt (hlt hcl))
  have kt := Kt.refl [51] w
  have bel := Below.refl lo w
  go_enter Try.func12, Try.ntmps12
  go_wp2_with fail
  go_wp2_with fail
  have hT : Cl lo gc w _ := ⟨hcl, ocl⟩
  clear hcl
  with_reducible refine (ladv _ hT h0 h2).mono ?_
  rintro e w1 ⟨rfl, hT_, k_, bb⟩
  replace kt := kt.trans k_
  clear hT
  have hT := hT_
  replace bel := bel.trans bb
  clear bb k_ hT_
  obtain ⟨hcl, _⟩ := hT
  go_wp2_with fail
  replace bel := bel.drew
  replace hcl : w1.drew.heap[gc]? = _ := hcl
  replace kt := kt_drew kt
  refine wp_region_held_drew (S := fun W => W.heap[gc]? = some (.cells #[.int .u8 m0, .int .u8 m1, .int .u8 m2, .int .u8 m3, .int .u8 m4, .int .u8 m5, .int .i64 t, .int .i64 5, .int .u32 xid, .int .i64 sent, .int .i64 wait, .int .i64 tries, .int .u8 a0, .int .u8 a1, .int .u8 a2, .int .u8 a3, .int .u8 k0, .int .u8 k1, .int .u8 k2, .int .u8 k3, .int .u8 r0, .int .u8 r1, .int .u8 r2, .int .u8 r3, .int .u8 s0, .int .u8 s1, .int .u8 s2, .int .u8 s3, .int .i64 un, .int .i64 t1, .int .i64 t2] 51 (0, 0))) (by kernel_rfl) hcl (fun hH => ?_)
  generalize w1.drew = w2 at bel hcl kt hH ⊢
  refine wpAnyH_take (i := 0) (v := ?_) rfl (by kernel_rfl) (by kernel_rfl) (by kernel_rfl) (fun _ _ _ h => h) (Or.inl ⟨by rfl, ?_⟩) hH ?_
  rotate_left
  · ((intro W hW; clear hW; go_simp) <;> with_reducible rfl)
  simp only [Act.put, List.getElem_toArray, List.getElem_cons_zero, List.setIfInBounds_toArray, List.set_cons_zero, List.set_cons_succ]
  refine wpAnyH_ready (rs := [1]) (by kernel_rfl) (by simp) ?_
  refine AllReadyH.cons (o := _) rfl (fun K hK => ?_) AllReadyH.nil
  simp only [List.getElem_toArray, List.getElem_cons_zero, List.getElem_cons_succ]
  go_simp
  with_reducible refine (lbound_is (b := true) _ (cl_of hcl) (by decide)).mono ?_
  rintro e _ ⟨rfl, rfl⟩
  dsimp only
  refine hK.out _ _ hcl (fun hH3 => ?_)
  clear hK K
  refine wpAnyH_take (i := 2) (v := ?_) rfl (by kernel_rfl) (by kernel_rfl) (by kernel_rfl) (fun _ _ _ h => h) (Or.inl ⟨by rfl, ?_⟩) hH3 ?_
  rotate_left
  · ((intro W hW; clear hW; go_simp) <;> with_reducible rfl)
  simp only [Act.put, List.getElem_toArray, List.getElem_cons_zero, List.getElem_cons_succ, List.setIfInBounds_toArray, List.set_cons_zero, List.set_cons_succ]
  refine wpAnyH_take (i := 3) (v := ?_) rfl (by kernel_rfl) (by kernel_rfl) (by kernel_rfl) (fun _ _ _ h => h) (Or.inl ⟨by rfl, ?_⟩) hH3 ?_
  rotate_left
  · ((intro W hW; clear hW; go_simp) <;> with_reducible rfl)
  simp only [Act.put, List.getElem_toArray, List.getElem_cons_zero, List.getElem_cons_succ, List.setIfInBounds_toArray, List.set_cons_zero, List.set_cons_succ]
  refine wpAnyH_take (i := 4) (v := ?_) rfl (by kernel_rfl) (by kernel_rfl) (by kernel_rfl) (fun _ _ _ h => h) (Or.inl ⟨by rfl, ?_⟩) hH3 ?_
  rotate_left
  · ((intro W hW; clear hW; go_simp) <;> with_reducible rfl)
  simp only [Act.put, List.getElem_toArray, List.getElem_cons_zero, List.getElem_cons_succ, List.setIfInBounds_toArray, List.set_cons_zero, List.set_cons_succ]
  refine wpAnyH_take (i := 5) (v := ?_) rfl (by kernel_rfl) (by kernel_rfl) (by kernel_rfl) (fun _ _ _ h => h) (Or.inl ⟨by rfl, ?_⟩) hH3 ?_
  rotate_left
  · ((intro W hW; clear hW; go_simp) <;> with_reducible rfl)
  simp only [Act.put, List.getElem_toArray, List.getElem_cons_zero, List.getElem_cons_succ, List.setIfInBounds_toArray, List.set_cons_zero, List.set_cons_succ]
  refine wpAnyH_take (i := 6) (v := ?_) rfl (by kernel_rfl) (by kernel_rfl) (by kernel_rfl) (fun _ _ _ h => h) (Or.inl ⟨by rfl, ?_⟩) hH3 ?_
  rotate_left
  · ((intro W hW; have hk := cell_lit (hW) 6 _ rfl; clear hW; go_simp) <;> with_reducible rfl)
  simp only [Act.put, List.getElem_toArray, List.getElem_cons_zero, List.getElem_cons_succ, List.setIfInBounds_toArray, List.set_cons_zero, List.set_cons_succ]
  refine wpAnyH_take (i := 7) (v := ?_) rfl (by kernel_rfl) (by kernel_rfl) (by kernel_rfl) (fun _ _ _ h => h) (Or.inl ⟨by rfl, ?_⟩) hH3 ?_
  rotate_left
  · ((intro W hW; clear hW; go_simp) <;> with_reducible rfl)
  simp only [Act.put, List.getElem_toArray, List.getElem_cons_zero, List.getElem_cons_succ, List.setIfInBounds_toArray, List.set_cons_zero, List.set_cons_succ]
  refine wpAnyH_take (i := 8) (v := ?_) rfl (by kernel_rfl) (by kernel_rfl) (by kernel_rfl) (fun _ _ _ h => h) (Or.inl ⟨by rfl, ?_⟩) hH3 ?_
  rotate_left
  · ((intro W hW; clear hW; go_simp) <;> with_reducible rfl)
  simp only [Act.put, List.getElem_toArray, List.getElem_cons_zero, List.getElem_cons_succ, List.setIfInBounds_toArray, List.set_cons_zero, List.set_cons_succ]
  refine wpAnyH_take (i := 9) (v := ?_) rfl (by kernel_rfl) (by kernel_rfl) (by kernel_rfl) (fun _ _ _ h => h) (Or.inl ⟨by rfl, ?_⟩) hH3 ?_
  rotate_left
  · ((intro W hW; clear hW; go_simp) <;> with_reducible rfl)
  simp only [Act.put, List.getElem_toArray, List.getElem_cons_zero, List.getElem_cons_succ, List.setIfInBounds_toArray, List.set_cons_zero, List.set_cons_succ]
  refine wpAnyH_take (i := 10) (v := ?_) rfl (by kernel_rfl) (by kernel_rfl) (by kernel_rfl) (fun _ _ _ h => h) (Or.inl ⟨by rfl, ?_⟩) hH3 ?_
  rotate_left
  · ((intro W hW; clear hW; go_simp) <;> with_reducible rfl)
  simp only [Act.put, List.getElem_toArray, List.getElem_cons_zero, List.getElem_cons_succ, List.setIfInBounds_toArray, List.set_cons_zero, List.set_cons_succ]
  refine wpAnyH_take (i := 11) (v := ?_) rfl (by kernel_rfl) (by kernel_rfl) (by kernel_rfl) (fun _ _ _ h => h) (Or.inl ⟨by rfl, ?_⟩) hH3 ?_
  rotate_left
  · ((intro W hW; have hk := cell_lit (hW) 28 _ rfl; clear hW; go_simp) <;> with_reducible rfl)
  simp only [Act.put, List.getElem_toArray, List.getElem_cons_zero, List.getElem_cons_succ, List.setIfInBounds_toArray, List.set_cons_zero, List.set_cons_succ]
  refine wpAnyH_take (i := 12) (v := ?_) rfl (by kernel_rfl) (by kernel_rfl) (by kernel_rfl) (fun _ _ _ h => h) (Or.inl ⟨by rfl, ?_⟩) hH3 ?_
  rotate_left
  · ((intro W hW; clear hW; go_simp) <;> with_reducible rfl)
  simp only [Act.put, List.getElem_toArray, List.getElem_cons_zero, List.getElem_cons_succ, List.setIfInBounds_toArray, List.set_cons_zero, List.set_cons_succ]
  refine wpAnyH_take (i := 13) (v := ?_) rfl (by kernel_rfl) (by kernel_rfl) (by kernel_rfl) (fun _ _ _ h => h) (Or.inl ⟨by rfl, ?_⟩) hH3 ?_
  rotate_left
  · ((intro W hW; clear hW; go_simp) <;> with_reducible rfl)
  simp only [Act.put, List.getElem_toArray, List.getElem_cons_zero, List.getElem_cons_succ, List.setIfInBounds_toArray, List.set_cons_zero, List.set_cons_succ]
  refine wpAnyH_done (by kernel_rfl) ?_ _
  have R29 := cell_lit hcl 7 _ rfl
  go_wp2_with fail
  clear R29
  with_reducible refine (lwaited (b := true) _ (cl_of hcl) hd hb).mono ?_
  rintro e w4 ⟨rfl, b4⟩
  replace hcl := blk_u hcl b4
  replace kt := kt.trans (kt_below b4)
  replace bel := bel.trans (b4.mono (Nat.le_trans hlo bel.size))
  clear b4
  go_wp2_with fail
  go_wp2_with fail
  have hT : Cl lo gc w4 _ := ⟨hcl, ocl⟩
  clear hcl
  with_reducible refine (lsend_4 _ hT (by decide) (by decide)).mono ?_
  rintro e w5 ⟨gm, rfl, hm, hT_, k_, bb⟩
  replace kt := kt.trans k_
  clear hT
  have hT := hT_
  replace bel := bel.trans bb
  clear bb k_ hT_
  go_wp2_with fail
  go_ret
  exact ⟨_, rfl, hm, hT, kt, bel⟩
end Go.Proofs.Ytjfboofnffghjaa
