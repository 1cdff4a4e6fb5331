/- The reference's Has. -/
import Derived.Test.YtdfobilagidmfaaAdrEq
import Derived.Test.YtdfobilagidmfaaRef3n
namespace Go.Proofs.Ytdfobilagidmfaa
open Go.RowKit

set_option maxHeartbeats 4000000 in
theorem rhas_any (a b c d a2 b2 c2 d2 : UInt8) (bt : Int) (w : World) :
    Calls Try.prog 73 #[.agg #[.int .u8 (a.toNat : Int), .int .u8 (b.toNat : Int), .int .u8 (c.toNat : Int), .int .u8 (d.toNat : Int), .int .i64 bt], .agg #[.int .u8 (a2.toNat : Int), .int .u8 (b2.toNat : Int), .int .u8 (c2.toNat : Int), .int .u8 (d2.toNat : Int)]] w fun e w' => e = .returned (.bool (firstN (be [a, b, c, d]) (clamp bt) == firstN (be [a2, b2, c2, d2]) (clamp bt))) ∧ Below w.heap.size w w' := by
  have h1 := be_four_lt a b c d
  have h2 := be_four_lt a2 b2 c2 d2
  have l1 := firstN_le (be [a, b, c, d]) (clamp bt)
  have l2 := firstN_le (be [a2, b2, c2, d2]) (clamp bt)
  have heq := fun W => eql_adr (firstN (be [a, b, c, d]) (clamp bt)) (firstN (be [a2, b2, c2, d2]) (clamp bt)) (by omega) (by omega) W
  have hgd := fun op x y W => guard_adr op x y (firstN (be [a, b, c, d]) (clamp bt)) (firstN (be [a2, b2, c2, d2]) (clamp bt)) W
  have HF1 := Lib.hid fun W => rfirst_any a b c d bt W
  have HF2 := Lib.hid fun W => rfirst_any a2 b2 c2 d2 bt W
  generalize adr (firstN (be [a, b, c, d]) (clamp bt)) = f1 at *
  generalize adr (firstN (be [a2, b2, c2, d2]) (clamp bt)) = f2 at *
  generalize (firstN (be [a, b, c, d]) (clamp bt) == firstN (be [a2, b2, c2, d2]) (clamp bt)) = res at *
  clear h1 h2 l1 l2
  have hb1 : ((w.alloc (.cells #[.int .u8 (a.toNat : Int), .int .u8 (b.toNat : Int), .int .u8 (c.toNat : Int), .int .u8 (d.toNat : Int), .int .i64 bt] 36)).alloc (.cells #[.int .u8 (a2.toNat : Int), .int .u8 (b2.toNat : Int), .int .u8 (c2.toNat : Int), .int .u8 (d2.toNat : Int)] 24)).heap[w.heap.size + 1]? = some (.cells #[.int .u8 (a2.toNat : Int), .int .u8 (b2.toNat : Int), .int .u8 (c2.toNat : Int), .int .u8 (d2.toNat : Int)] 24 (0, 0)) := by have := heap_alloc_new (w.alloc (.cells #[.int .u8 (a.toNat : Int), .int .u8 (b.toNat : Int), .int .u8 (c.toNat : Int), .int .u8 (d.toNat : Int), .int .i64 bt] 36)) (.cells #[.int .u8 (a2.toNat : Int), .int .u8 (b2.toNat : Int), .int .u8 (c2.toNat : Int), .int .u8 (d2.toNat : Int)] 24); simpa using this
  have hb0 : ((w.alloc (.cells #[.int .u8 (a.toNat : Int), .int .u8 (b.toNat : Int), .int .u8 (c.toNat : Int), .int .u8 (d.toNat : Int), .int .i64 bt] 36)).alloc (.cells #[.int .u8 (a2.toNat : Int), .int .u8 (b2.toNat : Int), .int .u8 (c2.toNat : Int), .int .u8 (d2.toNat : Int)] 24)).heap[w.heap.size]? = some (.cells #[.int .u8 (a.toNat : Int), .int .u8 (b.toNat : Int), .int .u8 (c.toNat : Int), .int .u8 (d.toNat : Int), .int .i64 bt] 36 (0, 0)) := (Go.heap_alloc_old (w.alloc (.cells #[.int .u8 (a.toNat : Int), .int .u8 (b.toNat : Int), .int .u8 (c.toNat : Int), .int .u8 (d.toNat : Int), .int .i64 bt] 36)) (.cells #[.int .u8 (a2.toNat : Int), .int .u8 (b2.toNat : Int), .int .u8 (c2.toNat : Int), .int .u8 (d2.toNat : Int)] 24) (r := w.heap.size) (by simp)).trans (heap_alloc_new w _)
  have bel : Below w.heap.size w ((w.alloc (.cells #[.int .u8 (a.toNat : Int), .int .u8 (b.toNat : Int), .int .u8 (c.toNat : Int), .int .u8 (d.toNat : Int), .int .i64 bt] 36)).alloc (.cells #[.int .u8 (a2.toNat : Int), .int .u8 (b2.toNat : Int), .int .u8 (c2.toNat : Int), .int .u8 (d2.toNat : Int)] 24)) := ((Below.refl _ w).alloc (Nat.le_refl _) _).alloc (by simp) _
  have hz0 : w.heap.size < ((w.alloc (.cells #[.int .u8 (a.toNat : Int), .int .u8 (b.toNat : Int), .int .u8 (c.toNat : Int), .int .u8 (d.toNat : Int), .int .i64 bt] 36)).alloc (.cells #[.int .u8 (a2.toNat : Int), .int .u8 (b2.toNat : Int), .int .u8 (c2.toNat : Int), .int .u8 (d2.toNat : Int)] 24)).heap.size := by simp; omega
  have hz1 : w.heap.size + 1 < ((w.alloc (.cells #[.int .u8 (a.toNat : Int), .int .u8 (b.toNat : Int), .int .u8 (c.toNat : Int), .int .u8 (d.toNat : Int), .int .i64 bt] 36)).alloc (.cells #[.int .u8 (a2.toNat : Int), .int .u8 (b2.toNat : Int), .int .u8 (c2.toNat : Int), .int .u8 (d2.toNat : Int)] 24)).heap.size := by simp
  obtain ⟨⟨s0, s1, s2, s3, s4⟩, _⟩ := cells5 hb0
  obtain ⟨⟨s5, s6, s7, s8⟩, _⟩ := cells4 hb1
  clear hb0 hb1
  go_enter Try.func73, Try.ntmps73
  go_wp2_with fail
  generalize ((w.alloc (.cells #[.int .u8 (a.toNat : Int), .int .u8 (b.toNat : Int), .int .u8 (c.toNat : Int), .int .u8 (d.toNat : Int), .int .i64 bt] 36)).alloc (.cells #[.int .u8 (a2.toNat : Int), .int .u8 (b2.toNat : Int), .int .u8 (c2.toNat : Int), .int .u8 (d2.toNat : Int)] 24)) = w2 at s0 s1 s2 s3 s4 s5 s6 s7 s8 bel hz0 hz1 ⊢
  refine wp_region_held_drew (S := fun W => W.cell? ⟨w.heap.size, 0, none⟩ = some (.int .u8 (a.toNat : Int)) ∧ W.cell? ⟨w.heap.size, 1, none⟩ = some (.int .u8 (b.toNat : Int)) ∧ W.cell? ⟨w.heap.size, 2, none⟩ = some (.int .u8 (c.toNat : Int)) ∧ W.cell? ⟨w.heap.size, 3, none⟩ = some (.int .u8 (d.toNat : Int)) ∧ W.cell? ⟨w.heap.size, 4, none⟩ = some (.int .i64 bt) ∧ W.cell? ⟨w.heap.size + 1, 0, none⟩ = some (.int .u8 (a2.toNat : Int)) ∧ W.cell? ⟨w.heap.size + 1, 1, none⟩ = some (.int .u8 (b2.toNat : Int)) ∧ W.cell? ⟨w.heap.size + 1, 2, none⟩ = some (.int .u8 (c2.toNat : Int)) ∧ W.cell? ⟨w.heap.size + 1, 3, none⟩ = some (.int .u8 (d2.toNat : Int))) (by kernel_rfl) ⟨s0, s1, s2, s3, s4, s5, s6, s7, s8⟩ (fun hH => ?_)
  refine wpAnyH_take (i := 0) (v := ?_) rfl (by kernel_rfl) (by kernel_rfl) (by kernel_rfl) (fun _ _ _ h => h) (Or.inl ⟨by rfl, ?_⟩) hH ?_
  rotate_left
  · ((intro W hW; obtain ⟨s0, s1, s2, s3, s4, s5, s6, s7, s8⟩ := hW; go_simp) <;> with_reducible rfl)
  simp only [Act.put, List.getElem_toArray, List.getElem_cons_zero, List.setIfInBounds_toArray, List.set_cons_zero, List.set_cons_succ]
  refine wpAnyH_take (i := 2) (v := ?_) rfl (by kernel_rfl) (by kernel_rfl) (by kernel_rfl) (fun _ _ _ h => h) (Or.inl ⟨by rfl, ?_⟩) hH ?_
  rotate_left
  · ((intro W hW; obtain ⟨s0, s1, s2, s3, s4, s5, s6, s7, s8⟩ := hW; go_simp) <;> with_reducible rfl)
  simp only [Act.put, List.getElem_toArray, List.getElem_cons_zero, List.getElem_cons_succ, List.setIfInBounds_toArray, List.set_cons_zero, List.set_cons_succ]
  refine wpAnyH_take (i := 3) (v := ?_) rfl (by kernel_rfl) (by kernel_rfl) (by kernel_rfl) (fun _ _ _ h => h) (Or.inl ⟨by rfl, ?_⟩) hH ?_
  rotate_left
  · ((intro W hW; obtain ⟨s0, s1, s2, s3, s4, s5, s6, s7, s8⟩ := hW; go_simp) <;> with_reducible rfl)
  simp only [Act.put, List.getElem_toArray, List.getElem_cons_zero, List.getElem_cons_succ, List.setIfInBounds_toArray, List.set_cons_zero, List.set_cons_succ]
  refine wpAnyH_take (i := 4) (v := ?_) rfl (by kernel_rfl) (by kernel_rfl) (by kernel_rfl) (fun _ _ _ h => h) (Or.inl ⟨by rfl, ?_⟩) hH ?_
  rotate_left
  · ((intro W hW; obtain ⟨s0, s1, s2, s3, s4, s5, s6, s7, s8⟩ := hW; go_simp) <;> with_reducible rfl)
  simp only [Act.put, List.getElem_toArray, List.getElem_cons_zero, List.getElem_cons_succ, List.setIfInBounds_toArray, List.set_cons_zero, List.set_cons_succ]
  refine wpAnyH_take (i := 5) (v := ?_) rfl (by kernel_rfl) (by kernel_rfl) (by kernel_rfl) (fun _ _ _ h => h) (Or.inl ⟨by rfl, ?_⟩) hH ?_
  rotate_left
  · ((intro W hW; obtain ⟨s0, s1, s2, s3, s4, s5, s6, s7, s8⟩ := hW; go_simp) <;> with_reducible rfl)
  simp only [Act.put, List.getElem_toArray, List.getElem_cons_zero, List.getElem_cons_succ, List.setIfInBounds_toArray, List.set_cons_zero, List.set_cons_succ]
  refine wpAnyH_ready (rs := [1]) (by kernel_rfl) (by simp) ?_
  refine AllReadyH.cons (o := _) rfl (fun K hK => ?_) AllReadyH.nil
  simp only [List.getElem_toArray, List.getElem_cons_zero, List.getElem_cons_succ]
  go_simp
  refine (HF1.out _).mono ?_
  rintro e w3 ⟨rfl, b3⟩
  dsimp only
  have bel3 := bel.drew.trans (b3.mono bel.size)
  refine hK.out _ _ ⟨(b3.cell (p := ⟨_, 0, none⟩) hz0).trans hH.1, (b3.cell (p := ⟨_, 1, none⟩) hz0).trans hH.2.1, (b3.cell (p := ⟨_, 2, none⟩) hz0).trans hH.2.2.1, (b3.cell (p := ⟨_, 3, none⟩) hz0).trans hH.2.2.2.1, (b3.cell (p := ⟨_, 4, none⟩) hz0).trans hH.2.2.2.2.1, (b3.cell (p := ⟨_, 0, none⟩) hz1).trans hH.2.2.2.2.2.1, (b3.cell (p := ⟨_, 1, none⟩) hz1).trans hH.2.2.2.2.2.2.1, (b3.cell (p := ⟨_, 2, none⟩) hz1).trans hH.2.2.2.2.2.2.2.1, (b3.cell (p := ⟨_, 3, none⟩) hz1).trans hH.2.2.2.2.2.2.2.2⟩ (fun hH3 => ?_)
  clear hK K
  have hz0 := Nat.lt_of_lt_of_le hz0 b3.size
  have hz1 := Nat.lt_of_lt_of_le hz1 b3.size
  refine wpAnyH_ready (rs := [6]) (by kernel_rfl) (by simp) ?_
  refine AllReadyH.cons (o := _) rfl (fun K hK => ?_) AllReadyH.nil
  simp only [List.getElem_toArray, List.getElem_cons_zero, List.getElem_cons_succ]
  go_simp
  refine (HF2.out _).mono ?_
  rintro e w4 ⟨rfl, b4⟩
  dsimp only
  have bel4 := bel3.trans (b4.mono bel3.size)
  refine hK.out _ _ ⟨(b4.cell (p := ⟨_, 0, none⟩) hz0).trans hH3.1, (b4.cell (p := ⟨_, 1, none⟩) hz0).trans hH3.2.1, (b4.cell (p := ⟨_, 2, none⟩) hz0).trans hH3.2.2.1, (b4.cell (p := ⟨_, 3, none⟩) hz0).trans hH3.2.2.2.1, (b4.cell (p := ⟨_, 4, none⟩) hz0).trans hH3.2.2.2.2.1, (b4.cell (p := ⟨_, 0, none⟩) hz1).trans hH3.2.2.2.2.2.1, (b4.cell (p := ⟨_, 1, none⟩) hz1).trans hH3.2.2.2.2.2.2.1, (b4.cell (p := ⟨_, 2, none⟩) hz1).trans hH3.2.2.2.2.2.2.2.1, (b4.cell (p := ⟨_, 3, none⟩) hz1).trans hH3.2.2.2.2.2.2.2.2⟩ (fun hH4 => ?_)
  clear hK K
  refine wpAnyH_take (i := 7) (v := ?_) rfl (by kernel_rfl) (by kernel_rfl) (by kernel_rfl) (fun _ _ _ h => h) (Or.inl ⟨by rfl, ?_⟩) hH4 ?_
  rotate_left
  · ((intro w hw; clear hw; go_simp) <;> with_reducible rfl)
  simp only [Act.put, List.getElem_toArray, List.getElem_cons_zero, List.getElem_cons_succ, List.setIfInBounds_toArray, List.set_cons_zero, List.set_cons_succ]
  refine wpAnyH_take (i := 8) (v := ?_) rfl (by kernel_rfl) (by kernel_rfl) (by kernel_rfl) (fun _ _ _ h => h) (Or.inl ⟨by rfl, ?_⟩) hH4 ?_
  rotate_left
  · ((intro w hw; clear hw; go_simp) <;> with_reducible rfl)
  simp only [Act.put, List.getElem_toArray, List.getElem_cons_zero, List.getElem_cons_succ, List.setIfInBounds_toArray, List.set_cons_zero, List.set_cons_succ]
  refine wpAnyH_done (by kernel_rfl) ?_ _
  go_wp2
  go_ret
  exact ⟨rfl, bel4⟩
end Go.Proofs.Ytdfobilagidmfaa
