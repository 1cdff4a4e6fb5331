/- Cells of twenty-one; arp's knownOp, readMac, readAddr. -/
import Derived.Test.YtekjjknpifpkiaaApp
import Derived.Test.YtekjjknpifpkiaaEth1
import Derived.Deep.RegionHeld3
namespace Go.Proofs.Ytekjjknpifpkiaa
open Go.RowKit

set_option maxRecDepth 100000 in
theorem cells21 {w : World} {k : Nat} {x0 x1 x2 x3 x4 x5 x6 x7 x8 x9 x10 x11 x12 x13 x14 x15 x16 x17 x18 x19 x20 : Value} {T : TypeId} (h : w.heap[k]? = some (.cells #[x0, x1, x2, x3, x4, x5, x6, x7, x8, x9, x10, x11, x12, x13, x14, x15, x16, x17, x18, x19, x20] T (0, 0))) :
    (w.cell? ⟨k, 0, none⟩ = some x0 ∧ w.cell? ⟨k, 1, none⟩ = some x1 ∧ w.cell? ⟨k, 2, none⟩ = some x2 ∧ w.cell? ⟨k, 3, none⟩ = some x3 ∧ w.cell? ⟨k, 4, none⟩ = some x4 ∧ w.cell? ⟨k, 5, none⟩ = some x5 ∧ w.cell? ⟨k, 6, none⟩ = some x6 ∧ w.cell? ⟨k, 7, none⟩ = some x7 ∧ w.cell? ⟨k, 8, none⟩ = some x8 ∧ w.cell? ⟨k, 9, none⟩ = some x9 ∧ w.cell? ⟨k, 10, none⟩ = some x10 ∧ w.cell? ⟨k, 11, none⟩ = some x11 ∧ w.cell? ⟨k, 12, none⟩ = some x12 ∧ w.cell? ⟨k, 13, none⟩ = some x13 ∧ w.cell? ⟨k, 14, none⟩ = some x14 ∧ w.cell? ⟨k, 15, none⟩ = some x15 ∧ w.cell? ⟨k, 16, none⟩ = some x16 ∧ w.cell? ⟨k, 17, none⟩ = some x17 ∧ w.cell? ⟨k, 18, none⟩ = some x18 ∧ w.cell? ⟨k, 19, none⟩ = some x19 ∧ w.cell? ⟨k, 20, none⟩ = some x20) ∧
    (w.frozen? ⟨k, 0, none⟩ = false ∧ w.frozen? ⟨k, 1, none⟩ = false ∧ w.frozen? ⟨k, 2, none⟩ = false ∧ w.frozen? ⟨k, 3, none⟩ = false ∧ w.frozen? ⟨k, 4, none⟩ = false ∧ w.frozen? ⟨k, 5, none⟩ = false ∧ w.frozen? ⟨k, 6, none⟩ = false ∧ w.frozen? ⟨k, 7, none⟩ = false ∧ w.frozen? ⟨k, 8, none⟩ = false ∧ w.frozen? ⟨k, 9, none⟩ = false ∧ w.frozen? ⟨k, 10, none⟩ = false ∧ w.frozen? ⟨k, 11, none⟩ = false ∧ w.frozen? ⟨k, 12, none⟩ = false ∧ w.frozen? ⟨k, 13, none⟩ = false ∧ w.frozen? ⟨k, 14, none⟩ = false ∧ w.frozen? ⟨k, 15, none⟩ = false ∧ w.frozen? ⟨k, 16, none⟩ = false ∧ w.frozen? ⟨k, 17, none⟩ = false ∧ w.frozen? ⟨k, 18, none⟩ = false ∧ w.frozen? ⟨k, 19, none⟩ = false ∧ w.frozen? ⟨k, 20, none⟩ = false) := by
  simp [World.cell?, World.frozen?, h]
set_option maxRecDepth 100000 in
theorem put21 {w : World} {k : Nat} {x0 x1 x2 x3 x4 x5 x6 x7 x8 x9 x10 x11 x12 x13 x14 x15 x16 x17 x18 x19 x20 y0 y1 y2 y3 y4 y5 y6 y7 y8 y9 y10 y11 y12 y13 y14 y15 y16 y17 y18 y19 y20 : Value} {T : TypeId} (h : w.heap[k]? = some (.cells #[x0, x1, x2, x3, x4, x5, x6, x7, x8, x9, x10, x11, x12, x13, x14, x15, x16, x17, x18, x19, x20] T (0, 0))) :
    (((((((((((((((((((((w.setCell ⟨k, 0, none⟩ y0).setCell ⟨k, 1, none⟩ y1).setCell ⟨k, 2, none⟩ y2).setCell ⟨k, 3, none⟩ y3).setCell ⟨k, 4, none⟩ y4).setCell ⟨k, 5, none⟩ y5).setCell ⟨k, 6, none⟩ y6).setCell ⟨k, 7, none⟩ y7).setCell ⟨k, 8, none⟩ y8).setCell ⟨k, 9, none⟩ y9).setCell ⟨k, 10, none⟩ y10).setCell ⟨k, 11, none⟩ y11).setCell ⟨k, 12, none⟩ y12).setCell ⟨k, 13, none⟩ y13).setCell ⟨k, 14, none⟩ y14).setCell ⟨k, 15, none⟩ y15).setCell ⟨k, 16, none⟩ y16).setCell ⟨k, 17, none⟩ y17).setCell ⟨k, 18, none⟩ y18).setCell ⟨k, 19, none⟩ y19).setCell ⟨k, 20, none⟩ y20).heap[k]? = some (.cells #[y0, y1, y2, y3, y4, y5, y6, y7, y8, y9, y10, y11, y12, y13, y14, y15, y16, y17, y18, y19, y20] T (0, 0)) := by
  simp [World.setCell, Array.getElem?_modify, h]
theorem bel21 {B : Nat} {w0 w : World} {k : Nat} (y0 y1 y2 y3 y4 y5 y6 y7 y8 y9 y10 y11 y12 y13 y14 y15 y16 y17 y18 y19 y20 : Value) (h : Below B w0 w) (hk : B ≤ k) : Below B w0 (((((((((((((((((((((w.setCell ⟨k, 0, none⟩ y0).setCell ⟨k, 1, none⟩ y1).setCell ⟨k, 2, none⟩ y2).setCell ⟨k, 3, none⟩ y3).setCell ⟨k, 4, none⟩ y4).setCell ⟨k, 5, none⟩ y5).setCell ⟨k, 6, none⟩ y6).setCell ⟨k, 7, none⟩ y7).setCell ⟨k, 8, none⟩ y8).setCell ⟨k, 9, none⟩ y9).setCell ⟨k, 10, none⟩ y10).setCell ⟨k, 11, none⟩ y11).setCell ⟨k, 12, none⟩ y12).setCell ⟨k, 13, none⟩ y13).setCell ⟨k, 14, none⟩ y14).setCell ⟨k, 15, none⟩ y15).setCell ⟨k, 16, none⟩ y16).setCell ⟨k, 17, none⟩ y17).setCell ⟨k, 18, none⟩ y18).setCell ⟨k, 19, none⟩ y19).setCell ⟨k, 20, none⟩ y20) :=
  (((((((((((((((((((((h.setCell hk _).setCell hk _).setCell hk _).setCell hk _).setCell hk _).setCell hk _).setCell hk _).setCell hk _).setCell hk _).setCell hk _).setCell hk _).setCell hk _).setCell hk _).setCell hk _).setCell hk _).setCell hk _).setCell hk _).setCell hk _).setCell hk _).setCell hk _).setCell hk _)
theorem bel4 {B : Nat} {w0 w : World} {k : Nat} (y0 y1 y2 y3 : Value) (h : Below B w0 w) (hk : B ≤ k) : Below B w0 ((((w.setCell ⟨k, 0, none⟩ y0).setCell ⟨k, 1, none⟩ y1).setCell ⟨k, 2, none⟩ y2).setCell ⟨k, 3, none⟩ y3) :=
  ((((h.setCell hk _).setCell hk _).setCell hk _).setCell hk _)

/-- Is a number an Op of a packet? -/
def isOp (op : Int) : Bool := decide (op = 1) || decide (op = 2)
theorem knownOp_any (op : Int) (w : World) : Calls Try.prog 24 #[.int .i64 op] w fun e w' => e = .returned (.bool (isOp op)) ∧ w = w' := by
  by_cases h1 : op = 1
  · subst h1
    go_enter Try.func24, Try.ntmps24
    go_wp2
    go_ret
    exact ⟨rfl, rfl⟩
  · have e1 : (op == 1) = false := by simpa using h1
    by_cases h2 : op = 2
    · subst h2
      go_enter Try.func24, Try.ntmps24
      go_wp2
      go_ret
      exact ⟨rfl, rfl⟩
    · have e2 : (op == 2) = false := by simpa using h2
      have e3 : isOp op = false := by simp [isOp, h1, h2]
      rw [e3]
      clear e3
      go_enter Try.func24, Try.ntmps24
      go_wp2
      go_ret
      exact ⟨rfl, rfl⟩

set_option maxRecDepth 100000 in
set_option maxHeartbeats 1000000 in
theorem amac_any (g : Nat) (a0 a1 a2 a3 a4 a5 : UInt8) (r : List UInt8) (s : Bool) (w : World) (hr : Rd w 65 g (a0 :: a1 :: a2 :: a3 :: a4 :: a5 :: r) s) :
    Calls Try.prog 22 #[.pointer (some ⟨g, 0, none⟩)] w fun e w' => e = .returned (.agg #[.int .u8 (a0.toNat : Int), .int .u8 (a1.toNat : Int), .int .u8 (a2.toNat : Int), .int .u8 (a3.toNat : Int), .int .u8 (a4.toNat : Int), .int .u8 (a5.toNat : Int)]) ∧ Rd w' 65 g r s ∧ w.grownBy w' (some g) := by
  have HG := Lib.hid hr.lt
  have h0 : ((w.alloc (.cells #[.int .u8 0, .int .u8 0, .int .u8 0, .int .u8 0, .int .u8 0, .int .u8 0] 24)).alloc (.cells #[.int .u8 0, .int .u8 0, .int .u8 0, .int .u8 0, .int .u8 0, .int .u8 0] 24)).heap[w.heap.size]? = some (.cells #[.int .u8 0, .int .u8 0, .int .u8 0, .int .u8 0, .int .u8 0, .int .u8 0] 24 (0, 0)) := (Go.heap_alloc_old (w.alloc (.cells #[.int .u8 0, .int .u8 0, .int .u8 0, .int .u8 0, .int .u8 0, .int .u8 0] 24)) (.cells #[.int .u8 0, .int .u8 0, .int .u8 0, .int .u8 0, .int .u8 0, .int .u8 0] 24) (r := w.heap.size) (by simp)).trans (heap_alloc_new w _)
  have h1 : ((w.alloc (.cells #[.int .u8 0, .int .u8 0, .int .u8 0, .int .u8 0, .int .u8 0, .int .u8 0] 24)).alloc (.cells #[.int .u8 0, .int .u8 0, .int .u8 0, .int .u8 0, .int .u8 0, .int .u8 0] 24)).heap[w.heap.size + 1]? = some (.cells #[.int .u8 0, .int .u8 0, .int .u8 0, .int .u8 0, .int .u8 0, .int .u8 0] 24 (0, 0)) := by
    have := heap_alloc_new (w.alloc (.cells #[.int .u8 0, .int .u8 0, .int .u8 0, .int .u8 0, .int .u8 0, .int .u8 0] 24)) (.cells #[.int .u8 0, .int .u8 0, .int .u8 0, .int .u8 0, .int .u8 0, .int .u8 0] 24); simpa using this
  have bel : Below w.heap.size w ((w.alloc (.cells #[.int .u8 0, .int .u8 0, .int .u8 0, .int .u8 0, .int .u8 0, .int .u8 0] 24)).alloc (.cells #[.int .u8 0, .int .u8 0, .int .u8 0, .int .u8 0, .int .u8 0, .int .u8 0] 24)) := ((Below.refl _ w).alloc (Nat.le_refl _) _).alloc (by simp) _
  have hR := (hr.rb.below bel).drew
  have hgr := grown_of_below (row := some g) bel.drew
  clear bel hr
  go_enter Try.func22, Try.ntmps22
  go_wp2_with fail
  generalize ((w.alloc (.cells #[.int .u8 0, .int .u8 0, .int .u8 0, .int .u8 0, .int .u8 0, .int .u8 0] 24)).alloc (.cells #[.int .u8 0, .int .u8 0, .int .u8 0, .int .u8 0, .int .u8 0, .int .u8 0] 24)) = v0 at h0 h1 hR hgr ⊢
  have z0 : w.heap.size < v0.drew.heap.size := (Array.getElem?_eq_some_iff.1 h0).1
  have z1 : w.heap.size + 1 < v0.drew.heap.size := (Array.getElem?_eq_some_iff.1 h1).1
  have M := Lib.hid (show Calls Try.prog 32 #[.pointer (some ⟨g, 0, none⟩), .int .i64 6] v0.drew fun e w' => ∃ A c, e = .returned (.slice A 6 c) ∧ Sl w' A 6 c [a0, a1, a2, a3, a4, a5] ∧ Rb w' 65 g w.heap.size r s ∧ v0.drew.grownBy w' (some g) ∧ Fr v0.drew.heap.size A 6 from bytes_b g w.heap.size (a0 :: a1 :: a2 :: a3 :: a4 :: a5 :: r) s 6 v0.drew hR (by simp) (by omega))
  refine wp_region_held_drew (S := fun _ => True) (by kernel_rfl) trivial (fun hH => ?_)
  refine wpAnyH_take (i := 0) (v := ?_) rfl (by kernel_rfl) (by kernel_rfl) (by kernel_rfl) (fun _ _ _ h => h) (Or.inl ⟨by rfl, ?_⟩) hH ?_
  rotate_left
  · ((intro w hw; clear hw; go_simp) <;> with_reducible rfl)
  simp only [Act.put, List.getElem_toArray, List.getElem_cons_zero, List.setIfInBounds_toArray, List.set_cons_zero, List.set_cons_succ]
  refine wpAnyH_take (i := 1) (v := ?_) rfl (by kernel_rfl) (by kernel_rfl) (by kernel_rfl) (fun _ _ _ h => h) (Or.inl ⟨by rfl, ?_⟩) hH ?_
  rotate_left
  · ((intro w hw; clear hw; go_simp) <;> with_reducible rfl)
  simp only [Act.put, List.getElem_toArray, List.getElem_cons_zero, List.getElem_cons_succ, List.setIfInBounds_toArray, List.set_cons_zero, List.set_cons_succ]
  refine wpAnyH_ready (rs := [2]) (by kernel_rfl) (by simp) ?_
  refine AllReadyH.cons (o := _) rfl (fun K hK => ?_) AllReadyH.nil
  simp only [List.getElem_toArray, List.getElem_cons_zero, List.getElem_cons_succ]
  go_simp
  with_reducible refine M.out.mono ?_
  rintro e v1 ⟨A, c, rfl, hs, hR1, hg1, hf⟩
  dsimp only
  have h2 : v1.heap[w.heap.size]? = some (.cells #[.int .u8 0, .int .u8 0, .int .u8 0, .int .u8 0, .int .u8 0, .int .u8 0] 24 (0, 0)) := (hg1.block _ z0 (by have := HG.out; simp; omega)).trans h0
  have h3 : v1.heap[w.heap.size + 1]? = some (.cells #[.int .u8 0, .int .u8 0, .int .u8 0, .int .u8 0, .int .u8 0, .int .u8 0] 24 (0, 0)) := (hg1.block _ z1 (by have := HG.out; simp; omega)).trans h1
  have hgr1 := hgr.trans hg1
  refine hK.out _ _ trivial (fun hH1 => ?_)
  clear hK K
  refine wpAnyH_ready (rs := [3]) (by kernel_rfl) (by simp) ?_
  refine AllReadyH.cons (o := _) rfl (fun K hK => ?_) AllReadyH.nil
  simp only [List.getElem_toArray, List.getElem_cons_zero, List.getElem_cons_succ]
  rw [if_pos (by rfl)]
  refine wp_copy_all (.tmp 4) (.tmp 6) 32 32 rfl 5 Try.underlying32 (by kernel_rfl) (w.heap.size + 1) 6 c A [a0, a1, a2, a3, a4, a5] #[.int .u8 0, .int .u8 0, .int .u8 0, .int .u8 0, .int .u8 0, .int .u8 0] 24 rfl rfl h3 rfl hs (by omega) ?_
  intro v2 hb2 hg2
  have h4 := (hg2.block w.heap.size (Array.getElem?_eq_some_iff.1 h2).1 (by simp)).trans h2
  have hR3 := hR1.grown hg2 (by omega) (by have := HG.out; omega)
  have hgr3 := grown_new hgr1 hg2 (by omega)
  refine hK.out _ _ trivial (fun _ => ?_)
  clear hK K
  refine wpAnyH_done (by kernel_rfl) ?_ _
  replace hb2 : v2.heap[w.heap.size + 1]? = some (.cells #[.int .u8 (a0.toNat : Int), .int .u8 (a1.toNat : Int), .int .u8 (a2.toNat : Int), .int .u8 (a3.toNat : Int), .int .u8 (a4.toNat : Int), .int .u8 (a5.toNat : Int)] 24 (0, 0)) := hb2
  have hne : w.heap.size ≠ g := by have := HG.out; omega
  have HZ := Lib.hid h4
  obtain ⟨⟨k0, k1, k2, k3, k4, k5⟩, _⟩ := cells6 hb2
  obtain ⟨⟨q0, q1, q2, q3, q4, q5⟩, f0, f1, f2, f3, f4, f5⟩ := cells6 h4
  clear M h4 hb2 h2 h3 hs hR1 hR hg1 hg2 hgr hgr1 h0 h1 z0 z1
  go_wp2
  have R4 := put6 (y0 := .int .u8 (a0.toNat : Int)) (y1 := .int .u8 (a1.toNat : Int)) (y2 := .int .u8 (a2.toNat : Int)) (y3 := .int .u8 (a3.toNat : Int)) (y4 := .int .u8 (a4.toNat : Int)) (y5 := .int .u8 (a5.toNat : Int)) HZ.out
  obtain ⟨⟨j0, j1, j2, j3, j4, j5⟩, _⟩ := cells6 R4
  clear R4
  exact bodyPost_ret (v := .agg #[.int .u8 (a0.toNat : Int), .int .u8 (a1.toNat : Int), .int .u8 (a2.toNat : Int), .int .u8 (a3.toNat : Int), .int .u8 (a4.toNat : Int), .int .u8 (a5.toNat : Int)]) (by simp [results, Try.results22, go_sem, j0, j1, j2, j3, j4, j5]) rfl ⟨rfl, ((((((hR3.setCell (Nat.le_refl _) hne _ _).setCell (Nat.le_refl _) hne _ _).setCell (Nat.le_refl _) hne _ _).setCell (Nat.le_refl _) hne _ _).setCell (Nat.le_refl _) hne _ _).setCell (Nat.le_refl _) hne _ _).rd, (grown_setCell (grown_setCell (grown_setCell (grown_setCell (grown_setCell (grown_setCell hgr3 (Nat.le_refl _) _ _) (Nat.le_refl _) _ _) (Nat.le_refl _) _ _) (Nat.le_refl _) _ _) (Nat.le_refl _) _ _) (Nat.le_refl _) _ _)⟩

set_option maxRecDepth 100000 in
set_option maxHeartbeats 1000000 in
theorem aaddr_any (g : Nat) (p0 p1 p2 p3 : UInt8) (r : List UInt8) (s : Bool) (w : World) (hr : Rd w 65 g (p0 :: p1 :: p2 :: p3 :: r) s) :
    Calls Try.prog 23 #[.pointer (some ⟨g, 0, none⟩)] w fun e w' => e = .returned (.agg #[.int .u8 (p0.toNat : Int), .int .u8 (p1.toNat : Int), .int .u8 (p2.toNat : Int), .int .u8 (p3.toNat : Int)]) ∧ Rd w' 65 g r s ∧ w.grownBy w' (some g) := by
  have HG := Lib.hid hr.lt
  have h0 : ((w.alloc (.cells #[.int .u8 0, .int .u8 0, .int .u8 0, .int .u8 0] 26)).alloc (.cells #[.int .u8 0, .int .u8 0, .int .u8 0, .int .u8 0] 26)).heap[w.heap.size]? = some (.cells #[.int .u8 0, .int .u8 0, .int .u8 0, .int .u8 0] 26 (0, 0)) := (Go.heap_alloc_old (w.alloc (.cells #[.int .u8 0, .int .u8 0, .int .u8 0, .int .u8 0] 26)) (.cells #[.int .u8 0, .int .u8 0, .int .u8 0, .int .u8 0] 26) (r := w.heap.size) (by simp)).trans (heap_alloc_new w _)
  have h1 : ((w.alloc (.cells #[.int .u8 0, .int .u8 0, .int .u8 0, .int .u8 0] 26)).alloc (.cells #[.int .u8 0, .int .u8 0, .int .u8 0, .int .u8 0] 26)).heap[w.heap.size + 1]? = some (.cells #[.int .u8 0, .int .u8 0, .int .u8 0, .int .u8 0] 26 (0, 0)) := by
    have := heap_alloc_new (w.alloc (.cells #[.int .u8 0, .int .u8 0, .int .u8 0, .int .u8 0] 26)) (.cells #[.int .u8 0, .int .u8 0, .int .u8 0, .int .u8 0] 26); simpa using this
  have bel : Below w.heap.size w ((w.alloc (.cells #[.int .u8 0, .int .u8 0, .int .u8 0, .int .u8 0] 26)).alloc (.cells #[.int .u8 0, .int .u8 0, .int .u8 0, .int .u8 0] 26)) := ((Below.refl _ w).alloc (Nat.le_refl _) _).alloc (by simp) _
  have hR := (hr.rb.below bel).drew
  have hgr := grown_of_below (row := some g) bel.drew
  clear bel hr
  go_enter Try.func23, Try.ntmps23
  go_wp2_with fail
  generalize ((w.alloc (.cells #[.int .u8 0, .int .u8 0, .int .u8 0, .int .u8 0] 26)).alloc (.cells #[.int .u8 0, .int .u8 0, .int .u8 0, .int .u8 0] 26)) = v0 at h0 h1 hR hgr ⊢
  have z0 : w.heap.size < v0.drew.heap.size := (Array.getElem?_eq_some_iff.1 h0).1
  have z1 : w.heap.size + 1 < v0.drew.heap.size := (Array.getElem?_eq_some_iff.1 h1).1
  have M := Lib.hid (show Calls Try.prog 32 #[.pointer (some ⟨g, 0, none⟩), .int .i64 4] v0.drew fun e w' => ∃ A c, e = .returned (.slice A 4 c) ∧ Sl w' A 4 c [p0, p1, p2, p3] ∧ Rb w' 65 g w.heap.size r s ∧ v0.drew.grownBy w' (some g) ∧ Fr v0.drew.heap.size A 4 from bytes_b g w.heap.size (p0 :: p1 :: p2 :: p3 :: r) s 4 v0.drew hR (by simp) (by omega))
  refine wp_region_held_drew (S := fun _ => True) (by kernel_rfl) trivial (fun hH => ?_)
  refine wpAnyH_take (i := 0) (v := ?_) rfl (by kernel_rfl) (by kernel_rfl) (by kernel_rfl) (fun _ _ _ h => h) (Or.inl ⟨by rfl, ?_⟩) hH ?_
  rotate_left
  · ((intro w hw; clear hw; go_simp) <;> with_reducible rfl)
  simp only [Act.put, List.getElem_toArray, List.getElem_cons_zero, List.setIfInBounds_toArray, List.set_cons_zero, List.set_cons_succ]
  refine wpAnyH_take (i := 1) (v := ?_) rfl (by kernel_rfl) (by kernel_rfl) (by kernel_rfl) (fun _ _ _ h => h) (Or.inl ⟨by rfl, ?_⟩) hH ?_
  rotate_left
  · ((intro w hw; clear hw; go_simp) <;> with_reducible rfl)
  simp only [Act.put, List.getElem_toArray, List.getElem_cons_zero, List.getElem_cons_succ, List.setIfInBounds_toArray, List.set_cons_zero, List.set_cons_succ]
  refine wpAnyH_ready (rs := [2]) (by kernel_rfl) (by simp) ?_
  refine AllReadyH.cons (o := _) rfl (fun K hK => ?_) AllReadyH.nil
  simp only [List.getElem_toArray, List.getElem_cons_zero, List.getElem_cons_succ]
  go_simp
  with_reducible refine M.out.mono ?_
  rintro e v1 ⟨A, c, rfl, hs, hR1, hg1, hf⟩
  dsimp only
  have h2 : v1.heap[w.heap.size]? = some (.cells #[.int .u8 0, .int .u8 0, .int .u8 0, .int .u8 0] 26 (0, 0)) := (hg1.block _ z0 (by have := HG.out; simp; omega)).trans h0
  have h3 : v1.heap[w.heap.size + 1]? = some (.cells #[.int .u8 0, .int .u8 0, .int .u8 0, .int .u8 0] 26 (0, 0)) := (hg1.block _ z1 (by have := HG.out; simp; omega)).trans h1
  have hgr1 := hgr.trans hg1
  refine hK.out _ _ trivial (fun hH1 => ?_)
  clear hK K
  refine wpAnyH_ready (rs := [3]) (by kernel_rfl) (by simp) ?_
  refine AllReadyH.cons (o := _) rfl (fun K hK => ?_) AllReadyH.nil
  simp only [List.getElem_toArray, List.getElem_cons_zero, List.getElem_cons_succ]
  rw [if_pos (by rfl)]
  refine wp_copy_all (.tmp 4) (.tmp 6) 32 32 rfl 5 Try.underlying32 (by kernel_rfl) (w.heap.size + 1) 4 c A [p0, p1, p2, p3] #[.int .u8 0, .int .u8 0, .int .u8 0, .int .u8 0] 26 rfl rfl h3 rfl hs (by omega) ?_
  intro v2 hb2 hg2
  have h4 := (hg2.block w.heap.size (Array.getElem?_eq_some_iff.1 h2).1 (by simp)).trans h2
  have hR3 := hR1.grown hg2 (by omega) (by have := HG.out; omega)
  have hgr3 := grown_new hgr1 hg2 (by omega)
  refine hK.out _ _ trivial (fun _ => ?_)
  clear hK K
  refine wpAnyH_done (by kernel_rfl) ?_ _
  replace hb2 : v2.heap[w.heap.size + 1]? = some (.cells #[.int .u8 (p0.toNat : Int), .int .u8 (p1.toNat : Int), .int .u8 (p2.toNat : Int), .int .u8 (p3.toNat : Int)] 26 (0, 0)) := hb2
  have hne : w.heap.size ≠ g := by have := HG.out; omega
  have HZ := Lib.hid h4
  obtain ⟨⟨k0, k1, k2, k3⟩, _⟩ := cells4 hb2
  obtain ⟨⟨q0, q1, q2, q3⟩, f0, f1, f2, f3⟩ := cells4 h4
  clear M h4 hb2 h2 h3 hs hR1 hR hg1 hg2 hgr hgr1 h0 h1 z0 z1
  go_wp2
  have R4 := put4 (x := .int .u8 (p0.toNat : Int)) (y := .int .u8 (p1.toNat : Int)) (z := .int .u8 (p2.toNat : Int)) (u := .int .u8 (p3.toNat : Int)) HZ.out
  obtain ⟨⟨j0, j1, j2, j3⟩, _⟩ := cells4 R4
  clear R4
  exact bodyPost_ret (v := .agg #[.int .u8 (p0.toNat : Int), .int .u8 (p1.toNat : Int), .int .u8 (p2.toNat : Int), .int .u8 (p3.toNat : Int)]) (by simp [results, Try.results23, go_sem, j0, j1, j2, j3]) rfl ⟨rfl, ((((hR3.setCell (Nat.le_refl _) hne _ _).setCell (Nat.le_refl _) hne _ _).setCell (Nat.le_refl _) hne _ _).setCell (Nat.le_refl _) hne _ _).rd, (grown_setCell (grown_setCell (grown_setCell (grown_setCell hgr3 (Nat.le_refl _) _ _) (Nat.le_refl _) _ _) (Nat.le_refl _) _ _) (Nat.le_refl _) _ _)⟩
end Go.Proofs.Ytekjjknpifpkiaa
