/- The reference's ParseNet. -/
import Derived.Test.YtppjnhjglhlpkaaDoorRef3s
import Derived.Test.YtppjnhjglhlpkaaDoorAdrEq
import Derived.Deep.RegionHeld3
namespace Go.Proofs.YtppjnhjglhlpkaaDoor
open Go.RowKit

/-- A net as a value. -/
def netV (a b c d : UInt8) (n : Int) : Value := .agg #[.int .u8 (a.toNat : Int), .int .u8 (b.toNat : Int), .int .u8 (c.toNat : Int), .int .u8 (d.toNat : Int), .int .i64 n]
theorem split_some (s : ByteArray) (w : World) (hs : s.size ≤ 1000) (a b c d : UInt8) (n : Int) (ok : Bool) (hA : splitA s.data.toList = (a, b, c, d)) (hN : splitN s.data.toList = n) (hO : splitOk s.data.toList = ok) :
    Calls Tryd.prog 35 #[.string s] w fun e w' => e = .returned (.tuple #[.agg #[.int .u8 (a.toNat : Int), .int .u8 (b.toNat : Int), .int .u8 (c.toNat : Int), .int .u8 (d.toNat : Int)], .int .i64 n, .bool ok]) ∧ Below w.heap.size w w' := by
  refine (split_any s w hs).mono fun e w' h => ?_
  unfold SplitPost at h
  rw [hA, hN, hO] at h
  exact h

/-- The result's block, behind a call: five cells. -/
theorem old_net {w w1 : World} (h : Below (w.alloc (.cells #[.int .u8 0, .int .u8 0, .int .u8 0, .int .u8 0, .int .i64 0] 41)).heap.size (w.alloc (.cells #[.int .u8 0, .int .u8 0, .int .u8 0, .int .u8 0, .int .i64 0] 41)) w1) :
    w1.heap[w.heap.size]? = some (.cells #[.int .u8 0, .int .u8 0, .int .u8 0, .int .u8 0, .int .i64 0] 41 (0, 0)) ∧ w.heap.size < w1.heap.size := by
  have hs := h.size
  simp at hs
  exact ⟨(h.block _ (by simp)).trans (heap_alloc_new w _), by omega⟩
theorem cells5 {w : World} {k : Nat} {a b c d e : Value} {T : TypeId} (h : w.heap[k]? = some (.cells #[a, b, c, d, e] T (0, 0))) :
    (w.cell? ⟨k, 0, none⟩ = some a ∧ w.cell? ⟨k, 1, none⟩ = some b ∧ w.cell? ⟨k, 2, none⟩ = some c ∧ w.cell? ⟨k, 3, none⟩ = some d ∧ w.cell? ⟨k, 4, none⟩ = some e) ∧
    (w.frozen? ⟨k, 0, none⟩ = false ∧ w.frozen? ⟨k, 1, none⟩ = false ∧ w.frozen? ⟨k, 2, none⟩ = false ∧ w.frozen? ⟨k, 3, none⟩ = false ∧ w.frozen? ⟨k, 4, none⟩ = false) := by
  simp [World.cell?, World.frozen?, h]
theorem put5 {w : World} {k : Nat} {a b c d e x y z u v : Value} {T : TypeId} (h : w.heap[k]? = some (.cells #[a, b, c, d, e] T (0, 0))) :
    (((((w.setCell ⟨k, 0, none⟩ x).setCell ⟨k, 1, none⟩ y).setCell ⟨k, 2, none⟩ z).setCell ⟨k, 3, none⟩ u).setCell ⟨k, 4, none⟩ v).heap[k]? = some (.cells #[x, y, z, u, v] T (0, 0)) := by
  simp [World.setCell, Array.getElem?_modify, h]

set_option maxHeartbeats 2000000 in
theorem net_bad (s : ByteArray) (w : World) (hs : s.size ≤ 1000) (a b c d : UInt8) (n : Int) (ok : Bool) (hA : splitA s.data.toList = (a, b, c, d)) (hN : splitN s.data.toList = n) (hO : splitOk s.data.toList = ok) (hk : ok = false) :
    Calls Tryd.prog 16 #[.string s] w fun e w' => e = .returned (.tuple #[netV 0 0 0 0 0, .int .i64 9]) ∧ Below w.heap.size w w' := by
  have HS := Lib.hid fun W => split_some s W hs a b c d n ok hA hN hO
  clear hA hN hO
  subst hk
  go_enter Tryd.func16, Tryd.ntmps16
  go_wp2_with fail
  with_reducible refine (HS.out _).mono ?_
  rintro e w1 ⟨rfl, bel1⟩
  obtain ⟨r0, r1⟩ := old_net bel1
  have bel := ((Below.refl w.heap.size w).alloc (Nat.le_refl _) (.cells #[.int .u8 0, .int .u8 0, .int .u8 0, .int .u8 0, .int .i64 0] 41)).trans (bel1.mono (by simp))
  obtain ⟨⟨q0, q1, q2, q3, q4⟩, f0, f1, f2, f3, f4⟩ := cells5 r0
  have R0 := Lib.hid r0
  have hwb : w.heap.size ≠ w1.heap.size := by omega
  clear r0 bel1
  go_wp2
  have R4 : (((((w1.setCell ⟨w.heap.size, 0, none⟩ (.int .u8 0)).setCell ⟨w.heap.size, 1, none⟩ (.int .u8 0)).setCell ⟨w.heap.size, 2, none⟩ (.int .u8 0)).setCell ⟨w.heap.size, 3, none⟩ (.int .u8 0)).setCell ⟨w.heap.size, 4, none⟩ (.int .i64 0)).heap[w.heap.size]? = some (.cells #[.int .u8 0, .int .u8 0, .int .u8 0, .int .u8 0, .int .i64 0] 41 (0, 0)) := put5 R0.out
  have R5 := (Go.heap_alloc_old (((((w1.setCell ⟨w.heap.size, 0, none⟩ (.int .u8 0)).setCell ⟨w.heap.size, 1, none⟩ (.int .u8 0)).setCell ⟨w.heap.size, 2, none⟩ (.int .u8 0)).setCell ⟨w.heap.size, 3, none⟩ (.int .u8 0)).setCell ⟨w.heap.size, 4, none⟩ (.int .i64 0)) (.cells #[.int .u8 (a.toNat : Int), .int .u8 (b.toNat : Int), .int .u8 (c.toNat : Int), .int .u8 (d.toNat : Int)] 24) (r := w.heap.size) (by simp; exact r1)).trans R4
  obtain ⟨⟨k0, k1, k2, k3, k4⟩, _⟩ := cells5 R5
  clear R4 R5
  exact bodyPost_ret (v := .tuple #[netV 0 0 0 0 0, .int .i64 9]) (by simp [results, Tryd.results16, go_sem, netV, k0, k1, k2, k3, k4]) rfl ⟨rfl, ((((((bel.setCell (Nat.le_refl _) _).setCell (Nat.le_refl _) _).setCell (Nat.le_refl _) _).setCell (Nat.le_refl _) _).setCell (Nat.le_refl _) _).alloc (by simp; omega) _)⟩

set_option maxHeartbeats 2000000 in
theorem net_arg (s : ByteArray) (w : World) (hs : s.size ≤ 1000) (a b c d : UInt8) (n : Int) (ok : Bool) (hA : splitA s.data.toList = (a, b, c, d)) (hN : splitN s.data.toList = n) (hO : splitOk s.data.toList = ok) (hk : ok = true) (hf : firstN (be [a, b, c, d]) (clamp n) ≠ be [a, b, c, d]) :
    Calls Tryd.prog 16 #[.string s] w fun e w' => e = .returned (.tuple #[netV 0 0 0 0 0, .int .i64 1]) ∧ Below w.heap.size w w' := by
  have HS := Lib.hid fun W => split_some s W hs a b c d n ok hA hN hO
  clear hA hN hO
  subst hk
  have hlt4 := be_four_lt a b c d
  have hfl := firstN_le (be [a, b, c, d]) (clamp n)
  have hne := fun W => neq_adr (firstN (be [a, b, c, d]) (clamp n)) (be [a, b, c, d]) (by omega) hlt4 W
  have HF := Lib.hid fun W => rfirst_any a b c d n W
  have hgd := fun op x y W => guard_adr op x y (firstN (be [a, b, c, d]) (clamp n)) (be [a, b, c, d]) W
  rw [adr_be] at hne
  simp only [adr_be] at hgd
  rw [show (firstN (be [a, b, c, d]) (clamp n) == be [a, b, c, d]) = false by simpa using hf] at hne
  generalize adr (firstN (be [a, b, c, d]) (clamp n)) = fv at *
  clear hlt4 hfl hf
  go_enter Tryd.func16, Tryd.ntmps16
  go_wp2_with fail
  with_reducible refine (HS.out _).mono ?_
  rintro e w1 ⟨rfl, bel1⟩
  obtain ⟨r0, r1⟩ := old_net bel1
  have bel := ((Below.refl w.heap.size w).alloc (Nat.le_refl _) (.cells #[.int .u8 0, .int .u8 0, .int .u8 0, .int .u8 0, .int .i64 0] 41)).trans (bel1.mono (by simp))
  obtain ⟨⟨q0, q1, q2, q3, q4⟩, f0, f1, f2, f3, f4⟩ := cells5 r0
  have R0 := Lib.hid r0
  have hwb : w.heap.size ≠ w1.heap.size := by omega
  clear r0 bel1
  go_wp2_with fail
  have hblk := heap_alloc_new w1 (.cells #[.int .u8 (a.toNat : Int), .int .u8 (b.toNat : Int), .int .u8 (c.toNat : Int), .int .u8 (d.toNat : Int)] 24)
  have hz : w1.heap.size < (w1.alloc (.cells #[.int .u8 (a.toNat : Int), .int .u8 (b.toNat : Int), .int .u8 (c.toNat : Int), .int .u8 (d.toNat : Int)] 24)).heap.size := by simp
  have R1 := (Go.heap_alloc_old w1 (.cells #[.int .u8 (a.toNat : Int), .int .u8 (b.toNat : Int), .int .u8 (c.toNat : Int), .int .u8 (d.toNat : Int)] 24) (r := w.heap.size) r1).trans R0.out
  have belA := bel.alloc (by omega) (.cells #[.int .u8 (a.toNat : Int), .int .u8 (b.toNat : Int), .int .u8 (c.toNat : Int), .int .u8 (d.toNat : Int)] 24)
  have hzw : w.heap.size < (w1.alloc (.cells #[.int .u8 (a.toNat : Int), .int .u8 (b.toNat : Int), .int .u8 (c.toNat : Int), .int .u8 (d.toNat : Int)] 24)).heap.size := by simp; omega
  obtain ⟨⟨z0, z1, z2, z3⟩, _⟩ := cells4 hblk
  generalize w1.alloc (.cells #[.int .u8 (a.toNat : Int), .int .u8 (b.toNat : Int), .int .u8 (c.toNat : Int), .int .u8 (d.toNat : Int)] 24) = w2 at z0 z1 z2 z3 hblk R1 hz hzw belA ⊢
  clear q0 q1 q2 q3 q4 f0 f1 f2 f3 f4 R0 bel
  refine wp_region_held_drew (S := fun W => W.cell? ⟨w1.heap.size, 0, none⟩ = some (.int .u8 (a.toNat : Int)) ∧ W.cell? ⟨w1.heap.size, 1, none⟩ = some (.int .u8 (b.toNat : Int)) ∧ W.cell? ⟨w1.heap.size, 2, none⟩ = some (.int .u8 (c.toNat : Int)) ∧ W.cell? ⟨w1.heap.size, 3, none⟩ = some (.int .u8 (d.toNat : Int))) (by kernel_rfl) ⟨z0, z1, z2, z3⟩ (fun hH => ?_)
  refine wpAnyH_take (i := 0) (v := ?_) rfl (by kernel_rfl) (by kernel_rfl) (by kernel_rfl) (fun _ _ _ h => h) (Or.inl ⟨by rfl, ?_⟩) hH ?_
  rotate_left
  · ((intro W hW; obtain ⟨z0, z1, z2, z3⟩ := hW; go_simp) <;> with_reducible rfl)
  simp only [Act.put, List.getElem_toArray, List.getElem_cons_zero, List.setIfInBounds_toArray, List.set_cons_zero, List.set_cons_succ]
  refine wpAnyH_take (i := 1) (v := ?_) rfl (by kernel_rfl) (by kernel_rfl) (by kernel_rfl) (fun _ _ _ h => h) (Or.inl ⟨by rfl, ?_⟩) hH ?_
  rotate_left
  · ((intro W hW; obtain ⟨z0, z1, z2, z3⟩ := hW; go_simp) <;> with_reducible rfl)
  simp only [Act.put, List.getElem_toArray, List.getElem_cons_zero, List.getElem_cons_succ, List.setIfInBounds_toArray, List.set_cons_zero, List.set_cons_succ]
  refine wpAnyH_take (i := 4) (v := ?_) rfl (by kernel_rfl) (by kernel_rfl) (by kernel_rfl) (fun _ _ _ h => h) (Or.inl ⟨by rfl, ?_⟩) hH ?_
  rotate_left
  · ((intro W hW; obtain ⟨z0, z1, z2, z3⟩ := hW; go_simp) <;> with_reducible rfl)
  simp only [Act.put, List.getElem_toArray, List.getElem_cons_zero, List.getElem_cons_succ, List.setIfInBounds_toArray, List.set_cons_zero, List.set_cons_succ]
  refine wpAnyH_take (i := 2) (v := ?_) rfl (by kernel_rfl) (by kernel_rfl) (by kernel_rfl) (fun _ _ _ h => h) (Or.inl ⟨by rfl, ?_⟩) hH ?_
  rotate_left
  · ((intro W hW; obtain ⟨z0, z1, z2, z3⟩ := hW; go_simp) <;> with_reducible rfl)
  simp only [Act.put, List.getElem_toArray, List.getElem_cons_zero, List.getElem_cons_succ, List.setIfInBounds_toArray, List.set_cons_zero, List.set_cons_succ]
  refine wpAnyH_ready (rs := [3]) (by kernel_rfl) (by simp) ?_
  refine AllReadyH.cons (o := _) rfl (fun K hK => ?_) AllReadyH.nil
  simp only [List.getElem_toArray, List.getElem_cons_zero, List.getElem_cons_succ]
  go_simp
  refine (HF.out _).mono ?_
  rintro e w3 ⟨rfl, b3⟩
  dsimp only
  have bel3 := belA.drew.trans (b3.mono belA.size)
  have r3 := (b3.block _ hzw).trans R1
  have x3 := (b3.block _ hz).trans hblk
  refine hK.out _ _ ⟨(b3.cell (p := ⟨_, 0, none⟩) hz).trans hH.1, (b3.cell (p := ⟨_, 1, none⟩) hz).trans hH.2.1, (b3.cell (p := ⟨_, 2, none⟩) hz).trans hH.2.2.1, (b3.cell (p := ⟨_, 3, none⟩) hz).trans hH.2.2.2⟩ (fun hH3 => ?_)
  clear hK K
  refine wpAnyH_take (i := 5) (v := ?_) rfl (by kernel_rfl) (by kernel_rfl) (by kernel_rfl) (fun _ _ _ h => h) (Or.inl ⟨by rfl, ?_⟩) hH3 ?_
  rotate_left
  · ((intro w hw; clear hw; go_simp) <;> with_reducible rfl)
  simp only [Act.put, List.getElem_toArray, List.getElem_cons_zero, List.getElem_cons_succ, List.setIfInBounds_toArray, List.set_cons_zero, List.set_cons_succ]
  refine wpAnyH_done (by kernel_rfl) ?_ _
  have R0 := Lib.hid r3
  obtain ⟨⟨q0, q1, q2, q3, q4⟩, f0, f1, f2, f3, f4⟩ := cells5 r3
  obtain ⟨⟨y0, y1, y2, y3⟩, _⟩ := cells4 x3
  clear R1 r3 x3 hblk belA z0 z1 z2 z3 b3 hne hgd
  go_wp2
  have R4 : (((((w3.setCell ⟨w.heap.size, 0, none⟩ (.int .u8 0)).setCell ⟨w.heap.size, 1, none⟩ (.int .u8 0)).setCell ⟨w.heap.size, 2, none⟩ (.int .u8 0)).setCell ⟨w.heap.size, 3, none⟩ (.int .u8 0)).setCell ⟨w.heap.size, 4, none⟩ (.int .i64 0)).heap[w.heap.size]? = some (.cells #[.int .u8 0, .int .u8 0, .int .u8 0, .int .u8 0, .int .i64 0] 41 (0, 0)) := put5 R0.out
  have R5 := R4
  obtain ⟨⟨k0, k1, k2, k3, k4⟩, _⟩ := cells5 R5
  clear R4 R5
  exact bodyPost_ret (v := .tuple #[netV 0 0 0 0 0, .int .i64 1]) (by simp [results, Tryd.results16, go_sem, netV, k0, k1, k2, k3, k4]) rfl ⟨rfl, (((((bel3.setCell (Nat.le_refl _) _).setCell (Nat.le_refl _) _).setCell (Nat.le_refl _) _).setCell (Nat.le_refl _) _).setCell (Nat.le_refl _) _)⟩

set_option maxHeartbeats 2000000 in
theorem net_ok (s : ByteArray) (w : World) (hs : s.size ≤ 1000) (a b c d : UInt8) (n : Int) (ok : Bool) (hA : splitA s.data.toList = (a, b, c, d)) (hN : splitN s.data.toList = n) (hO : splitOk s.data.toList = ok) (hk : ok = true) (hf : firstN (be [a, b, c, d]) (clamp n) = be [a, b, c, d]) :
    Calls Tryd.prog 16 #[.string s] w fun e w' => e = .returned (.tuple #[netV a b c d n, .int .i64 0]) ∧ Below w.heap.size w w' := by
  have HS := Lib.hid fun W => split_some s W hs a b c d n ok hA hN hO
  clear hA hN hO
  subst hk
  have hlt4 := be_four_lt a b c d
  have hfl := firstN_le (be [a, b, c, d]) (clamp n)
  have hne := fun W => neq_adr (firstN (be [a, b, c, d]) (clamp n)) (be [a, b, c, d]) (by omega) hlt4 W
  have HF := Lib.hid fun W => rfirst_any a b c d n W
  have hgd := fun op x y W => guard_adr op x y (firstN (be [a, b, c, d]) (clamp n)) (be [a, b, c, d]) W
  rw [adr_be] at hne
  simp only [adr_be] at hgd
  rw [show (firstN (be [a, b, c, d]) (clamp n) == be [a, b, c, d]) = true by simpa using hf] at hne
  generalize adr (firstN (be [a, b, c, d]) (clamp n)) = fv at *
  clear hlt4 hfl hf
  go_enter Tryd.func16, Tryd.ntmps16
  go_wp2_with fail
  with_reducible refine (HS.out _).mono ?_
  rintro e w1 ⟨rfl, bel1⟩
  obtain ⟨r0, r1⟩ := old_net bel1
  have bel := ((Below.refl w.heap.size w).alloc (Nat.le_refl _) (.cells #[.int .u8 0, .int .u8 0, .int .u8 0, .int .u8 0, .int .i64 0] 41)).trans (bel1.mono (by simp))
  obtain ⟨⟨q0, q1, q2, q3, q4⟩, f0, f1, f2, f3, f4⟩ := cells5 r0
  have R0 := Lib.hid r0
  have hwb : w.heap.size ≠ w1.heap.size := by omega
  clear r0 bel1
  go_wp2_with fail
  have hblk := heap_alloc_new w1 (.cells #[.int .u8 (a.toNat : Int), .int .u8 (b.toNat : Int), .int .u8 (c.toNat : Int), .int .u8 (d.toNat : Int)] 24)
  have hz : w1.heap.size < (w1.alloc (.cells #[.int .u8 (a.toNat : Int), .int .u8 (b.toNat : Int), .int .u8 (c.toNat : Int), .int .u8 (d.toNat : Int)] 24)).heap.size := by simp
  have R1 := (Go.heap_alloc_old w1 (.cells #[.int .u8 (a.toNat : Int), .int .u8 (b.toNat : Int), .int .u8 (c.toNat : Int), .int .u8 (d.toNat : Int)] 24) (r := w.heap.size) r1).trans R0.out
  have belA := bel.alloc (by omega) (.cells #[.int .u8 (a.toNat : Int), .int .u8 (b.toNat : Int), .int .u8 (c.toNat : Int), .int .u8 (d.toNat : Int)] 24)
  have hzw : w.heap.size < (w1.alloc (.cells #[.int .u8 (a.toNat : Int), .int .u8 (b.toNat : Int), .int .u8 (c.toNat : Int), .int .u8 (d.toNat : Int)] 24)).heap.size := by simp; omega
  obtain ⟨⟨z0, z1, z2, z3⟩, _⟩ := cells4 hblk
  generalize w1.alloc (.cells #[.int .u8 (a.toNat : Int), .int .u8 (b.toNat : Int), .int .u8 (c.toNat : Int), .int .u8 (d.toNat : Int)] 24) = w2 at z0 z1 z2 z3 hblk R1 hz hzw belA ⊢
  clear q0 q1 q2 q3 q4 f0 f1 f2 f3 f4 R0 bel
  refine wp_region_held_drew (S := fun W => W.cell? ⟨w1.heap.size, 0, none⟩ = some (.int .u8 (a.toNat : Int)) ∧ W.cell? ⟨w1.heap.size, 1, none⟩ = some (.int .u8 (b.toNat : Int)) ∧ W.cell? ⟨w1.heap.size, 2, none⟩ = some (.int .u8 (c.toNat : Int)) ∧ W.cell? ⟨w1.heap.size, 3, none⟩ = some (.int .u8 (d.toNat : Int))) (by kernel_rfl) ⟨z0, z1, z2, z3⟩ (fun hH => ?_)
  refine wpAnyH_take (i := 0) (v := ?_) rfl (by kernel_rfl) (by kernel_rfl) (by kernel_rfl) (fun _ _ _ h => h) (Or.inl ⟨by rfl, ?_⟩) hH ?_
  rotate_left
  · ((intro W hW; obtain ⟨z0, z1, z2, z3⟩ := hW; go_simp) <;> with_reducible rfl)
  simp only [Act.put, List.getElem_toArray, List.getElem_cons_zero, List.setIfInBounds_toArray, List.set_cons_zero, List.set_cons_succ]
  refine wpAnyH_take (i := 1) (v := ?_) rfl (by kernel_rfl) (by kernel_rfl) (by kernel_rfl) (fun _ _ _ h => h) (Or.inl ⟨by rfl, ?_⟩) hH ?_
  rotate_left
  · ((intro W hW; obtain ⟨z0, z1, z2, z3⟩ := hW; go_simp) <;> with_reducible rfl)
  simp only [Act.put, List.getElem_toArray, List.getElem_cons_zero, List.getElem_cons_succ, List.setIfInBounds_toArray, List.set_cons_zero, List.set_cons_succ]
  refine wpAnyH_take (i := 4) (v := ?_) rfl (by kernel_rfl) (by kernel_rfl) (by kernel_rfl) (fun _ _ _ h => h) (Or.inl ⟨by rfl, ?_⟩) hH ?_
  rotate_left
  · ((intro W hW; obtain ⟨z0, z1, z2, z3⟩ := hW; go_simp) <;> with_reducible rfl)
  simp only [Act.put, List.getElem_toArray, List.getElem_cons_zero, List.getElem_cons_succ, List.setIfInBounds_toArray, List.set_cons_zero, List.set_cons_succ]
  refine wpAnyH_take (i := 2) (v := ?_) rfl (by kernel_rfl) (by kernel_rfl) (by kernel_rfl) (fun _ _ _ h => h) (Or.inl ⟨by rfl, ?_⟩) hH ?_
  rotate_left
  · ((intro W hW; obtain ⟨z0, z1, z2, z3⟩ := hW; go_simp) <;> with_reducible rfl)
  simp only [Act.put, List.getElem_toArray, List.getElem_cons_zero, List.getElem_cons_succ, List.setIfInBounds_toArray, List.set_cons_zero, List.set_cons_succ]
  refine wpAnyH_ready (rs := [3]) (by kernel_rfl) (by simp) ?_
  refine AllReadyH.cons (o := _) rfl (fun K hK => ?_) AllReadyH.nil
  simp only [List.getElem_toArray, List.getElem_cons_zero, List.getElem_cons_succ]
  go_simp
  refine (HF.out _).mono ?_
  rintro e w3 ⟨rfl, b3⟩
  dsimp only
  have bel3 := belA.drew.trans (b3.mono belA.size)
  have r3 := (b3.block _ hzw).trans R1
  have x3 := (b3.block _ hz).trans hblk
  refine hK.out _ _ ⟨(b3.cell (p := ⟨_, 0, none⟩) hz).trans hH.1, (b3.cell (p := ⟨_, 1, none⟩) hz).trans hH.2.1, (b3.cell (p := ⟨_, 2, none⟩) hz).trans hH.2.2.1, (b3.cell (p := ⟨_, 3, none⟩) hz).trans hH.2.2.2⟩ (fun hH3 => ?_)
  clear hK K
  refine wpAnyH_take (i := 5) (v := ?_) rfl (by kernel_rfl) (by kernel_rfl) (by kernel_rfl) (fun _ _ _ h => h) (Or.inl ⟨by rfl, ?_⟩) hH3 ?_
  rotate_left
  · ((intro w hw; clear hw; go_simp) <;> with_reducible rfl)
  simp only [Act.put, List.getElem_toArray, List.getElem_cons_zero, List.getElem_cons_succ, List.setIfInBounds_toArray, List.set_cons_zero, List.set_cons_succ]
  refine wpAnyH_done (by kernel_rfl) ?_ _
  have R0 := Lib.hid r3
  obtain ⟨⟨q0, q1, q2, q3, q4⟩, f0, f1, f2, f3, f4⟩ := cells5 r3
  obtain ⟨⟨y0, y1, y2, y3⟩, _⟩ := cells4 x3
  clear R1 r3 x3 hblk belA z0 z1 z2 z3 b3 hne hgd
  go_wp2
  have R4 : (((((w3.setCell ⟨w.heap.size, 0, none⟩ (.int .u8 (a.toNat : Int))).setCell ⟨w.heap.size, 1, none⟩ (.int .u8 (b.toNat : Int))).setCell ⟨w.heap.size, 2, none⟩ (.int .u8 (c.toNat : Int))).setCell ⟨w.heap.size, 3, none⟩ (.int .u8 (d.toNat : Int))).setCell ⟨w.heap.size, 4, none⟩ (.int .i64 n)).heap[w.heap.size]? = some (.cells #[.int .u8 (a.toNat : Int), .int .u8 (b.toNat : Int), .int .u8 (c.toNat : Int), .int .u8 (d.toNat : Int), .int .i64 n] 41 (0, 0)) := put5 R0.out
  have R5 := R4
  obtain ⟨⟨k0, k1, k2, k3, k4⟩, _⟩ := cells5 R5
  clear R4 R5
  exact bodyPost_ret (v := .tuple #[netV a b c d n, .int .i64 0]) (by simp [results, Tryd.results16, go_sem, netV, k0, k1, k2, k3, k4]) rfl ⟨rfl, (((((bel3.setCell (Nat.le_refl _) _).setCell (Nat.le_refl _) _).setCell (Nat.le_refl _) _).setCell (Nat.le_refl _) _).setCell (Nat.le_refl _) _)⟩

/-- What ParseNet answers. -/
def netE (l : List UInt8) : Int :=
  if splitOk l = false then 9 else if firstN (be [(splitA l).1, (splitA l).2.1, (splitA l).2.2.1, (splitA l).2.2.2]) (clamp (splitN l)) = be [(splitA l).1, (splitA l).2.1, (splitA l).2.2.1, (splitA l).2.2.2] then 0 else 1
def netA (l : List UInt8) : UInt8 × UInt8 × UInt8 × UInt8 := if netE l = 0 then splitA l else (0, 0, 0, 0)
def netN (l : List UInt8) : Int := if netE l = 0 then splitN l else 0
theorem net_any (s : ByteArray) (w : World) (hs : s.size ≤ 1000) : Calls Tryd.prog 16 #[.string s] w fun e w' =>
    e = .returned (.tuple #[netV (netA s.data.toList).1 (netA s.data.toList).2.1 (netA s.data.toList).2.2.1 (netA s.data.toList).2.2.2 (netN s.data.toList), .int .i64 (netE s.data.toList)]) ∧ Below w.heap.size w w' := by
  obtain ⟨a, b, c, d, hA⟩ : ∃ a b c d, splitA s.data.toList = (a, b, c, d) := ⟨_, _, _, _, rfl⟩
  obtain ⟨n, hN⟩ : ∃ n, splitN s.data.toList = n := ⟨_, rfl⟩
  obtain ⟨ok, hO⟩ : ∃ ok, splitOk s.data.toList = ok := ⟨_, rfl⟩
  cases ok with
  | false =>
    have hE : netE s.data.toList = 9 := by unfold netE; rw [if_pos hO]
    unfold netA netN
    rw [hE, if_neg (by omega), if_neg (by omega)]
    exact net_bad s w hs a b c d n false hA hN hO rfl
  | true =>
    by_cases hf : firstN (be [a, b, c, d]) (clamp n) = be [a, b, c, d]
    · have hE : netE s.data.toList = 0 := by unfold netE; rw [hO, hA, hN]; simp only [Bool.true_eq_false, if_false]; exact if_pos hf
      unfold netA netN
      rw [hE, if_pos rfl, if_pos rfl, hA, hN]
      exact net_ok s w hs a b c d n true hA hN hO rfl hf
    · have hE : netE s.data.toList = 1 := by unfold netE; rw [hO, hA, hN]; simp only [Bool.true_eq_false, if_false]; exact if_neg hf
      unfold netA netN
      rw [hE, if_neg (by omega), if_neg (by omega)]
      exact net_arg s w hs a b c d n true hA hN hO rfl hf

end Go.Proofs.YtppjnhjglhlpkaaDoor
