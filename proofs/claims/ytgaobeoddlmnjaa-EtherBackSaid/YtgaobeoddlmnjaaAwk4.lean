/- The contract of layer 4's awake. -/
import Derived.Test.YtgaobeoddlmnjaaEth8
import Derived.Lib.SlBytesConst
namespace Go.Proofs.Ytgaobeoddlmnjaa
open Go.RowKit

/-- A new block of a constant string's bytes. -/
theorem Sl.marked (w : World) (T : TypeId) (l : List UInt8) (fr : Nat × Nat) (h : l.length ≤ maxLen) : Sl (w.alloc (.cells (l.map u8v).toArray T fr)) (some ⟨w.heap.size, 0, none⟩) l.length l.length l := by
  refine ⟨rfl, Nat.le_refl _, h, fun _ => ⟨_, _, rfl, fun j b hj => ?_⟩⟩
  have h1 : (w.alloc (.cells (l.map u8v).toArray T fr)).heap[w.heap.size]? = some (.cells (l.map u8v).toArray T fr) := heap_alloc_new w _
  simp only [World.cell?, h1]
  simp [hj]
theorem two2048 : two 2048 = [8, 0] := by decide +kernel
theorem be2048 : be [8, 0] = 2048 := by decide
theorem k4_put (S : Option Addr) (c : Nat) (W : World) (h : Sl W S 1 c [120]) : Calls Try.prog 10 #[.agg #[.int .u8 1, .int .u8 0, .int .u8 0, .int .u8 0, .int .u8 0, .int .u8 0, .int .u8 2, .int .u8 0, .int .u8 0, .int .u8 0, .int .u8 0, .int .u8 0, .int .i64 2048, .slice S 1 c]] W fun e w' => ∃ A c, e = .returned (.tuple #[.slice A 15 c, .int .i64 0]) ∧ Sl w' A 15 c [1, 0, 0, 0, 0, 0, 2, 0, 0, 0, 0, 0, 8, 0, 120] ∧ Below W.heap.size W w' := by
  have h := eput_ok 1 0 0 0 0 0 2 0 0 0 0 0 2048 S 1 c [120] W h (by omega) (by omega) (by omega)
  rw [two2048] at h
  exact h
theorem k4_get (A : Option Addr) (c : Nat) (W : World) (h : Sl W A 15 c [1, 0, 0, 0, 0, 0, 2, 0, 0, 0, 0, 0, 8, 0, 120]) : Calls Try.prog 9 #[.slice A 15 c] W fun e w' => ∃ A' c', e = .returned (.tuple #[.agg #[.int .u8 1, .int .u8 0, .int .u8 0, .int .u8 0, .int .u8 0, .int .u8 0, .int .u8 2, .int .u8 0, .int .u8 0, .int .u8 0, .int .u8 0, .int .u8 0, .int .i64 2048, .slice A' 1 c'], .int .i64 0]) ∧ Sl w' A' 1 c' [120] ∧ Below W.heap.size W w' := by
  have h := eget_ok A 15 c 1 0 0 0 0 0 2 0 0 0 0 0 8 0 [120] W h (by omega)
  rw [be2048] at h
  exact h
theorem k4_own (S : Option Addr) (c : Nat) (W : World) : Calls Try.prog 15 #[.agg #[.int .u8 1, .int .u8 0, .int .u8 0, .int .u8 0, .int .u8 0, .int .u8 0, .int .u8 2, .int .u8 0, .int .u8 0, .int .u8 0, .int .u8 0, .int .u8 0, .int .i64 2048, .slice S 1 c]] W fun e w' => e = .returned (.agg #[.int .u8 1, .int .u8 0, .int .u8 0, .int .u8 0, .int .u8 0, .int .u8 0, .int .u8 2, .int .u8 0, .int .u8 0, .int .u8 0, .int .u8 0, .int .u8 0, .int .i64 2048, .slice S 1 c]) ∧ Below W.heap.size W w' := own4_any 1 0 0 0 0 0 2 0 0 0 0 0 2048 S 1 c W
theorem k4_same (S T : Option Addr) (c d : Nat) (W : World) (hs : Sl W S 1 c [120]) (ht : Sl W T 1 d [120]) : Calls Try.prog 16 #[.agg #[.int .u8 1, .int .u8 0, .int .u8 0, .int .u8 0, .int .u8 0, .int .u8 0, .int .u8 2, .int .u8 0, .int .u8 0, .int .u8 0, .int .u8 0, .int .u8 0, .int .i64 2048, .slice S 1 c], .agg #[.int .u8 1, .int .u8 0, .int .u8 0, .int .u8 0, .int .u8 0, .int .u8 0, .int .u8 2, .int .u8 0, .int .u8 0, .int .u8 0, .int .u8 0, .int .u8 0, .int .i64 2048, .slice T 1 d]] W fun e w' => e = .returned (.bool true) ∧ Below W.heap.size W w' := same4_true 1 0 0 0 0 0 2 0 0 0 0 0 2048 S 1 c T d [120] W hs ht
theorem k4_group (W : World) : Calls Try.prog 11 #[.agg #[.int .u8 1, .int .u8 0, .int .u8 0, .int .u8 0, .int .u8 0, .int .u8 0]] W fun e w' => e = .returned (.bool true) ∧ Below W.heap.size W w' := egroup_any 1 0 0 0 0 0 W
theorem k4_mine (W : World) : Calls Try.prog 12 #[.agg #[.int .u8 2, .int .u8 0, .int .u8 0, .int .u8 0, .int .u8 0, .int .u8 0], .agg #[.int .u8 2, .int .u8 0, .int .u8 0, .int .u8 0, .int .u8 0, .int .u8 0]] W fun e w' => e = .returned (.bool true) ∧ Below W.heap.size W w' := emine_any 2 0 0 0 0 0 2 0 0 0 0 0 W
theorem k4_eqb (W : World) : (binOp .eql 24 (.agg #[.int .u8 255, .int .u8 255, .int .u8 255, .int .u8 255, .int .u8 255, .int .u8 255]) (.agg #[.int .u8 255, .int .u8 255, .int .u8 255, .int .u8 255, .int .u8 255, .int .u8 255])).run Try.prog W = .ok (.bool true) W := eql6 [255, 255, 255, 255, 255, 255] [255, 255, 255, 255, 255, 255] rfl rfl W

set_option maxRecDepth 100000 in
set_option maxHeartbeats 16000000 in
theorem awake4 (w : World) : Calls Try.prog 8 #[] w fun e w' => e = .returned (.bool true) ∧ Below w.heap.size w w' := by
  have bel := Below.refl w.heap.size w
  have qb := k4_eqb
  have gb := guard6
  have kc := fun (w : World) (C : Array Value) (n c : Nat) => Lib.run_convert_bytes_const (P := Try.prog) w 25 5 C n c Try.underlying25 Try.underlying5
  have hx := heap_alloc_new w (.cells #[.int .u8 120] 5 (1, 2))
  have zx : w.heap.size < (w.alloc (.cells #[.int .u8 120] 5 (1, 2))).heap.size := by simp
  replace bel := bel.alloc bel.size (.cells #[.int .u8 120] 5 (1, 2))
  replace hx := (Go.heap_alloc_old (w.alloc (.cells #[.int .u8 120] 5 (1, 2))) (.cells #[.int .u8 1, .int .u8 0, .int .u8 0, .int .u8 0, .int .u8 0, .int .u8 0, .int .u8 2, .int .u8 0, .int .u8 0, .int .u8 0, .int .u8 0, .int .u8 0, .int .i64 2048, .slice (some ⟨w.heap.size, 0, none⟩) 1 1] 27) (r := w.heap.size) zx).trans hx
  have hf : ((w.alloc (.cells #[.int .u8 120] 5 (1, 2))).alloc (.cells #[.int .u8 1, .int .u8 0, .int .u8 0, .int .u8 0, .int .u8 0, .int .u8 0, .int .u8 2, .int .u8 0, .int .u8 0, .int .u8 0, .int .u8 0, .int .u8 0, .int .i64 2048, .slice (some ⟨w.heap.size, 0, none⟩) 1 1] 27)).heap[w.heap.size + 1]? = some (.cells #[.int .u8 1, .int .u8 0, .int .u8 0, .int .u8 0, .int .u8 0, .int .u8 0, .int .u8 2, .int .u8 0, .int .u8 0, .int .u8 0, .int .u8 0, .int .u8 0, .int .i64 2048, .slice (some ⟨w.heap.size, 0, none⟩) 1 1] 27 (0, 0)) := by have := heap_alloc_new (w.alloc (.cells #[.int .u8 120] 5 (1, 2))) (.cells #[.int .u8 1, .int .u8 0, .int .u8 0, .int .u8 0, .int .u8 0, .int .u8 0, .int .u8 2, .int .u8 0, .int .u8 0, .int .u8 0, .int .u8 0, .int .u8 0, .int .i64 2048, .slice (some ⟨w.heap.size, 0, none⟩) 1 1] 27); simpa using this
  replace zx := Nat.lt_trans zx (show (w.alloc (.cells #[.int .u8 120] 5 (1, 2))).heap.size < ((w.alloc (.cells #[.int .u8 120] 5 (1, 2))).alloc (.cells #[.int .u8 1, .int .u8 0, .int .u8 0, .int .u8 0, .int .u8 0, .int .u8 0, .int .u8 2, .int .u8 0, .int .u8 0, .int .u8 0, .int .u8 0, .int .u8 0, .int .i64 2048, .slice (some ⟨w.heap.size, 0, none⟩) 1 1] 27)).heap.size by simp)
  have zf : w.heap.size + 1 < ((w.alloc (.cells #[.int .u8 120] 5 (1, 2))).alloc (.cells #[.int .u8 1, .int .u8 0, .int .u8 0, .int .u8 0, .int .u8 0, .int .u8 0, .int .u8 2, .int .u8 0, .int .u8 0, .int .u8 0, .int .u8 0, .int .u8 0, .int .i64 2048, .slice (some ⟨w.heap.size, 0, none⟩) 1 1] 27)).heap.size := by simp
  replace bel := bel.alloc bel.size (.cells #[.int .u8 1, .int .u8 0, .int .u8 0, .int .u8 0, .int .u8 0, .int .u8 0, .int .u8 2, .int .u8 0, .int .u8 0, .int .u8 0, .int .u8 0, .int .u8 0, .int .i64 2048, .slice (some ⟨w.heap.size, 0, none⟩) 1 1] 27)
  have sx : Sl ((w.alloc (.cells #[.int .u8 120] 5 (1, 2))).alloc (.cells #[.int .u8 1, .int .u8 0, .int .u8 0, .int .u8 0, .int .u8 0, .int .u8 0, .int .u8 2, .int .u8 0, .int .u8 0, .int .u8 0, .int .u8 0, .int .u8 0, .int .i64 2048, .slice (some ⟨w.heap.size, 0, none⟩) 1 1] 27)) (some ⟨w.heap.size, 0, none⟩) 1 1 [120] := (show Sl (w.alloc (.cells #[.int .u8 120] 5 (1, 2))) (some ⟨w.heap.size, 0, none⟩) 1 1 [120] from Sl.marked w 5 [120] _ (by simp [maxLen])).below ((Below.refl _ _).alloc (Nat.le_refl _) _)
  clear hx zx
  go_enter Try.func8, Try.ntmps8
  obtain ⟨⟨cf0, cf1, cf2, cf3, cf4, cf5, cf6, cf7, cf8, cf9, cf10, cf11, cf12, cf13⟩, _⟩ := cells14 hf
  go_wp2_with fail
  with_reducible refine (k4_put _ _ _ sx).mono ?_
  rintro e w1 ⟨A2, c2, rfl, s2, b1⟩
  clear cf0 cf1 cf2 cf3 cf4 cf5 cf6 cf7 cf8 cf9 cf10 cf11 cf12 cf13
  replace sx := sx.below b1
  replace hf := (b1.block _ zf).trans hf
  replace zf := Nat.lt_of_lt_of_le zf b1.size
  replace bel := bel.trans (b1.mono bel.size)
  clear b1
  go_wp2_with fail
  with_reducible refine (k4_get _ _ _ s2).mono ?_
  rintro e w2 ⟨A3, c3, rfl, s3, b2⟩
  replace sx := sx.below b2
  clear s2
  replace hf := (b2.block _ zf).trans hf
  replace zf := Nat.lt_of_lt_of_le zf b2.size
  replace bel := bel.trans (b2.mono bel.size)
  clear b2
  replace sx := sx.below ((Below.refl w2.heap.size w2).alloc (Nat.le_refl _) (.cells #[.int .u8 1, .int .u8 0, .int .u8 0, .int .u8 0, .int .u8 0, .int .u8 0, .int .u8 2, .int .u8 0, .int .u8 0, .int .u8 0, .int .u8 0, .int .u8 0, .int .i64 2048, .slice A3 1 c3] 27))
  replace s3 := s3.below ((Below.refl w2.heap.size w2).alloc (Nat.le_refl _) (.cells #[.int .u8 1, .int .u8 0, .int .u8 0, .int .u8 0, .int .u8 0, .int .u8 0, .int .u8 2, .int .u8 0, .int .u8 0, .int .u8 0, .int .u8 0, .int .u8 0, .int .i64 2048, .slice A3 1 c3] 27))
  have yf := zf
  replace hf := (Go.heap_alloc_old w2 (.cells #[.int .u8 1, .int .u8 0, .int .u8 0, .int .u8 0, .int .u8 0, .int .u8 0, .int .u8 2, .int .u8 0, .int .u8 0, .int .u8 0, .int .u8 0, .int .u8 0, .int .i64 2048, .slice A3 1 c3] 27) (r := w.heap.size + 1) zf).trans hf
  have hg := heap_alloc_new w2 (.cells #[.int .u8 1, .int .u8 0, .int .u8 0, .int .u8 0, .int .u8 0, .int .u8 0, .int .u8 2, .int .u8 0, .int .u8 0, .int .u8 0, .int .u8 0, .int .u8 0, .int .i64 2048, .slice A3 1 c3] 27)
  replace zf := Nat.lt_trans zf (show w2.heap.size < (w2.alloc (.cells #[.int .u8 1, .int .u8 0, .int .u8 0, .int .u8 0, .int .u8 0, .int .u8 0, .int .u8 2, .int .u8 0, .int .u8 0, .int .u8 0, .int .u8 0, .int .u8 0, .int .i64 2048, .slice A3 1 c3] 27)).heap.size by simp)
  have zg : w2.heap.size < (w2.alloc (.cells #[.int .u8 1, .int .u8 0, .int .u8 0, .int .u8 0, .int .u8 0, .int .u8 0, .int .u8 2, .int .u8 0, .int .u8 0, .int .u8 0, .int .u8 0, .int .u8 0, .int .i64 2048, .slice A3 1 c3] 27)).heap.size := by simp
  replace bel := bel.alloc bel.size (.cells #[.int .u8 1, .int .u8 0, .int .u8 0, .int .u8 0, .int .u8 0, .int .u8 0, .int .u8 2, .int .u8 0, .int .u8 0, .int .u8 0, .int .u8 0, .int .u8 0, .int .i64 2048, .slice A3 1 c3] 27)
  go_wp2_with fail
  clear yf
  generalize (w2.alloc (.cells #[.int .u8 1, .int .u8 0, .int .u8 0, .int .u8 0, .int .u8 0, .int .u8 0, .int .u8 2, .int .u8 0, .int .u8 0, .int .u8 0, .int .u8 0, .int .u8 0, .int .i64 2048, .slice A3 1 c3] 27)) = v0 at sx s3 hf zf hg zg bel ⊢
  obtain ⟨⟨cf0, cf1, cf2, cf3, cf4, cf5, cf6, cf7, cf8, cf9, cf10, cf11, cf12, cf13⟩, _⟩ := cells14 hf
  obtain ⟨⟨cg0, cg1, cg2, cg3, cg4, cg5, cg6, cg7, cg8, cg9, cg10, cg11, cg12, cg13⟩, _⟩ := cells14 hg
  clear hf hg
  refine wp_region_held_drew (S := fun W => W.cell? ⟨w.heap.size + 1, 0, none⟩ = some (.int .u8 1) ∧ W.cell? ⟨w.heap.size + 1, 1, none⟩ = some (.int .u8 0) ∧ W.cell? ⟨w.heap.size + 1, 2, none⟩ = some (.int .u8 0) ∧ W.cell? ⟨w.heap.size + 1, 3, none⟩ = some (.int .u8 0) ∧ W.cell? ⟨w.heap.size + 1, 4, none⟩ = some (.int .u8 0) ∧ W.cell? ⟨w.heap.size + 1, 5, none⟩ = some (.int .u8 0) ∧ W.cell? ⟨w.heap.size + 1, 6, none⟩ = some (.int .u8 2) ∧ W.cell? ⟨w.heap.size + 1, 7, none⟩ = some (.int .u8 0) ∧ W.cell? ⟨w.heap.size + 1, 8, none⟩ = some (.int .u8 0) ∧ W.cell? ⟨w.heap.size + 1, 9, none⟩ = some (.int .u8 0) ∧ W.cell? ⟨w.heap.size + 1, 10, none⟩ = some (.int .u8 0) ∧ W.cell? ⟨w.heap.size + 1, 11, none⟩ = some (.int .u8 0) ∧ W.cell? ⟨w.heap.size + 1, 12, none⟩ = some (.int .i64 2048) ∧ W.cell? ⟨w.heap.size + 1, 13, none⟩ = some (.slice (some ⟨w.heap.size, 0, none⟩) 1 1) ∧ W.cell? ⟨w2.heap.size, 0, none⟩ = some (.int .u8 1) ∧ W.cell? ⟨w2.heap.size, 1, none⟩ = some (.int .u8 0) ∧ W.cell? ⟨w2.heap.size, 2, none⟩ = some (.int .u8 0) ∧ W.cell? ⟨w2.heap.size, 3, none⟩ = some (.int .u8 0) ∧ W.cell? ⟨w2.heap.size, 4, none⟩ = some (.int .u8 0) ∧ W.cell? ⟨w2.heap.size, 5, none⟩ = some (.int .u8 0) ∧ W.cell? ⟨w2.heap.size, 6, none⟩ = some (.int .u8 2) ∧ W.cell? ⟨w2.heap.size, 7, none⟩ = some (.int .u8 0) ∧ W.cell? ⟨w2.heap.size, 8, none⟩ = some (.int .u8 0) ∧ W.cell? ⟨w2.heap.size, 9, none⟩ = some (.int .u8 0) ∧ W.cell? ⟨w2.heap.size, 10, none⟩ = some (.int .u8 0) ∧ W.cell? ⟨w2.heap.size, 11, none⟩ = some (.int .u8 0) ∧ W.cell? ⟨w2.heap.size, 12, none⟩ = some (.int .i64 2048) ∧ W.cell? ⟨w2.heap.size, 13, none⟩ = some (.slice A3 1 c3) ∧ Sl W (some ⟨w.heap.size, 0, none⟩) (1) (1) ([120]) ∧ Sl W (A3) (1) (c3) ([120])) (by kernel_rfl) ⟨cf0, cf1, cf2, cf3, cf4, cf5, cf6, cf7, cf8, cf9, cf10, cf11, cf12, cf13, cg0, cg1, cg2, cg3, cg4, cg5, cg6, cg7, cg8, cg9, cg10, cg11, cg12, cg13, sx, s3⟩ (fun hH => ?_)
  refine wpAnyH_take (i := 0) (v := ?_) rfl (by kernel_rfl) (by kernel_rfl) (by kernel_rfl) (fun _ _ _ h => h) (Or.inl ⟨by rfl, ?_⟩) hH ?_
  rotate_left
  · ((intro W hW; obtain ⟨s0, s1, s2, s3, s4, s5, s6, s7, s8, s9, s10, s11, s12, s13, s14, s15, s16, s17, s18, s19, s20, s21, s22, s23, s24, s25, s26, s27, q0, q1⟩ := hW; clear q0 q1; go_simp) <;> with_reducible rfl)
  simp only [Act.put, List.getElem_toArray, List.getElem_cons_zero, List.setIfInBounds_toArray, List.set_cons_zero, List.set_cons_succ]
  refine wpAnyH_take (i := 1) (v := ?_) rfl (by kernel_rfl) (by kernel_rfl) (by kernel_rfl) (fun _ _ _ h => h) (Or.inl ⟨by rfl, ?_⟩) hH ?_
  rotate_left
  · ((intro W hW; obtain ⟨s0, s1, s2, s3, s4, s5, s6, s7, s8, s9, s10, s11, s12, s13, s14, s15, s16, s17, s18, s19, s20, s21, s22, s23, s24, s25, s26, s27, q0, q1⟩ := hW; clear q0 q1; go_simp) <;> with_reducible rfl)
  simp only [Act.put, List.getElem_toArray, List.getElem_cons_zero, List.getElem_cons_succ, List.setIfInBounds_toArray, List.set_cons_zero, List.set_cons_succ]
  refine wpAnyH_take (i := 2) (v := ?_) rfl (by kernel_rfl) (by kernel_rfl) (by kernel_rfl) (fun _ _ _ h => h) (Or.inl ⟨by rfl, ?_⟩) hH ?_
  rotate_left
  · ((intro W hW; obtain ⟨s0, s1, s2, s3, s4, s5, s6, s7, s8, s9, s10, s11, s12, s13, s14, s15, s16, s17, s18, s19, s20, s21, s22, s23, s24, s25, s26, s27, q0, q1⟩ := hW; clear q0 q1; go_simp) <;> with_reducible rfl)
  simp only [Act.put, List.getElem_toArray, List.getElem_cons_zero, List.getElem_cons_succ, List.setIfInBounds_toArray, List.set_cons_zero, List.set_cons_succ]
  refine wpAnyH_take (i := 3) (v := ?_) rfl (by kernel_rfl) (by kernel_rfl) (by kernel_rfl) (fun _ _ _ h => h) (Or.inl ⟨by rfl, ?_⟩) hH ?_
  rotate_left
  · ((intro W hW; obtain ⟨s0, s1, s2, s3, s4, s5, s6, s7, s8, s9, s10, s11, s12, s13, s14, s15, s16, s17, s18, s19, s20, s21, s22, s23, s24, s25, s26, s27, q0, q1⟩ := hW; clear q0 q1; go_simp) <;> with_reducible rfl)
  simp only [Act.put, List.getElem_toArray, List.getElem_cons_zero, List.getElem_cons_succ, List.setIfInBounds_toArray, List.set_cons_zero, List.set_cons_succ]
  refine wpAnyH_take (i := 4) (v := ?_) rfl (by kernel_rfl) (by kernel_rfl) (by kernel_rfl) (fun _ _ _ h => h) (Or.inl ⟨by rfl, ?_⟩) hH ?_
  rotate_left
  · ((intro W hW; obtain ⟨s0, s1, s2, s3, s4, s5, s6, s7, s8, s9, s10, s11, s12, s13, s14, s15, s16, s17, s18, s19, s20, s21, s22, s23, s24, s25, s26, s27, q0, q1⟩ := hW; clear q0 q1; go_simp) <;> with_reducible rfl)
  simp only [Act.put, List.getElem_toArray, List.getElem_cons_zero, List.getElem_cons_succ, List.setIfInBounds_toArray, List.set_cons_zero, List.set_cons_succ]
  refine wpAnyH_take (i := 5) (v := ?_) rfl (by kernel_rfl) (by kernel_rfl) (by kernel_rfl) (fun _ _ _ h => h) (Or.inl ⟨by rfl, ?_⟩) hH ?_
  rotate_left
  · ((intro W hW; obtain ⟨s0, s1, s2, s3, s4, s5, s6, s7, s8, s9, s10, s11, s12, s13, s14, s15, s16, s17, s18, s19, s20, s21, s22, s23, s24, s25, s26, s27, q0, q1⟩ := hW; clear q0 q1; go_simp) <;> with_reducible rfl)
  simp only [Act.put, List.getElem_toArray, List.getElem_cons_zero, List.getElem_cons_succ, List.setIfInBounds_toArray, List.set_cons_zero, List.set_cons_succ]
  refine wpAnyH_take (i := 6) (v := ?_) rfl (by kernel_rfl) (by kernel_rfl) (by kernel_rfl) (fun _ _ _ h => h) (Or.inl ⟨by rfl, ?_⟩) hH ?_
  rotate_left
  · ((intro W hW; obtain ⟨s0, s1, s2, s3, s4, s5, s6, s7, s8, s9, s10, s11, s12, s13, s14, s15, s16, s17, s18, s19, s20, s21, s22, s23, s24, s25, s26, s27, q0, q1⟩ := hW; clear q0 q1; go_simp) <;> with_reducible rfl)
  simp only [Act.put, List.getElem_toArray, List.getElem_cons_zero, List.getElem_cons_succ, List.setIfInBounds_toArray, List.set_cons_zero, List.set_cons_succ]
  refine wpAnyH_take (i := 7) (v := ?_) rfl (by kernel_rfl) (by kernel_rfl) (by kernel_rfl) (fun _ _ _ h => h) (Or.inl ⟨by rfl, ?_⟩) hH ?_
  rotate_left
  · ((intro W hW; obtain ⟨s0, s1, s2, s3, s4, s5, s6, s7, s8, s9, s10, s11, s12, s13, s14, s15, s16, s17, s18, s19, s20, s21, s22, s23, s24, s25, s26, s27, q0, q1⟩ := hW; clear q0 q1; go_simp) <;> with_reducible rfl)
  simp only [Act.put, List.getElem_toArray, List.getElem_cons_zero, List.getElem_cons_succ, List.setIfInBounds_toArray, List.set_cons_zero, List.set_cons_succ]
  refine wpAnyH_take (i := 8) (v := ?_) rfl (by kernel_rfl) (by kernel_rfl) (by kernel_rfl) (fun _ _ _ h => h) (Or.inl ⟨by rfl, ?_⟩) hH ?_
  rotate_left
  · ((intro W hW; obtain ⟨s0, s1, s2, s3, s4, s5, s6, s7, s8, s9, s10, s11, s12, s13, s14, s15, s16, s17, s18, s19, s20, s21, s22, s23, s24, s25, s26, s27, q0, q1⟩ := hW; clear q0 q1; go_simp) <;> with_reducible rfl)
  simp only [Act.put, List.getElem_toArray, List.getElem_cons_zero, List.getElem_cons_succ, List.setIfInBounds_toArray, List.set_cons_zero, List.set_cons_succ]
  refine wpAnyH_ready (rs := [9]) (by kernel_rfl) (by simp) ?_
  refine AllReadyH.cons (o := _) rfl (fun K hK => ?_) AllReadyH.nil
  simp only [List.getElem_toArray, List.getElem_cons_zero, List.getElem_cons_succ]
  go_simp
  with_reducible refine (k4_own _ _ _).mono ?_
  rintro e v11 ⟨rfl, b11⟩
  dsimp only
  have bel11 := bel.drew.trans (b11.mono bel.size)
  refine hK.out _ _ ⟨(b11.cell (p := ⟨_, 0, none⟩) zf).trans hH.1, (b11.cell (p := ⟨_, 1, none⟩) zf).trans hH.2.1, (b11.cell (p := ⟨_, 2, none⟩) zf).trans hH.2.2.1, (b11.cell (p := ⟨_, 3, none⟩) zf).trans hH.2.2.2.1, (b11.cell (p := ⟨_, 4, none⟩) zf).trans hH.2.2.2.2.1, (b11.cell (p := ⟨_, 5, none⟩) zf).trans hH.2.2.2.2.2.1, (b11.cell (p := ⟨_, 6, none⟩) zf).trans hH.2.2.2.2.2.2.1, (b11.cell (p := ⟨_, 7, none⟩) zf).trans hH.2.2.2.2.2.2.2.1, (b11.cell (p := ⟨_, 8, none⟩) zf).trans hH.2.2.2.2.2.2.2.2.1, (b11.cell (p := ⟨_, 9, none⟩) zf).trans hH.2.2.2.2.2.2.2.2.2.1, (b11.cell (p := ⟨_, 10, none⟩) zf).trans hH.2.2.2.2.2.2.2.2.2.2.1, (b11.cell (p := ⟨_, 11, none⟩) zf).trans hH.2.2.2.2.2.2.2.2.2.2.2.1, (b11.cell (p := ⟨_, 12, none⟩) zf).trans hH.2.2.2.2.2.2.2.2.2.2.2.2.1, (b11.cell (p := ⟨_, 13, none⟩) zf).trans hH.2.2.2.2.2.2.2.2.2.2.2.2.2.1, (b11.cell (p := ⟨_, 0, none⟩) zg).trans hH.2.2.2.2.2.2.2.2.2.2.2.2.2.2.1, (b11.cell (p := ⟨_, 1, none⟩) zg).trans hH.2.2.2.2.2.2.2.2.2.2.2.2.2.2.2.1, (b11.cell (p := ⟨_, 2, none⟩) zg).trans hH.2.2.2.2.2.2.2.2.2.2.2.2.2.2.2.2.1, (b11.cell (p := ⟨_, 3, none⟩) zg).trans hH.2.2.2.2.2.2.2.2.2.2.2.2.2.2.2.2.2.1, (b11.cell (p := ⟨_, 4, none⟩) zg).trans hH.2.2.2.2.2.2.2.2.2.2.2.2.2.2.2.2.2.2.1, (b11.cell (p := ⟨_, 5, none⟩) zg).trans hH.2.2.2.2.2.2.2.2.2.2.2.2.2.2.2.2.2.2.2.1, (b11.cell (p := ⟨_, 6, none⟩) zg).trans hH.2.2.2.2.2.2.2.2.2.2.2.2.2.2.2.2.2.2.2.2.1, (b11.cell (p := ⟨_, 7, none⟩) zg).trans hH.2.2.2.2.2.2.2.2.2.2.2.2.2.2.2.2.2.2.2.2.2.1, (b11.cell (p := ⟨_, 8, none⟩) zg).trans hH.2.2.2.2.2.2.2.2.2.2.2.2.2.2.2.2.2.2.2.2.2.2.1, (b11.cell (p := ⟨_, 9, none⟩) zg).trans hH.2.2.2.2.2.2.2.2.2.2.2.2.2.2.2.2.2.2.2.2.2.2.2.1, (b11.cell (p := ⟨_, 10, none⟩) zg).trans hH.2.2.2.2.2.2.2.2.2.2.2.2.2.2.2.2.2.2.2.2.2.2.2.2.1, (b11.cell (p := ⟨_, 11, none⟩) zg).trans hH.2.2.2.2.2.2.2.2.2.2.2.2.2.2.2.2.2.2.2.2.2.2.2.2.2.1, (b11.cell (p := ⟨_, 12, none⟩) zg).trans hH.2.2.2.2.2.2.2.2.2.2.2.2.2.2.2.2.2.2.2.2.2.2.2.2.2.2.1, (b11.cell (p := ⟨_, 13, none⟩) zg).trans hH.2.2.2.2.2.2.2.2.2.2.2.2.2.2.2.2.2.2.2.2.2.2.2.2.2.2.2.1, (hH.2.2.2.2.2.2.2.2.2.2.2.2.2.2.2.2.2.2.2.2.2.2.2.2.2.2.2.2.1).below b11, (hH.2.2.2.2.2.2.2.2.2.2.2.2.2.2.2.2.2.2.2.2.2.2.2.2.2.2.2.2.2).below b11⟩ (fun hH11 => ?_)
  clear hK K
  replace zf := Nat.lt_of_lt_of_le zf b11.size
  replace zg := Nat.lt_of_lt_of_le zg b11.size
  refine wpAnyH_ready (rs := [10]) (by kernel_rfl) (by simp) ?_
  refine AllReadyH.cons (o := _) rfl (fun K hK => ?_) AllReadyH.nil
  simp only [List.getElem_toArray, List.getElem_cons_zero, List.getElem_cons_succ]
  go_simp
  with_reducible refine (k4_same _ _ _ _ _ (hH11.2.2.2.2.2.2.2.2.2.2.2.2.2.2.2.2.2.2.2.2.2.2.2.2.2.2.2.2.2) (hH11.2.2.2.2.2.2.2.2.2.2.2.2.2.2.2.2.2.2.2.2.2.2.2.2.2.2.2.2.1)).mono ?_
  rintro e v12 ⟨rfl, b12⟩
  dsimp only
  have bel12 := bel11.trans (b12.mono bel11.size)
  refine hK.out _ _ ⟨(b12.cell (p := ⟨_, 0, none⟩) zf).trans hH11.1, (b12.cell (p := ⟨_, 1, none⟩) zf).trans hH11.2.1, (b12.cell (p := ⟨_, 2, none⟩) zf).trans hH11.2.2.1, (b12.cell (p := ⟨_, 3, none⟩) zf).trans hH11.2.2.2.1, (b12.cell (p := ⟨_, 4, none⟩) zf).trans hH11.2.2.2.2.1, (b12.cell (p := ⟨_, 5, none⟩) zf).trans hH11.2.2.2.2.2.1, (b12.cell (p := ⟨_, 6, none⟩) zf).trans hH11.2.2.2.2.2.2.1, (b12.cell (p := ⟨_, 7, none⟩) zf).trans hH11.2.2.2.2.2.2.2.1, (b12.cell (p := ⟨_, 8, none⟩) zf).trans hH11.2.2.2.2.2.2.2.2.1, (b12.cell (p := ⟨_, 9, none⟩) zf).trans hH11.2.2.2.2.2.2.2.2.2.1, (b12.cell (p := ⟨_, 10, none⟩) zf).trans hH11.2.2.2.2.2.2.2.2.2.2.1, (b12.cell (p := ⟨_, 11, none⟩) zf).trans hH11.2.2.2.2.2.2.2.2.2.2.2.1, (b12.cell (p := ⟨_, 12, none⟩) zf).trans hH11.2.2.2.2.2.2.2.2.2.2.2.2.1, (b12.cell (p := ⟨_, 13, none⟩) zf).trans hH11.2.2.2.2.2.2.2.2.2.2.2.2.2.1, (b12.cell (p := ⟨_, 0, none⟩) zg).trans hH11.2.2.2.2.2.2.2.2.2.2.2.2.2.2.1, (b12.cell (p := ⟨_, 1, none⟩) zg).trans hH11.2.2.2.2.2.2.2.2.2.2.2.2.2.2.2.1, (b12.cell (p := ⟨_, 2, none⟩) zg).trans hH11.2.2.2.2.2.2.2.2.2.2.2.2.2.2.2.2.1, (b12.cell (p := ⟨_, 3, none⟩) zg).trans hH11.2.2.2.2.2.2.2.2.2.2.2.2.2.2.2.2.2.1, (b12.cell (p := ⟨_, 4, none⟩) zg).trans hH11.2.2.2.2.2.2.2.2.2.2.2.2.2.2.2.2.2.2.1, (b12.cell (p := ⟨_, 5, none⟩) zg).trans hH11.2.2.2.2.2.2.2.2.2.2.2.2.2.2.2.2.2.2.2.1, (b12.cell (p := ⟨_, 6, none⟩) zg).trans hH11.2.2.2.2.2.2.2.2.2.2.2.2.2.2.2.2.2.2.2.2.1, (b12.cell (p := ⟨_, 7, none⟩) zg).trans hH11.2.2.2.2.2.2.2.2.2.2.2.2.2.2.2.2.2.2.2.2.2.1, (b12.cell (p := ⟨_, 8, none⟩) zg).trans hH11.2.2.2.2.2.2.2.2.2.2.2.2.2.2.2.2.2.2.2.2.2.2.1, (b12.cell (p := ⟨_, 9, none⟩) zg).trans hH11.2.2.2.2.2.2.2.2.2.2.2.2.2.2.2.2.2.2.2.2.2.2.2.1, (b12.cell (p := ⟨_, 10, none⟩) zg).trans hH11.2.2.2.2.2.2.2.2.2.2.2.2.2.2.2.2.2.2.2.2.2.2.2.2.1, (b12.cell (p := ⟨_, 11, none⟩) zg).trans hH11.2.2.2.2.2.2.2.2.2.2.2.2.2.2.2.2.2.2.2.2.2.2.2.2.2.1, (b12.cell (p := ⟨_, 12, none⟩) zg).trans hH11.2.2.2.2.2.2.2.2.2.2.2.2.2.2.2.2.2.2.2.2.2.2.2.2.2.2.1, (b12.cell (p := ⟨_, 13, none⟩) zg).trans hH11.2.2.2.2.2.2.2.2.2.2.2.2.2.2.2.2.2.2.2.2.2.2.2.2.2.2.2.1, (hH11.2.2.2.2.2.2.2.2.2.2.2.2.2.2.2.2.2.2.2.2.2.2.2.2.2.2.2.2.1).below b12, (hH11.2.2.2.2.2.2.2.2.2.2.2.2.2.2.2.2.2.2.2.2.2.2.2.2.2.2.2.2.2).below b12⟩ (fun hH12 => ?_)
  clear hK K
  replace zf := Nat.lt_of_lt_of_le zf b12.size
  replace zg := Nat.lt_of_lt_of_le zg b12.size
  refine wpAnyH_take (i := 11) (v := ?_) rfl (by kernel_rfl) (by kernel_rfl) (by kernel_rfl) (fun _ _ _ h => h) (Or.inl ⟨by rfl, ?_⟩) hH12 ?_
  rotate_left
  · ((intro W hW; obtain ⟨s0, s1, s2, s3, s4, s5, s6, s7, s8, s9, s10, s11, s12, s13, s14, s15, s16, s17, s18, s19, s20, s21, s22, s23, s24, s25, s26, s27, q0, q1⟩ := hW; clear q0 q1; go_simp) <;> with_reducible rfl)
  simp only [Act.put, List.getElem_toArray, List.getElem_cons_zero, List.getElem_cons_succ, List.setIfInBounds_toArray, List.set_cons_zero, List.set_cons_succ]
  refine wpAnyH_take (i := 12) (v := ?_) rfl (by kernel_rfl) (by kernel_rfl) (by kernel_rfl) (fun _ _ _ h => h) (Or.inl ⟨by rfl, ?_⟩) hH12 ?_
  rotate_left
  · ((intro W hW; obtain ⟨s0, s1, s2, s3, s4, s5, s6, s7, s8, s9, s10, s11, s12, s13, s14, s15, s16, s17, s18, s19, s20, s21, s22, s23, s24, s25, s26, s27, q0, q1⟩ := hW; clear q0 q1; go_simp) <;> with_reducible rfl)
  simp only [Act.put, List.getElem_toArray, List.getElem_cons_zero, List.getElem_cons_succ, List.setIfInBounds_toArray, List.set_cons_zero, List.set_cons_succ]
  refine wpAnyH_take (i := 14) (v := ?_) rfl (by kernel_rfl) (by kernel_rfl) (by kernel_rfl) (fun _ _ _ h => h) (Or.inl ⟨by rfl, ?_⟩) hH12 ?_
  rotate_left
  · ((intro W hW; obtain ⟨s0, s1, s2, s3, s4, s5, s6, s7, s8, s9, s10, s11, s12, s13, s14, s15, s16, s17, s18, s19, s20, s21, s22, s23, s24, s25, s26, s27, q0, q1⟩ := hW; clear q0 q1; go_simp) <;> with_reducible rfl)
  simp only [Act.put, List.getElem_toArray, List.getElem_cons_zero, List.getElem_cons_succ, List.setIfInBounds_toArray, List.set_cons_zero, List.set_cons_succ]
  refine wpAnyH_ready (rs := [13]) (by kernel_rfl) (by simp) ?_
  refine AllReadyH.cons (o := _) rfl (fun K hK => ?_) AllReadyH.nil
  simp only [List.getElem_toArray, List.getElem_cons_zero, List.getElem_cons_succ]
  go_simp
  with_reducible refine (ebroad_any _).mono ?_
  rintro e v13 ⟨rfl, b13⟩
  dsimp only
  have bel13 := bel12.trans (b13.mono bel12.size)
  refine hK.out _ _ ⟨(b13.cell (p := ⟨_, 0, none⟩) zf).trans hH12.1, (b13.cell (p := ⟨_, 1, none⟩) zf).trans hH12.2.1, (b13.cell (p := ⟨_, 2, none⟩) zf).trans hH12.2.2.1, (b13.cell (p := ⟨_, 3, none⟩) zf).trans hH12.2.2.2.1, (b13.cell (p := ⟨_, 4, none⟩) zf).trans hH12.2.2.2.2.1, (b13.cell (p := ⟨_, 5, none⟩) zf).trans hH12.2.2.2.2.2.1, (b13.cell (p := ⟨_, 6, none⟩) zf).trans hH12.2.2.2.2.2.2.1, (b13.cell (p := ⟨_, 7, none⟩) zf).trans hH12.2.2.2.2.2.2.2.1, (b13.cell (p := ⟨_, 8, none⟩) zf).trans hH12.2.2.2.2.2.2.2.2.1, (b13.cell (p := ⟨_, 9, none⟩) zf).trans hH12.2.2.2.2.2.2.2.2.2.1, (b13.cell (p := ⟨_, 10, none⟩) zf).trans hH12.2.2.2.2.2.2.2.2.2.2.1, (b13.cell (p := ⟨_, 11, none⟩) zf).trans hH12.2.2.2.2.2.2.2.2.2.2.2.1, (b13.cell (p := ⟨_, 12, none⟩) zf).trans hH12.2.2.2.2.2.2.2.2.2.2.2.2.1, (b13.cell (p := ⟨_, 13, none⟩) zf).trans hH12.2.2.2.2.2.2.2.2.2.2.2.2.2.1, (b13.cell (p := ⟨_, 0, none⟩) zg).trans hH12.2.2.2.2.2.2.2.2.2.2.2.2.2.2.1, (b13.cell (p := ⟨_, 1, none⟩) zg).trans hH12.2.2.2.2.2.2.2.2.2.2.2.2.2.2.2.1, (b13.cell (p := ⟨_, 2, none⟩) zg).trans hH12.2.2.2.2.2.2.2.2.2.2.2.2.2.2.2.2.1, (b13.cell (p := ⟨_, 3, none⟩) zg).trans hH12.2.2.2.2.2.2.2.2.2.2.2.2.2.2.2.2.2.1, (b13.cell (p := ⟨_, 4, none⟩) zg).trans hH12.2.2.2.2.2.2.2.2.2.2.2.2.2.2.2.2.2.2.1, (b13.cell (p := ⟨_, 5, none⟩) zg).trans hH12.2.2.2.2.2.2.2.2.2.2.2.2.2.2.2.2.2.2.2.1, (b13.cell (p := ⟨_, 6, none⟩) zg).trans hH12.2.2.2.2.2.2.2.2.2.2.2.2.2.2.2.2.2.2.2.2.1, (b13.cell (p := ⟨_, 7, none⟩) zg).trans hH12.2.2.2.2.2.2.2.2.2.2.2.2.2.2.2.2.2.2.2.2.2.1, (b13.cell (p := ⟨_, 8, none⟩) zg).trans hH12.2.2.2.2.2.2.2.2.2.2.2.2.2.2.2.2.2.2.2.2.2.2.1, (b13.cell (p := ⟨_, 9, none⟩) zg).trans hH12.2.2.2.2.2.2.2.2.2.2.2.2.2.2.2.2.2.2.2.2.2.2.2.1, (b13.cell (p := ⟨_, 10, none⟩) zg).trans hH12.2.2.2.2.2.2.2.2.2.2.2.2.2.2.2.2.2.2.2.2.2.2.2.2.1, (b13.cell (p := ⟨_, 11, none⟩) zg).trans hH12.2.2.2.2.2.2.2.2.2.2.2.2.2.2.2.2.2.2.2.2.2.2.2.2.2.1, (b13.cell (p := ⟨_, 12, none⟩) zg).trans hH12.2.2.2.2.2.2.2.2.2.2.2.2.2.2.2.2.2.2.2.2.2.2.2.2.2.2.1, (b13.cell (p := ⟨_, 13, none⟩) zg).trans hH12.2.2.2.2.2.2.2.2.2.2.2.2.2.2.2.2.2.2.2.2.2.2.2.2.2.2.2.1, (hH12.2.2.2.2.2.2.2.2.2.2.2.2.2.2.2.2.2.2.2.2.2.2.2.2.2.2.2.2.1).below b13, (hH12.2.2.2.2.2.2.2.2.2.2.2.2.2.2.2.2.2.2.2.2.2.2.2.2.2.2.2.2.2).below b13⟩ (fun hH13 => ?_)
  clear hK K
  replace zf := Nat.lt_of_lt_of_le zf b13.size
  replace zg := Nat.lt_of_lt_of_le zg b13.size
  refine wpAnyH_take (i := 15) (v := ?_) rfl (by kernel_rfl) (by kernel_rfl) (by kernel_rfl) (fun _ _ _ h => h) (Or.inl ⟨by rfl, ?_⟩) hH13 ?_
  rotate_left
  · ((intro W hW; obtain ⟨s0, s1, s2, s3, s4, s5, s6, s7, s8, s9, s10, s11, s12, s13, s14, s15, s16, s17, s18, s19, s20, s21, s22, s23, s24, s25, s26, s27, q0, q1⟩ := hW; clear q0 q1; go_simp) <;> with_reducible rfl)
  simp only [Act.put, List.getElem_toArray, List.getElem_cons_zero, List.getElem_cons_succ, List.setIfInBounds_toArray, List.set_cons_zero, List.set_cons_succ]
  refine wpAnyH_take (i := 16) (v := ?_) rfl (by kernel_rfl) (by kernel_rfl) (by kernel_rfl) (fun _ _ _ h => h) (Or.inl ⟨by rfl, ?_⟩) hH13 ?_
  rotate_left
  · ((intro W hW; obtain ⟨s0, s1, s2, s3, s4, s5, s6, s7, s8, s9, s10, s11, s12, s13, s14, s15, s16, s17, s18, s19, s20, s21, s22, s23, s24, s25, s26, s27, q0, q1⟩ := hW; clear q0 q1; go_simp) <;> with_reducible rfl)
  simp only [Act.put, List.getElem_toArray, List.getElem_cons_zero, List.getElem_cons_succ, List.setIfInBounds_toArray, List.set_cons_zero, List.set_cons_succ]
  refine wpAnyH_take (i := 17) (v := ?_) rfl (by kernel_rfl) (by kernel_rfl) (by kernel_rfl) (fun _ _ _ h => h) (Or.inl ⟨by rfl, ?_⟩) hH13 ?_
  rotate_left
  · ((intro W hW; obtain ⟨s0, s1, s2, s3, s4, s5, s6, s7, s8, s9, s10, s11, s12, s13, s14, s15, s16, s17, s18, s19, s20, s21, s22, s23, s24, s25, s26, s27, q0, q1⟩ := hW; clear q0 q1; go_simp) <;> with_reducible rfl)
  simp only [Act.put, List.getElem_toArray, List.getElem_cons_zero, List.getElem_cons_succ, List.setIfInBounds_toArray, List.set_cons_zero, List.set_cons_succ]
  refine wpAnyH_take (i := 18) (v := ?_) rfl (by kernel_rfl) (by kernel_rfl) (by kernel_rfl) (fun _ _ _ h => h) (Or.inl ⟨by rfl, ?_⟩) hH13 ?_
  rotate_left
  · ((intro W hW; obtain ⟨s0, s1, s2, s3, s4, s5, s6, s7, s8, s9, s10, s11, s12, s13, s14, s15, s16, s17, s18, s19, s20, s21, s22, s23, s24, s25, s26, s27, q0, q1⟩ := hW; clear q0 q1; go_simp) <;> with_reducible rfl)
  simp only [Act.put, List.getElem_toArray, List.getElem_cons_zero, List.getElem_cons_succ, List.setIfInBounds_toArray, List.set_cons_zero, List.set_cons_succ]
  refine wpAnyH_ready (rs := [19]) (by kernel_rfl) (by simp) ?_
  refine AllReadyH.cons (o := _) rfl (fun K hK => ?_) AllReadyH.nil
  simp only [List.getElem_toArray, List.getElem_cons_zero, List.getElem_cons_succ]
  go_simp
  with_reducible refine (k4_group _).mono ?_
  rintro e v14 ⟨rfl, b14⟩
  dsimp only
  have bel14 := bel13.trans (b14.mono bel13.size)
  refine hK.out _ _ ⟨(b14.cell (p := ⟨_, 0, none⟩) zf).trans hH13.1, (b14.cell (p := ⟨_, 1, none⟩) zf).trans hH13.2.1, (b14.cell (p := ⟨_, 2, none⟩) zf).trans hH13.2.2.1, (b14.cell (p := ⟨_, 3, none⟩) zf).trans hH13.2.2.2.1, (b14.cell (p := ⟨_, 4, none⟩) zf).trans hH13.2.2.2.2.1, (b14.cell (p := ⟨_, 5, none⟩) zf).trans hH13.2.2.2.2.2.1, (b14.cell (p := ⟨_, 6, none⟩) zf).trans hH13.2.2.2.2.2.2.1, (b14.cell (p := ⟨_, 7, none⟩) zf).trans hH13.2.2.2.2.2.2.2.1, (b14.cell (p := ⟨_, 8, none⟩) zf).trans hH13.2.2.2.2.2.2.2.2.1, (b14.cell (p := ⟨_, 9, none⟩) zf).trans hH13.2.2.2.2.2.2.2.2.2.1, (b14.cell (p := ⟨_, 10, none⟩) zf).trans hH13.2.2.2.2.2.2.2.2.2.2.1, (b14.cell (p := ⟨_, 11, none⟩) zf).trans hH13.2.2.2.2.2.2.2.2.2.2.2.1, (b14.cell (p := ⟨_, 12, none⟩) zf).trans hH13.2.2.2.2.2.2.2.2.2.2.2.2.1, (b14.cell (p := ⟨_, 13, none⟩) zf).trans hH13.2.2.2.2.2.2.2.2.2.2.2.2.2.1, (b14.cell (p := ⟨_, 0, none⟩) zg).trans hH13.2.2.2.2.2.2.2.2.2.2.2.2.2.2.1, (b14.cell (p := ⟨_, 1, none⟩) zg).trans hH13.2.2.2.2.2.2.2.2.2.2.2.2.2.2.2.1, (b14.cell (p := ⟨_, 2, none⟩) zg).trans hH13.2.2.2.2.2.2.2.2.2.2.2.2.2.2.2.2.1, (b14.cell (p := ⟨_, 3, none⟩) zg).trans hH13.2.2.2.2.2.2.2.2.2.2.2.2.2.2.2.2.2.1, (b14.cell (p := ⟨_, 4, none⟩) zg).trans hH13.2.2.2.2.2.2.2.2.2.2.2.2.2.2.2.2.2.2.1, (b14.cell (p := ⟨_, 5, none⟩) zg).trans hH13.2.2.2.2.2.2.2.2.2.2.2.2.2.2.2.2.2.2.2.1, (b14.cell (p := ⟨_, 6, none⟩) zg).trans hH13.2.2.2.2.2.2.2.2.2.2.2.2.2.2.2.2.2.2.2.2.1, (b14.cell (p := ⟨_, 7, none⟩) zg).trans hH13.2.2.2.2.2.2.2.2.2.2.2.2.2.2.2.2.2.2.2.2.2.1, (b14.cell (p := ⟨_, 8, none⟩) zg).trans hH13.2.2.2.2.2.2.2.2.2.2.2.2.2.2.2.2.2.2.2.2.2.2.1, (b14.cell (p := ⟨_, 9, none⟩) zg).trans hH13.2.2.2.2.2.2.2.2.2.2.2.2.2.2.2.2.2.2.2.2.2.2.2.1, (b14.cell (p := ⟨_, 10, none⟩) zg).trans hH13.2.2.2.2.2.2.2.2.2.2.2.2.2.2.2.2.2.2.2.2.2.2.2.2.1, (b14.cell (p := ⟨_, 11, none⟩) zg).trans hH13.2.2.2.2.2.2.2.2.2.2.2.2.2.2.2.2.2.2.2.2.2.2.2.2.2.1, (b14.cell (p := ⟨_, 12, none⟩) zg).trans hH13.2.2.2.2.2.2.2.2.2.2.2.2.2.2.2.2.2.2.2.2.2.2.2.2.2.2.1, (b14.cell (p := ⟨_, 13, none⟩) zg).trans hH13.2.2.2.2.2.2.2.2.2.2.2.2.2.2.2.2.2.2.2.2.2.2.2.2.2.2.2.1, (hH13.2.2.2.2.2.2.2.2.2.2.2.2.2.2.2.2.2.2.2.2.2.2.2.2.2.2.2.2.1).below b14, (hH13.2.2.2.2.2.2.2.2.2.2.2.2.2.2.2.2.2.2.2.2.2.2.2.2.2.2.2.2.2).below b14⟩ (fun hH14 => ?_)
  clear hK K
  replace zf := Nat.lt_of_lt_of_le zf b14.size
  replace zg := Nat.lt_of_lt_of_le zg b14.size
  refine wpAnyH_take (i := 20) (v := ?_) rfl (by kernel_rfl) (by kernel_rfl) (by kernel_rfl) (fun _ _ _ h => h) (Or.inl ⟨by rfl, ?_⟩) hH14 ?_
  rotate_left
  · ((intro W hW; obtain ⟨s0, s1, s2, s3, s4, s5, s6, s7, s8, s9, s10, s11, s12, s13, s14, s15, s16, s17, s18, s19, s20, s21, s22, s23, s24, s25, s26, s27, q0, q1⟩ := hW; clear q0 q1; go_simp) <;> with_reducible rfl)
  simp only [Act.put, List.getElem_toArray, List.getElem_cons_zero, List.getElem_cons_succ, List.setIfInBounds_toArray, List.set_cons_zero, List.set_cons_succ]
  refine wpAnyH_take (i := 21) (v := ?_) rfl (by kernel_rfl) (by kernel_rfl) (by kernel_rfl) (fun _ _ _ h => h) (Or.inl ⟨by rfl, ?_⟩) hH14 ?_
  rotate_left
  · ((intro W hW; obtain ⟨s0, s1, s2, s3, s4, s5, s6, s7, s8, s9, s10, s11, s12, s13, s14, s15, s16, s17, s18, s19, s20, s21, s22, s23, s24, s25, s26, s27, q0, q1⟩ := hW; clear q0 q1; go_simp) <;> with_reducible rfl)
  simp only [Act.put, List.getElem_toArray, List.getElem_cons_zero, List.getElem_cons_succ, List.setIfInBounds_toArray, List.set_cons_zero, List.set_cons_succ]
  refine wpAnyH_take (i := 22) (v := ?_) rfl (by kernel_rfl) (by kernel_rfl) (by kernel_rfl) (fun _ _ _ h => h) (Or.inl ⟨by rfl, ?_⟩) hH14 ?_
  rotate_left
  · ((intro W hW; obtain ⟨s0, s1, s2, s3, s4, s5, s6, s7, s8, s9, s10, s11, s12, s13, s14, s15, s16, s17, s18, s19, s20, s21, s22, s23, s24, s25, s26, s27, q0, q1⟩ := hW; clear q0 q1; go_simp) <;> with_reducible rfl)
  simp only [Act.put, List.getElem_toArray, List.getElem_cons_zero, List.getElem_cons_succ, List.setIfInBounds_toArray, List.set_cons_zero, List.set_cons_succ]
  refine wpAnyH_take (i := 23) (v := ?_) rfl (by kernel_rfl) (by kernel_rfl) (by kernel_rfl) (fun _ _ _ h => h) (Or.inl ⟨by rfl, ?_⟩) hH14 ?_
  rotate_left
  · ((intro W hW; obtain ⟨s0, s1, s2, s3, s4, s5, s6, s7, s8, s9, s10, s11, s12, s13, s14, s15, s16, s17, s18, s19, s20, s21, s22, s23, s24, s25, s26, s27, q0, q1⟩ := hW; clear q0 q1; go_simp) <;> with_reducible rfl)
  simp only [Act.put, List.getElem_toArray, List.getElem_cons_zero, List.getElem_cons_succ, List.setIfInBounds_toArray, List.set_cons_zero, List.set_cons_succ]
  refine wpAnyH_ready (rs := [24]) (by kernel_rfl) (by simp) ?_
  refine AllReadyH.cons (o := _) rfl (fun K hK => ?_) AllReadyH.nil
  simp only [List.getElem_toArray, List.getElem_cons_zero, List.getElem_cons_succ]
  go_simp
  with_reducible refine (k4_mine _).mono ?_
  rintro e v15 ⟨rfl, b15⟩
  dsimp only
  have bel15 := bel14.trans (b15.mono bel14.size)
  refine hK.out _ _ ⟨(b15.cell (p := ⟨_, 0, none⟩) zf).trans hH14.1, (b15.cell (p := ⟨_, 1, none⟩) zf).trans hH14.2.1, (b15.cell (p := ⟨_, 2, none⟩) zf).trans hH14.2.2.1, (b15.cell (p := ⟨_, 3, none⟩) zf).trans hH14.2.2.2.1, (b15.cell (p := ⟨_, 4, none⟩) zf).trans hH14.2.2.2.2.1, (b15.cell (p := ⟨_, 5, none⟩) zf).trans hH14.2.2.2.2.2.1, (b15.cell (p := ⟨_, 6, none⟩) zf).trans hH14.2.2.2.2.2.2.1, (b15.cell (p := ⟨_, 7, none⟩) zf).trans hH14.2.2.2.2.2.2.2.1, (b15.cell (p := ⟨_, 8, none⟩) zf).trans hH14.2.2.2.2.2.2.2.2.1, (b15.cell (p := ⟨_, 9, none⟩) zf).trans hH14.2.2.2.2.2.2.2.2.2.1, (b15.cell (p := ⟨_, 10, none⟩) zf).trans hH14.2.2.2.2.2.2.2.2.2.2.1, (b15.cell (p := ⟨_, 11, none⟩) zf).trans hH14.2.2.2.2.2.2.2.2.2.2.2.1, (b15.cell (p := ⟨_, 12, none⟩) zf).trans hH14.2.2.2.2.2.2.2.2.2.2.2.2.1, (b15.cell (p := ⟨_, 13, none⟩) zf).trans hH14.2.2.2.2.2.2.2.2.2.2.2.2.2.1, (b15.cell (p := ⟨_, 0, none⟩) zg).trans hH14.2.2.2.2.2.2.2.2.2.2.2.2.2.2.1, (b15.cell (p := ⟨_, 1, none⟩) zg).trans hH14.2.2.2.2.2.2.2.2.2.2.2.2.2.2.2.1, (b15.cell (p := ⟨_, 2, none⟩) zg).trans hH14.2.2.2.2.2.2.2.2.2.2.2.2.2.2.2.2.1, (b15.cell (p := ⟨_, 3, none⟩) zg).trans hH14.2.2.2.2.2.2.2.2.2.2.2.2.2.2.2.2.2.1, (b15.cell (p := ⟨_, 4, none⟩) zg).trans hH14.2.2.2.2.2.2.2.2.2.2.2.2.2.2.2.2.2.2.1, (b15.cell (p := ⟨_, 5, none⟩) zg).trans hH14.2.2.2.2.2.2.2.2.2.2.2.2.2.2.2.2.2.2.2.1, (b15.cell (p := ⟨_, 6, none⟩) zg).trans hH14.2.2.2.2.2.2.2.2.2.2.2.2.2.2.2.2.2.2.2.2.1, (b15.cell (p := ⟨_, 7, none⟩) zg).trans hH14.2.2.2.2.2.2.2.2.2.2.2.2.2.2.2.2.2.2.2.2.2.1, (b15.cell (p := ⟨_, 8, none⟩) zg).trans hH14.2.2.2.2.2.2.2.2.2.2.2.2.2.2.2.2.2.2.2.2.2.2.1, (b15.cell (p := ⟨_, 9, none⟩) zg).trans hH14.2.2.2.2.2.2.2.2.2.2.2.2.2.2.2.2.2.2.2.2.2.2.2.1, (b15.cell (p := ⟨_, 10, none⟩) zg).trans hH14.2.2.2.2.2.2.2.2.2.2.2.2.2.2.2.2.2.2.2.2.2.2.2.2.1, (b15.cell (p := ⟨_, 11, none⟩) zg).trans hH14.2.2.2.2.2.2.2.2.2.2.2.2.2.2.2.2.2.2.2.2.2.2.2.2.2.1, (b15.cell (p := ⟨_, 12, none⟩) zg).trans hH14.2.2.2.2.2.2.2.2.2.2.2.2.2.2.2.2.2.2.2.2.2.2.2.2.2.2.1, (b15.cell (p := ⟨_, 13, none⟩) zg).trans hH14.2.2.2.2.2.2.2.2.2.2.2.2.2.2.2.2.2.2.2.2.2.2.2.2.2.2.2.1, (hH14.2.2.2.2.2.2.2.2.2.2.2.2.2.2.2.2.2.2.2.2.2.2.2.2.2.2.2.2.1).below b15, (hH14.2.2.2.2.2.2.2.2.2.2.2.2.2.2.2.2.2.2.2.2.2.2.2.2.2.2.2.2.2).below b15⟩ (fun hH15 => ?_)
  clear hK K
  replace zf := Nat.lt_of_lt_of_le zf b15.size
  replace zg := Nat.lt_of_lt_of_le zg b15.size
  refine wpAnyH_take (i := 25) (v := ?_) rfl (by kernel_rfl) (by kernel_rfl) (by kernel_rfl) (fun _ _ _ h => h) (Or.inl ⟨by rfl, ?_⟩) hH15 ?_
  rotate_left
  · ((intro W hW; obtain ⟨s0, s1, s2, s3, s4, s5, s6, s7, s8, s9, s10, s11, s12, s13, s14, s15, s16, s17, s18, s19, s20, s21, s22, s23, s24, s25, s26, s27, q0, q1⟩ := hW; clear q0 q1; go_simp) <;> with_reducible rfl)
  simp only [Act.put, List.getElem_toArray, List.getElem_cons_zero, List.getElem_cons_succ, List.setIfInBounds_toArray, List.set_cons_zero, List.set_cons_succ]
  refine wpAnyH_take (i := 26) (v := ?_) rfl (by kernel_rfl) (by kernel_rfl) (by kernel_rfl) (fun _ _ _ h => h) (Or.inl ⟨by rfl, ?_⟩) hH15 ?_
  rotate_left
  · ((intro W hW; obtain ⟨s0, s1, s2, s3, s4, s5, s6, s7, s8, s9, s10, s11, s12, s13, s14, s15, s16, s17, s18, s19, s20, s21, s22, s23, s24, s25, s26, s27, q0, q1⟩ := hW; clear q0 q1; go_simp) <;> with_reducible rfl)
  simp only [Act.put, List.getElem_toArray, List.getElem_cons_zero, List.getElem_cons_succ, List.setIfInBounds_toArray, List.set_cons_zero]
  refine wpAnyH_done (by kernel_rfl) ?_ _
  go_wp2
  go_ret
  exact ⟨rfl, bel15⟩
end Go.Proofs.Ytgaobeoddlmnjaa
