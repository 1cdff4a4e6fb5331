/- The reference's addr, Broad, GetArp, PutArp. -/
import Derived.Test.YtekjjknpifpkiaaArp3
import Derived.Test.YtekjjknpifpkiaaEth5
namespace Go.Proofs.Ytekjjknpifpkiaa
open Go.RowKit

set_option maxRecDepth 100000 in
theorem rbroad_any (w : World) : Calls Try.prog 29 #[] w fun e w' => e = .returned (.agg #[.int .u8 255, .int .u8 255, .int .u8 255, .int .u8 255, .int .u8 255, .int .u8 255]) ∧ Below w.heap.size w w' := by
  have h := heap_alloc_new w (.cells #[.int .u8 255, .int .u8 255, .int .u8 255, .int .u8 255, .int .u8 255, .int .u8 255] 24)
  have bel := (Below.refl w.heap.size w).alloc (Nat.le_refl _) (.cells #[.int .u8 255, .int .u8 255, .int .u8 255, .int .u8 255, .int .u8 255, .int .u8 255] 24)
  go_enter Try.func29, Try.ntmps29
  go_wp2
  obtain ⟨⟨k0, k1, k2, k3, k4, k5⟩, _⟩ := cells6 h
  exact bodyPost_ret (v := .agg #[.int .u8 255, .int .u8 255, .int .u8 255, .int .u8 255, .int .u8 255, .int .u8 255]) (by simp [results, Try.results29, go_sem, k0, k1, k2, k3, k4, k5]) rfl ⟨rfl, bel⟩

set_option maxRecDepth 100000 in
set_option maxHeartbeats 4000000 in
theorem raddr_any (A : Option Addr) (n c : Nat) (p0 p1 p2 p3 : UInt8) (r : List UInt8) (w : World) (hl : Sl w A n c (p0 :: p1 :: p2 :: p3 :: r)) (hn : n ≤ 100000) :
    Calls Try.prog 28 #[.slice A n c] w fun e w' => e = .returned (.agg #[.int .u8 (p0.toNat : Int), .int .u8 (p1.toNat : Int), .int .u8 (p2.toNat : Int), .int .u8 (p3.toNat : Int)]) ∧ Below w.heap.size w w' := by
  have hlen : n = 4 + r.length := by have := hl.1; simp at this; omega
  have bel := (Below.refl w.heap.size w).alloc (Nat.le_refl _) (.cells #[.int .u8 0, .int .u8 0, .int .u8 0, .int .u8 0] 26)
  have hl1 := hl.below bel
  obtain ⟨d, o, rfl, hc⟩ := hl1.2.2.2 (by omega)
  have c0 := hc 0 p0 rfl
  have c1 := hc 1 p1 rfl
  have c2 := hc 2 p2 rfl
  have c3 := hc 3 p3 rfl
  unfold u8v at c0 c1 c2 c3
  rw [Nat.add_zero] at c0
  have n6 : (4 : Int) ≤ n := by omega
  have n7 : (n : Int) ≤ 100000 := by omega
  have hp : (w.alloc (.cells #[.int .u8 (p0.toNat : Int), .int .u8 (p1.toNat : Int), .int .u8 (p2.toNat : Int), .int .u8 (p3.toNat : Int)] 26)).drew.heap[w.heap.size]? = some (.cells #[.int .u8 (p0.toNat : Int), .int .u8 (p1.toNat : Int), .int .u8 (p2.toNat : Int), .int .u8 (p3.toNat : Int)] 26 (0, 0)) := heap_alloc_new w (.cells #[.int .u8 (p0.toNat : Int), .int .u8 (p1.toNat : Int), .int .u8 (p2.toNat : Int), .int .u8 (p3.toNat : Int)] 26)
  have belE := ((Below.refl w.heap.size w).alloc (Nat.le_refl _) (.cells #[.int .u8 (p0.toNat : Int), .int .u8 (p1.toNat : Int), .int .u8 (p2.toNat : Int), .int .u8 (p3.toNat : Int)] 26)).drew
  obtain ⟨⟨k0, k1, k2, k3⟩, _⟩ := cells4 hp
  clear hc hl hl1 hlen hn
  go_enter Try.func28, Try.ntmps28
  go_wp2_with fail
  go_region
  clear c0 c1 c2 c3
  go_wp2
  exact bodyPost_ret (v := .agg #[.int .u8 (p0.toNat : Int), .int .u8 (p1.toNat : Int), .int .u8 (p2.toNat : Int), .int .u8 (p3.toNat : Int)]) (by simp [results, Try.results28, go_sem, k0, k1, k2, k3]) rfl ⟨rfl, belE⟩

set_option maxRecDepth 100000 in
theorem rget5_short (A : Option Addr) (n c : Nat) (w : World) (h : n < 28) : Calls Try.prog 13 #[.slice A n c] w fun e w' => e = .returned (.tuple #[pack0, .int .i64 3]) ∧ Below w.heap.size w w' := by
  have hp := heap_alloc_new w (.cells #[.int .i64 0, .int .u8 0, .int .u8 0, .int .u8 0, .int .u8 0, .int .u8 0, .int .u8 0, .int .u8 0, .int .u8 0, .int .u8 0, .int .u8 0, .int .u8 0, .int .u8 0, .int .u8 0, .int .u8 0, .int .u8 0, .int .u8 0, .int .u8 0, .int .u8 0, .int .u8 0, .int .u8 0] 41)
  have bel := (Below.refl w.heap.size w).alloc (Nat.le_refl _) (.cells #[.int .i64 0, .int .u8 0, .int .u8 0, .int .u8 0, .int .u8 0, .int .u8 0, .int .u8 0, .int .u8 0, .int .u8 0, .int .u8 0, .int .u8 0, .int .u8 0, .int .u8 0, .int .u8 0, .int .u8 0, .int .u8 0, .int .u8 0, .int .u8 0, .int .u8 0, .int .u8 0, .int .u8 0] 41)
  have h1 : (n : Int) < 28 := by omega
  clear h
  go_enter Try.func13, Try.ntmps13
  go_wp2_with (refine wpList_store_blk rfl 41 _ _ rfl w.heap.size rfl _ rfl _ 41 hp (by rfl) (by kernel_rfl) (by kernel_rfl) ?_; intro wz hrz hgz; replace bel := below_grown bel hgz (Nat.le_refl _) bel.size; clear hgz hp)
  go_wp2
  exact bodyPost_ret (results_cell_tmp_row rfl _ _ _ _ _ _ _ rfl hrz Try.underlying41 rfl (by kernel_rfl) _ rfl) rfl ⟨rfl, bel⟩


set_option maxRecDepth 100000 in
set_option maxHeartbeats 4000000 in
theorem rget5_bad1 (A : Option Addr) (n c : Nat) (l : List UInt8) (w : World) (hl : Sl w A n c l) (hn : 28 ≤ n) (hv : l.take 7 ≠ [0, 1, 8, 0, 6, 4, 0]) :
    Calls Try.prog 13 #[.slice A n c] w fun e w' => e = .returned (.tuple #[pack0, .int .i64 4]) ∧ Below w.heap.size w w' := by
  have t1 : decide ((n : Int) < 28) = false := decide_eq_false (by omega)
  have n7 : (7 : Int) < n := by omega
  have n8 : (28 : Int) ≤ n := by omega
  have hp := heap_alloc_new w (.cells #[.int .i64 0, .int .u8 0, .int .u8 0, .int .u8 0, .int .u8 0, .int .u8 0, .int .u8 0, .int .u8 0, .int .u8 0, .int .u8 0, .int .u8 0, .int .u8 0, .int .u8 0, .int .u8 0, .int .u8 0, .int .u8 0, .int .u8 0, .int .u8 0, .int .u8 0, .int .u8 0, .int .u8 0] 41)
  have bel := (Below.refl w.heap.size w).alloc (Nat.le_refl _) (.cells #[.int .i64 0, .int .u8 0, .int .u8 0, .int .u8 0, .int .u8 0, .int .u8 0, .int .u8 0, .int .u8 0, .int .u8 0, .int .u8 0, .int .u8 0, .int .u8 0, .int .u8 0, .int .u8 0, .int .u8 0, .int .u8 0, .int .u8 0, .int .u8 0, .int .u8 0, .int .u8 0, .int .u8 0] 41)
  have zp : w.heap.size < (w.alloc (.cells #[.int .i64 0, .int .u8 0, .int .u8 0, .int .u8 0, .int .u8 0, .int .u8 0, .int .u8 0, .int .u8 0, .int .u8 0, .int .u8 0, .int .u8 0, .int .u8 0, .int .u8 0, .int .u8 0, .int .u8 0, .int .u8 0, .int .u8 0, .int .u8 0, .int .u8 0, .int .u8 0, .int .u8 0] 41)).heap.size := by simp
  obtain ⟨A7, c7, s7, hb7⟩ := slice_front hl (k := 7) (by omega)
  replace s7 : ∀ W, (Instr.slice 32 (.slice A n c) none (some (.int .i64 7)) none).run Try.prog W = .ok (.slice A7 7 c7) W := s7
  have st7 := (hb7.below bel).str (P := Try.prog) 32 5 9 Try.underlying32 Try.underlying5 Try.underlying9
  generalize l.take 7 = X at *
  clear hl hn hb7 zp n7 n8
  go_enter Try.func13, Try.ntmps13
  go_wp2_with (refine wpList_store_blk rfl 41 _ _ rfl w.heap.size rfl _ rfl _ 41 hp (by rfl) (by kernel_rfl) (by kernel_rfl) ?_; intro wz hrz hgz; replace bel := below_grown bel hgz (Nat.le_refl _) bel.size; clear hgz hp)
  go_wp2
  exact bodyPost_ret (results_cell_tmp_row rfl _ _ _ _ _ _ _ rfl hrz Try.underlying41 rfl (by kernel_rfl) _ rfl) rfl ⟨rfl, bel⟩

set_option maxRecDepth 100000 in
set_option maxHeartbeats 4000000 in
theorem rget5_bad2 (A : Option Addr) (n c : Nat) (x : UInt8) (r : List UInt8) (w : World) (hl : Sl w A n c (0 :: 1 :: 8 :: 0 :: 6 :: 4 :: 0 :: x :: r)) (hn : 28 ≤ n) (hv : x ≠ 1 ∧ x ≠ 2) :
    Calls Try.prog 13 #[.slice A n c] w fun e w' => e = .returned (.tuple #[pack0, .int .i64 4]) ∧ Below w.heap.size w w' := by
  have t1 : decide ((n : Int) < 28) = false := decide_eq_false (by omega)
  have n7 : (7 : Int) < n := by omega
  have n8 : (28 : Int) ≤ n := by omega
  have hp := heap_alloc_new w (.cells #[.int .i64 0, .int .u8 0, .int .u8 0, .int .u8 0, .int .u8 0, .int .u8 0, .int .u8 0, .int .u8 0, .int .u8 0, .int .u8 0, .int .u8 0, .int .u8 0, .int .u8 0, .int .u8 0, .int .u8 0, .int .u8 0, .int .u8 0, .int .u8 0, .int .u8 0, .int .u8 0, .int .u8 0] 41)
  have bel := (Below.refl w.heap.size w).alloc (Nat.le_refl _) (.cells #[.int .i64 0, .int .u8 0, .int .u8 0, .int .u8 0, .int .u8 0, .int .u8 0, .int .u8 0, .int .u8 0, .int .u8 0, .int .u8 0, .int .u8 0, .int .u8 0, .int .u8 0, .int .u8 0, .int .u8 0, .int .u8 0, .int .u8 0, .int .u8 0, .int .u8 0, .int .u8 0, .int .u8 0] 41)
  have zp : w.heap.size < (w.alloc (.cells #[.int .i64 0, .int .u8 0, .int .u8 0, .int .u8 0, .int .u8 0, .int .u8 0, .int .u8 0, .int .u8 0, .int .u8 0, .int .u8 0, .int .u8 0, .int .u8 0, .int .u8 0, .int .u8 0, .int .u8 0, .int .u8 0, .int .u8 0, .int .u8 0, .int .u8 0, .int .u8 0, .int .u8 0] 41)).heap.size := by simp
  obtain ⟨A7, c7, s7, hb7⟩ := slice_front hl (k := 7) (by omega)
  replace s7 : ∀ W, (Instr.slice 32 (.slice A n c) none (some (.int .i64 7)) none).run Try.prog W = .ok (.slice A7 7 c7) W := s7
  have st7 := (hb7.below bel).str (P := Try.prog) 32 5 9 Try.underlying32 Try.underlying5 Try.underlying9
  replace st7 : (convert 32 9 (.slice A7 7 c7)).run Try.prog (w.alloc (.cells #[.int .i64 0, .int .u8 0, .int .u8 0, .int .u8 0, .int .u8 0, .int .u8 0, .int .u8 0, .int .u8 0, .int .u8 0, .int .u8 0, .int .u8 0, .int .u8 0, .int .u8 0, .int .u8 0, .int .u8 0, .int .u8 0, .int .u8 0, .int .u8 0, .int .u8 0, .int .u8 0, .int .u8 0] 41)) = .ok (.string ⟨#[0, 1, 8, 0, 6, 4, 0]⟩) (w.alloc (.cells #[.int .i64 0, .int .u8 0, .int .u8 0, .int .u8 0, .int .u8 0, .int .u8 0, .int .u8 0, .int .u8 0, .int .u8 0, .int .u8 0, .int .u8 0, .int .u8 0, .int .u8 0, .int .u8 0, .int .u8 0, .int .u8 0, .int .u8 0, .int .u8 0, .int .u8 0, .int .u8 0, .int .u8 0] 41)) := st7
  have hl1 := hl.below bel
  obtain ⟨d, o, rfl, hc⟩ := hl1.2.2.2 (by omega)
  have k7 := hc 7 x rfl
  unfold u8v at k7
  have ne1 : x.toNat ≠ 1 := fun e => hv.1 (UInt8.toNat_inj.1 e)
  have ne2 : x.toNat ≠ 2 := fun e => hv.2 (UInt8.toNat_inj.1 e)
  have ee1 : ((x.toNat : Int) == 1) = false := by simp; omega
  have ee2 : ((x.toNat : Int) == 2) = false := by simp; omega
  have en1 : ((x.toNat : Int) != 1) = true := by simp; omega
  have en2 : ((x.toNat : Int) != 2) = true := by simp; omega
  clear hl hl1 hc hn hb7 hv zp ne1 ne2
  go_enter Try.func13, Try.ntmps13
  go_wp2_with (refine wpList_store_blk rfl 41 _ _ rfl w.heap.size rfl _ rfl _ 41 hp (by rfl) (by kernel_rfl) (by kernel_rfl) ?_; intro wz hrz hgz; replace bel := below_grown bel hgz (Nat.le_refl _) bel.size; clear hgz hp)
  go_wp2
  exact bodyPost_ret (results_cell_tmp_row rfl _ _ _ _ _ _ _ rfl hrz Try.underlying41 rfl (by kernel_rfl) _ rfl) rfl ⟨rfl, bel⟩

set_option maxRecDepth 100000 in
set_option maxHeartbeats 8000000 in
theorem rget5_ok1 (A : Option Addr) (n c : Nat) (a0 a1 a2 a3 a4 a5 p0 p1 p2 p3 m0 m1 m2 m3 m4 m5 d0 d1 d2 d3 : UInt8) (r : List UInt8) (w : World) (hl : Sl w A n c (0 :: 1 :: 8 :: 0 :: 6 :: 4 :: 0 :: 1 :: a0 :: a1 :: a2 :: a3 :: a4 :: a5 :: p0 :: p1 :: p2 :: p3 :: m0 :: m1 :: m2 :: m3 :: m4 :: m5 :: d0 :: d1 :: d2 :: d3 :: r)) (hn : 28 ≤ n) (hn2 : n ≤ 100000) :
    Calls Try.prog 13 #[.slice A n c] w fun e w' => e = .returned (.tuple #[.agg #[.int .i64 1, .int .u8 (a0.toNat : Int), .int .u8 (a1.toNat : Int), .int .u8 (a2.toNat : Int), .int .u8 (a3.toNat : Int), .int .u8 (a4.toNat : Int), .int .u8 (a5.toNat : Int), .int .u8 (p0.toNat : Int), .int .u8 (p1.toNat : Int), .int .u8 (p2.toNat : Int), .int .u8 (p3.toNat : Int), .int .u8 (m0.toNat : Int), .int .u8 (m1.toNat : Int), .int .u8 (m2.toNat : Int), .int .u8 (m3.toNat : Int), .int .u8 (m4.toNat : Int), .int .u8 (m5.toNat : Int), .int .u8 (d0.toNat : Int), .int .u8 (d1.toNat : Int), .int .u8 (d2.toNat : Int), .int .u8 (d3.toNat : Int)], .int .i64 0]) ∧ Below w.heap.size w w' := by
  have t1 : decide ((n : Int) < 28) = false := decide_eq_false (by omega)
  have n7 : (7 : Int) < n := by omega
  have n8 : (28 : Int) ≤ n := by omega
  have hp := heap_alloc_new w (.cells #[.int .i64 0, .int .u8 0, .int .u8 0, .int .u8 0, .int .u8 0, .int .u8 0, .int .u8 0, .int .u8 0, .int .u8 0, .int .u8 0, .int .u8 0, .int .u8 0, .int .u8 0, .int .u8 0, .int .u8 0, .int .u8 0, .int .u8 0, .int .u8 0, .int .u8 0, .int .u8 0, .int .u8 0] 41)
  have bel := (Below.refl w.heap.size w).alloc (Nat.le_refl _) (.cells #[.int .i64 0, .int .u8 0, .int .u8 0, .int .u8 0, .int .u8 0, .int .u8 0, .int .u8 0, .int .u8 0, .int .u8 0, .int .u8 0, .int .u8 0, .int .u8 0, .int .u8 0, .int .u8 0, .int .u8 0, .int .u8 0, .int .u8 0, .int .u8 0, .int .u8 0, .int .u8 0, .int .u8 0] 41)
  have zp : w.heap.size < (w.alloc (.cells #[.int .i64 0, .int .u8 0, .int .u8 0, .int .u8 0, .int .u8 0, .int .u8 0, .int .u8 0, .int .u8 0, .int .u8 0, .int .u8 0, .int .u8 0, .int .u8 0, .int .u8 0, .int .u8 0, .int .u8 0, .int .u8 0, .int .u8 0, .int .u8 0, .int .u8 0, .int .u8 0, .int .u8 0] 41)).heap.size := by simp
  obtain ⟨A7, c7, s7, hb7⟩ := slice_front hl (k := 7) (by omega)
  replace s7 : ∀ W, (Instr.slice 32 (.slice A n c) none (some (.int .i64 7)) none).run Try.prog W = .ok (.slice A7 7 c7) W := s7
  have st7 := (hb7.below bel).str (P := Try.prog) 32 5 9 Try.underlying32 Try.underlying5 Try.underlying9
  replace st7 : (convert 32 9 (.slice A7 7 c7)).run Try.prog (w.alloc (.cells #[.int .i64 0, .int .u8 0, .int .u8 0, .int .u8 0, .int .u8 0, .int .u8 0, .int .u8 0, .int .u8 0, .int .u8 0, .int .u8 0, .int .u8 0, .int .u8 0, .int .u8 0, .int .u8 0, .int .u8 0, .int .u8 0, .int .u8 0, .int .u8 0, .int .u8 0, .int .u8 0, .int .u8 0] 41)) = .ok (.string ⟨#[0, 1, 8, 0, 6, 4, 0]⟩) (w.alloc (.cells #[.int .i64 0, .int .u8 0, .int .u8 0, .int .u8 0, .int .u8 0, .int .u8 0, .int .u8 0, .int .u8 0, .int .u8 0, .int .u8 0, .int .u8 0, .int .u8 0, .int .u8 0, .int .u8 0, .int .u8 0, .int .u8 0, .int .u8 0, .int .u8 0, .int .u8 0, .int .u8 0, .int .u8 0] 41)) := st7
  obtain ⟨A8, c8, s8, hb8⟩ := slice_back hl (k := 8) (by omega)
  obtain ⟨A14, c14, s14, hb14⟩ := slice_back hl (k := 14) (by omega)
  obtain ⟨A18, c18, s18, hb18⟩ := slice_back hl (k := 18) (by omega)
  obtain ⟨A24, c24, s24, hb24⟩ := slice_back hl (k := 24) (by omega)
  replace s8 : ∀ W, (Instr.slice 32 (.slice A n c) (some (.int .i64 8)) none none).run Try.prog W = .ok (.slice A8 (n - 8) c8) W := s8
  replace s14 : ∀ W, (Instr.slice 32 (.slice A n c) (some (.int .i64 14)) none none).run Try.prog W = .ok (.slice A14 (n - 14) c14) W := s14
  replace s18 : ∀ W, (Instr.slice 32 (.slice A n c) (some (.int .i64 18)) none none).run Try.prog W = .ok (.slice A18 (n - 18) c18) W := s18
  replace s24 : ∀ W, (Instr.slice 32 (.slice A n c) (some (.int .i64 24)) none none).run Try.prog W = .ok (.slice A24 (n - 24) c24) W := s24
  have M1 := Lib.hid fun W (h : Below w.heap.size w W) => rmac_any A8 (n - 8) c8 a0 a1 a2 a3 a4 a5 _ W (hb8.below h) (by omega)
  have M2 := Lib.hid fun W (h : Below w.heap.size w W) => raddr_any A14 (n - 14) c14 p0 p1 p2 p3 _ W (hb14.below h) (by omega)
  have M3 := Lib.hid fun W (h : Below w.heap.size w W) => rmac_any A18 (n - 18) c18 m0 m1 m2 m3 m4 m5 _ W (hb18.below h) (by omega)
  have M4 := Lib.hid fun W (h : Below w.heap.size w W) => raddr_any A24 (n - 24) c24 d0 d1 d2 d3 _ W (hb24.below h) (by omega)
  generalize n - 8 = n8' at *
  generalize n - 14 = n14 at *
  generalize n - 18 = n18 at *
  generalize n - 24 = n24 at *
  have hl1 := hl.below bel
  obtain ⟨d, o, rfl, hc⟩ := hl1.2.2.2 (by omega)
  have k7 : (w.alloc (.cells #[.int .i64 0, .int .u8 0, .int .u8 0, .int .u8 0, .int .u8 0, .int .u8 0, .int .u8 0, .int .u8 0, .int .u8 0, .int .u8 0, .int .u8 0, .int .u8 0, .int .u8 0, .int .u8 0, .int .u8 0, .int .u8 0, .int .u8 0, .int .u8 0, .int .u8 0, .int .u8 0, .int .u8 0] 41)).cell? ⟨d, o + 7, none⟩ = some (.int .u8 1) := hc 7 1 rfl
  have zk : d < (w.alloc (.cells #[.int .i64 0, .int .u8 0, .int .u8 0, .int .u8 0, .int .u8 0, .int .u8 0, .int .u8 0, .int .u8 0, .int .u8 0, .int .u8 0, .int .u8 0, .int .u8 0, .int .u8 0, .int .u8 0, .int .u8 0, .int .u8 0, .int .u8 0, .int .u8 0, .int .u8 0, .int .u8 0, .int .u8 0] 41)).heap.size := cell_lt k7
  have hdw : d < w.heap.size := by
    obtain ⟨d', o', e, hc'⟩ := hl.2.2.2 (by omega)
    injection e with e; injection e with e1 e2
    rw [e1]
    exact cell_lt (hc' 7 _ rfl)
  clear hl hl1 hc hn hn2 hb7 hb8 hb14 hb18 hb24
  go_enter Try.func13, Try.ntmps13
  go_wp2_with fail
  clear st7
  generalize w.alloc (.cells #[.int .i64 0, .int .u8 0, .int .u8 0, .int .u8 0, .int .u8 0, .int .u8 0, .int .u8 0, .int .u8 0, .int .u8 0, .int .u8 0, .int .u8 0, .int .u8 0, .int .u8 0, .int .u8 0, .int .u8 0, .int .u8 0, .int .u8 0, .int .u8 0, .int .u8 0, .int .u8 0, .int .u8 0] 41) = v0 at hp zp bel k7 zk ⊢
  replace bel := bel.drew
  replace hp : v0.drew.heap[w.heap.size]? = some (.cells #[.int .i64 0, .int .u8 0, .int .u8 0, .int .u8 0, .int .u8 0, .int .u8 0, .int .u8 0, .int .u8 0, .int .u8 0, .int .u8 0, .int .u8 0, .int .u8 0, .int .u8 0, .int .u8 0, .int .u8 0, .int .u8 0, .int .u8 0, .int .u8 0, .int .u8 0, .int .u8 0, .int .u8 0] 41 (0, 0)) := hp
  replace zp : w.heap.size < v0.drew.heap.size := zp
  replace k7 : v0.drew.cell? ⟨d, o + 7, none⟩ = some (.int .u8 1) := k7
  replace zk : _ < v0.drew.heap.size := zk
  refine wp_region_held_drew (S := fun W => W.cell? ⟨d, o + 7, none⟩ = some (.int .u8 1)) (by kernel_rfl) k7 (fun hH => ?_)
  refine wpAnyH_take (i := 0) (v := ?_) rfl (by kernel_rfl) (by kernel_rfl) (by kernel_rfl) (fun _ _ _ h => h) (Or.inl ⟨by rfl, ?_⟩) hH ?_
  rotate_left
  · ((intro W hW; clear hW; go_simp) <;> with_reducible rfl)
  simp only [Act.put, List.getElem_toArray, List.getElem_cons_zero, List.setIfInBounds_toArray, List.set_cons_zero, List.set_cons_succ]
  refine wpAnyH_take (i := 1) (v := ?_) rfl (by kernel_rfl) (by kernel_rfl) (by kernel_rfl) (fun _ _ _ h => h) (Or.inl ⟨by rfl, ?_⟩) hH ?_
  rotate_left
  · ((intro W hW; clear hW; go_simp) <;> with_reducible rfl)
  simp only [Act.put, List.getElem_toArray, List.getElem_cons_zero, List.getElem_cons_succ, List.setIfInBounds_toArray, List.set_cons_zero, List.set_cons_succ]
  refine wpAnyH_take (i := 2) (v := ?_) rfl (by kernel_rfl) (by kernel_rfl) (by kernel_rfl) (fun _ _ _ h => h) (Or.inl ⟨by rfl, ?_⟩) hH ?_
  rotate_left
  · ((intro W hW; have hk0 := hW; clear hW; go_simp) <;> with_reducible rfl)
  simp only [Act.put, List.getElem_toArray, List.getElem_cons_zero, List.getElem_cons_succ, List.setIfInBounds_toArray, List.set_cons_zero, List.set_cons_succ]
  refine wpAnyH_take (i := 3) (v := ?_) rfl (by kernel_rfl) (by kernel_rfl) (by kernel_rfl) (fun _ _ _ h => h) (Or.inl ⟨by rfl, ?_⟩) hH ?_
  rotate_left
  · ((intro W hW; clear hW; go_simp) <;> with_reducible rfl)
  simp only [Act.put, List.getElem_toArray, List.getElem_cons_zero, List.getElem_cons_succ, List.setIfInBounds_toArray, List.set_cons_zero, List.set_cons_succ]
  refine wpAnyH_take (i := 4) (v := ?_) rfl (by kernel_rfl) (by kernel_rfl) (by kernel_rfl) (fun _ _ _ h => h) (Or.inl ⟨by rfl, ?_⟩) hH ?_
  rotate_left
  · ((intro W hW; clear hW; go_simp) <;> with_reducible rfl)
  simp only [Act.put, List.getElem_toArray, List.getElem_cons_zero, List.getElem_cons_succ, List.setIfInBounds_toArray, List.set_cons_zero, List.set_cons_succ]
  refine wpAnyH_take (i := 5) (v := ?_) rfl (by kernel_rfl) (by kernel_rfl) (by kernel_rfl) (fun _ _ _ h => h) (Or.inl ⟨by rfl, ?_⟩) hH ?_
  rotate_left
  · ((intro W hW; clear hW; go_simp) <;> with_reducible rfl)
  simp only [Act.put, List.getElem_toArray, List.getElem_cons_zero, List.getElem_cons_succ, List.setIfInBounds_toArray, List.set_cons_zero, List.set_cons_succ]
  refine wpAnyH_take (i := 7) (v := ?_) rfl (by kernel_rfl) (by kernel_rfl) (by kernel_rfl) (fun _ _ _ h => h) (Or.inl ⟨by rfl, ?_⟩) hH ?_
  rotate_left
  · ((intro W hW; clear hW; go_simp) <;> with_reducible rfl)
  simp only [Act.put, List.getElem_toArray, List.getElem_cons_zero, List.getElem_cons_succ, List.setIfInBounds_toArray, List.set_cons_zero, List.set_cons_succ]
  refine wpAnyH_take (i := 8) (v := ?_) rfl (by kernel_rfl) (by kernel_rfl) (by kernel_rfl) (fun _ _ _ h => h) (Or.inl ⟨by rfl, ?_⟩) hH ?_
  rotate_left
  · ((intro W hW; clear hW; go_simp) <;> with_reducible rfl)
  simp only [Act.put, List.getElem_toArray, List.getElem_cons_zero, List.getElem_cons_succ, List.setIfInBounds_toArray, List.set_cons_zero, List.set_cons_succ]
  refine wpAnyH_take (i := 10) (v := ?_) rfl (by kernel_rfl) (by kernel_rfl) (by kernel_rfl) (fun _ _ _ h => h) (Or.inl ⟨by rfl, ?_⟩) hH ?_
  rotate_left
  · ((intro W hW; clear hW; go_simp) <;> with_reducible rfl)
  simp only [Act.put, List.getElem_toArray, List.getElem_cons_zero, List.getElem_cons_succ, List.setIfInBounds_toArray, List.set_cons_zero, List.set_cons_succ]
  refine wpAnyH_take (i := 11) (v := ?_) rfl (by kernel_rfl) (by kernel_rfl) (by kernel_rfl) (fun _ _ _ h => h) (Or.inl ⟨by rfl, ?_⟩) hH ?_
  rotate_left
  · ((intro W hW; clear hW; go_simp) <;> with_reducible rfl)
  simp only [Act.put, List.getElem_toArray, List.getElem_cons_zero, List.getElem_cons_succ, List.setIfInBounds_toArray, List.set_cons_zero, List.set_cons_succ]
  refine wpAnyH_take (i := 13) (v := ?_) rfl (by kernel_rfl) (by kernel_rfl) (by kernel_rfl) (fun _ _ _ h => h) (Or.inl ⟨by rfl, ?_⟩) hH ?_
  rotate_left
  · ((intro W hW; clear hW; go_simp) <;> with_reducible rfl)
  simp only [Act.put, List.getElem_toArray, List.getElem_cons_zero, List.getElem_cons_succ, List.setIfInBounds_toArray, List.set_cons_zero, List.set_cons_succ]
  refine wpAnyH_take (i := 14) (v := ?_) rfl (by kernel_rfl) (by kernel_rfl) (by kernel_rfl) (fun _ _ _ h => h) (Or.inl ⟨by rfl, ?_⟩) hH ?_
  rotate_left
  · ((intro W hW; clear hW; go_simp) <;> with_reducible rfl)
  simp only [Act.put, List.getElem_toArray, List.getElem_cons_zero, List.getElem_cons_succ, List.setIfInBounds_toArray, List.set_cons_zero, List.set_cons_succ]
  refine wpAnyH_ready (rs := [6]) (by kernel_rfl) (by simp) ?_
  refine AllReadyH.cons (o := _) rfl (fun K hK => ?_) AllReadyH.nil
  simp only [List.getElem_toArray, List.getElem_cons_zero, List.getElem_cons_succ]
  go_simp
  with_reducible refine (M1.out _ bel).mono ?_
  rintro e v1 ⟨rfl, b1⟩
  dsimp only
  replace bel := bel.trans (b1.mono bel.size)
  replace hp := (b1.block _ zp).trans hp
  replace zp := Nat.lt_of_lt_of_le zp b1.size
  replace k7 := (b1.cell (p := ⟨d, o + 7, none⟩) zk).trans k7
  replace zk := Nat.lt_of_lt_of_le zk b1.size
  refine hK.out _ _ k7 (fun hH1 => ?_)
  clear hK K
  refine wpAnyH_ready (rs := [9]) (by kernel_rfl) (by simp) ?_
  refine AllReadyH.cons (o := _) rfl (fun K hK => ?_) AllReadyH.nil
  simp only [List.getElem_toArray, List.getElem_cons_zero, List.getElem_cons_succ]
  go_simp
  with_reducible refine (M2.out _ bel).mono ?_
  rintro e v2 ⟨rfl, b2⟩
  dsimp only
  replace bel := bel.trans (b2.mono bel.size)
  replace hp := (b2.block _ zp).trans hp
  replace zp := Nat.lt_of_lt_of_le zp b2.size
  replace k7 := (b2.cell (p := ⟨d, o + 7, none⟩) zk).trans k7
  replace zk := Nat.lt_of_lt_of_le zk b2.size
  refine hK.out _ _ k7 (fun hH2 => ?_)
  clear hK K
  refine wpAnyH_ready (rs := [12]) (by kernel_rfl) (by simp) ?_
  refine AllReadyH.cons (o := _) rfl (fun K hK => ?_) AllReadyH.nil
  simp only [List.getElem_toArray, List.getElem_cons_zero, List.getElem_cons_succ]
  go_simp
  with_reducible refine (M3.out _ bel).mono ?_
  rintro e v3 ⟨rfl, b3⟩
  dsimp only
  replace bel := bel.trans (b3.mono bel.size)
  replace hp := (b3.block _ zp).trans hp
  replace zp := Nat.lt_of_lt_of_le zp b3.size
  replace k7 := (b3.cell (p := ⟨d, o + 7, none⟩) zk).trans k7
  replace zk := Nat.lt_of_lt_of_le zk b3.size
  refine hK.out _ _ k7 (fun hH3 => ?_)
  clear hK K
  refine wpAnyH_ready (rs := [15]) (by kernel_rfl) (by simp) ?_
  refine AllReadyH.cons (o := _) rfl (fun K hK => ?_) AllReadyH.nil
  simp only [List.getElem_toArray, List.getElem_cons_zero, List.getElem_cons_succ]
  go_simp
  with_reducible refine (M4.out _ bel).mono ?_
  rintro e v4 ⟨rfl, b4⟩
  dsimp only
  replace bel := bel.trans (b4.mono bel.size)
  replace hp := (b4.block _ zp).trans hp
  replace zp := Nat.lt_of_lt_of_le zp b4.size
  replace k7 := (b4.cell (p := ⟨d, o + 7, none⟩) zk).trans k7
  replace zk := Nat.lt_of_lt_of_le zk b4.size
  refine hK.out _ _ k7 (fun hH4 => ?_)
  clear hK K
  refine wpAnyH_take (i := 16) (v := ?_) rfl (by kernel_rfl) (by kernel_rfl) (by kernel_rfl) (fun _ _ _ h => h) (Or.inl ⟨by rfl, ?_⟩) hH4 ?_
  rotate_left
  · ((intro W hW; clear hW; go_simp) <;> with_reducible rfl)
  simp only [Act.put, List.getElem_toArray, List.getElem_cons_zero, List.getElem_cons_succ, List.setIfInBounds_toArray, List.set_cons_zero, List.set_cons_succ]
  refine wpAnyH_ready (rs := [17]) (by kernel_rfl) (by simp) ?_
  refine AllReadyH.cons (o := _) rfl (fun K hK => ?_) AllReadyH.nil
  simp only [List.getElem_toArray, List.getElem_cons_zero, List.getElem_cons_succ]
  rw [if_pos (by rfl)]
  refine wp_store_blk 41 _ _ rfl (w.heap.size) rfl #[.int .i64 1, .int .u8 (a0.toNat : Int), .int .u8 (a1.toNat : Int), .int .u8 (a2.toNat : Int), .int .u8 (a3.toNat : Int), .int .u8 (a4.toNat : Int), .int .u8 (a5.toNat : Int), .int .u8 (p0.toNat : Int), .int .u8 (p1.toNat : Int), .int .u8 (p2.toNat : Int), .int .u8 (p3.toNat : Int), .int .u8 (m0.toNat : Int), .int .u8 (m1.toNat : Int), .int .u8 (m2.toNat : Int), .int .u8 (m3.toNat : Int), .int .u8 (m4.toNat : Int), .int .u8 (m5.toNat : Int), .int .u8 (d0.toNat : Int), .int .u8 (d1.toNat : Int), .int .u8 (d2.toNat : Int), .int .u8 (d3.toNat : Int)] rfl _ 41 hp (by rfl) (by kernel_rfl) (by kernel_rfl) ?_
  intro v5 hn5 g5
  clear hp
  replace zp := Nat.lt_of_lt_of_le zp g5.size
  have hp := hn5
  clear hn5
  replace bel := below_grown bel g5 (by omega) bel.size
  replace k7 := (World.cell?_of_block (g5.block (d) zk (by intro e; injection e with e; omega))).trans k7
  replace zk := Nat.lt_of_lt_of_le zk g5.size
  refine hK.out _ _ k7 (fun hH5 => ?_)
  clear hK K g5
  refine wpAnyH_take (i := 18) (v := ?_) rfl (by kernel_rfl) (by kernel_rfl) (by kernel_rfl) (fun _ _ _ h => h) (Or.inl ⟨by rfl, ?_⟩) hH5 ?_
  rotate_left
  · ((intro W hW; clear hW; go_simp) <;> with_reducible rfl)
  simp only [Act.put, List.getElem_toArray, List.getElem_cons_zero, List.getElem_cons_succ, List.setIfInBounds_toArray, List.set_cons_zero, List.set_cons_succ]
  refine wpAnyH_done (by kernel_rfl) ?_ _
  go_wp2
  exact bodyPost_ret (results_cell_tmp_row rfl _ _ _ _ _ _ _ rfl hp Try.underlying41 rfl (by kernel_rfl) _ rfl) rfl ⟨rfl, bel⟩

set_option maxRecDepth 100000 in
set_option maxHeartbeats 8000000 in
theorem rget5_ok2 (A : Option Addr) (n c : Nat) (a0 a1 a2 a3 a4 a5 p0 p1 p2 p3 m0 m1 m2 m3 m4 m5 d0 d1 d2 d3 : UInt8) (r : List UInt8) (w : World) (hl : Sl w A n c (0 :: 1 :: 8 :: 0 :: 6 :: 4 :: 0 :: 2 :: a0 :: a1 :: a2 :: a3 :: a4 :: a5 :: p0 :: p1 :: p2 :: p3 :: m0 :: m1 :: m2 :: m3 :: m4 :: m5 :: d0 :: d1 :: d2 :: d3 :: r)) (hn : 28 ≤ n) (hn2 : n ≤ 100000) :
    Calls Try.prog 13 #[.slice A n c] w fun e w' => e = .returned (.tuple #[.agg #[.int .i64 2, .int .u8 (a0.toNat : Int), .int .u8 (a1.toNat : Int), .int .u8 (a2.toNat : Int), .int .u8 (a3.toNat : Int), .int .u8 (a4.toNat : Int), .int .u8 (a5.toNat : Int), .int .u8 (p0.toNat : Int), .int .u8 (p1.toNat : Int), .int .u8 (p2.toNat : Int), .int .u8 (p3.toNat : Int), .int .u8 (m0.toNat : Int), .int .u8 (m1.toNat : Int), .int .u8 (m2.toNat : Int), .int .u8 (m3.toNat : Int), .int .u8 (m4.toNat : Int), .int .u8 (m5.toNat : Int), .int .u8 (d0.toNat : Int), .int .u8 (d1.toNat : Int), .int .u8 (d2.toNat : Int), .int .u8 (d3.toNat : Int)], .int .i64 0]) ∧ Below w.heap.size w w' := by
  have t1 : decide ((n : Int) < 28) = false := decide_eq_false (by omega)
  have n7 : (7 : Int) < n := by omega
  have n8 : (28 : Int) ≤ n := by omega
  have hp := heap_alloc_new w (.cells #[.int .i64 0, .int .u8 0, .int .u8 0, .int .u8 0, .int .u8 0, .int .u8 0, .int .u8 0, .int .u8 0, .int .u8 0, .int .u8 0, .int .u8 0, .int .u8 0, .int .u8 0, .int .u8 0, .int .u8 0, .int .u8 0, .int .u8 0, .int .u8 0, .int .u8 0, .int .u8 0, .int .u8 0] 41)
  have bel := (Below.refl w.heap.size w).alloc (Nat.le_refl _) (.cells #[.int .i64 0, .int .u8 0, .int .u8 0, .int .u8 0, .int .u8 0, .int .u8 0, .int .u8 0, .int .u8 0, .int .u8 0, .int .u8 0, .int .u8 0, .int .u8 0, .int .u8 0, .int .u8 0, .int .u8 0, .int .u8 0, .int .u8 0, .int .u8 0, .int .u8 0, .int .u8 0, .int .u8 0] 41)
  have zp : w.heap.size < (w.alloc (.cells #[.int .i64 0, .int .u8 0, .int .u8 0, .int .u8 0, .int .u8 0, .int .u8 0, .int .u8 0, .int .u8 0, .int .u8 0, .int .u8 0, .int .u8 0, .int .u8 0, .int .u8 0, .int .u8 0, .int .u8 0, .int .u8 0, .int .u8 0, .int .u8 0, .int .u8 0, .int .u8 0, .int .u8 0] 41)).heap.size := by simp
  obtain ⟨A7, c7, s7, hb7⟩ := slice_front hl (k := 7) (by omega)
  replace s7 : ∀ W, (Instr.slice 32 (.slice A n c) none (some (.int .i64 7)) none).run Try.prog W = .ok (.slice A7 7 c7) W := s7
  have st7 := (hb7.below bel).str (P := Try.prog) 32 5 9 Try.underlying32 Try.underlying5 Try.underlying9
  replace st7 : (convert 32 9 (.slice A7 7 c7)).run Try.prog (w.alloc (.cells #[.int .i64 0, .int .u8 0, .int .u8 0, .int .u8 0, .int .u8 0, .int .u8 0, .int .u8 0, .int .u8 0, .int .u8 0, .int .u8 0, .int .u8 0, .int .u8 0, .int .u8 0, .int .u8 0, .int .u8 0, .int .u8 0, .int .u8 0, .int .u8 0, .int .u8 0, .int .u8 0, .int .u8 0] 41)) = .ok (.string ⟨#[0, 1, 8, 0, 6, 4, 0]⟩) (w.alloc (.cells #[.int .i64 0, .int .u8 0, .int .u8 0, .int .u8 0, .int .u8 0, .int .u8 0, .int .u8 0, .int .u8 0, .int .u8 0, .int .u8 0, .int .u8 0, .int .u8 0, .int .u8 0, .int .u8 0, .int .u8 0, .int .u8 0, .int .u8 0, .int .u8 0, .int .u8 0, .int .u8 0, .int .u8 0] 41)) := st7
  obtain ⟨A8, c8, s8, hb8⟩ := slice_back hl (k := 8) (by omega)
  obtain ⟨A14, c14, s14, hb14⟩ := slice_back hl (k := 14) (by omega)
  obtain ⟨A18, c18, s18, hb18⟩ := slice_back hl (k := 18) (by omega)
  obtain ⟨A24, c24, s24, hb24⟩ := slice_back hl (k := 24) (by omega)
  replace s8 : ∀ W, (Instr.slice 32 (.slice A n c) (some (.int .i64 8)) none none).run Try.prog W = .ok (.slice A8 (n - 8) c8) W := s8
  replace s14 : ∀ W, (Instr.slice 32 (.slice A n c) (some (.int .i64 14)) none none).run Try.prog W = .ok (.slice A14 (n - 14) c14) W := s14
  replace s18 : ∀ W, (Instr.slice 32 (.slice A n c) (some (.int .i64 18)) none none).run Try.prog W = .ok (.slice A18 (n - 18) c18) W := s18
  replace s24 : ∀ W, (Instr.slice 32 (.slice A n c) (some (.int .i64 24)) none none).run Try.prog W = .ok (.slice A24 (n - 24) c24) W := s24
  have M1 := Lib.hid fun W (h : Below w.heap.size w W) => rmac_any A8 (n - 8) c8 a0 a1 a2 a3 a4 a5 _ W (hb8.below h) (by omega)
  have M2 := Lib.hid fun W (h : Below w.heap.size w W) => raddr_any A14 (n - 14) c14 p0 p1 p2 p3 _ W (hb14.below h) (by omega)
  have M3 := Lib.hid fun W (h : Below w.heap.size w W) => rmac_any A18 (n - 18) c18 m0 m1 m2 m3 m4 m5 _ W (hb18.below h) (by omega)
  have M4 := Lib.hid fun W (h : Below w.heap.size w W) => raddr_any A24 (n - 24) c24 d0 d1 d2 d3 _ W (hb24.below h) (by omega)
  generalize n - 8 = n8' at *
  generalize n - 14 = n14 at *
  generalize n - 18 = n18 at *
  generalize n - 24 = n24 at *
  have hl1 := hl.below bel
  obtain ⟨d, o, rfl, hc⟩ := hl1.2.2.2 (by omega)
  have k7 : (w.alloc (.cells #[.int .i64 0, .int .u8 0, .int .u8 0, .int .u8 0, .int .u8 0, .int .u8 0, .int .u8 0, .int .u8 0, .int .u8 0, .int .u8 0, .int .u8 0, .int .u8 0, .int .u8 0, .int .u8 0, .int .u8 0, .int .u8 0, .int .u8 0, .int .u8 0, .int .u8 0, .int .u8 0, .int .u8 0] 41)).cell? ⟨d, o + 7, none⟩ = some (.int .u8 2) := hc 7 2 rfl
  have zk : d < (w.alloc (.cells #[.int .i64 0, .int .u8 0, .int .u8 0, .int .u8 0, .int .u8 0, .int .u8 0, .int .u8 0, .int .u8 0, .int .u8 0, .int .u8 0, .int .u8 0, .int .u8 0, .int .u8 0, .int .u8 0, .int .u8 0, .int .u8 0, .int .u8 0, .int .u8 0, .int .u8 0, .int .u8 0, .int .u8 0] 41)).heap.size := cell_lt k7
  have hdw : d < w.heap.size := by
    obtain ⟨d', o', e, hc'⟩ := hl.2.2.2 (by omega)
    injection e with e; injection e with e1 e2
    rw [e1]
    exact cell_lt (hc' 7 _ rfl)
  clear hl hl1 hc hn hn2 hb7 hb8 hb14 hb18 hb24
  go_enter Try.func13, Try.ntmps13
  go_wp2_with fail
  clear st7
  generalize w.alloc (.cells #[.int .i64 0, .int .u8 0, .int .u8 0, .int .u8 0, .int .u8 0, .int .u8 0, .int .u8 0, .int .u8 0, .int .u8 0, .int .u8 0, .int .u8 0, .int .u8 0, .int .u8 0, .int .u8 0, .int .u8 0, .int .u8 0, .int .u8 0, .int .u8 0, .int .u8 0, .int .u8 0, .int .u8 0] 41) = v0 at hp zp bel k7 zk ⊢
  replace bel := bel.drew
  replace hp : v0.drew.heap[w.heap.size]? = some (.cells #[.int .i64 0, .int .u8 0, .int .u8 0, .int .u8 0, .int .u8 0, .int .u8 0, .int .u8 0, .int .u8 0, .int .u8 0, .int .u8 0, .int .u8 0, .int .u8 0, .int .u8 0, .int .u8 0, .int .u8 0, .int .u8 0, .int .u8 0, .int .u8 0, .int .u8 0, .int .u8 0, .int .u8 0] 41 (0, 0)) := hp
  replace zp : w.heap.size < v0.drew.heap.size := zp
  replace k7 : v0.drew.cell? ⟨d, o + 7, none⟩ = some (.int .u8 2) := k7
  replace zk : _ < v0.drew.heap.size := zk
  refine wp_region_held_drew (S := fun W => W.cell? ⟨d, o + 7, none⟩ = some (.int .u8 2)) (by kernel_rfl) k7 (fun hH => ?_)
  refine wpAnyH_take (i := 0) (v := ?_) rfl (by kernel_rfl) (by kernel_rfl) (by kernel_rfl) (fun _ _ _ h => h) (Or.inl ⟨by rfl, ?_⟩) hH ?_
  rotate_left
  · ((intro W hW; clear hW; go_simp) <;> with_reducible rfl)
  simp only [Act.put, List.getElem_toArray, List.getElem_cons_zero, List.setIfInBounds_toArray, List.set_cons_zero, List.set_cons_succ]
  refine wpAnyH_take (i := 1) (v := ?_) rfl (by kernel_rfl) (by kernel_rfl) (by kernel_rfl) (fun _ _ _ h => h) (Or.inl ⟨by rfl, ?_⟩) hH ?_
  rotate_left
  · ((intro W hW; clear hW; go_simp) <;> with_reducible rfl)
  simp only [Act.put, List.getElem_toArray, List.getElem_cons_zero, List.getElem_cons_succ, List.setIfInBounds_toArray, List.set_cons_zero, List.set_cons_succ]
  refine wpAnyH_take (i := 2) (v := ?_) rfl (by kernel_rfl) (by kernel_rfl) (by kernel_rfl) (fun _ _ _ h => h) (Or.inl ⟨by rfl, ?_⟩) hH ?_
  rotate_left
  · ((intro W hW; have hk0 := hW; clear hW; go_simp) <;> with_reducible rfl)
  simp only [Act.put, List.getElem_toArray, List.getElem_cons_zero, List.getElem_cons_succ, List.setIfInBounds_toArray, List.set_cons_zero, List.set_cons_succ]
  refine wpAnyH_take (i := 3) (v := ?_) rfl (by kernel_rfl) (by kernel_rfl) (by kernel_rfl) (fun _ _ _ h => h) (Or.inl ⟨by rfl, ?_⟩) hH ?_
  rotate_left
  · ((intro W hW; clear hW; go_simp) <;> with_reducible rfl)
  simp only [Act.put, List.getElem_toArray, List.getElem_cons_zero, List.getElem_cons_succ, List.setIfInBounds_toArray, List.set_cons_zero, List.set_cons_succ]
  refine wpAnyH_take (i := 4) (v := ?_) rfl (by kernel_rfl) (by kernel_rfl) (by kernel_rfl) (fun _ _ _ h => h) (Or.inl ⟨by rfl, ?_⟩) hH ?_
  rotate_left
  · ((intro W hW; clear hW; go_simp) <;> with_reducible rfl)
  simp only [Act.put, List.getElem_toArray, List.getElem_cons_zero, List.getElem_cons_succ, List.setIfInBounds_toArray, List.set_cons_zero, List.set_cons_succ]
  refine wpAnyH_take (i := 5) (v := ?_) rfl (by kernel_rfl) (by kernel_rfl) (by kernel_rfl) (fun _ _ _ h => h) (Or.inl ⟨by rfl, ?_⟩) hH ?_
  rotate_left
  · ((intro W hW; clear hW; go_simp) <;> with_reducible rfl)
  simp only [Act.put, List.getElem_toArray, List.getElem_cons_zero, List.getElem_cons_succ, List.setIfInBounds_toArray, List.set_cons_zero, List.set_cons_succ]
  refine wpAnyH_take (i := 7) (v := ?_) rfl (by kernel_rfl) (by kernel_rfl) (by kernel_rfl) (fun _ _ _ h => h) (Or.inl ⟨by rfl, ?_⟩) hH ?_
  rotate_left
  · ((intro W hW; clear hW; go_simp) <;> with_reducible rfl)
  simp only [Act.put, List.getElem_toArray, List.getElem_cons_zero, List.getElem_cons_succ, List.setIfInBounds_toArray, List.set_cons_zero, List.set_cons_succ]
  refine wpAnyH_take (i := 8) (v := ?_) rfl (by kernel_rfl) (by kernel_rfl) (by kernel_rfl) (fun _ _ _ h => h) (Or.inl ⟨by rfl, ?_⟩) hH ?_
  rotate_left
  · ((intro W hW; clear hW; go_simp) <;> with_reducible rfl)
  simp only [Act.put, List.getElem_toArray, List.getElem_cons_zero, List.getElem_cons_succ, List.setIfInBounds_toArray, List.set_cons_zero, List.set_cons_succ]
  refine wpAnyH_take (i := 10) (v := ?_) rfl (by kernel_rfl) (by kernel_rfl) (by kernel_rfl) (fun _ _ _ h => h) (Or.inl ⟨by rfl, ?_⟩) hH ?_
  rotate_left
  · ((intro W hW; clear hW; go_simp) <;> with_reducible rfl)
  simp only [Act.put, List.getElem_toArray, List.getElem_cons_zero, List.getElem_cons_succ, List.setIfInBounds_toArray, List.set_cons_zero, List.set_cons_succ]
  refine wpAnyH_take (i := 11) (v := ?_) rfl (by kernel_rfl) (by kernel_rfl) (by kernel_rfl) (fun _ _ _ h => h) (Or.inl ⟨by rfl, ?_⟩) hH ?_
  rotate_left
  · ((intro W hW; clear hW; go_simp) <;> with_reducible rfl)
  simp only [Act.put, List.getElem_toArray, List.getElem_cons_zero, List.getElem_cons_succ, List.setIfInBounds_toArray, List.set_cons_zero, List.set_cons_succ]
  refine wpAnyH_take (i := 13) (v := ?_) rfl (by kernel_rfl) (by kernel_rfl) (by kernel_rfl) (fun _ _ _ h => h) (Or.inl ⟨by rfl, ?_⟩) hH ?_
  rotate_left
  · ((intro W hW; clear hW; go_simp) <;> with_reducible rfl)
  simp only [Act.put, List.getElem_toArray, List.getElem_cons_zero, List.getElem_cons_succ, List.setIfInBounds_toArray, List.set_cons_zero, List.set_cons_succ]
  refine wpAnyH_take (i := 14) (v := ?_) rfl (by kernel_rfl) (by kernel_rfl) (by kernel_rfl) (fun _ _ _ h => h) (Or.inl ⟨by rfl, ?_⟩) hH ?_
  rotate_left
  · ((intro W hW; clear hW; go_simp) <;> with_reducible rfl)
  simp only [Act.put, List.getElem_toArray, List.getElem_cons_zero, List.getElem_cons_succ, List.setIfInBounds_toArray, List.set_cons_zero, List.set_cons_succ]
  refine wpAnyH_ready (rs := [6]) (by kernel_rfl) (by simp) ?_
  refine AllReadyH.cons (o := _) rfl (fun K hK => ?_) AllReadyH.nil
  simp only [List.getElem_toArray, List.getElem_cons_zero, List.getElem_cons_succ]
  go_simp
  with_reducible refine (M1.out _ bel).mono ?_
  rintro e v1 ⟨rfl, b1⟩
  dsimp only
  replace bel := bel.trans (b1.mono bel.size)
  replace hp := (b1.block _ zp).trans hp
  replace zp := Nat.lt_of_lt_of_le zp b1.size
  replace k7 := (b1.cell (p := ⟨d, o + 7, none⟩) zk).trans k7
  replace zk := Nat.lt_of_lt_of_le zk b1.size
  refine hK.out _ _ k7 (fun hH1 => ?_)
  clear hK K
  refine wpAnyH_ready (rs := [9]) (by kernel_rfl) (by simp) ?_
  refine AllReadyH.cons (o := _) rfl (fun K hK => ?_) AllReadyH.nil
  simp only [List.getElem_toArray, List.getElem_cons_zero, List.getElem_cons_succ]
  go_simp
  with_reducible refine (M2.out _ bel).mono ?_
  rintro e v2 ⟨rfl, b2⟩
  dsimp only
  replace bel := bel.trans (b2.mono bel.size)
  replace hp := (b2.block _ zp).trans hp
  replace zp := Nat.lt_of_lt_of_le zp b2.size
  replace k7 := (b2.cell (p := ⟨d, o + 7, none⟩) zk).trans k7
  replace zk := Nat.lt_of_lt_of_le zk b2.size
  refine hK.out _ _ k7 (fun hH2 => ?_)
  clear hK K
  refine wpAnyH_ready (rs := [12]) (by kernel_rfl) (by simp) ?_
  refine AllReadyH.cons (o := _) rfl (fun K hK => ?_) AllReadyH.nil
  simp only [List.getElem_toArray, List.getElem_cons_zero, List.getElem_cons_succ]
  go_simp
  with_reducible refine (M3.out _ bel).mono ?_
  rintro e v3 ⟨rfl, b3⟩
  dsimp only
  replace bel := bel.trans (b3.mono bel.size)
  replace hp := (b3.block _ zp).trans hp
  replace zp := Nat.lt_of_lt_of_le zp b3.size
  replace k7 := (b3.cell (p := ⟨d, o + 7, none⟩) zk).trans k7
  replace zk := Nat.lt_of_lt_of_le zk b3.size
  refine hK.out _ _ k7 (fun hH3 => ?_)
  clear hK K
  refine wpAnyH_ready (rs := [15]) (by kernel_rfl) (by simp) ?_
  refine AllReadyH.cons (o := _) rfl (fun K hK => ?_) AllReadyH.nil
  simp only [List.getElem_toArray, List.getElem_cons_zero, List.getElem_cons_succ]
  go_simp
  with_reducible refine (M4.out _ bel).mono ?_
  rintro e v4 ⟨rfl, b4⟩
  dsimp only
  replace bel := bel.trans (b4.mono bel.size)
  replace hp := (b4.block _ zp).trans hp
  replace zp := Nat.lt_of_lt_of_le zp b4.size
  replace k7 := (b4.cell (p := ⟨d, o + 7, none⟩) zk).trans k7
  replace zk := Nat.lt_of_lt_of_le zk b4.size
  refine hK.out _ _ k7 (fun hH4 => ?_)
  clear hK K
  refine wpAnyH_take (i := 16) (v := ?_) rfl (by kernel_rfl) (by kernel_rfl) (by kernel_rfl) (fun _ _ _ h => h) (Or.inl ⟨by rfl, ?_⟩) hH4 ?_
  rotate_left
  · ((intro W hW; clear hW; go_simp) <;> with_reducible rfl)
  simp only [Act.put, List.getElem_toArray, List.getElem_cons_zero, List.getElem_cons_succ, List.setIfInBounds_toArray, List.set_cons_zero, List.set_cons_succ]
  refine wpAnyH_ready (rs := [17]) (by kernel_rfl) (by simp) ?_
  refine AllReadyH.cons (o := _) rfl (fun K hK => ?_) AllReadyH.nil
  simp only [List.getElem_toArray, List.getElem_cons_zero, List.getElem_cons_succ]
  rw [if_pos (by rfl)]
  refine wp_store_blk 41 _ _ rfl (w.heap.size) rfl #[.int .i64 2, .int .u8 (a0.toNat : Int), .int .u8 (a1.toNat : Int), .int .u8 (a2.toNat : Int), .int .u8 (a3.toNat : Int), .int .u8 (a4.toNat : Int), .int .u8 (a5.toNat : Int), .int .u8 (p0.toNat : Int), .int .u8 (p1.toNat : Int), .int .u8 (p2.toNat : Int), .int .u8 (p3.toNat : Int), .int .u8 (m0.toNat : Int), .int .u8 (m1.toNat : Int), .int .u8 (m2.toNat : Int), .int .u8 (m3.toNat : Int), .int .u8 (m4.toNat : Int), .int .u8 (m5.toNat : Int), .int .u8 (d0.toNat : Int), .int .u8 (d1.toNat : Int), .int .u8 (d2.toNat : Int), .int .u8 (d3.toNat : Int)] rfl _ 41 hp (by rfl) (by kernel_rfl) (by kernel_rfl) ?_
  intro v5 hn5 g5
  clear hp
  replace zp := Nat.lt_of_lt_of_le zp g5.size
  have hp := hn5
  clear hn5
  replace bel := below_grown bel g5 (by omega) bel.size
  replace k7 := (World.cell?_of_block (g5.block (d) zk (by intro e; injection e with e; omega))).trans k7
  replace zk := Nat.lt_of_lt_of_le zk g5.size
  refine hK.out _ _ k7 (fun hH5 => ?_)
  clear hK K g5
  refine wpAnyH_take (i := 18) (v := ?_) rfl (by kernel_rfl) (by kernel_rfl) (by kernel_rfl) (fun _ _ _ h => h) (Or.inl ⟨by rfl, ?_⟩) hH5 ?_
  rotate_left
  · ((intro W hW; clear hW; go_simp) <;> with_reducible rfl)
  simp only [Act.put, List.getElem_toArray, List.getElem_cons_zero, List.getElem_cons_succ, List.setIfInBounds_toArray, List.set_cons_zero, List.set_cons_succ]
  refine wpAnyH_done (by kernel_rfl) ?_ _
  go_wp2
  exact bodyPost_ret (results_cell_tmp_row rfl _ _ _ _ _ _ _ rfl hp Try.underlying41 rfl (by kernel_rfl) _ rfl) rfl ⟨rfl, bel⟩
end Go.Proofs.Ytekjjknpifpkiaa
