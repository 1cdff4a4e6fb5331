/- The contract of arp's Get; '==' of a packet with itself. -/
import Derived.Test.YtekjjknpifpkiaaBlk
import Derived.Test.YtekjjknpifpkiaaArp1
import Derived.Test.YtekjjknpifpkiaaSlices
import Derived.Test.YtekjjknpifpkiaaEth2
namespace Go.Proofs.Ytekjjknpifpkiaa
open Go.RowKit

/-- A packet of zeros. -/
abbrev pack0 : Value := .agg #[.int .i64 0, .int .u8 0, .int .u8 0, .int .u8 0, .int .u8 0, .int .u8 0, .int .u8 0, .int .u8 0, .int .u8 0, .int .u8 0, .int .u8 0, .int .u8 0, .int .u8 0, .int .u8 0, .int .u8 0, .int .u8 0, .int .u8 0, .int .u8 0, .int .u8 0, .int .u8 0, .int .u8 0]
theorem self6 (a0 a1 a2 a3 a4 a5 : UInt8) (w : World) : (Op.equalIn 9999 24 (.agg #[.int .u8 (a0.toNat : Int), .int .u8 (a1.toNat : Int), .int .u8 (a2.toNat : Int), .int .u8 (a3.toNat : Int), .int .u8 (a4.toNat : Int), .int .u8 (a5.toNat : Int)]) (.agg #[.int .u8 (a0.toNat : Int), .int .u8 (a1.toNat : Int), .int .u8 (a2.toNat : Int), .int .u8 (a3.toNat : Int), .int .u8 (a4.toNat : Int), .int .u8 (a5.toNat : Int)])).run Try.prog w = .ok true w := by
  have h := run_equalIn_bytes (P := Try.prog) w 9997 24 5 6 (by kernel_rfl) (by kernel_rfl) (fun w => by kernel_rfl) [a0, a1, a2, a3, a4, a5] [a0, a1, a2, a3, a4, a5] rfl rfl
  rw [beq_self_eq_true] at h
  exact h
theorem self4 (p0 p1 p2 p3 : UInt8) (w : World) : (Op.equalIn 9999 26 (.agg #[.int .u8 (p0.toNat : Int), .int .u8 (p1.toNat : Int), .int .u8 (p2.toNat : Int), .int .u8 (p3.toNat : Int)]) (.agg #[.int .u8 (p0.toNat : Int), .int .u8 (p1.toNat : Int), .int .u8 (p2.toNat : Int), .int .u8 (p3.toNat : Int)])).run Try.prog w = .ok true w := by
  have h := run_equalIn_bytes (P := Try.prog) w 9997 26 5 4 (by kernel_rfl) (by kernel_rfl) (fun w => by kernel_rfl) [p0, p1, p2, p3] [p0, p1, p2, p3] rfl rfl
  rw [beq_self_eq_true] at h
  exact h
theorem eqlPK (op : Int) (a0 a1 a2 a3 a4 a5 p0 p1 p2 p3 m0 m1 m2 m3 m4 m5 d0 d1 d2 d3 : UInt8) (w : World) : (binOp .eql 28 (.agg #[.int .i64 op, .int .u8 (a0.toNat : Int), .int .u8 (a1.toNat : Int), .int .u8 (a2.toNat : Int), .int .u8 (a3.toNat : Int), .int .u8 (a4.toNat : Int), .int .u8 (a5.toNat : Int), .int .u8 (p0.toNat : Int), .int .u8 (p1.toNat : Int), .int .u8 (p2.toNat : Int), .int .u8 (p3.toNat : Int), .int .u8 (m0.toNat : Int), .int .u8 (m1.toNat : Int), .int .u8 (m2.toNat : Int), .int .u8 (m3.toNat : Int), .int .u8 (m4.toNat : Int), .int .u8 (m5.toNat : Int), .int .u8 (d0.toNat : Int), .int .u8 (d1.toNat : Int), .int .u8 (d2.toNat : Int), .int .u8 (d3.toNat : Int)]) (.agg #[.int .i64 op, .int .u8 (a0.toNat : Int), .int .u8 (a1.toNat : Int), .int .u8 (a2.toNat : Int), .int .u8 (a3.toNat : Int), .int .u8 (a4.toNat : Int), .int .u8 (a5.toNat : Int), .int .u8 (p0.toNat : Int), .int .u8 (p1.toNat : Int), .int .u8 (p2.toNat : Int), .int .u8 (p3.toNat : Int), .int .u8 (m0.toNat : Int), .int .u8 (m1.toNat : Int), .int .u8 (m2.toNat : Int), .int .u8 (m3.toNat : Int), .int .u8 (m4.toNat : Int), .int .u8 (m5.toNat : Int), .int .u8 (d0.toNat : Int), .int .u8 (d1.toNat : Int), .int .u8 (d2.toNat : Int), .int .u8 (d3.toNat : Int)])).run Try.prog w = .ok (.bool true) w := by
  have h6 := self6
  have h4 := self4
  rw [run_eql_struct, run_equalIn_agg w 9999 28 _ _ (by kernel_rfl) (by kernel_rfl)]
  simp [go_sem, h4, h6]
theorem neqAR (op : Int) (a0 a1 a2 a3 a4 a5 p0 p1 p2 p3 m0 m1 m2 m3 m4 m5 d0 d1 d2 d3 : UInt8) (w : World) : (binOp .neq 41 (.agg #[.int .i64 op, .int .u8 (a0.toNat : Int), .int .u8 (a1.toNat : Int), .int .u8 (a2.toNat : Int), .int .u8 (a3.toNat : Int), .int .u8 (a4.toNat : Int), .int .u8 (a5.toNat : Int), .int .u8 (p0.toNat : Int), .int .u8 (p1.toNat : Int), .int .u8 (p2.toNat : Int), .int .u8 (p3.toNat : Int), .int .u8 (m0.toNat : Int), .int .u8 (m1.toNat : Int), .int .u8 (m2.toNat : Int), .int .u8 (m3.toNat : Int), .int .u8 (m4.toNat : Int), .int .u8 (m5.toNat : Int), .int .u8 (d0.toNat : Int), .int .u8 (d1.toNat : Int), .int .u8 (d2.toNat : Int), .int .u8 (d3.toNat : Int)]) (.agg #[.int .i64 op, .int .u8 (a0.toNat : Int), .int .u8 (a1.toNat : Int), .int .u8 (a2.toNat : Int), .int .u8 (a3.toNat : Int), .int .u8 (a4.toNat : Int), .int .u8 (a5.toNat : Int), .int .u8 (p0.toNat : Int), .int .u8 (p1.toNat : Int), .int .u8 (p2.toNat : Int), .int .u8 (p3.toNat : Int), .int .u8 (m0.toNat : Int), .int .u8 (m1.toNat : Int), .int .u8 (m2.toNat : Int), .int .u8 (m3.toNat : Int), .int .u8 (m4.toNat : Int), .int .u8 (m5.toNat : Int), .int .u8 (d0.toNat : Int), .int .u8 (d1.toNat : Int), .int .u8 (d2.toNat : Int), .int .u8 (d3.toNat : Int)])).run Try.prog w = .ok (.bool false) w := by
  have h6 := self6
  have h4 := self4
  rw [run_neq_struct, run_equalIn_agg w 9999 41 _ _ (by kernel_rfl) (by kernel_rfl)]
  simp [go_sem, h4, h6]
theorem guardPK (op : BinOp) (x y : Operand) (a b : Array Value) (W : World) : (eqGuard op 28 x y (.agg a) (.agg b)).run Try.prog W = .ok () W := run_eqGuard_agg W op 28 x y _ _ (by kernel_rfl)
theorem guardAR (op : BinOp) (x y : Operand) (a b : Array Value) (W : World) : (eqGuard op 41 x y (.agg a) (.agg b)).run Try.prog W = .ok () W := run_eqGuard_agg W op 41 x y _ _ (by kernel_rfl)

theorem u16_two (g : Nat) (x y : UInt8) (r : List UInt8) (s : Bool) (w : World) (hr : Rd w 65 g (x :: y :: r) s) :
    Calls Try.prog 20 #[.pointer (some ⟨g, 0, none⟩)] w fun e w' => e = .returned (.int .i64 (be [x, y] : Nat)) ∧ Rd w' 65 g r s ∧ w.grownBy w' (some g) :=
  u16_yes g (x :: y :: r) s w hr (by simp)
theorem u16_one (g : Nat) (r : List UInt8) (s : Bool) (w : World) (hr : Rd w 65 g (0 :: 1 :: r) s) :
    Calls Try.prog 20 #[.pointer (some ⟨g, 0, none⟩)] w fun e w' => e = .returned (.int .i64 1) ∧ Rd w' 65 g r s ∧ w.grownBy w' (some g) := by
  have h := u16_two g 0 1 r s w hr
  rw [show be [0, 1] = 1 by decide] at h
  exact h
theorem u16_2048 (g : Nat) (r : List UInt8) (s : Bool) (w : World) (hr : Rd w 65 g (8 :: 0 :: r) s) :
    Calls Try.prog 20 #[.pointer (some ⟨g, 0, none⟩)] w fun e w' => e = .returned (.int .i64 2048) ∧ Rd w' 65 g r s ∧ w.grownBy w' (some g) := by
  have h := u16_two g 8 0 r s w hr
  rw [show be [8, 0] = 2048 by decide] at h
  exact h
theorem u8_one (g : Nat) (x : UInt8) (r : List UInt8) (s : Bool) (w : World) (hr : Rd w 65 g (x :: r) s) :
    Calls Try.prog 21 #[.pointer (some ⟨g, 0, none⟩)] w fun e w' => e = .returned (.int .i64 (be [x] : Nat)) ∧ Rd w' 65 g r s ∧ w.grownBy w' (some g) :=
  u8_yes g (x :: r) s w hr (by simp)
theorem u8_six (g : Nat) (r : List UInt8) (s : Bool) (w : World) (hr : Rd w 65 g (6 :: r) s) :
    Calls Try.prog 21 #[.pointer (some ⟨g, 0, none⟩)] w fun e w' => e = .returned (.int .i64 6) ∧ Rd w' 65 g r s ∧ w.grownBy w' (some g) := by
  have h := u8_one g 6 r s w hr
  rw [show be [6] = 6 by decide] at h
  exact h
theorem u8_four (g : Nat) (r : List UInt8) (s : Bool) (w : World) (hr : Rd w 65 g (4 :: r) s) :
    Calls Try.prog 21 #[.pointer (some ⟨g, 0, none⟩)] w fun e w' => e = .returned (.int .i64 4) ∧ Rd w' 65 g r s ∧ w.grownBy w' (some g) := by
  have h := u8_one g 4 r s w hr
  rw [show be [4] = 4 by decide] at h
  exact h

set_option maxRecDepth 100000 in
theorem aget_short (A : Option Addr) (n c : Nat) (w : World) (h : n < 28) : Calls Try.prog 8 #[.slice A n c] w fun e w' => e = .returned (.tuple #[pack0, .int .i64 3]) ∧ Below w.heap.size w w' := by
  have hp := heap_alloc_new w (.cells #[.int .i64 0, .int .u8 0, .int .u8 0, .int .u8 0, .int .u8 0, .int .u8 0, .int .u8 0, .int .u8 0, .int .u8 0, .int .u8 0, .int .u8 0, .int .u8 0, .int .u8 0, .int .u8 0, .int .u8 0, .int .u8 0, .int .u8 0, .int .u8 0, .int .u8 0, .int .u8 0, .int .u8 0] 28)
  have bel := (Below.refl w.heap.size w).alloc (Nat.le_refl _) (.cells #[.int .i64 0, .int .u8 0, .int .u8 0, .int .u8 0, .int .u8 0, .int .u8 0, .int .u8 0, .int .u8 0, .int .u8 0, .int .u8 0, .int .u8 0, .int .u8 0, .int .u8 0, .int .u8 0, .int .u8 0, .int .u8 0, .int .u8 0, .int .u8 0, .int .u8 0, .int .u8 0, .int .u8 0] 28)
  have h1 : (n : Int) < 28 := by omega
  clear h
  go_enter Try.func8, Try.ntmps8
  go_wp2_with (refine wpList_store_blk rfl 28 _ _ rfl w.heap.size rfl _ rfl _ 28 hp (by rfl) (by kernel_rfl) (by kernel_rfl) ?_; intro wz hbz hgz; replace bel := below_grown bel hgz (Nat.le_refl _) bel.size; clear hgz hp)
  go_wp2
  exact bodyPost_ret (results_cell_tmp_row rfl _ _ w.heap.size _ _ _ _ rfl hbz Try.underlying28 rfl (by kernel_rfl) _ rfl) rfl ⟨rfl, bel⟩

set_option maxRecDepth 100000 in
set_option maxHeartbeats 4000000 in
theorem aget_bad1 (A : Option Addr) (n c : Nat) (l : List UInt8) (x y : UInt8) (r : List UInt8) (w : World) (hl : Sl w A n c l) (hn : 28 ≤ n) (hX : l.take 28 = x :: y :: r) (hv : be [x, y] ≠ 1) :
    Calls Try.prog 8 #[.slice A n c] w fun e w' => e = .returned (.tuple #[pack0, .int .i64 4]) ∧ Below w.heap.size w w' := by
  obtain ⟨tt, htt⟩ : ∃ tt : Nat, Hid (be [x, y] = tt) := ⟨_, Lib.hid rfl⟩
  rw [htt.out] at hv
  have e1 : ((tt : Int) == 1) = false := by simp; omega
  have e2 : ((tt : Int) != 1) = true := by simp; omega
  clear hv
  have t1 : decide ((n : Int) < 28) = false := decide_eq_false (by omega)
  have hp := heap_alloc_new w (.cells #[.int .i64 0, .int .u8 0, .int .u8 0, .int .u8 0, .int .u8 0, .int .u8 0, .int .u8 0, .int .u8 0, .int .u8 0, .int .u8 0, .int .u8 0, .int .u8 0, .int .u8 0, .int .u8 0, .int .u8 0, .int .u8 0, .int .u8 0, .int .u8 0, .int .u8 0, .int .u8 0, .int .u8 0] 28)
  have bel := (Below.refl w.heap.size w).alloc (Nat.le_refl _) (.cells #[.int .i64 0, .int .u8 0, .int .u8 0, .int .u8 0, .int .u8 0, .int .u8 0, .int .u8 0, .int .u8 0, .int .u8 0, .int .u8 0, .int .u8 0, .int .u8 0, .int .u8 0, .int .u8 0, .int .u8 0, .int .u8 0, .int .u8 0, .int .u8 0, .int .u8 0, .int .u8 0, .int .u8 0] 28)
  have zp : w.heap.size < (w.alloc (.cells #[.int .i64 0, .int .u8 0, .int .u8 0, .int .u8 0, .int .u8 0, .int .u8 0, .int .u8 0, .int .u8 0, .int .u8 0, .int .u8 0, .int .u8 0, .int .u8 0, .int .u8 0, .int .u8 0, .int .u8 0, .int .u8 0, .int .u8 0, .int .u8 0, .int .u8 0, .int .u8 0, .int .u8 0] 28)).heap.size := by simp
  obtain ⟨A', c', s28, hb⟩ := slice_front hl (k := 28) (by omega)
  replace s28 : ∀ W, (Instr.slice 32 (.slice A n c) none (some (.int .i64 28)) none).run Try.prog W = .ok (.slice A' 28 c') W := s28
  rw [hX] at hb
  have hl1 := hb.below bel
  clear hl hn hb hX
  go_enter Try.func8, Try.ntmps8
  go_wp2_with fail
  with_reducible refine (read_any A' 28 c' _ _ hl1 (by omega)).mono ?_
  rintro e w1 ⟨g, rfl, hr, b1, hgs⟩
  have HG : Hid (w.heap.size < g) := Lib.hid (by simp at hgs; omega)
  replace hp := (b1.block _ zp).trans hp
  replace zp := Nat.lt_of_lt_of_le zp b1.size
  replace bel := bel.trans (b1.mono bel.size)
  clear b1 hgs hl1 t1 s28
  go_wp2_with fail
  with_reducible refine (u16_two g x y _ false _ hr).mono ?_
  rintro e w2 ⟨rfl, hr, g2⟩
  replace hp := (g2.block w.heap.size zp (by have := HG.out; simp; omega)).trans hp
  replace zp := Nat.lt_of_lt_of_le zp g2.size
  replace bel := bel.grown g2 bel.size (fun k h => by cases h; exact Nat.le_of_lt HG.out)
  clear g2
  rw [htt.out]
  go_wp2_with (refine wpList_store_blk rfl 28 _ _ rfl w.heap.size rfl _ rfl _ 28 hp (by rfl) (by kernel_rfl) (by kernel_rfl) ?_; intro wz hbz hgz; replace bel := below_grown bel hgz (Nat.le_refl _) bel.size; clear hgz hp)
  go_wp2
  exact bodyPost_ret (results_cell_tmp_row rfl _ _ w.heap.size _ _ _ _ rfl hbz Try.underlying28 rfl (by kernel_rfl) _ rfl) rfl ⟨rfl, bel⟩

set_option maxRecDepth 100000 in
set_option maxHeartbeats 4000000 in
theorem aget_bad2 (A : Option Addr) (n c : Nat) (l : List UInt8) (x y : UInt8) (r : List UInt8) (w : World) (hl : Sl w A n c l) (hn : 28 ≤ n) (hX : l.take 28 = 0 :: 1 :: x :: y :: r) (hv : be [x, y] ≠ 2048) :
    Calls Try.prog 8 #[.slice A n c] w fun e w' => e = .returned (.tuple #[pack0, .int .i64 4]) ∧ Below w.heap.size w w' := by
  obtain ⟨tt, htt⟩ : ∃ tt : Nat, Hid (be [x, y] = tt) := ⟨_, Lib.hid rfl⟩
  rw [htt.out] at hv
  have e1 : ((tt : Int) == 2048) = false := by simp; omega
  have e2 : ((tt : Int) != 2048) = true := by simp; omega
  clear hv
  have t1 : decide ((n : Int) < 28) = false := decide_eq_false (by omega)
  have hp := heap_alloc_new w (.cells #[.int .i64 0, .int .u8 0, .int .u8 0, .int .u8 0, .int .u8 0, .int .u8 0, .int .u8 0, .int .u8 0, .int .u8 0, .int .u8 0, .int .u8 0, .int .u8 0, .int .u8 0, .int .u8 0, .int .u8 0, .int .u8 0, .int .u8 0, .int .u8 0, .int .u8 0, .int .u8 0, .int .u8 0] 28)
  have bel := (Below.refl w.heap.size w).alloc (Nat.le_refl _) (.cells #[.int .i64 0, .int .u8 0, .int .u8 0, .int .u8 0, .int .u8 0, .int .u8 0, .int .u8 0, .int .u8 0, .int .u8 0, .int .u8 0, .int .u8 0, .int .u8 0, .int .u8 0, .int .u8 0, .int .u8 0, .int .u8 0, .int .u8 0, .int .u8 0, .int .u8 0, .int .u8 0, .int .u8 0] 28)
  have zp : w.heap.size < (w.alloc (.cells #[.int .i64 0, .int .u8 0, .int .u8 0, .int .u8 0, .int .u8 0, .int .u8 0, .int .u8 0, .int .u8 0, .int .u8 0, .int .u8 0, .int .u8 0, .int .u8 0, .int .u8 0, .int .u8 0, .int .u8 0, .int .u8 0, .int .u8 0, .int .u8 0, .int .u8 0, .int .u8 0, .int .u8 0] 28)).heap.size := by simp
  obtain ⟨A', c', s28, hb⟩ := slice_front hl (k := 28) (by omega)
  replace s28 : ∀ W, (Instr.slice 32 (.slice A n c) none (some (.int .i64 28)) none).run Try.prog W = .ok (.slice A' 28 c') W := s28
  rw [hX] at hb
  have hl1 := hb.below bel
  clear hl hn hb hX
  go_enter Try.func8, Try.ntmps8
  go_wp2_with fail
  with_reducible refine (read_any A' 28 c' _ _ hl1 (by omega)).mono ?_
  rintro e w1 ⟨g, rfl, hr, b1, hgs⟩
  have HG : Hid (w.heap.size < g) := Lib.hid (by simp at hgs; omega)
  replace hp := (b1.block _ zp).trans hp
  replace zp := Nat.lt_of_lt_of_le zp b1.size
  replace bel := bel.trans (b1.mono bel.size)
  clear b1 hgs hl1 t1 s28
  go_wp2_with fail
  with_reducible refine (u16_one g _ false _ hr).mono ?_
  rintro e w2 ⟨rfl, hr, g2⟩
  replace hp := (g2.block w.heap.size zp (by have := HG.out; simp; omega)).trans hp
  replace zp := Nat.lt_of_lt_of_le zp g2.size
  replace bel := bel.grown g2 bel.size (fun k h => by cases h; exact Nat.le_of_lt HG.out)
  clear g2
  go_wp2_with fail
  with_reducible refine (u16_two g x y _ false _ hr).mono ?_
  rintro e w3 ⟨rfl, hr, g3⟩
  replace hp := (g3.block w.heap.size zp (by have := HG.out; simp; omega)).trans hp
  replace zp := Nat.lt_of_lt_of_le zp g3.size
  replace bel := bel.grown g3 bel.size (fun k h => by cases h; exact Nat.le_of_lt HG.out)
  clear g3
  rw [htt.out]
  go_wp2_with (refine wpList_store_blk rfl 28 _ _ rfl w.heap.size rfl _ rfl _ 28 hp (by rfl) (by kernel_rfl) (by kernel_rfl) ?_; intro wz hbz hgz; replace bel := below_grown bel hgz (Nat.le_refl _) bel.size; clear hgz hp)
  go_wp2
  exact bodyPost_ret (results_cell_tmp_row rfl _ _ w.heap.size _ _ _ _ rfl hbz Try.underlying28 rfl (by kernel_rfl) _ rfl) rfl ⟨rfl, bel⟩

set_option maxRecDepth 100000 in
set_option maxHeartbeats 4000000 in
theorem aget_bad3 (A : Option Addr) (n c : Nat) (l : List UInt8) (x : UInt8) (r : List UInt8) (w : World) (hl : Sl w A n c l) (hn : 28 ≤ n) (hX : l.take 28 = 0 :: 1 :: 8 :: 0 :: x :: r) (hv : be [x] ≠ 6) :
    Calls Try.prog 8 #[.slice A n c] w fun e w' => e = .returned (.tuple #[pack0, .int .i64 4]) ∧ Below w.heap.size w w' := by
  obtain ⟨tt, htt⟩ : ∃ tt : Nat, Hid (be [x] = tt) := ⟨_, Lib.hid rfl⟩
  rw [htt.out] at hv
  have e1 : ((tt : Int) == 6) = false := by simp; omega
  have e2 : ((tt : Int) != 6) = true := by simp; omega
  clear hv
  have t1 : decide ((n : Int) < 28) = false := decide_eq_false (by omega)
  have hp := heap_alloc_new w (.cells #[.int .i64 0, .int .u8 0, .int .u8 0, .int .u8 0, .int .u8 0, .int .u8 0, .int .u8 0, .int .u8 0, .int .u8 0, .int .u8 0, .int .u8 0, .int .u8 0, .int .u8 0, .int .u8 0, .int .u8 0, .int .u8 0, .int .u8 0, .int .u8 0, .int .u8 0, .int .u8 0, .int .u8 0] 28)
  have bel := (Below.refl w.heap.size w).alloc (Nat.le_refl _) (.cells #[.int .i64 0, .int .u8 0, .int .u8 0, .int .u8 0, .int .u8 0, .int .u8 0, .int .u8 0, .int .u8 0, .int .u8 0, .int .u8 0, .int .u8 0, .int .u8 0, .int .u8 0, .int .u8 0, .int .u8 0, .int .u8 0, .int .u8 0, .int .u8 0, .int .u8 0, .int .u8 0, .int .u8 0] 28)
  have zp : w.heap.size < (w.alloc (.cells #[.int .i64 0, .int .u8 0, .int .u8 0, .int .u8 0, .int .u8 0, .int .u8 0, .int .u8 0, .int .u8 0, .int .u8 0, .int .u8 0, .int .u8 0, .int .u8 0, .int .u8 0, .int .u8 0, .int .u8 0, .int .u8 0, .int .u8 0, .int .u8 0, .int .u8 0, .int .u8 0, .int .u8 0] 28)).heap.size := by simp
  obtain ⟨A', c', s28, hb⟩ := slice_front hl (k := 28) (by omega)
  replace s28 : ∀ W, (Instr.slice 32 (.slice A n c) none (some (.int .i64 28)) none).run Try.prog W = .ok (.slice A' 28 c') W := s28
  rw [hX] at hb
  have hl1 := hb.below bel
  clear hl hn hb hX
  go_enter Try.func8, Try.ntmps8
  go_wp2_with fail
  with_reducible refine (read_any A' 28 c' _ _ hl1 (by omega)).mono ?_
  rintro e w1 ⟨g, rfl, hr, b1, hgs⟩
  have HG : Hid (w.heap.size < g) := Lib.hid (by simp at hgs; omega)
  replace hp := (b1.block _ zp).trans hp
  replace zp := Nat.lt_of_lt_of_le zp b1.size
  replace bel := bel.trans (b1.mono bel.size)
  clear b1 hgs hl1 t1 s28
  go_wp2_with fail
  with_reducible refine (u16_one g _ false _ hr).mono ?_
  rintro e w2 ⟨rfl, hr, g2⟩
  replace hp := (g2.block w.heap.size zp (by have := HG.out; simp; omega)).trans hp
  replace zp := Nat.lt_of_lt_of_le zp g2.size
  replace bel := bel.grown g2 bel.size (fun k h => by cases h; exact Nat.le_of_lt HG.out)
  clear g2
  go_wp2_with fail
  with_reducible refine (u16_2048 g _ false _ hr).mono ?_
  rintro e w3 ⟨rfl, hr, g3⟩
  replace hp := (g3.block w.heap.size zp (by have := HG.out; simp; omega)).trans hp
  replace zp := Nat.lt_of_lt_of_le zp g3.size
  replace bel := bel.grown g3 bel.size (fun k h => by cases h; exact Nat.le_of_lt HG.out)
  clear g3
  go_wp2_with fail
  with_reducible refine (u8_one g x _ false _ hr).mono ?_
  rintro e w4 ⟨rfl, hr, g4⟩
  replace hp := (g4.block w.heap.size zp (by have := HG.out; simp; omega)).trans hp
  replace zp := Nat.lt_of_lt_of_le zp g4.size
  replace bel := bel.grown g4 bel.size (fun k h => by cases h; exact Nat.le_of_lt HG.out)
  clear g4
  rw [htt.out]
  go_wp2_with (refine wpList_store_blk rfl 28 _ _ rfl w.heap.size rfl _ rfl _ 28 hp (by rfl) (by kernel_rfl) (by kernel_rfl) ?_; intro wz hbz hgz; replace bel := below_grown bel hgz (Nat.le_refl _) bel.size; clear hgz hp)
  go_wp2
  exact bodyPost_ret (results_cell_tmp_row rfl _ _ w.heap.size _ _ _ _ rfl hbz Try.underlying28 rfl (by kernel_rfl) _ rfl) rfl ⟨rfl, bel⟩

set_option maxRecDepth 100000 in
set_option maxHeartbeats 4000000 in
theorem aget_bad4 (A : Option Addr) (n c : Nat) (l : List UInt8) (x : UInt8) (r : List UInt8) (w : World) (hl : Sl w A n c l) (hn : 28 ≤ n) (hX : l.take 28 = 0 :: 1 :: 8 :: 0 :: 6 :: x :: r) (hv : be [x] ≠ 4) :
    Calls Try.prog 8 #[.slice A n c] w fun e w' => e = .returned (.tuple #[pack0, .int .i64 4]) ∧ Below w.heap.size w w' := by
  obtain ⟨tt, htt⟩ : ∃ tt : Nat, Hid (be [x] = tt) := ⟨_, Lib.hid rfl⟩
  rw [htt.out] at hv
  have e1 : ((tt : Int) == 4) = false := by simp; omega
  have e2 : ((tt : Int) != 4) = true := by simp; omega
  clear hv
  have t1 : decide ((n : Int) < 28) = false := decide_eq_false (by omega)
  have hp := heap_alloc_new w (.cells #[.int .i64 0, .int .u8 0, .int .u8 0, .int .u8 0, .int .u8 0, .int .u8 0, .int .u8 0, .int .u8 0, .int .u8 0, .int .u8 0, .int .u8 0, .int .u8 0, .int .u8 0, .int .u8 0, .int .u8 0, .int .u8 0, .int .u8 0, .int .u8 0, .int .u8 0, .int .u8 0, .int .u8 0] 28)
  have bel := (Below.refl w.heap.size w).alloc (Nat.le_refl _) (.cells #[.int .i64 0, .int .u8 0, .int .u8 0, .int .u8 0, .int .u8 0, .int .u8 0, .int .u8 0, .int .u8 0, .int .u8 0, .int .u8 0, .int .u8 0, .int .u8 0, .int .u8 0, .int .u8 0, .int .u8 0, .int .u8 0, .int .u8 0, .int .u8 0, .int .u8 0, .int .u8 0, .int .u8 0] 28)
  have zp : w.heap.size < (w.alloc (.cells #[.int .i64 0, .int .u8 0, .int .u8 0, .int .u8 0, .int .u8 0, .int .u8 0, .int .u8 0, .int .u8 0, .int .u8 0, .int .u8 0, .int .u8 0, .int .u8 0, .int .u8 0, .int .u8 0, .int .u8 0, .int .u8 0, .int .u8 0, .int .u8 0, .int .u8 0, .int .u8 0, .int .u8 0] 28)).heap.size := by simp
  obtain ⟨A', c', s28, hb⟩ := slice_front hl (k := 28) (by omega)
  replace s28 : ∀ W, (Instr.slice 32 (.slice A n c) none (some (.int .i64 28)) none).run Try.prog W = .ok (.slice A' 28 c') W := s28
  rw [hX] at hb
  have hl1 := hb.below bel
  clear hl hn hb hX
  go_enter Try.func8, Try.ntmps8
  go_wp2_with fail
  with_reducible refine (read_any A' 28 c' _ _ hl1 (by omega)).mono ?_
  rintro e w1 ⟨g, rfl, hr, b1, hgs⟩
  have HG : Hid (w.heap.size < g) := Lib.hid (by simp at hgs; omega)
  replace hp := (b1.block _ zp).trans hp
  replace zp := Nat.lt_of_lt_of_le zp b1.size
  replace bel := bel.trans (b1.mono bel.size)
  clear b1 hgs hl1 t1 s28
  go_wp2_with fail
  with_reducible refine (u16_one g _ false _ hr).mono ?_
  rintro e w2 ⟨rfl, hr, g2⟩
  replace hp := (g2.block w.heap.size zp (by have := HG.out; simp; omega)).trans hp
  replace zp := Nat.lt_of_lt_of_le zp g2.size
  replace bel := bel.grown g2 bel.size (fun k h => by cases h; exact Nat.le_of_lt HG.out)
  clear g2
  go_wp2_with fail
  with_reducible refine (u16_2048 g _ false _ hr).mono ?_
  rintro e w3 ⟨rfl, hr, g3⟩
  replace hp := (g3.block w.heap.size zp (by have := HG.out; simp; omega)).trans hp
  replace zp := Nat.lt_of_lt_of_le zp g3.size
  replace bel := bel.grown g3 bel.size (fun k h => by cases h; exact Nat.le_of_lt HG.out)
  clear g3
  go_wp2_with fail
  with_reducible refine (u8_six g _ false _ hr).mono ?_
  rintro e w4 ⟨rfl, hr, g4⟩
  replace hp := (g4.block w.heap.size zp (by have := HG.out; simp; omega)).trans hp
  replace zp := Nat.lt_of_lt_of_le zp g4.size
  replace bel := bel.grown g4 bel.size (fun k h => by cases h; exact Nat.le_of_lt HG.out)
  clear g4
  go_wp2_with fail
  with_reducible refine (u8_one g x _ false _ hr).mono ?_
  rintro e w5 ⟨rfl, hr, g5⟩
  replace hp := (g5.block w.heap.size zp (by have := HG.out; simp; omega)).trans hp
  replace zp := Nat.lt_of_lt_of_le zp g5.size
  replace bel := bel.grown g5 bel.size (fun k h => by cases h; exact Nat.le_of_lt HG.out)
  clear g5
  rw [htt.out]
  go_wp2_with (refine wpList_store_blk rfl 28 _ _ rfl w.heap.size rfl _ rfl _ 28 hp (by rfl) (by kernel_rfl) (by kernel_rfl) ?_; intro wz hbz hgz; replace bel := below_grown bel hgz (Nat.le_refl _) bel.size; clear hgz hp)
  go_wp2
  exact bodyPost_ret (results_cell_tmp_row rfl _ _ w.heap.size _ _ _ _ rfl hbz Try.underlying28 rfl (by kernel_rfl) _ rfl) rfl ⟨rfl, bel⟩

set_option maxRecDepth 100000 in
set_option maxHeartbeats 8000000 in
theorem aget_bad5 (A : Option Addr) (n c : Nat) (l : List UInt8) (x y a0 a1 a2 a3 a4 a5 p0 p1 p2 p3 m0 m1 m2 m3 m4 m5 d0 d1 d2 d3 : UInt8) (w : World) (hl : Sl w A n c l) (hn : 28 ≤ n) (hX : l.take 28 = 0 :: 1 :: 8 :: 0 :: 6 :: 4 :: x :: y :: [a0, a1, a2, a3, a4, a5, p0, p1, p2, p3, m0, m1, m2, m3, m4, m5, d0, d1, d2, d3]) (hop : isOp (be [x, y] : Nat) = false) :
    Calls Try.prog 8 #[.slice A n c] w fun e w' => e = .returned (.tuple #[pack0, .int .i64 4]) ∧ Below w.heap.size w w' := by
  obtain ⟨tt, htt⟩ : ∃ tt : Nat, Hid (be [x, y] = tt) := ⟨_, Lib.hid rfl⟩
  rw [htt.out] at hop
  have t1 : decide ((n : Int) < 28) = false := decide_eq_false (by omega)
  have hp := heap_alloc_new w (.cells #[.int .i64 0, .int .u8 0, .int .u8 0, .int .u8 0, .int .u8 0, .int .u8 0, .int .u8 0, .int .u8 0, .int .u8 0, .int .u8 0, .int .u8 0, .int .u8 0, .int .u8 0, .int .u8 0, .int .u8 0, .int .u8 0, .int .u8 0, .int .u8 0, .int .u8 0, .int .u8 0, .int .u8 0] 28)
  have bel := (Below.refl w.heap.size w).alloc (Nat.le_refl _) (.cells #[.int .i64 0, .int .u8 0, .int .u8 0, .int .u8 0, .int .u8 0, .int .u8 0, .int .u8 0, .int .u8 0, .int .u8 0, .int .u8 0, .int .u8 0, .int .u8 0, .int .u8 0, .int .u8 0, .int .u8 0, .int .u8 0, .int .u8 0, .int .u8 0, .int .u8 0, .int .u8 0, .int .u8 0] 28)
  have zp : w.heap.size < (w.alloc (.cells #[.int .i64 0, .int .u8 0, .int .u8 0, .int .u8 0, .int .u8 0, .int .u8 0, .int .u8 0, .int .u8 0, .int .u8 0, .int .u8 0, .int .u8 0, .int .u8 0, .int .u8 0, .int .u8 0, .int .u8 0, .int .u8 0, .int .u8 0, .int .u8 0, .int .u8 0, .int .u8 0, .int .u8 0] 28)).heap.size := by simp
  obtain ⟨A', c', s28, hb⟩ := slice_front hl (k := 28) (by omega)
  replace s28 : ∀ W, (Instr.slice 32 (.slice A n c) none (some (.int .i64 28)) none).run Try.prog W = .ok (.slice A' 28 c') W := s28
  rw [hX] at hb
  have hl1 := hb.below bel
  clear hl hn hb hX
  go_enter Try.func8, Try.ntmps8
  go_wp2_with fail
  with_reducible refine (read_any A' 28 c' _ _ hl1 (by omega)).mono ?_
  rintro e w1 ⟨g, rfl, hr, b1, hgs⟩
  have HG : Hid (w.heap.size < g) := Lib.hid (by simp at hgs; omega)
  replace hp := (b1.block _ zp).trans hp
  replace zp := Nat.lt_of_lt_of_le zp b1.size
  replace bel := bel.trans (b1.mono bel.size)
  clear b1 hgs hl1 t1 s28
  go_wp2_with fail
  with_reducible refine (u16_one g _ false _ hr).mono ?_
  rintro e w2 ⟨rfl, hr, g2⟩
  replace hp := (g2.block w.heap.size zp (by have := HG.out; simp; omega)).trans hp
  replace zp := Nat.lt_of_lt_of_le zp g2.size
  replace bel := bel.grown g2 bel.size (fun k h => by cases h; exact Nat.le_of_lt HG.out)
  clear g2
  go_wp2_with fail
  with_reducible refine (u16_2048 g _ false _ hr).mono ?_
  rintro e w3 ⟨rfl, hr, g3⟩
  replace hp := (g3.block w.heap.size zp (by have := HG.out; simp; omega)).trans hp
  replace zp := Nat.lt_of_lt_of_le zp g3.size
  replace bel := bel.grown g3 bel.size (fun k h => by cases h; exact Nat.le_of_lt HG.out)
  clear g3
  go_wp2_with fail
  with_reducible refine (u8_six g _ false _ hr).mono ?_
  rintro e w4 ⟨rfl, hr, g4⟩
  replace hp := (g4.block w.heap.size zp (by have := HG.out; simp; omega)).trans hp
  replace zp := Nat.lt_of_lt_of_le zp g4.size
  replace bel := bel.grown g4 bel.size (fun k h => by cases h; exact Nat.le_of_lt HG.out)
  clear g4
  go_wp2_with fail
  with_reducible refine (u8_four g _ false _ hr).mono ?_
  rintro e w5 ⟨rfl, hr, g5⟩
  replace hp := (g5.block w.heap.size zp (by have := HG.out; simp; omega)).trans hp
  replace zp := Nat.lt_of_lt_of_le zp g5.size
  replace bel := bel.grown g5 bel.size (fun k h => by cases h; exact Nat.le_of_lt HG.out)
  clear g5
  go_wp2_with fail
  with_reducible refine (u16_two g x y _ false _ hr).mono ?_
  rintro e w6 ⟨rfl, hr, g6⟩
  replace hp := (g6.block w.heap.size zp (by have := HG.out; simp; omega)).trans hp
  replace zp := Nat.lt_of_lt_of_le zp g6.size
  replace bel := bel.grown g6 bel.size (fun k h => by cases h; exact Nat.le_of_lt HG.out)
  clear g6
  rw [htt.out]
  go_wp2_with fail
  with_reducible refine (amac_any g a0 a1 a2 a3 a4 a5 _ false _ hr).mono ?_
  rintro e w7 ⟨rfl, hr, g7⟩
  replace hp := (g7.block w.heap.size zp (by have := HG.out; simp; omega)).trans hp
  replace zp := Nat.lt_of_lt_of_le zp g7.size
  replace bel := bel.grown g7 bel.size (fun k h => by cases h; exact Nat.le_of_lt HG.out)
  clear g7
  go_wp2_with fail
  with_reducible refine (aaddr_any g p0 p1 p2 p3 _ false _ hr).mono ?_
  rintro e w8 ⟨rfl, hr, g8⟩
  replace hp := (g8.block w.heap.size zp (by have := HG.out; simp; omega)).trans hp
  replace zp := Nat.lt_of_lt_of_le zp g8.size
  replace bel := bel.grown g8 bel.size (fun k h => by cases h; exact Nat.le_of_lt HG.out)
  clear g8
  go_wp2_with fail
  with_reducible refine (amac_any g m0 m1 m2 m3 m4 m5 _ false _ hr).mono ?_
  rintro e w9 ⟨rfl, hr, g9⟩
  replace hp := (g9.block w.heap.size zp (by have := HG.out; simp; omega)).trans hp
  replace zp := Nat.lt_of_lt_of_le zp g9.size
  replace bel := bel.grown g9 bel.size (fun k h => by cases h; exact Nat.le_of_lt HG.out)
  clear g9
  go_wp2_with fail
  with_reducible refine (aaddr_any g d0 d1 d2 d3 _ false _ hr).mono ?_
  rintro e w10 ⟨rfl, hr, g10⟩
  replace hp := (g10.block w.heap.size zp (by have := HG.out; simp; omega)).trans hp
  replace zp := Nat.lt_of_lt_of_le zp g10.size
  replace bel := bel.grown g10 bel.size (fun k h => by cases h; exact Nat.le_of_lt HG.out)
  clear g10
  have hq := heap_alloc_new w10 (.cells #[.int .i64 0, .int .u8 0, .int .u8 0, .int .u8 0, .int .u8 0, .int .u8 0, .int .u8 0, .int .u8 0, .int .u8 0, .int .u8 0, .int .u8 0, .int .u8 0, .int .u8 0, .int .u8 0, .int .u8 0, .int .u8 0, .int .u8 0, .int .u8 0, .int .u8 0, .int .u8 0, .int .u8 0] 28)
  have bq := (Below.refl w10.heap.size w10).alloc (Nat.le_refl _) (.cells #[.int .i64 0, .int .u8 0, .int .u8 0, .int .u8 0, .int .u8 0, .int .u8 0, .int .u8 0, .int .u8 0, .int .u8 0, .int .u8 0, .int .u8 0, .int .u8 0, .int .u8 0, .int .u8 0, .int .u8 0, .int .u8 0, .int .u8 0, .int .u8 0, .int .u8 0, .int .u8 0, .int .u8 0] 28)
  replace hp := (bq.block _ zp).trans hp
  replace bel := bel.trans (bq.mono bel.size)
  have zpq : w.heap.size < w10.heap.size := zp
  replace zp := Nat.lt_of_lt_of_le zp bq.size
  clear bq hr
  go_wp2_with (refine wpList_store_blk rfl 28 _ _ rfl w10.heap.size rfl _ rfl _ 28 hq (by rfl) (by kernel_rfl) (by kernel_rfl) ?_; intro wq hbq hgq; replace bel := below_grown bel hgq (Nat.le_of_lt zpq) bel.size; replace hp := (hgq.block w.heap.size zp (by simp; omega)).trans hp; have q0 := cell_lit hbq 0 _ rfl; clear hgq hq zpq zp)
  with_reducible refine (knownOp_any _ _).mono ?_
  rintro e _ ⟨rfl, rfl⟩
  rw [hop]
  clear hop q0
  go_wp2_with (refine wpList_store_blk rfl 28 _ _ rfl w.heap.size rfl _ rfl _ 28 hp (by rfl) (by kernel_rfl) (by kernel_rfl) ?_; intro wz hbz hgz; replace bel := below_grown bel hgz (Nat.le_refl _) bel.size; clear hgz hp)
  go_wp2
  exact bodyPost_ret (results_cell_tmp_row rfl _ _ w.heap.size _ _ _ _ rfl hbz Try.underlying28 rfl (by kernel_rfl) _ rfl) rfl ⟨rfl, bel⟩

set_option maxRecDepth 100000 in
set_option maxHeartbeats 8000000 in
theorem aget_ok (A : Option Addr) (n c : Nat) (l : List UInt8) (x y a0 a1 a2 a3 a4 a5 p0 p1 p2 p3 m0 m1 m2 m3 m4 m5 d0 d1 d2 d3 : UInt8) (w : World) (hl : Sl w A n c l) (hn : 28 ≤ n) (hX : l.take 28 = 0 :: 1 :: 8 :: 0 :: 6 :: 4 :: x :: y :: [a0, a1, a2, a3, a4, a5, p0, p1, p2, p3, m0, m1, m2, m3, m4, m5, d0, d1, d2, d3]) (hop : isOp (be [x, y] : Nat) = true) :
    Calls Try.prog 8 #[.slice A n c] w fun e w' => e = .returned (.tuple #[.agg #[.int .i64 (be [x, y] : Nat), .int .u8 (a0.toNat : Int), .int .u8 (a1.toNat : Int), .int .u8 (a2.toNat : Int), .int .u8 (a3.toNat : Int), .int .u8 (a4.toNat : Int), .int .u8 (a5.toNat : Int), .int .u8 (p0.toNat : Int), .int .u8 (p1.toNat : Int), .int .u8 (p2.toNat : Int), .int .u8 (p3.toNat : Int), .int .u8 (m0.toNat : Int), .int .u8 (m1.toNat : Int), .int .u8 (m2.toNat : Int), .int .u8 (m3.toNat : Int), .int .u8 (m4.toNat : Int), .int .u8 (m5.toNat : Int), .int .u8 (d0.toNat : Int), .int .u8 (d1.toNat : Int), .int .u8 (d2.toNat : Int), .int .u8 (d3.toNat : Int)], .int .i64 0]) ∧ Below w.heap.size w w' := by
  obtain ⟨tt, htt⟩ : ∃ tt : Nat, Hid (be [x, y] = tt) := ⟨_, Lib.hid rfl⟩
  rw [htt.out] at hop ⊢
  have t1 : decide ((n : Int) < 28) = false := decide_eq_false (by omega)
  have hp := heap_alloc_new w (.cells #[.int .i64 0, .int .u8 0, .int .u8 0, .int .u8 0, .int .u8 0, .int .u8 0, .int .u8 0, .int .u8 0, .int .u8 0, .int .u8 0, .int .u8 0, .int .u8 0, .int .u8 0, .int .u8 0, .int .u8 0, .int .u8 0, .int .u8 0, .int .u8 0, .int .u8 0, .int .u8 0, .int .u8 0] 28)
  have bel := (Below.refl w.heap.size w).alloc (Nat.le_refl _) (.cells #[.int .i64 0, .int .u8 0, .int .u8 0, .int .u8 0, .int .u8 0, .int .u8 0, .int .u8 0, .int .u8 0, .int .u8 0, .int .u8 0, .int .u8 0, .int .u8 0, .int .u8 0, .int .u8 0, .int .u8 0, .int .u8 0, .int .u8 0, .int .u8 0, .int .u8 0, .int .u8 0, .int .u8 0] 28)
  have zp : w.heap.size < (w.alloc (.cells #[.int .i64 0, .int .u8 0, .int .u8 0, .int .u8 0, .int .u8 0, .int .u8 0, .int .u8 0, .int .u8 0, .int .u8 0, .int .u8 0, .int .u8 0, .int .u8 0, .int .u8 0, .int .u8 0, .int .u8 0, .int .u8 0, .int .u8 0, .int .u8 0, .int .u8 0, .int .u8 0, .int .u8 0] 28)).heap.size := by simp
  obtain ⟨A', c', s28, hb⟩ := slice_front hl (k := 28) (by omega)
  replace s28 : ∀ W, (Instr.slice 32 (.slice A n c) none (some (.int .i64 28)) none).run Try.prog W = .ok (.slice A' 28 c') W := s28
  rw [hX] at hb
  have hl1 := hb.below bel
  clear hl hn hb hX
  go_enter Try.func8, Try.ntmps8
  go_wp2_with fail
  with_reducible refine (read_any A' 28 c' _ _ hl1 (by omega)).mono ?_
  rintro e w1 ⟨g, rfl, hr, b1, hgs⟩
  have HG : Hid (w.heap.size < g) := Lib.hid (by simp at hgs; omega)
  replace hp := (b1.block _ zp).trans hp
  replace zp := Nat.lt_of_lt_of_le zp b1.size
  replace bel := bel.trans (b1.mono bel.size)
  clear b1 hgs hl1 t1 s28
  go_wp2_with fail
  with_reducible refine (u16_one g _ false _ hr).mono ?_
  rintro e w2 ⟨rfl, hr, g2⟩
  replace hp := (g2.block w.heap.size zp (by have := HG.out; simp; omega)).trans hp
  replace zp := Nat.lt_of_lt_of_le zp g2.size
  replace bel := bel.grown g2 bel.size (fun k h => by cases h; exact Nat.le_of_lt HG.out)
  clear g2
  go_wp2_with fail
  with_reducible refine (u16_2048 g _ false _ hr).mono ?_
  rintro e w3 ⟨rfl, hr, g3⟩
  replace hp := (g3.block w.heap.size zp (by have := HG.out; simp; omega)).trans hp
  replace zp := Nat.lt_of_lt_of_le zp g3.size
  replace bel := bel.grown g3 bel.size (fun k h => by cases h; exact Nat.le_of_lt HG.out)
  clear g3
  go_wp2_with fail
  with_reducible refine (u8_six g _ false _ hr).mono ?_
  rintro e w4 ⟨rfl, hr, g4⟩
  replace hp := (g4.block w.heap.size zp (by have := HG.out; simp; omega)).trans hp
  replace zp := Nat.lt_of_lt_of_le zp g4.size
  replace bel := bel.grown g4 bel.size (fun k h => by cases h; exact Nat.le_of_lt HG.out)
  clear g4
  go_wp2_with fail
  with_reducible refine (u8_four g _ false _ hr).mono ?_
  rintro e w5 ⟨rfl, hr, g5⟩
  replace hp := (g5.block w.heap.size zp (by have := HG.out; simp; omega)).trans hp
  replace zp := Nat.lt_of_lt_of_le zp g5.size
  replace bel := bel.grown g5 bel.size (fun k h => by cases h; exact Nat.le_of_lt HG.out)
  clear g5
  go_wp2_with fail
  with_reducible refine (u16_two g x y _ false _ hr).mono ?_
  rintro e w6 ⟨rfl, hr, g6⟩
  replace hp := (g6.block w.heap.size zp (by have := HG.out; simp; omega)).trans hp
  replace zp := Nat.lt_of_lt_of_le zp g6.size
  replace bel := bel.grown g6 bel.size (fun k h => by cases h; exact Nat.le_of_lt HG.out)
  clear g6
  rw [htt.out]
  go_wp2_with fail
  with_reducible refine (amac_any g a0 a1 a2 a3 a4 a5 _ false _ hr).mono ?_
  rintro e w7 ⟨rfl, hr, g7⟩
  replace hp := (g7.block w.heap.size zp (by have := HG.out; simp; omega)).trans hp
  replace zp := Nat.lt_of_lt_of_le zp g7.size
  replace bel := bel.grown g7 bel.size (fun k h => by cases h; exact Nat.le_of_lt HG.out)
  clear g7
  go_wp2_with fail
  with_reducible refine (aaddr_any g p0 p1 p2 p3 _ false _ hr).mono ?_
  rintro e w8 ⟨rfl, hr, g8⟩
  replace hp := (g8.block w.heap.size zp (by have := HG.out; simp; omega)).trans hp
  replace zp := Nat.lt_of_lt_of_le zp g8.size
  replace bel := bel.grown g8 bel.size (fun k h => by cases h; exact Nat.le_of_lt HG.out)
  clear g8
  go_wp2_with fail
  with_reducible refine (amac_any g m0 m1 m2 m3 m4 m5 _ false _ hr).mono ?_
  rintro e w9 ⟨rfl, hr, g9⟩
  replace hp := (g9.block w.heap.size zp (by have := HG.out; simp; omega)).trans hp
  replace zp := Nat.lt_of_lt_of_le zp g9.size
  replace bel := bel.grown g9 bel.size (fun k h => by cases h; exact Nat.le_of_lt HG.out)
  clear g9
  go_wp2_with fail
  with_reducible refine (aaddr_any g d0 d1 d2 d3 _ false _ hr).mono ?_
  rintro e w10 ⟨rfl, hr, g10⟩
  replace hp := (g10.block w.heap.size zp (by have := HG.out; simp; omega)).trans hp
  replace zp := Nat.lt_of_lt_of_le zp g10.size
  replace bel := bel.grown g10 bel.size (fun k h => by cases h; exact Nat.le_of_lt HG.out)
  clear g10
  have hq := heap_alloc_new w10 (.cells #[.int .i64 0, .int .u8 0, .int .u8 0, .int .u8 0, .int .u8 0, .int .u8 0, .int .u8 0, .int .u8 0, .int .u8 0, .int .u8 0, .int .u8 0, .int .u8 0, .int .u8 0, .int .u8 0, .int .u8 0, .int .u8 0, .int .u8 0, .int .u8 0, .int .u8 0, .int .u8 0, .int .u8 0] 28)
  have bq := (Below.refl w10.heap.size w10).alloc (Nat.le_refl _) (.cells #[.int .i64 0, .int .u8 0, .int .u8 0, .int .u8 0, .int .u8 0, .int .u8 0, .int .u8 0, .int .u8 0, .int .u8 0, .int .u8 0, .int .u8 0, .int .u8 0, .int .u8 0, .int .u8 0, .int .u8 0, .int .u8 0, .int .u8 0, .int .u8 0, .int .u8 0, .int .u8 0, .int .u8 0] 28)
  replace hp := (bq.block _ zp).trans hp
  replace bel := bel.trans (bq.mono bel.size)
  have zpq : w.heap.size < w10.heap.size := zp
  replace zp := Nat.lt_of_lt_of_le zp bq.size
  clear bq hr
  go_wp2_with (refine wpList_store_blk rfl 28 _ _ rfl w10.heap.size rfl _ rfl _ 28 hq (by rfl) (by kernel_rfl) (by kernel_rfl) ?_; intro wq hbq hgq; replace bel := below_grown bel hgq (Nat.le_of_lt zpq) bel.size; replace hp := (hgq.block w.heap.size zp (by simp; omega)).trans hp; have q0 := cell_lit hbq 0 _ rfl; clear hgq hq zpq zp)
  with_reducible refine (knownOp_any _ _).mono ?_
  rintro e _ ⟨rfl, rfl⟩
  rw [hop]
  go_wp2_with (first | (refine wpList_load_row rfl 28 _ rfl w10.heap.size rfl _ _ _ _ hbq Try.underlying28 rfl (by kernel_rfl) ?_) | (refine wpList_store_blk rfl 28 _ _ rfl w.heap.size rfl _ rfl _ 28 hp (by rfl) (by kernel_rfl) (by kernel_rfl) ?_; intro wz hbz hgz; replace bel := below_grown bel hgz (Nat.le_refl _) bel.size; clear hgz hp))
  go_wp2
  exact bodyPost_ret (results_cell_tmp_row rfl _ _ w.heap.size _ _ _ _ rfl hbz Try.underlying28 rfl (by kernel_rfl) _ rfl) rfl ⟨rfl, bel⟩
end Go.Proofs.Ytekjjknpifpkiaa
