/- Layer 4: EtherSays' walk. -/
import Derived.Test.YtgaobeoddlmnjaaAwk4
namespace Go.Proofs.Ytgaobeoddlmnjaa
open Go.RowKit

set_option maxRecDepth 100000 in
set_option maxHeartbeats 16000000 in
theorem etherSays_long (A : Option Addr) (n c : Nat) (a0 a1 a2 a3 a4 a5 m0 m1 m2 m3 m4 m5 : UInt8) (t : Int) (S : Option Addr) (k d : Nat) (p0 p1 p2 p3 p4 p5 : UInt8) (w : World) (h : 1600 < n) : Calls Try.prog 4 #[.slice A n c, .agg #[.int .u8 (a0.toNat : Int), .int .u8 (a1.toNat : Int), .int .u8 (a2.toNat : Int), .int .u8 (a3.toNat : Int), .int .u8 (a4.toNat : Int), .int .u8 (a5.toNat : Int), .int .u8 (m0.toNat : Int), .int .u8 (m1.toNat : Int), .int .u8 (m2.toNat : Int), .int .u8 (m3.toNat : Int), .int .u8 (m4.toNat : Int), .int .u8 (m5.toNat : Int), .int .i64 t, .slice S k d], .agg #[.int .u8 (p0.toNat : Int), .int .u8 (p1.toNat : Int), .int .u8 (p2.toNat : Int), .int .u8 (p3.toNat : Int), .int .u8 (p4.toNat : Int), .int .u8 (p5.toNat : Int)]] w fun e w' => e = .returned (.bool true) ∧ Below w.heap.size w w' := by
  have bel := Below.refl w.heap.size w
  have t1 : (1600 : Int) < n := by omega
  clear h
  have hf := heap_alloc_new w (.cells #[.int .u8 (a0.toNat : Int), .int .u8 (a1.toNat : Int), .int .u8 (a2.toNat : Int), .int .u8 (a3.toNat : Int), .int .u8 (a4.toNat : Int), .int .u8 (a5.toNat : Int), .int .u8 (m0.toNat : Int), .int .u8 (m1.toNat : Int), .int .u8 (m2.toNat : Int), .int .u8 (m3.toNat : Int), .int .u8 (m4.toNat : Int), .int .u8 (m5.toNat : Int), .int .i64 t, .slice S k d] 27)
  have zf : w.heap.size < (w.alloc (.cells #[.int .u8 (a0.toNat : Int), .int .u8 (a1.toNat : Int), .int .u8 (a2.toNat : Int), .int .u8 (a3.toNat : Int), .int .u8 (a4.toNat : Int), .int .u8 (a5.toNat : Int), .int .u8 (m0.toNat : Int), .int .u8 (m1.toNat : Int), .int .u8 (m2.toNat : Int), .int .u8 (m3.toNat : Int), .int .u8 (m4.toNat : Int), .int .u8 (m5.toNat : Int), .int .i64 t, .slice S k d] 27)).heap.size := by simp
  replace bel := bel.alloc bel.size (.cells #[.int .u8 (a0.toNat : Int), .int .u8 (a1.toNat : Int), .int .u8 (a2.toNat : Int), .int .u8 (a3.toNat : Int), .int .u8 (a4.toNat : Int), .int .u8 (a5.toNat : Int), .int .u8 (m0.toNat : Int), .int .u8 (m1.toNat : Int), .int .u8 (m2.toNat : Int), .int .u8 (m3.toNat : Int), .int .u8 (m4.toNat : Int), .int .u8 (m5.toNat : Int), .int .i64 t, .slice S k d] 27)
  replace hf := (Go.heap_alloc_old (w.alloc (.cells #[.int .u8 (a0.toNat : Int), .int .u8 (a1.toNat : Int), .int .u8 (a2.toNat : Int), .int .u8 (a3.toNat : Int), .int .u8 (a4.toNat : Int), .int .u8 (a5.toNat : Int), .int .u8 (m0.toNat : Int), .int .u8 (m1.toNat : Int), .int .u8 (m2.toNat : Int), .int .u8 (m3.toNat : Int), .int .u8 (m4.toNat : Int), .int .u8 (m5.toNat : Int), .int .i64 t, .slice S k d] 27)) (.cells #[.int .u8 (p0.toNat : Int), .int .u8 (p1.toNat : Int), .int .u8 (p2.toNat : Int), .int .u8 (p3.toNat : Int), .int .u8 (p4.toNat : Int), .int .u8 (p5.toNat : Int)] 24) (r := w.heap.size) zf).trans hf
  have hp : ((w.alloc (.cells #[.int .u8 (a0.toNat : Int), .int .u8 (a1.toNat : Int), .int .u8 (a2.toNat : Int), .int .u8 (a3.toNat : Int), .int .u8 (a4.toNat : Int), .int .u8 (a5.toNat : Int), .int .u8 (m0.toNat : Int), .int .u8 (m1.toNat : Int), .int .u8 (m2.toNat : Int), .int .u8 (m3.toNat : Int), .int .u8 (m4.toNat : Int), .int .u8 (m5.toNat : Int), .int .i64 t, .slice S k d] 27)).alloc (.cells #[.int .u8 (p0.toNat : Int), .int .u8 (p1.toNat : Int), .int .u8 (p2.toNat : Int), .int .u8 (p3.toNat : Int), .int .u8 (p4.toNat : Int), .int .u8 (p5.toNat : Int)] 24)).heap[w.heap.size + 1]? = some (.cells #[.int .u8 (p0.toNat : Int), .int .u8 (p1.toNat : Int), .int .u8 (p2.toNat : Int), .int .u8 (p3.toNat : Int), .int .u8 (p4.toNat : Int), .int .u8 (p5.toNat : Int)] 24 (0, 0)) := by have := heap_alloc_new (w.alloc (.cells #[.int .u8 (a0.toNat : Int), .int .u8 (a1.toNat : Int), .int .u8 (a2.toNat : Int), .int .u8 (a3.toNat : Int), .int .u8 (a4.toNat : Int), .int .u8 (a5.toNat : Int), .int .u8 (m0.toNat : Int), .int .u8 (m1.toNat : Int), .int .u8 (m2.toNat : Int), .int .u8 (m3.toNat : Int), .int .u8 (m4.toNat : Int), .int .u8 (m5.toNat : Int), .int .i64 t, .slice S k d] 27)) (.cells #[.int .u8 (p0.toNat : Int), .int .u8 (p1.toNat : Int), .int .u8 (p2.toNat : Int), .int .u8 (p3.toNat : Int), .int .u8 (p4.toNat : Int), .int .u8 (p5.toNat : Int)] 24); simpa using this
  replace zf := Nat.lt_trans zf (show (w.alloc (.cells #[.int .u8 (a0.toNat : Int), .int .u8 (a1.toNat : Int), .int .u8 (a2.toNat : Int), .int .u8 (a3.toNat : Int), .int .u8 (a4.toNat : Int), .int .u8 (a5.toNat : Int), .int .u8 (m0.toNat : Int), .int .u8 (m1.toNat : Int), .int .u8 (m2.toNat : Int), .int .u8 (m3.toNat : Int), .int .u8 (m4.toNat : Int), .int .u8 (m5.toNat : Int), .int .i64 t, .slice S k d] 27)).heap.size < ((w.alloc (.cells #[.int .u8 (a0.toNat : Int), .int .u8 (a1.toNat : Int), .int .u8 (a2.toNat : Int), .int .u8 (a3.toNat : Int), .int .u8 (a4.toNat : Int), .int .u8 (a5.toNat : Int), .int .u8 (m0.toNat : Int), .int .u8 (m1.toNat : Int), .int .u8 (m2.toNat : Int), .int .u8 (m3.toNat : Int), .int .u8 (m4.toNat : Int), .int .u8 (m5.toNat : Int), .int .i64 t, .slice S k d] 27)).alloc (.cells #[.int .u8 (p0.toNat : Int), .int .u8 (p1.toNat : Int), .int .u8 (p2.toNat : Int), .int .u8 (p3.toNat : Int), .int .u8 (p4.toNat : Int), .int .u8 (p5.toNat : Int)] 24)).heap.size by simp)
  have zp : w.heap.size + 1 < ((w.alloc (.cells #[.int .u8 (a0.toNat : Int), .int .u8 (a1.toNat : Int), .int .u8 (a2.toNat : Int), .int .u8 (a3.toNat : Int), .int .u8 (a4.toNat : Int), .int .u8 (a5.toNat : Int), .int .u8 (m0.toNat : Int), .int .u8 (m1.toNat : Int), .int .u8 (m2.toNat : Int), .int .u8 (m3.toNat : Int), .int .u8 (m4.toNat : Int), .int .u8 (m5.toNat : Int), .int .i64 t, .slice S k d] 27)).alloc (.cells #[.int .u8 (p0.toNat : Int), .int .u8 (p1.toNat : Int), .int .u8 (p2.toNat : Int), .int .u8 (p3.toNat : Int), .int .u8 (p4.toNat : Int), .int .u8 (p5.toNat : Int)] 24)).heap.size := by simp
  replace bel := bel.alloc bel.size (.cells #[.int .u8 (p0.toNat : Int), .int .u8 (p1.toNat : Int), .int .u8 (p2.toNat : Int), .int .u8 (p3.toNat : Int), .int .u8 (p4.toNat : Int), .int .u8 (p5.toNat : Int)] 24)
  go_enter Try.func4, Try.ntmps4
  go_wp2_with fail
  with_reducible refine (awake4 _).mono ?_
  rintro e w1 ⟨rfl, b1⟩
  replace hf := (b1.block _ zf).trans hf
  replace zf := Nat.lt_of_lt_of_le zf b1.size
  replace hp := (b1.block _ zp).trans hp
  replace zp := Nat.lt_of_lt_of_le zp b1.size
  replace bel := bel.trans (b1.mono bel.size)
  clear b1
  obtain ⟨⟨cf0, cf1, cf2, cf3, cf4, cf5, cf6, cf7, cf8, cf9, cf10, cf11, cf12, cf13⟩, _⟩ := cells14 hf
  clear hf hp
  go_wp2
  go_ret
  exact ⟨rfl, bel⟩

set_option maxRecDepth 100000 in
set_option maxHeartbeats 16000000 in
theorem etherSays_body (A : Option Addr) (n c : Nat) (a0 a1 a2 a3 a4 a5 m0 m1 m2 m3 m4 m5 : UInt8) (t : Int) (S : Option Addr) (k d : Nat) (p0 p1 p2 p3 p4 p5 : UInt8) (w : World) (h : n ≤ 1600) (h2 : 1600 < k) : Calls Try.prog 4 #[.slice A n c, .agg #[.int .u8 (a0.toNat : Int), .int .u8 (a1.toNat : Int), .int .u8 (a2.toNat : Int), .int .u8 (a3.toNat : Int), .int .u8 (a4.toNat : Int), .int .u8 (a5.toNat : Int), .int .u8 (m0.toNat : Int), .int .u8 (m1.toNat : Int), .int .u8 (m2.toNat : Int), .int .u8 (m3.toNat : Int), .int .u8 (m4.toNat : Int), .int .u8 (m5.toNat : Int), .int .i64 t, .slice S k d], .agg #[.int .u8 (p0.toNat : Int), .int .u8 (p1.toNat : Int), .int .u8 (p2.toNat : Int), .int .u8 (p3.toNat : Int), .int .u8 (p4.toNat : Int), .int .u8 (p5.toNat : Int)]] w fun e w' => e = .returned (.bool true) ∧ Below w.heap.size w w' := by
  have bel := Below.refl w.heap.size w
  have t1 : decide ((1600 : Int) < n) = false := decide_eq_false (by omega)
  have t2 : (1600 : Int) < k := by omega
  clear h h2
  have hf := heap_alloc_new w (.cells #[.int .u8 (a0.toNat : Int), .int .u8 (a1.toNat : Int), .int .u8 (a2.toNat : Int), .int .u8 (a3.toNat : Int), .int .u8 (a4.toNat : Int), .int .u8 (a5.toNat : Int), .int .u8 (m0.toNat : Int), .int .u8 (m1.toNat : Int), .int .u8 (m2.toNat : Int), .int .u8 (m3.toNat : Int), .int .u8 (m4.toNat : Int), .int .u8 (m5.toNat : Int), .int .i64 t, .slice S k d] 27)
  have zf : w.heap.size < (w.alloc (.cells #[.int .u8 (a0.toNat : Int), .int .u8 (a1.toNat : Int), .int .u8 (a2.toNat : Int), .int .u8 (a3.toNat : Int), .int .u8 (a4.toNat : Int), .int .u8 (a5.toNat : Int), .int .u8 (m0.toNat : Int), .int .u8 (m1.toNat : Int), .int .u8 (m2.toNat : Int), .int .u8 (m3.toNat : Int), .int .u8 (m4.toNat : Int), .int .u8 (m5.toNat : Int), .int .i64 t, .slice S k d] 27)).heap.size := by simp
  replace bel := bel.alloc bel.size (.cells #[.int .u8 (a0.toNat : Int), .int .u8 (a1.toNat : Int), .int .u8 (a2.toNat : Int), .int .u8 (a3.toNat : Int), .int .u8 (a4.toNat : Int), .int .u8 (a5.toNat : Int), .int .u8 (m0.toNat : Int), .int .u8 (m1.toNat : Int), .int .u8 (m2.toNat : Int), .int .u8 (m3.toNat : Int), .int .u8 (m4.toNat : Int), .int .u8 (m5.toNat : Int), .int .i64 t, .slice S k d] 27)
  replace hf := (Go.heap_alloc_old (w.alloc (.cells #[.int .u8 (a0.toNat : Int), .int .u8 (a1.toNat : Int), .int .u8 (a2.toNat : Int), .int .u8 (a3.toNat : Int), .int .u8 (a4.toNat : Int), .int .u8 (a5.toNat : Int), .int .u8 (m0.toNat : Int), .int .u8 (m1.toNat : Int), .int .u8 (m2.toNat : Int), .int .u8 (m3.toNat : Int), .int .u8 (m4.toNat : Int), .int .u8 (m5.toNat : Int), .int .i64 t, .slice S k d] 27)) (.cells #[.int .u8 (p0.toNat : Int), .int .u8 (p1.toNat : Int), .int .u8 (p2.toNat : Int), .int .u8 (p3.toNat : Int), .int .u8 (p4.toNat : Int), .int .u8 (p5.toNat : Int)] 24) (r := w.heap.size) zf).trans hf
  have hp : ((w.alloc (.cells #[.int .u8 (a0.toNat : Int), .int .u8 (a1.toNat : Int), .int .u8 (a2.toNat : Int), .int .u8 (a3.toNat : Int), .int .u8 (a4.toNat : Int), .int .u8 (a5.toNat : Int), .int .u8 (m0.toNat : Int), .int .u8 (m1.toNat : Int), .int .u8 (m2.toNat : Int), .int .u8 (m3.toNat : Int), .int .u8 (m4.toNat : Int), .int .u8 (m5.toNat : Int), .int .i64 t, .slice S k d] 27)).alloc (.cells #[.int .u8 (p0.toNat : Int), .int .u8 (p1.toNat : Int), .int .u8 (p2.toNat : Int), .int .u8 (p3.toNat : Int), .int .u8 (p4.toNat : Int), .int .u8 (p5.toNat : Int)] 24)).heap[w.heap.size + 1]? = some (.cells #[.int .u8 (p0.toNat : Int), .int .u8 (p1.toNat : Int), .int .u8 (p2.toNat : Int), .int .u8 (p3.toNat : Int), .int .u8 (p4.toNat : Int), .int .u8 (p5.toNat : Int)] 24 (0, 0)) := by have := heap_alloc_new (w.alloc (.cells #[.int .u8 (a0.toNat : Int), .int .u8 (a1.toNat : Int), .int .u8 (a2.toNat : Int), .int .u8 (a3.toNat : Int), .int .u8 (a4.toNat : Int), .int .u8 (a5.toNat : Int), .int .u8 (m0.toNat : Int), .int .u8 (m1.toNat : Int), .int .u8 (m2.toNat : Int), .int .u8 (m3.toNat : Int), .int .u8 (m4.toNat : Int), .int .u8 (m5.toNat : Int), .int .i64 t, .slice S k d] 27)) (.cells #[.int .u8 (p0.toNat : Int), .int .u8 (p1.toNat : Int), .int .u8 (p2.toNat : Int), .int .u8 (p3.toNat : Int), .int .u8 (p4.toNat : Int), .int .u8 (p5.toNat : Int)] 24); simpa using this
  replace zf := Nat.lt_trans zf (show (w.alloc (.cells #[.int .u8 (a0.toNat : Int), .int .u8 (a1.toNat : Int), .int .u8 (a2.toNat : Int), .int .u8 (a3.toNat : Int), .int .u8 (a4.toNat : Int), .int .u8 (a5.toNat : Int), .int .u8 (m0.toNat : Int), .int .u8 (m1.toNat : Int), .int .u8 (m2.toNat : Int), .int .u8 (m3.toNat : Int), .int .u8 (m4.toNat : Int), .int .u8 (m5.toNat : Int), .int .i64 t, .slice S k d] 27)).heap.size < ((w.alloc (.cells #[.int .u8 (a0.toNat : Int), .int .u8 (a1.toNat : Int), .int .u8 (a2.toNat : Int), .int .u8 (a3.toNat : Int), .int .u8 (a4.toNat : Int), .int .u8 (a5.toNat : Int), .int .u8 (m0.toNat : Int), .int .u8 (m1.toNat : Int), .int .u8 (m2.toNat : Int), .int .u8 (m3.toNat : Int), .int .u8 (m4.toNat : Int), .int .u8 (m5.toNat : Int), .int .i64 t, .slice S k d] 27)).alloc (.cells #[.int .u8 (p0.toNat : Int), .int .u8 (p1.toNat : Int), .int .u8 (p2.toNat : Int), .int .u8 (p3.toNat : Int), .int .u8 (p4.toNat : Int), .int .u8 (p5.toNat : Int)] 24)).heap.size by simp)
  have zp : w.heap.size + 1 < ((w.alloc (.cells #[.int .u8 (a0.toNat : Int), .int .u8 (a1.toNat : Int), .int .u8 (a2.toNat : Int), .int .u8 (a3.toNat : Int), .int .u8 (a4.toNat : Int), .int .u8 (a5.toNat : Int), .int .u8 (m0.toNat : Int), .int .u8 (m1.toNat : Int), .int .u8 (m2.toNat : Int), .int .u8 (m3.toNat : Int), .int .u8 (m4.toNat : Int), .int .u8 (m5.toNat : Int), .int .i64 t, .slice S k d] 27)).alloc (.cells #[.int .u8 (p0.toNat : Int), .int .u8 (p1.toNat : Int), .int .u8 (p2.toNat : Int), .int .u8 (p3.toNat : Int), .int .u8 (p4.toNat : Int), .int .u8 (p5.toNat : Int)] 24)).heap.size := by simp
  replace bel := bel.alloc bel.size (.cells #[.int .u8 (p0.toNat : Int), .int .u8 (p1.toNat : Int), .int .u8 (p2.toNat : Int), .int .u8 (p3.toNat : Int), .int .u8 (p4.toNat : Int), .int .u8 (p5.toNat : Int)] 24)
  go_enter Try.func4, Try.ntmps4
  go_wp2_with fail
  with_reducible refine (awake4 _).mono ?_
  rintro e w1 ⟨rfl, b1⟩
  replace hf := (b1.block _ zf).trans hf
  replace zf := Nat.lt_of_lt_of_le zf b1.size
  replace hp := (b1.block _ zp).trans hp
  replace zp := Nat.lt_of_lt_of_le zp b1.size
  replace bel := bel.trans (b1.mono bel.size)
  clear b1
  obtain ⟨⟨cf0, cf1, cf2, cf3, cf4, cf5, cf6, cf7, cf8, cf9, cf10, cf11, cf12, cf13⟩, _⟩ := cells14 hf
  clear hf hp
  go_wp2
  go_ret
  exact ⟨rfl, bel⟩

set_option maxRecDepth 100000 in
set_option maxHeartbeats 16000000 in
theorem etherSays_in (A : Option Addr) (n c : Nat) (l : List UInt8) (a0 a1 a2 a3 a4 a5 m0 m1 m2 m3 m4 m5 : UInt8) (t : Int) (S : Option Addr) (k d : Nat) (lf : List UInt8) (p0 p1 p2 p3 p4 p5 : UInt8) (w : World) (hl : Sl w A n c l) (hs : Sl w S k d lf) (h : n ≤ 1600) (h2 : k ≤ 1600) : Calls Try.prog 4 #[.slice A n c, .agg #[.int .u8 (a0.toNat : Int), .int .u8 (a1.toNat : Int), .int .u8 (a2.toNat : Int), .int .u8 (a3.toNat : Int), .int .u8 (a4.toNat : Int), .int .u8 (a5.toNat : Int), .int .u8 (m0.toNat : Int), .int .u8 (m1.toNat : Int), .int .u8 (m2.toNat : Int), .int .u8 (m3.toNat : Int), .int .u8 (m4.toNat : Int), .int .u8 (m5.toNat : Int), .int .i64 t, .slice S k d], .agg #[.int .u8 (p0.toNat : Int), .int .u8 (p1.toNat : Int), .int .u8 (p2.toNat : Int), .int .u8 (p3.toNat : Int), .int .u8 (p4.toNat : Int), .int .u8 (p5.toNat : Int)]] w fun e w' => e = .returned (.bool true) ∧ Below w.heap.size w w' := by
  have bel := Below.refl w.heap.size w
  obtain ⟨ii, hii, hz0, hz1, hz2⟩ := info_parts Try.info5
  have t1 : decide ((1600 : Int) < n) = false := decide_eq_false (by omega)
  have t2 : decide ((1600 : Int) < k) = false := decide_eq_false (by omega)
  have HN := Lib.hid h; have HK := Lib.hid h2
  clear h h2
  have hf := heap_alloc_new w (.cells #[.int .u8 (a0.toNat : Int), .int .u8 (a1.toNat : Int), .int .u8 (a2.toNat : Int), .int .u8 (a3.toNat : Int), .int .u8 (a4.toNat : Int), .int .u8 (a5.toNat : Int), .int .u8 (m0.toNat : Int), .int .u8 (m1.toNat : Int), .int .u8 (m2.toNat : Int), .int .u8 (m3.toNat : Int), .int .u8 (m4.toNat : Int), .int .u8 (m5.toNat : Int), .int .i64 t, .slice S k d] 27)
  have zf : w.heap.size < (w.alloc (.cells #[.int .u8 (a0.toNat : Int), .int .u8 (a1.toNat : Int), .int .u8 (a2.toNat : Int), .int .u8 (a3.toNat : Int), .int .u8 (a4.toNat : Int), .int .u8 (a5.toNat : Int), .int .u8 (m0.toNat : Int), .int .u8 (m1.toNat : Int), .int .u8 (m2.toNat : Int), .int .u8 (m3.toNat : Int), .int .u8 (m4.toNat : Int), .int .u8 (m5.toNat : Int), .int .i64 t, .slice S k d] 27)).heap.size := by simp
  replace bel := bel.alloc bel.size (.cells #[.int .u8 (a0.toNat : Int), .int .u8 (a1.toNat : Int), .int .u8 (a2.toNat : Int), .int .u8 (a3.toNat : Int), .int .u8 (a4.toNat : Int), .int .u8 (a5.toNat : Int), .int .u8 (m0.toNat : Int), .int .u8 (m1.toNat : Int), .int .u8 (m2.toNat : Int), .int .u8 (m3.toNat : Int), .int .u8 (m4.toNat : Int), .int .u8 (m5.toNat : Int), .int .i64 t, .slice S k d] 27)
  replace hf := (Go.heap_alloc_old (w.alloc (.cells #[.int .u8 (a0.toNat : Int), .int .u8 (a1.toNat : Int), .int .u8 (a2.toNat : Int), .int .u8 (a3.toNat : Int), .int .u8 (a4.toNat : Int), .int .u8 (a5.toNat : Int), .int .u8 (m0.toNat : Int), .int .u8 (m1.toNat : Int), .int .u8 (m2.toNat : Int), .int .u8 (m3.toNat : Int), .int .u8 (m4.toNat : Int), .int .u8 (m5.toNat : Int), .int .i64 t, .slice S k d] 27)) (.cells #[.int .u8 (p0.toNat : Int), .int .u8 (p1.toNat : Int), .int .u8 (p2.toNat : Int), .int .u8 (p3.toNat : Int), .int .u8 (p4.toNat : Int), .int .u8 (p5.toNat : Int)] 24) (r := w.heap.size) zf).trans hf
  have hp : ((w.alloc (.cells #[.int .u8 (a0.toNat : Int), .int .u8 (a1.toNat : Int), .int .u8 (a2.toNat : Int), .int .u8 (a3.toNat : Int), .int .u8 (a4.toNat : Int), .int .u8 (a5.toNat : Int), .int .u8 (m0.toNat : Int), .int .u8 (m1.toNat : Int), .int .u8 (m2.toNat : Int), .int .u8 (m3.toNat : Int), .int .u8 (m4.toNat : Int), .int .u8 (m5.toNat : Int), .int .i64 t, .slice S k d] 27)).alloc (.cells #[.int .u8 (p0.toNat : Int), .int .u8 (p1.toNat : Int), .int .u8 (p2.toNat : Int), .int .u8 (p3.toNat : Int), .int .u8 (p4.toNat : Int), .int .u8 (p5.toNat : Int)] 24)).heap[w.heap.size + 1]? = some (.cells #[.int .u8 (p0.toNat : Int), .int .u8 (p1.toNat : Int), .int .u8 (p2.toNat : Int), .int .u8 (p3.toNat : Int), .int .u8 (p4.toNat : Int), .int .u8 (p5.toNat : Int)] 24 (0, 0)) := by have := heap_alloc_new (w.alloc (.cells #[.int .u8 (a0.toNat : Int), .int .u8 (a1.toNat : Int), .int .u8 (a2.toNat : Int), .int .u8 (a3.toNat : Int), .int .u8 (a4.toNat : Int), .int .u8 (a5.toNat : Int), .int .u8 (m0.toNat : Int), .int .u8 (m1.toNat : Int), .int .u8 (m2.toNat : Int), .int .u8 (m3.toNat : Int), .int .u8 (m4.toNat : Int), .int .u8 (m5.toNat : Int), .int .i64 t, .slice S k d] 27)) (.cells #[.int .u8 (p0.toNat : Int), .int .u8 (p1.toNat : Int), .int .u8 (p2.toNat : Int), .int .u8 (p3.toNat : Int), .int .u8 (p4.toNat : Int), .int .u8 (p5.toNat : Int)] 24); simpa using this
  replace zf := Nat.lt_trans zf (show (w.alloc (.cells #[.int .u8 (a0.toNat : Int), .int .u8 (a1.toNat : Int), .int .u8 (a2.toNat : Int), .int .u8 (a3.toNat : Int), .int .u8 (a4.toNat : Int), .int .u8 (a5.toNat : Int), .int .u8 (m0.toNat : Int), .int .u8 (m1.toNat : Int), .int .u8 (m2.toNat : Int), .int .u8 (m3.toNat : Int), .int .u8 (m4.toNat : Int), .int .u8 (m5.toNat : Int), .int .i64 t, .slice S k d] 27)).heap.size < ((w.alloc (.cells #[.int .u8 (a0.toNat : Int), .int .u8 (a1.toNat : Int), .int .u8 (a2.toNat : Int), .int .u8 (a3.toNat : Int), .int .u8 (a4.toNat : Int), .int .u8 (a5.toNat : Int), .int .u8 (m0.toNat : Int), .int .u8 (m1.toNat : Int), .int .u8 (m2.toNat : Int), .int .u8 (m3.toNat : Int), .int .u8 (m4.toNat : Int), .int .u8 (m5.toNat : Int), .int .i64 t, .slice S k d] 27)).alloc (.cells #[.int .u8 (p0.toNat : Int), .int .u8 (p1.toNat : Int), .int .u8 (p2.toNat : Int), .int .u8 (p3.toNat : Int), .int .u8 (p4.toNat : Int), .int .u8 (p5.toNat : Int)] 24)).heap.size by simp)
  have zp : w.heap.size + 1 < ((w.alloc (.cells #[.int .u8 (a0.toNat : Int), .int .u8 (a1.toNat : Int), .int .u8 (a2.toNat : Int), .int .u8 (a3.toNat : Int), .int .u8 (a4.toNat : Int), .int .u8 (a5.toNat : Int), .int .u8 (m0.toNat : Int), .int .u8 (m1.toNat : Int), .int .u8 (m2.toNat : Int), .int .u8 (m3.toNat : Int), .int .u8 (m4.toNat : Int), .int .u8 (m5.toNat : Int), .int .i64 t, .slice S k d] 27)).alloc (.cells #[.int .u8 (p0.toNat : Int), .int .u8 (p1.toNat : Int), .int .u8 (p2.toNat : Int), .int .u8 (p3.toNat : Int), .int .u8 (p4.toNat : Int), .int .u8 (p5.toNat : Int)] 24)).heap.size := by simp
  replace bel := bel.alloc bel.size (.cells #[.int .u8 (p0.toNat : Int), .int .u8 (p1.toNat : Int), .int .u8 (p2.toNat : Int), .int .u8 (p3.toNat : Int), .int .u8 (p4.toNat : Int), .int .u8 (p5.toNat : Int)] 24)
  replace hl := hl.below bel
  replace hs := hs.below bel
  go_enter Try.func4, Try.ntmps4
  go_wp2_with fail
  with_reducible refine (awake4 _).mono ?_
  rintro e w1 ⟨rfl, b1⟩
  replace hl := hl.below b1
  replace hs := hs.below b1
  replace hf := (b1.block _ zf).trans hf
  replace zf := Nat.lt_of_lt_of_le zf b1.size
  replace hp := (b1.block _ zp).trans hp
  replace zp := Nat.lt_of_lt_of_le zp b1.size
  replace bel := bel.trans (b1.mono bel.size)
  clear b1
  obtain ⟨⟨cf0, cf1, cf2, cf3, cf4, cf5, cf6, cf7, cf8, cf9, cf10, cf11, cf12, cf13⟩, _⟩ := cells14 hf
  have ho := own_empty w1
  have bo := (Below.refl w1.heap.size w1).alloc (Nat.le_refl _) (.cells #[] 5)
  have ho2 := hl.below bo
  go_wp2_with (at_builtin; refine wpList_append_bytes _ rfl (.tmp 27) (.tmp 28) 25 rfl w1.heap.size 5 ii (.int .u8 0) Try.underlying25 hii hz0 hz1 hz2 rfl _ 0 [] rfl ho A n c l rfl ho2 (by have := HN.out; omega) bo.size ?_)
  intro v2 w2 hown hg hat
  obtain ⟨bo2, _, _⟩ := own_grown bo bo.size (fun k h => by simp [Value.ownBlock] at h; omega) hg (by simpa using hat)
  replace hown : w2.ownsRow w1.heap.size 5 1 v2 n (l.map u8v) := by simpa using hown
  obtain ⟨A2, c2, rfl, s2⟩ := Sl.of_own hown
  clear hown hg hat ho ho2 bo cf0 cf1 cf2 cf3 cf4 cf5 cf6 cf7 cf8 cf9 cf10 cf11 cf12 cf13
  replace hl := hl.below bo2
  replace hs := hs.below bo2
  replace hf := (bo2.block _ zf).trans hf
  replace zf := Nat.lt_of_lt_of_le zf bo2.size
  replace hp := (bo2.block _ zp).trans hp
  replace zp := Nat.lt_of_lt_of_le zp bo2.size
  replace bel := bel.trans (bo2.mono bel.size)
  clear bo2
  go_wp2_with fail
  with_reducible refine (eget_any A2 n c2 l _ s2).mono ?_
  rintro e w3 ⟨x0, x1, x2, x3, x4, x5, y0, y1, y2, y3, y4, y5, u, A3, c3, bd, er, rfl, s3, b3, hG⟩
  replace hl := hl.below b3
  replace hs := hs.below b3
  clear s2
  replace hf := (b3.block _ zf).trans hf
  replace zf := Nat.lt_of_lt_of_le zf b3.size
  replace hp := (b3.block _ zp).trans hp
  replace zp := Nat.lt_of_lt_of_le zp b3.size
  replace bel := bel.trans (b3.mono bel.size)
  clear b3
  have bg := (Below.refl w3.heap.size w3).alloc (Nat.le_refl _) (.cells #[.int .u8 (x0.toNat : Int), .int .u8 (x1.toNat : Int), .int .u8 (x2.toNat : Int), .int .u8 (x3.toNat : Int), .int .u8 (x4.toNat : Int), .int .u8 (x5.toNat : Int), .int .u8 (y0.toNat : Int), .int .u8 (y1.toNat : Int), .int .u8 (y2.toNat : Int), .int .u8 (y3.toNat : Int), .int .u8 (y4.toNat : Int), .int .u8 (y5.toNat : Int), .int .i64 u, .slice A3 bd.length c3] 27)
  replace hl := hl.below bg
  replace hs := hs.below bg
  replace s3 := s3.below bg
  clear bg
  have yf := zf
  have yp := zp
  replace hf := (Go.heap_alloc_old w3 (.cells #[.int .u8 (x0.toNat : Int), .int .u8 (x1.toNat : Int), .int .u8 (x2.toNat : Int), .int .u8 (x3.toNat : Int), .int .u8 (x4.toNat : Int), .int .u8 (x5.toNat : Int), .int .u8 (y0.toNat : Int), .int .u8 (y1.toNat : Int), .int .u8 (y2.toNat : Int), .int .u8 (y3.toNat : Int), .int .u8 (y4.toNat : Int), .int .u8 (y5.toNat : Int), .int .i64 u, .slice A3 bd.length c3] 27) (r := w.heap.size) zf).trans hf
  replace hp := (Go.heap_alloc_old w3 (.cells #[.int .u8 (x0.toNat : Int), .int .u8 (x1.toNat : Int), .int .u8 (x2.toNat : Int), .int .u8 (x3.toNat : Int), .int .u8 (x4.toNat : Int), .int .u8 (x5.toNat : Int), .int .u8 (y0.toNat : Int), .int .u8 (y1.toNat : Int), .int .u8 (y2.toNat : Int), .int .u8 (y3.toNat : Int), .int .u8 (y4.toNat : Int), .int .u8 (y5.toNat : Int), .int .i64 u, .slice A3 bd.length c3] 27) (r := w.heap.size + 1) zp).trans hp
  have hg := heap_alloc_new w3 (.cells #[.int .u8 (x0.toNat : Int), .int .u8 (x1.toNat : Int), .int .u8 (x2.toNat : Int), .int .u8 (x3.toNat : Int), .int .u8 (x4.toNat : Int), .int .u8 (x5.toNat : Int), .int .u8 (y0.toNat : Int), .int .u8 (y1.toNat : Int), .int .u8 (y2.toNat : Int), .int .u8 (y3.toNat : Int), .int .u8 (y4.toNat : Int), .int .u8 (y5.toNat : Int), .int .i64 u, .slice A3 bd.length c3] 27)
  replace zf := Nat.lt_trans zf (show w3.heap.size < (w3.alloc (.cells #[.int .u8 (x0.toNat : Int), .int .u8 (x1.toNat : Int), .int .u8 (x2.toNat : Int), .int .u8 (x3.toNat : Int), .int .u8 (x4.toNat : Int), .int .u8 (x5.toNat : Int), .int .u8 (y0.toNat : Int), .int .u8 (y1.toNat : Int), .int .u8 (y2.toNat : Int), .int .u8 (y3.toNat : Int), .int .u8 (y4.toNat : Int), .int .u8 (y5.toNat : Int), .int .i64 u, .slice A3 bd.length c3] 27)).heap.size by simp)
  replace zp := Nat.lt_trans zp (show w3.heap.size < (w3.alloc (.cells #[.int .u8 (x0.toNat : Int), .int .u8 (x1.toNat : Int), .int .u8 (x2.toNat : Int), .int .u8 (x3.toNat : Int), .int .u8 (x4.toNat : Int), .int .u8 (x5.toNat : Int), .int .u8 (y0.toNat : Int), .int .u8 (y1.toNat : Int), .int .u8 (y2.toNat : Int), .int .u8 (y3.toNat : Int), .int .u8 (y4.toNat : Int), .int .u8 (y5.toNat : Int), .int .i64 u, .slice A3 bd.length c3] 27)).heap.size by simp)
  have zg : w3.heap.size < (w3.alloc (.cells #[.int .u8 (x0.toNat : Int), .int .u8 (x1.toNat : Int), .int .u8 (x2.toNat : Int), .int .u8 (x3.toNat : Int), .int .u8 (x4.toNat : Int), .int .u8 (x5.toNat : Int), .int .u8 (y0.toNat : Int), .int .u8 (y1.toNat : Int), .int .u8 (y2.toNat : Int), .int .u8 (y3.toNat : Int), .int .u8 (y4.toNat : Int), .int .u8 (y5.toNat : Int), .int .i64 u, .slice A3 bd.length c3] 27)).heap.size := by simp
  replace bel := bel.alloc bel.size (.cells #[.int .u8 (x0.toNat : Int), .int .u8 (x1.toNat : Int), .int .u8 (x2.toNat : Int), .int .u8 (x3.toNat : Int), .int .u8 (x4.toNat : Int), .int .u8 (x5.toNat : Int), .int .u8 (y0.toNat : Int), .int .u8 (y1.toNat : Int), .int .u8 (y2.toNat : Int), .int .u8 (y3.toNat : Int), .int .u8 (y4.toNat : Int), .int .u8 (y5.toNat : Int), .int .i64 u, .slice A3 bd.length c3] 27)
  go_wp2_with fail
  with_reducible refine (rget_any A n c l _ hl).mono ?_
  rintro e w4 ⟨i0, i1, i2, i3, i4, i5, j0, j1, j2, j3, j4, j5, u2, A4, c4, bd2, er2, rfl, s4, b4, hG2⟩
  clear yf yp
  replace hl := hl.below b4
  replace hs := hs.below b4
  replace s3 := s3.below b4
  have hh := hG2.trans hG.symm
  simp only [Prod.mk.injEq, List.cons.injEq, and_true] at hh
  obtain ⟨⟨⟨rfl, rfl, rfl, rfl, rfl, rfl, rfl, rfl, rfl, rfl, rfl, rfl⟩, rfl⟩, rfl, rfl⟩ := hh
  clear hG hG2 hl
  replace hf := (b4.block _ zf).trans hf
  replace zf := Nat.lt_of_lt_of_le zf b4.size
  replace hp := (b4.block _ zp).trans hp
  replace zp := Nat.lt_of_lt_of_le zp b4.size
  replace hg := (b4.block _ zg).trans hg
  replace zg := Nat.lt_of_lt_of_le zg b4.size
  replace bel := bel.trans (b4.mono bel.size)
  clear b4
  have bg := (Below.refl w4.heap.size w4).alloc (Nat.le_refl _) (.cells #[.int .u8 (i0.toNat : Int), .int .u8 (i1.toNat : Int), .int .u8 (i2.toNat : Int), .int .u8 (i3.toNat : Int), .int .u8 (i4.toNat : Int), .int .u8 (i5.toNat : Int), .int .u8 (j0.toNat : Int), .int .u8 (j1.toNat : Int), .int .u8 (j2.toNat : Int), .int .u8 (j3.toNat : Int), .int .u8 (j4.toNat : Int), .int .u8 (j5.toNat : Int), .int .i64 u2, .slice A4 bd2.length c4] 35)
  replace hs := hs.below bg
  replace s3 := s3.below bg
  replace s4 := s4.below bg
  clear bg
  obtain ⟨⟨cf0, cf1, cf2, cf3, cf4, cf5, cf6, cf7, cf8, cf9, cf10, cf11, cf12, cf13⟩, _⟩ := cells14 hf
  have yf := zf
  have yp := zp
  have yg := zg
  replace hf := (Go.heap_alloc_old w4 (.cells #[.int .u8 (i0.toNat : Int), .int .u8 (i1.toNat : Int), .int .u8 (i2.toNat : Int), .int .u8 (i3.toNat : Int), .int .u8 (i4.toNat : Int), .int .u8 (i5.toNat : Int), .int .u8 (j0.toNat : Int), .int .u8 (j1.toNat : Int), .int .u8 (j2.toNat : Int), .int .u8 (j3.toNat : Int), .int .u8 (j4.toNat : Int), .int .u8 (j5.toNat : Int), .int .i64 u2, .slice A4 bd2.length c4] 35) (r := w.heap.size) zf).trans hf
  replace hp := (Go.heap_alloc_old w4 (.cells #[.int .u8 (i0.toNat : Int), .int .u8 (i1.toNat : Int), .int .u8 (i2.toNat : Int), .int .u8 (i3.toNat : Int), .int .u8 (i4.toNat : Int), .int .u8 (i5.toNat : Int), .int .u8 (j0.toNat : Int), .int .u8 (j1.toNat : Int), .int .u8 (j2.toNat : Int), .int .u8 (j3.toNat : Int), .int .u8 (j4.toNat : Int), .int .u8 (j5.toNat : Int), .int .i64 u2, .slice A4 bd2.length c4] 35) (r := w.heap.size + 1) zp).trans hp
  replace hg := (Go.heap_alloc_old w4 (.cells #[.int .u8 (i0.toNat : Int), .int .u8 (i1.toNat : Int), .int .u8 (i2.toNat : Int), .int .u8 (i3.toNat : Int), .int .u8 (i4.toNat : Int), .int .u8 (i5.toNat : Int), .int .u8 (j0.toNat : Int), .int .u8 (j1.toNat : Int), .int .u8 (j2.toNat : Int), .int .u8 (j3.toNat : Int), .int .u8 (j4.toNat : Int), .int .u8 (j5.toNat : Int), .int .i64 u2, .slice A4 bd2.length c4] 35) (r := w3.heap.size) zg).trans hg
  have hh := heap_alloc_new w4 (.cells #[.int .u8 (i0.toNat : Int), .int .u8 (i1.toNat : Int), .int .u8 (i2.toNat : Int), .int .u8 (i3.toNat : Int), .int .u8 (i4.toNat : Int), .int .u8 (i5.toNat : Int), .int .u8 (j0.toNat : Int), .int .u8 (j1.toNat : Int), .int .u8 (j2.toNat : Int), .int .u8 (j3.toNat : Int), .int .u8 (j4.toNat : Int), .int .u8 (j5.toNat : Int), .int .i64 u2, .slice A4 bd2.length c4] 35)
  replace zf := Nat.lt_trans zf (show w4.heap.size < (w4.alloc (.cells #[.int .u8 (i0.toNat : Int), .int .u8 (i1.toNat : Int), .int .u8 (i2.toNat : Int), .int .u8 (i3.toNat : Int), .int .u8 (i4.toNat : Int), .int .u8 (i5.toNat : Int), .int .u8 (j0.toNat : Int), .int .u8 (j1.toNat : Int), .int .u8 (j2.toNat : Int), .int .u8 (j3.toNat : Int), .int .u8 (j4.toNat : Int), .int .u8 (j5.toNat : Int), .int .i64 u2, .slice A4 bd2.length c4] 35)).heap.size by simp)
  replace zp := Nat.lt_trans zp (show w4.heap.size < (w4.alloc (.cells #[.int .u8 (i0.toNat : Int), .int .u8 (i1.toNat : Int), .int .u8 (i2.toNat : Int), .int .u8 (i3.toNat : Int), .int .u8 (i4.toNat : Int), .int .u8 (i5.toNat : Int), .int .u8 (j0.toNat : Int), .int .u8 (j1.toNat : Int), .int .u8 (j2.toNat : Int), .int .u8 (j3.toNat : Int), .int .u8 (j4.toNat : Int), .int .u8 (j5.toNat : Int), .int .i64 u2, .slice A4 bd2.length c4] 35)).heap.size by simp)
  replace zg := Nat.lt_trans zg (show w4.heap.size < (w4.alloc (.cells #[.int .u8 (i0.toNat : Int), .int .u8 (i1.toNat : Int), .int .u8 (i2.toNat : Int), .int .u8 (i3.toNat : Int), .int .u8 (i4.toNat : Int), .int .u8 (i5.toNat : Int), .int .u8 (j0.toNat : Int), .int .u8 (j1.toNat : Int), .int .u8 (j2.toNat : Int), .int .u8 (j3.toNat : Int), .int .u8 (j4.toNat : Int), .int .u8 (j5.toNat : Int), .int .i64 u2, .slice A4 bd2.length c4] 35)).heap.size by simp)
  have zh : w4.heap.size < (w4.alloc (.cells #[.int .u8 (i0.toNat : Int), .int .u8 (i1.toNat : Int), .int .u8 (i2.toNat : Int), .int .u8 (i3.toNat : Int), .int .u8 (i4.toNat : Int), .int .u8 (i5.toNat : Int), .int .u8 (j0.toNat : Int), .int .u8 (j1.toNat : Int), .int .u8 (j2.toNat : Int), .int .u8 (j3.toNat : Int), .int .u8 (j4.toNat : Int), .int .u8 (j5.toNat : Int), .int .i64 u2, .slice A4 bd2.length c4] 35)).heap.size := by simp
  replace bel := bel.alloc bel.size (.cells #[.int .u8 (i0.toNat : Int), .int .u8 (i1.toNat : Int), .int .u8 (i2.toNat : Int), .int .u8 (i3.toNat : Int), .int .u8 (i4.toNat : Int), .int .u8 (i5.toNat : Int), .int .u8 (j0.toNat : Int), .int .u8 (j1.toNat : Int), .int .u8 (j2.toNat : Int), .int .u8 (j3.toNat : Int), .int .u8 (j4.toNat : Int), .int .u8 (j5.toNat : Int), .int .i64 u2, .slice A4 bd2.length c4] 35)
  go_wp2_with fail
  with_reducible refine (eput_any a0 a1 a2 a3 a4 a5 m0 m1 m2 m3 m4 m5 t S k d lf _ hs).mono ?_
  rintro e w5 ⟨A5, c5, o, ei, rfl, s5, b5, hP⟩
  clear cf0 cf1 cf2 cf3 cf4 cf5 cf6 cf7 cf8 cf9 cf10 cf11 cf12 cf13 yf yp yg
  replace hs := hs.below b5
  replace s3 := s3.below b5
  replace s4 := s4.below b5
  replace hf := (b5.block _ zf).trans hf
  replace zf := Nat.lt_of_lt_of_le zf b5.size
  replace hp := (b5.block _ zp).trans hp
  replace zp := Nat.lt_of_lt_of_le zp b5.size
  replace hg := (b5.block _ zg).trans hg
  replace zg := Nat.lt_of_lt_of_le zg b5.size
  replace hh := (b5.block _ zh).trans hh
  replace zh := Nat.lt_of_lt_of_le zh b5.size
  replace bel := bel.trans (b5.mono bel.size)
  clear b5
  obtain ⟨⟨cf0, cf1, cf2, cf3, cf4, cf5, cf6, cf7, cf8, cf9, cf10, cf11, cf12, cf13⟩, _⟩ := cells14 hf
  go_wp2_with fail
  with_reducible refine (own4_any a0 a1 a2 a3 a4 a5 m0 m1 m2 m3 m4 m5 t S k d _).mono ?_
  rintro e w6 ⟨rfl, b6⟩
  clear cf0 cf1 cf2 cf3 cf4 cf5 cf6 cf7 cf8 cf9 cf10 cf11 cf12 cf13
  replace hs := hs.below b6
  replace s3 := s3.below b6
  replace s4 := s4.below b6
  replace s5 := s5.below b6
  replace hf := (b6.block _ zf).trans hf
  replace zf := Nat.lt_of_lt_of_le zf b6.size
  replace hp := (b6.block _ zp).trans hp
  replace zp := Nat.lt_of_lt_of_le zp b6.size
  replace hg := (b6.block _ zg).trans hg
  replace zg := Nat.lt_of_lt_of_le zg b6.size
  replace hh := (b6.block _ zh).trans hh
  replace zh := Nat.lt_of_lt_of_le zh b6.size
  replace bel := bel.trans (b6.mono bel.size)
  clear b6
  go_wp2_with fail
  with_reducible refine (rput_any a0 a1 a2 a3 a4 a5 m0 m1 m2 m3 m4 m5 t S k d lf _ hs).mono ?_
  rintro e w7 ⟨A6, c6, o2, ei2, rfl, s6, b7, hP2⟩
  replace hs := hs.below b7
  replace s3 := s3.below b7
  replace s4 := s4.below b7
  replace s5 := s5.below b7
  have hh := hP2.trans hP.symm
  simp only [Prod.mk.injEq] at hh
  obtain ⟨rfl, rfl⟩ := hh
  clear hP hP2 hs
  replace hf := (b7.block _ zf).trans hf
  replace zf := Nat.lt_of_lt_of_le zf b7.size
  replace hp := (b7.block _ zp).trans hp
  replace zp := Nat.lt_of_lt_of_le zp b7.size
  replace hg := (b7.block _ zg).trans hg
  replace zg := Nat.lt_of_lt_of_le zg b7.size
  replace hh := (b7.block _ zh).trans hh
  replace zh := Nat.lt_of_lt_of_le zh b7.size
  replace bel := bel.trans (b7.mono bel.size)
  clear b7
  obtain ⟨⟨cf0, cf1, cf2, cf3, cf4, cf5, cf6, cf7, cf8, cf9, cf10, cf11, cf12, cf13⟩, _⟩ := cells14 hf
  obtain ⟨⟨cp0, cp1, cp2, cp3, cp4, cp5⟩, _⟩ := cells6 hp
  obtain ⟨⟨cg0, cg1, cg2, cg3, cg4, cg5, cg6, cg7, cg8, cg9, cg10, cg11, cg12, cg13⟩, _⟩ := cells14 hg
  obtain ⟨⟨ch0, ch1, ch2, ch3, ch4, ch5, ch6, ch7, ch8, ch9, ch10, ch11, ch12, ch13⟩, _⟩ := cells14 hh
  go_wp2_with fail
  refine wp_region_held_drew (S := fun W => W.cell? ⟨w.heap.size, 6, none⟩ = some (.int .u8 (m0.toNat : Int)) ∧ W.cell? ⟨w.heap.size, 7, none⟩ = some (.int .u8 (m1.toNat : Int)) ∧ W.cell? ⟨w.heap.size, 8, none⟩ = some (.int .u8 (m2.toNat : Int)) ∧ W.cell? ⟨w.heap.size, 9, none⟩ = some (.int .u8 (m3.toNat : Int)) ∧ W.cell? ⟨w.heap.size, 10, none⟩ = some (.int .u8 (m4.toNat : Int)) ∧ W.cell? ⟨w.heap.size, 11, none⟩ = some (.int .u8 (m5.toNat : Int)) ∧ W.cell? ⟨w.heap.size + 1, 0, none⟩ = some (.int .u8 (p0.toNat : Int)) ∧ W.cell? ⟨w.heap.size + 1, 1, none⟩ = some (.int .u8 (p1.toNat : Int)) ∧ W.cell? ⟨w.heap.size + 1, 2, none⟩ = some (.int .u8 (p2.toNat : Int)) ∧ W.cell? ⟨w.heap.size + 1, 3, none⟩ = some (.int .u8 (p3.toNat : Int)) ∧ W.cell? ⟨w.heap.size + 1, 4, none⟩ = some (.int .u8 (p4.toNat : Int)) ∧ W.cell? ⟨w.heap.size + 1, 5, none⟩ = some (.int .u8 (p5.toNat : Int)) ∧ W.cell? ⟨w3.heap.size, 0, none⟩ = some (.int .u8 (i0.toNat : Int)) ∧ W.cell? ⟨w3.heap.size, 1, none⟩ = some (.int .u8 (i1.toNat : Int)) ∧ W.cell? ⟨w3.heap.size, 2, none⟩ = some (.int .u8 (i2.toNat : Int)) ∧ W.cell? ⟨w3.heap.size, 3, none⟩ = some (.int .u8 (i3.toNat : Int)) ∧ W.cell? ⟨w3.heap.size, 4, none⟩ = some (.int .u8 (i4.toNat : Int)) ∧ W.cell? ⟨w3.heap.size, 5, none⟩ = some (.int .u8 (i5.toNat : Int)) ∧ W.cell? ⟨w3.heap.size, 6, none⟩ = some (.int .u8 (j0.toNat : Int)) ∧ W.cell? ⟨w3.heap.size, 7, none⟩ = some (.int .u8 (j1.toNat : Int)) ∧ W.cell? ⟨w3.heap.size, 8, none⟩ = some (.int .u8 (j2.toNat : Int)) ∧ W.cell? ⟨w3.heap.size, 9, none⟩ = some (.int .u8 (j3.toNat : Int)) ∧ W.cell? ⟨w3.heap.size, 10, none⟩ = some (.int .u8 (j4.toNat : Int)) ∧ W.cell? ⟨w3.heap.size, 11, none⟩ = some (.int .u8 (j5.toNat : Int)) ∧ W.cell? ⟨w3.heap.size, 12, none⟩ = some (.int .i64 u2) ∧ W.cell? ⟨w3.heap.size, 13, none⟩ = some (.slice A3 bd2.length c3) ∧ W.cell? ⟨w4.heap.size, 0, none⟩ = some (.int .u8 (i0.toNat : Int)) ∧ W.cell? ⟨w4.heap.size, 1, none⟩ = some (.int .u8 (i1.toNat : Int)) ∧ W.cell? ⟨w4.heap.size, 2, none⟩ = some (.int .u8 (i2.toNat : Int)) ∧ W.cell? ⟨w4.heap.size, 3, none⟩ = some (.int .u8 (i3.toNat : Int)) ∧ W.cell? ⟨w4.heap.size, 4, none⟩ = some (.int .u8 (i4.toNat : Int)) ∧ W.cell? ⟨w4.heap.size, 5, none⟩ = some (.int .u8 (i5.toNat : Int)) ∧ W.cell? ⟨w4.heap.size, 6, none⟩ = some (.int .u8 (j0.toNat : Int)) ∧ W.cell? ⟨w4.heap.size, 7, none⟩ = some (.int .u8 (j1.toNat : Int)) ∧ W.cell? ⟨w4.heap.size, 8, none⟩ = some (.int .u8 (j2.toNat : Int)) ∧ W.cell? ⟨w4.heap.size, 9, none⟩ = some (.int .u8 (j3.toNat : Int)) ∧ W.cell? ⟨w4.heap.size, 10, none⟩ = some (.int .u8 (j4.toNat : Int)) ∧ W.cell? ⟨w4.heap.size, 11, none⟩ = some (.int .u8 (j5.toNat : Int)) ∧ W.cell? ⟨w4.heap.size, 12, none⟩ = some (.int .i64 u2) ∧ W.cell? ⟨w4.heap.size, 13, none⟩ = some (.slice A4 bd2.length c4) ∧ Sl W (A3) (bd2.length) (c3) (bd2) ∧ Sl W (A4) (bd2.length) (c4) (bd2) ∧ Sl W (A5) (o2.length) (c5) (o2) ∧ Sl W (A6) (o2.length) (c6) (o2)) (by kernel_rfl) ⟨cf6, cf7, cf8, cf9, cf10, cf11, cp0, cp1, cp2, cp3, cp4, cp5, cg0, cg1, cg2, cg3, cg4, cg5, cg6, cg7, cg8, cg9, cg10, cg11, cg12, cg13, ch0, ch1, ch2, ch3, ch4, ch5, ch6, ch7, ch8, ch9, ch10, ch11, ch12, ch13, s3, s4, s5, s6⟩ (fun hH => ?_)
  refine wpAnyH_take (i := 0) (v := ?_) rfl (by kernel_rfl) (by kernel_rfl) (by kernel_rfl) (fun _ _ _ h => h) (Or.inl ⟨by rfl, ?_⟩) hH ?_
  rotate_left
  · ((intro W hW; obtain ⟨s0, s1, s2, s3, s4, s5, s6, s7, s8, s9, s10, s11, s12, s13, s14, s15, s16, s17, s18, s19, s20, s21, s22, s23, s24, s25, s26, s27, s28, s29, s30, s31, s32, s33, s34, s35, s36, s37, s38, s39, q0, q1, q2, q3⟩ := hW; clear q0 q1 q2 q3; go_simp) <;> with_reducible rfl)
  simp only [Act.put, List.getElem_toArray, List.getElem_cons_zero, List.setIfInBounds_toArray, List.set_cons_zero, List.set_cons_succ]
  refine wpAnyH_take (i := 1) (v := ?_) rfl (by kernel_rfl) (by kernel_rfl) (by kernel_rfl) (fun _ _ _ h => h) (Or.inl ⟨by rfl, ?_⟩) hH ?_
  rotate_left
  · ((intro W hW; obtain ⟨s0, s1, s2, s3, s4, s5, s6, s7, s8, s9, s10, s11, s12, s13, s14, s15, s16, s17, s18, s19, s20, s21, s22, s23, s24, s25, s26, s27, s28, s29, s30, s31, s32, s33, s34, s35, s36, s37, s38, s39, q0, q1, q2, q3⟩ := hW; clear q0 q1 q2 q3; go_simp) <;> with_reducible rfl)
  simp only [Act.put, List.getElem_toArray, List.getElem_cons_zero, List.getElem_cons_succ, List.setIfInBounds_toArray, List.set_cons_zero, List.set_cons_succ]
  refine wpAnyH_take (i := 2) (v := ?_) rfl (by kernel_rfl) (by kernel_rfl) (by kernel_rfl) (fun _ _ _ h => h) (Or.inl ⟨by rfl, ?_⟩) hH ?_
  rotate_left
  · ((intro W hW; obtain ⟨s0, s1, s2, s3, s4, s5, s6, s7, s8, s9, s10, s11, s12, s13, s14, s15, s16, s17, s18, s19, s20, s21, s22, s23, s24, s25, s26, s27, s28, s29, s30, s31, s32, s33, s34, s35, s36, s37, s38, s39, q0, q1, q2, q3⟩ := hW; clear q0 q1 q2 q3; go_simp) <;> with_reducible rfl)
  simp only [Act.put, List.getElem_toArray, List.getElem_cons_zero, List.getElem_cons_succ, List.setIfInBounds_toArray, List.set_cons_zero, List.set_cons_succ]
  refine wpAnyH_take (i := 3) (v := ?_) rfl (by kernel_rfl) (by kernel_rfl) (by kernel_rfl) (fun _ _ _ h => h) (Or.inl ⟨by rfl, ?_⟩) hH ?_
  rotate_left
  · ((intro W hW; obtain ⟨s0, s1, s2, s3, s4, s5, s6, s7, s8, s9, s10, s11, s12, s13, s14, s15, s16, s17, s18, s19, s20, s21, s22, s23, s24, s25, s26, s27, s28, s29, s30, s31, s32, s33, s34, s35, s36, s37, s38, s39, q0, q1, q2, q3⟩ := hW; clear q0 q1 q2 q3; go_simp) <;> with_reducible rfl)
  simp only [Act.put, List.getElem_toArray, List.getElem_cons_zero, List.getElem_cons_succ, List.setIfInBounds_toArray, List.set_cons_zero, List.set_cons_succ]
  refine wpAnyH_take (i := 4) (v := ?_) rfl (by kernel_rfl) (by kernel_rfl) (by kernel_rfl) (fun _ _ _ h => h) (Or.inl ⟨by rfl, ?_⟩) hH ?_
  rotate_left
  · ((intro W hW; obtain ⟨s0, s1, s2, s3, s4, s5, s6, s7, s8, s9, s10, s11, s12, s13, s14, s15, s16, s17, s18, s19, s20, s21, s22, s23, s24, s25, s26, s27, s28, s29, s30, s31, s32, s33, s34, s35, s36, s37, s38, s39, q0, q1, q2, q3⟩ := hW; clear q0 q1 q2 q3; go_simp) <;> with_reducible rfl)
  simp only [Act.put, List.getElem_toArray, List.getElem_cons_zero, List.getElem_cons_succ, List.setIfInBounds_toArray, List.set_cons_zero, List.set_cons_succ]
  refine wpAnyH_take (i := 5) (v := ?_) rfl (by kernel_rfl) (by kernel_rfl) (by kernel_rfl) (fun _ _ _ h => h) (Or.inl ⟨by rfl, ?_⟩) hH ?_
  rotate_left
  · ((intro W hW; obtain ⟨s0, s1, s2, s3, s4, s5, s6, s7, s8, s9, s10, s11, s12, s13, s14, s15, s16, s17, s18, s19, s20, s21, s22, s23, s24, s25, s26, s27, s28, s29, s30, s31, s32, s33, s34, s35, s36, s37, s38, s39, q0, q1, q2, q3⟩ := hW; clear q0 q1 q2 q3; go_simp) <;> with_reducible rfl)
  simp only [Act.put, List.getElem_toArray, List.getElem_cons_zero, List.getElem_cons_succ, List.setIfInBounds_toArray, List.set_cons_zero, List.set_cons_succ]
  refine wpAnyH_ready (rs := [6]) (by kernel_rfl) (by simp) ?_
  refine AllReadyH.cons (o := _) rfl (fun K hK => ?_) AllReadyH.nil
  simp only [List.getElem_toArray, List.getElem_cons_zero, List.getElem_cons_succ]
  go_simp
  with_reducible refine (same4_true i0 i1 i2 i3 i4 i5 j0 j1 j2 j3 j4 j5 u2 A3 bd2.length c3 A4 c4 bd2 _ (hH.2.2.2.2.2.2.2.2.2.2.2.2.2.2.2.2.2.2.2.2.2.2.2.2.2.2.2.2.2.2.2.2.2.2.2.2.2.2.2.2.1) (hH.2.2.2.2.2.2.2.2.2.2.2.2.2.2.2.2.2.2.2.2.2.2.2.2.2.2.2.2.2.2.2.2.2.2.2.2.2.2.2.2.2.1)).mono ?_
  rintro e v21 ⟨rfl, b21⟩
  dsimp only
  have bel21 := bel.drew.trans (b21.mono bel.size)
  refine hK.out _ _ ⟨(b21.cell (p := ⟨_, 6, none⟩) zf).trans hH.1, (b21.cell (p := ⟨_, 7, none⟩) zf).trans hH.2.1, (b21.cell (p := ⟨_, 8, none⟩) zf).trans hH.2.2.1, (b21.cell (p := ⟨_, 9, none⟩) zf).trans hH.2.2.2.1, (b21.cell (p := ⟨_, 10, none⟩) zf).trans hH.2.2.2.2.1, (b21.cell (p := ⟨_, 11, none⟩) zf).trans hH.2.2.2.2.2.1, (b21.cell (p := ⟨_, 0, none⟩) zp).trans hH.2.2.2.2.2.2.1, (b21.cell (p := ⟨_, 1, none⟩) zp).trans hH.2.2.2.2.2.2.2.1, (b21.cell (p := ⟨_, 2, none⟩) zp).trans hH.2.2.2.2.2.2.2.2.1, (b21.cell (p := ⟨_, 3, none⟩) zp).trans hH.2.2.2.2.2.2.2.2.2.1, (b21.cell (p := ⟨_, 4, none⟩) zp).trans hH.2.2.2.2.2.2.2.2.2.2.1, (b21.cell (p := ⟨_, 5, none⟩) zp).trans hH.2.2.2.2.2.2.2.2.2.2.2.1, (b21.cell (p := ⟨_, 0, none⟩) zg).trans hH.2.2.2.2.2.2.2.2.2.2.2.2.1, (b21.cell (p := ⟨_, 1, none⟩) zg).trans hH.2.2.2.2.2.2.2.2.2.2.2.2.2.1, (b21.cell (p := ⟨_, 2, none⟩) zg).trans hH.2.2.2.2.2.2.2.2.2.2.2.2.2.2.1, (b21.cell (p := ⟨_, 3, none⟩) zg).trans hH.2.2.2.2.2.2.2.2.2.2.2.2.2.2.2.1, (b21.cell (p := ⟨_, 4, none⟩) zg).trans hH.2.2.2.2.2.2.2.2.2.2.2.2.2.2.2.2.1, (b21.cell (p := ⟨_, 5, none⟩) zg).trans hH.2.2.2.2.2.2.2.2.2.2.2.2.2.2.2.2.2.1, (b21.cell (p := ⟨_, 6, none⟩) zg).trans hH.2.2.2.2.2.2.2.2.2.2.2.2.2.2.2.2.2.2.1, (b21.cell (p := ⟨_, 7, none⟩) zg).trans hH.2.2.2.2.2.2.2.2.2.2.2.2.2.2.2.2.2.2.2.1, (b21.cell (p := ⟨_, 8, none⟩) zg).trans hH.2.2.2.2.2.2.2.2.2.2.2.2.2.2.2.2.2.2.2.2.1, (b21.cell (p := ⟨_, 9, none⟩) zg).trans hH.2.2.2.2.2.2.2.2.2.2.2.2.2.2.2.2.2.2.2.2.2.1, (b21.cell (p := ⟨_, 10, none⟩) zg).trans hH.2.2.2.2.2.2.2.2.2.2.2.2.2.2.2.2.2.2.2.2.2.2.1, (b21.cell (p := ⟨_, 11, none⟩) zg).trans hH.2.2.2.2.2.2.2.2.2.2.2.2.2.2.2.2.2.2.2.2.2.2.2.1, (b21.cell (p := ⟨_, 12, none⟩) zg).trans hH.2.2.2.2.2.2.2.2.2.2.2.2.2.2.2.2.2.2.2.2.2.2.2.2.1, (b21.cell (p := ⟨_, 13, none⟩) zg).trans hH.2.2.2.2.2.2.2.2.2.2.2.2.2.2.2.2.2.2.2.2.2.2.2.2.2.1, (b21.cell (p := ⟨_, 0, none⟩) zh).trans hH.2.2.2.2.2.2.2.2.2.2.2.2.2.2.2.2.2.2.2.2.2.2.2.2.2.2.1, (b21.cell (p := ⟨_, 1, none⟩) zh).trans hH.2.2.2.2.2.2.2.2.2.2.2.2.2.2.2.2.2.2.2.2.2.2.2.2.2.2.2.1, (b21.cell (p := ⟨_, 2, none⟩) zh).trans hH.2.2.2.2.2.2.2.2.2.2.2.2.2.2.2.2.2.2.2.2.2.2.2.2.2.2.2.2.1, (b21.cell (p := ⟨_, 3, none⟩) zh).trans hH.2.2.2.2.2.2.2.2.2.2.2.2.2.2.2.2.2.2.2.2.2.2.2.2.2.2.2.2.2.1, (b21.cell (p := ⟨_, 4, none⟩) zh).trans hH.2.2.2.2.2.2.2.2.2.2.2.2.2.2.2.2.2.2.2.2.2.2.2.2.2.2.2.2.2.2.1, (b21.cell (p := ⟨_, 5, none⟩) zh).trans hH.2.2.2.2.2.2.2.2.2.2.2.2.2.2.2.2.2.2.2.2.2.2.2.2.2.2.2.2.2.2.2.1, (b21.cell (p := ⟨_, 6, none⟩) zh).trans hH.2.2.2.2.2.2.2.2.2.2.2.2.2.2.2.2.2.2.2.2.2.2.2.2.2.2.2.2.2.2.2.2.1, (b21.cell (p := ⟨_, 7, none⟩) zh).trans hH.2.2.2.2.2.2.2.2.2.2.2.2.2.2.2.2.2.2.2.2.2.2.2.2.2.2.2.2.2.2.2.2.2.1, (b21.cell (p := ⟨_, 8, none⟩) zh).trans hH.2.2.2.2.2.2.2.2.2.2.2.2.2.2.2.2.2.2.2.2.2.2.2.2.2.2.2.2.2.2.2.2.2.2.1, (b21.cell (p := ⟨_, 9, none⟩) zh).trans hH.2.2.2.2.2.2.2.2.2.2.2.2.2.2.2.2.2.2.2.2.2.2.2.2.2.2.2.2.2.2.2.2.2.2.2.1, (b21.cell (p := ⟨_, 10, none⟩) zh).trans hH.2.2.2.2.2.2.2.2.2.2.2.2.2.2.2.2.2.2.2.2.2.2.2.2.2.2.2.2.2.2.2.2.2.2.2.2.1, (b21.cell (p := ⟨_, 11, none⟩) zh).trans hH.2.2.2.2.2.2.2.2.2.2.2.2.2.2.2.2.2.2.2.2.2.2.2.2.2.2.2.2.2.2.2.2.2.2.2.2.2.1, (b21.cell (p := ⟨_, 12, none⟩) zh).trans hH.2.2.2.2.2.2.2.2.2.2.2.2.2.2.2.2.2.2.2.2.2.2.2.2.2.2.2.2.2.2.2.2.2.2.2.2.2.2.1, (b21.cell (p := ⟨_, 13, none⟩) zh).trans hH.2.2.2.2.2.2.2.2.2.2.2.2.2.2.2.2.2.2.2.2.2.2.2.2.2.2.2.2.2.2.2.2.2.2.2.2.2.2.2.1, (hH.2.2.2.2.2.2.2.2.2.2.2.2.2.2.2.2.2.2.2.2.2.2.2.2.2.2.2.2.2.2.2.2.2.2.2.2.2.2.2.2.1).below b21, (hH.2.2.2.2.2.2.2.2.2.2.2.2.2.2.2.2.2.2.2.2.2.2.2.2.2.2.2.2.2.2.2.2.2.2.2.2.2.2.2.2.2.1).below b21, (hH.2.2.2.2.2.2.2.2.2.2.2.2.2.2.2.2.2.2.2.2.2.2.2.2.2.2.2.2.2.2.2.2.2.2.2.2.2.2.2.2.2.2.1).below b21, (hH.2.2.2.2.2.2.2.2.2.2.2.2.2.2.2.2.2.2.2.2.2.2.2.2.2.2.2.2.2.2.2.2.2.2.2.2.2.2.2.2.2.2.2).below b21⟩ (fun hH21 => ?_)
  clear hK K
  replace zf := Nat.lt_of_lt_of_le zf b21.size
  replace zp := Nat.lt_of_lt_of_le zp b21.size
  replace zg := Nat.lt_of_lt_of_le zg b21.size
  replace zh := Nat.lt_of_lt_of_le zh b21.size
  refine wpAnyH_take (i := 7) (v := ?_) rfl (by kernel_rfl) (by kernel_rfl) (by kernel_rfl) (fun _ _ _ h => h) (Or.inl ⟨by rfl, ?_⟩) hH21 ?_
  rotate_left
  · ((intro W hW; obtain ⟨s0, s1, s2, s3, s4, s5, s6, s7, s8, s9, s10, s11, s12, s13, s14, s15, s16, s17, s18, s19, s20, s21, s22, s23, s24, s25, s26, s27, s28, s29, s30, s31, s32, s33, s34, s35, s36, s37, s38, s39, q0, q1, q2, q3⟩ := hW; clear q0 q1 q2 q3; go_simp) <;> with_reducible rfl)
  simp only [Act.put, List.getElem_toArray, List.getElem_cons_zero, List.getElem_cons_succ, List.setIfInBounds_toArray, List.set_cons_zero, List.set_cons_succ]
  refine wpAnyH_take (i := 8) (v := ?_) rfl (by kernel_rfl) (by kernel_rfl) (by kernel_rfl) (fun _ _ _ h => h) (Or.inl ⟨by rfl, ?_⟩) hH21 ?_
  rotate_left
  · ((intro W hW; obtain ⟨s0, s1, s2, s3, s4, s5, s6, s7, s8, s9, s10, s11, s12, s13, s14, s15, s16, s17, s18, s19, s20, s21, s22, s23, s24, s25, s26, s27, s28, s29, s30, s31, s32, s33, s34, s35, s36, s37, s38, s39, q0, q1, q2, q3⟩ := hW; clear q0 q1 q2 q3; go_simp) <;> with_reducible rfl)
  simp only [Act.put, List.getElem_toArray, List.getElem_cons_zero, List.getElem_cons_succ, List.setIfInBounds_toArray, List.set_cons_zero, List.set_cons_succ]
  refine wpAnyH_take (i := 9) (v := ?_) rfl (by kernel_rfl) (by kernel_rfl) (by kernel_rfl) (fun _ _ _ h => h) (Or.inl ⟨by rfl, ?_⟩) hH21 ?_
  rotate_left
  · ((intro W hW; obtain ⟨s0, s1, s2, s3, s4, s5, s6, s7, s8, s9, s10, s11, s12, s13, s14, s15, s16, s17, s18, s19, s20, s21, s22, s23, s24, s25, s26, s27, s28, s29, s30, s31, s32, s33, s34, s35, s36, s37, s38, s39, q0, q1, q2, q3⟩ := hW; clear q0 q1 q2 q3; go_simp) <;> with_reducible rfl)
  simp only [Act.put, List.getElem_toArray, List.getElem_cons_zero, List.getElem_cons_succ, List.setIfInBounds_toArray, List.set_cons_zero, List.set_cons_succ]
  refine wpAnyH_take (i := 10) (v := ?_) rfl (by kernel_rfl) (by kernel_rfl) (by kernel_rfl) (fun _ _ _ h => h) (Or.inl ⟨by rfl, ?_⟩) hH21 ?_
  rotate_left
  · ((intro W hW; obtain ⟨s0, s1, s2, s3, s4, s5, s6, s7, s8, s9, s10, s11, s12, s13, s14, s15, s16, s17, s18, s19, s20, s21, s22, s23, s24, s25, s26, s27, s28, s29, s30, s31, s32, s33, s34, s35, s36, s37, s38, s39, q0, q1, q2, q3⟩ := hW; clear q0 q1 q2 q3; go_simp) <;> with_reducible rfl)
  simp only [Act.put, List.getElem_toArray, List.getElem_cons_zero, List.getElem_cons_succ, List.setIfInBounds_toArray, List.set_cons_zero, List.set_cons_succ]
  refine wpAnyH_take (i := 11) (v := ?_) rfl (by kernel_rfl) (by kernel_rfl) (by kernel_rfl) (fun _ _ _ h => h) (Or.inl ⟨by rfl, ?_⟩) hH21 ?_
  rotate_left
  · ((intro W hW; obtain ⟨s0, s1, s2, s3, s4, s5, s6, s7, s8, s9, s10, s11, s12, s13, s14, s15, s16, s17, s18, s19, s20, s21, s22, s23, s24, s25, s26, s27, s28, s29, s30, s31, s32, s33, s34, s35, s36, s37, s38, s39, q0, q1, q2, q3⟩ := hW; clear q0 q1 q2 q3; go_simp) <;> with_reducible rfl)
  simp only [Act.put, List.getElem_toArray, List.getElem_cons_zero, List.getElem_cons_succ, List.setIfInBounds_toArray, List.set_cons_zero, List.set_cons_succ]
  refine wpAnyH_take (i := 12) (v := ?_) rfl (by kernel_rfl) (by kernel_rfl) (by kernel_rfl) (fun _ _ _ h => h) (Or.inl ⟨by rfl, ?_⟩) hH21 ?_
  rotate_left
  · ((intro W hW; obtain ⟨s0, s1, s2, s3, s4, s5, s6, s7, s8, s9, s10, s11, s12, s13, s14, s15, s16, s17, s18, s19, s20, s21, s22, s23, s24, s25, s26, s27, s28, s29, s30, s31, s32, s33, s34, s35, s36, s37, s38, s39, q0, q1, q2, q3⟩ := hW; clear q0 q1 q2 q3; go_simp) <;> with_reducible rfl)
  simp only [Act.put, List.getElem_toArray, List.getElem_cons_zero, List.getElem_cons_succ, List.setIfInBounds_toArray, List.set_cons_zero, List.set_cons_succ]
  refine wpAnyH_take (i := 13) (v := ?_) rfl (by kernel_rfl) (by kernel_rfl) (by kernel_rfl) (fun _ _ _ h => h) (Or.inl ⟨by rfl, ?_⟩) hH21 ?_
  rotate_left
  · ((intro W hW; obtain ⟨s0, s1, s2, s3, s4, s5, s6, s7, s8, s9, s10, s11, s12, s13, s14, s15, s16, s17, s18, s19, s20, s21, s22, s23, s24, s25, s26, s27, s28, s29, s30, s31, s32, s33, s34, s35, s36, s37, s38, s39, q0, q1, q2, q3⟩ := hW; clear q0 q1 q2 q3; go_simp) <;> with_reducible rfl)
  simp only [Act.put, List.getElem_toArray, List.getElem_cons_zero, List.getElem_cons_succ, List.setIfInBounds_toArray, List.set_cons_zero, List.set_cons_succ]
  refine wpAnyH_take (i := 14) (v := ?_) rfl (by kernel_rfl) (by kernel_rfl) (by kernel_rfl) (fun _ _ _ h => h) (Or.inl ⟨by rfl, ?_⟩) hH21 ?_
  rotate_left
  · ((intro W hW; obtain ⟨s0, s1, s2, s3, s4, s5, s6, s7, s8, s9, s10, s11, s12, s13, s14, s15, s16, s17, s18, s19, s20, s21, s22, s23, s24, s25, s26, s27, s28, s29, s30, s31, s32, s33, s34, s35, s36, s37, s38, s39, q0, q1, q2, q3⟩ := hW; clear q0 q1 q2 q3; go_simp) <;> with_reducible rfl)
  simp only [Act.put, List.getElem_toArray, List.getElem_cons_zero, List.getElem_cons_succ, List.setIfInBounds_toArray, List.set_cons_zero, List.set_cons_succ]
  refine wpAnyH_take (i := 15) (v := ?_) rfl (by kernel_rfl) (by kernel_rfl) (by kernel_rfl) (fun _ _ _ h => h) (Or.inl ⟨by rfl, ?_⟩) hH21 ?_
  rotate_left
  · ((intro W hW; obtain ⟨s0, s1, s2, s3, s4, s5, s6, s7, s8, s9, s10, s11, s12, s13, s14, s15, s16, s17, s18, s19, s20, s21, s22, s23, s24, s25, s26, s27, s28, s29, s30, s31, s32, s33, s34, s35, s36, s37, s38, s39, q0, q1, q2, q3⟩ := hW; have st0 := q0.str (P := Try.prog) 25 5 9 Try.underlying25 Try.underlying5 Try.underlying9; have st1 := q1.str (P := Try.prog) 25 5 9 Try.underlying25 Try.underlying5 Try.underlying9; have st2 := q2.str (P := Try.prog) 25 5 9 Try.underlying25 Try.underlying5 Try.underlying9; have st3 := q3.str (P := Try.prog) 25 5 9 Try.underlying25 Try.underlying5 Try.underlying9; clear q0 q1 q2 q3; go_simp) <;> with_reducible rfl)
  simp only [Act.put, List.getElem_toArray, List.getElem_cons_zero, List.getElem_cons_succ, List.setIfInBounds_toArray, List.set_cons_zero, List.set_cons_succ]
  refine wpAnyH_take (i := 16) (v := ?_) rfl (by kernel_rfl) (by kernel_rfl) (by kernel_rfl) (fun _ _ _ h => h) (Or.inl ⟨by rfl, ?_⟩) hH21 ?_
  rotate_left
  · ((intro W hW; obtain ⟨s0, s1, s2, s3, s4, s5, s6, s7, s8, s9, s10, s11, s12, s13, s14, s15, s16, s17, s18, s19, s20, s21, s22, s23, s24, s25, s26, s27, s28, s29, s30, s31, s32, s33, s34, s35, s36, s37, s38, s39, q0, q1, q2, q3⟩ := hW; clear q0 q1 q2 q3; go_simp) <;> with_reducible rfl)
  simp only [Act.put, List.getElem_toArray, List.getElem_cons_zero, List.getElem_cons_succ, List.setIfInBounds_toArray, List.set_cons_zero, List.set_cons_succ]
  refine wpAnyH_take (i := 17) (v := ?_) rfl (by kernel_rfl) (by kernel_rfl) (by kernel_rfl) (fun _ _ _ h => h) (Or.inl ⟨by rfl, ?_⟩) hH21 ?_
  rotate_left
  · ((intro W hW; obtain ⟨s0, s1, s2, s3, s4, s5, s6, s7, s8, s9, s10, s11, s12, s13, s14, s15, s16, s17, s18, s19, s20, s21, s22, s23, s24, s25, s26, s27, s28, s29, s30, s31, s32, s33, s34, s35, s36, s37, s38, s39, q0, q1, q2, q3⟩ := hW; have st0 := q0.str (P := Try.prog) 25 5 9 Try.underlying25 Try.underlying5 Try.underlying9; have st1 := q1.str (P := Try.prog) 25 5 9 Try.underlying25 Try.underlying5 Try.underlying9; have st2 := q2.str (P := Try.prog) 25 5 9 Try.underlying25 Try.underlying5 Try.underlying9; have st3 := q3.str (P := Try.prog) 25 5 9 Try.underlying25 Try.underlying5 Try.underlying9; clear q0 q1 q2 q3; go_simp) <;> with_reducible rfl)
  simp only [Act.put, List.getElem_toArray, List.getElem_cons_zero, List.getElem_cons_succ, List.setIfInBounds_toArray, List.set_cons_zero, List.set_cons_succ]
  refine wpAnyH_take (i := 18) (v := ?_) rfl (by kernel_rfl) (by kernel_rfl) (by kernel_rfl) (fun _ _ _ h => h) (Or.inl ⟨by rfl, ?_⟩) hH21 ?_
  rotate_left
  · ((intro W hW; obtain ⟨s0, s1, s2, s3, s4, s5, s6, s7, s8, s9, s10, s11, s12, s13, s14, s15, s16, s17, s18, s19, s20, s21, s22, s23, s24, s25, s26, s27, s28, s29, s30, s31, s32, s33, s34, s35, s36, s37, s38, s39, q0, q1, q2, q3⟩ := hW; clear q0 q1 q2 q3; go_simp) <;> with_reducible rfl)
  simp only [Act.put, List.getElem_toArray, List.getElem_cons_zero, List.getElem_cons_succ, List.setIfInBounds_toArray, List.set_cons_zero, List.set_cons_succ]
  refine wpAnyH_take (i := 19) (v := ?_) rfl (by kernel_rfl) (by kernel_rfl) (by kernel_rfl) (fun _ _ _ h => h) (Or.inl ⟨by rfl, ?_⟩) hH21 ?_
  rotate_left
  · ((intro W hW; obtain ⟨s0, s1, s2, s3, s4, s5, s6, s7, s8, s9, s10, s11, s12, s13, s14, s15, s16, s17, s18, s19, s20, s21, s22, s23, s24, s25, s26, s27, s28, s29, s30, s31, s32, s33, s34, s35, s36, s37, s38, s39, q0, q1, q2, q3⟩ := hW; clear q0 q1 q2 q3; go_simp) <;> with_reducible rfl)
  simp only [Act.put, List.getElem_toArray, List.getElem_cons_zero, List.getElem_cons_succ, List.setIfInBounds_toArray, List.set_cons_zero, List.set_cons_succ]
  refine wpAnyH_take (i := 20) (v := ?_) rfl (by kernel_rfl) (by kernel_rfl) (by kernel_rfl) (fun _ _ _ h => h) (Or.inl ⟨by rfl, ?_⟩) hH21 ?_
  rotate_left
  · ((intro W hW; obtain ⟨s0, s1, s2, s3, s4, s5, s6, s7, s8, s9, s10, s11, s12, s13, s14, s15, s16, s17, s18, s19, s20, s21, s22, s23, s24, s25, s26, s27, s28, s29, s30, s31, s32, s33, s34, s35, s36, s37, s38, s39, q0, q1, q2, q3⟩ := hW; clear q0 q1 q2 q3; go_simp) <;> with_reducible rfl)
  simp only [Act.put, List.getElem_toArray, List.getElem_cons_zero, List.getElem_cons_succ, List.setIfInBounds_toArray, List.set_cons_zero, List.set_cons_succ]
  refine wpAnyH_take (i := 21) (v := ?_) rfl (by kernel_rfl) (by kernel_rfl) (by kernel_rfl) (fun _ _ _ h => h) (Or.inl ⟨by rfl, ?_⟩) hH21 ?_
  rotate_left
  · ((intro W hW; obtain ⟨s0, s1, s2, s3, s4, s5, s6, s7, s8, s9, s10, s11, s12, s13, s14, s15, s16, s17, s18, s19, s20, s21, s22, s23, s24, s25, s26, s27, s28, s29, s30, s31, s32, s33, s34, s35, s36, s37, s38, s39, q0, q1, q2, q3⟩ := hW; clear q0 q1 q2 q3; go_simp) <;> with_reducible rfl)
  simp only [Act.put, List.getElem_toArray, List.getElem_cons_zero, List.getElem_cons_succ, List.setIfInBounds_toArray, List.set_cons_zero, List.set_cons_succ]
  refine wpAnyH_take (i := 23) (v := ?_) rfl (by kernel_rfl) (by kernel_rfl) (by kernel_rfl) (fun _ _ _ h => h) (Or.inl ⟨by rfl, ?_⟩) hH21 ?_
  rotate_left
  · ((intro W hW; obtain ⟨s0, s1, s2, s3, s4, s5, s6, s7, s8, s9, s10, s11, s12, s13, s14, s15, s16, s17, s18, s19, s20, s21, s22, s23, s24, s25, s26, s27, s28, s29, s30, s31, s32, s33, s34, s35, s36, s37, s38, s39, q0, q1, q2, q3⟩ := hW; clear q0 q1 q2 q3; go_simp) <;> with_reducible rfl)
  simp only [Act.put, List.getElem_toArray, List.getElem_cons_zero, List.getElem_cons_succ, List.setIfInBounds_toArray, List.set_cons_zero, List.set_cons_succ]
  refine wpAnyH_ready (rs := [22]) (by kernel_rfl) (by simp) ?_
  refine AllReadyH.cons (o := _) rfl (fun K hK => ?_) AllReadyH.nil
  simp only [List.getElem_toArray, List.getElem_cons_zero, List.getElem_cons_succ]
  go_simp
  with_reducible refine (egroup_any p0 p1 p2 p3 p4 p5 _).mono ?_
  rintro e v22 ⟨rfl, b22⟩
  dsimp only
  have bel22 := bel21.trans (b22.mono bel21.size)
  refine hK.out _ _ ⟨(b22.cell (p := ⟨_, 6, none⟩) zf).trans hH21.1, (b22.cell (p := ⟨_, 7, none⟩) zf).trans hH21.2.1, (b22.cell (p := ⟨_, 8, none⟩) zf).trans hH21.2.2.1, (b22.cell (p := ⟨_, 9, none⟩) zf).trans hH21.2.2.2.1, (b22.cell (p := ⟨_, 10, none⟩) zf).trans hH21.2.2.2.2.1, (b22.cell (p := ⟨_, 11, none⟩) zf).trans hH21.2.2.2.2.2.1, (b22.cell (p := ⟨_, 0, none⟩) zp).trans hH21.2.2.2.2.2.2.1, (b22.cell (p := ⟨_, 1, none⟩) zp).trans hH21.2.2.2.2.2.2.2.1, (b22.cell (p := ⟨_, 2, none⟩) zp).trans hH21.2.2.2.2.2.2.2.2.1, (b22.cell (p := ⟨_, 3, none⟩) zp).trans hH21.2.2.2.2.2.2.2.2.2.1, (b22.cell (p := ⟨_, 4, none⟩) zp).trans hH21.2.2.2.2.2.2.2.2.2.2.1, (b22.cell (p := ⟨_, 5, none⟩) zp).trans hH21.2.2.2.2.2.2.2.2.2.2.2.1, (b22.cell (p := ⟨_, 0, none⟩) zg).trans hH21.2.2.2.2.2.2.2.2.2.2.2.2.1, (b22.cell (p := ⟨_, 1, none⟩) zg).trans hH21.2.2.2.2.2.2.2.2.2.2.2.2.2.1, (b22.cell (p := ⟨_, 2, none⟩) zg).trans hH21.2.2.2.2.2.2.2.2.2.2.2.2.2.2.1, (b22.cell (p := ⟨_, 3, none⟩) zg).trans hH21.2.2.2.2.2.2.2.2.2.2.2.2.2.2.2.1, (b22.cell (p := ⟨_, 4, none⟩) zg).trans hH21.2.2.2.2.2.2.2.2.2.2.2.2.2.2.2.2.1, (b22.cell (p := ⟨_, 5, none⟩) zg).trans hH21.2.2.2.2.2.2.2.2.2.2.2.2.2.2.2.2.2.1, (b22.cell (p := ⟨_, 6, none⟩) zg).trans hH21.2.2.2.2.2.2.2.2.2.2.2.2.2.2.2.2.2.2.1, (b22.cell (p := ⟨_, 7, none⟩) zg).trans hH21.2.2.2.2.2.2.2.2.2.2.2.2.2.2.2.2.2.2.2.1, (b22.cell (p := ⟨_, 8, none⟩) zg).trans hH21.2.2.2.2.2.2.2.2.2.2.2.2.2.2.2.2.2.2.2.2.1, (b22.cell (p := ⟨_, 9, none⟩) zg).trans hH21.2.2.2.2.2.2.2.2.2.2.2.2.2.2.2.2.2.2.2.2.2.1, (b22.cell (p := ⟨_, 10, none⟩) zg).trans hH21.2.2.2.2.2.2.2.2.2.2.2.2.2.2.2.2.2.2.2.2.2.2.1, (b22.cell (p := ⟨_, 11, none⟩) zg).trans hH21.2.2.2.2.2.2.2.2.2.2.2.2.2.2.2.2.2.2.2.2.2.2.2.1, (b22.cell (p := ⟨_, 12, none⟩) zg).trans hH21.2.2.2.2.2.2.2.2.2.2.2.2.2.2.2.2.2.2.2.2.2.2.2.2.1, (b22.cell (p := ⟨_, 13, none⟩) zg).trans hH21.2.2.2.2.2.2.2.2.2.2.2.2.2.2.2.2.2.2.2.2.2.2.2.2.2.1, (b22.cell (p := ⟨_, 0, none⟩) zh).trans hH21.2.2.2.2.2.2.2.2.2.2.2.2.2.2.2.2.2.2.2.2.2.2.2.2.2.2.1, (b22.cell (p := ⟨_, 1, none⟩) zh).trans hH21.2.2.2.2.2.2.2.2.2.2.2.2.2.2.2.2.2.2.2.2.2.2.2.2.2.2.2.1, (b22.cell (p := ⟨_, 2, none⟩) zh).trans hH21.2.2.2.2.2.2.2.2.2.2.2.2.2.2.2.2.2.2.2.2.2.2.2.2.2.2.2.2.1, (b22.cell (p := ⟨_, 3, none⟩) zh).trans hH21.2.2.2.2.2.2.2.2.2.2.2.2.2.2.2.2.2.2.2.2.2.2.2.2.2.2.2.2.2.1, (b22.cell (p := ⟨_, 4, none⟩) zh).trans hH21.2.2.2.2.2.2.2.2.2.2.2.2.2.2.2.2.2.2.2.2.2.2.2.2.2.2.2.2.2.2.1, (b22.cell (p := ⟨_, 5, none⟩) zh).trans hH21.2.2.2.2.2.2.2.2.2.2.2.2.2.2.2.2.2.2.2.2.2.2.2.2.2.2.2.2.2.2.2.1, (b22.cell (p := ⟨_, 6, none⟩) zh).trans hH21.2.2.2.2.2.2.2.2.2.2.2.2.2.2.2.2.2.2.2.2.2.2.2.2.2.2.2.2.2.2.2.2.1, (b22.cell (p := ⟨_, 7, none⟩) zh).trans hH21.2.2.2.2.2.2.2.2.2.2.2.2.2.2.2.2.2.2.2.2.2.2.2.2.2.2.2.2.2.2.2.2.2.1, (b22.cell (p := ⟨_, 8, none⟩) zh).trans hH21.2.2.2.2.2.2.2.2.2.2.2.2.2.2.2.2.2.2.2.2.2.2.2.2.2.2.2.2.2.2.2.2.2.2.1, (b22.cell (p := ⟨_, 9, none⟩) zh).trans hH21.2.2.2.2.2.2.2.2.2.2.2.2.2.2.2.2.2.2.2.2.2.2.2.2.2.2.2.2.2.2.2.2.2.2.2.1, (b22.cell (p := ⟨_, 10, none⟩) zh).trans hH21.2.2.2.2.2.2.2.2.2.2.2.2.2.2.2.2.2.2.2.2.2.2.2.2.2.2.2.2.2.2.2.2.2.2.2.2.1, (b22.cell (p := ⟨_, 11, none⟩) zh).trans hH21.2.2.2.2.2.2.2.2.2.2.2.2.2.2.2.2.2.2.2.2.2.2.2.2.2.2.2.2.2.2.2.2.2.2.2.2.2.1, (b22.cell (p := ⟨_, 12, none⟩) zh).trans hH21.2.2.2.2.2.2.2.2.2.2.2.2.2.2.2.2.2.2.2.2.2.2.2.2.2.2.2.2.2.2.2.2.2.2.2.2.2.2.1, (b22.cell (p := ⟨_, 13, none⟩) zh).trans hH21.2.2.2.2.2.2.2.2.2.2.2.2.2.2.2.2.2.2.2.2.2.2.2.2.2.2.2.2.2.2.2.2.2.2.2.2.2.2.2.1, (hH21.2.2.2.2.2.2.2.2.2.2.2.2.2.2.2.2.2.2.2.2.2.2.2.2.2.2.2.2.2.2.2.2.2.2.2.2.2.2.2.2.1).below b22, (hH21.2.2.2.2.2.2.2.2.2.2.2.2.2.2.2.2.2.2.2.2.2.2.2.2.2.2.2.2.2.2.2.2.2.2.2.2.2.2.2.2.2.1).below b22, (hH21.2.2.2.2.2.2.2.2.2.2.2.2.2.2.2.2.2.2.2.2.2.2.2.2.2.2.2.2.2.2.2.2.2.2.2.2.2.2.2.2.2.2.1).below b22, (hH21.2.2.2.2.2.2.2.2.2.2.2.2.2.2.2.2.2.2.2.2.2.2.2.2.2.2.2.2.2.2.2.2.2.2.2.2.2.2.2.2.2.2.2).below b22⟩ (fun hH22 => ?_)
  clear hK K
  replace zf := Nat.lt_of_lt_of_le zf b22.size
  replace zp := Nat.lt_of_lt_of_le zp b22.size
  replace zg := Nat.lt_of_lt_of_le zg b22.size
  replace zh := Nat.lt_of_lt_of_le zh b22.size
  refine wpAnyH_ready (rs := [24]) (by kernel_rfl) (by simp) ?_
  refine AllReadyH.cons (o := _) rfl (fun K hK => ?_) AllReadyH.nil
  simp only [List.getElem_toArray, List.getElem_cons_zero, List.getElem_cons_succ]
  go_simp
  with_reducible refine (rgroup_any p0 p1 p2 p3 p4 p5 _).mono ?_
  rintro e v23 ⟨rfl, b23⟩
  dsimp only
  have bel23 := bel22.trans (b23.mono bel22.size)
  refine hK.out _ _ ⟨(b23.cell (p := ⟨_, 6, none⟩) zf).trans hH22.1, (b23.cell (p := ⟨_, 7, none⟩) zf).trans hH22.2.1, (b23.cell (p := ⟨_, 8, none⟩) zf).trans hH22.2.2.1, (b23.cell (p := ⟨_, 9, none⟩) zf).trans hH22.2.2.2.1, (b23.cell (p := ⟨_, 10, none⟩) zf).trans hH22.2.2.2.2.1, (b23.cell (p := ⟨_, 11, none⟩) zf).trans hH22.2.2.2.2.2.1, (b23.cell (p := ⟨_, 0, none⟩) zp).trans hH22.2.2.2.2.2.2.1, (b23.cell (p := ⟨_, 1, none⟩) zp).trans hH22.2.2.2.2.2.2.2.1, (b23.cell (p := ⟨_, 2, none⟩) zp).trans hH22.2.2.2.2.2.2.2.2.1, (b23.cell (p := ⟨_, 3, none⟩) zp).trans hH22.2.2.2.2.2.2.2.2.2.1, (b23.cell (p := ⟨_, 4, none⟩) zp).trans hH22.2.2.2.2.2.2.2.2.2.2.1, (b23.cell (p := ⟨_, 5, none⟩) zp).trans hH22.2.2.2.2.2.2.2.2.2.2.2.1, (b23.cell (p := ⟨_, 0, none⟩) zg).trans hH22.2.2.2.2.2.2.2.2.2.2.2.2.1, (b23.cell (p := ⟨_, 1, none⟩) zg).trans hH22.2.2.2.2.2.2.2.2.2.2.2.2.2.1, (b23.cell (p := ⟨_, 2, none⟩) zg).trans hH22.2.2.2.2.2.2.2.2.2.2.2.2.2.2.1, (b23.cell (p := ⟨_, 3, none⟩) zg).trans hH22.2.2.2.2.2.2.2.2.2.2.2.2.2.2.2.1, (b23.cell (p := ⟨_, 4, none⟩) zg).trans hH22.2.2.2.2.2.2.2.2.2.2.2.2.2.2.2.2.1, (b23.cell (p := ⟨_, 5, none⟩) zg).trans hH22.2.2.2.2.2.2.2.2.2.2.2.2.2.2.2.2.2.1, (b23.cell (p := ⟨_, 6, none⟩) zg).trans hH22.2.2.2.2.2.2.2.2.2.2.2.2.2.2.2.2.2.2.1, (b23.cell (p := ⟨_, 7, none⟩) zg).trans hH22.2.2.2.2.2.2.2.2.2.2.2.2.2.2.2.2.2.2.2.1, (b23.cell (p := ⟨_, 8, none⟩) zg).trans hH22.2.2.2.2.2.2.2.2.2.2.2.2.2.2.2.2.2.2.2.2.1, (b23.cell (p := ⟨_, 9, none⟩) zg).trans hH22.2.2.2.2.2.2.2.2.2.2.2.2.2.2.2.2.2.2.2.2.2.1, (b23.cell (p := ⟨_, 10, none⟩) zg).trans hH22.2.2.2.2.2.2.2.2.2.2.2.2.2.2.2.2.2.2.2.2.2.2.1, (b23.cell (p := ⟨_, 11, none⟩) zg).trans hH22.2.2.2.2.2.2.2.2.2.2.2.2.2.2.2.2.2.2.2.2.2.2.2.1, (b23.cell (p := ⟨_, 12, none⟩) zg).trans hH22.2.2.2.2.2.2.2.2.2.2.2.2.2.2.2.2.2.2.2.2.2.2.2.2.1, (b23.cell (p := ⟨_, 13, none⟩) zg).trans hH22.2.2.2.2.2.2.2.2.2.2.2.2.2.2.2.2.2.2.2.2.2.2.2.2.2.1, (b23.cell (p := ⟨_, 0, none⟩) zh).trans hH22.2.2.2.2.2.2.2.2.2.2.2.2.2.2.2.2.2.2.2.2.2.2.2.2.2.2.1, (b23.cell (p := ⟨_, 1, none⟩) zh).trans hH22.2.2.2.2.2.2.2.2.2.2.2.2.2.2.2.2.2.2.2.2.2.2.2.2.2.2.2.1, (b23.cell (p := ⟨_, 2, none⟩) zh).trans hH22.2.2.2.2.2.2.2.2.2.2.2.2.2.2.2.2.2.2.2.2.2.2.2.2.2.2.2.2.1, (b23.cell (p := ⟨_, 3, none⟩) zh).trans hH22.2.2.2.2.2.2.2.2.2.2.2.2.2.2.2.2.2.2.2.2.2.2.2.2.2.2.2.2.2.1, (b23.cell (p := ⟨_, 4, none⟩) zh).trans hH22.2.2.2.2.2.2.2.2.2.2.2.2.2.2.2.2.2.2.2.2.2.2.2.2.2.2.2.2.2.2.1, (b23.cell (p := ⟨_, 5, none⟩) zh).trans hH22.2.2.2.2.2.2.2.2.2.2.2.2.2.2.2.2.2.2.2.2.2.2.2.2.2.2.2.2.2.2.2.1, (b23.cell (p := ⟨_, 6, none⟩) zh).trans hH22.2.2.2.2.2.2.2.2.2.2.2.2.2.2.2.2.2.2.2.2.2.2.2.2.2.2.2.2.2.2.2.2.1, (b23.cell (p := ⟨_, 7, none⟩) zh).trans hH22.2.2.2.2.2.2.2.2.2.2.2.2.2.2.2.2.2.2.2.2.2.2.2.2.2.2.2.2.2.2.2.2.2.1, (b23.cell (p := ⟨_, 8, none⟩) zh).trans hH22.2.2.2.2.2.2.2.2.2.2.2.2.2.2.2.2.2.2.2.2.2.2.2.2.2.2.2.2.2.2.2.2.2.2.1, (b23.cell (p := ⟨_, 9, none⟩) zh).trans hH22.2.2.2.2.2.2.2.2.2.2.2.2.2.2.2.2.2.2.2.2.2.2.2.2.2.2.2.2.2.2.2.2.2.2.2.1, (b23.cell (p := ⟨_, 10, none⟩) zh).trans hH22.2.2.2.2.2.2.2.2.2.2.2.2.2.2.2.2.2.2.2.2.2.2.2.2.2.2.2.2.2.2.2.2.2.2.2.2.1, (b23.cell (p := ⟨_, 11, none⟩) zh).trans hH22.2.2.2.2.2.2.2.2.2.2.2.2.2.2.2.2.2.2.2.2.2.2.2.2.2.2.2.2.2.2.2.2.2.2.2.2.2.1, (b23.cell (p := ⟨_, 12, none⟩) zh).trans hH22.2.2.2.2.2.2.2.2.2.2.2.2.2.2.2.2.2.2.2.2.2.2.2.2.2.2.2.2.2.2.2.2.2.2.2.2.2.2.1, (b23.cell (p := ⟨_, 13, none⟩) zh).trans hH22.2.2.2.2.2.2.2.2.2.2.2.2.2.2.2.2.2.2.2.2.2.2.2.2.2.2.2.2.2.2.2.2.2.2.2.2.2.2.2.1, (hH22.2.2.2.2.2.2.2.2.2.2.2.2.2.2.2.2.2.2.2.2.2.2.2.2.2.2.2.2.2.2.2.2.2.2.2.2.2.2.2.2.1).below b23, (hH22.2.2.2.2.2.2.2.2.2.2.2.2.2.2.2.2.2.2.2.2.2.2.2.2.2.2.2.2.2.2.2.2.2.2.2.2.2.2.2.2.2.1).below b23, (hH22.2.2.2.2.2.2.2.2.2.2.2.2.2.2.2.2.2.2.2.2.2.2.2.2.2.2.2.2.2.2.2.2.2.2.2.2.2.2.2.2.2.2.1).below b23, (hH22.2.2.2.2.2.2.2.2.2.2.2.2.2.2.2.2.2.2.2.2.2.2.2.2.2.2.2.2.2.2.2.2.2.2.2.2.2.2.2.2.2.2.2).below b23⟩ (fun hH23 => ?_)
  clear hK K
  replace zf := Nat.lt_of_lt_of_le zf b23.size
  replace zp := Nat.lt_of_lt_of_le zp b23.size
  replace zg := Nat.lt_of_lt_of_le zg b23.size
  replace zh := Nat.lt_of_lt_of_le zh b23.size
  refine wpAnyH_take (i := 25) (v := ?_) rfl (by kernel_rfl) (by kernel_rfl) (by kernel_rfl) (fun _ _ _ h => h) (Or.inl ⟨by rfl, ?_⟩) hH23 ?_
  rotate_left
  · ((intro W hW; obtain ⟨s0, s1, s2, s3, s4, s5, s6, s7, s8, s9, s10, s11, s12, s13, s14, s15, s16, s17, s18, s19, s20, s21, s22, s23, s24, s25, s26, s27, s28, s29, s30, s31, s32, s33, s34, s35, s36, s37, s38, s39, q0, q1, q2, q3⟩ := hW; clear q0 q1 q2 q3; go_simp) <;> with_reducible rfl)
  simp only [Act.put, List.getElem_toArray, List.getElem_cons_zero, List.getElem_cons_succ, List.setIfInBounds_toArray, List.set_cons_zero, List.set_cons_succ]
  refine wpAnyH_take (i := 26) (v := ?_) rfl (by kernel_rfl) (by kernel_rfl) (by kernel_rfl) (fun _ _ _ h => h) (Or.inl ⟨by rfl, ?_⟩) hH23 ?_
  rotate_left
  · ((intro W hW; obtain ⟨s0, s1, s2, s3, s4, s5, s6, s7, s8, s9, s10, s11, s12, s13, s14, s15, s16, s17, s18, s19, s20, s21, s22, s23, s24, s25, s26, s27, s28, s29, s30, s31, s32, s33, s34, s35, s36, s37, s38, s39, q0, q1, q2, q3⟩ := hW; clear q0 q1 q2 q3; go_simp) <;> with_reducible rfl)
  simp only [Act.put, List.getElem_toArray, List.getElem_cons_zero, List.getElem_cons_succ, List.setIfInBounds_toArray, List.set_cons_zero, List.set_cons_succ]
  refine wpAnyH_take (i := 27) (v := ?_) rfl (by kernel_rfl) (by kernel_rfl) (by kernel_rfl) (fun _ _ _ h => h) (Or.inl ⟨by rfl, ?_⟩) hH23 ?_
  rotate_left
  · ((intro W hW; obtain ⟨s0, s1, s2, s3, s4, s5, s6, s7, s8, s9, s10, s11, s12, s13, s14, s15, s16, s17, s18, s19, s20, s21, s22, s23, s24, s25, s26, s27, s28, s29, s30, s31, s32, s33, s34, s35, s36, s37, s38, s39, q0, q1, q2, q3⟩ := hW; clear q0 q1 q2 q3; go_simp) <;> with_reducible rfl)
  simp only [Act.put, List.getElem_toArray, List.getElem_cons_zero, List.getElem_cons_succ, List.setIfInBounds_toArray, List.set_cons_zero, List.set_cons_succ]
  refine wpAnyH_take (i := 28) (v := ?_) rfl (by kernel_rfl) (by kernel_rfl) (by kernel_rfl) (fun _ _ _ h => h) (Or.inl ⟨by rfl, ?_⟩) hH23 ?_
  rotate_left
  · ((intro W hW; obtain ⟨s0, s1, s2, s3, s4, s5, s6, s7, s8, s9, s10, s11, s12, s13, s14, s15, s16, s17, s18, s19, s20, s21, s22, s23, s24, s25, s26, s27, s28, s29, s30, s31, s32, s33, s34, s35, s36, s37, s38, s39, q0, q1, q2, q3⟩ := hW; clear q0 q1 q2 q3; go_simp) <;> with_reducible rfl)
  simp only [Act.put, List.getElem_toArray, List.getElem_cons_zero, List.getElem_cons_succ, List.setIfInBounds_toArray, List.set_cons_zero, List.set_cons_succ]
  refine wpAnyH_take (i := 29) (v := ?_) rfl (by kernel_rfl) (by kernel_rfl) (by kernel_rfl) (fun _ _ _ h => h) (Or.inl ⟨by rfl, ?_⟩) hH23 ?_
  rotate_left
  · ((intro W hW; obtain ⟨s0, s1, s2, s3, s4, s5, s6, s7, s8, s9, s10, s11, s12, s13, s14, s15, s16, s17, s18, s19, s20, s21, s22, s23, s24, s25, s26, s27, s28, s29, s30, s31, s32, s33, s34, s35, s36, s37, s38, s39, q0, q1, q2, q3⟩ := hW; clear q0 q1 q2 q3; go_simp) <;> with_reducible rfl)
  simp only [Act.put, List.getElem_toArray, List.getElem_cons_zero, List.getElem_cons_succ, List.setIfInBounds_toArray, List.set_cons_zero, List.set_cons_succ]
  refine wpAnyH_take (i := 30) (v := ?_) rfl (by kernel_rfl) (by kernel_rfl) (by kernel_rfl) (fun _ _ _ h => h) (Or.inl ⟨by rfl, ?_⟩) hH23 ?_
  rotate_left
  · ((intro W hW; obtain ⟨s0, s1, s2, s3, s4, s5, s6, s7, s8, s9, s10, s11, s12, s13, s14, s15, s16, s17, s18, s19, s20, s21, s22, s23, s24, s25, s26, s27, s28, s29, s30, s31, s32, s33, s34, s35, s36, s37, s38, s39, q0, q1, q2, q3⟩ := hW; clear q0 q1 q2 q3; go_simp) <;> with_reducible rfl)
  simp only [Act.put, List.getElem_toArray, List.getElem_cons_zero, List.getElem_cons_succ, List.setIfInBounds_toArray, List.set_cons_zero, List.set_cons_succ]
  refine wpAnyH_take (i := 32) (v := ?_) rfl (by kernel_rfl) (by kernel_rfl) (by kernel_rfl) (fun _ _ _ h => h) (Or.inl ⟨by rfl, ?_⟩) hH23 ?_
  rotate_left
  · ((intro W hW; obtain ⟨s0, s1, s2, s3, s4, s5, s6, s7, s8, s9, s10, s11, s12, s13, s14, s15, s16, s17, s18, s19, s20, s21, s22, s23, s24, s25, s26, s27, s28, s29, s30, s31, s32, s33, s34, s35, s36, s37, s38, s39, q0, q1, q2, q3⟩ := hW; clear q0 q1 q2 q3; go_simp) <;> with_reducible rfl)
  simp only [Act.put, List.getElem_toArray, List.getElem_cons_zero, List.getElem_cons_succ, List.setIfInBounds_toArray, List.set_cons_zero, List.set_cons_succ]
  refine wpAnyH_take (i := 33) (v := ?_) rfl (by kernel_rfl) (by kernel_rfl) (by kernel_rfl) (fun _ _ _ h => h) (Or.inl ⟨by rfl, ?_⟩) hH23 ?_
  rotate_left
  · ((intro W hW; obtain ⟨s0, s1, s2, s3, s4, s5, s6, s7, s8, s9, s10, s11, s12, s13, s14, s15, s16, s17, s18, s19, s20, s21, s22, s23, s24, s25, s26, s27, s28, s29, s30, s31, s32, s33, s34, s35, s36, s37, s38, s39, q0, q1, q2, q3⟩ := hW; clear q0 q1 q2 q3; go_simp) <;> with_reducible rfl)
  simp only [Act.put, List.getElem_toArray, List.getElem_cons_zero, List.getElem_cons_succ, List.setIfInBounds_toArray, List.set_cons_zero, List.set_cons_succ]
  refine wpAnyH_take (i := 34) (v := ?_) rfl (by kernel_rfl) (by kernel_rfl) (by kernel_rfl) (fun _ _ _ h => h) (Or.inl ⟨by rfl, ?_⟩) hH23 ?_
  rotate_left
  · ((intro W hW; obtain ⟨s0, s1, s2, s3, s4, s5, s6, s7, s8, s9, s10, s11, s12, s13, s14, s15, s16, s17, s18, s19, s20, s21, s22, s23, s24, s25, s26, s27, s28, s29, s30, s31, s32, s33, s34, s35, s36, s37, s38, s39, q0, q1, q2, q3⟩ := hW; clear q0 q1 q2 q3; go_simp) <;> with_reducible rfl)
  simp only [Act.put, List.getElem_toArray, List.getElem_cons_zero, List.getElem_cons_succ, List.setIfInBounds_toArray, List.set_cons_zero, List.set_cons_succ]
  refine wpAnyH_ready (rs := [31]) (by kernel_rfl) (by simp) ?_
  refine AllReadyH.cons (o := _) rfl (fun K hK => ?_) AllReadyH.nil
  simp only [List.getElem_toArray, List.getElem_cons_zero, List.getElem_cons_succ]
  go_simp
  with_reducible refine (emine_any p0 p1 p2 p3 p4 p5 m0 m1 m2 m3 m4 m5 _).mono ?_
  rintro e v24 ⟨rfl, b24⟩
  dsimp only
  have bel24 := bel23.trans (b24.mono bel23.size)
  refine hK.out _ _ ⟨(b24.cell (p := ⟨_, 6, none⟩) zf).trans hH23.1, (b24.cell (p := ⟨_, 7, none⟩) zf).trans hH23.2.1, (b24.cell (p := ⟨_, 8, none⟩) zf).trans hH23.2.2.1, (b24.cell (p := ⟨_, 9, none⟩) zf).trans hH23.2.2.2.1, (b24.cell (p := ⟨_, 10, none⟩) zf).trans hH23.2.2.2.2.1, (b24.cell (p := ⟨_, 11, none⟩) zf).trans hH23.2.2.2.2.2.1, (b24.cell (p := ⟨_, 0, none⟩) zp).trans hH23.2.2.2.2.2.2.1, (b24.cell (p := ⟨_, 1, none⟩) zp).trans hH23.2.2.2.2.2.2.2.1, (b24.cell (p := ⟨_, 2, none⟩) zp).trans hH23.2.2.2.2.2.2.2.2.1, (b24.cell (p := ⟨_, 3, none⟩) zp).trans hH23.2.2.2.2.2.2.2.2.2.1, (b24.cell (p := ⟨_, 4, none⟩) zp).trans hH23.2.2.2.2.2.2.2.2.2.2.1, (b24.cell (p := ⟨_, 5, none⟩) zp).trans hH23.2.2.2.2.2.2.2.2.2.2.2.1, (b24.cell (p := ⟨_, 0, none⟩) zg).trans hH23.2.2.2.2.2.2.2.2.2.2.2.2.1, (b24.cell (p := ⟨_, 1, none⟩) zg).trans hH23.2.2.2.2.2.2.2.2.2.2.2.2.2.1, (b24.cell (p := ⟨_, 2, none⟩) zg).trans hH23.2.2.2.2.2.2.2.2.2.2.2.2.2.2.1, (b24.cell (p := ⟨_, 3, none⟩) zg).trans hH23.2.2.2.2.2.2.2.2.2.2.2.2.2.2.2.1, (b24.cell (p := ⟨_, 4, none⟩) zg).trans hH23.2.2.2.2.2.2.2.2.2.2.2.2.2.2.2.2.1, (b24.cell (p := ⟨_, 5, none⟩) zg).trans hH23.2.2.2.2.2.2.2.2.2.2.2.2.2.2.2.2.2.1, (b24.cell (p := ⟨_, 6, none⟩) zg).trans hH23.2.2.2.2.2.2.2.2.2.2.2.2.2.2.2.2.2.2.1, (b24.cell (p := ⟨_, 7, none⟩) zg).trans hH23.2.2.2.2.2.2.2.2.2.2.2.2.2.2.2.2.2.2.2.1, (b24.cell (p := ⟨_, 8, none⟩) zg).trans hH23.2.2.2.2.2.2.2.2.2.2.2.2.2.2.2.2.2.2.2.2.1, (b24.cell (p := ⟨_, 9, none⟩) zg).trans hH23.2.2.2.2.2.2.2.2.2.2.2.2.2.2.2.2.2.2.2.2.2.1, (b24.cell (p := ⟨_, 10, none⟩) zg).trans hH23.2.2.2.2.2.2.2.2.2.2.2.2.2.2.2.2.2.2.2.2.2.2.1, (b24.cell (p := ⟨_, 11, none⟩) zg).trans hH23.2.2.2.2.2.2.2.2.2.2.2.2.2.2.2.2.2.2.2.2.2.2.2.1, (b24.cell (p := ⟨_, 12, none⟩) zg).trans hH23.2.2.2.2.2.2.2.2.2.2.2.2.2.2.2.2.2.2.2.2.2.2.2.2.1, (b24.cell (p := ⟨_, 13, none⟩) zg).trans hH23.2.2.2.2.2.2.2.2.2.2.2.2.2.2.2.2.2.2.2.2.2.2.2.2.2.1, (b24.cell (p := ⟨_, 0, none⟩) zh).trans hH23.2.2.2.2.2.2.2.2.2.2.2.2.2.2.2.2.2.2.2.2.2.2.2.2.2.2.1, (b24.cell (p := ⟨_, 1, none⟩) zh).trans hH23.2.2.2.2.2.2.2.2.2.2.2.2.2.2.2.2.2.2.2.2.2.2.2.2.2.2.2.1, (b24.cell (p := ⟨_, 2, none⟩) zh).trans hH23.2.2.2.2.2.2.2.2.2.2.2.2.2.2.2.2.2.2.2.2.2.2.2.2.2.2.2.2.1, (b24.cell (p := ⟨_, 3, none⟩) zh).trans hH23.2.2.2.2.2.2.2.2.2.2.2.2.2.2.2.2.2.2.2.2.2.2.2.2.2.2.2.2.2.1, (b24.cell (p := ⟨_, 4, none⟩) zh).trans hH23.2.2.2.2.2.2.2.2.2.2.2.2.2.2.2.2.2.2.2.2.2.2.2.2.2.2.2.2.2.2.1, (b24.cell (p := ⟨_, 5, none⟩) zh).trans hH23.2.2.2.2.2.2.2.2.2.2.2.2.2.2.2.2.2.2.2.2.2.2.2.2.2.2.2.2.2.2.2.1, (b24.cell (p := ⟨_, 6, none⟩) zh).trans hH23.2.2.2.2.2.2.2.2.2.2.2.2.2.2.2.2.2.2.2.2.2.2.2.2.2.2.2.2.2.2.2.2.1, (b24.cell (p := ⟨_, 7, none⟩) zh).trans hH23.2.2.2.2.2.2.2.2.2.2.2.2.2.2.2.2.2.2.2.2.2.2.2.2.2.2.2.2.2.2.2.2.2.1, (b24.cell (p := ⟨_, 8, none⟩) zh).trans hH23.2.2.2.2.2.2.2.2.2.2.2.2.2.2.2.2.2.2.2.2.2.2.2.2.2.2.2.2.2.2.2.2.2.2.1, (b24.cell (p := ⟨_, 9, none⟩) zh).trans hH23.2.2.2.2.2.2.2.2.2.2.2.2.2.2.2.2.2.2.2.2.2.2.2.2.2.2.2.2.2.2.2.2.2.2.2.1, (b24.cell (p := ⟨_, 10, none⟩) zh).trans hH23.2.2.2.2.2.2.2.2.2.2.2.2.2.2.2.2.2.2.2.2.2.2.2.2.2.2.2.2.2.2.2.2.2.2.2.2.1, (b24.cell (p := ⟨_, 11, none⟩) zh).trans hH23.2.2.2.2.2.2.2.2.2.2.2.2.2.2.2.2.2.2.2.2.2.2.2.2.2.2.2.2.2.2.2.2.2.2.2.2.2.1, (b24.cell (p := ⟨_, 12, none⟩) zh).trans hH23.2.2.2.2.2.2.2.2.2.2.2.2.2.2.2.2.2.2.2.2.2.2.2.2.2.2.2.2.2.2.2.2.2.2.2.2.2.2.1, (b24.cell (p := ⟨_, 13, none⟩) zh).trans hH23.2.2.2.2.2.2.2.2.2.2.2.2.2.2.2.2.2.2.2.2.2.2.2.2.2.2.2.2.2.2.2.2.2.2.2.2.2.2.2.1, (hH23.2.2.2.2.2.2.2.2.2.2.2.2.2.2.2.2.2.2.2.2.2.2.2.2.2.2.2.2.2.2.2.2.2.2.2.2.2.2.2.2.1).below b24, (hH23.2.2.2.2.2.2.2.2.2.2.2.2.2.2.2.2.2.2.2.2.2.2.2.2.2.2.2.2.2.2.2.2.2.2.2.2.2.2.2.2.2.1).below b24, (hH23.2.2.2.2.2.2.2.2.2.2.2.2.2.2.2.2.2.2.2.2.2.2.2.2.2.2.2.2.2.2.2.2.2.2.2.2.2.2.2.2.2.2.1).below b24, (hH23.2.2.2.2.2.2.2.2.2.2.2.2.2.2.2.2.2.2.2.2.2.2.2.2.2.2.2.2.2.2.2.2.2.2.2.2.2.2.2.2.2.2.2).below b24⟩ (fun hH24 => ?_)
  clear hK K
  replace zf := Nat.lt_of_lt_of_le zf b24.size
  replace zp := Nat.lt_of_lt_of_le zp b24.size
  replace zg := Nat.lt_of_lt_of_le zg b24.size
  replace zh := Nat.lt_of_lt_of_le zh b24.size
  refine wpAnyH_ready (rs := [35]) (by kernel_rfl) (by simp) ?_
  refine AllReadyH.cons (o := _) rfl (fun K hK => ?_) AllReadyH.nil
  simp only [List.getElem_toArray, List.getElem_cons_zero, List.getElem_cons_succ]
  go_simp
  with_reducible refine (rmine_any p0 p1 p2 p3 p4 p5 m0 m1 m2 m3 m4 m5 _).mono ?_
  rintro e v25 ⟨rfl, b25⟩
  dsimp only
  have bel25 := bel24.trans (b25.mono bel24.size)
  refine hK.out _ _ ⟨(b25.cell (p := ⟨_, 6, none⟩) zf).trans hH24.1, (b25.cell (p := ⟨_, 7, none⟩) zf).trans hH24.2.1, (b25.cell (p := ⟨_, 8, none⟩) zf).trans hH24.2.2.1, (b25.cell (p := ⟨_, 9, none⟩) zf).trans hH24.2.2.2.1, (b25.cell (p := ⟨_, 10, none⟩) zf).trans hH24.2.2.2.2.1, (b25.cell (p := ⟨_, 11, none⟩) zf).trans hH24.2.2.2.2.2.1, (b25.cell (p := ⟨_, 0, none⟩) zp).trans hH24.2.2.2.2.2.2.1, (b25.cell (p := ⟨_, 1, none⟩) zp).trans hH24.2.2.2.2.2.2.2.1, (b25.cell (p := ⟨_, 2, none⟩) zp).trans hH24.2.2.2.2.2.2.2.2.1, (b25.cell (p := ⟨_, 3, none⟩) zp).trans hH24.2.2.2.2.2.2.2.2.2.1, (b25.cell (p := ⟨_, 4, none⟩) zp).trans hH24.2.2.2.2.2.2.2.2.2.2.1, (b25.cell (p := ⟨_, 5, none⟩) zp).trans hH24.2.2.2.2.2.2.2.2.2.2.2.1, (b25.cell (p := ⟨_, 0, none⟩) zg).trans hH24.2.2.2.2.2.2.2.2.2.2.2.2.1, (b25.cell (p := ⟨_, 1, none⟩) zg).trans hH24.2.2.2.2.2.2.2.2.2.2.2.2.2.1, (b25.cell (p := ⟨_, 2, none⟩) zg).trans hH24.2.2.2.2.2.2.2.2.2.2.2.2.2.2.1, (b25.cell (p := ⟨_, 3, none⟩) zg).trans hH24.2.2.2.2.2.2.2.2.2.2.2.2.2.2.2.1, (b25.cell (p := ⟨_, 4, none⟩) zg).trans hH24.2.2.2.2.2.2.2.2.2.2.2.2.2.2.2.2.1, (b25.cell (p := ⟨_, 5, none⟩) zg).trans hH24.2.2.2.2.2.2.2.2.2.2.2.2.2.2.2.2.2.1, (b25.cell (p := ⟨_, 6, none⟩) zg).trans hH24.2.2.2.2.2.2.2.2.2.2.2.2.2.2.2.2.2.2.1, (b25.cell (p := ⟨_, 7, none⟩) zg).trans hH24.2.2.2.2.2.2.2.2.2.2.2.2.2.2.2.2.2.2.2.1, (b25.cell (p := ⟨_, 8, none⟩) zg).trans hH24.2.2.2.2.2.2.2.2.2.2.2.2.2.2.2.2.2.2.2.2.1, (b25.cell (p := ⟨_, 9, none⟩) zg).trans hH24.2.2.2.2.2.2.2.2.2.2.2.2.2.2.2.2.2.2.2.2.2.1, (b25.cell (p := ⟨_, 10, none⟩) zg).trans hH24.2.2.2.2.2.2.2.2.2.2.2.2.2.2.2.2.2.2.2.2.2.2.1, (b25.cell (p := ⟨_, 11, none⟩) zg).trans hH24.2.2.2.2.2.2.2.2.2.2.2.2.2.2.2.2.2.2.2.2.2.2.2.1, (b25.cell (p := ⟨_, 12, none⟩) zg).trans hH24.2.2.2.2.2.2.2.2.2.2.2.2.2.2.2.2.2.2.2.2.2.2.2.2.1, (b25.cell (p := ⟨_, 13, none⟩) zg).trans hH24.2.2.2.2.2.2.2.2.2.2.2.2.2.2.2.2.2.2.2.2.2.2.2.2.2.1, (b25.cell (p := ⟨_, 0, none⟩) zh).trans hH24.2.2.2.2.2.2.2.2.2.2.2.2.2.2.2.2.2.2.2.2.2.2.2.2.2.2.1, (b25.cell (p := ⟨_, 1, none⟩) zh).trans hH24.2.2.2.2.2.2.2.2.2.2.2.2.2.2.2.2.2.2.2.2.2.2.2.2.2.2.2.1, (b25.cell (p := ⟨_, 2, none⟩) zh).trans hH24.2.2.2.2.2.2.2.2.2.2.2.2.2.2.2.2.2.2.2.2.2.2.2.2.2.2.2.2.1, (b25.cell (p := ⟨_, 3, none⟩) zh).trans hH24.2.2.2.2.2.2.2.2.2.2.2.2.2.2.2.2.2.2.2.2.2.2.2.2.2.2.2.2.2.1, (b25.cell (p := ⟨_, 4, none⟩) zh).trans hH24.2.2.2.2.2.2.2.2.2.2.2.2.2.2.2.2.2.2.2.2.2.2.2.2.2.2.2.2.2.2.1, (b25.cell (p := ⟨_, 5, none⟩) zh).trans hH24.2.2.2.2.2.2.2.2.2.2.2.2.2.2.2.2.2.2.2.2.2.2.2.2.2.2.2.2.2.2.2.1, (b25.cell (p := ⟨_, 6, none⟩) zh).trans hH24.2.2.2.2.2.2.2.2.2.2.2.2.2.2.2.2.2.2.2.2.2.2.2.2.2.2.2.2.2.2.2.2.1, (b25.cell (p := ⟨_, 7, none⟩) zh).trans hH24.2.2.2.2.2.2.2.2.2.2.2.2.2.2.2.2.2.2.2.2.2.2.2.2.2.2.2.2.2.2.2.2.2.1, (b25.cell (p := ⟨_, 8, none⟩) zh).trans hH24.2.2.2.2.2.2.2.2.2.2.2.2.2.2.2.2.2.2.2.2.2.2.2.2.2.2.2.2.2.2.2.2.2.2.1, (b25.cell (p := ⟨_, 9, none⟩) zh).trans hH24.2.2.2.2.2.2.2.2.2.2.2.2.2.2.2.2.2.2.2.2.2.2.2.2.2.2.2.2.2.2.2.2.2.2.2.1, (b25.cell (p := ⟨_, 10, none⟩) zh).trans hH24.2.2.2.2.2.2.2.2.2.2.2.2.2.2.2.2.2.2.2.2.2.2.2.2.2.2.2.2.2.2.2.2.2.2.2.2.1, (b25.cell (p := ⟨_, 11, none⟩) zh).trans hH24.2.2.2.2.2.2.2.2.2.2.2.2.2.2.2.2.2.2.2.2.2.2.2.2.2.2.2.2.2.2.2.2.2.2.2.2.2.1, (b25.cell (p := ⟨_, 12, none⟩) zh).trans hH24.2.2.2.2.2.2.2.2.2.2.2.2.2.2.2.2.2.2.2.2.2.2.2.2.2.2.2.2.2.2.2.2.2.2.2.2.2.2.1, (b25.cell (p := ⟨_, 13, none⟩) zh).trans hH24.2.2.2.2.2.2.2.2.2.2.2.2.2.2.2.2.2.2.2.2.2.2.2.2.2.2.2.2.2.2.2.2.2.2.2.2.2.2.2.1, (hH24.2.2.2.2.2.2.2.2.2.2.2.2.2.2.2.2.2.2.2.2.2.2.2.2.2.2.2.2.2.2.2.2.2.2.2.2.2.2.2.2.1).below b25, (hH24.2.2.2.2.2.2.2.2.2.2.2.2.2.2.2.2.2.2.2.2.2.2.2.2.2.2.2.2.2.2.2.2.2.2.2.2.2.2.2.2.2.1).below b25, (hH24.2.2.2.2.2.2.2.2.2.2.2.2.2.2.2.2.2.2.2.2.2.2.2.2.2.2.2.2.2.2.2.2.2.2.2.2.2.2.2.2.2.2.1).below b25, (hH24.2.2.2.2.2.2.2.2.2.2.2.2.2.2.2.2.2.2.2.2.2.2.2.2.2.2.2.2.2.2.2.2.2.2.2.2.2.2.2.2.2.2.2).below b25⟩ (fun hH25 => ?_)
  clear hK K
  replace zf := Nat.lt_of_lt_of_le zf b25.size
  replace zp := Nat.lt_of_lt_of_le zp b25.size
  replace zg := Nat.lt_of_lt_of_le zg b25.size
  replace zh := Nat.lt_of_lt_of_le zh b25.size
  refine wpAnyH_take (i := 36) (v := ?_) rfl (by kernel_rfl) (by kernel_rfl) (by kernel_rfl) (fun _ _ _ h => h) (Or.inl ⟨by rfl, ?_⟩) hH25 ?_
  rotate_left
  · ((intro W hW; obtain ⟨s0, s1, s2, s3, s4, s5, s6, s7, s8, s9, s10, s11, s12, s13, s14, s15, s16, s17, s18, s19, s20, s21, s22, s23, s24, s25, s26, s27, s28, s29, s30, s31, s32, s33, s34, s35, s36, s37, s38, s39, q0, q1, q2, q3⟩ := hW; clear q0 q1 q2 q3; go_simp) <;> with_reducible rfl)
  simp only [Act.put, List.getElem_toArray, List.getElem_cons_zero, List.getElem_cons_succ, List.setIfInBounds_toArray, List.set_cons_zero, List.set_cons_succ]
  refine wpAnyH_take (i := 37) (v := ?_) rfl (by kernel_rfl) (by kernel_rfl) (by kernel_rfl) (fun _ _ _ h => h) (Or.inl ⟨by rfl, ?_⟩) hH25 ?_
  rotate_left
  · ((intro W hW; obtain ⟨s0, s1, s2, s3, s4, s5, s6, s7, s8, s9, s10, s11, s12, s13, s14, s15, s16, s17, s18, s19, s20, s21, s22, s23, s24, s25, s26, s27, s28, s29, s30, s31, s32, s33, s34, s35, s36, s37, s38, s39, q0, q1, q2, q3⟩ := hW; clear q0 q1 q2 q3; go_simp) <;> with_reducible rfl)
  simp only [Act.put, List.getElem_toArray, List.getElem_cons_zero, List.getElem_cons_succ, List.setIfInBounds_toArray, List.set_cons_zero, List.set_cons_succ]
  refine wpAnyH_take (i := 38) (v := ?_) rfl (by kernel_rfl) (by kernel_rfl) (by kernel_rfl) (fun _ _ _ h => h) (Or.inl ⟨by rfl, ?_⟩) hH25 ?_
  rotate_left
  · ((intro W hW; obtain ⟨s0, s1, s2, s3, s4, s5, s6, s7, s8, s9, s10, s11, s12, s13, s14, s15, s16, s17, s18, s19, s20, s21, s22, s23, s24, s25, s26, s27, s28, s29, s30, s31, s32, s33, s34, s35, s36, s37, s38, s39, q0, q1, q2, q3⟩ := hW; clear q0 q1 q2 q3; go_simp) <;> with_reducible rfl)
  simp only [Act.put, List.getElem_toArray, List.getElem_cons_zero, List.getElem_cons_succ, List.setIfInBounds_toArray, List.set_cons_zero, List.set_cons_succ]
  refine wpAnyH_done (by kernel_rfl) ?_ _
  go_wp2
  go_ret
  exact ⟨rfl, bel25⟩

theorem etherSays_walk (A : Option Addr) (n c : Nat) (l : List UInt8) (a0 a1 a2 a3 a4 a5 m0 m1 m2 m3 m4 m5 : UInt8) (t : Int) (S : Option Addr) (k d : Nat) (lf : List UInt8) (p0 p1 p2 p3 p4 p5 : UInt8) (w : World) (hl : Sl w A n c l) (hs : Sl w S k d lf) : Calls Try.prog 4 #[.slice A n c, .agg #[.int .u8 (a0.toNat : Int), .int .u8 (a1.toNat : Int), .int .u8 (a2.toNat : Int), .int .u8 (a3.toNat : Int), .int .u8 (a4.toNat : Int), .int .u8 (a5.toNat : Int), .int .u8 (m0.toNat : Int), .int .u8 (m1.toNat : Int), .int .u8 (m2.toNat : Int), .int .u8 (m3.toNat : Int), .int .u8 (m4.toNat : Int), .int .u8 (m5.toNat : Int), .int .i64 t, .slice S k d], .agg #[.int .u8 (p0.toNat : Int), .int .u8 (p1.toNat : Int), .int .u8 (p2.toNat : Int), .int .u8 (p3.toNat : Int), .int .u8 (p4.toNat : Int), .int .u8 (p5.toNat : Int)]] w fun e w' => e = .returned (.bool true) ∧ Below w.heap.size w w' := by
  by_cases h : 1600 < n
  · exact etherSays_long A n c a0 a1 a2 a3 a4 a5 m0 m1 m2 m3 m4 m5 t S k d p0 p1 p2 p3 p4 p5 w h
  by_cases h2 : 1600 < k
  · exact etherSays_body A n c a0 a1 a2 a3 a4 a5 m0 m1 m2 m3 m4 m5 t S k d p0 p1 p2 p3 p4 p5 w (by omega) h2
  · exact etherSays_in A n c l a0 a1 a2 a3 a4 a5 m0 m1 m2 m3 m4 m5 t S k d lf p0 p1 p2 p3 p4 p5 w hl hs (by omega) (by omega)
end Go.Proofs.Ytgaobeoddlmnjaa
