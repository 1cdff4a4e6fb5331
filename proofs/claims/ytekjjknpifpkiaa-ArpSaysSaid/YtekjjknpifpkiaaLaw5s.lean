/- Layer 5: the walk of ArpSays. -/
import Derived.Test.YtekjjknpifpkiaaLaw5
namespace Go.Proofs.Ytekjjknpifpkiaa
open Go.RowKit

theorem same5_ask (e0 e1 e2 e3 e4 e5 : UInt8) (S : Option Addr) (c : Nat) (U : Option Addr) (d : Nat) (l : List UInt8) (w : World) (hs : Sl w S 28 c l) (ht : Sl w U 28 d l) :
    Calls Try.prog 16 #[.agg #[.int .u8 255, .int .u8 255, .int .u8 255, .int .u8 255, .int .u8 255, .int .u8 255, .int .u8 (e0.toNat : Int), .int .u8 (e1.toNat : Int), .int .u8 (e2.toNat : Int), .int .u8 (e3.toNat : Int), .int .u8 (e4.toNat : Int), .int .u8 (e5.toNat : Int), .int .i64 2054, .slice S 28 c], .agg #[.int .u8 255, .int .u8 255, .int .u8 255, .int .u8 255, .int .u8 255, .int .u8 255, .int .u8 (e0.toNat : Int), .int .u8 (e1.toNat : Int), .int .u8 (e2.toNat : Int), .int .u8 (e3.toNat : Int), .int .u8 (e4.toNat : Int), .int .u8 (e5.toNat : Int), .int .i64 2054, .slice U 28 d]] w fun e w' => e = .returned (.bool true) ∧ Below w.heap.size w w' :=
  same5_true 255 255 255 255 255 255 e0 e1 e2 e3 e4 e5 2054 S 28 c U d l w hs ht
set_option maxRecDepth 100000 in
set_option maxHeartbeats 16000000 in
theorem arpSays_long (S : Option Addr) (n c : Nat) (op : Int) (a0 a1 a2 a3 a4 a5 p0 p1 p2 p3 m0 m1 m2 m3 m4 m5 d0 d1 d2 d3 e0 e1 e2 e3 e4 e5 : UInt8) (w : World) (h : 100 < n) : Calls Try.prog 4 #[.slice S n c, .agg #[.int .i64 op, .int .u8 (a0.toNat : Int), .int .u8 (a1.toNat : Int), .int .u8 (a2.toNat : Int), .int .u8 (a3.toNat : Int), .int .u8 (a4.toNat : Int), .int .u8 (a5.toNat : Int), .int .u8 (p0.toNat : Int), .int .u8 (p1.toNat : Int), .int .u8 (p2.toNat : Int), .int .u8 (p3.toNat : Int), .int .u8 (m0.toNat : Int), .int .u8 (m1.toNat : Int), .int .u8 (m2.toNat : Int), .int .u8 (m3.toNat : Int), .int .u8 (m4.toNat : Int), .int .u8 (m5.toNat : Int), .int .u8 (d0.toNat : Int), .int .u8 (d1.toNat : Int), .int .u8 (d2.toNat : Int), .int .u8 (d3.toNat : Int)], .agg #[.int .u8 (e0.toNat : Int), .int .u8 (e1.toNat : Int), .int .u8 (e2.toNat : Int), .int .u8 (e3.toNat : Int), .int .u8 (e4.toNat : Int), .int .u8 (e5.toNat : Int)]] w fun e w' => e = .returned (.bool true) ∧ Below w.heap.size w w' := by
  have bel := Below.refl w.heap.size w
  have hp : (w.alloc (.cells #[.int .i64 op, .int .u8 (a0.toNat : Int), .int .u8 (a1.toNat : Int), .int .u8 (a2.toNat : Int), .int .u8 (a3.toNat : Int), .int .u8 (a4.toNat : Int), .int .u8 (a5.toNat : Int), .int .u8 (p0.toNat : Int), .int .u8 (p1.toNat : Int), .int .u8 (p2.toNat : Int), .int .u8 (p3.toNat : Int), .int .u8 (m0.toNat : Int), .int .u8 (m1.toNat : Int), .int .u8 (m2.toNat : Int), .int .u8 (m3.toNat : Int), .int .u8 (m4.toNat : Int), .int .u8 (m5.toNat : Int), .int .u8 (d0.toNat : Int), .int .u8 (d1.toNat : Int), .int .u8 (d2.toNat : Int), .int .u8 (d3.toNat : Int)] 28)).heap[w.heap.size]? = some (.cells #[.int .i64 op, .int .u8 (a0.toNat : Int), .int .u8 (a1.toNat : Int), .int .u8 (a2.toNat : Int), .int .u8 (a3.toNat : Int), .int .u8 (a4.toNat : Int), .int .u8 (a5.toNat : Int), .int .u8 (p0.toNat : Int), .int .u8 (p1.toNat : Int), .int .u8 (p2.toNat : Int), .int .u8 (p3.toNat : Int), .int .u8 (m0.toNat : Int), .int .u8 (m1.toNat : Int), .int .u8 (m2.toNat : Int), .int .u8 (m3.toNat : Int), .int .u8 (m4.toNat : Int), .int .u8 (m5.toNat : Int), .int .u8 (d0.toNat : Int), .int .u8 (d1.toNat : Int), .int .u8 (d2.toNat : Int), .int .u8 (d3.toNat : Int)] 28 (0, 0)) := by have := heap_alloc_new w (.cells #[.int .i64 op, .int .u8 (a0.toNat : Int), .int .u8 (a1.toNat : Int), .int .u8 (a2.toNat : Int), .int .u8 (a3.toNat : Int), .int .u8 (a4.toNat : Int), .int .u8 (a5.toNat : Int), .int .u8 (p0.toNat : Int), .int .u8 (p1.toNat : Int), .int .u8 (p2.toNat : Int), .int .u8 (p3.toNat : Int), .int .u8 (m0.toNat : Int), .int .u8 (m1.toNat : Int), .int .u8 (m2.toNat : Int), .int .u8 (m3.toNat : Int), .int .u8 (m4.toNat : Int), .int .u8 (m5.toNat : Int), .int .u8 (d0.toNat : Int), .int .u8 (d1.toNat : Int), .int .u8 (d2.toNat : Int), .int .u8 (d3.toNat : Int)] 28); simpa using this
  have zp : w.heap.size < (w.alloc (.cells #[.int .i64 op, .int .u8 (a0.toNat : Int), .int .u8 (a1.toNat : Int), .int .u8 (a2.toNat : Int), .int .u8 (a3.toNat : Int), .int .u8 (a4.toNat : Int), .int .u8 (a5.toNat : Int), .int .u8 (p0.toNat : Int), .int .u8 (p1.toNat : Int), .int .u8 (p2.toNat : Int), .int .u8 (p3.toNat : Int), .int .u8 (m0.toNat : Int), .int .u8 (m1.toNat : Int), .int .u8 (m2.toNat : Int), .int .u8 (m3.toNat : Int), .int .u8 (m4.toNat : Int), .int .u8 (m5.toNat : Int), .int .u8 (d0.toNat : Int), .int .u8 (d1.toNat : Int), .int .u8 (d2.toNat : Int), .int .u8 (d3.toNat : Int)] 28)).heap.size := by simp
  replace bel := bel.alloc bel.size (.cells #[.int .i64 op, .int .u8 (a0.toNat : Int), .int .u8 (a1.toNat : Int), .int .u8 (a2.toNat : Int), .int .u8 (a3.toNat : Int), .int .u8 (a4.toNat : Int), .int .u8 (a5.toNat : Int), .int .u8 (p0.toNat : Int), .int .u8 (p1.toNat : Int), .int .u8 (p2.toNat : Int), .int .u8 (p3.toNat : Int), .int .u8 (m0.toNat : Int), .int .u8 (m1.toNat : Int), .int .u8 (m2.toNat : Int), .int .u8 (m3.toNat : Int), .int .u8 (m4.toNat : Int), .int .u8 (m5.toNat : Int), .int .u8 (d0.toNat : Int), .int .u8 (d1.toNat : Int), .int .u8 (d2.toNat : Int), .int .u8 (d3.toNat : Int)] 28)
  replace hp := (Go.heap_alloc_old (w.alloc (.cells #[.int .i64 op, .int .u8 (a0.toNat : Int), .int .u8 (a1.toNat : Int), .int .u8 (a2.toNat : Int), .int .u8 (a3.toNat : Int), .int .u8 (a4.toNat : Int), .int .u8 (a5.toNat : Int), .int .u8 (p0.toNat : Int), .int .u8 (p1.toNat : Int), .int .u8 (p2.toNat : Int), .int .u8 (p3.toNat : Int), .int .u8 (m0.toNat : Int), .int .u8 (m1.toNat : Int), .int .u8 (m2.toNat : Int), .int .u8 (m3.toNat : Int), .int .u8 (m4.toNat : Int), .int .u8 (m5.toNat : Int), .int .u8 (d0.toNat : Int), .int .u8 (d1.toNat : Int), .int .u8 (d2.toNat : Int), .int .u8 (d3.toNat : Int)] 28)) (.cells #[.int .u8 (e0.toNat : Int), .int .u8 (e1.toNat : Int), .int .u8 (e2.toNat : Int), .int .u8 (e3.toNat : Int), .int .u8 (e4.toNat : Int), .int .u8 (e5.toNat : Int)] 24) (r := w.heap.size) zp).trans hp
  have hm : ((w.alloc (.cells #[.int .i64 op, .int .u8 (a0.toNat : Int), .int .u8 (a1.toNat : Int), .int .u8 (a2.toNat : Int), .int .u8 (a3.toNat : Int), .int .u8 (a4.toNat : Int), .int .u8 (a5.toNat : Int), .int .u8 (p0.toNat : Int), .int .u8 (p1.toNat : Int), .int .u8 (p2.toNat : Int), .int .u8 (p3.toNat : Int), .int .u8 (m0.toNat : Int), .int .u8 (m1.toNat : Int), .int .u8 (m2.toNat : Int), .int .u8 (m3.toNat : Int), .int .u8 (m4.toNat : Int), .int .u8 (m5.toNat : Int), .int .u8 (d0.toNat : Int), .int .u8 (d1.toNat : Int), .int .u8 (d2.toNat : Int), .int .u8 (d3.toNat : Int)] 28)).alloc (.cells #[.int .u8 (e0.toNat : Int), .int .u8 (e1.toNat : Int), .int .u8 (e2.toNat : Int), .int .u8 (e3.toNat : Int), .int .u8 (e4.toNat : Int), .int .u8 (e5.toNat : Int)] 24)).heap[w.heap.size + 1]? = some (.cells #[.int .u8 (e0.toNat : Int), .int .u8 (e1.toNat : Int), .int .u8 (e2.toNat : Int), .int .u8 (e3.toNat : Int), .int .u8 (e4.toNat : Int), .int .u8 (e5.toNat : Int)] 24 (0, 0)) := by have := heap_alloc_new (w.alloc (.cells #[.int .i64 op, .int .u8 (a0.toNat : Int), .int .u8 (a1.toNat : Int), .int .u8 (a2.toNat : Int), .int .u8 (a3.toNat : Int), .int .u8 (a4.toNat : Int), .int .u8 (a5.toNat : Int), .int .u8 (p0.toNat : Int), .int .u8 (p1.toNat : Int), .int .u8 (p2.toNat : Int), .int .u8 (p3.toNat : Int), .int .u8 (m0.toNat : Int), .int .u8 (m1.toNat : Int), .int .u8 (m2.toNat : Int), .int .u8 (m3.toNat : Int), .int .u8 (m4.toNat : Int), .int .u8 (m5.toNat : Int), .int .u8 (d0.toNat : Int), .int .u8 (d1.toNat : Int), .int .u8 (d2.toNat : Int), .int .u8 (d3.toNat : Int)] 28)) (.cells #[.int .u8 (e0.toNat : Int), .int .u8 (e1.toNat : Int), .int .u8 (e2.toNat : Int), .int .u8 (e3.toNat : Int), .int .u8 (e4.toNat : Int), .int .u8 (e5.toNat : Int)] 24); simpa using this
  replace zp := Nat.lt_trans zp (show (w.alloc (.cells #[.int .i64 op, .int .u8 (a0.toNat : Int), .int .u8 (a1.toNat : Int), .int .u8 (a2.toNat : Int), .int .u8 (a3.toNat : Int), .int .u8 (a4.toNat : Int), .int .u8 (a5.toNat : Int), .int .u8 (p0.toNat : Int), .int .u8 (p1.toNat : Int), .int .u8 (p2.toNat : Int), .int .u8 (p3.toNat : Int), .int .u8 (m0.toNat : Int), .int .u8 (m1.toNat : Int), .int .u8 (m2.toNat : Int), .int .u8 (m3.toNat : Int), .int .u8 (m4.toNat : Int), .int .u8 (m5.toNat : Int), .int .u8 (d0.toNat : Int), .int .u8 (d1.toNat : Int), .int .u8 (d2.toNat : Int), .int .u8 (d3.toNat : Int)] 28)).heap.size < ((w.alloc (.cells #[.int .i64 op, .int .u8 (a0.toNat : Int), .int .u8 (a1.toNat : Int), .int .u8 (a2.toNat : Int), .int .u8 (a3.toNat : Int), .int .u8 (a4.toNat : Int), .int .u8 (a5.toNat : Int), .int .u8 (p0.toNat : Int), .int .u8 (p1.toNat : Int), .int .u8 (p2.toNat : Int), .int .u8 (p3.toNat : Int), .int .u8 (m0.toNat : Int), .int .u8 (m1.toNat : Int), .int .u8 (m2.toNat : Int), .int .u8 (m3.toNat : Int), .int .u8 (m4.toNat : Int), .int .u8 (m5.toNat : Int), .int .u8 (d0.toNat : Int), .int .u8 (d1.toNat : Int), .int .u8 (d2.toNat : Int), .int .u8 (d3.toNat : Int)] 28)).alloc (.cells #[.int .u8 (e0.toNat : Int), .int .u8 (e1.toNat : Int), .int .u8 (e2.toNat : Int), .int .u8 (e3.toNat : Int), .int .u8 (e4.toNat : Int), .int .u8 (e5.toNat : Int)] 24)).heap.size by simp)
  have zm : w.heap.size + 1 < ((w.alloc (.cells #[.int .i64 op, .int .u8 (a0.toNat : Int), .int .u8 (a1.toNat : Int), .int .u8 (a2.toNat : Int), .int .u8 (a3.toNat : Int), .int .u8 (a4.toNat : Int), .int .u8 (a5.toNat : Int), .int .u8 (p0.toNat : Int), .int .u8 (p1.toNat : Int), .int .u8 (p2.toNat : Int), .int .u8 (p3.toNat : Int), .int .u8 (m0.toNat : Int), .int .u8 (m1.toNat : Int), .int .u8 (m2.toNat : Int), .int .u8 (m3.toNat : Int), .int .u8 (m4.toNat : Int), .int .u8 (m5.toNat : Int), .int .u8 (d0.toNat : Int), .int .u8 (d1.toNat : Int), .int .u8 (d2.toNat : Int), .int .u8 (d3.toNat : Int)] 28)).alloc (.cells #[.int .u8 (e0.toNat : Int), .int .u8 (e1.toNat : Int), .int .u8 (e2.toNat : Int), .int .u8 (e3.toNat : Int), .int .u8 (e4.toNat : Int), .int .u8 (e5.toNat : Int)] 24)).heap.size := by simp
  replace bel := bel.alloc bel.size (.cells #[.int .u8 (e0.toNat : Int), .int .u8 (e1.toNat : Int), .int .u8 (e2.toNat : Int), .int .u8 (e3.toNat : Int), .int .u8 (e4.toNat : Int), .int .u8 (e5.toNat : Int)] 24)
  have t1 : (100 : Int) < n := by omega
  clear h
  go_enter Try.func4, Try.ntmps4
  go_wp2_with fail
  with_reducible refine (awake5 _).mono ?_
  rintro e w1 ⟨rfl, b1⟩
  replace hp := (b1.block _ zp).trans hp
  replace zp := Nat.lt_of_lt_of_le zp b1.size
  replace hm := (b1.block _ zm).trans hm
  replace zm := Nat.lt_of_lt_of_le zm b1.size
  replace bel := bel.trans (b1.mono bel.size)
  clear b1
  go_wp2_with fail
  go_ret
  exact ⟨rfl, bel⟩
set_option maxRecDepth 100000 in
set_option maxHeartbeats 16000000 in
theorem arpSays_ok1 (S : Option Addr) (n c : Nat) (l : List UInt8) (a0 a1 a2 a3 a4 a5 p0 p1 p2 p3 m0 m1 m2 m3 m4 m5 d0 d1 d2 d3 e0 e1 e2 e3 e4 e5 : UInt8) (w : World) (hl : Sl w S n c l) (hn : n ≤ 100) : Calls Try.prog 4 #[.slice S n c, .agg #[.int .i64 1, .int .u8 (a0.toNat : Int), .int .u8 (a1.toNat : Int), .int .u8 (a2.toNat : Int), .int .u8 (a3.toNat : Int), .int .u8 (a4.toNat : Int), .int .u8 (a5.toNat : Int), .int .u8 (p0.toNat : Int), .int .u8 (p1.toNat : Int), .int .u8 (p2.toNat : Int), .int .u8 (p3.toNat : Int), .int .u8 (m0.toNat : Int), .int .u8 (m1.toNat : Int), .int .u8 (m2.toNat : Int), .int .u8 (m3.toNat : Int), .int .u8 (m4.toNat : Int), .int .u8 (m5.toNat : Int), .int .u8 (d0.toNat : Int), .int .u8 (d1.toNat : Int), .int .u8 (d2.toNat : Int), .int .u8 (d3.toNat : Int)], .agg #[.int .u8 (e0.toNat : Int), .int .u8 (e1.toNat : Int), .int .u8 (e2.toNat : Int), .int .u8 (e3.toNat : Int), .int .u8 (e4.toNat : Int), .int .u8 (e5.toNat : Int)]] w fun e w' => e = .returned (.bool true) ∧ Below w.heap.size w w' := by
  have bel := Below.refl w.heap.size w
  have hp : (w.alloc (.cells #[.int .i64 1, .int .u8 (a0.toNat : Int), .int .u8 (a1.toNat : Int), .int .u8 (a2.toNat : Int), .int .u8 (a3.toNat : Int), .int .u8 (a4.toNat : Int), .int .u8 (a5.toNat : Int), .int .u8 (p0.toNat : Int), .int .u8 (p1.toNat : Int), .int .u8 (p2.toNat : Int), .int .u8 (p3.toNat : Int), .int .u8 (m0.toNat : Int), .int .u8 (m1.toNat : Int), .int .u8 (m2.toNat : Int), .int .u8 (m3.toNat : Int), .int .u8 (m4.toNat : Int), .int .u8 (m5.toNat : Int), .int .u8 (d0.toNat : Int), .int .u8 (d1.toNat : Int), .int .u8 (d2.toNat : Int), .int .u8 (d3.toNat : Int)] 28)).heap[w.heap.size]? = some (.cells #[.int .i64 1, .int .u8 (a0.toNat : Int), .int .u8 (a1.toNat : Int), .int .u8 (a2.toNat : Int), .int .u8 (a3.toNat : Int), .int .u8 (a4.toNat : Int), .int .u8 (a5.toNat : Int), .int .u8 (p0.toNat : Int), .int .u8 (p1.toNat : Int), .int .u8 (p2.toNat : Int), .int .u8 (p3.toNat : Int), .int .u8 (m0.toNat : Int), .int .u8 (m1.toNat : Int), .int .u8 (m2.toNat : Int), .int .u8 (m3.toNat : Int), .int .u8 (m4.toNat : Int), .int .u8 (m5.toNat : Int), .int .u8 (d0.toNat : Int), .int .u8 (d1.toNat : Int), .int .u8 (d2.toNat : Int), .int .u8 (d3.toNat : Int)] 28 (0, 0)) := by have := heap_alloc_new w (.cells #[.int .i64 1, .int .u8 (a0.toNat : Int), .int .u8 (a1.toNat : Int), .int .u8 (a2.toNat : Int), .int .u8 (a3.toNat : Int), .int .u8 (a4.toNat : Int), .int .u8 (a5.toNat : Int), .int .u8 (p0.toNat : Int), .int .u8 (p1.toNat : Int), .int .u8 (p2.toNat : Int), .int .u8 (p3.toNat : Int), .int .u8 (m0.toNat : Int), .int .u8 (m1.toNat : Int), .int .u8 (m2.toNat : Int), .int .u8 (m3.toNat : Int), .int .u8 (m4.toNat : Int), .int .u8 (m5.toNat : Int), .int .u8 (d0.toNat : Int), .int .u8 (d1.toNat : Int), .int .u8 (d2.toNat : Int), .int .u8 (d3.toNat : Int)] 28); simpa using this
  have zp : w.heap.size < (w.alloc (.cells #[.int .i64 1, .int .u8 (a0.toNat : Int), .int .u8 (a1.toNat : Int), .int .u8 (a2.toNat : Int), .int .u8 (a3.toNat : Int), .int .u8 (a4.toNat : Int), .int .u8 (a5.toNat : Int), .int .u8 (p0.toNat : Int), .int .u8 (p1.toNat : Int), .int .u8 (p2.toNat : Int), .int .u8 (p3.toNat : Int), .int .u8 (m0.toNat : Int), .int .u8 (m1.toNat : Int), .int .u8 (m2.toNat : Int), .int .u8 (m3.toNat : Int), .int .u8 (m4.toNat : Int), .int .u8 (m5.toNat : Int), .int .u8 (d0.toNat : Int), .int .u8 (d1.toNat : Int), .int .u8 (d2.toNat : Int), .int .u8 (d3.toNat : Int)] 28)).heap.size := by simp
  replace bel := bel.alloc bel.size (.cells #[.int .i64 1, .int .u8 (a0.toNat : Int), .int .u8 (a1.toNat : Int), .int .u8 (a2.toNat : Int), .int .u8 (a3.toNat : Int), .int .u8 (a4.toNat : Int), .int .u8 (a5.toNat : Int), .int .u8 (p0.toNat : Int), .int .u8 (p1.toNat : Int), .int .u8 (p2.toNat : Int), .int .u8 (p3.toNat : Int), .int .u8 (m0.toNat : Int), .int .u8 (m1.toNat : Int), .int .u8 (m2.toNat : Int), .int .u8 (m3.toNat : Int), .int .u8 (m4.toNat : Int), .int .u8 (m5.toNat : Int), .int .u8 (d0.toNat : Int), .int .u8 (d1.toNat : Int), .int .u8 (d2.toNat : Int), .int .u8 (d3.toNat : Int)] 28)
  replace hp := (Go.heap_alloc_old (w.alloc (.cells #[.int .i64 1, .int .u8 (a0.toNat : Int), .int .u8 (a1.toNat : Int), .int .u8 (a2.toNat : Int), .int .u8 (a3.toNat : Int), .int .u8 (a4.toNat : Int), .int .u8 (a5.toNat : Int), .int .u8 (p0.toNat : Int), .int .u8 (p1.toNat : Int), .int .u8 (p2.toNat : Int), .int .u8 (p3.toNat : Int), .int .u8 (m0.toNat : Int), .int .u8 (m1.toNat : Int), .int .u8 (m2.toNat : Int), .int .u8 (m3.toNat : Int), .int .u8 (m4.toNat : Int), .int .u8 (m5.toNat : Int), .int .u8 (d0.toNat : Int), .int .u8 (d1.toNat : Int), .int .u8 (d2.toNat : Int), .int .u8 (d3.toNat : Int)] 28)) (.cells #[.int .u8 (e0.toNat : Int), .int .u8 (e1.toNat : Int), .int .u8 (e2.toNat : Int), .int .u8 (e3.toNat : Int), .int .u8 (e4.toNat : Int), .int .u8 (e5.toNat : Int)] 24) (r := w.heap.size) zp).trans hp
  have hm : ((w.alloc (.cells #[.int .i64 1, .int .u8 (a0.toNat : Int), .int .u8 (a1.toNat : Int), .int .u8 (a2.toNat : Int), .int .u8 (a3.toNat : Int), .int .u8 (a4.toNat : Int), .int .u8 (a5.toNat : Int), .int .u8 (p0.toNat : Int), .int .u8 (p1.toNat : Int), .int .u8 (p2.toNat : Int), .int .u8 (p3.toNat : Int), .int .u8 (m0.toNat : Int), .int .u8 (m1.toNat : Int), .int .u8 (m2.toNat : Int), .int .u8 (m3.toNat : Int), .int .u8 (m4.toNat : Int), .int .u8 (m5.toNat : Int), .int .u8 (d0.toNat : Int), .int .u8 (d1.toNat : Int), .int .u8 (d2.toNat : Int), .int .u8 (d3.toNat : Int)] 28)).alloc (.cells #[.int .u8 (e0.toNat : Int), .int .u8 (e1.toNat : Int), .int .u8 (e2.toNat : Int), .int .u8 (e3.toNat : Int), .int .u8 (e4.toNat : Int), .int .u8 (e5.toNat : Int)] 24)).heap[w.heap.size + 1]? = some (.cells #[.int .u8 (e0.toNat : Int), .int .u8 (e1.toNat : Int), .int .u8 (e2.toNat : Int), .int .u8 (e3.toNat : Int), .int .u8 (e4.toNat : Int), .int .u8 (e5.toNat : Int)] 24 (0, 0)) := by have := heap_alloc_new (w.alloc (.cells #[.int .i64 1, .int .u8 (a0.toNat : Int), .int .u8 (a1.toNat : Int), .int .u8 (a2.toNat : Int), .int .u8 (a3.toNat : Int), .int .u8 (a4.toNat : Int), .int .u8 (a5.toNat : Int), .int .u8 (p0.toNat : Int), .int .u8 (p1.toNat : Int), .int .u8 (p2.toNat : Int), .int .u8 (p3.toNat : Int), .int .u8 (m0.toNat : Int), .int .u8 (m1.toNat : Int), .int .u8 (m2.toNat : Int), .int .u8 (m3.toNat : Int), .int .u8 (m4.toNat : Int), .int .u8 (m5.toNat : Int), .int .u8 (d0.toNat : Int), .int .u8 (d1.toNat : Int), .int .u8 (d2.toNat : Int), .int .u8 (d3.toNat : Int)] 28)) (.cells #[.int .u8 (e0.toNat : Int), .int .u8 (e1.toNat : Int), .int .u8 (e2.toNat : Int), .int .u8 (e3.toNat : Int), .int .u8 (e4.toNat : Int), .int .u8 (e5.toNat : Int)] 24); simpa using this
  replace zp := Nat.lt_trans zp (show (w.alloc (.cells #[.int .i64 1, .int .u8 (a0.toNat : Int), .int .u8 (a1.toNat : Int), .int .u8 (a2.toNat : Int), .int .u8 (a3.toNat : Int), .int .u8 (a4.toNat : Int), .int .u8 (a5.toNat : Int), .int .u8 (p0.toNat : Int), .int .u8 (p1.toNat : Int), .int .u8 (p2.toNat : Int), .int .u8 (p3.toNat : Int), .int .u8 (m0.toNat : Int), .int .u8 (m1.toNat : Int), .int .u8 (m2.toNat : Int), .int .u8 (m3.toNat : Int), .int .u8 (m4.toNat : Int), .int .u8 (m5.toNat : Int), .int .u8 (d0.toNat : Int), .int .u8 (d1.toNat : Int), .int .u8 (d2.toNat : Int), .int .u8 (d3.toNat : Int)] 28)).heap.size < ((w.alloc (.cells #[.int .i64 1, .int .u8 (a0.toNat : Int), .int .u8 (a1.toNat : Int), .int .u8 (a2.toNat : Int), .int .u8 (a3.toNat : Int), .int .u8 (a4.toNat : Int), .int .u8 (a5.toNat : Int), .int .u8 (p0.toNat : Int), .int .u8 (p1.toNat : Int), .int .u8 (p2.toNat : Int), .int .u8 (p3.toNat : Int), .int .u8 (m0.toNat : Int), .int .u8 (m1.toNat : Int), .int .u8 (m2.toNat : Int), .int .u8 (m3.toNat : Int), .int .u8 (m4.toNat : Int), .int .u8 (m5.toNat : Int), .int .u8 (d0.toNat : Int), .int .u8 (d1.toNat : Int), .int .u8 (d2.toNat : Int), .int .u8 (d3.toNat : Int)] 28)).alloc (.cells #[.int .u8 (e0.toNat : Int), .int .u8 (e1.toNat : Int), .int .u8 (e2.toNat : Int), .int .u8 (e3.toNat : Int), .int .u8 (e4.toNat : Int), .int .u8 (e5.toNat : Int)] 24)).heap.size by simp)
  have zm : w.heap.size + 1 < ((w.alloc (.cells #[.int .i64 1, .int .u8 (a0.toNat : Int), .int .u8 (a1.toNat : Int), .int .u8 (a2.toNat : Int), .int .u8 (a3.toNat : Int), .int .u8 (a4.toNat : Int), .int .u8 (a5.toNat : Int), .int .u8 (p0.toNat : Int), .int .u8 (p1.toNat : Int), .int .u8 (p2.toNat : Int), .int .u8 (p3.toNat : Int), .int .u8 (m0.toNat : Int), .int .u8 (m1.toNat : Int), .int .u8 (m2.toNat : Int), .int .u8 (m3.toNat : Int), .int .u8 (m4.toNat : Int), .int .u8 (m5.toNat : Int), .int .u8 (d0.toNat : Int), .int .u8 (d1.toNat : Int), .int .u8 (d2.toNat : Int), .int .u8 (d3.toNat : Int)] 28)).alloc (.cells #[.int .u8 (e0.toNat : Int), .int .u8 (e1.toNat : Int), .int .u8 (e2.toNat : Int), .int .u8 (e3.toNat : Int), .int .u8 (e4.toNat : Int), .int .u8 (e5.toNat : Int)] 24)).heap.size := by simp
  replace bel := bel.alloc bel.size (.cells #[.int .u8 (e0.toNat : Int), .int .u8 (e1.toNat : Int), .int .u8 (e2.toNat : Int), .int .u8 (e3.toNat : Int), .int .u8 (e4.toNat : Int), .int .u8 (e5.toNat : Int)] 24)
  obtain ⟨ii, hii, hz0, hz1, hz2⟩ := info_parts Try.info5
  have t1 : decide ((100 : Int) < n) = false := decide_eq_false (by omega)
  have HN := Lib.hid hn
  have hsb := hl.below bel
  clear hn hl
  go_enter Try.func4, Try.ntmps4
  go_wp2_with fail
  with_reducible refine (awake5 _).mono ?_
  rintro e w1 ⟨rfl, b1⟩
  replace hp := (b1.block _ zp).trans hp
  replace zp := Nat.lt_of_lt_of_le zp b1.size
  replace hm := (b1.block _ zm).trans hm
  replace zm := Nat.lt_of_lt_of_le zm b1.size
  replace hsb := hsb.below b1
  replace bel := bel.trans (b1.mono bel.size)
  clear b1
  have own0 := own_empty w1
  have bz := (Below.refl w1.heap.size w1).alloc (Nat.le_refl _) (.cells #[] 5)
  have sa := hsb.below bz
  go_wp2_with (at_builtin; refine wpList_append_bb _ rfl (.tmp 22) (.tmp 23) 32 rfl w1.heap.size 5 ii (.int .u8 0) Try.underlying32 hii hz0 hz1 hz2 rfl _ (0) ([]) rfl own0 S (n) (c) (l) rfl sa ?c1 ?c2 ?_)
  case c1 => have := HN.out; omega
  case c2 => exact bz.size
  intro r2 y2 own2 bb
  replace bz := bz.trans bb
  clear bb sa own0
  replace own2 : y2.ownsRow w1.heap.size 5 1 r2 (n) ((l).map u8v) := by simpa using own2
  replace hp := (bz.block _ zp).trans hp
  replace zp := Nat.lt_of_lt_of_le zp bz.size
  replace hm := (bz.block _ zm).trans hm
  replace zm := Nat.lt_of_lt_of_le zm bz.size
  replace hsb := hsb.below bz
  replace bel := bel.trans (bz.mono bel.size)
  clear bz
  obtain ⟨Asg, csg, esg, sg, fsg⟩ := Sl.of_own_f own2
  subst esg
  clear own2
  go_wp2_with fail
  with_reducible refine (aget5_any Asg n csg l _ sg).mono ?_
  rintro e w3 ⟨o1, ga0, ga1, ga2, ga3, ga4, ga5, ga6, ga7, ga8, ga9, ga10, ga11, ga12, ga13, ga14, ga15, ga16, ga17, ga18, ga19, r1, rfl, b3, hg1⟩
  replace hp := (b3.block _ zp).trans hp
  replace zp := Nat.lt_of_lt_of_le zp b3.size
  replace hm := (b3.block _ zm).trans hm
  replace zm := Nat.lt_of_lt_of_le zm b3.size
  replace hsb := hsb.below b3
  replace bel := bel.trans (b3.mono bel.size)
  clear b3
  clear sg fsg
  have nq := heap_alloc_new w3 (.cells #[.int .i64 0, .int .u8 0, .int .u8 0, .int .u8 0, .int .u8 0, .int .u8 0, .int .u8 0, .int .u8 0, .int .u8 0, .int .u8 0, .int .u8 0, .int .u8 0, .int .u8 0, .int .u8 0, .int .u8 0, .int .u8 0, .int .u8 0, .int .u8 0, .int .u8 0, .int .u8 0, .int .u8 0] 28)
  have bqq := (Below.refl w3.heap.size w3).alloc (Nat.le_refl _) (.cells #[.int .i64 0, .int .u8 0, .int .u8 0, .int .u8 0, .int .u8 0, .int .u8 0, .int .u8 0, .int .u8 0, .int .u8 0, .int .u8 0, .int .u8 0, .int .u8 0, .int .u8 0, .int .u8 0, .int .u8 0, .int .u8 0, .int .u8 0, .int .u8 0, .int .u8 0, .int .u8 0, .int .u8 0] 28)
  go_wp2_with (first | ((with_reducible show wpList _ _ _ (⟨none, Op.store _ _ _, _, _, _, _⟩ :: _) _ _); refine wpList_store_blk rfl 28 _ _ rfl (w3.heap.size) rfl #[.int .i64 o1, .int .u8 (ga0.toNat : Int), .int .u8 (ga1.toNat : Int), .int .u8 (ga2.toNat : Int), .int .u8 (ga3.toNat : Int), .int .u8 (ga4.toNat : Int), .int .u8 (ga5.toNat : Int), .int .u8 (ga6.toNat : Int), .int .u8 (ga7.toNat : Int), .int .u8 (ga8.toNat : Int), .int .u8 (ga9.toNat : Int), .int .u8 (ga10.toNat : Int), .int .u8 (ga11.toNat : Int), .int .u8 (ga12.toNat : Int), .int .u8 (ga13.toNat : Int), .int .u8 (ga14.toNat : Int), .int .u8 (ga15.toNat : Int), .int .u8 (ga16.toNat : Int), .int .u8 (ga17.toNat : Int), .int .u8 (ga18.toNat : Int), .int .u8 (ga19.toNat : Int)] rfl _ 28 nq (by rfl) (by kernel_rfl) (by kernel_rfl) ?_; intro x4 hq gq; have bz := below_grown bqq gq (Nat.le_refl _) bqq.size; replace hp := (bz.block _ zp).trans hp; replace zp := Nat.lt_of_lt_of_le zp bz.size; replace hm := (bz.block _ zm).trans hm; replace zm := Nat.lt_of_lt_of_le zm bz.size; replace hsb := hsb.below bz; replace bel := bel.trans (bz.mono bel.size); have zq := (Array.getElem?_eq_some_iff.1 hq).1; clear nq bqq bz gq))
  with_reducible refine (rget5_any S n c l _ hsb (by have := HN.out; omega)).mono ?_
  rintro e w5 ⟨o2, gb0, gb1, gb2, gb3, gb4, gb5, gb6, gb7, gb8, gb9, gb10, gb11, gb12, gb13, gb14, gb15, gb16, gb17, gb18, gb19, r2, rfl, b5, hg2⟩
  replace hp := (b5.block _ zp).trans hp
  replace zp := Nat.lt_of_lt_of_le zp b5.size
  replace hm := (b5.block _ zm).trans hm
  replace zm := Nat.lt_of_lt_of_le zm b5.size
  replace hq := (b5.block _ zq).trans hq
  replace zq := Nat.lt_of_lt_of_le zq b5.size
  replace hsb := hsb.below b5
  replace bel := bel.trans (b5.mono bel.size)
  clear b5
  have hh := hg2.trans hg1.symm
  simp only [Prod.mk.injEq, List.cons.injEq, and_true] at hh
  obtain ⟨⟨rfl, rfl, rfl, rfl, rfl, rfl, rfl, rfl, rfl, rfl, rfl, rfl, rfl, rfl, rfl, rfl, rfl, rfl, rfl, rfl, rfl⟩, rfl⟩ := hh
  clear hg1 hg2 hsb
  have nr := heap_alloc_new w5 (.cells #[.int .i64 0, .int .u8 0, .int .u8 0, .int .u8 0, .int .u8 0, .int .u8 0, .int .u8 0, .int .u8 0, .int .u8 0, .int .u8 0, .int .u8 0, .int .u8 0, .int .u8 0, .int .u8 0, .int .u8 0, .int .u8 0, .int .u8 0, .int .u8 0, .int .u8 0, .int .u8 0, .int .u8 0] 41)
  have bqr := (Below.refl w5.heap.size w5).alloc (Nat.le_refl _) (.cells #[.int .i64 0, .int .u8 0, .int .u8 0, .int .u8 0, .int .u8 0, .int .u8 0, .int .u8 0, .int .u8 0, .int .u8 0, .int .u8 0, .int .u8 0, .int .u8 0, .int .u8 0, .int .u8 0, .int .u8 0, .int .u8 0, .int .u8 0, .int .u8 0, .int .u8 0, .int .u8 0, .int .u8 0] 41)
  go_wp2_with (first | ((with_reducible show wpList _ _ _ (⟨none, Op.store _ _ _, _, _, _, _⟩ :: _) _ _); refine wpList_store_blk rfl 41 _ _ rfl (w5.heap.size) rfl #[.int .i64 o2, .int .u8 (gb0.toNat : Int), .int .u8 (gb1.toNat : Int), .int .u8 (gb2.toNat : Int), .int .u8 (gb3.toNat : Int), .int .u8 (gb4.toNat : Int), .int .u8 (gb5.toNat : Int), .int .u8 (gb6.toNat : Int), .int .u8 (gb7.toNat : Int), .int .u8 (gb8.toNat : Int), .int .u8 (gb9.toNat : Int), .int .u8 (gb10.toNat : Int), .int .u8 (gb11.toNat : Int), .int .u8 (gb12.toNat : Int), .int .u8 (gb13.toNat : Int), .int .u8 (gb14.toNat : Int), .int .u8 (gb15.toNat : Int), .int .u8 (gb16.toNat : Int), .int .u8 (gb17.toNat : Int), .int .u8 (gb18.toNat : Int), .int .u8 (gb19.toNat : Int)] rfl _ 41 nr (by rfl) (by kernel_rfl) (by kernel_rfl) ?_; intro x6 hr gr; have bz := below_grown bqr gr (Nat.le_refl _) bqr.size; replace hp := (bz.block _ zp).trans hp; replace zp := Nat.lt_of_lt_of_le zp bz.size; replace hm := (bz.block _ zm).trans hm; replace zm := Nat.lt_of_lt_of_le zm bz.size; replace hq := (bz.block _ zq).trans hq; replace zq := Nat.lt_of_lt_of_le zq bz.size; replace bel := bel.trans (bz.mono bel.size); have zr := (Array.getElem?_eq_some_iff.1 hr).1; clear nr bqr bz gr; have R4 := Lib.hid (range_lit hp 0 21 [.int .i64 1, .int .u8 (a0.toNat : Int), .int .u8 (a1.toNat : Int), .int .u8 (a2.toNat : Int), .int .u8 (a3.toNat : Int), .int .u8 (a4.toNat : Int), .int .u8 (a5.toNat : Int), .int .u8 (p0.toNat : Int), .int .u8 (p1.toNat : Int), .int .u8 (p2.toNat : Int), .int .u8 (p3.toNat : Int), .int .u8 (m0.toNat : Int), .int .u8 (m1.toNat : Int), .int .u8 (m2.toNat : Int), .int .u8 (m3.toNat : Int), .int .u8 (m4.toNat : Int), .int .u8 (m5.toNat : Int), .int .u8 (d0.toNat : Int), .int .u8 (d1.toNat : Int), .int .u8 (d2.toNat : Int), .int .u8 (d3.toNat : Int)] rfl)) | ((with_reducible show wpList _ _ _ (⟨some 34, _, _, _, _, _⟩ :: _) _ _); refine wpList_load_rng 28 (.tmp 4) rfl (by kernel_rfl) _ _ rfl _ R4.out _ Try.underlying28 rfl (by kernel_rfl) ?_))
  with_reducible refine (aput_ok 1 a0 a1 a2 a3 a4 a5 p0 p1 p2 p3 m0 m1 m2 m3 m4 m5 d0 d1 d2 d3 _ (by decide)).mono ?_
  clear R4
  rintro e w7 ⟨Ac, cc, rfl, hc, b7⟩
  replace hp := (b7.block _ zp).trans hp
  replace zp := Nat.lt_of_lt_of_le zp b7.size
  replace hm := (b7.block _ zm).trans hm
  replace zm := Nat.lt_of_lt_of_le zm b7.size
  replace hq := (b7.block _ zq).trans hq
  replace zq := Nat.lt_of_lt_of_le zq b7.size
  replace hr := (b7.block _ zr).trans hr
  replace zr := Nat.lt_of_lt_of_le zr b7.size
  replace bel := bel.trans (b7.mono bel.size)
  clear b7
  rw [put_eq _ _ (by decide)] at hc
  have R38 := cell_lit hp 0 _ rfl
  have R42 := cell_lit hp 0 _ rfl
  go_wp2_with fail
  clear R38 R42
  have qn := neqAR o2 gb0 gb1 gb2 gb3 gb4 gb5 gb6 gb7 gb8 gb9 gb10 gb11 gb12 gb13 gb14 gb15 gb16 gb17 gb18 gb19
  have gn := guardAR
  replace bel := bel.drew
  replace hp : w7.drew.heap[w.heap.size]? = some (.cells #[.int .i64 1, .int .u8 (a0.toNat : Int), .int .u8 (a1.toNat : Int), .int .u8 (a2.toNat : Int), .int .u8 (a3.toNat : Int), .int .u8 (a4.toNat : Int), .int .u8 (a5.toNat : Int), .int .u8 (p0.toNat : Int), .int .u8 (p1.toNat : Int), .int .u8 (p2.toNat : Int), .int .u8 (p3.toNat : Int), .int .u8 (m0.toNat : Int), .int .u8 (m1.toNat : Int), .int .u8 (m2.toNat : Int), .int .u8 (m3.toNat : Int), .int .u8 (m4.toNat : Int), .int .u8 (m5.toNat : Int), .int .u8 (d0.toNat : Int), .int .u8 (d1.toNat : Int), .int .u8 (d2.toNat : Int), .int .u8 (d3.toNat : Int)] 28 (0, 0)) := hp
  replace zp : w.heap.size < w7.drew.heap.size := zp
  replace hm : w7.drew.heap[w.heap.size + 1]? = some (.cells #[.int .u8 (e0.toNat : Int), .int .u8 (e1.toNat : Int), .int .u8 (e2.toNat : Int), .int .u8 (e3.toNat : Int), .int .u8 (e4.toNat : Int), .int .u8 (e5.toNat : Int)] 24 (0, 0)) := hm
  replace zm : w.heap.size + 1 < w7.drew.heap.size := zm
  replace hq : w7.drew.heap[w3.heap.size]? = some (.cells #[.int .i64 o2, .int .u8 (gb0.toNat : Int), .int .u8 (gb1.toNat : Int), .int .u8 (gb2.toNat : Int), .int .u8 (gb3.toNat : Int), .int .u8 (gb4.toNat : Int), .int .u8 (gb5.toNat : Int), .int .u8 (gb6.toNat : Int), .int .u8 (gb7.toNat : Int), .int .u8 (gb8.toNat : Int), .int .u8 (gb9.toNat : Int), .int .u8 (gb10.toNat : Int), .int .u8 (gb11.toNat : Int), .int .u8 (gb12.toNat : Int), .int .u8 (gb13.toNat : Int), .int .u8 (gb14.toNat : Int), .int .u8 (gb15.toNat : Int), .int .u8 (gb16.toNat : Int), .int .u8 (gb17.toNat : Int), .int .u8 (gb18.toNat : Int), .int .u8 (gb19.toNat : Int)] 28 (0, 0)) := hq
  replace zq : w3.heap.size < w7.drew.heap.size := zq
  replace hr : w7.drew.heap[w5.heap.size]? = some (.cells #[.int .i64 o2, .int .u8 (gb0.toNat : Int), .int .u8 (gb1.toNat : Int), .int .u8 (gb2.toNat : Int), .int .u8 (gb3.toNat : Int), .int .u8 (gb4.toNat : Int), .int .u8 (gb5.toNat : Int), .int .u8 (gb6.toNat : Int), .int .u8 (gb7.toNat : Int), .int .u8 (gb8.toNat : Int), .int .u8 (gb9.toNat : Int), .int .u8 (gb10.toNat : Int), .int .u8 (gb11.toNat : Int), .int .u8 (gb12.toNat : Int), .int .u8 (gb13.toNat : Int), .int .u8 (gb14.toNat : Int), .int .u8 (gb15.toNat : Int), .int .u8 (gb16.toNat : Int), .int .u8 (gb17.toNat : Int), .int .u8 (gb18.toNat : Int), .int .u8 (gb19.toNat : Int)] 41 (0, 0)) := hr
  replace zr : w5.heap.size < w7.drew.heap.size := zr
  replace hc := hc.drew
  refine wp_region_held_drew (S := fun W => W.heap[w.heap.size]? = some (.cells #[.int .i64 1, .int .u8 (a0.toNat : Int), .int .u8 (a1.toNat : Int), .int .u8 (a2.toNat : Int), .int .u8 (a3.toNat : Int), .int .u8 (a4.toNat : Int), .int .u8 (a5.toNat : Int), .int .u8 (p0.toNat : Int), .int .u8 (p1.toNat : Int), .int .u8 (p2.toNat : Int), .int .u8 (p3.toNat : Int), .int .u8 (m0.toNat : Int), .int .u8 (m1.toNat : Int), .int .u8 (m2.toNat : Int), .int .u8 (m3.toNat : Int), .int .u8 (m4.toNat : Int), .int .u8 (m5.toNat : Int), .int .u8 (d0.toNat : Int), .int .u8 (d1.toNat : Int), .int .u8 (d2.toNat : Int), .int .u8 (d3.toNat : Int)] 28 (0, 0)) ∧ W.heap[w3.heap.size]? = some (.cells #[.int .i64 o2, .int .u8 (gb0.toNat : Int), .int .u8 (gb1.toNat : Int), .int .u8 (gb2.toNat : Int), .int .u8 (gb3.toNat : Int), .int .u8 (gb4.toNat : Int), .int .u8 (gb5.toNat : Int), .int .u8 (gb6.toNat : Int), .int .u8 (gb7.toNat : Int), .int .u8 (gb8.toNat : Int), .int .u8 (gb9.toNat : Int), .int .u8 (gb10.toNat : Int), .int .u8 (gb11.toNat : Int), .int .u8 (gb12.toNat : Int), .int .u8 (gb13.toNat : Int), .int .u8 (gb14.toNat : Int), .int .u8 (gb15.toNat : Int), .int .u8 (gb16.toNat : Int), .int .u8 (gb17.toNat : Int), .int .u8 (gb18.toNat : Int), .int .u8 (gb19.toNat : Int)] 28 (0, 0)) ∧ W.heap[w5.heap.size]? = some (.cells #[.int .i64 o2, .int .u8 (gb0.toNat : Int), .int .u8 (gb1.toNat : Int), .int .u8 (gb2.toNat : Int), .int .u8 (gb3.toNat : Int), .int .u8 (gb4.toNat : Int), .int .u8 (gb5.toNat : Int), .int .u8 (gb6.toNat : Int), .int .u8 (gb7.toNat : Int), .int .u8 (gb8.toNat : Int), .int .u8 (gb9.toNat : Int), .int .u8 (gb10.toNat : Int), .int .u8 (gb11.toNat : Int), .int .u8 (gb12.toNat : Int), .int .u8 (gb13.toNat : Int), .int .u8 (gb14.toNat : Int), .int .u8 (gb15.toNat : Int), .int .u8 (gb16.toNat : Int), .int .u8 (gb17.toNat : Int), .int .u8 (gb18.toNat : Int), .int .u8 (gb19.toNat : Int)] 41 (0, 0)) ∧ Sl W (Ac) (28) (cc) (rputArp 1 [a0, a1, a2, a3, a4, a5, p0, p1, p2, p3, m0, m1, m2, m3, m4, m5, d0, d1, d2, d3])) (by kernel_rfl) ⟨hp, hq, hr, hc⟩ (fun hH => ?_)
  generalize w7.drew = vd at bel hp zp hm zm hq zq hr zr hc hH ⊢
  refine wpAnyH_take (i := 0) (v := ?_) rfl (by kernel_rfl) (by kernel_rfl) (by kernel_rfl) (fun _ _ _ h => h) (Or.inl ⟨by rfl, ?_⟩) hH ?_
  rotate_left
  · ((intro W hW; clear hW; go_simp) <;> with_reducible rfl)
  simp only [Act.put, List.getElem_toArray, List.getElem_cons_zero, List.setIfInBounds_toArray, List.set_cons_zero, List.set_cons_succ]
  refine wpAnyH_take (i := 1) (v := ?_) rfl (by kernel_rfl) (by kernel_rfl) (by kernel_rfl) (fun _ _ _ h => h) (Or.inl ⟨by rfl, ?_⟩) hH ?_
  rotate_left
  · ((intro W hW; clear hW; go_simp) <;> with_reducible rfl)
  simp only [Act.put, List.getElem_toArray, List.getElem_cons_zero, List.getElem_cons_succ, List.setIfInBounds_toArray, List.set_cons_zero, List.set_cons_succ]
  refine wpAnyH_take (i := 2) (v := ?_) rfl (by kernel_rfl) (by kernel_rfl) (by kernel_rfl) (fun _ _ _ h => h) (Or.inl ⟨by rfl, ?_⟩) hH ?_
  rotate_left
  · ((intro W hW; clear hW; go_simp) <;> with_reducible rfl)
  simp only [Act.put, List.getElem_toArray, List.getElem_cons_zero, List.getElem_cons_succ, List.setIfInBounds_toArray, List.set_cons_zero, List.set_cons_succ]
  refine wpAnyH_take (i := 3) (v := ?_) rfl (by kernel_rfl) (by kernel_rfl) (by kernel_rfl) (fun _ _ _ h => h) (Or.inl ⟨by rfl, ?_⟩) hH ?_
  rotate_left
  · ((intro W hW; clear hW; go_simp) <;> with_reducible rfl)
  simp only [Act.put, List.getElem_toArray, List.getElem_cons_zero, List.getElem_cons_succ, List.setIfInBounds_toArray, List.set_cons_zero, List.set_cons_succ]
  refine wpAnyH_take (i := 4) (v := .agg #[.int .i64 o2, .int .u8 (gb0.toNat : Int), .int .u8 (gb1.toNat : Int), .int .u8 (gb2.toNat : Int), .int .u8 (gb3.toNat : Int), .int .u8 (gb4.toNat : Int), .int .u8 (gb5.toNat : Int), .int .u8 (gb6.toNat : Int), .int .u8 (gb7.toNat : Int), .int .u8 (gb8.toNat : Int), .int .u8 (gb9.toNat : Int), .int .u8 (gb10.toNat : Int), .int .u8 (gb11.toNat : Int), .int .u8 (gb12.toNat : Int), .int .u8 (gb13.toNat : Int), .int .u8 (gb14.toNat : Int), .int .u8 (gb15.toNat : Int), .int .u8 (gb16.toNat : Int), .int .u8 (gb17.toNat : Int), .int .u8 (gb18.toNat : Int), .int .u8 (gb19.toNat : Int)]) rfl (by kernel_rfl) (by kernel_rfl) (by kernel_rfl) (fun _ _ _ h => h) (yieldsIf_load_part (by kernel_rfl) 28 _ rfl (w3.heap.size) 0 21 rfl [.int .i64 o2, .int .u8 (gb0.toNat : Int), .int .u8 (gb1.toNat : Int), .int .u8 (gb2.toNat : Int), .int .u8 (gb3.toNat : Int), .int .u8 (gb4.toNat : Int), .int .u8 (gb5.toNat : Int), .int .u8 (gb6.toNat : Int), .int .u8 (gb7.toNat : Int), .int .u8 (gb8.toNat : Int), .int .u8 (gb9.toNat : Int), .int .u8 (gb10.toNat : Int), .int .u8 (gb11.toNat : Int), .int .u8 (gb12.toNat : Int), .int .u8 (gb13.toNat : Int), .int .u8 (gb14.toNat : Int), .int .u8 (gb15.toNat : Int), .int .u8 (gb16.toNat : Int), .int .u8 (gb17.toNat : Int), .int .u8 (gb18.toNat : Int), .int .u8 (gb19.toNat : Int)] 28 (0, 0) (fun W hW => hW.2.1) [.int .i64 o2, .int .u8 (gb0.toNat : Int), .int .u8 (gb1.toNat : Int), .int .u8 (gb2.toNat : Int), .int .u8 (gb3.toNat : Int), .int .u8 (gb4.toNat : Int), .int .u8 (gb5.toNat : Int), .int .u8 (gb6.toNat : Int), .int .u8 (gb7.toNat : Int), .int .u8 (gb8.toNat : Int), .int .u8 (gb9.toNat : Int), .int .u8 (gb10.toNat : Int), .int .u8 (gb11.toNat : Int), .int .u8 (gb12.toNat : Int), .int .u8 (gb13.toNat : Int), .int .u8 (gb14.toNat : Int), .int .u8 (gb15.toNat : Int), .int .u8 (gb16.toNat : Int), .int .u8 (gb17.toNat : Int), .int .u8 (gb18.toNat : Int), .int .u8 (gb19.toNat : Int)] rfl _ Try.underlying28 rfl (by kernel_rfl)) hH ?_
  simp only [Act.put, List.getElem_toArray, List.getElem_cons_zero, List.getElem_cons_succ, List.setIfInBounds_toArray, List.set_cons_zero, List.set_cons_succ]
  refine wpAnyH_take (i := 6) (v := .agg #[.int .i64 o2, .int .u8 (gb0.toNat : Int), .int .u8 (gb1.toNat : Int), .int .u8 (gb2.toNat : Int), .int .u8 (gb3.toNat : Int), .int .u8 (gb4.toNat : Int), .int .u8 (gb5.toNat : Int), .int .u8 (gb6.toNat : Int), .int .u8 (gb7.toNat : Int), .int .u8 (gb8.toNat : Int), .int .u8 (gb9.toNat : Int), .int .u8 (gb10.toNat : Int), .int .u8 (gb11.toNat : Int), .int .u8 (gb12.toNat : Int), .int .u8 (gb13.toNat : Int), .int .u8 (gb14.toNat : Int), .int .u8 (gb15.toNat : Int), .int .u8 (gb16.toNat : Int), .int .u8 (gb17.toNat : Int), .int .u8 (gb18.toNat : Int), .int .u8 (gb19.toNat : Int)]) rfl (by kernel_rfl) (by kernel_rfl) (by kernel_rfl) (fun _ _ _ h => h) (yieldsIf_load_part (by kernel_rfl) 41 _ rfl (w5.heap.size) 0 21 rfl [.int .i64 o2, .int .u8 (gb0.toNat : Int), .int .u8 (gb1.toNat : Int), .int .u8 (gb2.toNat : Int), .int .u8 (gb3.toNat : Int), .int .u8 (gb4.toNat : Int), .int .u8 (gb5.toNat : Int), .int .u8 (gb6.toNat : Int), .int .u8 (gb7.toNat : Int), .int .u8 (gb8.toNat : Int), .int .u8 (gb9.toNat : Int), .int .u8 (gb10.toNat : Int), .int .u8 (gb11.toNat : Int), .int .u8 (gb12.toNat : Int), .int .u8 (gb13.toNat : Int), .int .u8 (gb14.toNat : Int), .int .u8 (gb15.toNat : Int), .int .u8 (gb16.toNat : Int), .int .u8 (gb17.toNat : Int), .int .u8 (gb18.toNat : Int), .int .u8 (gb19.toNat : Int)] 41 (0, 0) (fun W hW => hW.2.2.1) [.int .i64 o2, .int .u8 (gb0.toNat : Int), .int .u8 (gb1.toNat : Int), .int .u8 (gb2.toNat : Int), .int .u8 (gb3.toNat : Int), .int .u8 (gb4.toNat : Int), .int .u8 (gb5.toNat : Int), .int .u8 (gb6.toNat : Int), .int .u8 (gb7.toNat : Int), .int .u8 (gb8.toNat : Int), .int .u8 (gb9.toNat : Int), .int .u8 (gb10.toNat : Int), .int .u8 (gb11.toNat : Int), .int .u8 (gb12.toNat : Int), .int .u8 (gb13.toNat : Int), .int .u8 (gb14.toNat : Int), .int .u8 (gb15.toNat : Int), .int .u8 (gb16.toNat : Int), .int .u8 (gb17.toNat : Int), .int .u8 (gb18.toNat : Int), .int .u8 (gb19.toNat : Int)] rfl _ Try.underlying41 rfl (by kernel_rfl)) hH ?_
  simp only [Act.put, List.getElem_toArray, List.getElem_cons_zero, List.getElem_cons_succ, List.setIfInBounds_toArray, List.set_cons_zero, List.set_cons_succ]
  refine wpAnyH_ready (rs := [5]) (by kernel_rfl) (by simp) ?_
  refine AllReadyH.cons (o := _) rfl (fun K hK => ?_) AllReadyH.nil
  simp only [List.getElem_toArray, List.getElem_cons_zero, List.getElem_cons_succ]
  go_simp
  with_reducible refine (own5_any o2 gb0 gb1 gb2 gb3 gb4 gb5 gb6 gb7 gb8 gb9 gb10 gb11 gb12 gb13 gb14 gb15 gb16 gb17 gb18 gb19 _).mono ?_
  rintro e v21 ⟨rfl, b21⟩
  dsimp only
  replace bel := bel.trans (b21.mono bel.size)
  replace hp := (b21.block _ zp).trans hp
  replace zp := Nat.lt_of_lt_of_le zp b21.size
  replace hm := (b21.block _ zm).trans hm
  replace zm := Nat.lt_of_lt_of_le zm b21.size
  replace hq := (b21.block _ zq).trans hq
  replace zq := Nat.lt_of_lt_of_le zq b21.size
  replace hr := (b21.block _ zr).trans hr
  replace zr := Nat.lt_of_lt_of_le zr b21.size
  replace hc := hc.below b21
  refine hK.out _ _ ⟨hp, hq, hr, hc⟩ (fun hH21 => ?_)
  clear hK K
  refine wpAnyH_take (i := 7) (v := ?_) rfl (by kernel_rfl) (by kernel_rfl) (by kernel_rfl) (fun _ _ _ h => h) (Or.inl ⟨by rfl, ?_⟩) hH21 ?_
  rotate_left
  · ((intro W hW; clear hW; go_simp) <;> with_reducible rfl)
  simp only [Act.put, List.getElem_toArray, List.getElem_cons_zero, List.getElem_cons_succ, List.setIfInBounds_toArray, List.set_cons_zero, List.set_cons_succ]
  refine wpAnyH_take (i := 8) (v := ?_) rfl (by kernel_rfl) (by kernel_rfl) (by kernel_rfl) (fun _ _ _ h => h) (Or.inl ⟨by rfl, ?_⟩) hH21 ?_
  rotate_left
  · ((intro W hW; clear hW; go_simp) <;> with_reducible rfl)
  simp only [Act.put, List.getElem_toArray, List.getElem_cons_zero, List.getElem_cons_succ, List.setIfInBounds_toArray, List.set_cons_zero, List.set_cons_succ]
  refine wpAnyH_take (i := 9) (v := ?_) rfl (by kernel_rfl) (by kernel_rfl) (by kernel_rfl) (fun _ _ _ h => h) (Or.inl ⟨by rfl, ?_⟩) hH21 ?_
  rotate_left
  · ((intro W hW; clear hW; go_simp) <;> with_reducible rfl)
  simp only [Act.put, List.getElem_toArray, List.getElem_cons_zero, List.getElem_cons_succ, List.setIfInBounds_toArray, List.set_cons_zero, List.set_cons_succ]
  refine wpAnyH_take (i := 10) (v := ?_) rfl (by kernel_rfl) (by kernel_rfl) (by kernel_rfl) (fun _ _ _ h => h) (Or.inl ⟨by rfl, ?_⟩) hH21 ?_
  rotate_left
  · ((intro W hW; clear hW; go_simp) <;> with_reducible rfl)
  simp only [Act.put, List.getElem_toArray, List.getElem_cons_zero, List.getElem_cons_succ, List.setIfInBounds_toArray, List.set_cons_zero, List.set_cons_succ]
  refine wpAnyH_take (i := 11) (v := ?_) rfl (by kernel_rfl) (by kernel_rfl) (by kernel_rfl) (fun _ _ _ h => h) (Or.inl ⟨by rfl, ?_⟩) hH21 ?_
  rotate_left
  · ((intro W hW; clear hW; go_simp) <;> with_reducible rfl)
  simp only [Act.put, List.getElem_toArray, List.getElem_cons_zero, List.getElem_cons_succ, List.setIfInBounds_toArray, List.set_cons_zero, List.set_cons_succ]
  refine wpAnyH_take (i := 12) (v := ?_) rfl (by kernel_rfl) (by kernel_rfl) (by kernel_rfl) (fun _ _ _ h => h) (Or.inl ⟨by rfl, ?_⟩) hH21 ?_
  rotate_left
  · ((intro W hW; clear hW; go_simp) <;> with_reducible rfl)
  simp only [Act.put, List.getElem_toArray, List.getElem_cons_zero, List.getElem_cons_succ, List.setIfInBounds_toArray, List.set_cons_zero, List.set_cons_succ]
  refine wpAnyH_take (i := 13) (v := ?_) rfl (by kernel_rfl) (by kernel_rfl) (by kernel_rfl) (fun _ _ _ h => h) (Or.inl ⟨by rfl, ?_⟩) hH21 ?_
  rotate_left
  · ((intro W hW; clear hW; go_simp) <;> with_reducible rfl)
  simp only [Act.put, List.getElem_toArray, List.getElem_cons_zero, List.getElem_cons_succ, List.setIfInBounds_toArray, List.set_cons_zero, List.set_cons_succ]
  refine wpAnyH_take (i := 14) (v := ?_) rfl (by kernel_rfl) (by kernel_rfl) (by kernel_rfl) (fun _ _ _ h => h) (Or.inl ⟨by rfl, ?_⟩) hH21 ?_
  rotate_left
  · ((intro W hW; clear hW; go_simp) <;> with_reducible rfl)
  simp only [Act.put, List.getElem_toArray, List.getElem_cons_zero, List.getElem_cons_succ, List.setIfInBounds_toArray, List.set_cons_zero, List.set_cons_succ]
  refine wpAnyH_take (i := 15) (v := ?_) rfl (by kernel_rfl) (by kernel_rfl) (by kernel_rfl) (fun _ _ _ h => h) (Or.inl ⟨by rfl, ?_⟩) hH21 ?_
  rotate_left
  · ((intro W hW; clear hW; go_simp) <;> with_reducible rfl)
  simp only [Act.put, List.getElem_toArray, List.getElem_cons_zero, List.getElem_cons_succ, List.setIfInBounds_toArray, List.set_cons_zero, List.set_cons_succ]
  refine wpAnyH_take (i := 16) (v := ?_) rfl (by kernel_rfl) (by kernel_rfl) (by kernel_rfl) (fun _ _ _ h => h) (Or.inl ⟨by rfl, ?_⟩) hH21 ?_
  rotate_left
  · ((intro W hW; clear hW; go_simp) <;> with_reducible rfl)
  simp only [Act.put, List.getElem_toArray, List.getElem_cons_zero, List.getElem_cons_succ, List.setIfInBounds_toArray, List.set_cons_zero, List.set_cons_succ]
  refine wpAnyH_take (i := 17) (v := ?_) rfl (by kernel_rfl) (by kernel_rfl) (by kernel_rfl) (fun _ _ _ h => h) (Or.inl ⟨by rfl, ?_⟩) hH21 ?_
  rotate_left
  · ((intro W hW; clear hW; go_simp) <;> with_reducible rfl)
  simp only [Act.put, List.getElem_toArray, List.getElem_cons_zero, List.getElem_cons_succ, List.setIfInBounds_toArray, List.set_cons_zero, List.set_cons_succ]
  refine wpAnyH_take (i := 18) (v := ?_) rfl (by kernel_rfl) (by kernel_rfl) (by kernel_rfl) (fun _ _ _ h => h) (Or.inl ⟨by rfl, ?_⟩) hH21 ?_
  rotate_left
  · ((intro W hW; clear hW; go_simp) <;> with_reducible rfl)
  simp only [Act.put, List.getElem_toArray, List.getElem_cons_zero, List.getElem_cons_succ, List.setIfInBounds_toArray, List.set_cons_zero, List.set_cons_succ]
  refine wpAnyH_take (i := 19) (v := undef) rfl (by kernel_rfl) (by kernel_rfl) (by kernel_rfl) (fun _ _ _ h => h) (Or.inr ⟨by rfl, rfl⟩) hH21 ?_
  simp only [Act.put, List.getElem_toArray, List.getElem_cons_zero, List.getElem_cons_succ, List.setIfInBounds_toArray, List.set_cons_zero, List.set_cons_succ]
  refine wpAnyH_take (i := 20) (v := undef) rfl (by kernel_rfl) (by kernel_rfl) (by kernel_rfl) (fun _ _ _ h => h) (Or.inr ⟨by rfl, rfl⟩) hH21 ?_
  simp only [Act.put, List.getElem_toArray, List.getElem_cons_zero, List.getElem_cons_succ, List.setIfInBounds_toArray, List.set_cons_zero, List.set_cons_succ]
  refine wpAnyH_take (i := 21) (v := undef) rfl (by kernel_rfl) (by kernel_rfl) (by kernel_rfl) (fun _ _ _ h => h) (Or.inr ⟨by rfl, rfl⟩) hH21 ?_
  simp only [Act.put, List.getElem_toArray, List.getElem_cons_zero, List.getElem_cons_succ, List.setIfInBounds_toArray, List.set_cons_zero, List.set_cons_succ]
  refine wpAnyH_take (i := 22) (v := undef) rfl (by kernel_rfl) (by kernel_rfl) (by kernel_rfl) (fun _ _ _ h => h) (Or.inr ⟨by rfl, rfl⟩) hH21 ?_
  simp only [Act.put, List.getElem_toArray, List.getElem_cons_zero, List.getElem_cons_succ, List.setIfInBounds_toArray, List.set_cons_zero, List.set_cons_succ]
  refine wpAnyH_take (i := 23) (v := undef) rfl (by kernel_rfl) (by kernel_rfl) (by kernel_rfl) (fun _ _ _ h => h) (Or.inr ⟨by rfl, rfl⟩) hH21 ?_
  simp only [Act.put, List.getElem_toArray, List.getElem_cons_zero, List.getElem_cons_succ, List.setIfInBounds_toArray, List.set_cons_zero, List.set_cons_succ]
  refine wpAnyH_take (i := 24) (v := undef) rfl (by kernel_rfl) (by kernel_rfl) (by kernel_rfl) (fun _ _ _ h => h) (Or.inr ⟨by rfl, rfl⟩) hH21 ?_
  simp only [Act.put, List.getElem_toArray, List.getElem_cons_zero, List.getElem_cons_succ, List.setIfInBounds_toArray, List.set_cons_zero, List.set_cons_succ]
  refine wpAnyH_take (i := 25) (v := undef) rfl (by kernel_rfl) (by kernel_rfl) (by kernel_rfl) (fun _ _ _ h => h) (Or.inr ⟨by rfl, rfl⟩) hH21 ?_
  simp only [Act.put, List.getElem_toArray, List.getElem_cons_zero, List.getElem_cons_succ, List.setIfInBounds_toArray, List.set_cons_zero, List.set_cons_succ]
  refine wpAnyH_take (i := 26) (v := ?_) rfl (by kernel_rfl) (by kernel_rfl) (by kernel_rfl) (fun _ _ _ h => h) (Or.inl ⟨by rfl, ?_⟩) hH21 ?_
  rotate_left
  · ((intro W hW; clear hW; go_simp) <;> with_reducible rfl)
  simp only [Act.put, List.getElem_toArray, List.getElem_cons_zero, List.getElem_cons_succ, List.setIfInBounds_toArray, List.set_cons_zero, List.set_cons_succ]
  refine wpAnyH_take (i := 27) (v := ?_) rfl (by kernel_rfl) (by kernel_rfl) (by kernel_rfl) (fun _ _ _ h => h) (Or.inl ⟨by rfl, ?_⟩) hH21 ?_
  rotate_left
  · ((intro W hW; clear hW; go_simp) <;> with_reducible rfl)
  simp only [Act.put, List.getElem_toArray, List.getElem_cons_zero, List.getElem_cons_succ, List.setIfInBounds_toArray, List.set_cons_zero, List.set_cons_succ]
  refine wpAnyH_take (i := 28) (v := ?_) rfl (by kernel_rfl) (by kernel_rfl) (by kernel_rfl) (fun _ _ _ h => h) (Or.inl ⟨by rfl, ?_⟩) hH21 ?_
  rotate_left
  · ((intro W hW; clear hW; go_simp) <;> with_reducible rfl)
  simp only [Act.put, List.getElem_toArray, List.getElem_cons_zero, List.getElem_cons_succ, List.setIfInBounds_toArray, List.set_cons_zero, List.set_cons_succ]
  refine wpAnyH_take (i := 29) (v := ?_) rfl (by kernel_rfl) (by kernel_rfl) (by kernel_rfl) (fun _ _ _ h => h) (Or.inl ⟨by rfl, ?_⟩) hH21 ?_
  rotate_left
  · ((intro W hW; clear hW; go_simp) <;> with_reducible rfl)
  simp only [Act.put, List.getElem_toArray, List.getElem_cons_zero, List.getElem_cons_succ, List.setIfInBounds_toArray, List.set_cons_zero, List.set_cons_succ]
  refine wpAnyH_take (i := 30) (v := ?_) rfl (by kernel_rfl) (by kernel_rfl) (by kernel_rfl) (fun _ _ _ h => h) (Or.inl ⟨by rfl, ?_⟩) hH21 ?_
  rotate_left
  · ((intro W hW; clear hW; go_simp) <;> with_reducible rfl)
  simp only [Act.put, List.getElem_toArray, List.getElem_cons_zero, List.getElem_cons_succ, List.setIfInBounds_toArray, List.set_cons_zero, List.set_cons_succ]
  refine wpAnyH_take (i := 31) (v := ?_) rfl (by kernel_rfl) (by kernel_rfl) (by kernel_rfl) (fun _ _ _ h => h) (Or.inl ⟨by rfl, ?_⟩) hH21 ?_
  rotate_left
  · ((intro W hW; clear hW; go_simp) <;> with_reducible rfl)
  simp only [Act.put, List.getElem_toArray, List.getElem_cons_zero, List.getElem_cons_succ, List.setIfInBounds_toArray, List.set_cons_zero, List.set_cons_succ]
  refine wpAnyH_take (i := 32) (v := ?_) rfl (by kernel_rfl) (by kernel_rfl) (by kernel_rfl) (fun _ _ _ h => h) (Or.inl ⟨by rfl, ?_⟩) hH21 ?_
  rotate_left
  · ((intro W hW; have st0 := (hW.2.2.2).str (P := Try.prog) 32 5 9 Try.underlying32 Try.underlying5 Try.underlying9; clear hW; go_simp) <;> with_reducible rfl)
  simp only [Act.put, List.getElem_toArray, List.getElem_cons_zero, List.getElem_cons_succ, List.setIfInBounds_toArray, List.set_cons_zero, List.set_cons_succ]
  refine wpAnyH_take (i := 33) (v := .agg #[.int .i64 1, .int .u8 (a0.toNat : Int), .int .u8 (a1.toNat : Int), .int .u8 (a2.toNat : Int), .int .u8 (a3.toNat : Int), .int .u8 (a4.toNat : Int), .int .u8 (a5.toNat : Int), .int .u8 (p0.toNat : Int), .int .u8 (p1.toNat : Int), .int .u8 (p2.toNat : Int), .int .u8 (p3.toNat : Int), .int .u8 (m0.toNat : Int), .int .u8 (m1.toNat : Int), .int .u8 (m2.toNat : Int), .int .u8 (m3.toNat : Int), .int .u8 (m4.toNat : Int), .int .u8 (m5.toNat : Int), .int .u8 (d0.toNat : Int), .int .u8 (d1.toNat : Int), .int .u8 (d2.toNat : Int), .int .u8 (d3.toNat : Int)]) rfl (by kernel_rfl) (by kernel_rfl) (by kernel_rfl) (fun _ _ _ h => h) (yieldsIf_load_part (by kernel_rfl) 28 _ rfl (w.heap.size) 0 21 rfl [.int .i64 1, .int .u8 (a0.toNat : Int), .int .u8 (a1.toNat : Int), .int .u8 (a2.toNat : Int), .int .u8 (a3.toNat : Int), .int .u8 (a4.toNat : Int), .int .u8 (a5.toNat : Int), .int .u8 (p0.toNat : Int), .int .u8 (p1.toNat : Int), .int .u8 (p2.toNat : Int), .int .u8 (p3.toNat : Int), .int .u8 (m0.toNat : Int), .int .u8 (m1.toNat : Int), .int .u8 (m2.toNat : Int), .int .u8 (m3.toNat : Int), .int .u8 (m4.toNat : Int), .int .u8 (m5.toNat : Int), .int .u8 (d0.toNat : Int), .int .u8 (d1.toNat : Int), .int .u8 (d2.toNat : Int), .int .u8 (d3.toNat : Int)] 28 (0, 0) (fun W hW => hW.1) [.int .i64 1, .int .u8 (a0.toNat : Int), .int .u8 (a1.toNat : Int), .int .u8 (a2.toNat : Int), .int .u8 (a3.toNat : Int), .int .u8 (a4.toNat : Int), .int .u8 (a5.toNat : Int), .int .u8 (p0.toNat : Int), .int .u8 (p1.toNat : Int), .int .u8 (p2.toNat : Int), .int .u8 (p3.toNat : Int), .int .u8 (m0.toNat : Int), .int .u8 (m1.toNat : Int), .int .u8 (m2.toNat : Int), .int .u8 (m3.toNat : Int), .int .u8 (m4.toNat : Int), .int .u8 (m5.toNat : Int), .int .u8 (d0.toNat : Int), .int .u8 (d1.toNat : Int), .int .u8 (d2.toNat : Int), .int .u8 (d3.toNat : Int)] rfl _ Try.underlying28 rfl (by kernel_rfl)) hH21 ?_
  simp only [Act.put, List.getElem_toArray, List.getElem_cons_zero, List.getElem_cons_succ, List.setIfInBounds_toArray, List.set_cons_zero, List.set_cons_succ]
  refine wpAnyH_ready (rs := [34]) (by kernel_rfl) (by simp) ?_
  refine AllReadyH.cons (o := _) rfl (fun K hK => ?_) AllReadyH.nil
  simp only [List.getElem_toArray, List.getElem_cons_zero, List.getElem_cons_succ]
  go_simp
  with_reducible refine (own5_any 1 a0 a1 a2 a3 a4 a5 p0 p1 p2 p3 m0 m1 m2 m3 m4 m5 d0 d1 d2 d3 _).mono ?_
  rintro e v22 ⟨rfl, b22⟩
  dsimp only
  replace bel := bel.trans (b22.mono bel.size)
  replace hp := (b22.block _ zp).trans hp
  replace zp := Nat.lt_of_lt_of_le zp b22.size
  replace hm := (b22.block _ zm).trans hm
  replace zm := Nat.lt_of_lt_of_le zm b22.size
  replace hq := (b22.block _ zq).trans hq
  replace zq := Nat.lt_of_lt_of_le zq b22.size
  replace hr := (b22.block _ zr).trans hr
  replace zr := Nat.lt_of_lt_of_le zr b22.size
  replace hc := hc.below b22
  refine hK.out _ _ ⟨hp, hq, hr, hc⟩ (fun hH22 => ?_)
  clear hK K
  refine wpAnyH_ready (rs := [35]) (by kernel_rfl) (by simp) ?_
  refine AllReadyH.cons (o := _) rfl (fun K hK => ?_) AllReadyH.nil
  simp only [List.getElem_toArray, List.getElem_cons_zero, List.getElem_cons_succ]
  go_simp
  with_reducible refine (rput5_any 1 a0 a1 a2 a3 a4 a5 p0 p1 p2 p3 m0 m1 m2 m3 m4 m5 d0 d1 d2 d3 _).mono ?_
  rintro e v23 ⟨AP, cP, rfl, hP, b23, _⟩
  dsimp only
  replace bel := bel.trans (b23.mono bel.size)
  replace hp := (b23.block _ zp).trans hp
  replace zp := Nat.lt_of_lt_of_le zp b23.size
  replace hm := (b23.block _ zm).trans hm
  replace zm := Nat.lt_of_lt_of_le zm b23.size
  replace hq := (b23.block _ zq).trans hq
  replace zq := Nat.lt_of_lt_of_le zq b23.size
  replace hr := (b23.block _ zr).trans hr
  replace zr := Nat.lt_of_lt_of_le zr b23.size
  replace hc := hc.below b23
  refine hK.out _ _ ⟨hp, hq, hr, hc⟩ (fun hH23 => ?_)
  clear hK K
  have st36 := hP.str (P := Try.prog) 32 5 9 Try.underlying32 Try.underlying5 Try.underlying9
  refine wpAnyH_ready (rs := [36]) (by kernel_rfl) (by simp) ?_
  refine AllReadyH.cons (o := _) rfl (fun K hK => ?_) AllReadyH.nil
  simp only [List.getElem_toArray, List.getElem_cons_zero, List.getElem_cons_succ]
  go_simp
  refine hK.out _ _ ⟨hp, hq, hr, hc⟩ (fun hH24 => ?_)
  clear hK K
  clear st36
  refine wpAnyH_take (i := 37) (v := ?_) rfl (by kernel_rfl) (by kernel_rfl) (by kernel_rfl) (fun _ _ _ h => h) (Or.inl ⟨by rfl, ?_⟩) hH24 ?_
  rotate_left
  · ((intro W hW; clear hW; go_simp) <;> with_reducible rfl)
  simp only [Act.put, List.getElem_toArray, List.getElem_cons_zero, List.getElem_cons_succ, List.setIfInBounds_toArray, List.set_cons_zero, List.set_cons_succ]
  refine wpAnyH_take (i := 38) (v := ?_) rfl (by kernel_rfl) (by kernel_rfl) (by kernel_rfl) (fun _ _ _ h => h) (Or.inl ⟨by rfl, ?_⟩) hH24 ?_
  rotate_left
  · ((intro W hW; clear hW; go_simp) <;> with_reducible rfl)
  simp only [Act.put, List.getElem_toArray, List.getElem_cons_zero, List.getElem_cons_succ, List.setIfInBounds_toArray, List.set_cons_zero, List.set_cons_succ]
  refine wpAnyH_take (i := 39) (v := ?_) rfl (by kernel_rfl) (by kernel_rfl) (by kernel_rfl) (fun _ _ _ h => h) (Or.inl ⟨by rfl, ?_⟩) hH24 ?_
  rotate_left
  · ((intro W hW; clear hW; go_simp) <;> with_reducible rfl)
  simp only [Act.put, List.getElem_toArray, List.getElem_cons_zero, List.getElem_cons_succ, List.setIfInBounds_toArray, List.set_cons_zero, List.set_cons_succ]
  refine wpAnyH_done (by kernel_rfl) ?_ _
  clear qn gn hc hP
  clear hq zq
  clear hr zr
  have R5 := Lib.hid (range_lit hm 0 6 [.int .u8 (e0.toNat : Int), .int .u8 (e1.toNat : Int), .int .u8 (e2.toNat : Int), .int .u8 (e3.toNat : Int), .int .u8 (e4.toNat : Int), .int .u8 (e5.toNat : Int)] rfl)
  have R4 := Lib.hid (range_lit hp 0 21 [.int .i64 1, .int .u8 (a0.toNat : Int), .int .u8 (a1.toNat : Int), .int .u8 (a2.toNat : Int), .int .u8 (a3.toNat : Int), .int .u8 (a4.toNat : Int), .int .u8 (a5.toNat : Int), .int .u8 (p0.toNat : Int), .int .u8 (p1.toNat : Int), .int .u8 (p2.toNat : Int), .int .u8 (p3.toNat : Int), .int .u8 (m0.toNat : Int), .int .u8 (m1.toNat : Int), .int .u8 (m2.toNat : Int), .int .u8 (m3.toNat : Int), .int .u8 (m4.toNat : Int), .int .u8 (m5.toNat : Int), .int .u8 (d0.toNat : Int), .int .u8 (d1.toNat : Int), .int .u8 (d2.toNat : Int), .int .u8 (d3.toNat : Int)] rfl)
  go_wp2_with (first | ((with_reducible show wpList _ _ _ (⟨some 87, _, _, _, _, _⟩ :: _) _ _); refine wpList_load_rng 24 (.tmp 5) rfl (by kernel_rfl) _ _ rfl _ R5.out _ Try.underlying24 rfl (by kernel_rfl) ?_) | ((with_reducible show wpList _ _ _ (⟨some 88, _, _, _, _, _⟩ :: _) _ _); refine wpList_load_rng 28 (.tmp 4) rfl (by kernel_rfl) _ _ rfl _ R4.out _ Try.underlying28 rfl (by kernel_rfl) ?_))
  with_reducible refine (aanswer_ok e0 e1 e2 e3 e4 e5 a0 a1 a2 a3 a4 a5 p0 p1 p2 p3 m0 m1 m2 m3 m4 m5 d0 d1 d2 d3 _).mono ?_
  clear R5 R4
  rintro e w8 ⟨A2, c2, rfl, h2, b8⟩
  replace hp := (b8.block _ zp).trans hp
  replace zp := Nat.lt_of_lt_of_le zp b8.size
  replace hm := (b8.block _ zm).trans hm
  replace zm := Nat.lt_of_lt_of_le zm b8.size
  replace bel := bel.trans (b8.mono bel.size)
  clear b8
  rw [put_eq _ _ (by decide)] at h2
  have ng := heap_alloc_new w8 (.cells #[.int .u8 0, .int .u8 0, .int .u8 0, .int .u8 0, .int .u8 0, .int .u8 0, .int .u8 0, .int .u8 0, .int .u8 0, .int .u8 0, .int .u8 0, .int .u8 0, .int .i64 0, .slice none 0 0] 36)
  have bqg := (Below.refl w8.heap.size w8).alloc (Nat.le_refl _) (.cells #[.int .u8 0, .int .u8 0, .int .u8 0, .int .u8 0, .int .u8 0, .int .u8 0, .int .u8 0, .int .u8 0, .int .u8 0, .int .u8 0, .int .u8 0, .int .u8 0, .int .i64 0, .slice none 0 0] 36)
  go_wp2_with (first | ((with_reducible show wpList _ _ _ (⟨none, Op.store _ _ _, _, _, _, _⟩ :: _) _ _); refine wpList_store_blk rfl 36 _ _ rfl (w8.heap.size) rfl #[.int .u8 (a0.toNat : Int), .int .u8 (a1.toNat : Int), .int .u8 (a2.toNat : Int), .int .u8 (a3.toNat : Int), .int .u8 (a4.toNat : Int), .int .u8 (a5.toNat : Int), .int .u8 (e0.toNat : Int), .int .u8 (e1.toNat : Int), .int .u8 (e2.toNat : Int), .int .u8 (e3.toNat : Int), .int .u8 (e4.toNat : Int), .int .u8 (e5.toNat : Int), .int .i64 2054, .slice A2 28 c2] rfl _ 36 ng (by rfl) (by kernel_rfl) (by kernel_rfl) ?_; intro x9 hg gg; have bz := below_grown bqg gg (Nat.le_refl _) bqg.size; replace hp := (bz.block _ zp).trans hp; replace zp := Nat.lt_of_lt_of_le zp bz.size; replace hm := (bz.block _ zm).trans hm; replace zm := Nat.lt_of_lt_of_le zm bz.size; replace h2 := h2.below bz; replace bel := bel.trans (bz.mono bel.size); have zg := (Array.getElem?_eq_some_iff.1 hg).1; clear ng bqg bz gg; have R94 := cell_lit hp 0 _ rfl))
  clear R94
  replace bel := bel.drew
  replace hp : x9.drew.heap[w.heap.size]? = some (.cells #[.int .i64 1, .int .u8 (a0.toNat : Int), .int .u8 (a1.toNat : Int), .int .u8 (a2.toNat : Int), .int .u8 (a3.toNat : Int), .int .u8 (a4.toNat : Int), .int .u8 (a5.toNat : Int), .int .u8 (p0.toNat : Int), .int .u8 (p1.toNat : Int), .int .u8 (p2.toNat : Int), .int .u8 (p3.toNat : Int), .int .u8 (m0.toNat : Int), .int .u8 (m1.toNat : Int), .int .u8 (m2.toNat : Int), .int .u8 (m3.toNat : Int), .int .u8 (m4.toNat : Int), .int .u8 (m5.toNat : Int), .int .u8 (d0.toNat : Int), .int .u8 (d1.toNat : Int), .int .u8 (d2.toNat : Int), .int .u8 (d3.toNat : Int)] 28 (0, 0)) := hp
  replace zp : w.heap.size < x9.drew.heap.size := zp
  replace hm : x9.drew.heap[w.heap.size + 1]? = some (.cells #[.int .u8 (e0.toNat : Int), .int .u8 (e1.toNat : Int), .int .u8 (e2.toNat : Int), .int .u8 (e3.toNat : Int), .int .u8 (e4.toNat : Int), .int .u8 (e5.toNat : Int)] 24 (0, 0)) := hm
  replace zm : w.heap.size + 1 < x9.drew.heap.size := zm
  replace hg : x9.drew.heap[w8.heap.size]? = some (.cells #[.int .u8 (a0.toNat : Int), .int .u8 (a1.toNat : Int), .int .u8 (a2.toNat : Int), .int .u8 (a3.toNat : Int), .int .u8 (a4.toNat : Int), .int .u8 (a5.toNat : Int), .int .u8 (e0.toNat : Int), .int .u8 (e1.toNat : Int), .int .u8 (e2.toNat : Int), .int .u8 (e3.toNat : Int), .int .u8 (e4.toNat : Int), .int .u8 (e5.toNat : Int), .int .i64 2054, .slice A2 28 c2] 36 (0, 0)) := hg
  replace zg : w8.heap.size < x9.drew.heap.size := zg
  replace h2 := h2.drew
  refine wp_region_held_drew (S := fun W => W.heap[w.heap.size]? = some (.cells #[.int .i64 1, .int .u8 (a0.toNat : Int), .int .u8 (a1.toNat : Int), .int .u8 (a2.toNat : Int), .int .u8 (a3.toNat : Int), .int .u8 (a4.toNat : Int), .int .u8 (a5.toNat : Int), .int .u8 (p0.toNat : Int), .int .u8 (p1.toNat : Int), .int .u8 (p2.toNat : Int), .int .u8 (p3.toNat : Int), .int .u8 (m0.toNat : Int), .int .u8 (m1.toNat : Int), .int .u8 (m2.toNat : Int), .int .u8 (m3.toNat : Int), .int .u8 (m4.toNat : Int), .int .u8 (m5.toNat : Int), .int .u8 (d0.toNat : Int), .int .u8 (d1.toNat : Int), .int .u8 (d2.toNat : Int), .int .u8 (d3.toNat : Int)] 28 (0, 0)) ∧ W.heap[w.heap.size + 1]? = some (.cells #[.int .u8 (e0.toNat : Int), .int .u8 (e1.toNat : Int), .int .u8 (e2.toNat : Int), .int .u8 (e3.toNat : Int), .int .u8 (e4.toNat : Int), .int .u8 (e5.toNat : Int)] 24 (0, 0)) ∧ W.heap[w8.heap.size]? = some (.cells #[.int .u8 (a0.toNat : Int), .int .u8 (a1.toNat : Int), .int .u8 (a2.toNat : Int), .int .u8 (a3.toNat : Int), .int .u8 (a4.toNat : Int), .int .u8 (a5.toNat : Int), .int .u8 (e0.toNat : Int), .int .u8 (e1.toNat : Int), .int .u8 (e2.toNat : Int), .int .u8 (e3.toNat : Int), .int .u8 (e4.toNat : Int), .int .u8 (e5.toNat : Int), .int .i64 2054, .slice A2 28 c2] 36 (0, 0)) ∧ Sl W (A2) (28) (c2) (rputArp 2 [e0, e1, e2, e3, e4, e5, d0, d1, d2, d3, a0, a1, a2, a3, a4, a5, p0, p1, p2, p3])) (by kernel_rfl) ⟨hp, hm, hg, h2⟩ (fun hH => ?_)
  generalize x9.drew = ve at bel hp zp hm zm hg zg h2 hH ⊢
  refine wpAnyH_take (i := 0) (v := .agg #[.int .u8 (e0.toNat : Int), .int .u8 (e1.toNat : Int), .int .u8 (e2.toNat : Int), .int .u8 (e3.toNat : Int), .int .u8 (e4.toNat : Int), .int .u8 (e5.toNat : Int)]) rfl (by kernel_rfl) (by kernel_rfl) (by kernel_rfl) (fun _ _ _ h => h) (yieldsIf_load_part (by kernel_rfl) 24 _ rfl (w.heap.size + 1) 0 6 rfl [.int .u8 (e0.toNat : Int), .int .u8 (e1.toNat : Int), .int .u8 (e2.toNat : Int), .int .u8 (e3.toNat : Int), .int .u8 (e4.toNat : Int), .int .u8 (e5.toNat : Int)] 24 (0, 0) (fun W hW => hW.2.1) [.int .u8 (e0.toNat : Int), .int .u8 (e1.toNat : Int), .int .u8 (e2.toNat : Int), .int .u8 (e3.toNat : Int), .int .u8 (e4.toNat : Int), .int .u8 (e5.toNat : Int)] rfl _ Try.underlying24 rfl (by kernel_rfl)) hH ?_
  simp only [Act.put, List.getElem_toArray, List.getElem_cons_zero, List.setIfInBounds_toArray, List.set_cons_zero, List.set_cons_succ]
  refine wpAnyH_take (i := 1) (v := ?_) rfl (by kernel_rfl) (by kernel_rfl) (by kernel_rfl) (fun _ _ _ h => h) (Or.inl ⟨by rfl, ?_⟩) hH ?_
  rotate_left
  · ((intro W hW; clear hW; go_simp) <;> with_reducible rfl)
  simp only [Act.put, List.getElem_toArray, List.getElem_cons_zero, List.getElem_cons_succ, List.setIfInBounds_toArray, List.set_cons_zero, List.set_cons_succ]
  refine wpAnyH_take (i := 2) (v := .agg #[.int .u8 (p0.toNat : Int), .int .u8 (p1.toNat : Int), .int .u8 (p2.toNat : Int), .int .u8 (p3.toNat : Int)]) rfl (by kernel_rfl) (by kernel_rfl) (by kernel_rfl) (fun _ _ _ h => h) (yieldsIf_load_part (by kernel_rfl) 26 _ rfl (w.heap.size) 7 4 rfl [.int .i64 1, .int .u8 (a0.toNat : Int), .int .u8 (a1.toNat : Int), .int .u8 (a2.toNat : Int), .int .u8 (a3.toNat : Int), .int .u8 (a4.toNat : Int), .int .u8 (a5.toNat : Int), .int .u8 (p0.toNat : Int), .int .u8 (p1.toNat : Int), .int .u8 (p2.toNat : Int), .int .u8 (p3.toNat : Int), .int .u8 (m0.toNat : Int), .int .u8 (m1.toNat : Int), .int .u8 (m2.toNat : Int), .int .u8 (m3.toNat : Int), .int .u8 (m4.toNat : Int), .int .u8 (m5.toNat : Int), .int .u8 (d0.toNat : Int), .int .u8 (d1.toNat : Int), .int .u8 (d2.toNat : Int), .int .u8 (d3.toNat : Int)] 28 (0, 0) (fun W hW => hW.1) [.int .u8 (p0.toNat : Int), .int .u8 (p1.toNat : Int), .int .u8 (p2.toNat : Int), .int .u8 (p3.toNat : Int)] rfl _ Try.underlying26 rfl (by kernel_rfl)) hH ?_
  simp only [Act.put, List.getElem_toArray, List.getElem_cons_zero, List.getElem_cons_succ, List.setIfInBounds_toArray, List.set_cons_zero, List.set_cons_succ]
  refine wpAnyH_take (i := 3) (v := ?_) rfl (by kernel_rfl) (by kernel_rfl) (by kernel_rfl) (fun _ _ _ h => h) (Or.inl ⟨by rfl, ?_⟩) hH ?_
  rotate_left
  · ((intro W hW; clear hW; go_simp) <;> with_reducible rfl)
  simp only [Act.put, List.getElem_toArray, List.getElem_cons_zero, List.getElem_cons_succ, List.setIfInBounds_toArray, List.set_cons_zero, List.set_cons_succ]
  refine wpAnyH_take (i := 4) (v := .agg #[.int .u8 (d0.toNat : Int), .int .u8 (d1.toNat : Int), .int .u8 (d2.toNat : Int), .int .u8 (d3.toNat : Int)]) rfl (by kernel_rfl) (by kernel_rfl) (by kernel_rfl) (fun _ _ _ h => h) (yieldsIf_load_part (by kernel_rfl) 26 _ rfl (w.heap.size) 17 4 rfl [.int .i64 1, .int .u8 (a0.toNat : Int), .int .u8 (a1.toNat : Int), .int .u8 (a2.toNat : Int), .int .u8 (a3.toNat : Int), .int .u8 (a4.toNat : Int), .int .u8 (a5.toNat : Int), .int .u8 (p0.toNat : Int), .int .u8 (p1.toNat : Int), .int .u8 (p2.toNat : Int), .int .u8 (p3.toNat : Int), .int .u8 (m0.toNat : Int), .int .u8 (m1.toNat : Int), .int .u8 (m2.toNat : Int), .int .u8 (m3.toNat : Int), .int .u8 (m4.toNat : Int), .int .u8 (m5.toNat : Int), .int .u8 (d0.toNat : Int), .int .u8 (d1.toNat : Int), .int .u8 (d2.toNat : Int), .int .u8 (d3.toNat : Int)] 28 (0, 0) (fun W hW => hW.1) [.int .u8 (d0.toNat : Int), .int .u8 (d1.toNat : Int), .int .u8 (d2.toNat : Int), .int .u8 (d3.toNat : Int)] rfl _ Try.underlying26 rfl (by kernel_rfl)) hH ?_
  simp only [Act.put, List.getElem_toArray, List.getElem_cons_zero, List.getElem_cons_succ, List.setIfInBounds_toArray, List.set_cons_zero, List.set_cons_succ]
  refine wpAnyH_take (i := 6) (v := .agg #[.int .u8 (e0.toNat : Int), .int .u8 (e1.toNat : Int), .int .u8 (e2.toNat : Int), .int .u8 (e3.toNat : Int), .int .u8 (e4.toNat : Int), .int .u8 (e5.toNat : Int)]) rfl (by kernel_rfl) (by kernel_rfl) (by kernel_rfl) (fun _ _ _ h => h) (yieldsIf_load_part (by kernel_rfl) 24 _ rfl (w.heap.size + 1) 0 6 rfl [.int .u8 (e0.toNat : Int), .int .u8 (e1.toNat : Int), .int .u8 (e2.toNat : Int), .int .u8 (e3.toNat : Int), .int .u8 (e4.toNat : Int), .int .u8 (e5.toNat : Int)] 24 (0, 0) (fun W hW => hW.2.1) [.int .u8 (e0.toNat : Int), .int .u8 (e1.toNat : Int), .int .u8 (e2.toNat : Int), .int .u8 (e3.toNat : Int), .int .u8 (e4.toNat : Int), .int .u8 (e5.toNat : Int)] rfl _ Try.underlying24 rfl (by kernel_rfl)) hH ?_
  simp only [Act.put, List.getElem_toArray, List.getElem_cons_zero, List.getElem_cons_succ, List.setIfInBounds_toArray, List.set_cons_zero, List.set_cons_succ]
  refine wpAnyH_take (i := 7) (v := ?_) rfl (by kernel_rfl) (by kernel_rfl) (by kernel_rfl) (fun _ _ _ h => h) (Or.inl ⟨by rfl, ?_⟩) hH ?_
  rotate_left
  · ((intro W hW; clear hW; go_simp) <;> with_reducible rfl)
  simp only [Act.put, List.getElem_toArray, List.getElem_cons_zero, List.getElem_cons_succ, List.setIfInBounds_toArray, List.set_cons_zero, List.set_cons_succ]
  refine wpAnyH_take (i := 8) (v := .agg #[.int .u8 (p0.toNat : Int), .int .u8 (p1.toNat : Int), .int .u8 (p2.toNat : Int), .int .u8 (p3.toNat : Int)]) rfl (by kernel_rfl) (by kernel_rfl) (by kernel_rfl) (fun _ _ _ h => h) (yieldsIf_load_part (by kernel_rfl) 26 _ rfl (w.heap.size) 7 4 rfl [.int .i64 1, .int .u8 (a0.toNat : Int), .int .u8 (a1.toNat : Int), .int .u8 (a2.toNat : Int), .int .u8 (a3.toNat : Int), .int .u8 (a4.toNat : Int), .int .u8 (a5.toNat : Int), .int .u8 (p0.toNat : Int), .int .u8 (p1.toNat : Int), .int .u8 (p2.toNat : Int), .int .u8 (p3.toNat : Int), .int .u8 (m0.toNat : Int), .int .u8 (m1.toNat : Int), .int .u8 (m2.toNat : Int), .int .u8 (m3.toNat : Int), .int .u8 (m4.toNat : Int), .int .u8 (m5.toNat : Int), .int .u8 (d0.toNat : Int), .int .u8 (d1.toNat : Int), .int .u8 (d2.toNat : Int), .int .u8 (d3.toNat : Int)] 28 (0, 0) (fun W hW => hW.1) [.int .u8 (p0.toNat : Int), .int .u8 (p1.toNat : Int), .int .u8 (p2.toNat : Int), .int .u8 (p3.toNat : Int)] rfl _ Try.underlying26 rfl (by kernel_rfl)) hH ?_
  simp only [Act.put, List.getElem_toArray, List.getElem_cons_zero, List.getElem_cons_succ, List.setIfInBounds_toArray, List.set_cons_zero, List.set_cons_succ]
  refine wpAnyH_take (i := 9) (v := ?_) rfl (by kernel_rfl) (by kernel_rfl) (by kernel_rfl) (fun _ _ _ h => h) (Or.inl ⟨by rfl, ?_⟩) hH ?_
  rotate_left
  · ((intro W hW; clear hW; go_simp) <;> with_reducible rfl)
  simp only [Act.put, List.getElem_toArray, List.getElem_cons_zero, List.getElem_cons_succ, List.setIfInBounds_toArray, List.set_cons_zero, List.set_cons_succ]
  refine wpAnyH_take (i := 10) (v := .agg #[.int .u8 (d0.toNat : Int), .int .u8 (d1.toNat : Int), .int .u8 (d2.toNat : Int), .int .u8 (d3.toNat : Int)]) rfl (by kernel_rfl) (by kernel_rfl) (by kernel_rfl) (fun _ _ _ h => h) (yieldsIf_load_part (by kernel_rfl) 26 _ rfl (w.heap.size) 17 4 rfl [.int .i64 1, .int .u8 (a0.toNat : Int), .int .u8 (a1.toNat : Int), .int .u8 (a2.toNat : Int), .int .u8 (a3.toNat : Int), .int .u8 (a4.toNat : Int), .int .u8 (a5.toNat : Int), .int .u8 (p0.toNat : Int), .int .u8 (p1.toNat : Int), .int .u8 (p2.toNat : Int), .int .u8 (p3.toNat : Int), .int .u8 (m0.toNat : Int), .int .u8 (m1.toNat : Int), .int .u8 (m2.toNat : Int), .int .u8 (m3.toNat : Int), .int .u8 (m4.toNat : Int), .int .u8 (m5.toNat : Int), .int .u8 (d0.toNat : Int), .int .u8 (d1.toNat : Int), .int .u8 (d2.toNat : Int), .int .u8 (d3.toNat : Int)] 28 (0, 0) (fun W hW => hW.1) [.int .u8 (d0.toNat : Int), .int .u8 (d1.toNat : Int), .int .u8 (d2.toNat : Int), .int .u8 (d3.toNat : Int)] rfl _ Try.underlying26 rfl (by kernel_rfl)) hH ?_
  simp only [Act.put, List.getElem_toArray, List.getElem_cons_zero, List.getElem_cons_succ, List.setIfInBounds_toArray, List.set_cons_zero, List.set_cons_succ]
  refine wpAnyH_ready (rs := [5]) (by kernel_rfl) (by simp) ?_
  refine AllReadyH.cons (o := _) rfl (fun K hK => ?_) AllReadyH.nil
  simp only [List.getElem_toArray, List.getElem_cons_zero, List.getElem_cons_succ]
  go_simp
  with_reducible refine (aask_any e0 e1 e2 e3 e4 e5 p0 p1 p2 p3 d0 d1 d2 d3 _).mono ?_
  rintro e v41 ⟨A3, c3, rfl, h3, b41, _⟩
  dsimp only
  replace bel := bel.trans (b41.mono bel.size)
  replace hp := (b41.block _ zp).trans hp
  replace zp := Nat.lt_of_lt_of_le zp b41.size
  replace hm := (b41.block _ zm).trans hm
  replace zm := Nat.lt_of_lt_of_le zm b41.size
  replace hg := (b41.block _ zg).trans hg
  replace zg := Nat.lt_of_lt_of_le zg b41.size
  replace h2 := h2.below b41
  rw [put_eq _ _ (by decide)] at h3
  refine hK.out _ _ ⟨hp, hm, hg, h2⟩ (fun hH41 => ?_)
  clear hK K
  refine wpAnyH_ready (rs := [11]) (by kernel_rfl) (by simp) ?_
  refine AllReadyH.cons (o := _) rfl (fun K hK => ?_) AllReadyH.nil
  simp only [List.getElem_toArray, List.getElem_cons_zero, List.getElem_cons_succ]
  go_simp
  with_reducible refine (rask_any e0 e1 e2 e3 e4 e5 p0 p1 p2 p3 d0 d1 d2 d3 _).mono ?_
  rintro e v42 ⟨A4, c4, rfl, h4, b42⟩
  dsimp only
  replace bel := bel.trans (b42.mono bel.size)
  replace hp := (b42.block _ zp).trans hp
  replace zp := Nat.lt_of_lt_of_le zp b42.size
  replace hm := (b42.block _ zm).trans hm
  replace zm := Nat.lt_of_lt_of_le zm b42.size
  replace hg := (b42.block _ zg).trans hg
  replace zg := Nat.lt_of_lt_of_le zg b42.size
  replace h2 := h2.below b42
  replace h3 := h3.below b42
  refine hK.out _ _ ⟨hp, hm, hg, h2⟩ (fun hH42 => ?_)
  clear hK K
  refine wpAnyH_ready (rs := [12]) (by kernel_rfl) (by simp) ?_
  refine AllReadyH.cons (o := _) rfl (fun K hK => ?_) AllReadyH.nil
  simp only [List.getElem_toArray, List.getElem_cons_zero, List.getElem_cons_succ]
  go_simp
  with_reducible refine (same5_ask e0 e1 e2 e3 e4 e5 A3 c3 A4 c4 _ _ h3 h4).mono ?_
  rintro e v43 ⟨rfl, b43⟩
  dsimp only
  replace bel := bel.trans (b43.mono bel.size)
  replace hp := (b43.block _ zp).trans hp
  replace zp := Nat.lt_of_lt_of_le zp b43.size
  replace hm := (b43.block _ zm).trans hm
  replace zm := Nat.lt_of_lt_of_le zm b43.size
  replace hg := (b43.block _ zg).trans hg
  replace zg := Nat.lt_of_lt_of_le zg b43.size
  replace h2 := h2.below b43
  refine hK.out _ _ ⟨hp, hm, hg, h2⟩ (fun hH43 => ?_)
  clear hK K
  refine wpAnyH_take (i := 13) (v := ?_) rfl (by kernel_rfl) (by kernel_rfl) (by kernel_rfl) (fun _ _ _ h => h) (Or.inl ⟨by rfl, ?_⟩) hH43 ?_
  rotate_left
  · ((intro W hW; clear hW; go_simp) <;> with_reducible rfl)
  simp only [Act.put, List.getElem_toArray, List.getElem_cons_zero, List.getElem_cons_succ, List.setIfInBounds_toArray, List.set_cons_zero, List.set_cons_succ]
  refine wpAnyH_take (i := 14) (v := ?_) rfl (by kernel_rfl) (by kernel_rfl) (by kernel_rfl) (fun _ _ _ h => h) (Or.inl ⟨by rfl, ?_⟩) hH43 ?_
  rotate_left
  · ((intro W hW; clear hW; go_simp) <;> with_reducible rfl)
  simp only [Act.put, List.getElem_toArray, List.getElem_cons_zero, List.getElem_cons_succ, List.setIfInBounds_toArray, List.set_cons_zero, List.set_cons_succ]
  refine wpAnyH_take (i := 15) (v := ?_) rfl (by kernel_rfl) (by kernel_rfl) (by kernel_rfl) (fun _ _ _ h => h) (Or.inl ⟨by rfl, ?_⟩) hH43 ?_
  rotate_left
  · ((intro W hW; clear hW; go_simp) <;> with_reducible rfl)
  simp only [Act.put, List.getElem_toArray, List.getElem_cons_zero, List.getElem_cons_succ, List.setIfInBounds_toArray, List.set_cons_zero, List.set_cons_succ]
  refine wpAnyH_take (i := 16) (v := ?_) rfl (by kernel_rfl) (by kernel_rfl) (by kernel_rfl) (fun _ _ _ h => h) (Or.inl ⟨by rfl, ?_⟩) hH43 ?_
  rotate_left
  · ((intro W hW; clear hW; go_simp) <;> with_reducible rfl)
  simp only [Act.put, List.getElem_toArray, List.getElem_cons_zero, List.getElem_cons_succ, List.setIfInBounds_toArray, List.set_cons_zero, List.set_cons_succ]
  refine wpAnyH_take (i := 17) (v := .agg #[.int .u8 (a0.toNat : Int), .int .u8 (a1.toNat : Int), .int .u8 (a2.toNat : Int), .int .u8 (a3.toNat : Int), .int .u8 (a4.toNat : Int), .int .u8 (a5.toNat : Int), .int .u8 (e0.toNat : Int), .int .u8 (e1.toNat : Int), .int .u8 (e2.toNat : Int), .int .u8 (e3.toNat : Int), .int .u8 (e4.toNat : Int), .int .u8 (e5.toNat : Int), .int .i64 2054, .slice A2 28 c2]) rfl (by kernel_rfl) (by kernel_rfl) (by kernel_rfl) (fun _ _ _ h => h) (yieldsIf_load_part (by kernel_rfl) 36 _ rfl (w8.heap.size) 0 14 rfl [.int .u8 (a0.toNat : Int), .int .u8 (a1.toNat : Int), .int .u8 (a2.toNat : Int), .int .u8 (a3.toNat : Int), .int .u8 (a4.toNat : Int), .int .u8 (a5.toNat : Int), .int .u8 (e0.toNat : Int), .int .u8 (e1.toNat : Int), .int .u8 (e2.toNat : Int), .int .u8 (e3.toNat : Int), .int .u8 (e4.toNat : Int), .int .u8 (e5.toNat : Int), .int .i64 2054, .slice A2 28 c2] 36 (0, 0) (fun W hW => hW.2.2.1) [.int .u8 (a0.toNat : Int), .int .u8 (a1.toNat : Int), .int .u8 (a2.toNat : Int), .int .u8 (a3.toNat : Int), .int .u8 (a4.toNat : Int), .int .u8 (a5.toNat : Int), .int .u8 (e0.toNat : Int), .int .u8 (e1.toNat : Int), .int .u8 (e2.toNat : Int), .int .u8 (e3.toNat : Int), .int .u8 (e4.toNat : Int), .int .u8 (e5.toNat : Int), .int .i64 2054, .slice A2 28 c2] rfl _ Try.underlying36 rfl (by kernel_rfl)) hH43 ?_
  simp only [Act.put, List.getElem_toArray, List.getElem_cons_zero, List.getElem_cons_succ, List.setIfInBounds_toArray, List.set_cons_zero, List.set_cons_succ]
  refine wpAnyH_take (i := 18) (v := .agg #[.int .u8 (e0.toNat : Int), .int .u8 (e1.toNat : Int), .int .u8 (e2.toNat : Int), .int .u8 (e3.toNat : Int), .int .u8 (e4.toNat : Int), .int .u8 (e5.toNat : Int)]) rfl (by kernel_rfl) (by kernel_rfl) (by kernel_rfl) (fun _ _ _ h => h) (yieldsIf_load_part (by kernel_rfl) 24 _ rfl (w.heap.size + 1) 0 6 rfl [.int .u8 (e0.toNat : Int), .int .u8 (e1.toNat : Int), .int .u8 (e2.toNat : Int), .int .u8 (e3.toNat : Int), .int .u8 (e4.toNat : Int), .int .u8 (e5.toNat : Int)] 24 (0, 0) (fun W hW => hW.2.1) [.int .u8 (e0.toNat : Int), .int .u8 (e1.toNat : Int), .int .u8 (e2.toNat : Int), .int .u8 (e3.toNat : Int), .int .u8 (e4.toNat : Int), .int .u8 (e5.toNat : Int)] rfl _ Try.underlying24 rfl (by kernel_rfl)) hH43 ?_
  simp only [Act.put, List.getElem_toArray, List.getElem_cons_zero, List.getElem_cons_succ, List.setIfInBounds_toArray, List.set_cons_zero, List.set_cons_succ]
  refine wpAnyH_take (i := 19) (v := .agg #[.int .i64 1, .int .u8 (a0.toNat : Int), .int .u8 (a1.toNat : Int), .int .u8 (a2.toNat : Int), .int .u8 (a3.toNat : Int), .int .u8 (a4.toNat : Int), .int .u8 (a5.toNat : Int), .int .u8 (p0.toNat : Int), .int .u8 (p1.toNat : Int), .int .u8 (p2.toNat : Int), .int .u8 (p3.toNat : Int), .int .u8 (m0.toNat : Int), .int .u8 (m1.toNat : Int), .int .u8 (m2.toNat : Int), .int .u8 (m3.toNat : Int), .int .u8 (m4.toNat : Int), .int .u8 (m5.toNat : Int), .int .u8 (d0.toNat : Int), .int .u8 (d1.toNat : Int), .int .u8 (d2.toNat : Int), .int .u8 (d3.toNat : Int)]) rfl (by kernel_rfl) (by kernel_rfl) (by kernel_rfl) (fun _ _ _ h => h) (yieldsIf_load_part (by kernel_rfl) 28 _ rfl (w.heap.size) 0 21 rfl [.int .i64 1, .int .u8 (a0.toNat : Int), .int .u8 (a1.toNat : Int), .int .u8 (a2.toNat : Int), .int .u8 (a3.toNat : Int), .int .u8 (a4.toNat : Int), .int .u8 (a5.toNat : Int), .int .u8 (p0.toNat : Int), .int .u8 (p1.toNat : Int), .int .u8 (p2.toNat : Int), .int .u8 (p3.toNat : Int), .int .u8 (m0.toNat : Int), .int .u8 (m1.toNat : Int), .int .u8 (m2.toNat : Int), .int .u8 (m3.toNat : Int), .int .u8 (m4.toNat : Int), .int .u8 (m5.toNat : Int), .int .u8 (d0.toNat : Int), .int .u8 (d1.toNat : Int), .int .u8 (d2.toNat : Int), .int .u8 (d3.toNat : Int)] 28 (0, 0) (fun W hW => hW.1) [.int .i64 1, .int .u8 (a0.toNat : Int), .int .u8 (a1.toNat : Int), .int .u8 (a2.toNat : Int), .int .u8 (a3.toNat : Int), .int .u8 (a4.toNat : Int), .int .u8 (a5.toNat : Int), .int .u8 (p0.toNat : Int), .int .u8 (p1.toNat : Int), .int .u8 (p2.toNat : Int), .int .u8 (p3.toNat : Int), .int .u8 (m0.toNat : Int), .int .u8 (m1.toNat : Int), .int .u8 (m2.toNat : Int), .int .u8 (m3.toNat : Int), .int .u8 (m4.toNat : Int), .int .u8 (m5.toNat : Int), .int .u8 (d0.toNat : Int), .int .u8 (d1.toNat : Int), .int .u8 (d2.toNat : Int), .int .u8 (d3.toNat : Int)] rfl _ Try.underlying28 rfl (by kernel_rfl)) hH43 ?_
  simp only [Act.put, List.getElem_toArray, List.getElem_cons_zero, List.getElem_cons_succ, List.setIfInBounds_toArray, List.set_cons_zero, List.set_cons_succ]
  refine wpAnyH_ready (rs := [20]) (by kernel_rfl) (by simp) ?_
  refine AllReadyH.cons (o := _) rfl (fun K hK => ?_) AllReadyH.nil
  simp only [List.getElem_toArray, List.getElem_cons_zero, List.getElem_cons_succ]
  go_simp
  with_reducible refine (own5_any 1 a0 a1 a2 a3 a4 a5 p0 p1 p2 p3 m0 m1 m2 m3 m4 m5 d0 d1 d2 d3 _).mono ?_
  rintro e v44 ⟨rfl, b44⟩
  dsimp only
  replace bel := bel.trans (b44.mono bel.size)
  replace hp := (b44.block _ zp).trans hp
  replace zp := Nat.lt_of_lt_of_le zp b44.size
  replace hm := (b44.block _ zm).trans hm
  replace zm := Nat.lt_of_lt_of_le zm b44.size
  replace hg := (b44.block _ zg).trans hg
  replace zg := Nat.lt_of_lt_of_le zg b44.size
  replace h2 := h2.below b44
  refine hK.out _ _ ⟨hp, hm, hg, h2⟩ (fun hH44 => ?_)
  clear hK K
  refine wpAnyH_ready (rs := [21]) (by kernel_rfl) (by simp) ?_
  refine AllReadyH.cons (o := _) rfl (fun K hK => ?_) AllReadyH.nil
  simp only [List.getElem_toArray, List.getElem_cons_zero, List.getElem_cons_succ]
  go_simp
  with_reducible refine (ranswer_any e0 e1 e2 e3 e4 e5 1 a0 a1 a2 a3 a4 a5 p0 p1 p2 p3 m0 m1 m2 m3 m4 m5 d0 d1 d2 d3 _).mono ?_
  rintro e v45 ⟨A5, c5, rfl, h5, b45⟩
  dsimp only
  replace bel := bel.trans (b45.mono bel.size)
  replace hp := (b45.block _ zp).trans hp
  replace zp := Nat.lt_of_lt_of_le zp b45.size
  replace hm := (b45.block _ zm).trans hm
  replace zm := Nat.lt_of_lt_of_le zm b45.size
  replace hg := (b45.block _ zg).trans hg
  replace zg := Nat.lt_of_lt_of_le zg b45.size
  replace h2 := h2.below b45
  refine hK.out _ _ ⟨hp, hm, hg, h2⟩ (fun hH45 => ?_)
  clear hK K
  refine wpAnyH_ready (rs := [22]) (by kernel_rfl) (by simp) ?_
  refine AllReadyH.cons (o := _) rfl (fun K hK => ?_) AllReadyH.nil
  simp only [List.getElem_toArray, List.getElem_cons_zero, List.getElem_cons_succ]
  go_simp
  with_reducible refine (same5_true a0 a1 a2 a3 a4 a5 e0 e1 e2 e3 e4 e5 2054 A2 28 c2 A5 c5 _ _ h2 h5).mono ?_
  rintro e v46 ⟨rfl, b46⟩
  dsimp only
  replace bel := bel.trans (b46.mono bel.size)
  replace hp := (b46.block _ zp).trans hp
  replace zp := Nat.lt_of_lt_of_le zp b46.size
  replace hm := (b46.block _ zm).trans hm
  replace zm := Nat.lt_of_lt_of_le zm b46.size
  replace hg := (b46.block _ zg).trans hg
  replace zg := Nat.lt_of_lt_of_le zg b46.size
  replace h2 := h2.below b46
  refine hK.out _ _ ⟨hp, hm, hg, h2⟩ (fun hH46 => ?_)
  clear hK K
  refine wpAnyH_take (i := 23) (v := ?_) rfl (by kernel_rfl) (by kernel_rfl) (by kernel_rfl) (fun _ _ _ h => h) (Or.inl ⟨by rfl, ?_⟩) hH46 ?_
  rotate_left
  · ((intro W hW; clear hW; go_simp) <;> with_reducible rfl)
  simp only [Act.put, List.getElem_toArray, List.getElem_cons_zero, List.getElem_cons_succ, List.setIfInBounds_toArray, List.set_cons_zero, List.set_cons_succ]
  refine wpAnyH_take (i := 24) (v := ?_) rfl (by kernel_rfl) (by kernel_rfl) (by kernel_rfl) (fun _ _ _ h => h) (Or.inl ⟨by rfl, ?_⟩) hH46 ?_
  rotate_left
  · ((intro W hW; clear hW; go_simp) <;> with_reducible rfl)
  simp only [Act.put, List.getElem_toArray, List.getElem_cons_zero, List.getElem_cons_succ, List.setIfInBounds_toArray, List.set_cons_zero, List.set_cons_succ]
  refine wpAnyH_take (i := 25) (v := ?_) rfl (by kernel_rfl) (by kernel_rfl) (by kernel_rfl) (fun _ _ _ h => h) (Or.inl ⟨by rfl, ?_⟩) hH46 ?_
  rotate_left
  · ((intro W hW; clear hW; go_simp) <;> with_reducible rfl)
  simp only [Act.put, List.getElem_toArray, List.getElem_cons_zero, List.getElem_cons_succ, List.setIfInBounds_toArray, List.set_cons_zero, List.set_cons_succ]
  refine wpAnyH_done (by kernel_rfl) ?_ _
  go_wp2
  go_ret
  exact ⟨rfl, bel⟩
set_option maxRecDepth 100000 in
set_option maxHeartbeats 16000000 in
theorem arpSays_ok2 (S : Option Addr) (n c : Nat) (l : List UInt8) (a0 a1 a2 a3 a4 a5 p0 p1 p2 p3 m0 m1 m2 m3 m4 m5 d0 d1 d2 d3 e0 e1 e2 e3 e4 e5 : UInt8) (w : World) (hl : Sl w S n c l) (hn : n ≤ 100) : Calls Try.prog 4 #[.slice S n c, .agg #[.int .i64 2, .int .u8 (a0.toNat : Int), .int .u8 (a1.toNat : Int), .int .u8 (a2.toNat : Int), .int .u8 (a3.toNat : Int), .int .u8 (a4.toNat : Int), .int .u8 (a5.toNat : Int), .int .u8 (p0.toNat : Int), .int .u8 (p1.toNat : Int), .int .u8 (p2.toNat : Int), .int .u8 (p3.toNat : Int), .int .u8 (m0.toNat : Int), .int .u8 (m1.toNat : Int), .int .u8 (m2.toNat : Int), .int .u8 (m3.toNat : Int), .int .u8 (m4.toNat : Int), .int .u8 (m5.toNat : Int), .int .u8 (d0.toNat : Int), .int .u8 (d1.toNat : Int), .int .u8 (d2.toNat : Int), .int .u8 (d3.toNat : Int)], .agg #[.int .u8 (e0.toNat : Int), .int .u8 (e1.toNat : Int), .int .u8 (e2.toNat : Int), .int .u8 (e3.toNat : Int), .int .u8 (e4.toNat : Int), .int .u8 (e5.toNat : Int)]] w fun e w' => e = .returned (.bool true) ∧ Below w.heap.size w w' := by
  have bel := Below.refl w.heap.size w
  have hp : (w.alloc (.cells #[.int .i64 2, .int .u8 (a0.toNat : Int), .int .u8 (a1.toNat : Int), .int .u8 (a2.toNat : Int), .int .u8 (a3.toNat : Int), .int .u8 (a4.toNat : Int), .int .u8 (a5.toNat : Int), .int .u8 (p0.toNat : Int), .int .u8 (p1.toNat : Int), .int .u8 (p2.toNat : Int), .int .u8 (p3.toNat : Int), .int .u8 (m0.toNat : Int), .int .u8 (m1.toNat : Int), .int .u8 (m2.toNat : Int), .int .u8 (m3.toNat : Int), .int .u8 (m4.toNat : Int), .int .u8 (m5.toNat : Int), .int .u8 (d0.toNat : Int), .int .u8 (d1.toNat : Int), .int .u8 (d2.toNat : Int), .int .u8 (d3.toNat : Int)] 28)).heap[w.heap.size]? = some (.cells #[.int .i64 2, .int .u8 (a0.toNat : Int), .int .u8 (a1.toNat : Int), .int .u8 (a2.toNat : Int), .int .u8 (a3.toNat : Int), .int .u8 (a4.toNat : Int), .int .u8 (a5.toNat : Int), .int .u8 (p0.toNat : Int), .int .u8 (p1.toNat : Int), .int .u8 (p2.toNat : Int), .int .u8 (p3.toNat : Int), .int .u8 (m0.toNat : Int), .int .u8 (m1.toNat : Int), .int .u8 (m2.toNat : Int), .int .u8 (m3.toNat : Int), .int .u8 (m4.toNat : Int), .int .u8 (m5.toNat : Int), .int .u8 (d0.toNat : Int), .int .u8 (d1.toNat : Int), .int .u8 (d2.toNat : Int), .int .u8 (d3.toNat : Int)] 28 (0, 0)) := by have := heap_alloc_new w (.cells #[.int .i64 2, .int .u8 (a0.toNat : Int), .int .u8 (a1.toNat : Int), .int .u8 (a2.toNat : Int), .int .u8 (a3.toNat : Int), .int .u8 (a4.toNat : Int), .int .u8 (a5.toNat : Int), .int .u8 (p0.toNat : Int), .int .u8 (p1.toNat : Int), .int .u8 (p2.toNat : Int), .int .u8 (p3.toNat : Int), .int .u8 (m0.toNat : Int), .int .u8 (m1.toNat : Int), .int .u8 (m2.toNat : Int), .int .u8 (m3.toNat : Int), .int .u8 (m4.toNat : Int), .int .u8 (m5.toNat : Int), .int .u8 (d0.toNat : Int), .int .u8 (d1.toNat : Int), .int .u8 (d2.toNat : Int), .int .u8 (d3.toNat : Int)] 28); simpa using this
  have zp : w.heap.size < (w.alloc (.cells #[.int .i64 2, .int .u8 (a0.toNat : Int), .int .u8 (a1.toNat : Int), .int .u8 (a2.toNat : Int), .int .u8 (a3.toNat : Int), .int .u8 (a4.toNat : Int), .int .u8 (a5.toNat : Int), .int .u8 (p0.toNat : Int), .int .u8 (p1.toNat : Int), .int .u8 (p2.toNat : Int), .int .u8 (p3.toNat : Int), .int .u8 (m0.toNat : Int), .int .u8 (m1.toNat : Int), .int .u8 (m2.toNat : Int), .int .u8 (m3.toNat : Int), .int .u8 (m4.toNat : Int), .int .u8 (m5.toNat : Int), .int .u8 (d0.toNat : Int), .int .u8 (d1.toNat : Int), .int .u8 (d2.toNat : Int), .int .u8 (d3.toNat : Int)] 28)).heap.size := by simp
  replace bel := bel.alloc bel.size (.cells #[.int .i64 2, .int .u8 (a0.toNat : Int), .int .u8 (a1.toNat : Int), .int .u8 (a2.toNat : Int), .int .u8 (a3.toNat : Int), .int .u8 (a4.toNat : Int), .int .u8 (a5.toNat : Int), .int .u8 (p0.toNat : Int), .int .u8 (p1.toNat : Int), .int .u8 (p2.toNat : Int), .int .u8 (p3.toNat : Int), .int .u8 (m0.toNat : Int), .int .u8 (m1.toNat : Int), .int .u8 (m2.toNat : Int), .int .u8 (m3.toNat : Int), .int .u8 (m4.toNat : Int), .int .u8 (m5.toNat : Int), .int .u8 (d0.toNat : Int), .int .u8 (d1.toNat : Int), .int .u8 (d2.toNat : Int), .int .u8 (d3.toNat : Int)] 28)
  replace hp := (Go.heap_alloc_old (w.alloc (.cells #[.int .i64 2, .int .u8 (a0.toNat : Int), .int .u8 (a1.toNat : Int), .int .u8 (a2.toNat : Int), .int .u8 (a3.toNat : Int), .int .u8 (a4.toNat : Int), .int .u8 (a5.toNat : Int), .int .u8 (p0.toNat : Int), .int .u8 (p1.toNat : Int), .int .u8 (p2.toNat : Int), .int .u8 (p3.toNat : Int), .int .u8 (m0.toNat : Int), .int .u8 (m1.toNat : Int), .int .u8 (m2.toNat : Int), .int .u8 (m3.toNat : Int), .int .u8 (m4.toNat : Int), .int .u8 (m5.toNat : Int), .int .u8 (d0.toNat : Int), .int .u8 (d1.toNat : Int), .int .u8 (d2.toNat : Int), .int .u8 (d3.toNat : Int)] 28)) (.cells #[.int .u8 (e0.toNat : Int), .int .u8 (e1.toNat : Int), .int .u8 (e2.toNat : Int), .int .u8 (e3.toNat : Int), .int .u8 (e4.toNat : Int), .int .u8 (e5.toNat : Int)] 24) (r := w.heap.size) zp).trans hp
  have hm : ((w.alloc (.cells #[.int .i64 2, .int .u8 (a0.toNat : Int), .int .u8 (a1.toNat : Int), .int .u8 (a2.toNat : Int), .int .u8 (a3.toNat : Int), .int .u8 (a4.toNat : Int), .int .u8 (a5.toNat : Int), .int .u8 (p0.toNat : Int), .int .u8 (p1.toNat : Int), .int .u8 (p2.toNat : Int), .int .u8 (p3.toNat : Int), .int .u8 (m0.toNat : Int), .int .u8 (m1.toNat : Int), .int .u8 (m2.toNat : Int), .int .u8 (m3.toNat : Int), .int .u8 (m4.toNat : Int), .int .u8 (m5.toNat : Int), .int .u8 (d0.toNat : Int), .int .u8 (d1.toNat : Int), .int .u8 (d2.toNat : Int), .int .u8 (d3.toNat : Int)] 28)).alloc (.cells #[.int .u8 (e0.toNat : Int), .int .u8 (e1.toNat : Int), .int .u8 (e2.toNat : Int), .int .u8 (e3.toNat : Int), .int .u8 (e4.toNat : Int), .int .u8 (e5.toNat : Int)] 24)).heap[w.heap.size + 1]? = some (.cells #[.int .u8 (e0.toNat : Int), .int .u8 (e1.toNat : Int), .int .u8 (e2.toNat : Int), .int .u8 (e3.toNat : Int), .int .u8 (e4.toNat : Int), .int .u8 (e5.toNat : Int)] 24 (0, 0)) := by have := heap_alloc_new (w.alloc (.cells #[.int .i64 2, .int .u8 (a0.toNat : Int), .int .u8 (a1.toNat : Int), .int .u8 (a2.toNat : Int), .int .u8 (a3.toNat : Int), .int .u8 (a4.toNat : Int), .int .u8 (a5.toNat : Int), .int .u8 (p0.toNat : Int), .int .u8 (p1.toNat : Int), .int .u8 (p2.toNat : Int), .int .u8 (p3.toNat : Int), .int .u8 (m0.toNat : Int), .int .u8 (m1.toNat : Int), .int .u8 (m2.toNat : Int), .int .u8 (m3.toNat : Int), .int .u8 (m4.toNat : Int), .int .u8 (m5.toNat : Int), .int .u8 (d0.toNat : Int), .int .u8 (d1.toNat : Int), .int .u8 (d2.toNat : Int), .int .u8 (d3.toNat : Int)] 28)) (.cells #[.int .u8 (e0.toNat : Int), .int .u8 (e1.toNat : Int), .int .u8 (e2.toNat : Int), .int .u8 (e3.toNat : Int), .int .u8 (e4.toNat : Int), .int .u8 (e5.toNat : Int)] 24); simpa using this
  replace zp := Nat.lt_trans zp (show (w.alloc (.cells #[.int .i64 2, .int .u8 (a0.toNat : Int), .int .u8 (a1.toNat : Int), .int .u8 (a2.toNat : Int), .int .u8 (a3.toNat : Int), .int .u8 (a4.toNat : Int), .int .u8 (a5.toNat : Int), .int .u8 (p0.toNat : Int), .int .u8 (p1.toNat : Int), .int .u8 (p2.toNat : Int), .int .u8 (p3.toNat : Int), .int .u8 (m0.toNat : Int), .int .u8 (m1.toNat : Int), .int .u8 (m2.toNat : Int), .int .u8 (m3.toNat : Int), .int .u8 (m4.toNat : Int), .int .u8 (m5.toNat : Int), .int .u8 (d0.toNat : Int), .int .u8 (d1.toNat : Int), .int .u8 (d2.toNat : Int), .int .u8 (d3.toNat : Int)] 28)).heap.size < ((w.alloc (.cells #[.int .i64 2, .int .u8 (a0.toNat : Int), .int .u8 (a1.toNat : Int), .int .u8 (a2.toNat : Int), .int .u8 (a3.toNat : Int), .int .u8 (a4.toNat : Int), .int .u8 (a5.toNat : Int), .int .u8 (p0.toNat : Int), .int .u8 (p1.toNat : Int), .int .u8 (p2.toNat : Int), .int .u8 (p3.toNat : Int), .int .u8 (m0.toNat : Int), .int .u8 (m1.toNat : Int), .int .u8 (m2.toNat : Int), .int .u8 (m3.toNat : Int), .int .u8 (m4.toNat : Int), .int .u8 (m5.toNat : Int), .int .u8 (d0.toNat : Int), .int .u8 (d1.toNat : Int), .int .u8 (d2.toNat : Int), .int .u8 (d3.toNat : Int)] 28)).alloc (.cells #[.int .u8 (e0.toNat : Int), .int .u8 (e1.toNat : Int), .int .u8 (e2.toNat : Int), .int .u8 (e3.toNat : Int), .int .u8 (e4.toNat : Int), .int .u8 (e5.toNat : Int)] 24)).heap.size by simp)
  have zm : w.heap.size + 1 < ((w.alloc (.cells #[.int .i64 2, .int .u8 (a0.toNat : Int), .int .u8 (a1.toNat : Int), .int .u8 (a2.toNat : Int), .int .u8 (a3.toNat : Int), .int .u8 (a4.toNat : Int), .int .u8 (a5.toNat : Int), .int .u8 (p0.toNat : Int), .int .u8 (p1.toNat : Int), .int .u8 (p2.toNat : Int), .int .u8 (p3.toNat : Int), .int .u8 (m0.toNat : Int), .int .u8 (m1.toNat : Int), .int .u8 (m2.toNat : Int), .int .u8 (m3.toNat : Int), .int .u8 (m4.toNat : Int), .int .u8 (m5.toNat : Int), .int .u8 (d0.toNat : Int), .int .u8 (d1.toNat : Int), .int .u8 (d2.toNat : Int), .int .u8 (d3.toNat : Int)] 28)).alloc (.cells #[.int .u8 (e0.toNat : Int), .int .u8 (e1.toNat : Int), .int .u8 (e2.toNat : Int), .int .u8 (e3.toNat : Int), .int .u8 (e4.toNat : Int), .int .u8 (e5.toNat : Int)] 24)).heap.size := by simp
  replace bel := bel.alloc bel.size (.cells #[.int .u8 (e0.toNat : Int), .int .u8 (e1.toNat : Int), .int .u8 (e2.toNat : Int), .int .u8 (e3.toNat : Int), .int .u8 (e4.toNat : Int), .int .u8 (e5.toNat : Int)] 24)
  obtain ⟨ii, hii, hz0, hz1, hz2⟩ := info_parts Try.info5
  have t1 : decide ((100 : Int) < n) = false := decide_eq_false (by omega)
  have HN := Lib.hid hn
  have hsb := hl.below bel
  clear hn hl
  go_enter Try.func4, Try.ntmps4
  go_wp2_with fail
  with_reducible refine (awake5 _).mono ?_
  rintro e w1 ⟨rfl, b1⟩
  replace hp := (b1.block _ zp).trans hp
  replace zp := Nat.lt_of_lt_of_le zp b1.size
  replace hm := (b1.block _ zm).trans hm
  replace zm := Nat.lt_of_lt_of_le zm b1.size
  replace hsb := hsb.below b1
  replace bel := bel.trans (b1.mono bel.size)
  clear b1
  have own0 := own_empty w1
  have bz := (Below.refl w1.heap.size w1).alloc (Nat.le_refl _) (.cells #[] 5)
  have sa := hsb.below bz
  go_wp2_with (at_builtin; refine wpList_append_bb _ rfl (.tmp 22) (.tmp 23) 32 rfl w1.heap.size 5 ii (.int .u8 0) Try.underlying32 hii hz0 hz1 hz2 rfl _ (0) ([]) rfl own0 S (n) (c) (l) rfl sa ?c1 ?c2 ?_)
  case c1 => have := HN.out; omega
  case c2 => exact bz.size
  intro r2 y2 own2 bb
  replace bz := bz.trans bb
  clear bb sa own0
  replace own2 : y2.ownsRow w1.heap.size 5 1 r2 (n) ((l).map u8v) := by simpa using own2
  replace hp := (bz.block _ zp).trans hp
  replace zp := Nat.lt_of_lt_of_le zp bz.size
  replace hm := (bz.block _ zm).trans hm
  replace zm := Nat.lt_of_lt_of_le zm bz.size
  replace hsb := hsb.below bz
  replace bel := bel.trans (bz.mono bel.size)
  clear bz
  obtain ⟨Asg, csg, esg, sg, fsg⟩ := Sl.of_own_f own2
  subst esg
  clear own2
  go_wp2_with fail
  with_reducible refine (aget5_any Asg n csg l _ sg).mono ?_
  rintro e w3 ⟨o1, ga0, ga1, ga2, ga3, ga4, ga5, ga6, ga7, ga8, ga9, ga10, ga11, ga12, ga13, ga14, ga15, ga16, ga17, ga18, ga19, r1, rfl, b3, hg1⟩
  replace hp := (b3.block _ zp).trans hp
  replace zp := Nat.lt_of_lt_of_le zp b3.size
  replace hm := (b3.block _ zm).trans hm
  replace zm := Nat.lt_of_lt_of_le zm b3.size
  replace hsb := hsb.below b3
  replace bel := bel.trans (b3.mono bel.size)
  clear b3
  clear sg fsg
  have nq := heap_alloc_new w3 (.cells #[.int .i64 0, .int .u8 0, .int .u8 0, .int .u8 0, .int .u8 0, .int .u8 0, .int .u8 0, .int .u8 0, .int .u8 0, .int .u8 0, .int .u8 0, .int .u8 0, .int .u8 0, .int .u8 0, .int .u8 0, .int .u8 0, .int .u8 0, .int .u8 0, .int .u8 0, .int .u8 0, .int .u8 0] 28)
  have bqq := (Below.refl w3.heap.size w3).alloc (Nat.le_refl _) (.cells #[.int .i64 0, .int .u8 0, .int .u8 0, .int .u8 0, .int .u8 0, .int .u8 0, .int .u8 0, .int .u8 0, .int .u8 0, .int .u8 0, .int .u8 0, .int .u8 0, .int .u8 0, .int .u8 0, .int .u8 0, .int .u8 0, .int .u8 0, .int .u8 0, .int .u8 0, .int .u8 0, .int .u8 0] 28)
  go_wp2_with (first | ((with_reducible show wpList _ _ _ (⟨none, Op.store _ _ _, _, _, _, _⟩ :: _) _ _); refine wpList_store_blk rfl 28 _ _ rfl (w3.heap.size) rfl #[.int .i64 o1, .int .u8 (ga0.toNat : Int), .int .u8 (ga1.toNat : Int), .int .u8 (ga2.toNat : Int), .int .u8 (ga3.toNat : Int), .int .u8 (ga4.toNat : Int), .int .u8 (ga5.toNat : Int), .int .u8 (ga6.toNat : Int), .int .u8 (ga7.toNat : Int), .int .u8 (ga8.toNat : Int), .int .u8 (ga9.toNat : Int), .int .u8 (ga10.toNat : Int), .int .u8 (ga11.toNat : Int), .int .u8 (ga12.toNat : Int), .int .u8 (ga13.toNat : Int), .int .u8 (ga14.toNat : Int), .int .u8 (ga15.toNat : Int), .int .u8 (ga16.toNat : Int), .int .u8 (ga17.toNat : Int), .int .u8 (ga18.toNat : Int), .int .u8 (ga19.toNat : Int)] rfl _ 28 nq (by rfl) (by kernel_rfl) (by kernel_rfl) ?_; intro x4 hq gq; have bz := below_grown bqq gq (Nat.le_refl _) bqq.size; replace hp := (bz.block _ zp).trans hp; replace zp := Nat.lt_of_lt_of_le zp bz.size; replace hm := (bz.block _ zm).trans hm; replace zm := Nat.lt_of_lt_of_le zm bz.size; replace hsb := hsb.below bz; replace bel := bel.trans (bz.mono bel.size); have zq := (Array.getElem?_eq_some_iff.1 hq).1; clear nq bqq bz gq))
  with_reducible refine (rget5_any S n c l _ hsb (by have := HN.out; omega)).mono ?_
  rintro e w5 ⟨o2, gb0, gb1, gb2, gb3, gb4, gb5, gb6, gb7, gb8, gb9, gb10, gb11, gb12, gb13, gb14, gb15, gb16, gb17, gb18, gb19, r2, rfl, b5, hg2⟩
  replace hp := (b5.block _ zp).trans hp
  replace zp := Nat.lt_of_lt_of_le zp b5.size
  replace hm := (b5.block _ zm).trans hm
  replace zm := Nat.lt_of_lt_of_le zm b5.size
  replace hq := (b5.block _ zq).trans hq
  replace zq := Nat.lt_of_lt_of_le zq b5.size
  replace hsb := hsb.below b5
  replace bel := bel.trans (b5.mono bel.size)
  clear b5
  have hh := hg2.trans hg1.symm
  simp only [Prod.mk.injEq, List.cons.injEq, and_true] at hh
  obtain ⟨⟨rfl, rfl, rfl, rfl, rfl, rfl, rfl, rfl, rfl, rfl, rfl, rfl, rfl, rfl, rfl, rfl, rfl, rfl, rfl, rfl, rfl⟩, rfl⟩ := hh
  clear hg1 hg2 hsb
  have nr := heap_alloc_new w5 (.cells #[.int .i64 0, .int .u8 0, .int .u8 0, .int .u8 0, .int .u8 0, .int .u8 0, .int .u8 0, .int .u8 0, .int .u8 0, .int .u8 0, .int .u8 0, .int .u8 0, .int .u8 0, .int .u8 0, .int .u8 0, .int .u8 0, .int .u8 0, .int .u8 0, .int .u8 0, .int .u8 0, .int .u8 0] 41)
  have bqr := (Below.refl w5.heap.size w5).alloc (Nat.le_refl _) (.cells #[.int .i64 0, .int .u8 0, .int .u8 0, .int .u8 0, .int .u8 0, .int .u8 0, .int .u8 0, .int .u8 0, .int .u8 0, .int .u8 0, .int .u8 0, .int .u8 0, .int .u8 0, .int .u8 0, .int .u8 0, .int .u8 0, .int .u8 0, .int .u8 0, .int .u8 0, .int .u8 0, .int .u8 0] 41)
  go_wp2_with (first | ((with_reducible show wpList _ _ _ (⟨none, Op.store _ _ _, _, _, _, _⟩ :: _) _ _); refine wpList_store_blk rfl 41 _ _ rfl (w5.heap.size) rfl #[.int .i64 o2, .int .u8 (gb0.toNat : Int), .int .u8 (gb1.toNat : Int), .int .u8 (gb2.toNat : Int), .int .u8 (gb3.toNat : Int), .int .u8 (gb4.toNat : Int), .int .u8 (gb5.toNat : Int), .int .u8 (gb6.toNat : Int), .int .u8 (gb7.toNat : Int), .int .u8 (gb8.toNat : Int), .int .u8 (gb9.toNat : Int), .int .u8 (gb10.toNat : Int), .int .u8 (gb11.toNat : Int), .int .u8 (gb12.toNat : Int), .int .u8 (gb13.toNat : Int), .int .u8 (gb14.toNat : Int), .int .u8 (gb15.toNat : Int), .int .u8 (gb16.toNat : Int), .int .u8 (gb17.toNat : Int), .int .u8 (gb18.toNat : Int), .int .u8 (gb19.toNat : Int)] rfl _ 41 nr (by rfl) (by kernel_rfl) (by kernel_rfl) ?_; intro x6 hr gr; have bz := below_grown bqr gr (Nat.le_refl _) bqr.size; replace hp := (bz.block _ zp).trans hp; replace zp := Nat.lt_of_lt_of_le zp bz.size; replace hm := (bz.block _ zm).trans hm; replace zm := Nat.lt_of_lt_of_le zm bz.size; replace hq := (bz.block _ zq).trans hq; replace zq := Nat.lt_of_lt_of_le zq bz.size; replace bel := bel.trans (bz.mono bel.size); have zr := (Array.getElem?_eq_some_iff.1 hr).1; clear nr bqr bz gr; have R4 := Lib.hid (range_lit hp 0 21 [.int .i64 2, .int .u8 (a0.toNat : Int), .int .u8 (a1.toNat : Int), .int .u8 (a2.toNat : Int), .int .u8 (a3.toNat : Int), .int .u8 (a4.toNat : Int), .int .u8 (a5.toNat : Int), .int .u8 (p0.toNat : Int), .int .u8 (p1.toNat : Int), .int .u8 (p2.toNat : Int), .int .u8 (p3.toNat : Int), .int .u8 (m0.toNat : Int), .int .u8 (m1.toNat : Int), .int .u8 (m2.toNat : Int), .int .u8 (m3.toNat : Int), .int .u8 (m4.toNat : Int), .int .u8 (m5.toNat : Int), .int .u8 (d0.toNat : Int), .int .u8 (d1.toNat : Int), .int .u8 (d2.toNat : Int), .int .u8 (d3.toNat : Int)] rfl)) | ((with_reducible show wpList _ _ _ (⟨some 34, _, _, _, _, _⟩ :: _) _ _); refine wpList_load_rng 28 (.tmp 4) rfl (by kernel_rfl) _ _ rfl _ R4.out _ Try.underlying28 rfl (by kernel_rfl) ?_))
  with_reducible refine (aput_ok 2 a0 a1 a2 a3 a4 a5 p0 p1 p2 p3 m0 m1 m2 m3 m4 m5 d0 d1 d2 d3 _ (by decide)).mono ?_
  clear R4
  rintro e w7 ⟨Ac, cc, rfl, hc, b7⟩
  replace hp := (b7.block _ zp).trans hp
  replace zp := Nat.lt_of_lt_of_le zp b7.size
  replace hm := (b7.block _ zm).trans hm
  replace zm := Nat.lt_of_lt_of_le zm b7.size
  replace hq := (b7.block _ zq).trans hq
  replace zq := Nat.lt_of_lt_of_le zq b7.size
  replace hr := (b7.block _ zr).trans hr
  replace zr := Nat.lt_of_lt_of_le zr b7.size
  replace bel := bel.trans (b7.mono bel.size)
  clear b7
  rw [put_eq _ _ (by decide)] at hc
  have R38 := cell_lit hp 0 _ rfl
  have R42 := cell_lit hp 0 _ rfl
  go_wp2_with fail
  clear R38 R42
  have qn := neqAR o2 gb0 gb1 gb2 gb3 gb4 gb5 gb6 gb7 gb8 gb9 gb10 gb11 gb12 gb13 gb14 gb15 gb16 gb17 gb18 gb19
  have gn := guardAR
  replace bel := bel.drew
  replace hp : w7.drew.heap[w.heap.size]? = some (.cells #[.int .i64 2, .int .u8 (a0.toNat : Int), .int .u8 (a1.toNat : Int), .int .u8 (a2.toNat : Int), .int .u8 (a3.toNat : Int), .int .u8 (a4.toNat : Int), .int .u8 (a5.toNat : Int), .int .u8 (p0.toNat : Int), .int .u8 (p1.toNat : Int), .int .u8 (p2.toNat : Int), .int .u8 (p3.toNat : Int), .int .u8 (m0.toNat : Int), .int .u8 (m1.toNat : Int), .int .u8 (m2.toNat : Int), .int .u8 (m3.toNat : Int), .int .u8 (m4.toNat : Int), .int .u8 (m5.toNat : Int), .int .u8 (d0.toNat : Int), .int .u8 (d1.toNat : Int), .int .u8 (d2.toNat : Int), .int .u8 (d3.toNat : Int)] 28 (0, 0)) := hp
  replace zp : w.heap.size < w7.drew.heap.size := zp
  replace hm : w7.drew.heap[w.heap.size + 1]? = some (.cells #[.int .u8 (e0.toNat : Int), .int .u8 (e1.toNat : Int), .int .u8 (e2.toNat : Int), .int .u8 (e3.toNat : Int), .int .u8 (e4.toNat : Int), .int .u8 (e5.toNat : Int)] 24 (0, 0)) := hm
  replace zm : w.heap.size + 1 < w7.drew.heap.size := zm
  replace hq : w7.drew.heap[w3.heap.size]? = some (.cells #[.int .i64 o2, .int .u8 (gb0.toNat : Int), .int .u8 (gb1.toNat : Int), .int .u8 (gb2.toNat : Int), .int .u8 (gb3.toNat : Int), .int .u8 (gb4.toNat : Int), .int .u8 (gb5.toNat : Int), .int .u8 (gb6.toNat : Int), .int .u8 (gb7.toNat : Int), .int .u8 (gb8.toNat : Int), .int .u8 (gb9.toNat : Int), .int .u8 (gb10.toNat : Int), .int .u8 (gb11.toNat : Int), .int .u8 (gb12.toNat : Int), .int .u8 (gb13.toNat : Int), .int .u8 (gb14.toNat : Int), .int .u8 (gb15.toNat : Int), .int .u8 (gb16.toNat : Int), .int .u8 (gb17.toNat : Int), .int .u8 (gb18.toNat : Int), .int .u8 (gb19.toNat : Int)] 28 (0, 0)) := hq
  replace zq : w3.heap.size < w7.drew.heap.size := zq
  replace hr : w7.drew.heap[w5.heap.size]? = some (.cells #[.int .i64 o2, .int .u8 (gb0.toNat : Int), .int .u8 (gb1.toNat : Int), .int .u8 (gb2.toNat : Int), .int .u8 (gb3.toNat : Int), .int .u8 (gb4.toNat : Int), .int .u8 (gb5.toNat : Int), .int .u8 (gb6.toNat : Int), .int .u8 (gb7.toNat : Int), .int .u8 (gb8.toNat : Int), .int .u8 (gb9.toNat : Int), .int .u8 (gb10.toNat : Int), .int .u8 (gb11.toNat : Int), .int .u8 (gb12.toNat : Int), .int .u8 (gb13.toNat : Int), .int .u8 (gb14.toNat : Int), .int .u8 (gb15.toNat : Int), .int .u8 (gb16.toNat : Int), .int .u8 (gb17.toNat : Int), .int .u8 (gb18.toNat : Int), .int .u8 (gb19.toNat : Int)] 41 (0, 0)) := hr
  replace zr : w5.heap.size < w7.drew.heap.size := zr
  replace hc := hc.drew
  refine wp_region_held_drew (S := fun W => W.heap[w.heap.size]? = some (.cells #[.int .i64 2, .int .u8 (a0.toNat : Int), .int .u8 (a1.toNat : Int), .int .u8 (a2.toNat : Int), .int .u8 (a3.toNat : Int), .int .u8 (a4.toNat : Int), .int .u8 (a5.toNat : Int), .int .u8 (p0.toNat : Int), .int .u8 (p1.toNat : Int), .int .u8 (p2.toNat : Int), .int .u8 (p3.toNat : Int), .int .u8 (m0.toNat : Int), .int .u8 (m1.toNat : Int), .int .u8 (m2.toNat : Int), .int .u8 (m3.toNat : Int), .int .u8 (m4.toNat : Int), .int .u8 (m5.toNat : Int), .int .u8 (d0.toNat : Int), .int .u8 (d1.toNat : Int), .int .u8 (d2.toNat : Int), .int .u8 (d3.toNat : Int)] 28 (0, 0)) ∧ W.heap[w3.heap.size]? = some (.cells #[.int .i64 o2, .int .u8 (gb0.toNat : Int), .int .u8 (gb1.toNat : Int), .int .u8 (gb2.toNat : Int), .int .u8 (gb3.toNat : Int), .int .u8 (gb4.toNat : Int), .int .u8 (gb5.toNat : Int), .int .u8 (gb6.toNat : Int), .int .u8 (gb7.toNat : Int), .int .u8 (gb8.toNat : Int), .int .u8 (gb9.toNat : Int), .int .u8 (gb10.toNat : Int), .int .u8 (gb11.toNat : Int), .int .u8 (gb12.toNat : Int), .int .u8 (gb13.toNat : Int), .int .u8 (gb14.toNat : Int), .int .u8 (gb15.toNat : Int), .int .u8 (gb16.toNat : Int), .int .u8 (gb17.toNat : Int), .int .u8 (gb18.toNat : Int), .int .u8 (gb19.toNat : Int)] 28 (0, 0)) ∧ W.heap[w5.heap.size]? = some (.cells #[.int .i64 o2, .int .u8 (gb0.toNat : Int), .int .u8 (gb1.toNat : Int), .int .u8 (gb2.toNat : Int), .int .u8 (gb3.toNat : Int), .int .u8 (gb4.toNat : Int), .int .u8 (gb5.toNat : Int), .int .u8 (gb6.toNat : Int), .int .u8 (gb7.toNat : Int), .int .u8 (gb8.toNat : Int), .int .u8 (gb9.toNat : Int), .int .u8 (gb10.toNat : Int), .int .u8 (gb11.toNat : Int), .int .u8 (gb12.toNat : Int), .int .u8 (gb13.toNat : Int), .int .u8 (gb14.toNat : Int), .int .u8 (gb15.toNat : Int), .int .u8 (gb16.toNat : Int), .int .u8 (gb17.toNat : Int), .int .u8 (gb18.toNat : Int), .int .u8 (gb19.toNat : Int)] 41 (0, 0)) ∧ Sl W (Ac) (28) (cc) (rputArp 2 [a0, a1, a2, a3, a4, a5, p0, p1, p2, p3, m0, m1, m2, m3, m4, m5, d0, d1, d2, d3])) (by kernel_rfl) ⟨hp, hq, hr, hc⟩ (fun hH => ?_)
  generalize w7.drew = vd at bel hp zp hm zm hq zq hr zr hc hH ⊢
  refine wpAnyH_take (i := 0) (v := ?_) rfl (by kernel_rfl) (by kernel_rfl) (by kernel_rfl) (fun _ _ _ h => h) (Or.inl ⟨by rfl, ?_⟩) hH ?_
  rotate_left
  · ((intro W hW; clear hW; go_simp) <;> with_reducible rfl)
  simp only [Act.put, List.getElem_toArray, List.getElem_cons_zero, List.setIfInBounds_toArray, List.set_cons_zero, List.set_cons_succ]
  refine wpAnyH_take (i := 1) (v := ?_) rfl (by kernel_rfl) (by kernel_rfl) (by kernel_rfl) (fun _ _ _ h => h) (Or.inl ⟨by rfl, ?_⟩) hH ?_
  rotate_left
  · ((intro W hW; clear hW; go_simp) <;> with_reducible rfl)
  simp only [Act.put, List.getElem_toArray, List.getElem_cons_zero, List.getElem_cons_succ, List.setIfInBounds_toArray, List.set_cons_zero, List.set_cons_succ]
  refine wpAnyH_take (i := 2) (v := ?_) rfl (by kernel_rfl) (by kernel_rfl) (by kernel_rfl) (fun _ _ _ h => h) (Or.inl ⟨by rfl, ?_⟩) hH ?_
  rotate_left
  · ((intro W hW; clear hW; go_simp) <;> with_reducible rfl)
  simp only [Act.put, List.getElem_toArray, List.getElem_cons_zero, List.getElem_cons_succ, List.setIfInBounds_toArray, List.set_cons_zero, List.set_cons_succ]
  refine wpAnyH_take (i := 3) (v := ?_) rfl (by kernel_rfl) (by kernel_rfl) (by kernel_rfl) (fun _ _ _ h => h) (Or.inl ⟨by rfl, ?_⟩) hH ?_
  rotate_left
  · ((intro W hW; clear hW; go_simp) <;> with_reducible rfl)
  simp only [Act.put, List.getElem_toArray, List.getElem_cons_zero, List.getElem_cons_succ, List.setIfInBounds_toArray, List.set_cons_zero, List.set_cons_succ]
  refine wpAnyH_take (i := 4) (v := .agg #[.int .i64 o2, .int .u8 (gb0.toNat : Int), .int .u8 (gb1.toNat : Int), .int .u8 (gb2.toNat : Int), .int .u8 (gb3.toNat : Int), .int .u8 (gb4.toNat : Int), .int .u8 (gb5.toNat : Int), .int .u8 (gb6.toNat : Int), .int .u8 (gb7.toNat : Int), .int .u8 (gb8.toNat : Int), .int .u8 (gb9.toNat : Int), .int .u8 (gb10.toNat : Int), .int .u8 (gb11.toNat : Int), .int .u8 (gb12.toNat : Int), .int .u8 (gb13.toNat : Int), .int .u8 (gb14.toNat : Int), .int .u8 (gb15.toNat : Int), .int .u8 (gb16.toNat : Int), .int .u8 (gb17.toNat : Int), .int .u8 (gb18.toNat : Int), .int .u8 (gb19.toNat : Int)]) rfl (by kernel_rfl) (by kernel_rfl) (by kernel_rfl) (fun _ _ _ h => h) (yieldsIf_load_part (by kernel_rfl) 28 _ rfl (w3.heap.size) 0 21 rfl [.int .i64 o2, .int .u8 (gb0.toNat : Int), .int .u8 (gb1.toNat : Int), .int .u8 (gb2.toNat : Int), .int .u8 (gb3.toNat : Int), .int .u8 (gb4.toNat : Int), .int .u8 (gb5.toNat : Int), .int .u8 (gb6.toNat : Int), .int .u8 (gb7.toNat : Int), .int .u8 (gb8.toNat : Int), .int .u8 (gb9.toNat : Int), .int .u8 (gb10.toNat : Int), .int .u8 (gb11.toNat : Int), .int .u8 (gb12.toNat : Int), .int .u8 (gb13.toNat : Int), .int .u8 (gb14.toNat : Int), .int .u8 (gb15.toNat : Int), .int .u8 (gb16.toNat : Int), .int .u8 (gb17.toNat : Int), .int .u8 (gb18.toNat : Int), .int .u8 (gb19.toNat : Int)] 28 (0, 0) (fun W hW => hW.2.1) [.int .i64 o2, .int .u8 (gb0.toNat : Int), .int .u8 (gb1.toNat : Int), .int .u8 (gb2.toNat : Int), .int .u8 (gb3.toNat : Int), .int .u8 (gb4.toNat : Int), .int .u8 (gb5.toNat : Int), .int .u8 (gb6.toNat : Int), .int .u8 (gb7.toNat : Int), .int .u8 (gb8.toNat : Int), .int .u8 (gb9.toNat : Int), .int .u8 (gb10.toNat : Int), .int .u8 (gb11.toNat : Int), .int .u8 (gb12.toNat : Int), .int .u8 (gb13.toNat : Int), .int .u8 (gb14.toNat : Int), .int .u8 (gb15.toNat : Int), .int .u8 (gb16.toNat : Int), .int .u8 (gb17.toNat : Int), .int .u8 (gb18.toNat : Int), .int .u8 (gb19.toNat : Int)] rfl _ Try.underlying28 rfl (by kernel_rfl)) hH ?_
  simp only [Act.put, List.getElem_toArray, List.getElem_cons_zero, List.getElem_cons_succ, List.setIfInBounds_toArray, List.set_cons_zero, List.set_cons_succ]
  refine wpAnyH_take (i := 6) (v := .agg #[.int .i64 o2, .int .u8 (gb0.toNat : Int), .int .u8 (gb1.toNat : Int), .int .u8 (gb2.toNat : Int), .int .u8 (gb3.toNat : Int), .int .u8 (gb4.toNat : Int), .int .u8 (gb5.toNat : Int), .int .u8 (gb6.toNat : Int), .int .u8 (gb7.toNat : Int), .int .u8 (gb8.toNat : Int), .int .u8 (gb9.toNat : Int), .int .u8 (gb10.toNat : Int), .int .u8 (gb11.toNat : Int), .int .u8 (gb12.toNat : Int), .int .u8 (gb13.toNat : Int), .int .u8 (gb14.toNat : Int), .int .u8 (gb15.toNat : Int), .int .u8 (gb16.toNat : Int), .int .u8 (gb17.toNat : Int), .int .u8 (gb18.toNat : Int), .int .u8 (gb19.toNat : Int)]) rfl (by kernel_rfl) (by kernel_rfl) (by kernel_rfl) (fun _ _ _ h => h) (yieldsIf_load_part (by kernel_rfl) 41 _ rfl (w5.heap.size) 0 21 rfl [.int .i64 o2, .int .u8 (gb0.toNat : Int), .int .u8 (gb1.toNat : Int), .int .u8 (gb2.toNat : Int), .int .u8 (gb3.toNat : Int), .int .u8 (gb4.toNat : Int), .int .u8 (gb5.toNat : Int), .int .u8 (gb6.toNat : Int), .int .u8 (gb7.toNat : Int), .int .u8 (gb8.toNat : Int), .int .u8 (gb9.toNat : Int), .int .u8 (gb10.toNat : Int), .int .u8 (gb11.toNat : Int), .int .u8 (gb12.toNat : Int), .int .u8 (gb13.toNat : Int), .int .u8 (gb14.toNat : Int), .int .u8 (gb15.toNat : Int), .int .u8 (gb16.toNat : Int), .int .u8 (gb17.toNat : Int), .int .u8 (gb18.toNat : Int), .int .u8 (gb19.toNat : Int)] 41 (0, 0) (fun W hW => hW.2.2.1) [.int .i64 o2, .int .u8 (gb0.toNat : Int), .int .u8 (gb1.toNat : Int), .int .u8 (gb2.toNat : Int), .int .u8 (gb3.toNat : Int), .int .u8 (gb4.toNat : Int), .int .u8 (gb5.toNat : Int), .int .u8 (gb6.toNat : Int), .int .u8 (gb7.toNat : Int), .int .u8 (gb8.toNat : Int), .int .u8 (gb9.toNat : Int), .int .u8 (gb10.toNat : Int), .int .u8 (gb11.toNat : Int), .int .u8 (gb12.toNat : Int), .int .u8 (gb13.toNat : Int), .int .u8 (gb14.toNat : Int), .int .u8 (gb15.toNat : Int), .int .u8 (gb16.toNat : Int), .int .u8 (gb17.toNat : Int), .int .u8 (gb18.toNat : Int), .int .u8 (gb19.toNat : Int)] rfl _ Try.underlying41 rfl (by kernel_rfl)) hH ?_
  simp only [Act.put, List.getElem_toArray, List.getElem_cons_zero, List.getElem_cons_succ, List.setIfInBounds_toArray, List.set_cons_zero, List.set_cons_succ]
  refine wpAnyH_ready (rs := [5]) (by kernel_rfl) (by simp) ?_
  refine AllReadyH.cons (o := _) rfl (fun K hK => ?_) AllReadyH.nil
  simp only [List.getElem_toArray, List.getElem_cons_zero, List.getElem_cons_succ]
  go_simp
  with_reducible refine (own5_any o2 gb0 gb1 gb2 gb3 gb4 gb5 gb6 gb7 gb8 gb9 gb10 gb11 gb12 gb13 gb14 gb15 gb16 gb17 gb18 gb19 _).mono ?_
  rintro e v21 ⟨rfl, b21⟩
  dsimp only
  replace bel := bel.trans (b21.mono bel.size)
  replace hp := (b21.block _ zp).trans hp
  replace zp := Nat.lt_of_lt_of_le zp b21.size
  replace hm := (b21.block _ zm).trans hm
  replace zm := Nat.lt_of_lt_of_le zm b21.size
  replace hq := (b21.block _ zq).trans hq
  replace zq := Nat.lt_of_lt_of_le zq b21.size
  replace hr := (b21.block _ zr).trans hr
  replace zr := Nat.lt_of_lt_of_le zr b21.size
  replace hc := hc.below b21
  refine hK.out _ _ ⟨hp, hq, hr, hc⟩ (fun hH21 => ?_)
  clear hK K
  refine wpAnyH_take (i := 7) (v := ?_) rfl (by kernel_rfl) (by kernel_rfl) (by kernel_rfl) (fun _ _ _ h => h) (Or.inl ⟨by rfl, ?_⟩) hH21 ?_
  rotate_left
  · ((intro W hW; clear hW; go_simp) <;> with_reducible rfl)
  simp only [Act.put, List.getElem_toArray, List.getElem_cons_zero, List.getElem_cons_succ, List.setIfInBounds_toArray, List.set_cons_zero, List.set_cons_succ]
  refine wpAnyH_take (i := 8) (v := ?_) rfl (by kernel_rfl) (by kernel_rfl) (by kernel_rfl) (fun _ _ _ h => h) (Or.inl ⟨by rfl, ?_⟩) hH21 ?_
  rotate_left
  · ((intro W hW; clear hW; go_simp) <;> with_reducible rfl)
  simp only [Act.put, List.getElem_toArray, List.getElem_cons_zero, List.getElem_cons_succ, List.setIfInBounds_toArray, List.set_cons_zero, List.set_cons_succ]
  refine wpAnyH_take (i := 9) (v := ?_) rfl (by kernel_rfl) (by kernel_rfl) (by kernel_rfl) (fun _ _ _ h => h) (Or.inl ⟨by rfl, ?_⟩) hH21 ?_
  rotate_left
  · ((intro W hW; clear hW; go_simp) <;> with_reducible rfl)
  simp only [Act.put, List.getElem_toArray, List.getElem_cons_zero, List.getElem_cons_succ, List.setIfInBounds_toArray, List.set_cons_zero, List.set_cons_succ]
  refine wpAnyH_take (i := 10) (v := ?_) rfl (by kernel_rfl) (by kernel_rfl) (by kernel_rfl) (fun _ _ _ h => h) (Or.inl ⟨by rfl, ?_⟩) hH21 ?_
  rotate_left
  · ((intro W hW; clear hW; go_simp) <;> with_reducible rfl)
  simp only [Act.put, List.getElem_toArray, List.getElem_cons_zero, List.getElem_cons_succ, List.setIfInBounds_toArray, List.set_cons_zero, List.set_cons_succ]
  refine wpAnyH_take (i := 11) (v := ?_) rfl (by kernel_rfl) (by kernel_rfl) (by kernel_rfl) (fun _ _ _ h => h) (Or.inl ⟨by rfl, ?_⟩) hH21 ?_
  rotate_left
  · ((intro W hW; clear hW; go_simp) <;> with_reducible rfl)
  simp only [Act.put, List.getElem_toArray, List.getElem_cons_zero, List.getElem_cons_succ, List.setIfInBounds_toArray, List.set_cons_zero, List.set_cons_succ]
  refine wpAnyH_take (i := 12) (v := ?_) rfl (by kernel_rfl) (by kernel_rfl) (by kernel_rfl) (fun _ _ _ h => h) (Or.inl ⟨by rfl, ?_⟩) hH21 ?_
  rotate_left
  · ((intro W hW; clear hW; go_simp) <;> with_reducible rfl)
  simp only [Act.put, List.getElem_toArray, List.getElem_cons_zero, List.getElem_cons_succ, List.setIfInBounds_toArray, List.set_cons_zero, List.set_cons_succ]
  refine wpAnyH_take (i := 13) (v := ?_) rfl (by kernel_rfl) (by kernel_rfl) (by kernel_rfl) (fun _ _ _ h => h) (Or.inl ⟨by rfl, ?_⟩) hH21 ?_
  rotate_left
  · ((intro W hW; clear hW; go_simp) <;> with_reducible rfl)
  simp only [Act.put, List.getElem_toArray, List.getElem_cons_zero, List.getElem_cons_succ, List.setIfInBounds_toArray, List.set_cons_zero, List.set_cons_succ]
  refine wpAnyH_take (i := 14) (v := ?_) rfl (by kernel_rfl) (by kernel_rfl) (by kernel_rfl) (fun _ _ _ h => h) (Or.inl ⟨by rfl, ?_⟩) hH21 ?_
  rotate_left
  · ((intro W hW; clear hW; go_simp) <;> with_reducible rfl)
  simp only [Act.put, List.getElem_toArray, List.getElem_cons_zero, List.getElem_cons_succ, List.setIfInBounds_toArray, List.set_cons_zero, List.set_cons_succ]
  refine wpAnyH_take (i := 15) (v := ?_) rfl (by kernel_rfl) (by kernel_rfl) (by kernel_rfl) (fun _ _ _ h => h) (Or.inl ⟨by rfl, ?_⟩) hH21 ?_
  rotate_left
  · ((intro W hW; clear hW; go_simp) <;> with_reducible rfl)
  simp only [Act.put, List.getElem_toArray, List.getElem_cons_zero, List.getElem_cons_succ, List.setIfInBounds_toArray, List.set_cons_zero, List.set_cons_succ]
  refine wpAnyH_take (i := 16) (v := ?_) rfl (by kernel_rfl) (by kernel_rfl) (by kernel_rfl) (fun _ _ _ h => h) (Or.inl ⟨by rfl, ?_⟩) hH21 ?_
  rotate_left
  · ((intro W hW; clear hW; go_simp) <;> with_reducible rfl)
  simp only [Act.put, List.getElem_toArray, List.getElem_cons_zero, List.getElem_cons_succ, List.setIfInBounds_toArray, List.set_cons_zero, List.set_cons_succ]
  refine wpAnyH_take (i := 17) (v := ?_) rfl (by kernel_rfl) (by kernel_rfl) (by kernel_rfl) (fun _ _ _ h => h) (Or.inl ⟨by rfl, ?_⟩) hH21 ?_
  rotate_left
  · ((intro W hW; clear hW; go_simp) <;> with_reducible rfl)
  simp only [Act.put, List.getElem_toArray, List.getElem_cons_zero, List.getElem_cons_succ, List.setIfInBounds_toArray, List.set_cons_zero, List.set_cons_succ]
  refine wpAnyH_take (i := 18) (v := ?_) rfl (by kernel_rfl) (by kernel_rfl) (by kernel_rfl) (fun _ _ _ h => h) (Or.inl ⟨by rfl, ?_⟩) hH21 ?_
  rotate_left
  · ((intro W hW; clear hW; go_simp) <;> with_reducible rfl)
  simp only [Act.put, List.getElem_toArray, List.getElem_cons_zero, List.getElem_cons_succ, List.setIfInBounds_toArray, List.set_cons_zero, List.set_cons_succ]
  refine wpAnyH_take (i := 19) (v := undef) rfl (by kernel_rfl) (by kernel_rfl) (by kernel_rfl) (fun _ _ _ h => h) (Or.inr ⟨by rfl, rfl⟩) hH21 ?_
  simp only [Act.put, List.getElem_toArray, List.getElem_cons_zero, List.getElem_cons_succ, List.setIfInBounds_toArray, List.set_cons_zero, List.set_cons_succ]
  refine wpAnyH_take (i := 20) (v := undef) rfl (by kernel_rfl) (by kernel_rfl) (by kernel_rfl) (fun _ _ _ h => h) (Or.inr ⟨by rfl, rfl⟩) hH21 ?_
  simp only [Act.put, List.getElem_toArray, List.getElem_cons_zero, List.getElem_cons_succ, List.setIfInBounds_toArray, List.set_cons_zero, List.set_cons_succ]
  refine wpAnyH_take (i := 21) (v := undef) rfl (by kernel_rfl) (by kernel_rfl) (by kernel_rfl) (fun _ _ _ h => h) (Or.inr ⟨by rfl, rfl⟩) hH21 ?_
  simp only [Act.put, List.getElem_toArray, List.getElem_cons_zero, List.getElem_cons_succ, List.setIfInBounds_toArray, List.set_cons_zero, List.set_cons_succ]
  refine wpAnyH_take (i := 22) (v := undef) rfl (by kernel_rfl) (by kernel_rfl) (by kernel_rfl) (fun _ _ _ h => h) (Or.inr ⟨by rfl, rfl⟩) hH21 ?_
  simp only [Act.put, List.getElem_toArray, List.getElem_cons_zero, List.getElem_cons_succ, List.setIfInBounds_toArray, List.set_cons_zero, List.set_cons_succ]
  refine wpAnyH_take (i := 23) (v := undef) rfl (by kernel_rfl) (by kernel_rfl) (by kernel_rfl) (fun _ _ _ h => h) (Or.inr ⟨by rfl, rfl⟩) hH21 ?_
  simp only [Act.put, List.getElem_toArray, List.getElem_cons_zero, List.getElem_cons_succ, List.setIfInBounds_toArray, List.set_cons_zero, List.set_cons_succ]
  refine wpAnyH_take (i := 24) (v := undef) rfl (by kernel_rfl) (by kernel_rfl) (by kernel_rfl) (fun _ _ _ h => h) (Or.inr ⟨by rfl, rfl⟩) hH21 ?_
  simp only [Act.put, List.getElem_toArray, List.getElem_cons_zero, List.getElem_cons_succ, List.setIfInBounds_toArray, List.set_cons_zero, List.set_cons_succ]
  refine wpAnyH_take (i := 25) (v := undef) rfl (by kernel_rfl) (by kernel_rfl) (by kernel_rfl) (fun _ _ _ h => h) (Or.inr ⟨by rfl, rfl⟩) hH21 ?_
  simp only [Act.put, List.getElem_toArray, List.getElem_cons_zero, List.getElem_cons_succ, List.setIfInBounds_toArray, List.set_cons_zero, List.set_cons_succ]
  refine wpAnyH_take (i := 26) (v := ?_) rfl (by kernel_rfl) (by kernel_rfl) (by kernel_rfl) (fun _ _ _ h => h) (Or.inl ⟨by rfl, ?_⟩) hH21 ?_
  rotate_left
  · ((intro W hW; clear hW; go_simp) <;> with_reducible rfl)
  simp only [Act.put, List.getElem_toArray, List.getElem_cons_zero, List.getElem_cons_succ, List.setIfInBounds_toArray, List.set_cons_zero, List.set_cons_succ]
  refine wpAnyH_take (i := 27) (v := ?_) rfl (by kernel_rfl) (by kernel_rfl) (by kernel_rfl) (fun _ _ _ h => h) (Or.inl ⟨by rfl, ?_⟩) hH21 ?_
  rotate_left
  · ((intro W hW; clear hW; go_simp) <;> with_reducible rfl)
  simp only [Act.put, List.getElem_toArray, List.getElem_cons_zero, List.getElem_cons_succ, List.setIfInBounds_toArray, List.set_cons_zero, List.set_cons_succ]
  refine wpAnyH_take (i := 28) (v := ?_) rfl (by kernel_rfl) (by kernel_rfl) (by kernel_rfl) (fun _ _ _ h => h) (Or.inl ⟨by rfl, ?_⟩) hH21 ?_
  rotate_left
  · ((intro W hW; clear hW; go_simp) <;> with_reducible rfl)
  simp only [Act.put, List.getElem_toArray, List.getElem_cons_zero, List.getElem_cons_succ, List.setIfInBounds_toArray, List.set_cons_zero, List.set_cons_succ]
  refine wpAnyH_take (i := 29) (v := ?_) rfl (by kernel_rfl) (by kernel_rfl) (by kernel_rfl) (fun _ _ _ h => h) (Or.inl ⟨by rfl, ?_⟩) hH21 ?_
  rotate_left
  · ((intro W hW; clear hW; go_simp) <;> with_reducible rfl)
  simp only [Act.put, List.getElem_toArray, List.getElem_cons_zero, List.getElem_cons_succ, List.setIfInBounds_toArray, List.set_cons_zero, List.set_cons_succ]
  refine wpAnyH_take (i := 30) (v := ?_) rfl (by kernel_rfl) (by kernel_rfl) (by kernel_rfl) (fun _ _ _ h => h) (Or.inl ⟨by rfl, ?_⟩) hH21 ?_
  rotate_left
  · ((intro W hW; clear hW; go_simp) <;> with_reducible rfl)
  simp only [Act.put, List.getElem_toArray, List.getElem_cons_zero, List.getElem_cons_succ, List.setIfInBounds_toArray, List.set_cons_zero, List.set_cons_succ]
  refine wpAnyH_take (i := 31) (v := ?_) rfl (by kernel_rfl) (by kernel_rfl) (by kernel_rfl) (fun _ _ _ h => h) (Or.inl ⟨by rfl, ?_⟩) hH21 ?_
  rotate_left
  · ((intro W hW; clear hW; go_simp) <;> with_reducible rfl)
  simp only [Act.put, List.getElem_toArray, List.getElem_cons_zero, List.getElem_cons_succ, List.setIfInBounds_toArray, List.set_cons_zero, List.set_cons_succ]
  refine wpAnyH_take (i := 32) (v := ?_) rfl (by kernel_rfl) (by kernel_rfl) (by kernel_rfl) (fun _ _ _ h => h) (Or.inl ⟨by rfl, ?_⟩) hH21 ?_
  rotate_left
  · ((intro W hW; have st0 := (hW.2.2.2).str (P := Try.prog) 32 5 9 Try.underlying32 Try.underlying5 Try.underlying9; clear hW; go_simp) <;> with_reducible rfl)
  simp only [Act.put, List.getElem_toArray, List.getElem_cons_zero, List.getElem_cons_succ, List.setIfInBounds_toArray, List.set_cons_zero, List.set_cons_succ]
  refine wpAnyH_take (i := 33) (v := .agg #[.int .i64 2, .int .u8 (a0.toNat : Int), .int .u8 (a1.toNat : Int), .int .u8 (a2.toNat : Int), .int .u8 (a3.toNat : Int), .int .u8 (a4.toNat : Int), .int .u8 (a5.toNat : Int), .int .u8 (p0.toNat : Int), .int .u8 (p1.toNat : Int), .int .u8 (p2.toNat : Int), .int .u8 (p3.toNat : Int), .int .u8 (m0.toNat : Int), .int .u8 (m1.toNat : Int), .int .u8 (m2.toNat : Int), .int .u8 (m3.toNat : Int), .int .u8 (m4.toNat : Int), .int .u8 (m5.toNat : Int), .int .u8 (d0.toNat : Int), .int .u8 (d1.toNat : Int), .int .u8 (d2.toNat : Int), .int .u8 (d3.toNat : Int)]) rfl (by kernel_rfl) (by kernel_rfl) (by kernel_rfl) (fun _ _ _ h => h) (yieldsIf_load_part (by kernel_rfl) 28 _ rfl (w.heap.size) 0 21 rfl [.int .i64 2, .int .u8 (a0.toNat : Int), .int .u8 (a1.toNat : Int), .int .u8 (a2.toNat : Int), .int .u8 (a3.toNat : Int), .int .u8 (a4.toNat : Int), .int .u8 (a5.toNat : Int), .int .u8 (p0.toNat : Int), .int .u8 (p1.toNat : Int), .int .u8 (p2.toNat : Int), .int .u8 (p3.toNat : Int), .int .u8 (m0.toNat : Int), .int .u8 (m1.toNat : Int), .int .u8 (m2.toNat : Int), .int .u8 (m3.toNat : Int), .int .u8 (m4.toNat : Int), .int .u8 (m5.toNat : Int), .int .u8 (d0.toNat : Int), .int .u8 (d1.toNat : Int), .int .u8 (d2.toNat : Int), .int .u8 (d3.toNat : Int)] 28 (0, 0) (fun W hW => hW.1) [.int .i64 2, .int .u8 (a0.toNat : Int), .int .u8 (a1.toNat : Int), .int .u8 (a2.toNat : Int), .int .u8 (a3.toNat : Int), .int .u8 (a4.toNat : Int), .int .u8 (a5.toNat : Int), .int .u8 (p0.toNat : Int), .int .u8 (p1.toNat : Int), .int .u8 (p2.toNat : Int), .int .u8 (p3.toNat : Int), .int .u8 (m0.toNat : Int), .int .u8 (m1.toNat : Int), .int .u8 (m2.toNat : Int), .int .u8 (m3.toNat : Int), .int .u8 (m4.toNat : Int), .int .u8 (m5.toNat : Int), .int .u8 (d0.toNat : Int), .int .u8 (d1.toNat : Int), .int .u8 (d2.toNat : Int), .int .u8 (d3.toNat : Int)] rfl _ Try.underlying28 rfl (by kernel_rfl)) hH21 ?_
  simp only [Act.put, List.getElem_toArray, List.getElem_cons_zero, List.getElem_cons_succ, List.setIfInBounds_toArray, List.set_cons_zero, List.set_cons_succ]
  refine wpAnyH_ready (rs := [34]) (by kernel_rfl) (by simp) ?_
  refine AllReadyH.cons (o := _) rfl (fun K hK => ?_) AllReadyH.nil
  simp only [List.getElem_toArray, List.getElem_cons_zero, List.getElem_cons_succ]
  go_simp
  with_reducible refine (own5_any 2 a0 a1 a2 a3 a4 a5 p0 p1 p2 p3 m0 m1 m2 m3 m4 m5 d0 d1 d2 d3 _).mono ?_
  rintro e v22 ⟨rfl, b22⟩
  dsimp only
  replace bel := bel.trans (b22.mono bel.size)
  replace hp := (b22.block _ zp).trans hp
  replace zp := Nat.lt_of_lt_of_le zp b22.size
  replace hm := (b22.block _ zm).trans hm
  replace zm := Nat.lt_of_lt_of_le zm b22.size
  replace hq := (b22.block _ zq).trans hq
  replace zq := Nat.lt_of_lt_of_le zq b22.size
  replace hr := (b22.block _ zr).trans hr
  replace zr := Nat.lt_of_lt_of_le zr b22.size
  replace hc := hc.below b22
  refine hK.out _ _ ⟨hp, hq, hr, hc⟩ (fun hH22 => ?_)
  clear hK K
  refine wpAnyH_ready (rs := [35]) (by kernel_rfl) (by simp) ?_
  refine AllReadyH.cons (o := _) rfl (fun K hK => ?_) AllReadyH.nil
  simp only [List.getElem_toArray, List.getElem_cons_zero, List.getElem_cons_succ]
  go_simp
  with_reducible refine (rput5_any 2 a0 a1 a2 a3 a4 a5 p0 p1 p2 p3 m0 m1 m2 m3 m4 m5 d0 d1 d2 d3 _).mono ?_
  rintro e v23 ⟨AP, cP, rfl, hP, b23, _⟩
  dsimp only
  replace bel := bel.trans (b23.mono bel.size)
  replace hp := (b23.block _ zp).trans hp
  replace zp := Nat.lt_of_lt_of_le zp b23.size
  replace hm := (b23.block _ zm).trans hm
  replace zm := Nat.lt_of_lt_of_le zm b23.size
  replace hq := (b23.block _ zq).trans hq
  replace zq := Nat.lt_of_lt_of_le zq b23.size
  replace hr := (b23.block _ zr).trans hr
  replace zr := Nat.lt_of_lt_of_le zr b23.size
  replace hc := hc.below b23
  refine hK.out _ _ ⟨hp, hq, hr, hc⟩ (fun hH23 => ?_)
  clear hK K
  have st36 := hP.str (P := Try.prog) 32 5 9 Try.underlying32 Try.underlying5 Try.underlying9
  refine wpAnyH_ready (rs := [36]) (by kernel_rfl) (by simp) ?_
  refine AllReadyH.cons (o := _) rfl (fun K hK => ?_) AllReadyH.nil
  simp only [List.getElem_toArray, List.getElem_cons_zero, List.getElem_cons_succ]
  go_simp
  refine hK.out _ _ ⟨hp, hq, hr, hc⟩ (fun hH24 => ?_)
  clear hK K
  clear st36
  refine wpAnyH_take (i := 37) (v := ?_) rfl (by kernel_rfl) (by kernel_rfl) (by kernel_rfl) (fun _ _ _ h => h) (Or.inl ⟨by rfl, ?_⟩) hH24 ?_
  rotate_left
  · ((intro W hW; clear hW; go_simp) <;> with_reducible rfl)
  simp only [Act.put, List.getElem_toArray, List.getElem_cons_zero, List.getElem_cons_succ, List.setIfInBounds_toArray, List.set_cons_zero, List.set_cons_succ]
  refine wpAnyH_take (i := 38) (v := ?_) rfl (by kernel_rfl) (by kernel_rfl) (by kernel_rfl) (fun _ _ _ h => h) (Or.inl ⟨by rfl, ?_⟩) hH24 ?_
  rotate_left
  · ((intro W hW; clear hW; go_simp) <;> with_reducible rfl)
  simp only [Act.put, List.getElem_toArray, List.getElem_cons_zero, List.getElem_cons_succ, List.setIfInBounds_toArray, List.set_cons_zero, List.set_cons_succ]
  refine wpAnyH_take (i := 39) (v := ?_) rfl (by kernel_rfl) (by kernel_rfl) (by kernel_rfl) (fun _ _ _ h => h) (Or.inl ⟨by rfl, ?_⟩) hH24 ?_
  rotate_left
  · ((intro W hW; clear hW; go_simp) <;> with_reducible rfl)
  simp only [Act.put, List.getElem_toArray, List.getElem_cons_zero, List.getElem_cons_succ, List.setIfInBounds_toArray, List.set_cons_zero, List.set_cons_succ]
  refine wpAnyH_done (by kernel_rfl) ?_ _
  clear qn gn hc hP
  clear hq zq
  clear hr zr
  have R5 := Lib.hid (range_lit hm 0 6 [.int .u8 (e0.toNat : Int), .int .u8 (e1.toNat : Int), .int .u8 (e2.toNat : Int), .int .u8 (e3.toNat : Int), .int .u8 (e4.toNat : Int), .int .u8 (e5.toNat : Int)] rfl)
  have R4 := Lib.hid (range_lit hp 0 21 [.int .i64 2, .int .u8 (a0.toNat : Int), .int .u8 (a1.toNat : Int), .int .u8 (a2.toNat : Int), .int .u8 (a3.toNat : Int), .int .u8 (a4.toNat : Int), .int .u8 (a5.toNat : Int), .int .u8 (p0.toNat : Int), .int .u8 (p1.toNat : Int), .int .u8 (p2.toNat : Int), .int .u8 (p3.toNat : Int), .int .u8 (m0.toNat : Int), .int .u8 (m1.toNat : Int), .int .u8 (m2.toNat : Int), .int .u8 (m3.toNat : Int), .int .u8 (m4.toNat : Int), .int .u8 (m5.toNat : Int), .int .u8 (d0.toNat : Int), .int .u8 (d1.toNat : Int), .int .u8 (d2.toNat : Int), .int .u8 (d3.toNat : Int)] rfl)
  go_wp2_with (first | ((with_reducible show wpList _ _ _ (⟨some 87, _, _, _, _, _⟩ :: _) _ _); refine wpList_load_rng 24 (.tmp 5) rfl (by kernel_rfl) _ _ rfl _ R5.out _ Try.underlying24 rfl (by kernel_rfl) ?_) | ((with_reducible show wpList _ _ _ (⟨some 88, _, _, _, _, _⟩ :: _) _ _); refine wpList_load_rng 28 (.tmp 4) rfl (by kernel_rfl) _ _ rfl _ R4.out _ Try.underlying28 rfl (by kernel_rfl) ?_))
  with_reducible refine (aanswer_no e0 e1 e2 e3 e4 e5 2 a0 a1 a2 a3 a4 a5 p0 p1 p2 p3 m0 m1 m2 m3 m4 m5 d0 d1 d2 d3 _ (by decide)).mono ?_
  clear R5 R4
  rintro e w8 ⟨rfl, b8⟩
  replace hp := (b8.block _ zp).trans hp
  replace zp := Nat.lt_of_lt_of_le zp b8.size
  replace hm := (b8.block _ zm).trans hm
  replace zm := Nat.lt_of_lt_of_le zm b8.size
  replace bel := bel.trans (b8.mono bel.size)
  clear b8
  have ng := heap_alloc_new w8 (.cells #[.int .u8 0, .int .u8 0, .int .u8 0, .int .u8 0, .int .u8 0, .int .u8 0, .int .u8 0, .int .u8 0, .int .u8 0, .int .u8 0, .int .u8 0, .int .u8 0, .int .i64 0, .slice none 0 0] 36)
  have bqg := (Below.refl w8.heap.size w8).alloc (Nat.le_refl _) (.cells #[.int .u8 0, .int .u8 0, .int .u8 0, .int .u8 0, .int .u8 0, .int .u8 0, .int .u8 0, .int .u8 0, .int .u8 0, .int .u8 0, .int .u8 0, .int .u8 0, .int .i64 0, .slice none 0 0] 36)
  go_wp2_with (first | ((with_reducible show wpList _ _ _ (⟨none, Op.store _ _ _, _, _, _, _⟩ :: _) _ _); refine wpList_store_blk rfl 36 _ _ rfl (w8.heap.size) rfl #[.int .u8 0, .int .u8 0, .int .u8 0, .int .u8 0, .int .u8 0, .int .u8 0, .int .u8 0, .int .u8 0, .int .u8 0, .int .u8 0, .int .u8 0, .int .u8 0, .int .i64 0, .slice none 0 0] rfl _ 36 ng (by rfl) (by kernel_rfl) (by kernel_rfl) ?_; intro x9 hg gg; have bz := below_grown bqg gg (Nat.le_refl _) bqg.size; replace hp := (bz.block _ zp).trans hp; replace zp := Nat.lt_of_lt_of_le zp bz.size; replace hm := (bz.block _ zm).trans hm; replace zm := Nat.lt_of_lt_of_le zm bz.size; replace bel := bel.trans (bz.mono bel.size); have zg := (Array.getElem?_eq_some_iff.1 hg).1; clear ng bqg bz gg; have R94 := cell_lit hp 0 _ rfl))
  clear R94
  replace bel := bel.drew
  replace hp : x9.drew.heap[w.heap.size]? = some (.cells #[.int .i64 2, .int .u8 (a0.toNat : Int), .int .u8 (a1.toNat : Int), .int .u8 (a2.toNat : Int), .int .u8 (a3.toNat : Int), .int .u8 (a4.toNat : Int), .int .u8 (a5.toNat : Int), .int .u8 (p0.toNat : Int), .int .u8 (p1.toNat : Int), .int .u8 (p2.toNat : Int), .int .u8 (p3.toNat : Int), .int .u8 (m0.toNat : Int), .int .u8 (m1.toNat : Int), .int .u8 (m2.toNat : Int), .int .u8 (m3.toNat : Int), .int .u8 (m4.toNat : Int), .int .u8 (m5.toNat : Int), .int .u8 (d0.toNat : Int), .int .u8 (d1.toNat : Int), .int .u8 (d2.toNat : Int), .int .u8 (d3.toNat : Int)] 28 (0, 0)) := hp
  replace zp : w.heap.size < x9.drew.heap.size := zp
  replace hm : x9.drew.heap[w.heap.size + 1]? = some (.cells #[.int .u8 (e0.toNat : Int), .int .u8 (e1.toNat : Int), .int .u8 (e2.toNat : Int), .int .u8 (e3.toNat : Int), .int .u8 (e4.toNat : Int), .int .u8 (e5.toNat : Int)] 24 (0, 0)) := hm
  replace zm : w.heap.size + 1 < x9.drew.heap.size := zm
  replace hg : x9.drew.heap[w8.heap.size]? = some (.cells #[.int .u8 0, .int .u8 0, .int .u8 0, .int .u8 0, .int .u8 0, .int .u8 0, .int .u8 0, .int .u8 0, .int .u8 0, .int .u8 0, .int .u8 0, .int .u8 0, .int .i64 0, .slice none 0 0] 36 (0, 0)) := hg
  replace zg : w8.heap.size < x9.drew.heap.size := zg
  refine wp_region_held_drew (S := fun W => W.heap[w.heap.size]? = some (.cells #[.int .i64 2, .int .u8 (a0.toNat : Int), .int .u8 (a1.toNat : Int), .int .u8 (a2.toNat : Int), .int .u8 (a3.toNat : Int), .int .u8 (a4.toNat : Int), .int .u8 (a5.toNat : Int), .int .u8 (p0.toNat : Int), .int .u8 (p1.toNat : Int), .int .u8 (p2.toNat : Int), .int .u8 (p3.toNat : Int), .int .u8 (m0.toNat : Int), .int .u8 (m1.toNat : Int), .int .u8 (m2.toNat : Int), .int .u8 (m3.toNat : Int), .int .u8 (m4.toNat : Int), .int .u8 (m5.toNat : Int), .int .u8 (d0.toNat : Int), .int .u8 (d1.toNat : Int), .int .u8 (d2.toNat : Int), .int .u8 (d3.toNat : Int)] 28 (0, 0)) ∧ W.heap[w.heap.size + 1]? = some (.cells #[.int .u8 (e0.toNat : Int), .int .u8 (e1.toNat : Int), .int .u8 (e2.toNat : Int), .int .u8 (e3.toNat : Int), .int .u8 (e4.toNat : Int), .int .u8 (e5.toNat : Int)] 24 (0, 0)) ∧ W.heap[w8.heap.size]? = some (.cells #[.int .u8 0, .int .u8 0, .int .u8 0, .int .u8 0, .int .u8 0, .int .u8 0, .int .u8 0, .int .u8 0, .int .u8 0, .int .u8 0, .int .u8 0, .int .u8 0, .int .i64 0, .slice none 0 0] 36 (0, 0))) (by kernel_rfl) ⟨hp, hm, hg⟩ (fun hH => ?_)
  generalize x9.drew = ve at bel hp zp hm zm hg zg hH ⊢
  refine wpAnyH_take (i := 0) (v := .agg #[.int .u8 (e0.toNat : Int), .int .u8 (e1.toNat : Int), .int .u8 (e2.toNat : Int), .int .u8 (e3.toNat : Int), .int .u8 (e4.toNat : Int), .int .u8 (e5.toNat : Int)]) rfl (by kernel_rfl) (by kernel_rfl) (by kernel_rfl) (fun _ _ _ h => h) (yieldsIf_load_part (by kernel_rfl) 24 _ rfl (w.heap.size + 1) 0 6 rfl [.int .u8 (e0.toNat : Int), .int .u8 (e1.toNat : Int), .int .u8 (e2.toNat : Int), .int .u8 (e3.toNat : Int), .int .u8 (e4.toNat : Int), .int .u8 (e5.toNat : Int)] 24 (0, 0) (fun W hW => hW.2.1) [.int .u8 (e0.toNat : Int), .int .u8 (e1.toNat : Int), .int .u8 (e2.toNat : Int), .int .u8 (e3.toNat : Int), .int .u8 (e4.toNat : Int), .int .u8 (e5.toNat : Int)] rfl _ Try.underlying24 rfl (by kernel_rfl)) hH ?_
  simp only [Act.put, List.getElem_toArray, List.getElem_cons_zero, List.setIfInBounds_toArray, List.set_cons_zero, List.set_cons_succ]
  refine wpAnyH_take (i := 1) (v := ?_) rfl (by kernel_rfl) (by kernel_rfl) (by kernel_rfl) (fun _ _ _ h => h) (Or.inl ⟨by rfl, ?_⟩) hH ?_
  rotate_left
  · ((intro W hW; clear hW; go_simp) <;> with_reducible rfl)
  simp only [Act.put, List.getElem_toArray, List.getElem_cons_zero, List.getElem_cons_succ, List.setIfInBounds_toArray, List.set_cons_zero, List.set_cons_succ]
  refine wpAnyH_take (i := 2) (v := .agg #[.int .u8 (p0.toNat : Int), .int .u8 (p1.toNat : Int), .int .u8 (p2.toNat : Int), .int .u8 (p3.toNat : Int)]) rfl (by kernel_rfl) (by kernel_rfl) (by kernel_rfl) (fun _ _ _ h => h) (yieldsIf_load_part (by kernel_rfl) 26 _ rfl (w.heap.size) 7 4 rfl [.int .i64 2, .int .u8 (a0.toNat : Int), .int .u8 (a1.toNat : Int), .int .u8 (a2.toNat : Int), .int .u8 (a3.toNat : Int), .int .u8 (a4.toNat : Int), .int .u8 (a5.toNat : Int), .int .u8 (p0.toNat : Int), .int .u8 (p1.toNat : Int), .int .u8 (p2.toNat : Int), .int .u8 (p3.toNat : Int), .int .u8 (m0.toNat : Int), .int .u8 (m1.toNat : Int), .int .u8 (m2.toNat : Int), .int .u8 (m3.toNat : Int), .int .u8 (m4.toNat : Int), .int .u8 (m5.toNat : Int), .int .u8 (d0.toNat : Int), .int .u8 (d1.toNat : Int), .int .u8 (d2.toNat : Int), .int .u8 (d3.toNat : Int)] 28 (0, 0) (fun W hW => hW.1) [.int .u8 (p0.toNat : Int), .int .u8 (p1.toNat : Int), .int .u8 (p2.toNat : Int), .int .u8 (p3.toNat : Int)] rfl _ Try.underlying26 rfl (by kernel_rfl)) hH ?_
  simp only [Act.put, List.getElem_toArray, List.getElem_cons_zero, List.getElem_cons_succ, List.setIfInBounds_toArray, List.set_cons_zero, List.set_cons_succ]
  refine wpAnyH_take (i := 3) (v := ?_) rfl (by kernel_rfl) (by kernel_rfl) (by kernel_rfl) (fun _ _ _ h => h) (Or.inl ⟨by rfl, ?_⟩) hH ?_
  rotate_left
  · ((intro W hW; clear hW; go_simp) <;> with_reducible rfl)
  simp only [Act.put, List.getElem_toArray, List.getElem_cons_zero, List.getElem_cons_succ, List.setIfInBounds_toArray, List.set_cons_zero, List.set_cons_succ]
  refine wpAnyH_take (i := 4) (v := .agg #[.int .u8 (d0.toNat : Int), .int .u8 (d1.toNat : Int), .int .u8 (d2.toNat : Int), .int .u8 (d3.toNat : Int)]) rfl (by kernel_rfl) (by kernel_rfl) (by kernel_rfl) (fun _ _ _ h => h) (yieldsIf_load_part (by kernel_rfl) 26 _ rfl (w.heap.size) 17 4 rfl [.int .i64 2, .int .u8 (a0.toNat : Int), .int .u8 (a1.toNat : Int), .int .u8 (a2.toNat : Int), .int .u8 (a3.toNat : Int), .int .u8 (a4.toNat : Int), .int .u8 (a5.toNat : Int), .int .u8 (p0.toNat : Int), .int .u8 (p1.toNat : Int), .int .u8 (p2.toNat : Int), .int .u8 (p3.toNat : Int), .int .u8 (m0.toNat : Int), .int .u8 (m1.toNat : Int), .int .u8 (m2.toNat : Int), .int .u8 (m3.toNat : Int), .int .u8 (m4.toNat : Int), .int .u8 (m5.toNat : Int), .int .u8 (d0.toNat : Int), .int .u8 (d1.toNat : Int), .int .u8 (d2.toNat : Int), .int .u8 (d3.toNat : Int)] 28 (0, 0) (fun W hW => hW.1) [.int .u8 (d0.toNat : Int), .int .u8 (d1.toNat : Int), .int .u8 (d2.toNat : Int), .int .u8 (d3.toNat : Int)] rfl _ Try.underlying26 rfl (by kernel_rfl)) hH ?_
  simp only [Act.put, List.getElem_toArray, List.getElem_cons_zero, List.getElem_cons_succ, List.setIfInBounds_toArray, List.set_cons_zero, List.set_cons_succ]
  refine wpAnyH_take (i := 6) (v := .agg #[.int .u8 (e0.toNat : Int), .int .u8 (e1.toNat : Int), .int .u8 (e2.toNat : Int), .int .u8 (e3.toNat : Int), .int .u8 (e4.toNat : Int), .int .u8 (e5.toNat : Int)]) rfl (by kernel_rfl) (by kernel_rfl) (by kernel_rfl) (fun _ _ _ h => h) (yieldsIf_load_part (by kernel_rfl) 24 _ rfl (w.heap.size + 1) 0 6 rfl [.int .u8 (e0.toNat : Int), .int .u8 (e1.toNat : Int), .int .u8 (e2.toNat : Int), .int .u8 (e3.toNat : Int), .int .u8 (e4.toNat : Int), .int .u8 (e5.toNat : Int)] 24 (0, 0) (fun W hW => hW.2.1) [.int .u8 (e0.toNat : Int), .int .u8 (e1.toNat : Int), .int .u8 (e2.toNat : Int), .int .u8 (e3.toNat : Int), .int .u8 (e4.toNat : Int), .int .u8 (e5.toNat : Int)] rfl _ Try.underlying24 rfl (by kernel_rfl)) hH ?_
  simp only [Act.put, List.getElem_toArray, List.getElem_cons_zero, List.getElem_cons_succ, List.setIfInBounds_toArray, List.set_cons_zero, List.set_cons_succ]
  refine wpAnyH_take (i := 7) (v := ?_) rfl (by kernel_rfl) (by kernel_rfl) (by kernel_rfl) (fun _ _ _ h => h) (Or.inl ⟨by rfl, ?_⟩) hH ?_
  rotate_left
  · ((intro W hW; clear hW; go_simp) <;> with_reducible rfl)
  simp only [Act.put, List.getElem_toArray, List.getElem_cons_zero, List.getElem_cons_succ, List.setIfInBounds_toArray, List.set_cons_zero, List.set_cons_succ]
  refine wpAnyH_take (i := 8) (v := .agg #[.int .u8 (p0.toNat : Int), .int .u8 (p1.toNat : Int), .int .u8 (p2.toNat : Int), .int .u8 (p3.toNat : Int)]) rfl (by kernel_rfl) (by kernel_rfl) (by kernel_rfl) (fun _ _ _ h => h) (yieldsIf_load_part (by kernel_rfl) 26 _ rfl (w.heap.size) 7 4 rfl [.int .i64 2, .int .u8 (a0.toNat : Int), .int .u8 (a1.toNat : Int), .int .u8 (a2.toNat : Int), .int .u8 (a3.toNat : Int), .int .u8 (a4.toNat : Int), .int .u8 (a5.toNat : Int), .int .u8 (p0.toNat : Int), .int .u8 (p1.toNat : Int), .int .u8 (p2.toNat : Int), .int .u8 (p3.toNat : Int), .int .u8 (m0.toNat : Int), .int .u8 (m1.toNat : Int), .int .u8 (m2.toNat : Int), .int .u8 (m3.toNat : Int), .int .u8 (m4.toNat : Int), .int .u8 (m5.toNat : Int), .int .u8 (d0.toNat : Int), .int .u8 (d1.toNat : Int), .int .u8 (d2.toNat : Int), .int .u8 (d3.toNat : Int)] 28 (0, 0) (fun W hW => hW.1) [.int .u8 (p0.toNat : Int), .int .u8 (p1.toNat : Int), .int .u8 (p2.toNat : Int), .int .u8 (p3.toNat : Int)] rfl _ Try.underlying26 rfl (by kernel_rfl)) hH ?_
  simp only [Act.put, List.getElem_toArray, List.getElem_cons_zero, List.getElem_cons_succ, List.setIfInBounds_toArray, List.set_cons_zero, List.set_cons_succ]
  refine wpAnyH_take (i := 9) (v := ?_) rfl (by kernel_rfl) (by kernel_rfl) (by kernel_rfl) (fun _ _ _ h => h) (Or.inl ⟨by rfl, ?_⟩) hH ?_
  rotate_left
  · ((intro W hW; clear hW; go_simp) <;> with_reducible rfl)
  simp only [Act.put, List.getElem_toArray, List.getElem_cons_zero, List.getElem_cons_succ, List.setIfInBounds_toArray, List.set_cons_zero, List.set_cons_succ]
  refine wpAnyH_take (i := 10) (v := .agg #[.int .u8 (d0.toNat : Int), .int .u8 (d1.toNat : Int), .int .u8 (d2.toNat : Int), .int .u8 (d3.toNat : Int)]) rfl (by kernel_rfl) (by kernel_rfl) (by kernel_rfl) (fun _ _ _ h => h) (yieldsIf_load_part (by kernel_rfl) 26 _ rfl (w.heap.size) 17 4 rfl [.int .i64 2, .int .u8 (a0.toNat : Int), .int .u8 (a1.toNat : Int), .int .u8 (a2.toNat : Int), .int .u8 (a3.toNat : Int), .int .u8 (a4.toNat : Int), .int .u8 (a5.toNat : Int), .int .u8 (p0.toNat : Int), .int .u8 (p1.toNat : Int), .int .u8 (p2.toNat : Int), .int .u8 (p3.toNat : Int), .int .u8 (m0.toNat : Int), .int .u8 (m1.toNat : Int), .int .u8 (m2.toNat : Int), .int .u8 (m3.toNat : Int), .int .u8 (m4.toNat : Int), .int .u8 (m5.toNat : Int), .int .u8 (d0.toNat : Int), .int .u8 (d1.toNat : Int), .int .u8 (d2.toNat : Int), .int .u8 (d3.toNat : Int)] 28 (0, 0) (fun W hW => hW.1) [.int .u8 (d0.toNat : Int), .int .u8 (d1.toNat : Int), .int .u8 (d2.toNat : Int), .int .u8 (d3.toNat : Int)] rfl _ Try.underlying26 rfl (by kernel_rfl)) hH ?_
  simp only [Act.put, List.getElem_toArray, List.getElem_cons_zero, List.getElem_cons_succ, List.setIfInBounds_toArray, List.set_cons_zero, List.set_cons_succ]
  refine wpAnyH_ready (rs := [5]) (by kernel_rfl) (by simp) ?_
  refine AllReadyH.cons (o := _) rfl (fun K hK => ?_) AllReadyH.nil
  simp only [List.getElem_toArray, List.getElem_cons_zero, List.getElem_cons_succ]
  go_simp
  with_reducible refine (aask_any e0 e1 e2 e3 e4 e5 p0 p1 p2 p3 d0 d1 d2 d3 _).mono ?_
  rintro e v41 ⟨A3, c3, rfl, h3, b41, _⟩
  dsimp only
  replace bel := bel.trans (b41.mono bel.size)
  replace hp := (b41.block _ zp).trans hp
  replace zp := Nat.lt_of_lt_of_le zp b41.size
  replace hm := (b41.block _ zm).trans hm
  replace zm := Nat.lt_of_lt_of_le zm b41.size
  replace hg := (b41.block _ zg).trans hg
  replace zg := Nat.lt_of_lt_of_le zg b41.size
  rw [put_eq _ _ (by decide)] at h3
  refine hK.out _ _ ⟨hp, hm, hg⟩ (fun hH41 => ?_)
  clear hK K
  refine wpAnyH_ready (rs := [11]) (by kernel_rfl) (by simp) ?_
  refine AllReadyH.cons (o := _) rfl (fun K hK => ?_) AllReadyH.nil
  simp only [List.getElem_toArray, List.getElem_cons_zero, List.getElem_cons_succ]
  go_simp
  with_reducible refine (rask_any e0 e1 e2 e3 e4 e5 p0 p1 p2 p3 d0 d1 d2 d3 _).mono ?_
  rintro e v42 ⟨A4, c4, rfl, h4, b42⟩
  dsimp only
  replace bel := bel.trans (b42.mono bel.size)
  replace hp := (b42.block _ zp).trans hp
  replace zp := Nat.lt_of_lt_of_le zp b42.size
  replace hm := (b42.block _ zm).trans hm
  replace zm := Nat.lt_of_lt_of_le zm b42.size
  replace hg := (b42.block _ zg).trans hg
  replace zg := Nat.lt_of_lt_of_le zg b42.size
  replace h3 := h3.below b42
  refine hK.out _ _ ⟨hp, hm, hg⟩ (fun hH42 => ?_)
  clear hK K
  refine wpAnyH_ready (rs := [12]) (by kernel_rfl) (by simp) ?_
  refine AllReadyH.cons (o := _) rfl (fun K hK => ?_) AllReadyH.nil
  simp only [List.getElem_toArray, List.getElem_cons_zero, List.getElem_cons_succ]
  go_simp
  with_reducible refine (same5_ask e0 e1 e2 e3 e4 e5 A3 c3 A4 c4 _ _ h3 h4).mono ?_
  rintro e v43 ⟨rfl, b43⟩
  dsimp only
  replace bel := bel.trans (b43.mono bel.size)
  replace hp := (b43.block _ zp).trans hp
  replace zp := Nat.lt_of_lt_of_le zp b43.size
  replace hm := (b43.block _ zm).trans hm
  replace zm := Nat.lt_of_lt_of_le zm b43.size
  replace hg := (b43.block _ zg).trans hg
  replace zg := Nat.lt_of_lt_of_le zg b43.size
  refine hK.out _ _ ⟨hp, hm, hg⟩ (fun hH43 => ?_)
  clear hK K
  refine wpAnyH_take (i := 13) (v := ?_) rfl (by kernel_rfl) (by kernel_rfl) (by kernel_rfl) (fun _ _ _ h => h) (Or.inl ⟨by rfl, ?_⟩) hH43 ?_
  rotate_left
  · ((intro W hW; clear hW; go_simp) <;> with_reducible rfl)
  simp only [Act.put, List.getElem_toArray, List.getElem_cons_zero, List.getElem_cons_succ, List.setIfInBounds_toArray, List.set_cons_zero, List.set_cons_succ]
  refine wpAnyH_take (i := 14) (v := ?_) rfl (by kernel_rfl) (by kernel_rfl) (by kernel_rfl) (fun _ _ _ h => h) (Or.inl ⟨by rfl, ?_⟩) hH43 ?_
  rotate_left
  · ((intro W hW; clear hW; go_simp) <;> with_reducible rfl)
  simp only [Act.put, List.getElem_toArray, List.getElem_cons_zero, List.getElem_cons_succ, List.setIfInBounds_toArray, List.set_cons_zero, List.set_cons_succ]
  refine wpAnyH_take (i := 15) (v := ?_) rfl (by kernel_rfl) (by kernel_rfl) (by kernel_rfl) (fun _ _ _ h => h) (Or.inl ⟨by rfl, ?_⟩) hH43 ?_
  rotate_left
  · ((intro W hW; clear hW; go_simp) <;> with_reducible rfl)
  simp only [Act.put, List.getElem_toArray, List.getElem_cons_zero, List.getElem_cons_succ, List.setIfInBounds_toArray, List.set_cons_zero, List.set_cons_succ]
  refine wpAnyH_take (i := 16) (v := ?_) rfl (by kernel_rfl) (by kernel_rfl) (by kernel_rfl) (fun _ _ _ h => h) (Or.inl ⟨by rfl, ?_⟩) hH43 ?_
  rotate_left
  · ((intro W hW; clear hW; go_simp) <;> with_reducible rfl)
  simp only [Act.put, List.getElem_toArray, List.getElem_cons_zero, List.getElem_cons_succ, List.setIfInBounds_toArray, List.set_cons_zero, List.set_cons_succ]
  refine wpAnyH_take (i := 17) (v := undef) rfl (by kernel_rfl) (by kernel_rfl) (by kernel_rfl) (fun _ _ _ h => h) (Or.inr ⟨by rfl, rfl⟩) hH43 ?_
  simp only [Act.put, List.getElem_toArray, List.getElem_cons_zero, List.getElem_cons_succ, List.setIfInBounds_toArray, List.set_cons_zero, List.set_cons_succ]
  refine wpAnyH_take (i := 18) (v := undef) rfl (by kernel_rfl) (by kernel_rfl) (by kernel_rfl) (fun _ _ _ h => h) (Or.inr ⟨by rfl, rfl⟩) hH43 ?_
  simp only [Act.put, List.getElem_toArray, List.getElem_cons_zero, List.getElem_cons_succ, List.setIfInBounds_toArray, List.set_cons_zero, List.set_cons_succ]
  refine wpAnyH_take (i := 19) (v := undef) rfl (by kernel_rfl) (by kernel_rfl) (by kernel_rfl) (fun _ _ _ h => h) (Or.inr ⟨by rfl, rfl⟩) hH43 ?_
  simp only [Act.put, List.getElem_toArray, List.getElem_cons_zero, List.getElem_cons_succ, List.setIfInBounds_toArray, List.set_cons_zero, List.set_cons_succ]
  refine wpAnyH_take (i := 20) (v := undef) rfl (by kernel_rfl) (by kernel_rfl) (by kernel_rfl) (fun _ _ _ h => h) (Or.inr ⟨by rfl, rfl⟩) hH43 ?_
  simp only [Act.put, List.getElem_toArray, List.getElem_cons_zero, List.getElem_cons_succ, List.setIfInBounds_toArray, List.set_cons_zero, List.set_cons_succ]
  refine wpAnyH_take (i := 21) (v := undef) rfl (by kernel_rfl) (by kernel_rfl) (by kernel_rfl) (fun _ _ _ h => h) (Or.inr ⟨by rfl, rfl⟩) hH43 ?_
  simp only [Act.put, List.getElem_toArray, List.getElem_cons_zero, List.getElem_cons_succ, List.setIfInBounds_toArray, List.set_cons_zero, List.set_cons_succ]
  refine wpAnyH_take (i := 22) (v := undef) rfl (by kernel_rfl) (by kernel_rfl) (by kernel_rfl) (fun _ _ _ h => h) (Or.inr ⟨by rfl, rfl⟩) hH43 ?_
  simp only [Act.put, List.getElem_toArray, List.getElem_cons_zero, List.getElem_cons_succ, List.setIfInBounds_toArray, List.set_cons_zero, List.set_cons_succ]
  refine wpAnyH_take (i := 23) (v := ?_) rfl (by kernel_rfl) (by kernel_rfl) (by kernel_rfl) (fun _ _ _ h => h) (Or.inl ⟨by rfl, ?_⟩) hH43 ?_
  rotate_left
  · ((intro W hW; clear hW; go_simp) <;> with_reducible rfl)
  simp only [Act.put, List.getElem_toArray, List.getElem_cons_zero, List.getElem_cons_succ, List.setIfInBounds_toArray, List.set_cons_zero, List.set_cons_succ]
  refine wpAnyH_take (i := 24) (v := ?_) rfl (by kernel_rfl) (by kernel_rfl) (by kernel_rfl) (fun _ _ _ h => h) (Or.inl ⟨by rfl, ?_⟩) hH43 ?_
  rotate_left
  · ((intro W hW; clear hW; go_simp) <;> with_reducible rfl)
  simp only [Act.put, List.getElem_toArray, List.getElem_cons_zero, List.getElem_cons_succ, List.setIfInBounds_toArray, List.set_cons_zero, List.set_cons_succ]
  refine wpAnyH_take (i := 25) (v := ?_) rfl (by kernel_rfl) (by kernel_rfl) (by kernel_rfl) (fun _ _ _ h => h) (Or.inl ⟨by rfl, ?_⟩) hH43 ?_
  rotate_left
  · ((intro W hW; clear hW; go_simp) <;> with_reducible rfl)
  simp only [Act.put, List.getElem_toArray, List.getElem_cons_zero, List.getElem_cons_succ, List.setIfInBounds_toArray, List.set_cons_zero, List.set_cons_succ]
  refine wpAnyH_done (by kernel_rfl) ?_ _
  go_wp2
  go_ret
  exact ⟨rfl, bel⟩
set_option maxRecDepth 100000 in
set_option maxHeartbeats 16000000 in
theorem arpSays_bad (S : Option Addr) (n c : Nat) (l : List UInt8) (op : Int) (a0 a1 a2 a3 a4 a5 p0 p1 p2 p3 m0 m1 m2 m3 m4 m5 d0 d1 d2 d3 e0 e1 e2 e3 e4 e5 : UInt8) (w : World) (hl : Sl w S n c l) (hn : n ≤ 100) (hop : isOp op = false) : Calls Try.prog 4 #[.slice S n c, .agg #[.int .i64 op, .int .u8 (a0.toNat : Int), .int .u8 (a1.toNat : Int), .int .u8 (a2.toNat : Int), .int .u8 (a3.toNat : Int), .int .u8 (a4.toNat : Int), .int .u8 (a5.toNat : Int), .int .u8 (p0.toNat : Int), .int .u8 (p1.toNat : Int), .int .u8 (p2.toNat : Int), .int .u8 (p3.toNat : Int), .int .u8 (m0.toNat : Int), .int .u8 (m1.toNat : Int), .int .u8 (m2.toNat : Int), .int .u8 (m3.toNat : Int), .int .u8 (m4.toNat : Int), .int .u8 (m5.toNat : Int), .int .u8 (d0.toNat : Int), .int .u8 (d1.toNat : Int), .int .u8 (d2.toNat : Int), .int .u8 (d3.toNat : Int)], .agg #[.int .u8 (e0.toNat : Int), .int .u8 (e1.toNat : Int), .int .u8 (e2.toNat : Int), .int .u8 (e3.toNat : Int), .int .u8 (e4.toNat : Int), .int .u8 (e5.toNat : Int)]] w fun e w' => e = .returned (.bool true) ∧ Below w.heap.size w w' := by
  have bel := Below.refl w.heap.size w
  have hp : (w.alloc (.cells #[.int .i64 op, .int .u8 (a0.toNat : Int), .int .u8 (a1.toNat : Int), .int .u8 (a2.toNat : Int), .int .u8 (a3.toNat : Int), .int .u8 (a4.toNat : Int), .int .u8 (a5.toNat : Int), .int .u8 (p0.toNat : Int), .int .u8 (p1.toNat : Int), .int .u8 (p2.toNat : Int), .int .u8 (p3.toNat : Int), .int .u8 (m0.toNat : Int), .int .u8 (m1.toNat : Int), .int .u8 (m2.toNat : Int), .int .u8 (m3.toNat : Int), .int .u8 (m4.toNat : Int), .int .u8 (m5.toNat : Int), .int .u8 (d0.toNat : Int), .int .u8 (d1.toNat : Int), .int .u8 (d2.toNat : Int), .int .u8 (d3.toNat : Int)] 28)).heap[w.heap.size]? = some (.cells #[.int .i64 op, .int .u8 (a0.toNat : Int), .int .u8 (a1.toNat : Int), .int .u8 (a2.toNat : Int), .int .u8 (a3.toNat : Int), .int .u8 (a4.toNat : Int), .int .u8 (a5.toNat : Int), .int .u8 (p0.toNat : Int), .int .u8 (p1.toNat : Int), .int .u8 (p2.toNat : Int), .int .u8 (p3.toNat : Int), .int .u8 (m0.toNat : Int), .int .u8 (m1.toNat : Int), .int .u8 (m2.toNat : Int), .int .u8 (m3.toNat : Int), .int .u8 (m4.toNat : Int), .int .u8 (m5.toNat : Int), .int .u8 (d0.toNat : Int), .int .u8 (d1.toNat : Int), .int .u8 (d2.toNat : Int), .int .u8 (d3.toNat : Int)] 28 (0, 0)) := by have := heap_alloc_new w (.cells #[.int .i64 op, .int .u8 (a0.toNat : Int), .int .u8 (a1.toNat : Int), .int .u8 (a2.toNat : Int), .int .u8 (a3.toNat : Int), .int .u8 (a4.toNat : Int), .int .u8 (a5.toNat : Int), .int .u8 (p0.toNat : Int), .int .u8 (p1.toNat : Int), .int .u8 (p2.toNat : Int), .int .u8 (p3.toNat : Int), .int .u8 (m0.toNat : Int), .int .u8 (m1.toNat : Int), .int .u8 (m2.toNat : Int), .int .u8 (m3.toNat : Int), .int .u8 (m4.toNat : Int), .int .u8 (m5.toNat : Int), .int .u8 (d0.toNat : Int), .int .u8 (d1.toNat : Int), .int .u8 (d2.toNat : Int), .int .u8 (d3.toNat : Int)] 28); simpa using this
  have zp : w.heap.size < (w.alloc (.cells #[.int .i64 op, .int .u8 (a0.toNat : Int), .int .u8 (a1.toNat : Int), .int .u8 (a2.toNat : Int), .int .u8 (a3.toNat : Int), .int .u8 (a4.toNat : Int), .int .u8 (a5.toNat : Int), .int .u8 (p0.toNat : Int), .int .u8 (p1.toNat : Int), .int .u8 (p2.toNat : Int), .int .u8 (p3.toNat : Int), .int .u8 (m0.toNat : Int), .int .u8 (m1.toNat : Int), .int .u8 (m2.toNat : Int), .int .u8 (m3.toNat : Int), .int .u8 (m4.toNat : Int), .int .u8 (m5.toNat : Int), .int .u8 (d0.toNat : Int), .int .u8 (d1.toNat : Int), .int .u8 (d2.toNat : Int), .int .u8 (d3.toNat : Int)] 28)).heap.size := by simp
  replace bel := bel.alloc bel.size (.cells #[.int .i64 op, .int .u8 (a0.toNat : Int), .int .u8 (a1.toNat : Int), .int .u8 (a2.toNat : Int), .int .u8 (a3.toNat : Int), .int .u8 (a4.toNat : Int), .int .u8 (a5.toNat : Int), .int .u8 (p0.toNat : Int), .int .u8 (p1.toNat : Int), .int .u8 (p2.toNat : Int), .int .u8 (p3.toNat : Int), .int .u8 (m0.toNat : Int), .int .u8 (m1.toNat : Int), .int .u8 (m2.toNat : Int), .int .u8 (m3.toNat : Int), .int .u8 (m4.toNat : Int), .int .u8 (m5.toNat : Int), .int .u8 (d0.toNat : Int), .int .u8 (d1.toNat : Int), .int .u8 (d2.toNat : Int), .int .u8 (d3.toNat : Int)] 28)
  replace hp := (Go.heap_alloc_old (w.alloc (.cells #[.int .i64 op, .int .u8 (a0.toNat : Int), .int .u8 (a1.toNat : Int), .int .u8 (a2.toNat : Int), .int .u8 (a3.toNat : Int), .int .u8 (a4.toNat : Int), .int .u8 (a5.toNat : Int), .int .u8 (p0.toNat : Int), .int .u8 (p1.toNat : Int), .int .u8 (p2.toNat : Int), .int .u8 (p3.toNat : Int), .int .u8 (m0.toNat : Int), .int .u8 (m1.toNat : Int), .int .u8 (m2.toNat : Int), .int .u8 (m3.toNat : Int), .int .u8 (m4.toNat : Int), .int .u8 (m5.toNat : Int), .int .u8 (d0.toNat : Int), .int .u8 (d1.toNat : Int), .int .u8 (d2.toNat : Int), .int .u8 (d3.toNat : Int)] 28)) (.cells #[.int .u8 (e0.toNat : Int), .int .u8 (e1.toNat : Int), .int .u8 (e2.toNat : Int), .int .u8 (e3.toNat : Int), .int .u8 (e4.toNat : Int), .int .u8 (e5.toNat : Int)] 24) (r := w.heap.size) zp).trans hp
  have hm : ((w.alloc (.cells #[.int .i64 op, .int .u8 (a0.toNat : Int), .int .u8 (a1.toNat : Int), .int .u8 (a2.toNat : Int), .int .u8 (a3.toNat : Int), .int .u8 (a4.toNat : Int), .int .u8 (a5.toNat : Int), .int .u8 (p0.toNat : Int), .int .u8 (p1.toNat : Int), .int .u8 (p2.toNat : Int), .int .u8 (p3.toNat : Int), .int .u8 (m0.toNat : Int), .int .u8 (m1.toNat : Int), .int .u8 (m2.toNat : Int), .int .u8 (m3.toNat : Int), .int .u8 (m4.toNat : Int), .int .u8 (m5.toNat : Int), .int .u8 (d0.toNat : Int), .int .u8 (d1.toNat : Int), .int .u8 (d2.toNat : Int), .int .u8 (d3.toNat : Int)] 28)).alloc (.cells #[.int .u8 (e0.toNat : Int), .int .u8 (e1.toNat : Int), .int .u8 (e2.toNat : Int), .int .u8 (e3.toNat : Int), .int .u8 (e4.toNat : Int), .int .u8 (e5.toNat : Int)] 24)).heap[w.heap.size + 1]? = some (.cells #[.int .u8 (e0.toNat : Int), .int .u8 (e1.toNat : Int), .int .u8 (e2.toNat : Int), .int .u8 (e3.toNat : Int), .int .u8 (e4.toNat : Int), .int .u8 (e5.toNat : Int)] 24 (0, 0)) := by have := heap_alloc_new (w.alloc (.cells #[.int .i64 op, .int .u8 (a0.toNat : Int), .int .u8 (a1.toNat : Int), .int .u8 (a2.toNat : Int), .int .u8 (a3.toNat : Int), .int .u8 (a4.toNat : Int), .int .u8 (a5.toNat : Int), .int .u8 (p0.toNat : Int), .int .u8 (p1.toNat : Int), .int .u8 (p2.toNat : Int), .int .u8 (p3.toNat : Int), .int .u8 (m0.toNat : Int), .int .u8 (m1.toNat : Int), .int .u8 (m2.toNat : Int), .int .u8 (m3.toNat : Int), .int .u8 (m4.toNat : Int), .int .u8 (m5.toNat : Int), .int .u8 (d0.toNat : Int), .int .u8 (d1.toNat : Int), .int .u8 (d2.toNat : Int), .int .u8 (d3.toNat : Int)] 28)) (.cells #[.int .u8 (e0.toNat : Int), .int .u8 (e1.toNat : Int), .int .u8 (e2.toNat : Int), .int .u8 (e3.toNat : Int), .int .u8 (e4.toNat : Int), .int .u8 (e5.toNat : Int)] 24); simpa using this
  replace zp := Nat.lt_trans zp (show (w.alloc (.cells #[.int .i64 op, .int .u8 (a0.toNat : Int), .int .u8 (a1.toNat : Int), .int .u8 (a2.toNat : Int), .int .u8 (a3.toNat : Int), .int .u8 (a4.toNat : Int), .int .u8 (a5.toNat : Int), .int .u8 (p0.toNat : Int), .int .u8 (p1.toNat : Int), .int .u8 (p2.toNat : Int), .int .u8 (p3.toNat : Int), .int .u8 (m0.toNat : Int), .int .u8 (m1.toNat : Int), .int .u8 (m2.toNat : Int), .int .u8 (m3.toNat : Int), .int .u8 (m4.toNat : Int), .int .u8 (m5.toNat : Int), .int .u8 (d0.toNat : Int), .int .u8 (d1.toNat : Int), .int .u8 (d2.toNat : Int), .int .u8 (d3.toNat : Int)] 28)).heap.size < ((w.alloc (.cells #[.int .i64 op, .int .u8 (a0.toNat : Int), .int .u8 (a1.toNat : Int), .int .u8 (a2.toNat : Int), .int .u8 (a3.toNat : Int), .int .u8 (a4.toNat : Int), .int .u8 (a5.toNat : Int), .int .u8 (p0.toNat : Int), .int .u8 (p1.toNat : Int), .int .u8 (p2.toNat : Int), .int .u8 (p3.toNat : Int), .int .u8 (m0.toNat : Int), .int .u8 (m1.toNat : Int), .int .u8 (m2.toNat : Int), .int .u8 (m3.toNat : Int), .int .u8 (m4.toNat : Int), .int .u8 (m5.toNat : Int), .int .u8 (d0.toNat : Int), .int .u8 (d1.toNat : Int), .int .u8 (d2.toNat : Int), .int .u8 (d3.toNat : Int)] 28)).alloc (.cells #[.int .u8 (e0.toNat : Int), .int .u8 (e1.toNat : Int), .int .u8 (e2.toNat : Int), .int .u8 (e3.toNat : Int), .int .u8 (e4.toNat : Int), .int .u8 (e5.toNat : Int)] 24)).heap.size by simp)
  have zm : w.heap.size + 1 < ((w.alloc (.cells #[.int .i64 op, .int .u8 (a0.toNat : Int), .int .u8 (a1.toNat : Int), .int .u8 (a2.toNat : Int), .int .u8 (a3.toNat : Int), .int .u8 (a4.toNat : Int), .int .u8 (a5.toNat : Int), .int .u8 (p0.toNat : Int), .int .u8 (p1.toNat : Int), .int .u8 (p2.toNat : Int), .int .u8 (p3.toNat : Int), .int .u8 (m0.toNat : Int), .int .u8 (m1.toNat : Int), .int .u8 (m2.toNat : Int), .int .u8 (m3.toNat : Int), .int .u8 (m4.toNat : Int), .int .u8 (m5.toNat : Int), .int .u8 (d0.toNat : Int), .int .u8 (d1.toNat : Int), .int .u8 (d2.toNat : Int), .int .u8 (d3.toNat : Int)] 28)).alloc (.cells #[.int .u8 (e0.toNat : Int), .int .u8 (e1.toNat : Int), .int .u8 (e2.toNat : Int), .int .u8 (e3.toNat : Int), .int .u8 (e4.toNat : Int), .int .u8 (e5.toNat : Int)] 24)).heap.size := by simp
  replace bel := bel.alloc bel.size (.cells #[.int .u8 (e0.toNat : Int), .int .u8 (e1.toNat : Int), .int .u8 (e2.toNat : Int), .int .u8 (e3.toNat : Int), .int .u8 (e4.toNat : Int), .int .u8 (e5.toNat : Int)] 24)
  obtain ⟨ii, hii, hz0, hz1, hz2⟩ := info_parts Try.info5
  have t1 : decide ((100 : Int) < n) = false := decide_eq_false (by omega)
  have HN := Lib.hid hn
  have hsb := hl.below bel
  clear hn hl
  have n1 : (op == 1) = false := by simp [isOp] at hop; simpa using hop.1
  have n2 : (op == 2) = false := by simp [isOp] at hop; simpa using hop.2
  have n3 : op ≠ 1 := by simp [isOp] at hop; exact hop.1
  have HOP := Lib.hid hop
  have N3 := Lib.hid n3
  clear hop n3
  go_enter Try.func4, Try.ntmps4
  go_wp2_with fail
  with_reducible refine (awake5 _).mono ?_
  rintro e w1 ⟨rfl, b1⟩
  replace hp := (b1.block _ zp).trans hp
  replace zp := Nat.lt_of_lt_of_le zp b1.size
  replace hm := (b1.block _ zm).trans hm
  replace zm := Nat.lt_of_lt_of_le zm b1.size
  replace hsb := hsb.below b1
  replace bel := bel.trans (b1.mono bel.size)
  clear b1
  have own0 := own_empty w1
  have bz := (Below.refl w1.heap.size w1).alloc (Nat.le_refl _) (.cells #[] 5)
  have sa := hsb.below bz
  go_wp2_with (at_builtin; refine wpList_append_bb _ rfl (.tmp 22) (.tmp 23) 32 rfl w1.heap.size 5 ii (.int .u8 0) Try.underlying32 hii hz0 hz1 hz2 rfl _ (0) ([]) rfl own0 S (n) (c) (l) rfl sa ?c1 ?c2 ?_)
  case c1 => have := HN.out; omega
  case c2 => exact bz.size
  intro r2 y2 own2 bb
  replace bz := bz.trans bb
  clear bb sa own0
  replace own2 : y2.ownsRow w1.heap.size 5 1 r2 (n) ((l).map u8v) := by simpa using own2
  replace hp := (bz.block _ zp).trans hp
  replace zp := Nat.lt_of_lt_of_le zp bz.size
  replace hm := (bz.block _ zm).trans hm
  replace zm := Nat.lt_of_lt_of_le zm bz.size
  replace hsb := hsb.below bz
  replace bel := bel.trans (bz.mono bel.size)
  clear bz
  obtain ⟨Asg, csg, esg, sg, fsg⟩ := Sl.of_own_f own2
  subst esg
  clear own2
  go_wp2_with fail
  with_reducible refine (aget5_any Asg n csg l _ sg).mono ?_
  rintro e w3 ⟨o1, ga0, ga1, ga2, ga3, ga4, ga5, ga6, ga7, ga8, ga9, ga10, ga11, ga12, ga13, ga14, ga15, ga16, ga17, ga18, ga19, r1, rfl, b3, hg1⟩
  replace hp := (b3.block _ zp).trans hp
  replace zp := Nat.lt_of_lt_of_le zp b3.size
  replace hm := (b3.block _ zm).trans hm
  replace zm := Nat.lt_of_lt_of_le zm b3.size
  replace hsb := hsb.below b3
  replace bel := bel.trans (b3.mono bel.size)
  clear b3
  clear sg fsg
  have nq := heap_alloc_new w3 (.cells #[.int .i64 0, .int .u8 0, .int .u8 0, .int .u8 0, .int .u8 0, .int .u8 0, .int .u8 0, .int .u8 0, .int .u8 0, .int .u8 0, .int .u8 0, .int .u8 0, .int .u8 0, .int .u8 0, .int .u8 0, .int .u8 0, .int .u8 0, .int .u8 0, .int .u8 0, .int .u8 0, .int .u8 0] 28)
  have bqq := (Below.refl w3.heap.size w3).alloc (Nat.le_refl _) (.cells #[.int .i64 0, .int .u8 0, .int .u8 0, .int .u8 0, .int .u8 0, .int .u8 0, .int .u8 0, .int .u8 0, .int .u8 0, .int .u8 0, .int .u8 0, .int .u8 0, .int .u8 0, .int .u8 0, .int .u8 0, .int .u8 0, .int .u8 0, .int .u8 0, .int .u8 0, .int .u8 0, .int .u8 0] 28)
  go_wp2_with (first | ((with_reducible show wpList _ _ _ (⟨none, Op.store _ _ _, _, _, _, _⟩ :: _) _ _); refine wpList_store_blk rfl 28 _ _ rfl (w3.heap.size) rfl #[.int .i64 o1, .int .u8 (ga0.toNat : Int), .int .u8 (ga1.toNat : Int), .int .u8 (ga2.toNat : Int), .int .u8 (ga3.toNat : Int), .int .u8 (ga4.toNat : Int), .int .u8 (ga5.toNat : Int), .int .u8 (ga6.toNat : Int), .int .u8 (ga7.toNat : Int), .int .u8 (ga8.toNat : Int), .int .u8 (ga9.toNat : Int), .int .u8 (ga10.toNat : Int), .int .u8 (ga11.toNat : Int), .int .u8 (ga12.toNat : Int), .int .u8 (ga13.toNat : Int), .int .u8 (ga14.toNat : Int), .int .u8 (ga15.toNat : Int), .int .u8 (ga16.toNat : Int), .int .u8 (ga17.toNat : Int), .int .u8 (ga18.toNat : Int), .int .u8 (ga19.toNat : Int)] rfl _ 28 nq (by rfl) (by kernel_rfl) (by kernel_rfl) ?_; intro x4 hq gq; have bz := below_grown bqq gq (Nat.le_refl _) bqq.size; replace hp := (bz.block _ zp).trans hp; replace zp := Nat.lt_of_lt_of_le zp bz.size; replace hm := (bz.block _ zm).trans hm; replace zm := Nat.lt_of_lt_of_le zm bz.size; replace hsb := hsb.below bz; replace bel := bel.trans (bz.mono bel.size); have zq := (Array.getElem?_eq_some_iff.1 hq).1; clear nq bqq bz gq))
  with_reducible refine (rget5_any S n c l _ hsb (by have := HN.out; omega)).mono ?_
  rintro e w5 ⟨o2, gb0, gb1, gb2, gb3, gb4, gb5, gb6, gb7, gb8, gb9, gb10, gb11, gb12, gb13, gb14, gb15, gb16, gb17, gb18, gb19, r2, rfl, b5, hg2⟩
  replace hp := (b5.block _ zp).trans hp
  replace zp := Nat.lt_of_lt_of_le zp b5.size
  replace hm := (b5.block _ zm).trans hm
  replace zm := Nat.lt_of_lt_of_le zm b5.size
  replace hq := (b5.block _ zq).trans hq
  replace zq := Nat.lt_of_lt_of_le zq b5.size
  replace hsb := hsb.below b5
  replace bel := bel.trans (b5.mono bel.size)
  clear b5
  have hh := hg2.trans hg1.symm
  simp only [Prod.mk.injEq, List.cons.injEq, and_true] at hh
  obtain ⟨⟨rfl, rfl, rfl, rfl, rfl, rfl, rfl, rfl, rfl, rfl, rfl, rfl, rfl, rfl, rfl, rfl, rfl, rfl, rfl, rfl, rfl⟩, rfl⟩ := hh
  clear hg1 hg2 hsb
  have nr := heap_alloc_new w5 (.cells #[.int .i64 0, .int .u8 0, .int .u8 0, .int .u8 0, .int .u8 0, .int .u8 0, .int .u8 0, .int .u8 0, .int .u8 0, .int .u8 0, .int .u8 0, .int .u8 0, .int .u8 0, .int .u8 0, .int .u8 0, .int .u8 0, .int .u8 0, .int .u8 0, .int .u8 0, .int .u8 0, .int .u8 0] 41)
  have bqr := (Below.refl w5.heap.size w5).alloc (Nat.le_refl _) (.cells #[.int .i64 0, .int .u8 0, .int .u8 0, .int .u8 0, .int .u8 0, .int .u8 0, .int .u8 0, .int .u8 0, .int .u8 0, .int .u8 0, .int .u8 0, .int .u8 0, .int .u8 0, .int .u8 0, .int .u8 0, .int .u8 0, .int .u8 0, .int .u8 0, .int .u8 0, .int .u8 0, .int .u8 0] 41)
  go_wp2_with (first | ((with_reducible show wpList _ _ _ (⟨none, Op.store _ _ _, _, _, _, _⟩ :: _) _ _); refine wpList_store_blk rfl 41 _ _ rfl (w5.heap.size) rfl #[.int .i64 o2, .int .u8 (gb0.toNat : Int), .int .u8 (gb1.toNat : Int), .int .u8 (gb2.toNat : Int), .int .u8 (gb3.toNat : Int), .int .u8 (gb4.toNat : Int), .int .u8 (gb5.toNat : Int), .int .u8 (gb6.toNat : Int), .int .u8 (gb7.toNat : Int), .int .u8 (gb8.toNat : Int), .int .u8 (gb9.toNat : Int), .int .u8 (gb10.toNat : Int), .int .u8 (gb11.toNat : Int), .int .u8 (gb12.toNat : Int), .int .u8 (gb13.toNat : Int), .int .u8 (gb14.toNat : Int), .int .u8 (gb15.toNat : Int), .int .u8 (gb16.toNat : Int), .int .u8 (gb17.toNat : Int), .int .u8 (gb18.toNat : Int), .int .u8 (gb19.toNat : Int)] rfl _ 41 nr (by rfl) (by kernel_rfl) (by kernel_rfl) ?_; intro x6 hr gr; have bz := below_grown bqr gr (Nat.le_refl _) bqr.size; replace hp := (bz.block _ zp).trans hp; replace zp := Nat.lt_of_lt_of_le zp bz.size; replace hm := (bz.block _ zm).trans hm; replace zm := Nat.lt_of_lt_of_le zm bz.size; replace hq := (bz.block _ zq).trans hq; replace zq := Nat.lt_of_lt_of_le zq bz.size; replace bel := bel.trans (bz.mono bel.size); have zr := (Array.getElem?_eq_some_iff.1 hr).1; clear nr bqr bz gr; have R4 := Lib.hid (range_lit hp 0 21 [.int .i64 op, .int .u8 (a0.toNat : Int), .int .u8 (a1.toNat : Int), .int .u8 (a2.toNat : Int), .int .u8 (a3.toNat : Int), .int .u8 (a4.toNat : Int), .int .u8 (a5.toNat : Int), .int .u8 (p0.toNat : Int), .int .u8 (p1.toNat : Int), .int .u8 (p2.toNat : Int), .int .u8 (p3.toNat : Int), .int .u8 (m0.toNat : Int), .int .u8 (m1.toNat : Int), .int .u8 (m2.toNat : Int), .int .u8 (m3.toNat : Int), .int .u8 (m4.toNat : Int), .int .u8 (m5.toNat : Int), .int .u8 (d0.toNat : Int), .int .u8 (d1.toNat : Int), .int .u8 (d2.toNat : Int), .int .u8 (d3.toNat : Int)] rfl)) | ((with_reducible show wpList _ _ _ (⟨some 34, _, _, _, _, _⟩ :: _) _ _); refine wpList_load_rng 28 (.tmp 4) rfl (by kernel_rfl) _ _ rfl _ R4.out _ Try.underlying28 rfl (by kernel_rfl) ?_))
  with_reducible refine (aput_bad op a0 a1 a2 a3 a4 a5 p0 p1 p2 p3 m0 m1 m2 m3 m4 m5 d0 d1 d2 d3 _ HOP.out).mono ?_
  clear R4
  rintro e w7 ⟨rfl, b7⟩
  replace hp := (b7.block _ zp).trans hp
  replace zp := Nat.lt_of_lt_of_le zp b7.size
  replace hm := (b7.block _ zm).trans hm
  replace zm := Nat.lt_of_lt_of_le zm b7.size
  replace hq := (b7.block _ zq).trans hq
  replace zq := Nat.lt_of_lt_of_le zq b7.size
  replace hr := (b7.block _ zr).trans hr
  replace zr := Nat.lt_of_lt_of_le zr b7.size
  replace bel := bel.trans (b7.mono bel.size)
  clear b7
  have R38 := cell_lit hp 0 _ rfl
  have R42 := cell_lit hp 0 _ rfl
  go_wp2_with fail
  clear R38 R42
  have qn := neqAR o2 gb0 gb1 gb2 gb3 gb4 gb5 gb6 gb7 gb8 gb9 gb10 gb11 gb12 gb13 gb14 gb15 gb16 gb17 gb18 gb19
  have gn := guardAR
  replace bel := bel.drew
  replace hp : w7.drew.heap[w.heap.size]? = some (.cells #[.int .i64 op, .int .u8 (a0.toNat : Int), .int .u8 (a1.toNat : Int), .int .u8 (a2.toNat : Int), .int .u8 (a3.toNat : Int), .int .u8 (a4.toNat : Int), .int .u8 (a5.toNat : Int), .int .u8 (p0.toNat : Int), .int .u8 (p1.toNat : Int), .int .u8 (p2.toNat : Int), .int .u8 (p3.toNat : Int), .int .u8 (m0.toNat : Int), .int .u8 (m1.toNat : Int), .int .u8 (m2.toNat : Int), .int .u8 (m3.toNat : Int), .int .u8 (m4.toNat : Int), .int .u8 (m5.toNat : Int), .int .u8 (d0.toNat : Int), .int .u8 (d1.toNat : Int), .int .u8 (d2.toNat : Int), .int .u8 (d3.toNat : Int)] 28 (0, 0)) := hp
  replace zp : w.heap.size < w7.drew.heap.size := zp
  replace hm : w7.drew.heap[w.heap.size + 1]? = some (.cells #[.int .u8 (e0.toNat : Int), .int .u8 (e1.toNat : Int), .int .u8 (e2.toNat : Int), .int .u8 (e3.toNat : Int), .int .u8 (e4.toNat : Int), .int .u8 (e5.toNat : Int)] 24 (0, 0)) := hm
  replace zm : w.heap.size + 1 < w7.drew.heap.size := zm
  replace hq : w7.drew.heap[w3.heap.size]? = some (.cells #[.int .i64 o2, .int .u8 (gb0.toNat : Int), .int .u8 (gb1.toNat : Int), .int .u8 (gb2.toNat : Int), .int .u8 (gb3.toNat : Int), .int .u8 (gb4.toNat : Int), .int .u8 (gb5.toNat : Int), .int .u8 (gb6.toNat : Int), .int .u8 (gb7.toNat : Int), .int .u8 (gb8.toNat : Int), .int .u8 (gb9.toNat : Int), .int .u8 (gb10.toNat : Int), .int .u8 (gb11.toNat : Int), .int .u8 (gb12.toNat : Int), .int .u8 (gb13.toNat : Int), .int .u8 (gb14.toNat : Int), .int .u8 (gb15.toNat : Int), .int .u8 (gb16.toNat : Int), .int .u8 (gb17.toNat : Int), .int .u8 (gb18.toNat : Int), .int .u8 (gb19.toNat : Int)] 28 (0, 0)) := hq
  replace zq : w3.heap.size < w7.drew.heap.size := zq
  replace hr : w7.drew.heap[w5.heap.size]? = some (.cells #[.int .i64 o2, .int .u8 (gb0.toNat : Int), .int .u8 (gb1.toNat : Int), .int .u8 (gb2.toNat : Int), .int .u8 (gb3.toNat : Int), .int .u8 (gb4.toNat : Int), .int .u8 (gb5.toNat : Int), .int .u8 (gb6.toNat : Int), .int .u8 (gb7.toNat : Int), .int .u8 (gb8.toNat : Int), .int .u8 (gb9.toNat : Int), .int .u8 (gb10.toNat : Int), .int .u8 (gb11.toNat : Int), .int .u8 (gb12.toNat : Int), .int .u8 (gb13.toNat : Int), .int .u8 (gb14.toNat : Int), .int .u8 (gb15.toNat : Int), .int .u8 (gb16.toNat : Int), .int .u8 (gb17.toNat : Int), .int .u8 (gb18.toNat : Int), .int .u8 (gb19.toNat : Int)] 41 (0, 0)) := hr
  replace zr : w5.heap.size < w7.drew.heap.size := zr
  refine wp_region_held_drew (S := fun W => W.heap[w.heap.size]? = some (.cells #[.int .i64 op, .int .u8 (a0.toNat : Int), .int .u8 (a1.toNat : Int), .int .u8 (a2.toNat : Int), .int .u8 (a3.toNat : Int), .int .u8 (a4.toNat : Int), .int .u8 (a5.toNat : Int), .int .u8 (p0.toNat : Int), .int .u8 (p1.toNat : Int), .int .u8 (p2.toNat : Int), .int .u8 (p3.toNat : Int), .int .u8 (m0.toNat : Int), .int .u8 (m1.toNat : Int), .int .u8 (m2.toNat : Int), .int .u8 (m3.toNat : Int), .int .u8 (m4.toNat : Int), .int .u8 (m5.toNat : Int), .int .u8 (d0.toNat : Int), .int .u8 (d1.toNat : Int), .int .u8 (d2.toNat : Int), .int .u8 (d3.toNat : Int)] 28 (0, 0)) ∧ W.heap[w3.heap.size]? = some (.cells #[.int .i64 o2, .int .u8 (gb0.toNat : Int), .int .u8 (gb1.toNat : Int), .int .u8 (gb2.toNat : Int), .int .u8 (gb3.toNat : Int), .int .u8 (gb4.toNat : Int), .int .u8 (gb5.toNat : Int), .int .u8 (gb6.toNat : Int), .int .u8 (gb7.toNat : Int), .int .u8 (gb8.toNat : Int), .int .u8 (gb9.toNat : Int), .int .u8 (gb10.toNat : Int), .int .u8 (gb11.toNat : Int), .int .u8 (gb12.toNat : Int), .int .u8 (gb13.toNat : Int), .int .u8 (gb14.toNat : Int), .int .u8 (gb15.toNat : Int), .int .u8 (gb16.toNat : Int), .int .u8 (gb17.toNat : Int), .int .u8 (gb18.toNat : Int), .int .u8 (gb19.toNat : Int)] 28 (0, 0)) ∧ W.heap[w5.heap.size]? = some (.cells #[.int .i64 o2, .int .u8 (gb0.toNat : Int), .int .u8 (gb1.toNat : Int), .int .u8 (gb2.toNat : Int), .int .u8 (gb3.toNat : Int), .int .u8 (gb4.toNat : Int), .int .u8 (gb5.toNat : Int), .int .u8 (gb6.toNat : Int), .int .u8 (gb7.toNat : Int), .int .u8 (gb8.toNat : Int), .int .u8 (gb9.toNat : Int), .int .u8 (gb10.toNat : Int), .int .u8 (gb11.toNat : Int), .int .u8 (gb12.toNat : Int), .int .u8 (gb13.toNat : Int), .int .u8 (gb14.toNat : Int), .int .u8 (gb15.toNat : Int), .int .u8 (gb16.toNat : Int), .int .u8 (gb17.toNat : Int), .int .u8 (gb18.toNat : Int), .int .u8 (gb19.toNat : Int)] 41 (0, 0))) (by kernel_rfl) ⟨hp, hq, hr⟩ (fun hH => ?_)
  generalize w7.drew = vd at bel hp zp hm zm hq zq hr zr hH ⊢
  refine wpAnyH_take (i := 0) (v := ?_) rfl (by kernel_rfl) (by kernel_rfl) (by kernel_rfl) (fun _ _ _ h => h) (Or.inl ⟨by rfl, ?_⟩) hH ?_
  rotate_left
  · ((intro W hW; clear hW; go_simp) <;> with_reducible rfl)
  simp only [Act.put, List.getElem_toArray, List.getElem_cons_zero, List.setIfInBounds_toArray, List.set_cons_zero, List.set_cons_succ]
  refine wpAnyH_take (i := 1) (v := ?_) rfl (by kernel_rfl) (by kernel_rfl) (by kernel_rfl) (fun _ _ _ h => h) (Or.inl ⟨by rfl, ?_⟩) hH ?_
  rotate_left
  · ((intro W hW; clear hW; go_simp) <;> with_reducible rfl)
  simp only [Act.put, List.getElem_toArray, List.getElem_cons_zero, List.getElem_cons_succ, List.setIfInBounds_toArray, List.set_cons_zero, List.set_cons_succ]
  refine wpAnyH_take (i := 2) (v := ?_) rfl (by kernel_rfl) (by kernel_rfl) (by kernel_rfl) (fun _ _ _ h => h) (Or.inl ⟨by rfl, ?_⟩) hH ?_
  rotate_left
  · ((intro W hW; clear hW; go_simp) <;> with_reducible rfl)
  simp only [Act.put, List.getElem_toArray, List.getElem_cons_zero, List.getElem_cons_succ, List.setIfInBounds_toArray, List.set_cons_zero, List.set_cons_succ]
  refine wpAnyH_take (i := 3) (v := ?_) rfl (by kernel_rfl) (by kernel_rfl) (by kernel_rfl) (fun _ _ _ h => h) (Or.inl ⟨by rfl, ?_⟩) hH ?_
  rotate_left
  · ((intro W hW; clear hW; go_simp) <;> with_reducible rfl)
  simp only [Act.put, List.getElem_toArray, List.getElem_cons_zero, List.getElem_cons_succ, List.setIfInBounds_toArray, List.set_cons_zero, List.set_cons_succ]
  refine wpAnyH_take (i := 4) (v := .agg #[.int .i64 o2, .int .u8 (gb0.toNat : Int), .int .u8 (gb1.toNat : Int), .int .u8 (gb2.toNat : Int), .int .u8 (gb3.toNat : Int), .int .u8 (gb4.toNat : Int), .int .u8 (gb5.toNat : Int), .int .u8 (gb6.toNat : Int), .int .u8 (gb7.toNat : Int), .int .u8 (gb8.toNat : Int), .int .u8 (gb9.toNat : Int), .int .u8 (gb10.toNat : Int), .int .u8 (gb11.toNat : Int), .int .u8 (gb12.toNat : Int), .int .u8 (gb13.toNat : Int), .int .u8 (gb14.toNat : Int), .int .u8 (gb15.toNat : Int), .int .u8 (gb16.toNat : Int), .int .u8 (gb17.toNat : Int), .int .u8 (gb18.toNat : Int), .int .u8 (gb19.toNat : Int)]) rfl (by kernel_rfl) (by kernel_rfl) (by kernel_rfl) (fun _ _ _ h => h) (yieldsIf_load_part (by kernel_rfl) 28 _ rfl (w3.heap.size) 0 21 rfl [.int .i64 o2, .int .u8 (gb0.toNat : Int), .int .u8 (gb1.toNat : Int), .int .u8 (gb2.toNat : Int), .int .u8 (gb3.toNat : Int), .int .u8 (gb4.toNat : Int), .int .u8 (gb5.toNat : Int), .int .u8 (gb6.toNat : Int), .int .u8 (gb7.toNat : Int), .int .u8 (gb8.toNat : Int), .int .u8 (gb9.toNat : Int), .int .u8 (gb10.toNat : Int), .int .u8 (gb11.toNat : Int), .int .u8 (gb12.toNat : Int), .int .u8 (gb13.toNat : Int), .int .u8 (gb14.toNat : Int), .int .u8 (gb15.toNat : Int), .int .u8 (gb16.toNat : Int), .int .u8 (gb17.toNat : Int), .int .u8 (gb18.toNat : Int), .int .u8 (gb19.toNat : Int)] 28 (0, 0) (fun W hW => hW.2.1) [.int .i64 o2, .int .u8 (gb0.toNat : Int), .int .u8 (gb1.toNat : Int), .int .u8 (gb2.toNat : Int), .int .u8 (gb3.toNat : Int), .int .u8 (gb4.toNat : Int), .int .u8 (gb5.toNat : Int), .int .u8 (gb6.toNat : Int), .int .u8 (gb7.toNat : Int), .int .u8 (gb8.toNat : Int), .int .u8 (gb9.toNat : Int), .int .u8 (gb10.toNat : Int), .int .u8 (gb11.toNat : Int), .int .u8 (gb12.toNat : Int), .int .u8 (gb13.toNat : Int), .int .u8 (gb14.toNat : Int), .int .u8 (gb15.toNat : Int), .int .u8 (gb16.toNat : Int), .int .u8 (gb17.toNat : Int), .int .u8 (gb18.toNat : Int), .int .u8 (gb19.toNat : Int)] rfl _ Try.underlying28 rfl (by kernel_rfl)) hH ?_
  simp only [Act.put, List.getElem_toArray, List.getElem_cons_zero, List.getElem_cons_succ, List.setIfInBounds_toArray, List.set_cons_zero, List.set_cons_succ]
  refine wpAnyH_take (i := 6) (v := .agg #[.int .i64 o2, .int .u8 (gb0.toNat : Int), .int .u8 (gb1.toNat : Int), .int .u8 (gb2.toNat : Int), .int .u8 (gb3.toNat : Int), .int .u8 (gb4.toNat : Int), .int .u8 (gb5.toNat : Int), .int .u8 (gb6.toNat : Int), .int .u8 (gb7.toNat : Int), .int .u8 (gb8.toNat : Int), .int .u8 (gb9.toNat : Int), .int .u8 (gb10.toNat : Int), .int .u8 (gb11.toNat : Int), .int .u8 (gb12.toNat : Int), .int .u8 (gb13.toNat : Int), .int .u8 (gb14.toNat : Int), .int .u8 (gb15.toNat : Int), .int .u8 (gb16.toNat : Int), .int .u8 (gb17.toNat : Int), .int .u8 (gb18.toNat : Int), .int .u8 (gb19.toNat : Int)]) rfl (by kernel_rfl) (by kernel_rfl) (by kernel_rfl) (fun _ _ _ h => h) (yieldsIf_load_part (by kernel_rfl) 41 _ rfl (w5.heap.size) 0 21 rfl [.int .i64 o2, .int .u8 (gb0.toNat : Int), .int .u8 (gb1.toNat : Int), .int .u8 (gb2.toNat : Int), .int .u8 (gb3.toNat : Int), .int .u8 (gb4.toNat : Int), .int .u8 (gb5.toNat : Int), .int .u8 (gb6.toNat : Int), .int .u8 (gb7.toNat : Int), .int .u8 (gb8.toNat : Int), .int .u8 (gb9.toNat : Int), .int .u8 (gb10.toNat : Int), .int .u8 (gb11.toNat : Int), .int .u8 (gb12.toNat : Int), .int .u8 (gb13.toNat : Int), .int .u8 (gb14.toNat : Int), .int .u8 (gb15.toNat : Int), .int .u8 (gb16.toNat : Int), .int .u8 (gb17.toNat : Int), .int .u8 (gb18.toNat : Int), .int .u8 (gb19.toNat : Int)] 41 (0, 0) (fun W hW => hW.2.2) [.int .i64 o2, .int .u8 (gb0.toNat : Int), .int .u8 (gb1.toNat : Int), .int .u8 (gb2.toNat : Int), .int .u8 (gb3.toNat : Int), .int .u8 (gb4.toNat : Int), .int .u8 (gb5.toNat : Int), .int .u8 (gb6.toNat : Int), .int .u8 (gb7.toNat : Int), .int .u8 (gb8.toNat : Int), .int .u8 (gb9.toNat : Int), .int .u8 (gb10.toNat : Int), .int .u8 (gb11.toNat : Int), .int .u8 (gb12.toNat : Int), .int .u8 (gb13.toNat : Int), .int .u8 (gb14.toNat : Int), .int .u8 (gb15.toNat : Int), .int .u8 (gb16.toNat : Int), .int .u8 (gb17.toNat : Int), .int .u8 (gb18.toNat : Int), .int .u8 (gb19.toNat : Int)] rfl _ Try.underlying41 rfl (by kernel_rfl)) hH ?_
  simp only [Act.put, List.getElem_toArray, List.getElem_cons_zero, List.getElem_cons_succ, List.setIfInBounds_toArray, List.set_cons_zero, List.set_cons_succ]
  refine wpAnyH_ready (rs := [5]) (by kernel_rfl) (by simp) ?_
  refine AllReadyH.cons (o := _) rfl (fun K hK => ?_) AllReadyH.nil
  simp only [List.getElem_toArray, List.getElem_cons_zero, List.getElem_cons_succ]
  go_simp
  with_reducible refine (own5_any o2 gb0 gb1 gb2 gb3 gb4 gb5 gb6 gb7 gb8 gb9 gb10 gb11 gb12 gb13 gb14 gb15 gb16 gb17 gb18 gb19 _).mono ?_
  rintro e v21 ⟨rfl, b21⟩
  dsimp only
  replace bel := bel.trans (b21.mono bel.size)
  replace hp := (b21.block _ zp).trans hp
  replace zp := Nat.lt_of_lt_of_le zp b21.size
  replace hm := (b21.block _ zm).trans hm
  replace zm := Nat.lt_of_lt_of_le zm b21.size
  replace hq := (b21.block _ zq).trans hq
  replace zq := Nat.lt_of_lt_of_le zq b21.size
  replace hr := (b21.block _ zr).trans hr
  replace zr := Nat.lt_of_lt_of_le zr b21.size
  refine hK.out _ _ ⟨hp, hq, hr⟩ (fun hH21 => ?_)
  clear hK K
  refine wpAnyH_take (i := 7) (v := ?_) rfl (by kernel_rfl) (by kernel_rfl) (by kernel_rfl) (fun _ _ _ h => h) (Or.inl ⟨by rfl, ?_⟩) hH21 ?_
  rotate_left
  · ((intro W hW; clear hW; go_simp) <;> with_reducible rfl)
  simp only [Act.put, List.getElem_toArray, List.getElem_cons_zero, List.getElem_cons_succ, List.setIfInBounds_toArray, List.set_cons_zero, List.set_cons_succ]
  refine wpAnyH_take (i := 8) (v := ?_) rfl (by kernel_rfl) (by kernel_rfl) (by kernel_rfl) (fun _ _ _ h => h) (Or.inl ⟨by rfl, ?_⟩) hH21 ?_
  rotate_left
  · ((intro W hW; clear hW; go_simp) <;> with_reducible rfl)
  simp only [Act.put, List.getElem_toArray, List.getElem_cons_zero, List.getElem_cons_succ, List.setIfInBounds_toArray, List.set_cons_zero, List.set_cons_succ]
  refine wpAnyH_take (i := 9) (v := ?_) rfl (by kernel_rfl) (by kernel_rfl) (by kernel_rfl) (fun _ _ _ h => h) (Or.inl ⟨by rfl, ?_⟩) hH21 ?_
  rotate_left
  · ((intro W hW; clear hW; go_simp) <;> with_reducible rfl)
  simp only [Act.put, List.getElem_toArray, List.getElem_cons_zero, List.getElem_cons_succ, List.setIfInBounds_toArray, List.set_cons_zero, List.set_cons_succ]
  refine wpAnyH_take (i := 10) (v := ?_) rfl (by kernel_rfl) (by kernel_rfl) (by kernel_rfl) (fun _ _ _ h => h) (Or.inl ⟨by rfl, ?_⟩) hH21 ?_
  rotate_left
  · ((intro W hW; clear hW; go_simp) <;> with_reducible rfl)
  simp only [Act.put, List.getElem_toArray, List.getElem_cons_zero, List.getElem_cons_succ, List.setIfInBounds_toArray, List.set_cons_zero, List.set_cons_succ]
  refine wpAnyH_take (i := 11) (v := ?_) rfl (by kernel_rfl) (by kernel_rfl) (by kernel_rfl) (fun _ _ _ h => h) (Or.inl ⟨by rfl, ?_⟩) hH21 ?_
  rotate_left
  · ((intro W hW; clear hW; go_simp) <;> with_reducible rfl)
  simp only [Act.put, List.getElem_toArray, List.getElem_cons_zero, List.getElem_cons_succ, List.setIfInBounds_toArray, List.set_cons_zero, List.set_cons_succ]
  refine wpAnyH_take (i := 12) (v := ?_) rfl (by kernel_rfl) (by kernel_rfl) (by kernel_rfl) (fun _ _ _ h => h) (Or.inl ⟨by rfl, ?_⟩) hH21 ?_
  rotate_left
  · ((intro W hW; clear hW; go_simp) <;> with_reducible rfl)
  simp only [Act.put, List.getElem_toArray, List.getElem_cons_zero, List.getElem_cons_succ, List.setIfInBounds_toArray, List.set_cons_zero, List.set_cons_succ]
  refine wpAnyH_take (i := 13) (v := ?_) rfl (by kernel_rfl) (by kernel_rfl) (by kernel_rfl) (fun _ _ _ h => h) (Or.inl ⟨by rfl, ?_⟩) hH21 ?_
  rotate_left
  · ((intro W hW; clear hW; go_simp) <;> with_reducible rfl)
  simp only [Act.put, List.getElem_toArray, List.getElem_cons_zero, List.getElem_cons_succ, List.setIfInBounds_toArray, List.set_cons_zero, List.set_cons_succ]
  refine wpAnyH_take (i := 14) (v := ?_) rfl (by kernel_rfl) (by kernel_rfl) (by kernel_rfl) (fun _ _ _ h => h) (Or.inl ⟨by rfl, ?_⟩) hH21 ?_
  rotate_left
  · ((intro W hW; clear hW; go_simp) <;> with_reducible rfl)
  simp only [Act.put, List.getElem_toArray, List.getElem_cons_zero, List.getElem_cons_succ, List.setIfInBounds_toArray, List.set_cons_zero, List.set_cons_succ]
  refine wpAnyH_take (i := 15) (v := ?_) rfl (by kernel_rfl) (by kernel_rfl) (by kernel_rfl) (fun _ _ _ h => h) (Or.inl ⟨by rfl, ?_⟩) hH21 ?_
  rotate_left
  · ((intro W hW; clear hW; go_simp) <;> with_reducible rfl)
  simp only [Act.put, List.getElem_toArray, List.getElem_cons_zero, List.getElem_cons_succ, List.setIfInBounds_toArray, List.set_cons_zero, List.set_cons_succ]
  refine wpAnyH_take (i := 16) (v := ?_) rfl (by kernel_rfl) (by kernel_rfl) (by kernel_rfl) (fun _ _ _ h => h) (Or.inl ⟨by rfl, ?_⟩) hH21 ?_
  rotate_left
  · ((intro W hW; clear hW; go_simp) <;> with_reducible rfl)
  simp only [Act.put, List.getElem_toArray, List.getElem_cons_zero, List.getElem_cons_succ, List.setIfInBounds_toArray, List.set_cons_zero, List.set_cons_succ]
  refine wpAnyH_take (i := 17) (v := ?_) rfl (by kernel_rfl) (by kernel_rfl) (by kernel_rfl) (fun _ _ _ h => h) (Or.inl ⟨by rfl, ?_⟩) hH21 ?_
  rotate_left
  · ((intro W hW; clear hW; go_simp) <;> with_reducible rfl)
  simp only [Act.put, List.getElem_toArray, List.getElem_cons_zero, List.getElem_cons_succ, List.setIfInBounds_toArray, List.set_cons_zero, List.set_cons_succ]
  refine wpAnyH_take (i := 18) (v := ?_) rfl (by kernel_rfl) (by kernel_rfl) (by kernel_rfl) (fun _ _ _ h => h) (Or.inl ⟨by rfl, ?_⟩) hH21 ?_
  rotate_left
  · ((intro W hW; clear hW; go_simp) <;> with_reducible rfl)
  simp only [Act.put, List.getElem_toArray, List.getElem_cons_zero, List.getElem_cons_succ, List.setIfInBounds_toArray, List.set_cons_zero, List.set_cons_succ]
  refine wpAnyH_take (i := 19) (v := ?_) rfl (by kernel_rfl) (by kernel_rfl) (by kernel_rfl) (fun _ _ _ h => h) (Or.inl ⟨by rfl, ?_⟩) hH21 ?_
  rotate_left
  · ((intro W hW; clear hW; go_simp) <;> with_reducible rfl)
  simp only [Act.put, List.getElem_toArray, List.getElem_cons_zero, List.getElem_cons_succ, List.setIfInBounds_toArray, List.set_cons_zero, List.set_cons_succ]
  refine wpAnyH_take (i := 20) (v := ?_) rfl (by kernel_rfl) (by kernel_rfl) (by kernel_rfl) (fun _ _ _ h => h) (Or.inl ⟨by rfl, ?_⟩) hH21 ?_
  rotate_left
  · ((intro W hW; clear hW; go_simp) <;> with_reducible rfl)
  simp only [Act.put, List.getElem_toArray, List.getElem_cons_zero, List.getElem_cons_succ, List.setIfInBounds_toArray, List.set_cons_zero, List.set_cons_succ]
  refine wpAnyH_take (i := 21) (v := ?_) rfl (by kernel_rfl) (by kernel_rfl) (by kernel_rfl) (fun _ _ _ h => h) (Or.inl ⟨by rfl, ?_⟩) hH21 ?_
  rotate_left
  · ((intro W hW; clear hW; go_simp) <;> with_reducible rfl)
  simp only [Act.put, List.getElem_toArray, List.getElem_cons_zero, List.getElem_cons_succ, List.setIfInBounds_toArray, List.set_cons_zero, List.set_cons_succ]
  refine wpAnyH_take (i := 22) (v := ?_) rfl (by kernel_rfl) (by kernel_rfl) (by kernel_rfl) (fun _ _ _ h => h) (Or.inl ⟨by rfl, ?_⟩) hH21 ?_
  rotate_left
  · ((intro W hW; clear hW; go_simp) <;> with_reducible rfl)
  simp only [Act.put, List.getElem_toArray, List.getElem_cons_zero, List.getElem_cons_succ, List.setIfInBounds_toArray, List.set_cons_zero, List.set_cons_succ]
  refine wpAnyH_take (i := 23) (v := ?_) rfl (by kernel_rfl) (by kernel_rfl) (by kernel_rfl) (fun _ _ _ h => h) (Or.inl ⟨by rfl, ?_⟩) hH21 ?_
  rotate_left
  · ((intro W hW; clear hW; go_simp) <;> with_reducible rfl)
  simp only [Act.put, List.getElem_toArray, List.getElem_cons_zero, List.getElem_cons_succ, List.setIfInBounds_toArray, List.set_cons_zero, List.set_cons_succ]
  refine wpAnyH_take (i := 24) (v := ?_) rfl (by kernel_rfl) (by kernel_rfl) (by kernel_rfl) (fun _ _ _ h => h) (Or.inl ⟨by rfl, ?_⟩) hH21 ?_
  rotate_left
  · ((intro W hW; clear hW; go_simp) <;> with_reducible rfl)
  simp only [Act.put, List.getElem_toArray, List.getElem_cons_zero, List.getElem_cons_succ, List.setIfInBounds_toArray, List.set_cons_zero, List.set_cons_succ]
  refine wpAnyH_take (i := 25) (v := ?_) rfl (by kernel_rfl) (by kernel_rfl) (by kernel_rfl) (fun _ _ _ h => h) (Or.inl ⟨by rfl, ?_⟩) hH21 ?_
  rotate_left
  · ((intro W hW; clear hW; go_simp) <;> with_reducible rfl)
  simp only [Act.put, List.getElem_toArray, List.getElem_cons_zero, List.getElem_cons_succ, List.setIfInBounds_toArray, List.set_cons_zero, List.set_cons_succ]
  refine wpAnyH_take (i := 26) (v := ?_) rfl (by kernel_rfl) (by kernel_rfl) (by kernel_rfl) (fun _ _ _ h => h) (Or.inl ⟨by rfl, ?_⟩) hH21 ?_
  rotate_left
  · ((intro W hW; clear hW; go_simp) <;> with_reducible rfl)
  simp only [Act.put, List.getElem_toArray, List.getElem_cons_zero, List.getElem_cons_succ, List.setIfInBounds_toArray, List.set_cons_zero, List.set_cons_succ]
  refine wpAnyH_take (i := 27) (v := ?_) rfl (by kernel_rfl) (by kernel_rfl) (by kernel_rfl) (fun _ _ _ h => h) (Or.inl ⟨by rfl, ?_⟩) hH21 ?_
  rotate_left
  · ((intro W hW; clear hW; go_simp) <;> with_reducible rfl)
  simp only [Act.put, List.getElem_toArray, List.getElem_cons_zero, List.getElem_cons_succ, List.setIfInBounds_toArray, List.set_cons_zero, List.set_cons_succ]
  refine wpAnyH_take (i := 28) (v := ?_) rfl (by kernel_rfl) (by kernel_rfl) (by kernel_rfl) (fun _ _ _ h => h) (Or.inl ⟨by rfl, ?_⟩) hH21 ?_
  rotate_left
  · ((intro W hW; clear hW; go_simp) <;> with_reducible rfl)
  simp only [Act.put, List.getElem_toArray, List.getElem_cons_zero, List.getElem_cons_succ, List.setIfInBounds_toArray, List.set_cons_zero, List.set_cons_succ]
  refine wpAnyH_take (i := 29) (v := ?_) rfl (by kernel_rfl) (by kernel_rfl) (by kernel_rfl) (fun _ _ _ h => h) (Or.inl ⟨by rfl, ?_⟩) hH21 ?_
  rotate_left
  · ((intro W hW; clear hW; go_simp) <;> with_reducible rfl)
  simp only [Act.put, List.getElem_toArray, List.getElem_cons_zero, List.getElem_cons_succ, List.setIfInBounds_toArray, List.set_cons_zero, List.set_cons_succ]
  refine wpAnyH_take (i := 30) (v := ?_) rfl (by kernel_rfl) (by kernel_rfl) (by kernel_rfl) (fun _ _ _ h => h) (Or.inl ⟨by rfl, ?_⟩) hH21 ?_
  rotate_left
  · ((intro W hW; clear hW; go_simp) <;> with_reducible rfl)
  simp only [Act.put, List.getElem_toArray, List.getElem_cons_zero, List.getElem_cons_succ, List.setIfInBounds_toArray, List.set_cons_zero, List.set_cons_succ]
  refine wpAnyH_take (i := 31) (v := undef) rfl (by kernel_rfl) (by kernel_rfl) (by kernel_rfl) (fun _ _ _ h => h) (Or.inr ⟨by rfl, rfl⟩) hH21 ?_
  simp only [Act.put, List.getElem_toArray, List.getElem_cons_zero, List.getElem_cons_succ, List.setIfInBounds_toArray, List.set_cons_zero, List.set_cons_succ]
  refine wpAnyH_take (i := 32) (v := undef) rfl (by kernel_rfl) (by kernel_rfl) (by kernel_rfl) (fun _ _ _ h => h) (Or.inr ⟨by rfl, rfl⟩) hH21 ?_
  simp only [Act.put, List.getElem_toArray, List.getElem_cons_zero, List.getElem_cons_succ, List.setIfInBounds_toArray, List.set_cons_zero, List.set_cons_succ]
  refine wpAnyH_take (i := 33) (v := undef) rfl (by kernel_rfl) (by kernel_rfl) (by kernel_rfl) (fun _ _ _ h => h) (Or.inr ⟨by rfl, rfl⟩) hH21 ?_
  simp only [Act.put, List.getElem_toArray, List.getElem_cons_zero, List.getElem_cons_succ, List.setIfInBounds_toArray, List.set_cons_zero, List.set_cons_succ]
  refine wpAnyH_take (i := 34) (v := undef) rfl (by kernel_rfl) (by kernel_rfl) (by kernel_rfl) (fun _ _ _ h => h) (Or.inr ⟨by rfl, rfl⟩) hH21 ?_
  simp only [Act.put, List.getElem_toArray, List.getElem_cons_zero, List.getElem_cons_succ, List.setIfInBounds_toArray, List.set_cons_zero, List.set_cons_succ]
  refine wpAnyH_take (i := 35) (v := undef) rfl (by kernel_rfl) (by kernel_rfl) (by kernel_rfl) (fun _ _ _ h => h) (Or.inr ⟨by rfl, rfl⟩) hH21 ?_
  simp only [Act.put, List.getElem_toArray, List.getElem_cons_zero, List.getElem_cons_succ, List.setIfInBounds_toArray, List.set_cons_zero, List.set_cons_succ]
  refine wpAnyH_take (i := 36) (v := undef) rfl (by kernel_rfl) (by kernel_rfl) (by kernel_rfl) (fun _ _ _ h => h) (Or.inr ⟨by rfl, rfl⟩) hH21 ?_
  simp only [Act.put, List.getElem_toArray, List.getElem_cons_zero, List.getElem_cons_succ, List.setIfInBounds_toArray, List.set_cons_zero, List.set_cons_succ]
  refine wpAnyH_take (i := 37) (v := undef) rfl (by kernel_rfl) (by kernel_rfl) (by kernel_rfl) (fun _ _ _ h => h) (Or.inr ⟨by rfl, rfl⟩) hH21 ?_
  simp only [Act.put, List.getElem_toArray, List.getElem_cons_zero, List.getElem_cons_succ, List.setIfInBounds_toArray, List.set_cons_zero, List.set_cons_succ]
  refine wpAnyH_take (i := 38) (v := ?_) rfl (by kernel_rfl) (by kernel_rfl) (by kernel_rfl) (fun _ _ _ h => h) (Or.inl ⟨by rfl, ?_⟩) hH21 ?_
  rotate_left
  · ((intro W hW; clear hW; go_simp) <;> with_reducible rfl)
  simp only [Act.put, List.getElem_toArray, List.getElem_cons_zero, List.getElem_cons_succ, List.setIfInBounds_toArray, List.set_cons_zero, List.set_cons_succ]
  refine wpAnyH_take (i := 39) (v := ?_) rfl (by kernel_rfl) (by kernel_rfl) (by kernel_rfl) (fun _ _ _ h => h) (Or.inl ⟨by rfl, ?_⟩) hH21 ?_
  rotate_left
  · ((intro W hW; clear hW; go_simp) <;> with_reducible rfl)
  simp only [Act.put, List.getElem_toArray, List.getElem_cons_zero, List.getElem_cons_succ, List.setIfInBounds_toArray, List.set_cons_zero, List.set_cons_succ]
  refine wpAnyH_done (by kernel_rfl) ?_ _
  clear qn gn
  clear hq zq
  clear hr zr
  have R5 := Lib.hid (range_lit hm 0 6 [.int .u8 (e0.toNat : Int), .int .u8 (e1.toNat : Int), .int .u8 (e2.toNat : Int), .int .u8 (e3.toNat : Int), .int .u8 (e4.toNat : Int), .int .u8 (e5.toNat : Int)] rfl)
  have R4 := Lib.hid (range_lit hp 0 21 [.int .i64 op, .int .u8 (a0.toNat : Int), .int .u8 (a1.toNat : Int), .int .u8 (a2.toNat : Int), .int .u8 (a3.toNat : Int), .int .u8 (a4.toNat : Int), .int .u8 (a5.toNat : Int), .int .u8 (p0.toNat : Int), .int .u8 (p1.toNat : Int), .int .u8 (p2.toNat : Int), .int .u8 (p3.toNat : Int), .int .u8 (m0.toNat : Int), .int .u8 (m1.toNat : Int), .int .u8 (m2.toNat : Int), .int .u8 (m3.toNat : Int), .int .u8 (m4.toNat : Int), .int .u8 (m5.toNat : Int), .int .u8 (d0.toNat : Int), .int .u8 (d1.toNat : Int), .int .u8 (d2.toNat : Int), .int .u8 (d3.toNat : Int)] rfl)
  go_wp2_with (first | ((with_reducible show wpList _ _ _ (⟨some 87, _, _, _, _, _⟩ :: _) _ _); refine wpList_load_rng 24 (.tmp 5) rfl (by kernel_rfl) _ _ rfl _ R5.out _ Try.underlying24 rfl (by kernel_rfl) ?_) | ((with_reducible show wpList _ _ _ (⟨some 88, _, _, _, _, _⟩ :: _) _ _); refine wpList_load_rng 28 (.tmp 4) rfl (by kernel_rfl) _ _ rfl _ R4.out _ Try.underlying28 rfl (by kernel_rfl) ?_))
  with_reducible refine (aanswer_no e0 e1 e2 e3 e4 e5 op a0 a1 a2 a3 a4 a5 p0 p1 p2 p3 m0 m1 m2 m3 m4 m5 d0 d1 d2 d3 _ N3.out).mono ?_
  clear R5 R4
  rintro e w8 ⟨rfl, b8⟩
  replace hp := (b8.block _ zp).trans hp
  replace zp := Nat.lt_of_lt_of_le zp b8.size
  replace hm := (b8.block _ zm).trans hm
  replace zm := Nat.lt_of_lt_of_le zm b8.size
  replace bel := bel.trans (b8.mono bel.size)
  clear b8
  have ng := heap_alloc_new w8 (.cells #[.int .u8 0, .int .u8 0, .int .u8 0, .int .u8 0, .int .u8 0, .int .u8 0, .int .u8 0, .int .u8 0, .int .u8 0, .int .u8 0, .int .u8 0, .int .u8 0, .int .i64 0, .slice none 0 0] 36)
  have bqg := (Below.refl w8.heap.size w8).alloc (Nat.le_refl _) (.cells #[.int .u8 0, .int .u8 0, .int .u8 0, .int .u8 0, .int .u8 0, .int .u8 0, .int .u8 0, .int .u8 0, .int .u8 0, .int .u8 0, .int .u8 0, .int .u8 0, .int .i64 0, .slice none 0 0] 36)
  go_wp2_with (first | ((with_reducible show wpList _ _ _ (⟨none, Op.store _ _ _, _, _, _, _⟩ :: _) _ _); refine wpList_store_blk rfl 36 _ _ rfl (w8.heap.size) rfl #[.int .u8 0, .int .u8 0, .int .u8 0, .int .u8 0, .int .u8 0, .int .u8 0, .int .u8 0, .int .u8 0, .int .u8 0, .int .u8 0, .int .u8 0, .int .u8 0, .int .i64 0, .slice none 0 0] rfl _ 36 ng (by rfl) (by kernel_rfl) (by kernel_rfl) ?_; intro x9 hg gg; have bz := below_grown bqg gg (Nat.le_refl _) bqg.size; replace hp := (bz.block _ zp).trans hp; replace zp := Nat.lt_of_lt_of_le zp bz.size; replace hm := (bz.block _ zm).trans hm; replace zm := Nat.lt_of_lt_of_le zm bz.size; replace bel := bel.trans (bz.mono bel.size); have zg := (Array.getElem?_eq_some_iff.1 hg).1; clear ng bqg bz gg; have R94 := cell_lit hp 0 _ rfl))
  clear R94
  replace bel := bel.drew
  replace hp : x9.drew.heap[w.heap.size]? = some (.cells #[.int .i64 op, .int .u8 (a0.toNat : Int), .int .u8 (a1.toNat : Int), .int .u8 (a2.toNat : Int), .int .u8 (a3.toNat : Int), .int .u8 (a4.toNat : Int), .int .u8 (a5.toNat : Int), .int .u8 (p0.toNat : Int), .int .u8 (p1.toNat : Int), .int .u8 (p2.toNat : Int), .int .u8 (p3.toNat : Int), .int .u8 (m0.toNat : Int), .int .u8 (m1.toNat : Int), .int .u8 (m2.toNat : Int), .int .u8 (m3.toNat : Int), .int .u8 (m4.toNat : Int), .int .u8 (m5.toNat : Int), .int .u8 (d0.toNat : Int), .int .u8 (d1.toNat : Int), .int .u8 (d2.toNat : Int), .int .u8 (d3.toNat : Int)] 28 (0, 0)) := hp
  replace zp : w.heap.size < x9.drew.heap.size := zp
  replace hm : x9.drew.heap[w.heap.size + 1]? = some (.cells #[.int .u8 (e0.toNat : Int), .int .u8 (e1.toNat : Int), .int .u8 (e2.toNat : Int), .int .u8 (e3.toNat : Int), .int .u8 (e4.toNat : Int), .int .u8 (e5.toNat : Int)] 24 (0, 0)) := hm
  replace zm : w.heap.size + 1 < x9.drew.heap.size := zm
  replace hg : x9.drew.heap[w8.heap.size]? = some (.cells #[.int .u8 0, .int .u8 0, .int .u8 0, .int .u8 0, .int .u8 0, .int .u8 0, .int .u8 0, .int .u8 0, .int .u8 0, .int .u8 0, .int .u8 0, .int .u8 0, .int .i64 0, .slice none 0 0] 36 (0, 0)) := hg
  replace zg : w8.heap.size < x9.drew.heap.size := zg
  refine wp_region_held_drew (S := fun W => W.heap[w.heap.size]? = some (.cells #[.int .i64 op, .int .u8 (a0.toNat : Int), .int .u8 (a1.toNat : Int), .int .u8 (a2.toNat : Int), .int .u8 (a3.toNat : Int), .int .u8 (a4.toNat : Int), .int .u8 (a5.toNat : Int), .int .u8 (p0.toNat : Int), .int .u8 (p1.toNat : Int), .int .u8 (p2.toNat : Int), .int .u8 (p3.toNat : Int), .int .u8 (m0.toNat : Int), .int .u8 (m1.toNat : Int), .int .u8 (m2.toNat : Int), .int .u8 (m3.toNat : Int), .int .u8 (m4.toNat : Int), .int .u8 (m5.toNat : Int), .int .u8 (d0.toNat : Int), .int .u8 (d1.toNat : Int), .int .u8 (d2.toNat : Int), .int .u8 (d3.toNat : Int)] 28 (0, 0)) ∧ W.heap[w.heap.size + 1]? = some (.cells #[.int .u8 (e0.toNat : Int), .int .u8 (e1.toNat : Int), .int .u8 (e2.toNat : Int), .int .u8 (e3.toNat : Int), .int .u8 (e4.toNat : Int), .int .u8 (e5.toNat : Int)] 24 (0, 0)) ∧ W.heap[w8.heap.size]? = some (.cells #[.int .u8 0, .int .u8 0, .int .u8 0, .int .u8 0, .int .u8 0, .int .u8 0, .int .u8 0, .int .u8 0, .int .u8 0, .int .u8 0, .int .u8 0, .int .u8 0, .int .i64 0, .slice none 0 0] 36 (0, 0))) (by kernel_rfl) ⟨hp, hm, hg⟩ (fun hH => ?_)
  generalize x9.drew = ve at bel hp zp hm zm hg zg hH ⊢
  refine wpAnyH_take (i := 0) (v := .agg #[.int .u8 (e0.toNat : Int), .int .u8 (e1.toNat : Int), .int .u8 (e2.toNat : Int), .int .u8 (e3.toNat : Int), .int .u8 (e4.toNat : Int), .int .u8 (e5.toNat : Int)]) rfl (by kernel_rfl) (by kernel_rfl) (by kernel_rfl) (fun _ _ _ h => h) (yieldsIf_load_part (by kernel_rfl) 24 _ rfl (w.heap.size + 1) 0 6 rfl [.int .u8 (e0.toNat : Int), .int .u8 (e1.toNat : Int), .int .u8 (e2.toNat : Int), .int .u8 (e3.toNat : Int), .int .u8 (e4.toNat : Int), .int .u8 (e5.toNat : Int)] 24 (0, 0) (fun W hW => hW.2.1) [.int .u8 (e0.toNat : Int), .int .u8 (e1.toNat : Int), .int .u8 (e2.toNat : Int), .int .u8 (e3.toNat : Int), .int .u8 (e4.toNat : Int), .int .u8 (e5.toNat : Int)] rfl _ Try.underlying24 rfl (by kernel_rfl)) hH ?_
  simp only [Act.put, List.getElem_toArray, List.getElem_cons_zero, List.setIfInBounds_toArray, List.set_cons_zero, List.set_cons_succ]
  refine wpAnyH_take (i := 1) (v := ?_) rfl (by kernel_rfl) (by kernel_rfl) (by kernel_rfl) (fun _ _ _ h => h) (Or.inl ⟨by rfl, ?_⟩) hH ?_
  rotate_left
  · ((intro W hW; clear hW; go_simp) <;> with_reducible rfl)
  simp only [Act.put, List.getElem_toArray, List.getElem_cons_zero, List.getElem_cons_succ, List.setIfInBounds_toArray, List.set_cons_zero, List.set_cons_succ]
  refine wpAnyH_take (i := 2) (v := .agg #[.int .u8 (p0.toNat : Int), .int .u8 (p1.toNat : Int), .int .u8 (p2.toNat : Int), .int .u8 (p3.toNat : Int)]) rfl (by kernel_rfl) (by kernel_rfl) (by kernel_rfl) (fun _ _ _ h => h) (yieldsIf_load_part (by kernel_rfl) 26 _ rfl (w.heap.size) 7 4 rfl [.int .i64 op, .int .u8 (a0.toNat : Int), .int .u8 (a1.toNat : Int), .int .u8 (a2.toNat : Int), .int .u8 (a3.toNat : Int), .int .u8 (a4.toNat : Int), .int .u8 (a5.toNat : Int), .int .u8 (p0.toNat : Int), .int .u8 (p1.toNat : Int), .int .u8 (p2.toNat : Int), .int .u8 (p3.toNat : Int), .int .u8 (m0.toNat : Int), .int .u8 (m1.toNat : Int), .int .u8 (m2.toNat : Int), .int .u8 (m3.toNat : Int), .int .u8 (m4.toNat : Int), .int .u8 (m5.toNat : Int), .int .u8 (d0.toNat : Int), .int .u8 (d1.toNat : Int), .int .u8 (d2.toNat : Int), .int .u8 (d3.toNat : Int)] 28 (0, 0) (fun W hW => hW.1) [.int .u8 (p0.toNat : Int), .int .u8 (p1.toNat : Int), .int .u8 (p2.toNat : Int), .int .u8 (p3.toNat : Int)] rfl _ Try.underlying26 rfl (by kernel_rfl)) hH ?_
  simp only [Act.put, List.getElem_toArray, List.getElem_cons_zero, List.getElem_cons_succ, List.setIfInBounds_toArray, List.set_cons_zero, List.set_cons_succ]
  refine wpAnyH_take (i := 3) (v := ?_) rfl (by kernel_rfl) (by kernel_rfl) (by kernel_rfl) (fun _ _ _ h => h) (Or.inl ⟨by rfl, ?_⟩) hH ?_
  rotate_left
  · ((intro W hW; clear hW; go_simp) <;> with_reducible rfl)
  simp only [Act.put, List.getElem_toArray, List.getElem_cons_zero, List.getElem_cons_succ, List.setIfInBounds_toArray, List.set_cons_zero, List.set_cons_succ]
  refine wpAnyH_take (i := 4) (v := .agg #[.int .u8 (d0.toNat : Int), .int .u8 (d1.toNat : Int), .int .u8 (d2.toNat : Int), .int .u8 (d3.toNat : Int)]) rfl (by kernel_rfl) (by kernel_rfl) (by kernel_rfl) (fun _ _ _ h => h) (yieldsIf_load_part (by kernel_rfl) 26 _ rfl (w.heap.size) 17 4 rfl [.int .i64 op, .int .u8 (a0.toNat : Int), .int .u8 (a1.toNat : Int), .int .u8 (a2.toNat : Int), .int .u8 (a3.toNat : Int), .int .u8 (a4.toNat : Int), .int .u8 (a5.toNat : Int), .int .u8 (p0.toNat : Int), .int .u8 (p1.toNat : Int), .int .u8 (p2.toNat : Int), .int .u8 (p3.toNat : Int), .int .u8 (m0.toNat : Int), .int .u8 (m1.toNat : Int), .int .u8 (m2.toNat : Int), .int .u8 (m3.toNat : Int), .int .u8 (m4.toNat : Int), .int .u8 (m5.toNat : Int), .int .u8 (d0.toNat : Int), .int .u8 (d1.toNat : Int), .int .u8 (d2.toNat : Int), .int .u8 (d3.toNat : Int)] 28 (0, 0) (fun W hW => hW.1) [.int .u8 (d0.toNat : Int), .int .u8 (d1.toNat : Int), .int .u8 (d2.toNat : Int), .int .u8 (d3.toNat : Int)] rfl _ Try.underlying26 rfl (by kernel_rfl)) hH ?_
  simp only [Act.put, List.getElem_toArray, List.getElem_cons_zero, List.getElem_cons_succ, List.setIfInBounds_toArray, List.set_cons_zero, List.set_cons_succ]
  refine wpAnyH_take (i := 6) (v := .agg #[.int .u8 (e0.toNat : Int), .int .u8 (e1.toNat : Int), .int .u8 (e2.toNat : Int), .int .u8 (e3.toNat : Int), .int .u8 (e4.toNat : Int), .int .u8 (e5.toNat : Int)]) rfl (by kernel_rfl) (by kernel_rfl) (by kernel_rfl) (fun _ _ _ h => h) (yieldsIf_load_part (by kernel_rfl) 24 _ rfl (w.heap.size + 1) 0 6 rfl [.int .u8 (e0.toNat : Int), .int .u8 (e1.toNat : Int), .int .u8 (e2.toNat : Int), .int .u8 (e3.toNat : Int), .int .u8 (e4.toNat : Int), .int .u8 (e5.toNat : Int)] 24 (0, 0) (fun W hW => hW.2.1) [.int .u8 (e0.toNat : Int), .int .u8 (e1.toNat : Int), .int .u8 (e2.toNat : Int), .int .u8 (e3.toNat : Int), .int .u8 (e4.toNat : Int), .int .u8 (e5.toNat : Int)] rfl _ Try.underlying24 rfl (by kernel_rfl)) hH ?_
  simp only [Act.put, List.getElem_toArray, List.getElem_cons_zero, List.getElem_cons_succ, List.setIfInBounds_toArray, List.set_cons_zero, List.set_cons_succ]
  refine wpAnyH_take (i := 7) (v := ?_) rfl (by kernel_rfl) (by kernel_rfl) (by kernel_rfl) (fun _ _ _ h => h) (Or.inl ⟨by rfl, ?_⟩) hH ?_
  rotate_left
  · ((intro W hW; clear hW; go_simp) <;> with_reducible rfl)
  simp only [Act.put, List.getElem_toArray, List.getElem_cons_zero, List.getElem_cons_succ, List.setIfInBounds_toArray, List.set_cons_zero, List.set_cons_succ]
  refine wpAnyH_take (i := 8) (v := .agg #[.int .u8 (p0.toNat : Int), .int .u8 (p1.toNat : Int), .int .u8 (p2.toNat : Int), .int .u8 (p3.toNat : Int)]) rfl (by kernel_rfl) (by kernel_rfl) (by kernel_rfl) (fun _ _ _ h => h) (yieldsIf_load_part (by kernel_rfl) 26 _ rfl (w.heap.size) 7 4 rfl [.int .i64 op, .int .u8 (a0.toNat : Int), .int .u8 (a1.toNat : Int), .int .u8 (a2.toNat : Int), .int .u8 (a3.toNat : Int), .int .u8 (a4.toNat : Int), .int .u8 (a5.toNat : Int), .int .u8 (p0.toNat : Int), .int .u8 (p1.toNat : Int), .int .u8 (p2.toNat : Int), .int .u8 (p3.toNat : Int), .int .u8 (m0.toNat : Int), .int .u8 (m1.toNat : Int), .int .u8 (m2.toNat : Int), .int .u8 (m3.toNat : Int), .int .u8 (m4.toNat : Int), .int .u8 (m5.toNat : Int), .int .u8 (d0.toNat : Int), .int .u8 (d1.toNat : Int), .int .u8 (d2.toNat : Int), .int .u8 (d3.toNat : Int)] 28 (0, 0) (fun W hW => hW.1) [.int .u8 (p0.toNat : Int), .int .u8 (p1.toNat : Int), .int .u8 (p2.toNat : Int), .int .u8 (p3.toNat : Int)] rfl _ Try.underlying26 rfl (by kernel_rfl)) hH ?_
  simp only [Act.put, List.getElem_toArray, List.getElem_cons_zero, List.getElem_cons_succ, List.setIfInBounds_toArray, List.set_cons_zero, List.set_cons_succ]
  refine wpAnyH_take (i := 9) (v := ?_) rfl (by kernel_rfl) (by kernel_rfl) (by kernel_rfl) (fun _ _ _ h => h) (Or.inl ⟨by rfl, ?_⟩) hH ?_
  rotate_left
  · ((intro W hW; clear hW; go_simp) <;> with_reducible rfl)
  simp only [Act.put, List.getElem_toArray, List.getElem_cons_zero, List.getElem_cons_succ, List.setIfInBounds_toArray, List.set_cons_zero, List.set_cons_succ]
  refine wpAnyH_take (i := 10) (v := .agg #[.int .u8 (d0.toNat : Int), .int .u8 (d1.toNat : Int), .int .u8 (d2.toNat : Int), .int .u8 (d3.toNat : Int)]) rfl (by kernel_rfl) (by kernel_rfl) (by kernel_rfl) (fun _ _ _ h => h) (yieldsIf_load_part (by kernel_rfl) 26 _ rfl (w.heap.size) 17 4 rfl [.int .i64 op, .int .u8 (a0.toNat : Int), .int .u8 (a1.toNat : Int), .int .u8 (a2.toNat : Int), .int .u8 (a3.toNat : Int), .int .u8 (a4.toNat : Int), .int .u8 (a5.toNat : Int), .int .u8 (p0.toNat : Int), .int .u8 (p1.toNat : Int), .int .u8 (p2.toNat : Int), .int .u8 (p3.toNat : Int), .int .u8 (m0.toNat : Int), .int .u8 (m1.toNat : Int), .int .u8 (m2.toNat : Int), .int .u8 (m3.toNat : Int), .int .u8 (m4.toNat : Int), .int .u8 (m5.toNat : Int), .int .u8 (d0.toNat : Int), .int .u8 (d1.toNat : Int), .int .u8 (d2.toNat : Int), .int .u8 (d3.toNat : Int)] 28 (0, 0) (fun W hW => hW.1) [.int .u8 (d0.toNat : Int), .int .u8 (d1.toNat : Int), .int .u8 (d2.toNat : Int), .int .u8 (d3.toNat : Int)] rfl _ Try.underlying26 rfl (by kernel_rfl)) hH ?_
  simp only [Act.put, List.getElem_toArray, List.getElem_cons_zero, List.getElem_cons_succ, List.setIfInBounds_toArray, List.set_cons_zero, List.set_cons_succ]
  refine wpAnyH_ready (rs := [5]) (by kernel_rfl) (by simp) ?_
  refine AllReadyH.cons (o := _) rfl (fun K hK => ?_) AllReadyH.nil
  simp only [List.getElem_toArray, List.getElem_cons_zero, List.getElem_cons_succ]
  go_simp
  with_reducible refine (aask_any e0 e1 e2 e3 e4 e5 p0 p1 p2 p3 d0 d1 d2 d3 _).mono ?_
  rintro e v41 ⟨A3, c3, rfl, h3, b41, _⟩
  dsimp only
  replace bel := bel.trans (b41.mono bel.size)
  replace hp := (b41.block _ zp).trans hp
  replace zp := Nat.lt_of_lt_of_le zp b41.size
  replace hm := (b41.block _ zm).trans hm
  replace zm := Nat.lt_of_lt_of_le zm b41.size
  replace hg := (b41.block _ zg).trans hg
  replace zg := Nat.lt_of_lt_of_le zg b41.size
  rw [put_eq _ _ (by decide)] at h3
  refine hK.out _ _ ⟨hp, hm, hg⟩ (fun hH41 => ?_)
  clear hK K
  refine wpAnyH_ready (rs := [11]) (by kernel_rfl) (by simp) ?_
  refine AllReadyH.cons (o := _) rfl (fun K hK => ?_) AllReadyH.nil
  simp only [List.getElem_toArray, List.getElem_cons_zero, List.getElem_cons_succ]
  go_simp
  with_reducible refine (rask_any e0 e1 e2 e3 e4 e5 p0 p1 p2 p3 d0 d1 d2 d3 _).mono ?_
  rintro e v42 ⟨A4, c4, rfl, h4, b42⟩
  dsimp only
  replace bel := bel.trans (b42.mono bel.size)
  replace hp := (b42.block _ zp).trans hp
  replace zp := Nat.lt_of_lt_of_le zp b42.size
  replace hm := (b42.block _ zm).trans hm
  replace zm := Nat.lt_of_lt_of_le zm b42.size
  replace hg := (b42.block _ zg).trans hg
  replace zg := Nat.lt_of_lt_of_le zg b42.size
  replace h3 := h3.below b42
  refine hK.out _ _ ⟨hp, hm, hg⟩ (fun hH42 => ?_)
  clear hK K
  refine wpAnyH_ready (rs := [12]) (by kernel_rfl) (by simp) ?_
  refine AllReadyH.cons (o := _) rfl (fun K hK => ?_) AllReadyH.nil
  simp only [List.getElem_toArray, List.getElem_cons_zero, List.getElem_cons_succ]
  go_simp
  with_reducible refine (same5_ask e0 e1 e2 e3 e4 e5 A3 c3 A4 c4 _ _ h3 h4).mono ?_
  rintro e v43 ⟨rfl, b43⟩
  dsimp only
  replace bel := bel.trans (b43.mono bel.size)
  replace hp := (b43.block _ zp).trans hp
  replace zp := Nat.lt_of_lt_of_le zp b43.size
  replace hm := (b43.block _ zm).trans hm
  replace zm := Nat.lt_of_lt_of_le zm b43.size
  replace hg := (b43.block _ zg).trans hg
  replace zg := Nat.lt_of_lt_of_le zg b43.size
  refine hK.out _ _ ⟨hp, hm, hg⟩ (fun hH43 => ?_)
  clear hK K
  refine wpAnyH_take (i := 13) (v := ?_) rfl (by kernel_rfl) (by kernel_rfl) (by kernel_rfl) (fun _ _ _ h => h) (Or.inl ⟨by rfl, ?_⟩) hH43 ?_
  rotate_left
  · ((intro W hW; clear hW; go_simp) <;> with_reducible rfl)
  simp only [Act.put, List.getElem_toArray, List.getElem_cons_zero, List.getElem_cons_succ, List.setIfInBounds_toArray, List.set_cons_zero, List.set_cons_succ]
  refine wpAnyH_take (i := 14) (v := ?_) rfl (by kernel_rfl) (by kernel_rfl) (by kernel_rfl) (fun _ _ _ h => h) (Or.inl ⟨by rfl, ?_⟩) hH43 ?_
  rotate_left
  · ((intro W hW; clear hW; go_simp) <;> with_reducible rfl)
  simp only [Act.put, List.getElem_toArray, List.getElem_cons_zero, List.getElem_cons_succ, List.setIfInBounds_toArray, List.set_cons_zero, List.set_cons_succ]
  refine wpAnyH_take (i := 15) (v := ?_) rfl (by kernel_rfl) (by kernel_rfl) (by kernel_rfl) (fun _ _ _ h => h) (Or.inl ⟨by rfl, ?_⟩) hH43 ?_
  rotate_left
  · ((intro W hW; clear hW; go_simp) <;> with_reducible rfl)
  simp only [Act.put, List.getElem_toArray, List.getElem_cons_zero, List.getElem_cons_succ, List.setIfInBounds_toArray, List.set_cons_zero, List.set_cons_succ]
  refine wpAnyH_take (i := 16) (v := ?_) rfl (by kernel_rfl) (by kernel_rfl) (by kernel_rfl) (fun _ _ _ h => h) (Or.inl ⟨by rfl, ?_⟩) hH43 ?_
  rotate_left
  · ((intro W hW; clear hW; go_simp) <;> with_reducible rfl)
  simp only [Act.put, List.getElem_toArray, List.getElem_cons_zero, List.getElem_cons_succ, List.setIfInBounds_toArray, List.set_cons_zero, List.set_cons_succ]
  refine wpAnyH_take (i := 17) (v := undef) rfl (by kernel_rfl) (by kernel_rfl) (by kernel_rfl) (fun _ _ _ h => h) (Or.inr ⟨by rfl, rfl⟩) hH43 ?_
  simp only [Act.put, List.getElem_toArray, List.getElem_cons_zero, List.getElem_cons_succ, List.setIfInBounds_toArray, List.set_cons_zero, List.set_cons_succ]
  refine wpAnyH_take (i := 18) (v := undef) rfl (by kernel_rfl) (by kernel_rfl) (by kernel_rfl) (fun _ _ _ h => h) (Or.inr ⟨by rfl, rfl⟩) hH43 ?_
  simp only [Act.put, List.getElem_toArray, List.getElem_cons_zero, List.getElem_cons_succ, List.setIfInBounds_toArray, List.set_cons_zero, List.set_cons_succ]
  refine wpAnyH_take (i := 19) (v := undef) rfl (by kernel_rfl) (by kernel_rfl) (by kernel_rfl) (fun _ _ _ h => h) (Or.inr ⟨by rfl, rfl⟩) hH43 ?_
  simp only [Act.put, List.getElem_toArray, List.getElem_cons_zero, List.getElem_cons_succ, List.setIfInBounds_toArray, List.set_cons_zero, List.set_cons_succ]
  refine wpAnyH_take (i := 20) (v := undef) rfl (by kernel_rfl) (by kernel_rfl) (by kernel_rfl) (fun _ _ _ h => h) (Or.inr ⟨by rfl, rfl⟩) hH43 ?_
  simp only [Act.put, List.getElem_toArray, List.getElem_cons_zero, List.getElem_cons_succ, List.setIfInBounds_toArray, List.set_cons_zero, List.set_cons_succ]
  refine wpAnyH_take (i := 21) (v := undef) rfl (by kernel_rfl) (by kernel_rfl) (by kernel_rfl) (fun _ _ _ h => h) (Or.inr ⟨by rfl, rfl⟩) hH43 ?_
  simp only [Act.put, List.getElem_toArray, List.getElem_cons_zero, List.getElem_cons_succ, List.setIfInBounds_toArray, List.set_cons_zero, List.set_cons_succ]
  refine wpAnyH_take (i := 22) (v := undef) rfl (by kernel_rfl) (by kernel_rfl) (by kernel_rfl) (fun _ _ _ h => h) (Or.inr ⟨by rfl, rfl⟩) hH43 ?_
  simp only [Act.put, List.getElem_toArray, List.getElem_cons_zero, List.getElem_cons_succ, List.setIfInBounds_toArray, List.set_cons_zero, List.set_cons_succ]
  refine wpAnyH_take (i := 23) (v := ?_) rfl (by kernel_rfl) (by kernel_rfl) (by kernel_rfl) (fun _ _ _ h => h) (Or.inl ⟨by rfl, ?_⟩) hH43 ?_
  rotate_left
  · ((intro W hW; clear hW; go_simp) <;> with_reducible rfl)
  simp only [Act.put, List.getElem_toArray, List.getElem_cons_zero, List.getElem_cons_succ, List.setIfInBounds_toArray, List.set_cons_zero, List.set_cons_succ]
  refine wpAnyH_take (i := 24) (v := ?_) rfl (by kernel_rfl) (by kernel_rfl) (by kernel_rfl) (fun _ _ _ h => h) (Or.inl ⟨by rfl, ?_⟩) hH43 ?_
  rotate_left
  · ((intro W hW; clear hW; go_simp) <;> with_reducible rfl)
  simp only [Act.put, List.getElem_toArray, List.getElem_cons_zero, List.getElem_cons_succ, List.setIfInBounds_toArray, List.set_cons_zero, List.set_cons_succ]
  refine wpAnyH_take (i := 25) (v := ?_) rfl (by kernel_rfl) (by kernel_rfl) (by kernel_rfl) (fun _ _ _ h => h) (Or.inl ⟨by rfl, ?_⟩) hH43 ?_
  rotate_left
  · ((intro W hW; clear hW; go_simp) <;> with_reducible rfl)
  simp only [Act.put, List.getElem_toArray, List.getElem_cons_zero, List.getElem_cons_succ, List.setIfInBounds_toArray, List.set_cons_zero, List.set_cons_succ]
  refine wpAnyH_done (by kernel_rfl) ?_ _
  go_wp2
  go_ret
  exact ⟨rfl, bel⟩

theorem arpSays_walk (S : Option Addr) (n c : Nat) (l : List UInt8) (op : Int) (a0 a1 a2 a3 a4 a5 p0 p1 p2 p3 m0 m1 m2 m3 m4 m5 d0 d1 d2 d3 e0 e1 e2 e3 e4 e5 : UInt8) (w : World) (hl : Sl w S n c l) : Calls Try.prog 4 #[.slice S n c, .agg #[.int .i64 op, .int .u8 (a0.toNat : Int), .int .u8 (a1.toNat : Int), .int .u8 (a2.toNat : Int), .int .u8 (a3.toNat : Int), .int .u8 (a4.toNat : Int), .int .u8 (a5.toNat : Int), .int .u8 (p0.toNat : Int), .int .u8 (p1.toNat : Int), .int .u8 (p2.toNat : Int), .int .u8 (p3.toNat : Int), .int .u8 (m0.toNat : Int), .int .u8 (m1.toNat : Int), .int .u8 (m2.toNat : Int), .int .u8 (m3.toNat : Int), .int .u8 (m4.toNat : Int), .int .u8 (m5.toNat : Int), .int .u8 (d0.toNat : Int), .int .u8 (d1.toNat : Int), .int .u8 (d2.toNat : Int), .int .u8 (d3.toNat : Int)], .agg #[.int .u8 (e0.toNat : Int), .int .u8 (e1.toNat : Int), .int .u8 (e2.toNat : Int), .int .u8 (e3.toNat : Int), .int .u8 (e4.toNat : Int), .int .u8 (e5.toNat : Int)]] w fun e w' => e = .returned (.bool true) ∧ Below w.heap.size w w' := by
  by_cases h : 100 < n
  · exact arpSays_long S n c op a0 a1 a2 a3 a4 a5 p0 p1 p2 p3 m0 m1 m2 m3 m4 m5 d0 d1 d2 d3 e0 e1 e2 e3 e4 e5 w h
  cases h0 : isOp op
  · exact arpSays_bad S n c l op a0 a1 a2 a3 a4 a5 p0 p1 p2 p3 m0 m1 m2 m3 m4 m5 d0 d1 d2 d3 e0 e1 e2 e3 e4 e5 w hl (by omega) h0
  have h1 : op = 1 ∨ op = 2 := by simpa [isOp] using h0
  rcases h1 with rfl | rfl
  · exact arpSays_ok1 S n c l a0 a1 a2 a3 a4 a5 p0 p1 p2 p3 m0 m1 m2 m3 m4 m5 d0 d1 d2 d3 e0 e1 e2 e3 e4 e5 w hl (by omega)
  · exact arpSays_ok2 S n c l a0 a1 a2 a3 a4 a5 p0 p1 p2 p3 m0 m1 m2 m3 m4 m5 d0 d1 d2 d3 e0 e1 e2 e3 e4 e5 w hl (by omega)
end Go.Proofs.Ytekjjknpifpkiaa
