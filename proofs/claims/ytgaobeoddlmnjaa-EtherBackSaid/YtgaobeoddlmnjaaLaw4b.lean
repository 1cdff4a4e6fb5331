/- Layer 4: EtherBack's walk. -/
import Derived.Test.YtgaobeoddlmnjaaAwk4
namespace Go.Proofs.Ytgaobeoddlmnjaa
open Go.RowKit

/-- What was written is read. -/
theorem eget_two (A : Option Addr) (n c : Nat) (a0 a1 a2 a3 a4 a5 m0 m1 m2 m3 m4 m5 : UInt8) (t : Int) (l : List UInt8) (w : World) (hl : Sl w A n c ([a0, a1, a2, a3, a4, a5] ++ ([m0, m1, m2, m3, m4, m5] ++ (two t ++ l)))) (hn : n ≤ 1514) (h0 : 0 ≤ t) (h1 : t ≤ 65535) :
    Calls Try.prog 9 #[.slice A n c] w fun e w' => ∃ A' c', e = .returned (.tuple #[.agg #[.int .u8 (a0.toNat : Int), .int .u8 (a1.toNat : Int), .int .u8 (a2.toNat : Int), .int .u8 (a3.toNat : Int), .int .u8 (a4.toNat : Int), .int .u8 (a5.toNat : Int), .int .u8 (m0.toNat : Int), .int .u8 (m1.toNat : Int), .int .u8 (m2.toNat : Int), .int .u8 (m3.toNat : Int), .int .u8 (m4.toNat : Int), .int .u8 (m5.toNat : Int), .int .i64 t, .slice A' l.length c'], .int .i64 0]) ∧ Sl w' A' l.length c' l ∧ Below w.heap.size w w' := by
  have h := eget_ok A n c a0 a1 a2 a3 a4 a5 m0 m1 m2 m3 m4 m5 (byteOf (t / 256)) (byteOf t) l w hl hn
  have e : ((be [byteOf (t / 256), byteOf t] : Nat) : Int) = t := by have := be_byteOf t; unfold two at this; rw [this]; omega
  rw [e] at h
  exact h

set_option maxRecDepth 100000 in
set_option maxHeartbeats 16000000 in
theorem etherBack_long (a0 a1 a2 a3 a4 a5 m0 m1 m2 m3 m4 m5 : UInt8) (t : Int) (S : Option Addr) (n c : Nat) (w : World) (h : 1500 < n) : Calls Try.prog 5 #[.agg #[.int .u8 (a0.toNat : Int), .int .u8 (a1.toNat : Int), .int .u8 (a2.toNat : Int), .int .u8 (a3.toNat : Int), .int .u8 (a4.toNat : Int), .int .u8 (a5.toNat : Int), .int .u8 (m0.toNat : Int), .int .u8 (m1.toNat : Int), .int .u8 (m2.toNat : Int), .int .u8 (m3.toNat : Int), .int .u8 (m4.toNat : Int), .int .u8 (m5.toNat : Int), .int .i64 t, .slice S n c]] w fun e w' => e = .returned (.bool true) ∧ Below w.heap.size w w' := by
  have bel := Below.refl w.heap.size w
  have t1 : (1500 : Int) < n := by omega
  clear h
  have hf := heap_alloc_new w (.cells #[.int .u8 (a0.toNat : Int), .int .u8 (a1.toNat : Int), .int .u8 (a2.toNat : Int), .int .u8 (a3.toNat : Int), .int .u8 (a4.toNat : Int), .int .u8 (a5.toNat : Int), .int .u8 (m0.toNat : Int), .int .u8 (m1.toNat : Int), .int .u8 (m2.toNat : Int), .int .u8 (m3.toNat : Int), .int .u8 (m4.toNat : Int), .int .u8 (m5.toNat : Int), .int .i64 t, .slice S n c] 27)
  have zf : w.heap.size < (w.alloc (.cells #[.int .u8 (a0.toNat : Int), .int .u8 (a1.toNat : Int), .int .u8 (a2.toNat : Int), .int .u8 (a3.toNat : Int), .int .u8 (a4.toNat : Int), .int .u8 (a5.toNat : Int), .int .u8 (m0.toNat : Int), .int .u8 (m1.toNat : Int), .int .u8 (m2.toNat : Int), .int .u8 (m3.toNat : Int), .int .u8 (m4.toNat : Int), .int .u8 (m5.toNat : Int), .int .i64 t, .slice S n c] 27)).heap.size := by simp
  replace bel := bel.alloc bel.size (.cells #[.int .u8 (a0.toNat : Int), .int .u8 (a1.toNat : Int), .int .u8 (a2.toNat : Int), .int .u8 (a3.toNat : Int), .int .u8 (a4.toNat : Int), .int .u8 (a5.toNat : Int), .int .u8 (m0.toNat : Int), .int .u8 (m1.toNat : Int), .int .u8 (m2.toNat : Int), .int .u8 (m3.toNat : Int), .int .u8 (m4.toNat : Int), .int .u8 (m5.toNat : Int), .int .i64 t, .slice S n c] 27)
  go_enter Try.func5, Try.ntmps5
  go_wp2_with fail
  with_reducible refine (awake4 _).mono ?_
  rintro e w1 ⟨rfl, b1⟩
  replace hf := (b1.block _ zf).trans hf
  replace zf := Nat.lt_of_lt_of_le zf b1.size
  replace bel := bel.trans (b1.mono bel.size)
  clear b1
  obtain ⟨⟨cf0, cf1, cf2, cf3, cf4, cf5, cf6, cf7, cf8, cf9, cf10, cf11, cf12, cf13⟩, _⟩ := cells14 hf
  clear hf
  go_wp2
  go_ret
  exact ⟨rfl, bel⟩

set_option maxRecDepth 100000 in
set_option maxHeartbeats 16000000 in
theorem etherBack_neg (a0 a1 a2 a3 a4 a5 m0 m1 m2 m3 m4 m5 : UInt8) (t : Int) (S : Option Addr) (n c : Nat) (w : World) (h : n ≤ 1500) (ht : t < 0) : Calls Try.prog 5 #[.agg #[.int .u8 (a0.toNat : Int), .int .u8 (a1.toNat : Int), .int .u8 (a2.toNat : Int), .int .u8 (a3.toNat : Int), .int .u8 (a4.toNat : Int), .int .u8 (a5.toNat : Int), .int .u8 (m0.toNat : Int), .int .u8 (m1.toNat : Int), .int .u8 (m2.toNat : Int), .int .u8 (m3.toNat : Int), .int .u8 (m4.toNat : Int), .int .u8 (m5.toNat : Int), .int .i64 t, .slice S n c]] w fun e w' => e = .returned (.bool true) ∧ Below w.heap.size w w' := by
  have bel := Below.refl w.heap.size w
  have t1 : decide ((1500 : Int) < n) = false := decide_eq_false (by omega)
  clear h
  have hf := heap_alloc_new w (.cells #[.int .u8 (a0.toNat : Int), .int .u8 (a1.toNat : Int), .int .u8 (a2.toNat : Int), .int .u8 (a3.toNat : Int), .int .u8 (a4.toNat : Int), .int .u8 (a5.toNat : Int), .int .u8 (m0.toNat : Int), .int .u8 (m1.toNat : Int), .int .u8 (m2.toNat : Int), .int .u8 (m3.toNat : Int), .int .u8 (m4.toNat : Int), .int .u8 (m5.toNat : Int), .int .i64 t, .slice S n c] 27)
  have zf : w.heap.size < (w.alloc (.cells #[.int .u8 (a0.toNat : Int), .int .u8 (a1.toNat : Int), .int .u8 (a2.toNat : Int), .int .u8 (a3.toNat : Int), .int .u8 (a4.toNat : Int), .int .u8 (a5.toNat : Int), .int .u8 (m0.toNat : Int), .int .u8 (m1.toNat : Int), .int .u8 (m2.toNat : Int), .int .u8 (m3.toNat : Int), .int .u8 (m4.toNat : Int), .int .u8 (m5.toNat : Int), .int .i64 t, .slice S n c] 27)).heap.size := by simp
  replace bel := bel.alloc bel.size (.cells #[.int .u8 (a0.toNat : Int), .int .u8 (a1.toNat : Int), .int .u8 (a2.toNat : Int), .int .u8 (a3.toNat : Int), .int .u8 (a4.toNat : Int), .int .u8 (a5.toNat : Int), .int .u8 (m0.toNat : Int), .int .u8 (m1.toNat : Int), .int .u8 (m2.toNat : Int), .int .u8 (m3.toNat : Int), .int .u8 (m4.toNat : Int), .int .u8 (m5.toNat : Int), .int .i64 t, .slice S n c] 27)
  go_enter Try.func5, Try.ntmps5
  go_wp2_with fail
  with_reducible refine (awake4 _).mono ?_
  rintro e w1 ⟨rfl, b1⟩
  replace hf := (b1.block _ zf).trans hf
  replace zf := Nat.lt_of_lt_of_le zf b1.size
  replace bel := bel.trans (b1.mono bel.size)
  clear b1
  obtain ⟨⟨cf0, cf1, cf2, cf3, cf4, cf5, cf6, cf7, cf8, cf9, cf10, cf11, cf12, cf13⟩, _⟩ := cells14 hf
  clear hf
  go_wp2
  go_ret
  exact ⟨rfl, bel⟩

set_option maxRecDepth 100000 in
set_option maxHeartbeats 16000000 in
theorem etherBack_big (a0 a1 a2 a3 a4 a5 m0 m1 m2 m3 m4 m5 : UInt8) (t : Int) (S : Option Addr) (n c : Nat) (w : World) (h : n ≤ 1500) (ht : 65535 < t) : Calls Try.prog 5 #[.agg #[.int .u8 (a0.toNat : Int), .int .u8 (a1.toNat : Int), .int .u8 (a2.toNat : Int), .int .u8 (a3.toNat : Int), .int .u8 (a4.toNat : Int), .int .u8 (a5.toNat : Int), .int .u8 (m0.toNat : Int), .int .u8 (m1.toNat : Int), .int .u8 (m2.toNat : Int), .int .u8 (m3.toNat : Int), .int .u8 (m4.toNat : Int), .int .u8 (m5.toNat : Int), .int .i64 t, .slice S n c]] w fun e w' => e = .returned (.bool true) ∧ Below w.heap.size w w' := by
  have bel := Below.refl w.heap.size w
  have t1 : decide ((1500 : Int) < n) = false := decide_eq_false (by omega)
  have t2 : decide (t < 0) = false := decide_eq_false (by omega)
  clear h
  have hf := heap_alloc_new w (.cells #[.int .u8 (a0.toNat : Int), .int .u8 (a1.toNat : Int), .int .u8 (a2.toNat : Int), .int .u8 (a3.toNat : Int), .int .u8 (a4.toNat : Int), .int .u8 (a5.toNat : Int), .int .u8 (m0.toNat : Int), .int .u8 (m1.toNat : Int), .int .u8 (m2.toNat : Int), .int .u8 (m3.toNat : Int), .int .u8 (m4.toNat : Int), .int .u8 (m5.toNat : Int), .int .i64 t, .slice S n c] 27)
  have zf : w.heap.size < (w.alloc (.cells #[.int .u8 (a0.toNat : Int), .int .u8 (a1.toNat : Int), .int .u8 (a2.toNat : Int), .int .u8 (a3.toNat : Int), .int .u8 (a4.toNat : Int), .int .u8 (a5.toNat : Int), .int .u8 (m0.toNat : Int), .int .u8 (m1.toNat : Int), .int .u8 (m2.toNat : Int), .int .u8 (m3.toNat : Int), .int .u8 (m4.toNat : Int), .int .u8 (m5.toNat : Int), .int .i64 t, .slice S n c] 27)).heap.size := by simp
  replace bel := bel.alloc bel.size (.cells #[.int .u8 (a0.toNat : Int), .int .u8 (a1.toNat : Int), .int .u8 (a2.toNat : Int), .int .u8 (a3.toNat : Int), .int .u8 (a4.toNat : Int), .int .u8 (a5.toNat : Int), .int .u8 (m0.toNat : Int), .int .u8 (m1.toNat : Int), .int .u8 (m2.toNat : Int), .int .u8 (m3.toNat : Int), .int .u8 (m4.toNat : Int), .int .u8 (m5.toNat : Int), .int .i64 t, .slice S n c] 27)
  go_enter Try.func5, Try.ntmps5
  go_wp2_with fail
  with_reducible refine (awake4 _).mono ?_
  rintro e w1 ⟨rfl, b1⟩
  replace hf := (b1.block _ zf).trans hf
  replace zf := Nat.lt_of_lt_of_le zf b1.size
  replace bel := bel.trans (b1.mono bel.size)
  clear b1
  obtain ⟨⟨cf0, cf1, cf2, cf3, cf4, cf5, cf6, cf7, cf8, cf9, cf10, cf11, cf12, cf13⟩, _⟩ := cells14 hf
  clear hf
  go_wp2
  go_ret
  exact ⟨rfl, bel⟩

set_option maxRecDepth 100000 in
set_option maxHeartbeats 16000000 in
theorem etherBack_in (a0 a1 a2 a3 a4 a5 m0 m1 m2 m3 m4 m5 : UInt8) (t : Int) (S : Option Addr) (n c : Nat) (l : List UInt8) (w : World) (hl : Sl w S n c l) (h : n ≤ 1500) (ht0 : 0 ≤ t) (ht1 : t ≤ 65535) : Calls Try.prog 5 #[.agg #[.int .u8 (a0.toNat : Int), .int .u8 (a1.toNat : Int), .int .u8 (a2.toNat : Int), .int .u8 (a3.toNat : Int), .int .u8 (a4.toNat : Int), .int .u8 (a5.toNat : Int), .int .u8 (m0.toNat : Int), .int .u8 (m1.toNat : Int), .int .u8 (m2.toNat : Int), .int .u8 (m3.toNat : Int), .int .u8 (m4.toNat : Int), .int .u8 (m5.toNat : Int), .int .i64 t, .slice S n c]] w fun e w' => e = .returned (.bool true) ∧ Below w.heap.size w w' := by
  have bel := Below.refl w.heap.size w
  have t1 : decide ((1500 : Int) < n) = false := decide_eq_false (by omega)
  have t2 : decide (t < 0) = false := decide_eq_false (by omega)
  have t3 : decide (65535 < t) = false := decide_eq_false (by omega)
  have HN := Lib.hid h; have H0 := Lib.hid ht0; have H1 := Lib.hid ht1
  have hll := hl.1
  clear h ht0 ht1
  have hf := heap_alloc_new w (.cells #[.int .u8 (a0.toNat : Int), .int .u8 (a1.toNat : Int), .int .u8 (a2.toNat : Int), .int .u8 (a3.toNat : Int), .int .u8 (a4.toNat : Int), .int .u8 (a5.toNat : Int), .int .u8 (m0.toNat : Int), .int .u8 (m1.toNat : Int), .int .u8 (m2.toNat : Int), .int .u8 (m3.toNat : Int), .int .u8 (m4.toNat : Int), .int .u8 (m5.toNat : Int), .int .i64 t, .slice S n c] 27)
  have zf : w.heap.size < (w.alloc (.cells #[.int .u8 (a0.toNat : Int), .int .u8 (a1.toNat : Int), .int .u8 (a2.toNat : Int), .int .u8 (a3.toNat : Int), .int .u8 (a4.toNat : Int), .int .u8 (a5.toNat : Int), .int .u8 (m0.toNat : Int), .int .u8 (m1.toNat : Int), .int .u8 (m2.toNat : Int), .int .u8 (m3.toNat : Int), .int .u8 (m4.toNat : Int), .int .u8 (m5.toNat : Int), .int .i64 t, .slice S n c] 27)).heap.size := by simp
  replace bel := bel.alloc bel.size (.cells #[.int .u8 (a0.toNat : Int), .int .u8 (a1.toNat : Int), .int .u8 (a2.toNat : Int), .int .u8 (a3.toNat : Int), .int .u8 (a4.toNat : Int), .int .u8 (a5.toNat : Int), .int .u8 (m0.toNat : Int), .int .u8 (m1.toNat : Int), .int .u8 (m2.toNat : Int), .int .u8 (m3.toNat : Int), .int .u8 (m4.toNat : Int), .int .u8 (m5.toNat : Int), .int .i64 t, .slice S n c] 27)
  have sl := hl.below bel
  clear hl
  go_enter Try.func5, Try.ntmps5
  go_wp2_with fail
  with_reducible refine (awake4 _).mono ?_
  rintro e w1 ⟨rfl, b1⟩
  replace sl := sl.below b1
  replace hf := (b1.block _ zf).trans hf
  replace zf := Nat.lt_of_lt_of_le zf b1.size
  replace bel := bel.trans (b1.mono bel.size)
  clear b1
  obtain ⟨⟨cf0, cf1, cf2, cf3, cf4, cf5, cf6, cf7, cf8, cf9, cf10, cf11, cf12, cf13⟩, _⟩ := cells14 hf
  go_wp2_with fail
  with_reducible refine (eput_ok a0 a1 a2 a3 a4 a5 m0 m1 m2 m3 m4 m5 t S n c l _ sl HN.out H0.out H1.out).mono ?_
  rintro e w2 ⟨A2, c2, rfl, s2, b2⟩
  clear cf0 cf1 cf2 cf3 cf4 cf5 cf6 cf7 cf8 cf9 cf10 cf11 cf12 cf13
  replace sl := sl.below b2
  replace hf := (b2.block _ zf).trans hf
  replace zf := Nat.lt_of_lt_of_le zf b2.size
  replace bel := bel.trans (b2.mono bel.size)
  clear b2
  go_wp2_with fail
  with_reducible refine (eget_two A2 (14 + n) c2 a0 a1 a2 a3 a4 a5 m0 m1 m2 m3 m4 m5 t l _ s2 (by have := HN.out; omega) H0.out H1.out).mono ?_
  rintro e w3 ⟨A3, c3, rfl, s3, b3⟩
  replace sl := sl.below b3
  clear s2
  rw [hll] at s3
  replace hf := (b3.block _ zf).trans hf
  replace zf := Nat.lt_of_lt_of_le zf b3.size
  replace bel := bel.trans (b3.mono bel.size)
  clear b3
  rw [hll]
  have bg := (Below.refl w3.heap.size w3).alloc (Nat.le_refl _) (.cells #[.int .u8 (a0.toNat : Int), .int .u8 (a1.toNat : Int), .int .u8 (a2.toNat : Int), .int .u8 (a3.toNat : Int), .int .u8 (a4.toNat : Int), .int .u8 (a5.toNat : Int), .int .u8 (m0.toNat : Int), .int .u8 (m1.toNat : Int), .int .u8 (m2.toNat : Int), .int .u8 (m3.toNat : Int), .int .u8 (m4.toNat : Int), .int .u8 (m5.toNat : Int), .int .i64 t, .slice A3 n c3] 27)
  replace sl := sl.below bg
  replace s3 := s3.below bg
  clear bg
  have yf := zf
  replace hf := (Go.heap_alloc_old w3 (.cells #[.int .u8 (a0.toNat : Int), .int .u8 (a1.toNat : Int), .int .u8 (a2.toNat : Int), .int .u8 (a3.toNat : Int), .int .u8 (a4.toNat : Int), .int .u8 (a5.toNat : Int), .int .u8 (m0.toNat : Int), .int .u8 (m1.toNat : Int), .int .u8 (m2.toNat : Int), .int .u8 (m3.toNat : Int), .int .u8 (m4.toNat : Int), .int .u8 (m5.toNat : Int), .int .i64 t, .slice A3 n c3] 27) (r := w.heap.size) zf).trans hf
  have hg := heap_alloc_new w3 (.cells #[.int .u8 (a0.toNat : Int), .int .u8 (a1.toNat : Int), .int .u8 (a2.toNat : Int), .int .u8 (a3.toNat : Int), .int .u8 (a4.toNat : Int), .int .u8 (a5.toNat : Int), .int .u8 (m0.toNat : Int), .int .u8 (m1.toNat : Int), .int .u8 (m2.toNat : Int), .int .u8 (m3.toNat : Int), .int .u8 (m4.toNat : Int), .int .u8 (m5.toNat : Int), .int .i64 t, .slice A3 n c3] 27)
  replace zf := Nat.lt_trans zf (show w3.heap.size < (w3.alloc (.cells #[.int .u8 (a0.toNat : Int), .int .u8 (a1.toNat : Int), .int .u8 (a2.toNat : Int), .int .u8 (a3.toNat : Int), .int .u8 (a4.toNat : Int), .int .u8 (a5.toNat : Int), .int .u8 (m0.toNat : Int), .int .u8 (m1.toNat : Int), .int .u8 (m2.toNat : Int), .int .u8 (m3.toNat : Int), .int .u8 (m4.toNat : Int), .int .u8 (m5.toNat : Int), .int .i64 t, .slice A3 n c3] 27)).heap.size by simp)
  have zg : w3.heap.size < (w3.alloc (.cells #[.int .u8 (a0.toNat : Int), .int .u8 (a1.toNat : Int), .int .u8 (a2.toNat : Int), .int .u8 (a3.toNat : Int), .int .u8 (a4.toNat : Int), .int .u8 (a5.toNat : Int), .int .u8 (m0.toNat : Int), .int .u8 (m1.toNat : Int), .int .u8 (m2.toNat : Int), .int .u8 (m3.toNat : Int), .int .u8 (m4.toNat : Int), .int .u8 (m5.toNat : Int), .int .i64 t, .slice A3 n c3] 27)).heap.size := by simp
  replace bel := bel.alloc bel.size (.cells #[.int .u8 (a0.toNat : Int), .int .u8 (a1.toNat : Int), .int .u8 (a2.toNat : Int), .int .u8 (a3.toNat : Int), .int .u8 (a4.toNat : Int), .int .u8 (a5.toNat : Int), .int .u8 (m0.toNat : Int), .int .u8 (m1.toNat : Int), .int .u8 (m2.toNat : Int), .int .u8 (m3.toNat : Int), .int .u8 (m4.toNat : Int), .int .u8 (m5.toNat : Int), .int .i64 t, .slice A3 n c3] 27)
  go_wp2_with fail
  clear yf
  generalize (w3.alloc (.cells #[.int .u8 (a0.toNat : Int), .int .u8 (a1.toNat : Int), .int .u8 (a2.toNat : Int), .int .u8 (a3.toNat : Int), .int .u8 (a4.toNat : Int), .int .u8 (a5.toNat : Int), .int .u8 (m0.toNat : Int), .int .u8 (m1.toNat : Int), .int .u8 (m2.toNat : Int), .int .u8 (m3.toNat : Int), .int .u8 (m4.toNat : Int), .int .u8 (m5.toNat : Int), .int .i64 t, .slice A3 n c3] 27)) = v0 at sl s3 hf zf hg zg bel ⊢
  obtain ⟨⟨cf0, cf1, cf2, cf3, cf4, cf5, cf6, cf7, cf8, cf9, cf10, cf11, cf12, cf13⟩, _⟩ := cells14 hf
  obtain ⟨⟨cg0, cg1, cg2, cg3, cg4, cg5, cg6, cg7, cg8, cg9, cg10, cg11, cg12, cg13⟩, _⟩ := cells14 hg
  clear hf hg t1 t2 t3
  have e14 : IntKind.i64.wrap (14 + (n : Int)) = 14 + n := by rw [IntKind.wrap_i64]; have := HN.out; omega
  refine wp_region_held_drew (S := fun W => W.cell? ⟨w.heap.size, 0, none⟩ = some (.int .u8 (a0.toNat : Int)) ∧ W.cell? ⟨w.heap.size, 1, none⟩ = some (.int .u8 (a1.toNat : Int)) ∧ W.cell? ⟨w.heap.size, 2, none⟩ = some (.int .u8 (a2.toNat : Int)) ∧ W.cell? ⟨w.heap.size, 3, none⟩ = some (.int .u8 (a3.toNat : Int)) ∧ W.cell? ⟨w.heap.size, 4, none⟩ = some (.int .u8 (a4.toNat : Int)) ∧ W.cell? ⟨w.heap.size, 5, none⟩ = some (.int .u8 (a5.toNat : Int)) ∧ W.cell? ⟨w.heap.size, 6, none⟩ = some (.int .u8 (m0.toNat : Int)) ∧ W.cell? ⟨w.heap.size, 7, none⟩ = some (.int .u8 (m1.toNat : Int)) ∧ W.cell? ⟨w.heap.size, 8, none⟩ = some (.int .u8 (m2.toNat : Int)) ∧ W.cell? ⟨w.heap.size, 9, none⟩ = some (.int .u8 (m3.toNat : Int)) ∧ W.cell? ⟨w.heap.size, 10, none⟩ = some (.int .u8 (m4.toNat : Int)) ∧ W.cell? ⟨w.heap.size, 11, none⟩ = some (.int .u8 (m5.toNat : Int)) ∧ W.cell? ⟨w.heap.size, 12, none⟩ = some (.int .i64 t) ∧ W.cell? ⟨w.heap.size, 13, none⟩ = some (.slice S n c) ∧ W.cell? ⟨w3.heap.size, 0, none⟩ = some (.int .u8 (a0.toNat : Int)) ∧ W.cell? ⟨w3.heap.size, 1, none⟩ = some (.int .u8 (a1.toNat : Int)) ∧ W.cell? ⟨w3.heap.size, 2, none⟩ = some (.int .u8 (a2.toNat : Int)) ∧ W.cell? ⟨w3.heap.size, 3, none⟩ = some (.int .u8 (a3.toNat : Int)) ∧ W.cell? ⟨w3.heap.size, 4, none⟩ = some (.int .u8 (a4.toNat : Int)) ∧ W.cell? ⟨w3.heap.size, 5, none⟩ = some (.int .u8 (a5.toNat : Int)) ∧ W.cell? ⟨w3.heap.size, 6, none⟩ = some (.int .u8 (m0.toNat : Int)) ∧ W.cell? ⟨w3.heap.size, 7, none⟩ = some (.int .u8 (m1.toNat : Int)) ∧ W.cell? ⟨w3.heap.size, 8, none⟩ = some (.int .u8 (m2.toNat : Int)) ∧ W.cell? ⟨w3.heap.size, 9, none⟩ = some (.int .u8 (m3.toNat : Int)) ∧ W.cell? ⟨w3.heap.size, 10, none⟩ = some (.int .u8 (m4.toNat : Int)) ∧ W.cell? ⟨w3.heap.size, 11, none⟩ = some (.int .u8 (m5.toNat : Int)) ∧ W.cell? ⟨w3.heap.size, 12, none⟩ = some (.int .i64 t) ∧ W.cell? ⟨w3.heap.size, 13, none⟩ = some (.slice A3 n c3) ∧ Sl W (S) (n) (c) (l) ∧ Sl W (A3) (n) (c3) (l)) (by kernel_rfl) ⟨cf0, cf1, cf2, cf3, cf4, cf5, cf6, cf7, cf8, cf9, cf10, cf11, cf12, cf13, cg0, cg1, cg2, cg3, cg4, cg5, cg6, cg7, cg8, cg9, cg10, cg11, cg12, cg13, sl, s3⟩ (fun hH => ?_)
  refine wpAnyH_take (i := 0) (v := ?_) rfl (by kernel_rfl) (by kernel_rfl) (by kernel_rfl) (fun _ _ _ h => h) (Or.inl ⟨by rfl, ?_⟩) hH ?_
  rotate_left
  · ((intro W hW; obtain ⟨s0, s1, s2, s3, s4, s5, s6, s7, s8, s9, s10, s11, s12, s13, s14, s15, s16, s17, s18, s19, s20, s21, s22, s23, s24, s25, s26, s27, q0, q1⟩ := hW; clear q0 q1; go_simp) <;> with_reducible rfl)
  simp only [Act.put, List.getElem_toArray, List.getElem_cons_zero, List.setIfInBounds_toArray, List.set_cons_zero, List.set_cons_succ]
  refine wpAnyH_take (i := 1) (v := ?_) rfl (by kernel_rfl) (by kernel_rfl) (by kernel_rfl) (fun _ _ _ h => h) (Or.inl ⟨by rfl, ?_⟩) hH ?_
  rotate_left
  · ((intro W hW; obtain ⟨s0, s1, s2, s3, s4, s5, s6, s7, s8, s9, s10, s11, s12, s13, s14, s15, s16, s17, s18, s19, s20, s21, s22, s23, s24, s25, s26, s27, q0, q1⟩ := hW; clear q0 q1; go_simp) <;> with_reducible rfl)
  simp only [Act.put, List.getElem_toArray, List.getElem_cons_zero, List.getElem_cons_succ, List.setIfInBounds_toArray, List.set_cons_zero, List.set_cons_succ]
  refine wpAnyH_take (i := 2) (v := ?_) rfl (by kernel_rfl) (by kernel_rfl) (by kernel_rfl) (fun _ _ _ h => h) (Or.inl ⟨by rfl, ?_⟩) hH ?_
  rotate_left
  · ((intro W hW; obtain ⟨s0, s1, s2, s3, s4, s5, s6, s7, s8, s9, s10, s11, s12, s13, s14, s15, s16, s17, s18, s19, s20, s21, s22, s23, s24, s25, s26, s27, q0, q1⟩ := hW; clear q0 q1; go_simp) <;> with_reducible rfl)
  simp only [Act.put, List.getElem_toArray, List.getElem_cons_zero, List.getElem_cons_succ, List.setIfInBounds_toArray, List.set_cons_zero, List.set_cons_succ]
  refine wpAnyH_take (i := 3) (v := ?_) rfl (by kernel_rfl) (by kernel_rfl) (by kernel_rfl) (fun _ _ _ h => h) (Or.inl ⟨by rfl, ?_⟩) hH ?_
  rotate_left
  · ((intro W hW; obtain ⟨s0, s1, s2, s3, s4, s5, s6, s7, s8, s9, s10, s11, s12, s13, s14, s15, s16, s17, s18, s19, s20, s21, s22, s23, s24, s25, s26, s27, q0, q1⟩ := hW; clear q0 q1; go_simp) <;> with_reducible rfl)
  simp only [Act.put, List.getElem_toArray, List.getElem_cons_zero, List.getElem_cons_succ, List.setIfInBounds_toArray, List.set_cons_zero, List.set_cons_succ]
  refine wpAnyH_take (i := 4) (v := ?_) rfl (by kernel_rfl) (by kernel_rfl) (by kernel_rfl) (fun _ _ _ h => h) (Or.inl ⟨by rfl, ?_⟩) hH ?_
  rotate_left
  · ((intro W hW; obtain ⟨s0, s1, s2, s3, s4, s5, s6, s7, s8, s9, s10, s11, s12, s13, s14, s15, s16, s17, s18, s19, s20, s21, s22, s23, s24, s25, s26, s27, q0, q1⟩ := hW; clear q0 q1; go_simp) <;> with_reducible rfl)
  simp only [Act.put, List.getElem_toArray, List.getElem_cons_zero, List.getElem_cons_succ, List.setIfInBounds_toArray, List.set_cons_zero, List.set_cons_succ]
  refine wpAnyH_take (i := 5) (v := ?_) rfl (by kernel_rfl) (by kernel_rfl) (by kernel_rfl) (fun _ _ _ h => h) (Or.inl ⟨by rfl, ?_⟩) hH ?_
  rotate_left
  · ((intro W hW; obtain ⟨s0, s1, s2, s3, s4, s5, s6, s7, s8, s9, s10, s11, s12, s13, s14, s15, s16, s17, s18, s19, s20, s21, s22, s23, s24, s25, s26, s27, q0, q1⟩ := hW; clear q0 q1; go_simp) <;> with_reducible rfl)
  simp only [Act.put, List.getElem_toArray, List.getElem_cons_zero, List.getElem_cons_succ, List.setIfInBounds_toArray, List.set_cons_zero, List.set_cons_succ]
  refine wpAnyH_take (i := 6) (v := ?_) rfl (by kernel_rfl) (by kernel_rfl) (by kernel_rfl) (fun _ _ _ h => h) (Or.inl ⟨by rfl, ?_⟩) hH ?_
  rotate_left
  · ((intro W hW; obtain ⟨s0, s1, s2, s3, s4, s5, s6, s7, s8, s9, s10, s11, s12, s13, s14, s15, s16, s17, s18, s19, s20, s21, s22, s23, s24, s25, s26, s27, q0, q1⟩ := hW; clear q0 q1; go_simp) <;> with_reducible rfl)
  simp only [Act.put, List.getElem_toArray, List.getElem_cons_zero, List.getElem_cons_succ, List.setIfInBounds_toArray, List.set_cons_zero, List.set_cons_succ]
  refine wpAnyH_take (i := 7) (v := ?_) rfl (by kernel_rfl) (by kernel_rfl) (by kernel_rfl) (fun _ _ _ h => h) (Or.inl ⟨by rfl, ?_⟩) hH ?_
  rotate_left
  · ((intro W hW; obtain ⟨s0, s1, s2, s3, s4, s5, s6, s7, s8, s9, s10, s11, s12, s13, s14, s15, s16, s17, s18, s19, s20, s21, s22, s23, s24, s25, s26, s27, q0, q1⟩ := hW; clear q0 q1; go_simp) <;> with_reducible rfl)
  simp only [Act.put, List.getElem_toArray, List.getElem_cons_zero, List.getElem_cons_succ, List.setIfInBounds_toArray, List.set_cons_zero, List.set_cons_succ]
  refine wpAnyH_take (i := 8) (v := ?_) rfl (by kernel_rfl) (by kernel_rfl) (by kernel_rfl) (fun _ _ _ h => h) (Or.inl ⟨by rfl, ?_⟩) hH ?_
  rotate_left
  · ((intro W hW; obtain ⟨s0, s1, s2, s3, s4, s5, s6, s7, s8, s9, s10, s11, s12, s13, s14, s15, s16, s17, s18, s19, s20, s21, s22, s23, s24, s25, s26, s27, q0, q1⟩ := hW; clear q0 q1; go_simp) <;> with_reducible rfl)
  simp only [Act.put, List.getElem_toArray, List.getElem_cons_zero, List.getElem_cons_succ, List.setIfInBounds_toArray, List.set_cons_zero, List.set_cons_succ]
  refine wpAnyH_ready (rs := [9]) (by kernel_rfl) (by simp) ?_
  refine AllReadyH.cons (o := _) rfl (fun K hK => ?_) AllReadyH.nil
  simp only [List.getElem_toArray, List.getElem_cons_zero, List.getElem_cons_succ]
  go_simp
  with_reducible refine (own4_any a0 a1 a2 a3 a4 a5 m0 m1 m2 m3 m4 m5 t S n c _).mono ?_
  rintro e v11 ⟨rfl, b11⟩
  dsimp only
  have bel11 := bel.drew.trans (b11.mono bel.size)
  refine hK.out _ _ ⟨(b11.cell (p := ⟨_, 0, none⟩) zf).trans hH.1, (b11.cell (p := ⟨_, 1, none⟩) zf).trans hH.2.1, (b11.cell (p := ⟨_, 2, none⟩) zf).trans hH.2.2.1, (b11.cell (p := ⟨_, 3, none⟩) zf).trans hH.2.2.2.1, (b11.cell (p := ⟨_, 4, none⟩) zf).trans hH.2.2.2.2.1, (b11.cell (p := ⟨_, 5, none⟩) zf).trans hH.2.2.2.2.2.1, (b11.cell (p := ⟨_, 6, none⟩) zf).trans hH.2.2.2.2.2.2.1, (b11.cell (p := ⟨_, 7, none⟩) zf).trans hH.2.2.2.2.2.2.2.1, (b11.cell (p := ⟨_, 8, none⟩) zf).trans hH.2.2.2.2.2.2.2.2.1, (b11.cell (p := ⟨_, 9, none⟩) zf).trans hH.2.2.2.2.2.2.2.2.2.1, (b11.cell (p := ⟨_, 10, none⟩) zf).trans hH.2.2.2.2.2.2.2.2.2.2.1, (b11.cell (p := ⟨_, 11, none⟩) zf).trans hH.2.2.2.2.2.2.2.2.2.2.2.1, (b11.cell (p := ⟨_, 12, none⟩) zf).trans hH.2.2.2.2.2.2.2.2.2.2.2.2.1, (b11.cell (p := ⟨_, 13, none⟩) zf).trans hH.2.2.2.2.2.2.2.2.2.2.2.2.2.1, (b11.cell (p := ⟨_, 0, none⟩) zg).trans hH.2.2.2.2.2.2.2.2.2.2.2.2.2.2.1, (b11.cell (p := ⟨_, 1, none⟩) zg).trans hH.2.2.2.2.2.2.2.2.2.2.2.2.2.2.2.1, (b11.cell (p := ⟨_, 2, none⟩) zg).trans hH.2.2.2.2.2.2.2.2.2.2.2.2.2.2.2.2.1, (b11.cell (p := ⟨_, 3, none⟩) zg).trans hH.2.2.2.2.2.2.2.2.2.2.2.2.2.2.2.2.2.1, (b11.cell (p := ⟨_, 4, none⟩) zg).trans hH.2.2.2.2.2.2.2.2.2.2.2.2.2.2.2.2.2.2.1, (b11.cell (p := ⟨_, 5, none⟩) zg).trans hH.2.2.2.2.2.2.2.2.2.2.2.2.2.2.2.2.2.2.2.1, (b11.cell (p := ⟨_, 6, none⟩) zg).trans hH.2.2.2.2.2.2.2.2.2.2.2.2.2.2.2.2.2.2.2.2.1, (b11.cell (p := ⟨_, 7, none⟩) zg).trans hH.2.2.2.2.2.2.2.2.2.2.2.2.2.2.2.2.2.2.2.2.2.1, (b11.cell (p := ⟨_, 8, none⟩) zg).trans hH.2.2.2.2.2.2.2.2.2.2.2.2.2.2.2.2.2.2.2.2.2.2.1, (b11.cell (p := ⟨_, 9, none⟩) zg).trans hH.2.2.2.2.2.2.2.2.2.2.2.2.2.2.2.2.2.2.2.2.2.2.2.1, (b11.cell (p := ⟨_, 10, none⟩) zg).trans hH.2.2.2.2.2.2.2.2.2.2.2.2.2.2.2.2.2.2.2.2.2.2.2.2.1, (b11.cell (p := ⟨_, 11, none⟩) zg).trans hH.2.2.2.2.2.2.2.2.2.2.2.2.2.2.2.2.2.2.2.2.2.2.2.2.2.1, (b11.cell (p := ⟨_, 12, none⟩) zg).trans hH.2.2.2.2.2.2.2.2.2.2.2.2.2.2.2.2.2.2.2.2.2.2.2.2.2.2.1, (b11.cell (p := ⟨_, 13, none⟩) zg).trans hH.2.2.2.2.2.2.2.2.2.2.2.2.2.2.2.2.2.2.2.2.2.2.2.2.2.2.2.1, (hH.2.2.2.2.2.2.2.2.2.2.2.2.2.2.2.2.2.2.2.2.2.2.2.2.2.2.2.2.1).below b11, (hH.2.2.2.2.2.2.2.2.2.2.2.2.2.2.2.2.2.2.2.2.2.2.2.2.2.2.2.2.2).below b11⟩ (fun hH11 => ?_)
  clear hK K
  replace zf := Nat.lt_of_lt_of_le zf b11.size
  replace zg := Nat.lt_of_lt_of_le zg b11.size
  refine wpAnyH_ready (rs := [10]) (by kernel_rfl) (by simp) ?_
  refine AllReadyH.cons (o := _) rfl (fun K hK => ?_) AllReadyH.nil
  simp only [List.getElem_toArray, List.getElem_cons_zero, List.getElem_cons_succ]
  go_simp
  with_reducible refine (same4_true a0 a1 a2 a3 a4 a5 m0 m1 m2 m3 m4 m5 t A3 n c3 S c l _ (hH11.2.2.2.2.2.2.2.2.2.2.2.2.2.2.2.2.2.2.2.2.2.2.2.2.2.2.2.2.2) (hH11.2.2.2.2.2.2.2.2.2.2.2.2.2.2.2.2.2.2.2.2.2.2.2.2.2.2.2.2.1)).mono ?_
  rintro e v12 ⟨rfl, b12⟩
  dsimp only
  have bel12 := bel11.trans (b12.mono bel11.size)
  refine hK.out _ _ ⟨(b12.cell (p := ⟨_, 0, none⟩) zf).trans hH11.1, (b12.cell (p := ⟨_, 1, none⟩) zf).trans hH11.2.1, (b12.cell (p := ⟨_, 2, none⟩) zf).trans hH11.2.2.1, (b12.cell (p := ⟨_, 3, none⟩) zf).trans hH11.2.2.2.1, (b12.cell (p := ⟨_, 4, none⟩) zf).trans hH11.2.2.2.2.1, (b12.cell (p := ⟨_, 5, none⟩) zf).trans hH11.2.2.2.2.2.1, (b12.cell (p := ⟨_, 6, none⟩) zf).trans hH11.2.2.2.2.2.2.1, (b12.cell (p := ⟨_, 7, none⟩) zf).trans hH11.2.2.2.2.2.2.2.1, (b12.cell (p := ⟨_, 8, none⟩) zf).trans hH11.2.2.2.2.2.2.2.2.1, (b12.cell (p := ⟨_, 9, none⟩) zf).trans hH11.2.2.2.2.2.2.2.2.2.1, (b12.cell (p := ⟨_, 10, none⟩) zf).trans hH11.2.2.2.2.2.2.2.2.2.2.1, (b12.cell (p := ⟨_, 11, none⟩) zf).trans hH11.2.2.2.2.2.2.2.2.2.2.2.1, (b12.cell (p := ⟨_, 12, none⟩) zf).trans hH11.2.2.2.2.2.2.2.2.2.2.2.2.1, (b12.cell (p := ⟨_, 13, none⟩) zf).trans hH11.2.2.2.2.2.2.2.2.2.2.2.2.2.1, (b12.cell (p := ⟨_, 0, none⟩) zg).trans hH11.2.2.2.2.2.2.2.2.2.2.2.2.2.2.1, (b12.cell (p := ⟨_, 1, none⟩) zg).trans hH11.2.2.2.2.2.2.2.2.2.2.2.2.2.2.2.1, (b12.cell (p := ⟨_, 2, none⟩) zg).trans hH11.2.2.2.2.2.2.2.2.2.2.2.2.2.2.2.2.1, (b12.cell (p := ⟨_, 3, none⟩) zg).trans hH11.2.2.2.2.2.2.2.2.2.2.2.2.2.2.2.2.2.1, (b12.cell (p := ⟨_, 4, none⟩) zg).trans hH11.2.2.2.2.2.2.2.2.2.2.2.2.2.2.2.2.2.2.1, (b12.cell (p := ⟨_, 5, none⟩) zg).trans hH11.2.2.2.2.2.2.2.2.2.2.2.2.2.2.2.2.2.2.2.1, (b12.cell (p := ⟨_, 6, none⟩) zg).trans hH11.2.2.2.2.2.2.2.2.2.2.2.2.2.2.2.2.2.2.2.2.1, (b12.cell (p := ⟨_, 7, none⟩) zg).trans hH11.2.2.2.2.2.2.2.2.2.2.2.2.2.2.2.2.2.2.2.2.2.1, (b12.cell (p := ⟨_, 8, none⟩) zg).trans hH11.2.2.2.2.2.2.2.2.2.2.2.2.2.2.2.2.2.2.2.2.2.2.1, (b12.cell (p := ⟨_, 9, none⟩) zg).trans hH11.2.2.2.2.2.2.2.2.2.2.2.2.2.2.2.2.2.2.2.2.2.2.2.1, (b12.cell (p := ⟨_, 10, none⟩) zg).trans hH11.2.2.2.2.2.2.2.2.2.2.2.2.2.2.2.2.2.2.2.2.2.2.2.2.1, (b12.cell (p := ⟨_, 11, none⟩) zg).trans hH11.2.2.2.2.2.2.2.2.2.2.2.2.2.2.2.2.2.2.2.2.2.2.2.2.2.1, (b12.cell (p := ⟨_, 12, none⟩) zg).trans hH11.2.2.2.2.2.2.2.2.2.2.2.2.2.2.2.2.2.2.2.2.2.2.2.2.2.2.1, (b12.cell (p := ⟨_, 13, none⟩) zg).trans hH11.2.2.2.2.2.2.2.2.2.2.2.2.2.2.2.2.2.2.2.2.2.2.2.2.2.2.2.1, (hH11.2.2.2.2.2.2.2.2.2.2.2.2.2.2.2.2.2.2.2.2.2.2.2.2.2.2.2.2.1).below b12, (hH11.2.2.2.2.2.2.2.2.2.2.2.2.2.2.2.2.2.2.2.2.2.2.2.2.2.2.2.2.2).below b12⟩ (fun hH12 => ?_)
  clear hK K
  replace zf := Nat.lt_of_lt_of_le zf b12.size
  replace zg := Nat.lt_of_lt_of_le zg b12.size
  refine wpAnyH_take (i := 11) (v := ?_) rfl (by kernel_rfl) (by kernel_rfl) (by kernel_rfl) (fun _ _ _ h => h) (Or.inl ⟨by rfl, ?_⟩) hH12 ?_
  rotate_left
  · ((intro W hW; obtain ⟨s0, s1, s2, s3, s4, s5, s6, s7, s8, s9, s10, s11, s12, s13, s14, s15, s16, s17, s18, s19, s20, s21, s22, s23, s24, s25, s26, s27, q0, q1⟩ := hW; clear q0 q1; go_simp) <;> with_reducible rfl)
  simp only [Act.put, List.getElem_toArray, List.getElem_cons_zero, List.getElem_cons_succ, List.setIfInBounds_toArray, List.set_cons_zero, List.set_cons_succ]
  refine wpAnyH_take (i := 12) (v := ?_) rfl (by kernel_rfl) (by kernel_rfl) (by kernel_rfl) (fun _ _ _ h => h) (Or.inl ⟨by rfl, ?_⟩) hH12 ?_
  rotate_left
  · ((intro W hW; obtain ⟨s0, s1, s2, s3, s4, s5, s6, s7, s8, s9, s10, s11, s12, s13, s14, s15, s16, s17, s18, s19, s20, s21, s22, s23, s24, s25, s26, s27, q0, q1⟩ := hW; clear q0 q1; go_simp) <;> with_reducible rfl)
  simp only [Act.put, List.getElem_toArray, List.getElem_cons_zero, List.getElem_cons_succ, List.setIfInBounds_toArray, List.set_cons_zero, List.set_cons_succ]
  refine wpAnyH_take (i := 13) (v := ?_) rfl (by kernel_rfl) (by kernel_rfl) (by kernel_rfl) (fun _ _ _ h => h) (Or.inl ⟨by rfl, ?_⟩) hH12 ?_
  rotate_left
  · ((intro W hW; obtain ⟨s0, s1, s2, s3, s4, s5, s6, s7, s8, s9, s10, s11, s12, s13, s14, s15, s16, s17, s18, s19, s20, s21, s22, s23, s24, s25, s26, s27, q0, q1⟩ := hW; clear q0 q1; go_simp) <;> with_reducible rfl)
  simp only [Act.put, List.getElem_toArray, List.getElem_cons_zero, List.getElem_cons_succ, List.setIfInBounds_toArray, List.set_cons_zero, List.set_cons_succ]
  refine wpAnyH_take (i := 14) (v := ?_) rfl (by kernel_rfl) (by kernel_rfl) (by kernel_rfl) (fun _ _ _ h => h) (Or.inl ⟨by rfl, ?_⟩) hH12 ?_
  rotate_left
  · ((intro W hW; obtain ⟨s0, s1, s2, s3, s4, s5, s6, s7, s8, s9, s10, s11, s12, s13, s14, s15, s16, s17, s18, s19, s20, s21, s22, s23, s24, s25, s26, s27, q0, q1⟩ := hW; clear q0 q1; go_simp) <;> with_reducible rfl)
  simp only [Act.put, List.getElem_toArray, List.getElem_cons_zero, List.getElem_cons_succ, List.setIfInBounds_toArray, List.set_cons_zero, List.set_cons_succ]
  refine wpAnyH_take (i := 15) (v := ?_) rfl (by kernel_rfl) (by kernel_rfl) (by kernel_rfl) (fun _ _ _ h => h) (Or.inl ⟨by rfl, ?_⟩) hH12 ?_
  rotate_left
  · ((intro W hW; obtain ⟨s0, s1, s2, s3, s4, s5, s6, s7, s8, s9, s10, s11, s12, s13, s14, s15, s16, s17, s18, s19, s20, s21, s22, s23, s24, s25, s26, s27, q0, q1⟩ := hW; clear q0 q1; go_simp) <;> with_reducible rfl)
  simp only [Act.put, List.getElem_toArray, List.getElem_cons_zero, List.getElem_cons_succ, List.setIfInBounds_toArray, List.set_cons_zero, List.set_cons_succ]
  refine wpAnyH_take (i := 16) (v := ?_) rfl (by kernel_rfl) (by kernel_rfl) (by kernel_rfl) (fun _ _ _ h => h) (Or.inl ⟨by rfl, ?_⟩) hH12 ?_
  rotate_left
  · ((intro W hW; obtain ⟨s0, s1, s2, s3, s4, s5, s6, s7, s8, s9, s10, s11, s12, s13, s14, s15, s16, s17, s18, s19, s20, s21, s22, s23, s24, s25, s26, s27, q0, q1⟩ := hW; clear q0 q1; go_simp) <;> with_reducible rfl)
  simp only [Act.put, List.getElem_toArray, List.getElem_cons_zero, List.getElem_cons_succ, List.setIfInBounds_toArray, List.set_cons_zero, List.set_cons_succ]
  refine wpAnyH_take (i := 17) (v := ?_) rfl (by kernel_rfl) (by kernel_rfl) (by kernel_rfl) (fun _ _ _ h => h) (Or.inl ⟨by rfl, ?_⟩) hH12 ?_
  rotate_left
  · ((intro W hW; obtain ⟨s0, s1, s2, s3, s4, s5, s6, s7, s8, s9, s10, s11, s12, s13, s14, s15, s16, s17, s18, s19, s20, s21, s22, s23, s24, s25, s26, s27, q0, q1⟩ := hW; clear q0 q1; go_simp) <;> with_reducible rfl)
  simp only [Act.put, List.getElem_toArray, List.getElem_cons_zero, List.getElem_cons_succ, List.setIfInBounds_toArray, List.set_cons_zero, List.set_cons_succ]
  refine wpAnyH_take (i := 18) (v := ?_) rfl (by kernel_rfl) (by kernel_rfl) (by kernel_rfl) (fun _ _ _ h => h) (Or.inl ⟨by rfl, ?_⟩) hH12 ?_
  rotate_left
  · ((intro W hW; obtain ⟨s0, s1, s2, s3, s4, s5, s6, s7, s8, s9, s10, s11, s12, s13, s14, s15, s16, s17, s18, s19, s20, s21, s22, s23, s24, s25, s26, s27, q0, q1⟩ := hW; clear q0 q1; go_simp) <;> with_reducible rfl)
  simp only [Act.put, List.getElem_toArray, List.getElem_cons_zero, List.getElem_cons_succ, List.setIfInBounds_toArray, List.set_cons_zero, List.set_cons_succ]
  refine wpAnyH_take (i := 19) (v := ?_) rfl (by kernel_rfl) (by kernel_rfl) (by kernel_rfl) (fun _ _ _ h => h) (Or.inl ⟨by rfl, ?_⟩) hH12 ?_
  rotate_left
  · ((intro W hW; obtain ⟨s0, s1, s2, s3, s4, s5, s6, s7, s8, s9, s10, s11, s12, s13, s14, s15, s16, s17, s18, s19, s20, s21, s22, s23, s24, s25, s26, s27, q0, q1⟩ := hW; clear q0 q1; go_simp) <;> with_reducible rfl)
  simp only [Act.put, List.getElem_toArray, List.getElem_cons_zero, List.getElem_cons_succ, List.setIfInBounds_toArray, List.set_cons_zero, List.set_cons_succ]
  refine wpAnyH_take (i := 20) (v := ?_) rfl (by kernel_rfl) (by kernel_rfl) (by kernel_rfl) (fun _ _ _ h => h) (Or.inl ⟨by rfl, ?_⟩) hH12 ?_
  rotate_left
  · ((intro W hW; obtain ⟨s0, s1, s2, s3, s4, s5, s6, s7, s8, s9, s10, s11, s12, s13, s14, s15, s16, s17, s18, s19, s20, s21, s22, s23, s24, s25, s26, s27, q0, q1⟩ := hW; clear q0 q1; go_simp) <;> with_reducible rfl)
  simp only [Act.put, List.getElem_toArray, List.getElem_cons_zero, List.getElem_cons_succ, List.setIfInBounds_toArray, List.set_cons_zero, List.set_cons_succ]
  refine wpAnyH_take (i := 21) (v := ?_) rfl (by kernel_rfl) (by kernel_rfl) (by kernel_rfl) (fun _ _ _ h => h) (Or.inl ⟨by rfl, ?_⟩) hH12 ?_
  rotate_left
  · ((intro W hW; obtain ⟨s0, s1, s2, s3, s4, s5, s6, s7, s8, s9, s10, s11, s12, s13, s14, s15, s16, s17, s18, s19, s20, s21, s22, s23, s24, s25, s26, s27, q0, q1⟩ := hW; clear q0 q1; go_simp) <;> with_reducible rfl)
  simp only [Act.put, List.getElem_toArray, List.getElem_cons_zero, List.getElem_cons_succ, List.setIfInBounds_toArray, List.set_cons_zero, List.set_cons_succ]
  refine wpAnyH_done (by kernel_rfl) ?_ _
  go_wp2
  go_ret
  exact ⟨rfl, bel12⟩

theorem etherBack_walk (a0 a1 a2 a3 a4 a5 m0 m1 m2 m3 m4 m5 : UInt8) (t : Int) (S : Option Addr) (n c : Nat) (l : List UInt8) (w : World) (hl : Sl w S n c l) : Calls Try.prog 5 #[.agg #[.int .u8 (a0.toNat : Int), .int .u8 (a1.toNat : Int), .int .u8 (a2.toNat : Int), .int .u8 (a3.toNat : Int), .int .u8 (a4.toNat : Int), .int .u8 (a5.toNat : Int), .int .u8 (m0.toNat : Int), .int .u8 (m1.toNat : Int), .int .u8 (m2.toNat : Int), .int .u8 (m3.toNat : Int), .int .u8 (m4.toNat : Int), .int .u8 (m5.toNat : Int), .int .i64 t, .slice S n c]] w fun e w' => e = .returned (.bool true) ∧ Below w.heap.size w w' := by
  by_cases h : 1500 < n
  · exact etherBack_long a0 a1 a2 a3 a4 a5 m0 m1 m2 m3 m4 m5 t S n c w h
  by_cases h0 : t < 0
  · exact etherBack_neg a0 a1 a2 a3 a4 a5 m0 m1 m2 m3 m4 m5 t S n c w (by omega) h0
  by_cases h1 : 65535 < t
  · exact etherBack_big a0 a1 a2 a3 a4 a5 m0 m1 m2 m3 m4 m5 t S n c w (by omega) h1
  · exact etherBack_in a0 a1 a2 a3 a4 a5 m0 m1 m2 m3 m4 m5 t S n c l w hl (by omega) (by omega) (by omega)
end Go.Proofs.Ytgaobeoddlmnjaa
