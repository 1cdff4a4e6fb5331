/- The contract of ether's Get. -/
import Derived.Test.YtgaobeoddlmnjaaRdf
import Derived.Test.YtgaobeoddlmnjaaEth2
namespace Go.Proofs.Ytgaobeoddlmnjaa
open Go.RowKit

/-- A frame of no bytes. -/
abbrev frame0 : Value := .agg #[.int .u8 0, .int .u8 0, .int .u8 0, .int .u8 0, .int .u8 0, .int .u8 0, .int .u8 0, .int .u8 0, .int .u8 0, .int .u8 0, .int .u8 0, .int .u8 0, .int .i64 0, .slice none 0 0]
theorem emac6 (g : Nat) (a0 a1 a2 a3 a4 a5 : UInt8) (r : List UInt8) (s : Bool) (w : World) (hr : Rd w 56 g (a0 :: a1 :: a2 :: a3 :: a4 :: a5 :: r) s) :
    Calls Try.prog 21 #[.pointer (some ⟨g, 0, none⟩)] w fun e w' => e = .returned (.agg #[.int .u8 (a0.toNat : Int), .int .u8 (a1.toNat : Int), .int .u8 (a2.toNat : Int), .int .u8 (a3.toNat : Int), .int .u8 (a4.toNat : Int), .int .u8 (a5.toNat : Int)]) ∧ Rd w' 56 g r s ∧ w.grownBy w' (some g) :=
  emac_any g [a0, a1, a2, a3, a4, a5] r s w hr rfl
theorem u16_two (g : Nat) (x y : UInt8) (r : List UInt8) (s : Bool) (w : World) (hr : Rd w 56 g (x :: y :: r) s) :
    Calls Try.prog 22 #[.pointer (some ⟨g, 0, none⟩)] w fun e w' => e = .returned (.int .i64 (be [x, y] : Nat)) ∧ Rd w' 56 g r s ∧ w.grownBy w' (some g) :=
  u16_yes g (x :: y :: r) s w hr (by simp)

set_option maxRecDepth 100000 in
theorem eget_long (A : Option Addr) (n c : Nat) (w : World) (h : 1514 < n) : Calls Try.prog 9 #[.slice A n c] w fun e w' => e = .returned (.tuple #[frame0, .int .i64 2]) ∧ Below w.heap.size w w' := by
  have h0 := heap_alloc_new w (.cells #[.int .u8 0, .int .u8 0, .int .u8 0, .int .u8 0, .int .u8 0, .int .u8 0, .int .u8 0, .int .u8 0, .int .u8 0, .int .u8 0, .int .u8 0, .int .u8 0, .int .i64 0, .slice none 0 0] 27)
  have bel := (Below.refl w.heap.size w).alloc (Nat.le_refl _) (.cells #[.int .u8 0, .int .u8 0, .int .u8 0, .int .u8 0, .int .u8 0, .int .u8 0, .int .u8 0, .int .u8 0, .int .u8 0, .int .u8 0, .int .u8 0, .int .u8 0, .int .i64 0, .slice none 0 0] 27)
  have h1 : (1514 : Int) < n := by omega
  clear h
  go_enter Try.func9, Try.ntmps9
  go_wp2
  obtain ⟨⟨k0, k1, k2, k3, k4, k5, k6, k7, k8, k9, k10, k11, k12, k13⟩, _⟩ := cells14 h0
  exact bodyPost_ret (v := .tuple #[frame0, .int .i64 2]) (by simp [results, Try.results9, go_sem, k0, k1, k2, k3, k4, k5, k6, k7, k8, k9, k10, k11, k12, k13]) rfl ⟨rfl, bel⟩
set_option maxRecDepth 100000 in
theorem eget_short (A : Option Addr) (n c : Nat) (w : World) (h : n < 14) : Calls Try.prog 9 #[.slice A n c] w fun e w' => e = .returned (.tuple #[frame0, .int .i64 3]) ∧ Below w.heap.size w w' := by
  have h0 := heap_alloc_new w (.cells #[.int .u8 0, .int .u8 0, .int .u8 0, .int .u8 0, .int .u8 0, .int .u8 0, .int .u8 0, .int .u8 0, .int .u8 0, .int .u8 0, .int .u8 0, .int .u8 0, .int .i64 0, .slice none 0 0] 27)
  have bel := (Below.refl w.heap.size w).alloc (Nat.le_refl _) (.cells #[.int .u8 0, .int .u8 0, .int .u8 0, .int .u8 0, .int .u8 0, .int .u8 0, .int .u8 0, .int .u8 0, .int .u8 0, .int .u8 0, .int .u8 0, .int .u8 0, .int .i64 0, .slice none 0 0] 27)
  have h1 : decide ((1514 : Int) < n) = false := decide_eq_false (by omega)
  have h2 : (n : Int) < 14 := by omega
  clear h
  go_enter Try.func9, Try.ntmps9
  go_wp2
  obtain ⟨⟨k0, k1, k2, k3, k4, k5, k6, k7, k8, k9, k10, k11, k12, k13⟩, _⟩ := cells14 h0
  exact bodyPost_ret (v := .tuple #[frame0, .int .i64 3]) (by simp [results, Try.results9, go_sem, k0, k1, k2, k3, k4, k5, k6, k7, k8, k9, k10, k11, k12, k13]) rfl ⟨rfl, bel⟩

set_option maxRecDepth 100000 in
set_option maxHeartbeats 4000000 in
theorem eget_ok (A : Option Addr) (n c : Nat) (a0 a1 a2 a3 a4 a5 b0 b1 b2 b3 b4 b5 x y : UInt8) (r : List UInt8) (w : World) (hl : Sl w A n c (a0 :: a1 :: a2 :: a3 :: a4 :: a5 :: b0 :: b1 :: b2 :: b3 :: b4 :: b5 :: x :: y :: r)) (hn : n ≤ 1514) :
    Calls Try.prog 9 #[.slice A n c] w fun e w' => ∃ A' c', e = .returned (.tuple #[.agg #[.int .u8 (a0.toNat : Int), .int .u8 (a1.toNat : Int), .int .u8 (a2.toNat : Int), .int .u8 (a3.toNat : Int), .int .u8 (a4.toNat : Int), .int .u8 (a5.toNat : Int), .int .u8 (b0.toNat : Int), .int .u8 (b1.toNat : Int), .int .u8 (b2.toNat : Int), .int .u8 (b3.toNat : Int), .int .u8 (b4.toNat : Int), .int .u8 (b5.toNat : Int), .int .i64 (be [x, y] : Nat), .slice A' r.length c'], .int .i64 0]) ∧ Sl w' A' r.length c' r ∧ Below w.heap.size w w' := by
  have hlen : n = 14 + r.length := by have := hl.1; simp at this; omega
  have t1 : decide ((1514 : Int) < n) = false := decide_eq_false (by omega)
  have t2 : decide ((n : Int) < 14) = false := decide_eq_false (by omega)
  have HN := Lib.hid hn
  have HLEN := Lib.hid hlen
  have hp := heap_alloc_new w (.cells #[.int .u8 0, .int .u8 0, .int .u8 0, .int .u8 0, .int .u8 0, .int .u8 0, .int .u8 0, .int .u8 0, .int .u8 0, .int .u8 0, .int .u8 0, .int .u8 0, .int .i64 0, .slice none 0 0] 27)
  have bel := (Below.refl w.heap.size w).alloc (Nat.le_refl _) (.cells #[.int .u8 0, .int .u8 0, .int .u8 0, .int .u8 0, .int .u8 0, .int .u8 0, .int .u8 0, .int .u8 0, .int .u8 0, .int .u8 0, .int .u8 0, .int .u8 0, .int .i64 0, .slice none 0 0] 27)
  have zp : w.heap.size < (w.alloc (.cells #[.int .u8 0, .int .u8 0, .int .u8 0, .int .u8 0, .int .u8 0, .int .u8 0, .int .u8 0, .int .u8 0, .int .u8 0, .int .u8 0, .int .u8 0, .int .u8 0, .int .i64 0, .slice none 0 0] 27)).heap.size := by simp
  have hl1 := hl.below bel
  clear hl hn hlen
  go_enter Try.func9, Try.ntmps9
  go_wp2_with fail
  with_reducible refine (read_any A n c _ _ hl1 (by have := HN.out; omega)).mono ?_
  rintro e w1 ⟨g, rfl, hr, b1, hgs⟩
  have HG : Hid (w.heap.size < g) := Lib.hid (by simp at hgs; omega)
  replace hp := (b1.block _ zp).trans hp
  replace zp := Nat.lt_of_lt_of_le zp b1.size
  replace bel := bel.trans (b1.mono bel.size)
  clear b1 hgs hl1 t1 t2
  go_wp2_with fail
  with_reducible refine (emac6 g a0 a1 a2 a3 a4 a5 _ false _ hr).mono ?_
  rintro e w2 ⟨rfl, hr2, g2⟩
  replace hp := (g2.block w.heap.size zp (by have := HG.out; simp; omega)).trans hp
  replace zp := Nat.lt_of_lt_of_le zp g2.size
  replace bel := bel.grown g2 bel.size (fun k h => by cases h; exact Nat.le_of_lt HG.out)
  clear g2
  go_wp2_with fail
  with_reducible refine (emac6 g b0 b1 b2 b3 b4 b5 _ false _ hr2).mono ?_
  rintro e w3 ⟨rfl, hr3, g3⟩
  replace hp := (g3.block w.heap.size zp (by have := HG.out; simp; omega)).trans hp
  replace zp := Nat.lt_of_lt_of_le zp g3.size
  replace bel := bel.grown g3 bel.size (fun k h => by cases h; exact Nat.le_of_lt HG.out)
  clear g3
  go_wp2_with fail
  with_reducible refine (u16_two g x y r false _ hr3).mono ?_
  rintro e w4 ⟨rfl, hr4, g4⟩
  replace hp := (g4.block w.heap.size zp (by have := HG.out; simp; omega)).trans hp
  replace zp := Nat.lt_of_lt_of_le zp g4.size
  replace bel := bel.grown g4 bel.size (fun k h => by cases h; exact Nat.le_of_lt HG.out)
  clear g4
  obtain ⟨tt, htt⟩ : ∃ tt : Nat, Hid (be [x, y] = tt) := ⟨_, Lib.hid rfl⟩
  rw [htt.out]
  have hq := heap_alloc_new w4 (.cells #[.int .u8 (a0.toNat : Int), .int .u8 (a1.toNat : Int), .int .u8 (a2.toNat : Int), .int .u8 (a3.toNat : Int), .int .u8 (a4.toNat : Int), .int .u8 (a5.toNat : Int), .int .u8 (b0.toNat : Int), .int .u8 (b1.toNat : Int), .int .u8 (b2.toNat : Int), .int .u8 (b3.toNat : Int), .int .u8 (b4.toNat : Int), .int .u8 (b5.toNat : Int), .int .i64 (tt : Int), .slice none 0 0] 27)
  have bq := (Below.refl w4.heap.size w4).alloc (Nat.le_refl _) (.cells #[.int .u8 (a0.toNat : Int), .int .u8 (a1.toNat : Int), .int .u8 (a2.toNat : Int), .int .u8 (a3.toNat : Int), .int .u8 (a4.toNat : Int), .int .u8 (a5.toNat : Int), .int .u8 (b0.toNat : Int), .int .u8 (b1.toNat : Int), .int .u8 (b2.toNat : Int), .int .u8 (b3.toNat : Int), .int .u8 (b4.toNat : Int), .int .u8 (b5.toNat : Int), .int .i64 (tt : Int), .slice none 0 0] 27)
  have hr5 := hr4.below bq
  replace hp := (bq.block _ zp).trans hp
  have zq : w4.heap.size < (w4.alloc (.cells #[.int .u8 (a0.toNat : Int), .int .u8 (a1.toNat : Int), .int .u8 (a2.toNat : Int), .int .u8 (a3.toNat : Int), .int .u8 (a4.toNat : Int), .int .u8 (a5.toNat : Int), .int .u8 (b0.toNat : Int), .int .u8 (b1.toNat : Int), .int .u8 (b2.toNat : Int), .int .u8 (b3.toNat : Int), .int .u8 (b4.toNat : Int), .int .u8 (b5.toNat : Int), .int .i64 (tt : Int), .slice none 0 0] 27)).heap.size := by simp
  have zpq : Hid (w.heap.size < w4.heap.size) := Lib.hid zp
  replace zp := Nat.lt_of_lt_of_le zp bq.size
  replace bel := bel.trans (bq.mono bel.size)
  have HGQ : Hid (g < w4.heap.size) := Lib.hid hr4.lt
  clear bq hr4
  go_wp2_with fail
  with_reducible refine (left_any g r false _ hr5).mono ?_
  rintro e w5 ⟨rfl, rfl⟩
  go_wp2_with fail
  with_reducible refine (bytes_f g r false r.length _ hr5 (Nat.le_refl _) (by have := HN.out; have := HLEN.out; omega)).mono ?_
  rintro e w6 ⟨A', c', rfl, hs, _, g6, hf⟩
  rw [List.take_length] at hs
  have bel6 : Below w.heap.size w w6 := bel.grown g6 bel.size (fun k h => by cases h; exact Nat.le_of_lt HG.out)
  have hq6 := (g6.block w4.heap.size zq (by have := HGQ.out; simp; omega)).trans hq
  have hp6 := (g6.block w.heap.size zp (by have := HG.out; simp; omega)).trans hp
  have hneq : w.heap.size ≠ w4.heap.size := by have := zpq.out; omega
  have hfq : w4.heap.size < (w4.alloc (.cells #[.int .u8 (a0.toNat : Int), .int .u8 (a1.toNat : Int), .int .u8 (a2.toNat : Int), .int .u8 (a3.toNat : Int), .int .u8 (a4.toNat : Int), .int .u8 (a5.toNat : Int), .int .u8 (b0.toNat : Int), .int .u8 (b1.toNat : Int), .int .u8 (b2.toNat : Int), .int .u8 (b3.toNat : Int), .int .u8 (b4.toNat : Int), .int .u8 (b5.toNat : Int), .int .i64 (tt : Int), .slice none 0 0] 27)).heap.size := by simp
  clear bel hq hp g6 zq zp hr5
  obtain ⟨⟨q0, q1, q2, q3, q4, q5, q6, q7, q8, q9, q10, q11, q12, q13⟩, qf0, qf1, qf2, qf3, qf4, qf5, qf6, qf7, qf8, qf9, qf10, qf11, qf12, qf13⟩ := cells14 hq6
  obtain ⟨⟨p0, p1, p2, p3, p4, p5, p6, p7, p8, p9, p10, p11, p12, p13⟩, pf0, pf1, pf2, pf3, pf4, pf5, pf6, pf7, pf8, pf9, pf10, pf11, pf12, pf13⟩ := cells14 hp6
  have hp7 := (Below.heap_setCell w6 ⟨w4.heap.size, 13, none⟩ (.slice A' r.length c') w.heap.size hneq).trans hp6
  have bel7 := bel6.setCell (p := ⟨w4.heap.size, 13, none⟩) (Nat.le_of_lt zpq.out) (.slice A' r.length c')
  have hs7 := hs.setCell hf hfq 13 (.slice A' r.length c')
  have HP := Lib.hid hp7
  clear hp6 hq6 hp7 bel6 hs
  go_wp2
  have R := put14 (y0 := .int .u8 (a0.toNat : Int)) (y1 := .int .u8 (a1.toNat : Int)) (y2 := .int .u8 (a2.toNat : Int)) (y3 := .int .u8 (a3.toNat : Int)) (y4 := .int .u8 (a4.toNat : Int)) (y5 := .int .u8 (a5.toNat : Int)) (y6 := .int .u8 (b0.toNat : Int)) (y7 := .int .u8 (b1.toNat : Int)) (y8 := .int .u8 (b2.toNat : Int)) (y9 := .int .u8 (b3.toNat : Int)) (y10 := .int .u8 (b4.toNat : Int)) (y11 := .int .u8 (b5.toNat : Int)) (y12 := .int .i64 (tt : Int)) (y13 := .slice A' r.length c') HP.out
  obtain ⟨⟨k0, k1, k2, k3, k4, k5, k6, k7, k8, k9, k10, k11, k12, k13⟩, _⟩ := cells14 R
  clear R
  refine bodyPost_ret (v := .tuple #[.agg #[.int .u8 (a0.toNat : Int), .int .u8 (a1.toNat : Int), .int .u8 (a2.toNat : Int), .int .u8 (a3.toNat : Int), .int .u8 (a4.toNat : Int), .int .u8 (a5.toNat : Int), .int .u8 (b0.toNat : Int), .int .u8 (b1.toNat : Int), .int .u8 (b2.toNat : Int), .int .u8 (b3.toNat : Int), .int .u8 (b4.toNat : Int), .int .u8 (b5.toNat : Int), .int .i64 (be [x, y] : Nat), .slice A' r.length c'], .int .i64 0]) (by simp [results, Try.results9, go_sem, k0, k1, k2, k3, k4, k5, k6, k7, k8, k9, k10, k11, k12, k13, htt.out]) rfl ⟨A', c', rfl, ((((((((((((((hs7.setCell hf (Nat.lt_trans zpq.out hfq) _ _).setCell hf (Nat.lt_trans zpq.out hfq) _ _).setCell hf (Nat.lt_trans zpq.out hfq) _ _).setCell hf (Nat.lt_trans zpq.out hfq) _ _).setCell hf (Nat.lt_trans zpq.out hfq) _ _).setCell hf (Nat.lt_trans zpq.out hfq) _ _).setCell hf (Nat.lt_trans zpq.out hfq) _ _).setCell hf (Nat.lt_trans zpq.out hfq) _ _).setCell hf (Nat.lt_trans zpq.out hfq) _ _).setCell hf (Nat.lt_trans zpq.out hfq) _ _).setCell hf (Nat.lt_trans zpq.out hfq) _ _).setCell hf (Nat.lt_trans zpq.out hfq) _ _).setCell hf (Nat.lt_trans zpq.out hfq) _ _).setCell hf (Nat.lt_trans zpq.out hfq) _ _), bel14 _ _ _ _ _ _ _ _ _ _ _ _ _ _ bel7 (Nat.le_refl _)⟩
end Go.Proofs.Ytgaobeoddlmnjaa
