/- Layer 3: AddrMasks' walk. -/
import Derived.Test.YtppjnhjglhlpkaaDoorLaw3n
import Derived.BigRegion
namespace Go.Proofs.YtppjnhjglhlpkaaDoor
open Go.RowKit

theorem num_adr (f : Nat) (hf : f < 4294967296) (W : World) : Calls Tryd.prog 13 #[adr f] W fun e w' => e = .returned (.int .u32 (f : Int)) ∧ Below W.heap.size W w' := by
  obtain ⟨a, b, c, d, rfl⟩ := be_onto f hf
  rw [adr_be]
  exact anum_any a b c d W
theorem has_adr (a b c d : UInt8) (f : Nat) (hf : f < 4294967296) (bt : Int) (W : World) : Calls Tryd.prog 18 #[.agg #[.int .u8 (a.toNat : Int), .int .u8 (b.toNat : Int), .int .u8 (c.toNat : Int), .int .u8 (d.toNat : Int), .int .i64 bt], adr f] W fun e w' => e = .returned (.bool (firstN (be [a, b, c, d]) (clamp bt) == firstN f (clamp bt))) ∧ Below W.heap.size W w' := by
  obtain ⟨p1, p2, p3, p4, rfl⟩ := be_onto f hf
  rw [adr_be]
  exact ahas_any a b c d p1 p2 p3 p4 bt W
theorem u32_in {x : Int} (h0 : 0 ≤ x) (h1 : x < 4294967296) : IntKind.u32.wrap x = x := by simp [IntKind.wrap, IntKind.signed, IntKind.bits]; omega
theorem first_last (n m : Nat) : firstN n m + (2 ^ (32 - m) - 1) = lastN n m := rfl
theorem first_32 (n : Nat) : firstN n 32 = n := by simp [firstN]
theorem first_less (n k m : Nat) (hm : m ≤ 31) (h : firstN n (m + 1) = firstN k (m + 1)) : firstN n m = firstN k m := by
  rw [firstN_eq] at h ⊢
  have e : 32 - m = (32 - (m + 1)) + 1 := by omega
  rw [e, Nat.pow_succ, ← Nat.div_div_eq_div_mul, ← Nat.div_div_eq_div_mul, h]

set_option maxRecDepth 100000 in
set_option maxHeartbeats 16000000 in
theorem addrMasks_in (a b c d : UInt8) (m : Nat) (hm : m ≤ 31) (p1 p2 p3 p4 : UInt8) (w : World) (hT : Tab w) (hy : firstN (be [a, b, c, d]) (m + 1) = firstN (be [p1, p2, p3, p4]) (m + 1)) : Calls Tryd.prog 8 #[.agg #[.int .u8 (a.toNat : Int), .int .u8 (b.toNat : Int), .int .u8 (c.toNat : Int), .int .u8 (d.toNat : Int)], .int .i64 (m : Int), .agg #[.int .u8 (p1.toNat : Int), .int .u8 (p2.toNat : Int), .int .u8 (p3.toNat : Int), .int .u8 (p4.toNat : Int)]] w fun e w' => e = .returned (.bool true) ∧ Below w.heap.size w w' := by
  have bel := Below.refl w.heap.size w
  have HT := Lib.hid hT
  clear hT
  have hn := be_four_lt a b c d
  have hk := be_four_lt p1 p2 p3 p4
  have cm0 : clamp (m : Int) = m := by unfold clamp; rw [if_neg (by omega), if_neg (by omega)]; omega
  have cm1 : clamp ((m : Int) + 1) = m + 1 := by unfold clamp; rw [if_neg (by omega), if_neg (by omega)]; omega
  have cm2 : clamp 32 = 32 := by decide
  have H1 := fun W => ahas_any a b c d p1 p2 p3 p4 ((m : Int) + 1) W
  have H2 := fun W => ahas_any a b c d p1 p2 p3 p4 (m : Int) W
  have H3 := fun W => ahas_any a b c d p1 p2 p3 p4 32 W
  have H4 := fun W => alast_any a b c d ((m : Int) + 1) W
  have H5 := fun W => afirst_any a b c d ((m : Int) + 1) W
  have H6 := fun W => alast_any a b c d (m : Int) W
  have H7 := fun W => afirst_any a b c d (m : Int) W
  rw [cm0] at H2 H6 H7
  rw [cm1] at H1 H4 H5
  rw [cm2, first_32, first_32] at H3
  have e3 := fun W => eql4 [a, b, c, d] [p1, p2, p3, p4] rfl rfl W
  rw [show ([a, b, c, d] == [p1, p2, p3, p4]) = (be [a, b, c, d] == be [p1, p2, p3, p4]) by rw [Bool.eq_iff_iff, beq_iff_eq, beq_iff_eq]; exact (be_inj ..).symm] at e3
  have g3 := fun op x y W => guard4 op x y ([a, b, c, d].map u8v).toArray ([p1, p2, p3, p4].map u8v).toArray W
  simp only [List.map_cons, List.map_nil, u8v] at e3 g3
  rw [show (firstN (be [a, b, c, d]) (m + 1) == firstN (be [p1, p2, p3, p4]) (m + 1)) = true by simpa using hy] at H1
  rw [show (firstN (be [a, b, c, d]) m == firstN (be [p1, p2, p3, p4]) m) = true by simpa using first_less _ _ _ hm hy] at H2
  clear hy
  have fl0 := first_last (be [a, b, c, d]) m
  have fl1 := first_last (be [a, b, c, d]) (m + 1)
  have l0 := lastN_lt (be [a, b, c, d]) m (by omega) hn
  have l1 := lastN_lt (be [a, b, c, d]) (m + 1) (by omega) hn
  have N4 := fun W => num_adr (lastN (be [a, b, c, d]) (m + 1)) l1 W
  have N5 := fun W => num_adr (firstN (be [a, b, c, d]) (m + 1)) (by omega) W
  have N6 := fun W => num_adr (lastN (be [a, b, c, d]) m) l0 W
  have N7 := fun W => num_adr (firstN (be [a, b, c, d]) m) (by omega) W
  have pw : (2 : Nat) ^ (32 - m) = 2 * 2 ^ (32 - (m + 1)) := by rw [show 32 - m = (32 - (m + 1)) + 1 by omega, Nat.pow_succ]; omega
  have pq := Nat.two_pow_pos (32 - (m + 1))
  generalize (2 : Nat) ^ (32 - m) = P at fl0 pw
  generalize (2 : Nat) ^ (32 - (m + 1)) = Q at fl1 pw pq
  generalize adr (lastN (be [a, b, c, d]) (m + 1)) = v4 at H4 N4
  generalize adr (firstN (be [a, b, c, d]) (m + 1)) = v5 at H5 N5
  generalize adr (lastN (be [a, b, c, d]) m) = v6 at H6 N6
  generalize adr (firstN (be [a, b, c, d]) m) = v7 at H7 N7
  generalize lastN (be [a, b, c, d]) (m + 1) = L1 at *
  generalize firstN (be [a, b, c, d]) (m + 1) = F1 at *
  generalize lastN (be [a, b, c, d]) m = L0 at *
  generalize firstN (be [a, b, c, d]) m = F0 at *
  generalize (be [a, b, c, d] == be [p1, p2, p3, p4]) = r at *
  obtain ⟨D1, hD1⟩ : ∃ D, L1 = F1 + D := ⟨Q - 1, fl1.symm⟩
  obtain ⟨D0, hD0⟩ : ∃ D, L0 = F0 + D := ⟨P - 1, fl0.symm⟩
  have hDD : D0 = 2 * D1 + 1 := by omega
  have s1 : IntKind.u32.wrap ((L1 : Int) - F1) = D1 := by rw [u32_in (by omega) (by omega)]; omega
  have s0 : IntKind.u32.wrap ((L0 : Int) - F0) = D0 := by rw [u32_in (by omega) (by omega)]; omega
  have s2 : IntKind.u32.wrap (2 * (D1 : Int)) = 2 * D1 := u32_in (by omega) (by omega)
  have s3 : IntKind.u32.wrap (2 * (D1 : Int) + 1) = D0 := by rw [u32_in (by omega) (by omega)]; omega
  have K1 := Lib.hid H1; have K2 := Lib.hid H2; have K3 := Lib.hid H3; have K4 := Lib.hid H4; have K5 := Lib.hid H5; have K6 := Lib.hid H6; have K7 := Lib.hid H7
  have J4 := Lib.hid N4; have J5 := Lib.hid N5; have J6 := Lib.hid N6; have J7 := Lib.hid N7
  clear H1 H2 H3 H4 H5 H6 H7 N4 N5 N6 N7 hn hk cm0 cm1 cm2 fl0 fl1 l0 l1 pw pq hD1 hD0 hDD
  have w3 : IntKind.i64.wrap ((m : Int) + 1) = m + 1 := IntWalk.i64_in _ (by omega)
  have ha := heap_alloc_new w (.cells #[.int .u8 (a.toNat : Int), .int .u8 (b.toNat : Int), .int .u8 (c.toNat : Int), .int .u8 (d.toNat : Int)] 24)
  have za : w.heap.size < (w.alloc (.cells #[.int .u8 (a.toNat : Int), .int .u8 (b.toNat : Int), .int .u8 (c.toNat : Int), .int .u8 (d.toNat : Int)] 24)).heap.size := by simp
  replace bel := bel.alloc bel.size (.cells #[.int .u8 (a.toNat : Int), .int .u8 (b.toNat : Int), .int .u8 (c.toNat : Int), .int .u8 (d.toNat : Int)] 24)
  replace ha := (Go.heap_alloc_old (w.alloc (.cells #[.int .u8 (a.toNat : Int), .int .u8 (b.toNat : Int), .int .u8 (c.toNat : Int), .int .u8 (d.toNat : Int)] 24)) (.cells #[.int .u8 (p1.toNat : Int), .int .u8 (p2.toNat : Int), .int .u8 (p3.toNat : Int), .int .u8 (p4.toNat : Int)] 24) (r := w.heap.size) za).trans ha
  have hb : ((w.alloc (.cells #[.int .u8 (a.toNat : Int), .int .u8 (b.toNat : Int), .int .u8 (c.toNat : Int), .int .u8 (d.toNat : Int)] 24)).alloc (.cells #[.int .u8 (p1.toNat : Int), .int .u8 (p2.toNat : Int), .int .u8 (p3.toNat : Int), .int .u8 (p4.toNat : Int)] 24)).heap[w.heap.size + 1]? = some (.cells #[.int .u8 (p1.toNat : Int), .int .u8 (p2.toNat : Int), .int .u8 (p3.toNat : Int), .int .u8 (p4.toNat : Int)] 24 (0, 0)) := by have := heap_alloc_new (w.alloc (.cells #[.int .u8 (a.toNat : Int), .int .u8 (b.toNat : Int), .int .u8 (c.toNat : Int), .int .u8 (d.toNat : Int)] 24)) (.cells #[.int .u8 (p1.toNat : Int), .int .u8 (p2.toNat : Int), .int .u8 (p3.toNat : Int), .int .u8 (p4.toNat : Int)] 24); simpa using this
  replace za := Nat.lt_trans za (show (w.alloc (.cells #[.int .u8 (a.toNat : Int), .int .u8 (b.toNat : Int), .int .u8 (c.toNat : Int), .int .u8 (d.toNat : Int)] 24)).heap.size < ((w.alloc (.cells #[.int .u8 (a.toNat : Int), .int .u8 (b.toNat : Int), .int .u8 (c.toNat : Int), .int .u8 (d.toNat : Int)] 24)).alloc (.cells #[.int .u8 (p1.toNat : Int), .int .u8 (p2.toNat : Int), .int .u8 (p3.toNat : Int), .int .u8 (p4.toNat : Int)] 24)).heap.size by simp)
  have zb : w.heap.size + 1 < ((w.alloc (.cells #[.int .u8 (a.toNat : Int), .int .u8 (b.toNat : Int), .int .u8 (c.toNat : Int), .int .u8 (d.toNat : Int)] 24)).alloc (.cells #[.int .u8 (p1.toNat : Int), .int .u8 (p2.toNat : Int), .int .u8 (p3.toNat : Int), .int .u8 (p4.toNat : Int)] 24)).heap.size := by simp
  replace bel := bel.alloc bel.size (.cells #[.int .u8 (p1.toNat : Int), .int .u8 (p2.toNat : Int), .int .u8 (p3.toNat : Int), .int .u8 (p4.toNat : Int)] 24)
  have t0 : decide ((m : Int) < 0) = false := decide_eq_false (by omega)
  have t1 : decide ((31 : Int) < m) = false := decide_eq_false (by omega)
  have t2 : (0 : Int) ≤ m := by omega
  have t3 : (m : Int) ≤ 31 := by omega
  go_enter Tryd.func8, Tryd.ntmps8
  go_wp2_with fail
  with_reducible refine (awake3 _ (HT.out.below bel)).mono ?_
  rintro e w1 ⟨rfl, b1⟩
  replace ha := (b1.block _ za).trans ha
  replace za := Nat.lt_of_lt_of_le za b1.size
  replace hb := (b1.block _ zb).trans hb
  replace zb := Nat.lt_of_lt_of_le zb b1.size
  replace bel := bel.trans (b1.mono bel.size)
  clear b1
  obtain ⟨⟨ca0, ca1, ca2, ca3⟩, _⟩ := cells4 ha
  obtain ⟨⟨cb0, cb1, cb2, cb3⟩, _⟩ := cells4 hb
  go_wp2_with fail
  go_region
  all_goals clear ca0 ca1 ca2 ca3 cb0 cb1 cb2 cb3
  · replace ha := (Go.heap_alloc_old w1 (.cells #[.int .u8 (a.toNat : Int), .int .u8 (b.toNat : Int), .int .u8 (c.toNat : Int), .int .u8 (d.toNat : Int), .int .i64 (m : Int)] 29) (r := w.heap.size) za).trans ha
    replace hb := (Go.heap_alloc_old w1 (.cells #[.int .u8 (a.toNat : Int), .int .u8 (b.toNat : Int), .int .u8 (c.toNat : Int), .int .u8 (d.toNat : Int), .int .i64 (m : Int)] 29) (r := w.heap.size + 1) zb).trans hb
    have hx := heap_alloc_new w1 (.cells #[.int .u8 (a.toNat : Int), .int .u8 (b.toNat : Int), .int .u8 (c.toNat : Int), .int .u8 (d.toNat : Int), .int .i64 (m : Int)] 29)
    replace za := Nat.lt_trans za (show w1.heap.size < (w1.alloc (.cells #[.int .u8 (a.toNat : Int), .int .u8 (b.toNat : Int), .int .u8 (c.toNat : Int), .int .u8 (d.toNat : Int), .int .i64 (m : Int)] 29)).heap.size by simp)
    replace zb := Nat.lt_trans zb (show w1.heap.size < (w1.alloc (.cells #[.int .u8 (a.toNat : Int), .int .u8 (b.toNat : Int), .int .u8 (c.toNat : Int), .int .u8 (d.toNat : Int), .int .i64 (m : Int)] 29)).heap.size by simp)
    have zx : w1.heap.size < (w1.alloc (.cells #[.int .u8 (a.toNat : Int), .int .u8 (b.toNat : Int), .int .u8 (c.toNat : Int), .int .u8 (d.toNat : Int), .int .i64 (m : Int)] 29)).heap.size := by simp
    replace bel := bel.alloc bel.size (.cells #[.int .u8 (a.toNat : Int), .int .u8 (b.toNat : Int), .int .u8 (c.toNat : Int), .int .u8 (d.toNat : Int), .int .i64 (m : Int)] 29)
    replace ha := (Go.heap_alloc_old (w1.alloc (.cells #[.int .u8 (a.toNat : Int), .int .u8 (b.toNat : Int), .int .u8 (c.toNat : Int), .int .u8 (d.toNat : Int), .int .i64 (m : Int)] 29)) (.cells #[.int .u8 (a.toNat : Int), .int .u8 (b.toNat : Int), .int .u8 (c.toNat : Int), .int .u8 (d.toNat : Int), .int .i64 ((m : Int) + 1)] 29) (r := w.heap.size) za).trans ha
    replace hb := (Go.heap_alloc_old (w1.alloc (.cells #[.int .u8 (a.toNat : Int), .int .u8 (b.toNat : Int), .int .u8 (c.toNat : Int), .int .u8 (d.toNat : Int), .int .i64 (m : Int)] 29)) (.cells #[.int .u8 (a.toNat : Int), .int .u8 (b.toNat : Int), .int .u8 (c.toNat : Int), .int .u8 (d.toNat : Int), .int .i64 ((m : Int) + 1)] 29) (r := w.heap.size + 1) zb).trans hb
    replace hx := (Go.heap_alloc_old (w1.alloc (.cells #[.int .u8 (a.toNat : Int), .int .u8 (b.toNat : Int), .int .u8 (c.toNat : Int), .int .u8 (d.toNat : Int), .int .i64 (m : Int)] 29)) (.cells #[.int .u8 (a.toNat : Int), .int .u8 (b.toNat : Int), .int .u8 (c.toNat : Int), .int .u8 (d.toNat : Int), .int .i64 ((m : Int) + 1)] 29) (r := w1.heap.size) zx).trans hx
    have hy : ((w1.alloc (.cells #[.int .u8 (a.toNat : Int), .int .u8 (b.toNat : Int), .int .u8 (c.toNat : Int), .int .u8 (d.toNat : Int), .int .i64 (m : Int)] 29)).alloc (.cells #[.int .u8 (a.toNat : Int), .int .u8 (b.toNat : Int), .int .u8 (c.toNat : Int), .int .u8 (d.toNat : Int), .int .i64 ((m : Int) + 1)] 29)).heap[w1.heap.size + 1]? = some (.cells #[.int .u8 (a.toNat : Int), .int .u8 (b.toNat : Int), .int .u8 (c.toNat : Int), .int .u8 (d.toNat : Int), .int .i64 ((m : Int) + 1)] 29 (0, 0)) := by have := heap_alloc_new (w1.alloc (.cells #[.int .u8 (a.toNat : Int), .int .u8 (b.toNat : Int), .int .u8 (c.toNat : Int), .int .u8 (d.toNat : Int), .int .i64 (m : Int)] 29)) (.cells #[.int .u8 (a.toNat : Int), .int .u8 (b.toNat : Int), .int .u8 (c.toNat : Int), .int .u8 (d.toNat : Int), .int .i64 ((m : Int) + 1)] 29); simpa using this
    replace za := Nat.lt_trans za (show (w1.alloc (.cells #[.int .u8 (a.toNat : Int), .int .u8 (b.toNat : Int), .int .u8 (c.toNat : Int), .int .u8 (d.toNat : Int), .int .i64 (m : Int)] 29)).heap.size < ((w1.alloc (.cells #[.int .u8 (a.toNat : Int), .int .u8 (b.toNat : Int), .int .u8 (c.toNat : Int), .int .u8 (d.toNat : Int), .int .i64 (m : Int)] 29)).alloc (.cells #[.int .u8 (a.toNat : Int), .int .u8 (b.toNat : Int), .int .u8 (c.toNat : Int), .int .u8 (d.toNat : Int), .int .i64 ((m : Int) + 1)] 29)).heap.size by simp)
    replace zb := Nat.lt_trans zb (show (w1.alloc (.cells #[.int .u8 (a.toNat : Int), .int .u8 (b.toNat : Int), .int .u8 (c.toNat : Int), .int .u8 (d.toNat : Int), .int .i64 (m : Int)] 29)).heap.size < ((w1.alloc (.cells #[.int .u8 (a.toNat : Int), .int .u8 (b.toNat : Int), .int .u8 (c.toNat : Int), .int .u8 (d.toNat : Int), .int .i64 (m : Int)] 29)).alloc (.cells #[.int .u8 (a.toNat : Int), .int .u8 (b.toNat : Int), .int .u8 (c.toNat : Int), .int .u8 (d.toNat : Int), .int .i64 ((m : Int) + 1)] 29)).heap.size by simp)
    replace zx := Nat.lt_trans zx (show (w1.alloc (.cells #[.int .u8 (a.toNat : Int), .int .u8 (b.toNat : Int), .int .u8 (c.toNat : Int), .int .u8 (d.toNat : Int), .int .i64 (m : Int)] 29)).heap.size < ((w1.alloc (.cells #[.int .u8 (a.toNat : Int), .int .u8 (b.toNat : Int), .int .u8 (c.toNat : Int), .int .u8 (d.toNat : Int), .int .i64 (m : Int)] 29)).alloc (.cells #[.int .u8 (a.toNat : Int), .int .u8 (b.toNat : Int), .int .u8 (c.toNat : Int), .int .u8 (d.toNat : Int), .int .i64 ((m : Int) + 1)] 29)).heap.size by simp)
    have zy : w1.heap.size + 1 < ((w1.alloc (.cells #[.int .u8 (a.toNat : Int), .int .u8 (b.toNat : Int), .int .u8 (c.toNat : Int), .int .u8 (d.toNat : Int), .int .i64 (m : Int)] 29)).alloc (.cells #[.int .u8 (a.toNat : Int), .int .u8 (b.toNat : Int), .int .u8 (c.toNat : Int), .int .u8 (d.toNat : Int), .int .i64 ((m : Int) + 1)] 29)).heap.size := by simp
    replace bel := bel.alloc bel.size (.cells #[.int .u8 (a.toNat : Int), .int .u8 (b.toNat : Int), .int .u8 (c.toNat : Int), .int .u8 (d.toNat : Int), .int .i64 ((m : Int) + 1)] 29)
    go_wp2_with fail
    have ya := za
    have yb := zb
    have yx := zx
    have yy := zy
    replace ha : ((w1.alloc (.cells #[.int .u8 (a.toNat : Int), .int .u8 (b.toNat : Int), .int .u8 (c.toNat : Int), .int .u8 (d.toNat : Int), .int .i64 (m : Int)] 29)).alloc (.cells #[.int .u8 (a.toNat : Int), .int .u8 (b.toNat : Int), .int .u8 (c.toNat : Int), .int .u8 (d.toNat : Int), .int .i64 ((m : Int) + 1)] 29)).drew.heap[w.heap.size]? = some (.cells #[.int .u8 (a.toNat : Int), .int .u8 (b.toNat : Int), .int .u8 (c.toNat : Int), .int .u8 (d.toNat : Int)] 24 (0, 0)) := ha
    replace za : w.heap.size < ((w1.alloc (.cells #[.int .u8 (a.toNat : Int), .int .u8 (b.toNat : Int), .int .u8 (c.toNat : Int), .int .u8 (d.toNat : Int), .int .i64 (m : Int)] 29)).alloc (.cells #[.int .u8 (a.toNat : Int), .int .u8 (b.toNat : Int), .int .u8 (c.toNat : Int), .int .u8 (d.toNat : Int), .int .i64 ((m : Int) + 1)] 29)).drew.heap.size := za
    replace hb : ((w1.alloc (.cells #[.int .u8 (a.toNat : Int), .int .u8 (b.toNat : Int), .int .u8 (c.toNat : Int), .int .u8 (d.toNat : Int), .int .i64 (m : Int)] 29)).alloc (.cells #[.int .u8 (a.toNat : Int), .int .u8 (b.toNat : Int), .int .u8 (c.toNat : Int), .int .u8 (d.toNat : Int), .int .i64 ((m : Int) + 1)] 29)).drew.heap[w.heap.size + 1]? = some (.cells #[.int .u8 (p1.toNat : Int), .int .u8 (p2.toNat : Int), .int .u8 (p3.toNat : Int), .int .u8 (p4.toNat : Int)] 24 (0, 0)) := hb
    replace zb : w.heap.size + 1 < ((w1.alloc (.cells #[.int .u8 (a.toNat : Int), .int .u8 (b.toNat : Int), .int .u8 (c.toNat : Int), .int .u8 (d.toNat : Int), .int .i64 (m : Int)] 29)).alloc (.cells #[.int .u8 (a.toNat : Int), .int .u8 (b.toNat : Int), .int .u8 (c.toNat : Int), .int .u8 (d.toNat : Int), .int .i64 ((m : Int) + 1)] 29)).drew.heap.size := zb
    replace hx : ((w1.alloc (.cells #[.int .u8 (a.toNat : Int), .int .u8 (b.toNat : Int), .int .u8 (c.toNat : Int), .int .u8 (d.toNat : Int), .int .i64 (m : Int)] 29)).alloc (.cells #[.int .u8 (a.toNat : Int), .int .u8 (b.toNat : Int), .int .u8 (c.toNat : Int), .int .u8 (d.toNat : Int), .int .i64 ((m : Int) + 1)] 29)).drew.heap[w1.heap.size]? = some (.cells #[.int .u8 (a.toNat : Int), .int .u8 (b.toNat : Int), .int .u8 (c.toNat : Int), .int .u8 (d.toNat : Int), .int .i64 (m : Int)] 29 (0, 0)) := hx
    replace zx : w1.heap.size < ((w1.alloc (.cells #[.int .u8 (a.toNat : Int), .int .u8 (b.toNat : Int), .int .u8 (c.toNat : Int), .int .u8 (d.toNat : Int), .int .i64 (m : Int)] 29)).alloc (.cells #[.int .u8 (a.toNat : Int), .int .u8 (b.toNat : Int), .int .u8 (c.toNat : Int), .int .u8 (d.toNat : Int), .int .i64 ((m : Int) + 1)] 29)).drew.heap.size := zx
    replace hy : ((w1.alloc (.cells #[.int .u8 (a.toNat : Int), .int .u8 (b.toNat : Int), .int .u8 (c.toNat : Int), .int .u8 (d.toNat : Int), .int .i64 (m : Int)] 29)).alloc (.cells #[.int .u8 (a.toNat : Int), .int .u8 (b.toNat : Int), .int .u8 (c.toNat : Int), .int .u8 (d.toNat : Int), .int .i64 ((m : Int) + 1)] 29)).drew.heap[w1.heap.size + 1]? = some (.cells #[.int .u8 (a.toNat : Int), .int .u8 (b.toNat : Int), .int .u8 (c.toNat : Int), .int .u8 (d.toNat : Int), .int .i64 ((m : Int) + 1)] 29 (0, 0)) := hy
    replace zy : w1.heap.size + 1 < ((w1.alloc (.cells #[.int .u8 (a.toNat : Int), .int .u8 (b.toNat : Int), .int .u8 (c.toNat : Int), .int .u8 (d.toNat : Int), .int .i64 (m : Int)] 29)).alloc (.cells #[.int .u8 (a.toNat : Int), .int .u8 (b.toNat : Int), .int .u8 (c.toNat : Int), .int .u8 (d.toNat : Int), .int .i64 ((m : Int) + 1)] 29)).drew.heap.size := zy
    replace bel := bel.drew
    clear ya yb yx yy
    generalize ((w1.alloc (.cells #[.int .u8 (a.toNat : Int), .int .u8 (b.toNat : Int), .int .u8 (c.toNat : Int), .int .u8 (d.toNat : Int), .int .i64 (m : Int)] 29)).alloc (.cells #[.int .u8 (a.toNat : Int), .int .u8 (b.toNat : Int), .int .u8 (c.toNat : Int), .int .u8 (d.toNat : Int), .int .i64 ((m : Int) + 1)] 29)).drew = v0 at ha za hb zb hx zx hy zy bel ⊢
    obtain ⟨⟨ca0, ca1, ca2, ca3⟩, _⟩ := cells4 ha
    obtain ⟨⟨cb0, cb1, cb2, cb3⟩, _⟩ := cells4 hb
    obtain ⟨⟨cx0, cx1, cx2, cx3, cx4⟩, _⟩ := cells5 hx
    obtain ⟨⟨cy0, cy1, cy2, cy3, cy4⟩, _⟩ := cells5 hy
    clear ha hb hx hy
    refine wp_region_held_drew (S := fun W => W.cell? ⟨w.heap.size, 0, none⟩ = some (.int .u8 (a.toNat : Int)) ∧ W.cell? ⟨w.heap.size, 1, none⟩ = some (.int .u8 (b.toNat : Int)) ∧ W.cell? ⟨w.heap.size, 2, none⟩ = some (.int .u8 (c.toNat : Int)) ∧ W.cell? ⟨w.heap.size, 3, none⟩ = some (.int .u8 (d.toNat : Int)) ∧ W.cell? ⟨w.heap.size + 1, 0, none⟩ = some (.int .u8 (p1.toNat : Int)) ∧ W.cell? ⟨w.heap.size + 1, 1, none⟩ = some (.int .u8 (p2.toNat : Int)) ∧ W.cell? ⟨w.heap.size + 1, 2, none⟩ = some (.int .u8 (p3.toNat : Int)) ∧ W.cell? ⟨w.heap.size + 1, 3, none⟩ = some (.int .u8 (p4.toNat : Int)) ∧ W.cell? ⟨w1.heap.size, 0, none⟩ = some (.int .u8 (a.toNat : Int)) ∧ W.cell? ⟨w1.heap.size, 1, none⟩ = some (.int .u8 (b.toNat : Int)) ∧ W.cell? ⟨w1.heap.size, 2, none⟩ = some (.int .u8 (c.toNat : Int)) ∧ W.cell? ⟨w1.heap.size, 3, none⟩ = some (.int .u8 (d.toNat : Int)) ∧ W.cell? ⟨w1.heap.size, 4, none⟩ = some (.int .i64 (m : Int)) ∧ W.cell? ⟨w1.heap.size + 1, 0, none⟩ = some (.int .u8 (a.toNat : Int)) ∧ W.cell? ⟨w1.heap.size + 1, 1, none⟩ = some (.int .u8 (b.toNat : Int)) ∧ W.cell? ⟨w1.heap.size + 1, 2, none⟩ = some (.int .u8 (c.toNat : Int)) ∧ W.cell? ⟨w1.heap.size + 1, 3, none⟩ = some (.int .u8 (d.toNat : Int)) ∧ W.cell? ⟨w1.heap.size + 1, 4, none⟩ = some (.int .i64 ((m : Int) + 1))) (by kernel_rfl) ⟨ca0, ca1, ca2, ca3, cb0, cb1, cb2, cb3, cx0, cx1, cx2, cx3, cx4, cy0, cy1, cy2, cy3, cy4⟩ (fun hH => ?_)
    refine wpAnyH_take (i := 0) (v := ?_) rfl (by kernel_rfl) (by kernel_rfl) (by kernel_rfl) (fun _ _ _ h => h) (Or.inl ⟨by rfl, ?_⟩) hH ?_
    rotate_left
    · ((intro W hW; obtain ⟨s0, s1, s2, s3, s4, s5, s6, s7, s8, s9, s10, s11, s12, s13, s14, s15, s16, s17⟩ := hW; go_simp) <;> with_reducible rfl)
    simp only [Act.put, List.getElem_toArray, List.getElem_cons_zero, List.setIfInBounds_toArray, List.set_cons_zero, List.set_cons_succ]
    refine wpAnyH_take (i := 3) (v := ?_) rfl (by kernel_rfl) (by kernel_rfl) (by kernel_rfl) (fun _ _ _ h => h) (Or.inl ⟨by rfl, ?_⟩) hH ?_
    rotate_left
    · ((intro W hW; obtain ⟨s0, s1, s2, s3, s4, s5, s6, s7, s8, s9, s10, s11, s12, s13, s14, s15, s16, s17⟩ := hW; go_simp) <;> with_reducible rfl)
    simp only [Act.put, List.getElem_toArray, List.getElem_cons_zero, List.getElem_cons_succ, List.setIfInBounds_toArray, List.set_cons_zero, List.set_cons_succ]
    refine wpAnyH_ready (rs := [1]) (by kernel_rfl) (by simp) ?_
    refine AllReadyH.cons (o := _) rfl (fun K hK => ?_) AllReadyH.nil
    simp only [List.getElem_toArray, List.getElem_cons_zero, List.getElem_cons_succ]
    go_simp
    with_reducible refine (K4.out _).mono ?_
    rintro e v11 ⟨rfl, b11⟩
    dsimp only
    have bel11 := bel.drew.trans (b11.mono bel.size)
    refine hK.out _ _ ⟨(b11.cell (p := ⟨_, 0, none⟩) za).trans hH.1, (b11.cell (p := ⟨_, 1, none⟩) za).trans hH.2.1, (b11.cell (p := ⟨_, 2, none⟩) za).trans hH.2.2.1, (b11.cell (p := ⟨_, 3, none⟩) za).trans hH.2.2.2.1, (b11.cell (p := ⟨_, 0, none⟩) zb).trans hH.2.2.2.2.1, (b11.cell (p := ⟨_, 1, none⟩) zb).trans hH.2.2.2.2.2.1, (b11.cell (p := ⟨_, 2, none⟩) zb).trans hH.2.2.2.2.2.2.1, (b11.cell (p := ⟨_, 3, none⟩) zb).trans hH.2.2.2.2.2.2.2.1, (b11.cell (p := ⟨_, 0, none⟩) zx).trans hH.2.2.2.2.2.2.2.2.1, (b11.cell (p := ⟨_, 1, none⟩) zx).trans hH.2.2.2.2.2.2.2.2.2.1, (b11.cell (p := ⟨_, 2, none⟩) zx).trans hH.2.2.2.2.2.2.2.2.2.2.1, (b11.cell (p := ⟨_, 3, none⟩) zx).trans hH.2.2.2.2.2.2.2.2.2.2.2.1, (b11.cell (p := ⟨_, 4, none⟩) zx).trans hH.2.2.2.2.2.2.2.2.2.2.2.2.1, (b11.cell (p := ⟨_, 0, none⟩) zy).trans hH.2.2.2.2.2.2.2.2.2.2.2.2.2.1, (b11.cell (p := ⟨_, 1, none⟩) zy).trans hH.2.2.2.2.2.2.2.2.2.2.2.2.2.2.1, (b11.cell (p := ⟨_, 2, none⟩) zy).trans hH.2.2.2.2.2.2.2.2.2.2.2.2.2.2.2.1, (b11.cell (p := ⟨_, 3, none⟩) zy).trans hH.2.2.2.2.2.2.2.2.2.2.2.2.2.2.2.2.1, (b11.cell (p := ⟨_, 4, none⟩) zy).trans hH.2.2.2.2.2.2.2.2.2.2.2.2.2.2.2.2.2⟩ (fun hH11 => ?_)
    clear hK K
    replace za := Nat.lt_of_lt_of_le za b11.size
    replace zb := Nat.lt_of_lt_of_le zb b11.size
    replace zx := Nat.lt_of_lt_of_le zx b11.size
    replace zy := Nat.lt_of_lt_of_le zy b11.size
    refine wpAnyH_ready (rs := [2]) (by kernel_rfl) (by simp) ?_
    refine AllReadyH.cons (o := _) rfl (fun K hK => ?_) AllReadyH.nil
    simp only [List.getElem_toArray, List.getElem_cons_zero, List.getElem_cons_succ]
    go_simp
    with_reducible refine (J4.out _).mono ?_
    rintro e v12 ⟨rfl, b12⟩
    dsimp only
    have bel12 := bel11.trans (b12.mono bel11.size)
    refine hK.out _ _ ⟨(b12.cell (p := ⟨_, 0, none⟩) za).trans hH11.1, (b12.cell (p := ⟨_, 1, none⟩) za).trans hH11.2.1, (b12.cell (p := ⟨_, 2, none⟩) za).trans hH11.2.2.1, (b12.cell (p := ⟨_, 3, none⟩) za).trans hH11.2.2.2.1, (b12.cell (p := ⟨_, 0, none⟩) zb).trans hH11.2.2.2.2.1, (b12.cell (p := ⟨_, 1, none⟩) zb).trans hH11.2.2.2.2.2.1, (b12.cell (p := ⟨_, 2, none⟩) zb).trans hH11.2.2.2.2.2.2.1, (b12.cell (p := ⟨_, 3, none⟩) zb).trans hH11.2.2.2.2.2.2.2.1, (b12.cell (p := ⟨_, 0, none⟩) zx).trans hH11.2.2.2.2.2.2.2.2.1, (b12.cell (p := ⟨_, 1, none⟩) zx).trans hH11.2.2.2.2.2.2.2.2.2.1, (b12.cell (p := ⟨_, 2, none⟩) zx).trans hH11.2.2.2.2.2.2.2.2.2.2.1, (b12.cell (p := ⟨_, 3, none⟩) zx).trans hH11.2.2.2.2.2.2.2.2.2.2.2.1, (b12.cell (p := ⟨_, 4, none⟩) zx).trans hH11.2.2.2.2.2.2.2.2.2.2.2.2.1, (b12.cell (p := ⟨_, 0, none⟩) zy).trans hH11.2.2.2.2.2.2.2.2.2.2.2.2.2.1, (b12.cell (p := ⟨_, 1, none⟩) zy).trans hH11.2.2.2.2.2.2.2.2.2.2.2.2.2.2.1, (b12.cell (p := ⟨_, 2, none⟩) zy).trans hH11.2.2.2.2.2.2.2.2.2.2.2.2.2.2.2.1, (b12.cell (p := ⟨_, 3, none⟩) zy).trans hH11.2.2.2.2.2.2.2.2.2.2.2.2.2.2.2.2.1, (b12.cell (p := ⟨_, 4, none⟩) zy).trans hH11.2.2.2.2.2.2.2.2.2.2.2.2.2.2.2.2.2⟩ (fun hH12 => ?_)
    clear hK K
    replace za := Nat.lt_of_lt_of_le za b12.size
    replace zb := Nat.lt_of_lt_of_le zb b12.size
    replace zx := Nat.lt_of_lt_of_le zx b12.size
    replace zy := Nat.lt_of_lt_of_le zy b12.size
    refine wpAnyH_ready (rs := [4]) (by kernel_rfl) (by simp) ?_
    refine AllReadyH.cons (o := _) rfl (fun K hK => ?_) AllReadyH.nil
    simp only [List.getElem_toArray, List.getElem_cons_zero, List.getElem_cons_succ]
    go_simp
    with_reducible refine (K5.out _).mono ?_
    rintro e v13 ⟨rfl, b13⟩
    dsimp only
    have bel13 := bel12.trans (b13.mono bel12.size)
    refine hK.out _ _ ⟨(b13.cell (p := ⟨_, 0, none⟩) za).trans hH12.1, (b13.cell (p := ⟨_, 1, none⟩) za).trans hH12.2.1, (b13.cell (p := ⟨_, 2, none⟩) za).trans hH12.2.2.1, (b13.cell (p := ⟨_, 3, none⟩) za).trans hH12.2.2.2.1, (b13.cell (p := ⟨_, 0, none⟩) zb).trans hH12.2.2.2.2.1, (b13.cell (p := ⟨_, 1, none⟩) zb).trans hH12.2.2.2.2.2.1, (b13.cell (p := ⟨_, 2, none⟩) zb).trans hH12.2.2.2.2.2.2.1, (b13.cell (p := ⟨_, 3, none⟩) zb).trans hH12.2.2.2.2.2.2.2.1, (b13.cell (p := ⟨_, 0, none⟩) zx).trans hH12.2.2.2.2.2.2.2.2.1, (b13.cell (p := ⟨_, 1, none⟩) zx).trans hH12.2.2.2.2.2.2.2.2.2.1, (b13.cell (p := ⟨_, 2, none⟩) zx).trans hH12.2.2.2.2.2.2.2.2.2.2.1, (b13.cell (p := ⟨_, 3, none⟩) zx).trans hH12.2.2.2.2.2.2.2.2.2.2.2.1, (b13.cell (p := ⟨_, 4, none⟩) zx).trans hH12.2.2.2.2.2.2.2.2.2.2.2.2.1, (b13.cell (p := ⟨_, 0, none⟩) zy).trans hH12.2.2.2.2.2.2.2.2.2.2.2.2.2.1, (b13.cell (p := ⟨_, 1, none⟩) zy).trans hH12.2.2.2.2.2.2.2.2.2.2.2.2.2.2.1, (b13.cell (p := ⟨_, 2, none⟩) zy).trans hH12.2.2.2.2.2.2.2.2.2.2.2.2.2.2.2.1, (b13.cell (p := ⟨_, 3, none⟩) zy).trans hH12.2.2.2.2.2.2.2.2.2.2.2.2.2.2.2.2.1, (b13.cell (p := ⟨_, 4, none⟩) zy).trans hH12.2.2.2.2.2.2.2.2.2.2.2.2.2.2.2.2.2⟩ (fun hH13 => ?_)
    clear hK K
    replace za := Nat.lt_of_lt_of_le za b13.size
    replace zb := Nat.lt_of_lt_of_le zb b13.size
    replace zx := Nat.lt_of_lt_of_le zx b13.size
    replace zy := Nat.lt_of_lt_of_le zy b13.size
    refine wpAnyH_ready (rs := [5]) (by kernel_rfl) (by simp) ?_
    refine AllReadyH.cons (o := _) rfl (fun K hK => ?_) AllReadyH.nil
    simp only [List.getElem_toArray, List.getElem_cons_zero, List.getElem_cons_succ]
    go_simp
    with_reducible refine (J5.out _).mono ?_
    rintro e v14 ⟨rfl, b14⟩
    dsimp only
    have bel14 := bel13.trans (b14.mono bel13.size)
    refine hK.out _ _ ⟨(b14.cell (p := ⟨_, 0, none⟩) za).trans hH13.1, (b14.cell (p := ⟨_, 1, none⟩) za).trans hH13.2.1, (b14.cell (p := ⟨_, 2, none⟩) za).trans hH13.2.2.1, (b14.cell (p := ⟨_, 3, none⟩) za).trans hH13.2.2.2.1, (b14.cell (p := ⟨_, 0, none⟩) zb).trans hH13.2.2.2.2.1, (b14.cell (p := ⟨_, 1, none⟩) zb).trans hH13.2.2.2.2.2.1, (b14.cell (p := ⟨_, 2, none⟩) zb).trans hH13.2.2.2.2.2.2.1, (b14.cell (p := ⟨_, 3, none⟩) zb).trans hH13.2.2.2.2.2.2.2.1, (b14.cell (p := ⟨_, 0, none⟩) zx).trans hH13.2.2.2.2.2.2.2.2.1, (b14.cell (p := ⟨_, 1, none⟩) zx).trans hH13.2.2.2.2.2.2.2.2.2.1, (b14.cell (p := ⟨_, 2, none⟩) zx).trans hH13.2.2.2.2.2.2.2.2.2.2.1, (b14.cell (p := ⟨_, 3, none⟩) zx).trans hH13.2.2.2.2.2.2.2.2.2.2.2.1, (b14.cell (p := ⟨_, 4, none⟩) zx).trans hH13.2.2.2.2.2.2.2.2.2.2.2.2.1, (b14.cell (p := ⟨_, 0, none⟩) zy).trans hH13.2.2.2.2.2.2.2.2.2.2.2.2.2.1, (b14.cell (p := ⟨_, 1, none⟩) zy).trans hH13.2.2.2.2.2.2.2.2.2.2.2.2.2.2.1, (b14.cell (p := ⟨_, 2, none⟩) zy).trans hH13.2.2.2.2.2.2.2.2.2.2.2.2.2.2.2.1, (b14.cell (p := ⟨_, 3, none⟩) zy).trans hH13.2.2.2.2.2.2.2.2.2.2.2.2.2.2.2.2.1, (b14.cell (p := ⟨_, 4, none⟩) zy).trans hH13.2.2.2.2.2.2.2.2.2.2.2.2.2.2.2.2.2⟩ (fun hH14 => ?_)
    clear hK K
    replace za := Nat.lt_of_lt_of_le za b14.size
    replace zb := Nat.lt_of_lt_of_le zb b14.size
    replace zx := Nat.lt_of_lt_of_le zx b14.size
    replace zy := Nat.lt_of_lt_of_le zy b14.size
    refine wpAnyH_take (i := 6) (v := ?_) rfl (by kernel_rfl) (by kernel_rfl) (by kernel_rfl) (fun _ _ _ h => h) (Or.inl ⟨by rfl, ?_⟩) hH14 ?_
    rotate_left
    · ((intro W hW; obtain ⟨s0, s1, s2, s3, s4, s5, s6, s7, s8, s9, s10, s11, s12, s13, s14, s15, s16, s17⟩ := hW; go_simp) <;> with_reducible rfl)
    simp only [Act.put, List.getElem_toArray, List.getElem_cons_zero, List.getElem_cons_succ, List.setIfInBounds_toArray, List.set_cons_zero, List.set_cons_succ]
    refine wpAnyH_take (i := 7) (v := ?_) rfl (by kernel_rfl) (by kernel_rfl) (by kernel_rfl) (fun _ _ _ h => h) (Or.inl ⟨by rfl, ?_⟩) hH14 ?_
    rotate_left
    · ((intro W hW; obtain ⟨s0, s1, s2, s3, s4, s5, s6, s7, s8, s9, s10, s11, s12, s13, s14, s15, s16, s17⟩ := hW; go_simp) <;> with_reducible rfl)
    simp only [Act.put, List.getElem_toArray, List.getElem_cons_zero, List.getElem_cons_succ, List.setIfInBounds_toArray, List.set_cons_zero, List.set_cons_succ]
    refine wpAnyH_done (by kernel_rfl) ?_ _
    go_wp2_with fail
    refine wp_region_held_drew (S := fun W => W.cell? ⟨w.heap.size, 0, none⟩ = some (.int .u8 (a.toNat : Int)) ∧ W.cell? ⟨w.heap.size, 1, none⟩ = some (.int .u8 (b.toNat : Int)) ∧ W.cell? ⟨w.heap.size, 2, none⟩ = some (.int .u8 (c.toNat : Int)) ∧ W.cell? ⟨w.heap.size, 3, none⟩ = some (.int .u8 (d.toNat : Int)) ∧ W.cell? ⟨w.heap.size + 1, 0, none⟩ = some (.int .u8 (p1.toNat : Int)) ∧ W.cell? ⟨w.heap.size + 1, 1, none⟩ = some (.int .u8 (p2.toNat : Int)) ∧ W.cell? ⟨w.heap.size + 1, 2, none⟩ = some (.int .u8 (p3.toNat : Int)) ∧ W.cell? ⟨w.heap.size + 1, 3, none⟩ = some (.int .u8 (p4.toNat : Int)) ∧ W.cell? ⟨w1.heap.size, 0, none⟩ = some (.int .u8 (a.toNat : Int)) ∧ W.cell? ⟨w1.heap.size, 1, none⟩ = some (.int .u8 (b.toNat : Int)) ∧ W.cell? ⟨w1.heap.size, 2, none⟩ = some (.int .u8 (c.toNat : Int)) ∧ W.cell? ⟨w1.heap.size, 3, none⟩ = some (.int .u8 (d.toNat : Int)) ∧ W.cell? ⟨w1.heap.size, 4, none⟩ = some (.int .i64 (m : Int)) ∧ W.cell? ⟨w1.heap.size + 1, 0, none⟩ = some (.int .u8 (a.toNat : Int)) ∧ W.cell? ⟨w1.heap.size + 1, 1, none⟩ = some (.int .u8 (b.toNat : Int)) ∧ W.cell? ⟨w1.heap.size + 1, 2, none⟩ = some (.int .u8 (c.toNat : Int)) ∧ W.cell? ⟨w1.heap.size + 1, 3, none⟩ = some (.int .u8 (d.toNat : Int)) ∧ W.cell? ⟨w1.heap.size + 1, 4, none⟩ = some (.int .i64 ((m : Int) + 1))) (by kernel_rfl) hH14 (fun hH => ?_)
    refine wpAnyH_take (i := 0) (v := ?_) rfl (by kernel_rfl) (by kernel_rfl) (by kernel_rfl) (fun _ _ _ h => h) (Or.inl ⟨by rfl, ?_⟩) hH ?_
    rotate_left
    · ((intro W hW; obtain ⟨s0, s1, s2, s3, s4, s5, s6, s7, s8, s9, s10, s11, s12, s13, s14, s15, s16, s17⟩ := hW; go_simp) <;> with_reducible rfl)
    simp only [Act.put, List.getElem_toArray, List.getElem_cons_zero, List.setIfInBounds_toArray, List.set_cons_zero, List.set_cons_succ]
    refine wpAnyH_take (i := 1) (v := ?_) rfl (by kernel_rfl) (by kernel_rfl) (by kernel_rfl) (fun _ _ _ h => h) (Or.inl ⟨by rfl, ?_⟩) hH ?_
    rotate_left
    · ((intro W hW; obtain ⟨s0, s1, s2, s3, s4, s5, s6, s7, s8, s9, s10, s11, s12, s13, s14, s15, s16, s17⟩ := hW; go_simp) <;> with_reducible rfl)
    simp only [Act.put, List.getElem_toArray, List.getElem_cons_zero, List.getElem_cons_succ, List.setIfInBounds_toArray, List.set_cons_zero, List.set_cons_succ]
    refine wpAnyH_ready (rs := [2]) (by kernel_rfl) (by simp) ?_
    refine AllReadyH.cons (o := _) rfl (fun K hK => ?_) AllReadyH.nil
    simp only [List.getElem_toArray, List.getElem_cons_zero, List.getElem_cons_succ]
    go_simp
    with_reducible refine (K1.out _).mono ?_
    rintro e v15 ⟨rfl, b15⟩
    dsimp only
    have bel15 := bel14.drew.trans (b15.mono bel14.size)
    refine hK.out _ _ ⟨(b15.cell (p := ⟨_, 0, none⟩) za).trans hH.1, (b15.cell (p := ⟨_, 1, none⟩) za).trans hH.2.1, (b15.cell (p := ⟨_, 2, none⟩) za).trans hH.2.2.1, (b15.cell (p := ⟨_, 3, none⟩) za).trans hH.2.2.2.1, (b15.cell (p := ⟨_, 0, none⟩) zb).trans hH.2.2.2.2.1, (b15.cell (p := ⟨_, 1, none⟩) zb).trans hH.2.2.2.2.2.1, (b15.cell (p := ⟨_, 2, none⟩) zb).trans hH.2.2.2.2.2.2.1, (b15.cell (p := ⟨_, 3, none⟩) zb).trans hH.2.2.2.2.2.2.2.1, (b15.cell (p := ⟨_, 0, none⟩) zx).trans hH.2.2.2.2.2.2.2.2.1, (b15.cell (p := ⟨_, 1, none⟩) zx).trans hH.2.2.2.2.2.2.2.2.2.1, (b15.cell (p := ⟨_, 2, none⟩) zx).trans hH.2.2.2.2.2.2.2.2.2.2.1, (b15.cell (p := ⟨_, 3, none⟩) zx).trans hH.2.2.2.2.2.2.2.2.2.2.2.1, (b15.cell (p := ⟨_, 4, none⟩) zx).trans hH.2.2.2.2.2.2.2.2.2.2.2.2.1, (b15.cell (p := ⟨_, 0, none⟩) zy).trans hH.2.2.2.2.2.2.2.2.2.2.2.2.2.1, (b15.cell (p := ⟨_, 1, none⟩) zy).trans hH.2.2.2.2.2.2.2.2.2.2.2.2.2.2.1, (b15.cell (p := ⟨_, 2, none⟩) zy).trans hH.2.2.2.2.2.2.2.2.2.2.2.2.2.2.2.1, (b15.cell (p := ⟨_, 3, none⟩) zy).trans hH.2.2.2.2.2.2.2.2.2.2.2.2.2.2.2.2.1, (b15.cell (p := ⟨_, 4, none⟩) zy).trans hH.2.2.2.2.2.2.2.2.2.2.2.2.2.2.2.2.2⟩ (fun hH15 => ?_)
    clear hK K
    replace za := Nat.lt_of_lt_of_le za b15.size
    replace zb := Nat.lt_of_lt_of_le zb b15.size
    replace zx := Nat.lt_of_lt_of_le zx b15.size
    replace zy := Nat.lt_of_lt_of_le zy b15.size
    refine wpAnyH_take (i := 3) (v := ?_) rfl (by kernel_rfl) (by kernel_rfl) (by kernel_rfl) (fun _ _ _ h => h) (Or.inl ⟨by rfl, ?_⟩) hH15 ?_
    rotate_left
    · ((intro W hW; obtain ⟨s0, s1, s2, s3, s4, s5, s6, s7, s8, s9, s10, s11, s12, s13, s14, s15, s16, s17⟩ := hW; go_simp) <;> with_reducible rfl)
    simp only [Act.put, List.getElem_toArray, List.getElem_cons_zero, List.getElem_cons_succ, List.setIfInBounds_toArray, List.set_cons_zero, List.set_cons_succ]
    refine wpAnyH_take (i := 4) (v := ?_) rfl (by kernel_rfl) (by kernel_rfl) (by kernel_rfl) (fun _ _ _ h => h) (Or.inl ⟨by rfl, ?_⟩) hH15 ?_
    rotate_left
    · ((intro W hW; obtain ⟨s0, s1, s2, s3, s4, s5, s6, s7, s8, s9, s10, s11, s12, s13, s14, s15, s16, s17⟩ := hW; go_simp) <;> with_reducible rfl)
    simp only [Act.put, List.getElem_toArray, List.getElem_cons_zero, List.getElem_cons_succ, List.setIfInBounds_toArray, List.set_cons_zero, List.set_cons_succ]
    refine wpAnyH_take (i := 5) (v := ?_) rfl (by kernel_rfl) (by kernel_rfl) (by kernel_rfl) (fun _ _ _ h => h) (Or.inl ⟨by rfl, ?_⟩) hH15 ?_
    rotate_left
    · ((intro W hW; obtain ⟨s0, s1, s2, s3, s4, s5, s6, s7, s8, s9, s10, s11, s12, s13, s14, s15, s16, s17⟩ := hW; go_simp) <;> with_reducible rfl)
    simp only [Act.put, List.getElem_toArray, List.getElem_cons_zero, List.getElem_cons_succ, List.setIfInBounds_toArray, List.set_cons_zero, List.set_cons_succ]
    refine wpAnyH_take (i := 6) (v := ?_) rfl (by kernel_rfl) (by kernel_rfl) (by kernel_rfl) (fun _ _ _ h => h) (Or.inl ⟨by rfl, ?_⟩) hH15 ?_
    rotate_left
    · ((intro W hW; obtain ⟨s0, s1, s2, s3, s4, s5, s6, s7, s8, s9, s10, s11, s12, s13, s14, s15, s16, s17⟩ := hW; go_simp) <;> with_reducible rfl)
    simp only [Act.put, List.getElem_toArray, List.getElem_cons_zero, List.getElem_cons_succ, List.setIfInBounds_toArray, List.set_cons_zero, List.set_cons_succ]
    refine wpAnyH_ready (rs := [7]) (by kernel_rfl) (by simp) ?_
    refine AllReadyH.cons (o := _) rfl (fun K hK => ?_) AllReadyH.nil
    simp only [List.getElem_toArray, List.getElem_cons_zero, List.getElem_cons_succ]
    go_simp
    with_reducible refine (K2.out _).mono ?_
    rintro e v16 ⟨rfl, b16⟩
    dsimp only
    have bel16 := bel15.trans (b16.mono bel15.size)
    refine hK.out _ _ ⟨(b16.cell (p := ⟨_, 0, none⟩) za).trans hH15.1, (b16.cell (p := ⟨_, 1, none⟩) za).trans hH15.2.1, (b16.cell (p := ⟨_, 2, none⟩) za).trans hH15.2.2.1, (b16.cell (p := ⟨_, 3, none⟩) za).trans hH15.2.2.2.1, (b16.cell (p := ⟨_, 0, none⟩) zb).trans hH15.2.2.2.2.1, (b16.cell (p := ⟨_, 1, none⟩) zb).trans hH15.2.2.2.2.2.1, (b16.cell (p := ⟨_, 2, none⟩) zb).trans hH15.2.2.2.2.2.2.1, (b16.cell (p := ⟨_, 3, none⟩) zb).trans hH15.2.2.2.2.2.2.2.1, (b16.cell (p := ⟨_, 0, none⟩) zx).trans hH15.2.2.2.2.2.2.2.2.1, (b16.cell (p := ⟨_, 1, none⟩) zx).trans hH15.2.2.2.2.2.2.2.2.2.1, (b16.cell (p := ⟨_, 2, none⟩) zx).trans hH15.2.2.2.2.2.2.2.2.2.2.1, (b16.cell (p := ⟨_, 3, none⟩) zx).trans hH15.2.2.2.2.2.2.2.2.2.2.2.1, (b16.cell (p := ⟨_, 4, none⟩) zx).trans hH15.2.2.2.2.2.2.2.2.2.2.2.2.1, (b16.cell (p := ⟨_, 0, none⟩) zy).trans hH15.2.2.2.2.2.2.2.2.2.2.2.2.2.1, (b16.cell (p := ⟨_, 1, none⟩) zy).trans hH15.2.2.2.2.2.2.2.2.2.2.2.2.2.2.1, (b16.cell (p := ⟨_, 2, none⟩) zy).trans hH15.2.2.2.2.2.2.2.2.2.2.2.2.2.2.2.1, (b16.cell (p := ⟨_, 3, none⟩) zy).trans hH15.2.2.2.2.2.2.2.2.2.2.2.2.2.2.2.2.1, (b16.cell (p := ⟨_, 4, none⟩) zy).trans hH15.2.2.2.2.2.2.2.2.2.2.2.2.2.2.2.2.2⟩ (fun hH16 => ?_)
    clear hK K
    replace za := Nat.lt_of_lt_of_le za b16.size
    replace zb := Nat.lt_of_lt_of_le zb b16.size
    replace zx := Nat.lt_of_lt_of_le zx b16.size
    replace zy := Nat.lt_of_lt_of_le zy b16.size
    refine wpAnyH_take (i := 8) (v := ?_) rfl (by kernel_rfl) (by kernel_rfl) (by kernel_rfl) (fun _ _ _ h => h) (Or.inl ⟨by rfl, ?_⟩) hH16 ?_
    rotate_left
    · ((intro W hW; obtain ⟨s0, s1, s2, s3, s4, s5, s6, s7, s8, s9, s10, s11, s12, s13, s14, s15, s16, s17⟩ := hW; go_simp) <;> with_reducible rfl)
    simp only [Act.put, List.getElem_toArray, List.getElem_cons_zero, List.getElem_cons_succ, List.setIfInBounds_toArray, List.set_cons_zero, List.set_cons_succ]
    refine wpAnyH_take (i := 9) (v := ?_) rfl (by kernel_rfl) (by kernel_rfl) (by kernel_rfl) (fun _ _ _ h => h) (Or.inl ⟨by rfl, ?_⟩) hH16 ?_
    rotate_left
    · ((intro W hW; obtain ⟨s0, s1, s2, s3, s4, s5, s6, s7, s8, s9, s10, s11, s12, s13, s14, s15, s16, s17⟩ := hW; go_simp) <;> with_reducible rfl)
    simp only [Act.put, List.getElem_toArray, List.getElem_cons_zero, List.getElem_cons_succ, List.setIfInBounds_toArray, List.set_cons_zero, List.set_cons_succ]
    refine wpAnyH_take (i := 10) (v := ?_) rfl (by kernel_rfl) (by kernel_rfl) (by kernel_rfl) (fun _ _ _ h => h) (Or.inl ⟨by rfl, ?_⟩) hH16 ?_
    rotate_left
    · ((intro W hW; obtain ⟨s0, s1, s2, s3, s4, s5, s6, s7, s8, s9, s10, s11, s12, s13, s14, s15, s16, s17⟩ := hW; go_simp) <;> with_reducible rfl)
    simp only [Act.put, List.getElem_toArray, List.getElem_cons_zero, List.getElem_cons_succ, List.setIfInBounds_toArray, List.set_cons_zero, List.set_cons_succ]
    refine wpAnyH_take (i := 13) (v := ?_) rfl (by kernel_rfl) (by kernel_rfl) (by kernel_rfl) (fun _ _ _ h => h) (Or.inl ⟨by rfl, ?_⟩) hH16 ?_
    rotate_left
    · ((intro W hW; obtain ⟨s0, s1, s2, s3, s4, s5, s6, s7, s8, s9, s10, s11, s12, s13, s14, s15, s16, s17⟩ := hW; go_simp) <;> with_reducible rfl)
    simp only [Act.put, List.getElem_toArray, List.getElem_cons_zero, List.getElem_cons_succ, List.setIfInBounds_toArray, List.set_cons_zero, List.set_cons_succ]
    refine wpAnyH_take (i := 17) (v := ?_) rfl (by kernel_rfl) (by kernel_rfl) (by kernel_rfl) (fun _ _ _ h => h) (Or.inl ⟨by rfl, ?_⟩) hH16 ?_
    rotate_left
    · ((intro W hW; obtain ⟨s0, s1, s2, s3, s4, s5, s6, s7, s8, s9, s10, s11, s12, s13, s14, s15, s16, s17⟩ := hW; go_simp) <;> with_reducible rfl)
    simp only [Act.put, List.getElem_toArray, List.getElem_cons_zero, List.getElem_cons_succ, List.setIfInBounds_toArray, List.set_cons_zero, List.set_cons_succ]
    refine wpAnyH_take (i := 18) (v := ?_) rfl (by kernel_rfl) (by kernel_rfl) (by kernel_rfl) (fun _ _ _ h => h) (Or.inl ⟨by rfl, ?_⟩) hH16 ?_
    rotate_left
    · ((intro W hW; obtain ⟨s0, s1, s2, s3, s4, s5, s6, s7, s8, s9, s10, s11, s12, s13, s14, s15, s16, s17⟩ := hW; go_simp) <;> with_reducible rfl)
    simp only [Act.put, List.getElem_toArray, List.getElem_cons_zero, List.getElem_cons_succ, List.setIfInBounds_toArray, List.set_cons_zero, List.set_cons_succ]
    refine wpAnyH_take (i := 19) (v := ?_) rfl (by kernel_rfl) (by kernel_rfl) (by kernel_rfl) (fun _ _ _ h => h) (Or.inl ⟨by rfl, ?_⟩) hH16 ?_
    rotate_left
    · ((intro W hW; obtain ⟨s0, s1, s2, s3, s4, s5, s6, s7, s8, s9, s10, s11, s12, s13, s14, s15, s16, s17⟩ := hW; go_simp) <;> with_reducible rfl)
    simp only [Act.put, List.getElem_toArray, List.getElem_cons_zero, List.getElem_cons_succ, List.setIfInBounds_toArray, List.set_cons_zero, List.set_cons_succ]
    refine wpAnyH_ready (rs := [11]) (by kernel_rfl) (by simp) ?_
    refine AllReadyH.cons (o := _) rfl (fun K hK => ?_) AllReadyH.nil
    simp only [List.getElem_toArray, List.getElem_cons_zero, List.getElem_cons_succ]
    go_simp
    with_reducible refine (K6.out _).mono ?_
    rintro e v17 ⟨rfl, b17⟩
    dsimp only
    have bel17 := bel16.trans (b17.mono bel16.size)
    refine hK.out _ _ ⟨(b17.cell (p := ⟨_, 0, none⟩) za).trans hH16.1, (b17.cell (p := ⟨_, 1, none⟩) za).trans hH16.2.1, (b17.cell (p := ⟨_, 2, none⟩) za).trans hH16.2.2.1, (b17.cell (p := ⟨_, 3, none⟩) za).trans hH16.2.2.2.1, (b17.cell (p := ⟨_, 0, none⟩) zb).trans hH16.2.2.2.2.1, (b17.cell (p := ⟨_, 1, none⟩) zb).trans hH16.2.2.2.2.2.1, (b17.cell (p := ⟨_, 2, none⟩) zb).trans hH16.2.2.2.2.2.2.1, (b17.cell (p := ⟨_, 3, none⟩) zb).trans hH16.2.2.2.2.2.2.2.1, (b17.cell (p := ⟨_, 0, none⟩) zx).trans hH16.2.2.2.2.2.2.2.2.1, (b17.cell (p := ⟨_, 1, none⟩) zx).trans hH16.2.2.2.2.2.2.2.2.2.1, (b17.cell (p := ⟨_, 2, none⟩) zx).trans hH16.2.2.2.2.2.2.2.2.2.2.1, (b17.cell (p := ⟨_, 3, none⟩) zx).trans hH16.2.2.2.2.2.2.2.2.2.2.2.1, (b17.cell (p := ⟨_, 4, none⟩) zx).trans hH16.2.2.2.2.2.2.2.2.2.2.2.2.1, (b17.cell (p := ⟨_, 0, none⟩) zy).trans hH16.2.2.2.2.2.2.2.2.2.2.2.2.2.1, (b17.cell (p := ⟨_, 1, none⟩) zy).trans hH16.2.2.2.2.2.2.2.2.2.2.2.2.2.2.1, (b17.cell (p := ⟨_, 2, none⟩) zy).trans hH16.2.2.2.2.2.2.2.2.2.2.2.2.2.2.2.1, (b17.cell (p := ⟨_, 3, none⟩) zy).trans hH16.2.2.2.2.2.2.2.2.2.2.2.2.2.2.2.2.1, (b17.cell (p := ⟨_, 4, none⟩) zy).trans hH16.2.2.2.2.2.2.2.2.2.2.2.2.2.2.2.2.2⟩ (fun hH17 => ?_)
    clear hK K
    replace za := Nat.lt_of_lt_of_le za b17.size
    replace zb := Nat.lt_of_lt_of_le zb b17.size
    replace zx := Nat.lt_of_lt_of_le zx b17.size
    replace zy := Nat.lt_of_lt_of_le zy b17.size
    refine wpAnyH_ready (rs := [12]) (by kernel_rfl) (by simp) ?_
    refine AllReadyH.cons (o := _) rfl (fun K hK => ?_) AllReadyH.nil
    simp only [List.getElem_toArray, List.getElem_cons_zero, List.getElem_cons_succ]
    go_simp
    with_reducible refine (J6.out _).mono ?_
    rintro e v18 ⟨rfl, b18⟩
    dsimp only
    have bel18 := bel17.trans (b18.mono bel17.size)
    refine hK.out _ _ ⟨(b18.cell (p := ⟨_, 0, none⟩) za).trans hH17.1, (b18.cell (p := ⟨_, 1, none⟩) za).trans hH17.2.1, (b18.cell (p := ⟨_, 2, none⟩) za).trans hH17.2.2.1, (b18.cell (p := ⟨_, 3, none⟩) za).trans hH17.2.2.2.1, (b18.cell (p := ⟨_, 0, none⟩) zb).trans hH17.2.2.2.2.1, (b18.cell (p := ⟨_, 1, none⟩) zb).trans hH17.2.2.2.2.2.1, (b18.cell (p := ⟨_, 2, none⟩) zb).trans hH17.2.2.2.2.2.2.1, (b18.cell (p := ⟨_, 3, none⟩) zb).trans hH17.2.2.2.2.2.2.2.1, (b18.cell (p := ⟨_, 0, none⟩) zx).trans hH17.2.2.2.2.2.2.2.2.1, (b18.cell (p := ⟨_, 1, none⟩) zx).trans hH17.2.2.2.2.2.2.2.2.2.1, (b18.cell (p := ⟨_, 2, none⟩) zx).trans hH17.2.2.2.2.2.2.2.2.2.2.1, (b18.cell (p := ⟨_, 3, none⟩) zx).trans hH17.2.2.2.2.2.2.2.2.2.2.2.1, (b18.cell (p := ⟨_, 4, none⟩) zx).trans hH17.2.2.2.2.2.2.2.2.2.2.2.2.1, (b18.cell (p := ⟨_, 0, none⟩) zy).trans hH17.2.2.2.2.2.2.2.2.2.2.2.2.2.1, (b18.cell (p := ⟨_, 1, none⟩) zy).trans hH17.2.2.2.2.2.2.2.2.2.2.2.2.2.2.1, (b18.cell (p := ⟨_, 2, none⟩) zy).trans hH17.2.2.2.2.2.2.2.2.2.2.2.2.2.2.2.1, (b18.cell (p := ⟨_, 3, none⟩) zy).trans hH17.2.2.2.2.2.2.2.2.2.2.2.2.2.2.2.2.1, (b18.cell (p := ⟨_, 4, none⟩) zy).trans hH17.2.2.2.2.2.2.2.2.2.2.2.2.2.2.2.2.2⟩ (fun hH18 => ?_)
    clear hK K
    replace za := Nat.lt_of_lt_of_le za b18.size
    replace zb := Nat.lt_of_lt_of_le zb b18.size
    replace zx := Nat.lt_of_lt_of_le zx b18.size
    replace zy := Nat.lt_of_lt_of_le zy b18.size
    refine wpAnyH_ready (rs := [14]) (by kernel_rfl) (by simp) ?_
    refine AllReadyH.cons (o := _) rfl (fun K hK => ?_) AllReadyH.nil
    simp only [List.getElem_toArray, List.getElem_cons_zero, List.getElem_cons_succ]
    go_simp
    with_reducible refine (K7.out _).mono ?_
    rintro e v19 ⟨rfl, b19⟩
    dsimp only
    have bel19 := bel18.trans (b19.mono bel18.size)
    refine hK.out _ _ ⟨(b19.cell (p := ⟨_, 0, none⟩) za).trans hH18.1, (b19.cell (p := ⟨_, 1, none⟩) za).trans hH18.2.1, (b19.cell (p := ⟨_, 2, none⟩) za).trans hH18.2.2.1, (b19.cell (p := ⟨_, 3, none⟩) za).trans hH18.2.2.2.1, (b19.cell (p := ⟨_, 0, none⟩) zb).trans hH18.2.2.2.2.1, (b19.cell (p := ⟨_, 1, none⟩) zb).trans hH18.2.2.2.2.2.1, (b19.cell (p := ⟨_, 2, none⟩) zb).trans hH18.2.2.2.2.2.2.1, (b19.cell (p := ⟨_, 3, none⟩) zb).trans hH18.2.2.2.2.2.2.2.1, (b19.cell (p := ⟨_, 0, none⟩) zx).trans hH18.2.2.2.2.2.2.2.2.1, (b19.cell (p := ⟨_, 1, none⟩) zx).trans hH18.2.2.2.2.2.2.2.2.2.1, (b19.cell (p := ⟨_, 2, none⟩) zx).trans hH18.2.2.2.2.2.2.2.2.2.2.1, (b19.cell (p := ⟨_, 3, none⟩) zx).trans hH18.2.2.2.2.2.2.2.2.2.2.2.1, (b19.cell (p := ⟨_, 4, none⟩) zx).trans hH18.2.2.2.2.2.2.2.2.2.2.2.2.1, (b19.cell (p := ⟨_, 0, none⟩) zy).trans hH18.2.2.2.2.2.2.2.2.2.2.2.2.2.1, (b19.cell (p := ⟨_, 1, none⟩) zy).trans hH18.2.2.2.2.2.2.2.2.2.2.2.2.2.2.1, (b19.cell (p := ⟨_, 2, none⟩) zy).trans hH18.2.2.2.2.2.2.2.2.2.2.2.2.2.2.2.1, (b19.cell (p := ⟨_, 3, none⟩) zy).trans hH18.2.2.2.2.2.2.2.2.2.2.2.2.2.2.2.2.1, (b19.cell (p := ⟨_, 4, none⟩) zy).trans hH18.2.2.2.2.2.2.2.2.2.2.2.2.2.2.2.2.2⟩ (fun hH19 => ?_)
    clear hK K
    replace za := Nat.lt_of_lt_of_le za b19.size
    replace zb := Nat.lt_of_lt_of_le zb b19.size
    replace zx := Nat.lt_of_lt_of_le zx b19.size
    replace zy := Nat.lt_of_lt_of_le zy b19.size
    refine wpAnyH_ready (rs := [15]) (by kernel_rfl) (by simp) ?_
    refine AllReadyH.cons (o := _) rfl (fun K hK => ?_) AllReadyH.nil
    simp only [List.getElem_toArray, List.getElem_cons_zero, List.getElem_cons_succ]
    go_simp
    with_reducible refine (J7.out _).mono ?_
    rintro e v20 ⟨rfl, b20⟩
    dsimp only
    have bel20 := bel19.trans (b20.mono bel19.size)
    refine hK.out _ _ ⟨(b20.cell (p := ⟨_, 0, none⟩) za).trans hH19.1, (b20.cell (p := ⟨_, 1, none⟩) za).trans hH19.2.1, (b20.cell (p := ⟨_, 2, none⟩) za).trans hH19.2.2.1, (b20.cell (p := ⟨_, 3, none⟩) za).trans hH19.2.2.2.1, (b20.cell (p := ⟨_, 0, none⟩) zb).trans hH19.2.2.2.2.1, (b20.cell (p := ⟨_, 1, none⟩) zb).trans hH19.2.2.2.2.2.1, (b20.cell (p := ⟨_, 2, none⟩) zb).trans hH19.2.2.2.2.2.2.1, (b20.cell (p := ⟨_, 3, none⟩) zb).trans hH19.2.2.2.2.2.2.2.1, (b20.cell (p := ⟨_, 0, none⟩) zx).trans hH19.2.2.2.2.2.2.2.2.1, (b20.cell (p := ⟨_, 1, none⟩) zx).trans hH19.2.2.2.2.2.2.2.2.2.1, (b20.cell (p := ⟨_, 2, none⟩) zx).trans hH19.2.2.2.2.2.2.2.2.2.2.1, (b20.cell (p := ⟨_, 3, none⟩) zx).trans hH19.2.2.2.2.2.2.2.2.2.2.2.1, (b20.cell (p := ⟨_, 4, none⟩) zx).trans hH19.2.2.2.2.2.2.2.2.2.2.2.2.1, (b20.cell (p := ⟨_, 0, none⟩) zy).trans hH19.2.2.2.2.2.2.2.2.2.2.2.2.2.1, (b20.cell (p := ⟨_, 1, none⟩) zy).trans hH19.2.2.2.2.2.2.2.2.2.2.2.2.2.2.1, (b20.cell (p := ⟨_, 2, none⟩) zy).trans hH19.2.2.2.2.2.2.2.2.2.2.2.2.2.2.2.1, (b20.cell (p := ⟨_, 3, none⟩) zy).trans hH19.2.2.2.2.2.2.2.2.2.2.2.2.2.2.2.2.1, (b20.cell (p := ⟨_, 4, none⟩) zy).trans hH19.2.2.2.2.2.2.2.2.2.2.2.2.2.2.2.2.2⟩ (fun hH20 => ?_)
    clear hK K
    replace za := Nat.lt_of_lt_of_le za b20.size
    replace zb := Nat.lt_of_lt_of_le zb b20.size
    replace zx := Nat.lt_of_lt_of_le zx b20.size
    replace zy := Nat.lt_of_lt_of_le zy b20.size
    refine wpAnyH_take (i := 16) (v := ?_) rfl (by kernel_rfl) (by kernel_rfl) (by kernel_rfl) (fun _ _ _ h => h) (Or.inl ⟨by rfl, ?_⟩) hH20 ?_
    rotate_left
    · ((intro W hW; obtain ⟨s0, s1, s2, s3, s4, s5, s6, s7, s8, s9, s10, s11, s12, s13, s14, s15, s16, s17⟩ := hW; go_simp) <;> with_reducible rfl)
    simp only [Act.put, List.getElem_toArray, List.getElem_cons_zero, List.getElem_cons_succ, List.setIfInBounds_toArray, List.set_cons_zero, List.set_cons_succ]
    refine wpAnyH_take (i := 20) (v := ?_) rfl (by kernel_rfl) (by kernel_rfl) (by kernel_rfl) (fun _ _ _ h => h) (Or.inl ⟨by rfl, ?_⟩) hH20 ?_
    rotate_left
    · ((intro W hW; obtain ⟨s0, s1, s2, s3, s4, s5, s6, s7, s8, s9, s10, s11, s12, s13, s14, s15, s16, s17⟩ := hW; go_simp) <;> with_reducible rfl)
    simp only [Act.put, List.getElem_toArray, List.getElem_cons_zero, List.getElem_cons_succ, List.setIfInBounds_toArray, List.set_cons_zero, List.set_cons_succ]
    refine wpAnyH_take (i := 21) (v := ?_) rfl (by kernel_rfl) (by kernel_rfl) (by kernel_rfl) (fun _ _ _ h => h) (Or.inl ⟨by rfl, ?_⟩) hH20 ?_
    rotate_left
    · ((intro W hW; obtain ⟨s0, s1, s2, s3, s4, s5, s6, s7, s8, s9, s10, s11, s12, s13, s14, s15, s16, s17⟩ := hW; go_simp) <;> with_reducible rfl)
    simp only [Act.put, List.getElem_toArray, List.getElem_cons_zero, List.getElem_cons_succ, List.setIfInBounds_toArray, List.set_cons_zero, List.set_cons_succ]
    refine wpAnyH_take (i := 22) (v := ?_) rfl (by kernel_rfl) (by kernel_rfl) (by kernel_rfl) (fun _ _ _ h => h) (Or.inl ⟨by rfl, ?_⟩) hH20 ?_
    rotate_left
    · ((intro W hW; obtain ⟨s0, s1, s2, s3, s4, s5, s6, s7, s8, s9, s10, s11, s12, s13, s14, s15, s16, s17⟩ := hW; go_simp) <;> with_reducible rfl)
    simp only [Act.put, List.getElem_toArray, List.getElem_cons_zero, List.getElem_cons_succ, List.setIfInBounds_toArray, List.set_cons_zero, List.set_cons_succ]
    refine wpAnyH_take (i := 23) (v := ?_) rfl (by kernel_rfl) (by kernel_rfl) (by kernel_rfl) (fun _ _ _ h => h) (Or.inl ⟨by rfl, ?_⟩) hH20 ?_
    rotate_left
    · ((intro W hW; obtain ⟨s0, s1, s2, s3, s4, s5, s6, s7, s8, s9, s10, s11, s12, s13, s14, s15, s16, s17⟩ := hW; go_simp) <;> with_reducible rfl)
    simp only [Act.put, List.getElem_toArray, List.getElem_cons_zero, List.getElem_cons_succ, List.setIfInBounds_toArray, List.set_cons_zero, List.set_cons_succ]
    refine wpAnyH_take (i := 24) (v := ?_) rfl (by kernel_rfl) (by kernel_rfl) (by kernel_rfl) (fun _ _ _ h => h) (Or.inl ⟨by rfl, ?_⟩) hH20 ?_
    rotate_left
    · ((intro W hW; obtain ⟨s0, s1, s2, s3, s4, s5, s6, s7, s8, s9, s10, s11, s12, s13, s14, s15, s16, s17⟩ := hW; go_simp) <;> with_reducible rfl)
    simp only [Act.put, List.getElem_toArray, List.getElem_cons_zero, List.getElem_cons_succ, List.setIfInBounds_toArray, List.set_cons_zero, List.set_cons_succ]
    refine wpAnyH_take (i := 25) (v := ?_) rfl (by kernel_rfl) (by kernel_rfl) (by kernel_rfl) (fun _ _ _ h => h) (Or.inl ⟨by rfl, ?_⟩) hH20 ?_
    rotate_left
    · ((intro W hW; obtain ⟨s0, s1, s2, s3, s4, s5, s6, s7, s8, s9, s10, s11, s12, s13, s14, s15, s16, s17⟩ := hW; go_simp) <;> with_reducible rfl)
    simp only [Act.put, List.getElem_toArray, List.getElem_cons_zero, List.getElem_cons_succ, List.setIfInBounds_toArray, List.set_cons_zero, List.set_cons_succ]
    refine wpAnyH_take (i := 27) (v := ?_) rfl (by kernel_rfl) (by kernel_rfl) (by kernel_rfl) (fun _ _ _ h => h) (Or.inl ⟨by rfl, ?_⟩) hH20 ?_
    rotate_left
    · ((intro W hW; obtain ⟨s0, s1, s2, s3, s4, s5, s6, s7, s8, s9, s10, s11, s12, s13, s14, s15, s16, s17⟩ := hW; go_simp) <;> with_reducible rfl)
    simp only [Act.put, List.getElem_toArray, List.getElem_cons_zero, List.getElem_cons_succ, List.setIfInBounds_toArray, List.set_cons_zero, List.set_cons_succ]
    refine wpAnyH_take (i := 28) (v := ?_) rfl (by kernel_rfl) (by kernel_rfl) (by kernel_rfl) (fun _ _ _ h => h) (Or.inl ⟨by rfl, ?_⟩) hH20 ?_
    rotate_left
    · ((intro W hW; obtain ⟨s0, s1, s2, s3, s4, s5, s6, s7, s8, s9, s10, s11, s12, s13, s14, s15, s16, s17⟩ := hW; go_simp) <;> with_reducible rfl)
    simp only [Act.put, List.getElem_toArray, List.getElem_cons_zero, List.getElem_cons_succ, List.setIfInBounds_toArray, List.set_cons_zero, List.set_cons_succ]
    refine wpAnyH_take (i := 29) (v := ?_) rfl (by kernel_rfl) (by kernel_rfl) (by kernel_rfl) (fun _ _ _ h => h) (Or.inl ⟨by rfl, ?_⟩) hH20 ?_
    rotate_left
    · ((intro W hW; obtain ⟨s0, s1, s2, s3, s4, s5, s6, s7, s8, s9, s10, s11, s12, s13, s14, s15, s16, s17⟩ := hW; go_simp) <;> with_reducible rfl)
    simp only [Act.put, List.getElem_toArray, List.getElem_cons_zero, List.getElem_cons_succ, List.setIfInBounds_toArray, List.set_cons_zero, List.set_cons_succ]
    refine wpAnyH_ready (rs := [26]) (by kernel_rfl) (by simp) ?_
    refine AllReadyH.cons (o := _) rfl (fun K hK => ?_) AllReadyH.nil
    simp only [List.getElem_toArray, List.getElem_cons_zero, List.getElem_cons_succ]
    go_simp
    with_reducible refine (K3.out _).mono ?_
    rintro e v21 ⟨rfl, b21⟩
    dsimp only
    have bel21 := bel20.trans (b21.mono bel20.size)
    refine hK.out _ _ ⟨(b21.cell (p := ⟨_, 0, none⟩) za).trans hH20.1, (b21.cell (p := ⟨_, 1, none⟩) za).trans hH20.2.1, (b21.cell (p := ⟨_, 2, none⟩) za).trans hH20.2.2.1, (b21.cell (p := ⟨_, 3, none⟩) za).trans hH20.2.2.2.1, (b21.cell (p := ⟨_, 0, none⟩) zb).trans hH20.2.2.2.2.1, (b21.cell (p := ⟨_, 1, none⟩) zb).trans hH20.2.2.2.2.2.1, (b21.cell (p := ⟨_, 2, none⟩) zb).trans hH20.2.2.2.2.2.2.1, (b21.cell (p := ⟨_, 3, none⟩) zb).trans hH20.2.2.2.2.2.2.2.1, (b21.cell (p := ⟨_, 0, none⟩) zx).trans hH20.2.2.2.2.2.2.2.2.1, (b21.cell (p := ⟨_, 1, none⟩) zx).trans hH20.2.2.2.2.2.2.2.2.2.1, (b21.cell (p := ⟨_, 2, none⟩) zx).trans hH20.2.2.2.2.2.2.2.2.2.2.1, (b21.cell (p := ⟨_, 3, none⟩) zx).trans hH20.2.2.2.2.2.2.2.2.2.2.2.1, (b21.cell (p := ⟨_, 4, none⟩) zx).trans hH20.2.2.2.2.2.2.2.2.2.2.2.2.1, (b21.cell (p := ⟨_, 0, none⟩) zy).trans hH20.2.2.2.2.2.2.2.2.2.2.2.2.2.1, (b21.cell (p := ⟨_, 1, none⟩) zy).trans hH20.2.2.2.2.2.2.2.2.2.2.2.2.2.2.1, (b21.cell (p := ⟨_, 2, none⟩) zy).trans hH20.2.2.2.2.2.2.2.2.2.2.2.2.2.2.2.1, (b21.cell (p := ⟨_, 3, none⟩) zy).trans hH20.2.2.2.2.2.2.2.2.2.2.2.2.2.2.2.2.1, (b21.cell (p := ⟨_, 4, none⟩) zy).trans hH20.2.2.2.2.2.2.2.2.2.2.2.2.2.2.2.2.2⟩ (fun hH21 => ?_)
    clear hK K
    replace za := Nat.lt_of_lt_of_le za b21.size
    replace zb := Nat.lt_of_lt_of_le zb b21.size
    replace zx := Nat.lt_of_lt_of_le zx b21.size
    replace zy := Nat.lt_of_lt_of_le zy b21.size
    refine wpAnyH_take (i := 30) (v := ?_) rfl (by kernel_rfl) (by kernel_rfl) (by kernel_rfl) (fun _ _ _ h => h) (Or.inl ⟨by rfl, ?_⟩) hH21 ?_
    rotate_left
    · ((intro W hW; obtain ⟨s0, s1, s2, s3, s4, s5, s6, s7, s8, s9, s10, s11, s12, s13, s14, s15, s16, s17⟩ := hW; go_simp) <;> with_reducible rfl)
    simp only [Act.put, List.getElem_toArray, List.getElem_cons_zero, List.getElem_cons_succ, List.setIfInBounds_toArray, List.set_cons_zero, List.set_cons_succ]
    refine wpAnyH_take (i := 31) (v := ?_) rfl (by kernel_rfl) (by kernel_rfl) (by kernel_rfl) (fun _ _ _ h => h) (Or.inl ⟨by rfl, ?_⟩) hH21 ?_
    rotate_left
    · ((intro W hW; obtain ⟨s0, s1, s2, s3, s4, s5, s6, s7, s8, s9, s10, s11, s12, s13, s14, s15, s16, s17⟩ := hW; go_simp) <;> with_reducible rfl)
    simp only [Act.put, List.getElem_toArray, List.getElem_cons_zero, List.getElem_cons_succ, List.setIfInBounds_toArray, List.set_cons_zero, List.set_cons_succ]
    refine wpAnyH_take (i := 32) (v := ?_) rfl (by kernel_rfl) (by kernel_rfl) (by kernel_rfl) (fun _ _ _ h => h) (Or.inl ⟨by rfl, ?_⟩) hH21 ?_
    rotate_left
    · ((intro W hW; obtain ⟨s0, s1, s2, s3, s4, s5, s6, s7, s8, s9, s10, s11, s12, s13, s14, s15, s16, s17⟩ := hW; go_simp) <;> with_reducible rfl)
    simp only [Act.put, List.getElem_toArray, List.getElem_cons_zero, List.getElem_cons_succ, List.setIfInBounds_toArray, List.set_cons_zero, List.set_cons_succ]
    refine wpAnyH_done (by kernel_rfl) ?_ _
    go_wp2
    go_ret
    exact ⟨rfl, bel21⟩
  · replace ha := (Go.heap_alloc_old w1 (.cells #[.int .u8 (a.toNat : Int), .int .u8 (b.toNat : Int), .int .u8 (c.toNat : Int), .int .u8 (d.toNat : Int), .int .i64 ((m : Int) + 1)] 29) (r := w.heap.size) za).trans ha
    replace hb := (Go.heap_alloc_old w1 (.cells #[.int .u8 (a.toNat : Int), .int .u8 (b.toNat : Int), .int .u8 (c.toNat : Int), .int .u8 (d.toNat : Int), .int .i64 ((m : Int) + 1)] 29) (r := w.heap.size + 1) zb).trans hb
    have hy := heap_alloc_new w1 (.cells #[.int .u8 (a.toNat : Int), .int .u8 (b.toNat : Int), .int .u8 (c.toNat : Int), .int .u8 (d.toNat : Int), .int .i64 ((m : Int) + 1)] 29)
    replace za := Nat.lt_trans za (show w1.heap.size < (w1.alloc (.cells #[.int .u8 (a.toNat : Int), .int .u8 (b.toNat : Int), .int .u8 (c.toNat : Int), .int .u8 (d.toNat : Int), .int .i64 ((m : Int) + 1)] 29)).heap.size by simp)
    replace zb := Nat.lt_trans zb (show w1.heap.size < (w1.alloc (.cells #[.int .u8 (a.toNat : Int), .int .u8 (b.toNat : Int), .int .u8 (c.toNat : Int), .int .u8 (d.toNat : Int), .int .i64 ((m : Int) + 1)] 29)).heap.size by simp)
    have zy : w1.heap.size < (w1.alloc (.cells #[.int .u8 (a.toNat : Int), .int .u8 (b.toNat : Int), .int .u8 (c.toNat : Int), .int .u8 (d.toNat : Int), .int .i64 ((m : Int) + 1)] 29)).heap.size := by simp
    replace bel := bel.alloc bel.size (.cells #[.int .u8 (a.toNat : Int), .int .u8 (b.toNat : Int), .int .u8 (c.toNat : Int), .int .u8 (d.toNat : Int), .int .i64 ((m : Int) + 1)] 29)
    replace ha := (Go.heap_alloc_old (w1.alloc (.cells #[.int .u8 (a.toNat : Int), .int .u8 (b.toNat : Int), .int .u8 (c.toNat : Int), .int .u8 (d.toNat : Int), .int .i64 ((m : Int) + 1)] 29)) (.cells #[.int .u8 (a.toNat : Int), .int .u8 (b.toNat : Int), .int .u8 (c.toNat : Int), .int .u8 (d.toNat : Int), .int .i64 (m : Int)] 29) (r := w.heap.size) za).trans ha
    replace hb := (Go.heap_alloc_old (w1.alloc (.cells #[.int .u8 (a.toNat : Int), .int .u8 (b.toNat : Int), .int .u8 (c.toNat : Int), .int .u8 (d.toNat : Int), .int .i64 ((m : Int) + 1)] 29)) (.cells #[.int .u8 (a.toNat : Int), .int .u8 (b.toNat : Int), .int .u8 (c.toNat : Int), .int .u8 (d.toNat : Int), .int .i64 (m : Int)] 29) (r := w.heap.size + 1) zb).trans hb
    replace hy := (Go.heap_alloc_old (w1.alloc (.cells #[.int .u8 (a.toNat : Int), .int .u8 (b.toNat : Int), .int .u8 (c.toNat : Int), .int .u8 (d.toNat : Int), .int .i64 ((m : Int) + 1)] 29)) (.cells #[.int .u8 (a.toNat : Int), .int .u8 (b.toNat : Int), .int .u8 (c.toNat : Int), .int .u8 (d.toNat : Int), .int .i64 (m : Int)] 29) (r := w1.heap.size) zy).trans hy
    have hx : ((w1.alloc (.cells #[.int .u8 (a.toNat : Int), .int .u8 (b.toNat : Int), .int .u8 (c.toNat : Int), .int .u8 (d.toNat : Int), .int .i64 ((m : Int) + 1)] 29)).alloc (.cells #[.int .u8 (a.toNat : Int), .int .u8 (b.toNat : Int), .int .u8 (c.toNat : Int), .int .u8 (d.toNat : Int), .int .i64 (m : Int)] 29)).heap[w1.heap.size + 1]? = some (.cells #[.int .u8 (a.toNat : Int), .int .u8 (b.toNat : Int), .int .u8 (c.toNat : Int), .int .u8 (d.toNat : Int), .int .i64 (m : Int)] 29 (0, 0)) := by have := heap_alloc_new (w1.alloc (.cells #[.int .u8 (a.toNat : Int), .int .u8 (b.toNat : Int), .int .u8 (c.toNat : Int), .int .u8 (d.toNat : Int), .int .i64 ((m : Int) + 1)] 29)) (.cells #[.int .u8 (a.toNat : Int), .int .u8 (b.toNat : Int), .int .u8 (c.toNat : Int), .int .u8 (d.toNat : Int), .int .i64 (m : Int)] 29); simpa using this
    replace za := Nat.lt_trans za (show (w1.alloc (.cells #[.int .u8 (a.toNat : Int), .int .u8 (b.toNat : Int), .int .u8 (c.toNat : Int), .int .u8 (d.toNat : Int), .int .i64 ((m : Int) + 1)] 29)).heap.size < ((w1.alloc (.cells #[.int .u8 (a.toNat : Int), .int .u8 (b.toNat : Int), .int .u8 (c.toNat : Int), .int .u8 (d.toNat : Int), .int .i64 ((m : Int) + 1)] 29)).alloc (.cells #[.int .u8 (a.toNat : Int), .int .u8 (b.toNat : Int), .int .u8 (c.toNat : Int), .int .u8 (d.toNat : Int), .int .i64 (m : Int)] 29)).heap.size by simp)
    replace zb := Nat.lt_trans zb (show (w1.alloc (.cells #[.int .u8 (a.toNat : Int), .int .u8 (b.toNat : Int), .int .u8 (c.toNat : Int), .int .u8 (d.toNat : Int), .int .i64 ((m : Int) + 1)] 29)).heap.size < ((w1.alloc (.cells #[.int .u8 (a.toNat : Int), .int .u8 (b.toNat : Int), .int .u8 (c.toNat : Int), .int .u8 (d.toNat : Int), .int .i64 ((m : Int) + 1)] 29)).alloc (.cells #[.int .u8 (a.toNat : Int), .int .u8 (b.toNat : Int), .int .u8 (c.toNat : Int), .int .u8 (d.toNat : Int), .int .i64 (m : Int)] 29)).heap.size by simp)
    replace zy := Nat.lt_trans zy (show (w1.alloc (.cells #[.int .u8 (a.toNat : Int), .int .u8 (b.toNat : Int), .int .u8 (c.toNat : Int), .int .u8 (d.toNat : Int), .int .i64 ((m : Int) + 1)] 29)).heap.size < ((w1.alloc (.cells #[.int .u8 (a.toNat : Int), .int .u8 (b.toNat : Int), .int .u8 (c.toNat : Int), .int .u8 (d.toNat : Int), .int .i64 ((m : Int) + 1)] 29)).alloc (.cells #[.int .u8 (a.toNat : Int), .int .u8 (b.toNat : Int), .int .u8 (c.toNat : Int), .int .u8 (d.toNat : Int), .int .i64 (m : Int)] 29)).heap.size by simp)
    have zx : w1.heap.size + 1 < ((w1.alloc (.cells #[.int .u8 (a.toNat : Int), .int .u8 (b.toNat : Int), .int .u8 (c.toNat : Int), .int .u8 (d.toNat : Int), .int .i64 ((m : Int) + 1)] 29)).alloc (.cells #[.int .u8 (a.toNat : Int), .int .u8 (b.toNat : Int), .int .u8 (c.toNat : Int), .int .u8 (d.toNat : Int), .int .i64 (m : Int)] 29)).heap.size := by simp
    replace bel := bel.alloc bel.size (.cells #[.int .u8 (a.toNat : Int), .int .u8 (b.toNat : Int), .int .u8 (c.toNat : Int), .int .u8 (d.toNat : Int), .int .i64 (m : Int)] 29)
    go_wp2_with fail
    have ya := za
    have yb := zb
    have yy := zy
    have yx := zx
    replace ha : ((w1.alloc (.cells #[.int .u8 (a.toNat : Int), .int .u8 (b.toNat : Int), .int .u8 (c.toNat : Int), .int .u8 (d.toNat : Int), .int .i64 ((m : Int) + 1)] 29)).alloc (.cells #[.int .u8 (a.toNat : Int), .int .u8 (b.toNat : Int), .int .u8 (c.toNat : Int), .int .u8 (d.toNat : Int), .int .i64 (m : Int)] 29)).drew.heap[w.heap.size]? = some (.cells #[.int .u8 (a.toNat : Int), .int .u8 (b.toNat : Int), .int .u8 (c.toNat : Int), .int .u8 (d.toNat : Int)] 24 (0, 0)) := ha
    replace za : w.heap.size < ((w1.alloc (.cells #[.int .u8 (a.toNat : Int), .int .u8 (b.toNat : Int), .int .u8 (c.toNat : Int), .int .u8 (d.toNat : Int), .int .i64 ((m : Int) + 1)] 29)).alloc (.cells #[.int .u8 (a.toNat : Int), .int .u8 (b.toNat : Int), .int .u8 (c.toNat : Int), .int .u8 (d.toNat : Int), .int .i64 (m : Int)] 29)).drew.heap.size := za
    replace hb : ((w1.alloc (.cells #[.int .u8 (a.toNat : Int), .int .u8 (b.toNat : Int), .int .u8 (c.toNat : Int), .int .u8 (d.toNat : Int), .int .i64 ((m : Int) + 1)] 29)).alloc (.cells #[.int .u8 (a.toNat : Int), .int .u8 (b.toNat : Int), .int .u8 (c.toNat : Int), .int .u8 (d.toNat : Int), .int .i64 (m : Int)] 29)).drew.heap[w.heap.size + 1]? = some (.cells #[.int .u8 (p1.toNat : Int), .int .u8 (p2.toNat : Int), .int .u8 (p3.toNat : Int), .int .u8 (p4.toNat : Int)] 24 (0, 0)) := hb
    replace zb : w.heap.size + 1 < ((w1.alloc (.cells #[.int .u8 (a.toNat : Int), .int .u8 (b.toNat : Int), .int .u8 (c.toNat : Int), .int .u8 (d.toNat : Int), .int .i64 ((m : Int) + 1)] 29)).alloc (.cells #[.int .u8 (a.toNat : Int), .int .u8 (b.toNat : Int), .int .u8 (c.toNat : Int), .int .u8 (d.toNat : Int), .int .i64 (m : Int)] 29)).drew.heap.size := zb
    replace hy : ((w1.alloc (.cells #[.int .u8 (a.toNat : Int), .int .u8 (b.toNat : Int), .int .u8 (c.toNat : Int), .int .u8 (d.toNat : Int), .int .i64 ((m : Int) + 1)] 29)).alloc (.cells #[.int .u8 (a.toNat : Int), .int .u8 (b.toNat : Int), .int .u8 (c.toNat : Int), .int .u8 (d.toNat : Int), .int .i64 (m : Int)] 29)).drew.heap[w1.heap.size]? = some (.cells #[.int .u8 (a.toNat : Int), .int .u8 (b.toNat : Int), .int .u8 (c.toNat : Int), .int .u8 (d.toNat : Int), .int .i64 ((m : Int) + 1)] 29 (0, 0)) := hy
    replace zy : w1.heap.size < ((w1.alloc (.cells #[.int .u8 (a.toNat : Int), .int .u8 (b.toNat : Int), .int .u8 (c.toNat : Int), .int .u8 (d.toNat : Int), .int .i64 ((m : Int) + 1)] 29)).alloc (.cells #[.int .u8 (a.toNat : Int), .int .u8 (b.toNat : Int), .int .u8 (c.toNat : Int), .int .u8 (d.toNat : Int), .int .i64 (m : Int)] 29)).drew.heap.size := zy
    replace hx : ((w1.alloc (.cells #[.int .u8 (a.toNat : Int), .int .u8 (b.toNat : Int), .int .u8 (c.toNat : Int), .int .u8 (d.toNat : Int), .int .i64 ((m : Int) + 1)] 29)).alloc (.cells #[.int .u8 (a.toNat : Int), .int .u8 (b.toNat : Int), .int .u8 (c.toNat : Int), .int .u8 (d.toNat : Int), .int .i64 (m : Int)] 29)).drew.heap[w1.heap.size + 1]? = some (.cells #[.int .u8 (a.toNat : Int), .int .u8 (b.toNat : Int), .int .u8 (c.toNat : Int), .int .u8 (d.toNat : Int), .int .i64 (m : Int)] 29 (0, 0)) := hx
    replace zx : w1.heap.size + 1 < ((w1.alloc (.cells #[.int .u8 (a.toNat : Int), .int .u8 (b.toNat : Int), .int .u8 (c.toNat : Int), .int .u8 (d.toNat : Int), .int .i64 ((m : Int) + 1)] 29)).alloc (.cells #[.int .u8 (a.toNat : Int), .int .u8 (b.toNat : Int), .int .u8 (c.toNat : Int), .int .u8 (d.toNat : Int), .int .i64 (m : Int)] 29)).drew.heap.size := zx
    replace bel := bel.drew
    clear ya yb yy yx
    generalize ((w1.alloc (.cells #[.int .u8 (a.toNat : Int), .int .u8 (b.toNat : Int), .int .u8 (c.toNat : Int), .int .u8 (d.toNat : Int), .int .i64 ((m : Int) + 1)] 29)).alloc (.cells #[.int .u8 (a.toNat : Int), .int .u8 (b.toNat : Int), .int .u8 (c.toNat : Int), .int .u8 (d.toNat : Int), .int .i64 (m : Int)] 29)).drew = v0 at ha za hb zb hy zy hx zx bel ⊢
    obtain ⟨⟨ca0, ca1, ca2, ca3⟩, _⟩ := cells4 ha
    obtain ⟨⟨cb0, cb1, cb2, cb3⟩, _⟩ := cells4 hb
    obtain ⟨⟨cx0, cx1, cx2, cx3, cx4⟩, _⟩ := cells5 hx
    obtain ⟨⟨cy0, cy1, cy2, cy3, cy4⟩, _⟩ := cells5 hy
    clear ha hb hx hy
    refine wp_region_held_drew (S := fun W => W.cell? ⟨w.heap.size, 0, none⟩ = some (.int .u8 (a.toNat : Int)) ∧ W.cell? ⟨w.heap.size, 1, none⟩ = some (.int .u8 (b.toNat : Int)) ∧ W.cell? ⟨w.heap.size, 2, none⟩ = some (.int .u8 (c.toNat : Int)) ∧ W.cell? ⟨w.heap.size, 3, none⟩ = some (.int .u8 (d.toNat : Int)) ∧ W.cell? ⟨w.heap.size + 1, 0, none⟩ = some (.int .u8 (p1.toNat : Int)) ∧ W.cell? ⟨w.heap.size + 1, 1, none⟩ = some (.int .u8 (p2.toNat : Int)) ∧ W.cell? ⟨w.heap.size + 1, 2, none⟩ = some (.int .u8 (p3.toNat : Int)) ∧ W.cell? ⟨w.heap.size + 1, 3, none⟩ = some (.int .u8 (p4.toNat : Int)) ∧ W.cell? ⟨w1.heap.size + 1, 0, none⟩ = some (.int .u8 (a.toNat : Int)) ∧ W.cell? ⟨w1.heap.size + 1, 1, none⟩ = some (.int .u8 (b.toNat : Int)) ∧ W.cell? ⟨w1.heap.size + 1, 2, none⟩ = some (.int .u8 (c.toNat : Int)) ∧ W.cell? ⟨w1.heap.size + 1, 3, none⟩ = some (.int .u8 (d.toNat : Int)) ∧ W.cell? ⟨w1.heap.size + 1, 4, none⟩ = some (.int .i64 (m : Int)) ∧ W.cell? ⟨w1.heap.size, 0, none⟩ = some (.int .u8 (a.toNat : Int)) ∧ W.cell? ⟨w1.heap.size, 1, none⟩ = some (.int .u8 (b.toNat : Int)) ∧ W.cell? ⟨w1.heap.size, 2, none⟩ = some (.int .u8 (c.toNat : Int)) ∧ W.cell? ⟨w1.heap.size, 3, none⟩ = some (.int .u8 (d.toNat : Int)) ∧ W.cell? ⟨w1.heap.size, 4, none⟩ = some (.int .i64 ((m : Int) + 1))) (by kernel_rfl) ⟨ca0, ca1, ca2, ca3, cb0, cb1, cb2, cb3, cx0, cx1, cx2, cx3, cx4, cy0, cy1, cy2, cy3, cy4⟩ (fun hH => ?_)
    refine wpAnyH_take (i := 0) (v := ?_) rfl (by kernel_rfl) (by kernel_rfl) (by kernel_rfl) (fun _ _ _ h => h) (Or.inl ⟨by rfl, ?_⟩) hH ?_
    rotate_left
    · ((intro W hW; obtain ⟨s0, s1, s2, s3, s4, s5, s6, s7, s8, s9, s10, s11, s12, s13, s14, s15, s16, s17⟩ := hW; go_simp) <;> with_reducible rfl)
    simp only [Act.put, List.getElem_toArray, List.getElem_cons_zero, List.setIfInBounds_toArray, List.set_cons_zero, List.set_cons_succ]
    refine wpAnyH_take (i := 3) (v := ?_) rfl (by kernel_rfl) (by kernel_rfl) (by kernel_rfl) (fun _ _ _ h => h) (Or.inl ⟨by rfl, ?_⟩) hH ?_
    rotate_left
    · ((intro W hW; obtain ⟨s0, s1, s2, s3, s4, s5, s6, s7, s8, s9, s10, s11, s12, s13, s14, s15, s16, s17⟩ := hW; go_simp) <;> with_reducible rfl)
    simp only [Act.put, List.getElem_toArray, List.getElem_cons_zero, List.getElem_cons_succ, List.setIfInBounds_toArray, List.set_cons_zero, List.set_cons_succ]
    refine wpAnyH_ready (rs := [1]) (by kernel_rfl) (by simp) ?_
    refine AllReadyH.cons (o := _) rfl (fun K hK => ?_) AllReadyH.nil
    simp only [List.getElem_toArray, List.getElem_cons_zero, List.getElem_cons_succ]
    go_simp
    with_reducible refine (K4.out _).mono ?_
    rintro e v11 ⟨rfl, b11⟩
    dsimp only
    have bel11 := bel.drew.trans (b11.mono bel.size)
    refine hK.out _ _ ⟨(b11.cell (p := ⟨_, 0, none⟩) za).trans hH.1, (b11.cell (p := ⟨_, 1, none⟩) za).trans hH.2.1, (b11.cell (p := ⟨_, 2, none⟩) za).trans hH.2.2.1, (b11.cell (p := ⟨_, 3, none⟩) za).trans hH.2.2.2.1, (b11.cell (p := ⟨_, 0, none⟩) zb).trans hH.2.2.2.2.1, (b11.cell (p := ⟨_, 1, none⟩) zb).trans hH.2.2.2.2.2.1, (b11.cell (p := ⟨_, 2, none⟩) zb).trans hH.2.2.2.2.2.2.1, (b11.cell (p := ⟨_, 3, none⟩) zb).trans hH.2.2.2.2.2.2.2.1, (b11.cell (p := ⟨_, 0, none⟩) zx).trans hH.2.2.2.2.2.2.2.2.1, (b11.cell (p := ⟨_, 1, none⟩) zx).trans hH.2.2.2.2.2.2.2.2.2.1, (b11.cell (p := ⟨_, 2, none⟩) zx).trans hH.2.2.2.2.2.2.2.2.2.2.1, (b11.cell (p := ⟨_, 3, none⟩) zx).trans hH.2.2.2.2.2.2.2.2.2.2.2.1, (b11.cell (p := ⟨_, 4, none⟩) zx).trans hH.2.2.2.2.2.2.2.2.2.2.2.2.1, (b11.cell (p := ⟨_, 0, none⟩) zy).trans hH.2.2.2.2.2.2.2.2.2.2.2.2.2.1, (b11.cell (p := ⟨_, 1, none⟩) zy).trans hH.2.2.2.2.2.2.2.2.2.2.2.2.2.2.1, (b11.cell (p := ⟨_, 2, none⟩) zy).trans hH.2.2.2.2.2.2.2.2.2.2.2.2.2.2.2.1, (b11.cell (p := ⟨_, 3, none⟩) zy).trans hH.2.2.2.2.2.2.2.2.2.2.2.2.2.2.2.2.1, (b11.cell (p := ⟨_, 4, none⟩) zy).trans hH.2.2.2.2.2.2.2.2.2.2.2.2.2.2.2.2.2⟩ (fun hH11 => ?_)
    clear hK K
    replace za := Nat.lt_of_lt_of_le za b11.size
    replace zb := Nat.lt_of_lt_of_le zb b11.size
    replace zx := Nat.lt_of_lt_of_le zx b11.size
    replace zy := Nat.lt_of_lt_of_le zy b11.size
    refine wpAnyH_ready (rs := [2]) (by kernel_rfl) (by simp) ?_
    refine AllReadyH.cons (o := _) rfl (fun K hK => ?_) AllReadyH.nil
    simp only [List.getElem_toArray, List.getElem_cons_zero, List.getElem_cons_succ]
    go_simp
    with_reducible refine (J4.out _).mono ?_
    rintro e v12 ⟨rfl, b12⟩
    dsimp only
    have bel12 := bel11.trans (b12.mono bel11.size)
    refine hK.out _ _ ⟨(b12.cell (p := ⟨_, 0, none⟩) za).trans hH11.1, (b12.cell (p := ⟨_, 1, none⟩) za).trans hH11.2.1, (b12.cell (p := ⟨_, 2, none⟩) za).trans hH11.2.2.1, (b12.cell (p := ⟨_, 3, none⟩) za).trans hH11.2.2.2.1, (b12.cell (p := ⟨_, 0, none⟩) zb).trans hH11.2.2.2.2.1, (b12.cell (p := ⟨_, 1, none⟩) zb).trans hH11.2.2.2.2.2.1, (b12.cell (p := ⟨_, 2, none⟩) zb).trans hH11.2.2.2.2.2.2.1, (b12.cell (p := ⟨_, 3, none⟩) zb).trans hH11.2.2.2.2.2.2.2.1, (b12.cell (p := ⟨_, 0, none⟩) zx).trans hH11.2.2.2.2.2.2.2.2.1, (b12.cell (p := ⟨_, 1, none⟩) zx).trans hH11.2.2.2.2.2.2.2.2.2.1, (b12.cell (p := ⟨_, 2, none⟩) zx).trans hH11.2.2.2.2.2.2.2.2.2.2.1, (b12.cell (p := ⟨_, 3, none⟩) zx).trans hH11.2.2.2.2.2.2.2.2.2.2.2.1, (b12.cell (p := ⟨_, 4, none⟩) zx).trans hH11.2.2.2.2.2.2.2.2.2.2.2.2.1, (b12.cell (p := ⟨_, 0, none⟩) zy).trans hH11.2.2.2.2.2.2.2.2.2.2.2.2.2.1, (b12.cell (p := ⟨_, 1, none⟩) zy).trans hH11.2.2.2.2.2.2.2.2.2.2.2.2.2.2.1, (b12.cell (p := ⟨_, 2, none⟩) zy).trans hH11.2.2.2.2.2.2.2.2.2.2.2.2.2.2.2.1, (b12.cell (p := ⟨_, 3, none⟩) zy).trans hH11.2.2.2.2.2.2.2.2.2.2.2.2.2.2.2.2.1, (b12.cell (p := ⟨_, 4, none⟩) zy).trans hH11.2.2.2.2.2.2.2.2.2.2.2.2.2.2.2.2.2⟩ (fun hH12 => ?_)
    clear hK K
    replace za := Nat.lt_of_lt_of_le za b12.size
    replace zb := Nat.lt_of_lt_of_le zb b12.size
    replace zx := Nat.lt_of_lt_of_le zx b12.size
    replace zy := Nat.lt_of_lt_of_le zy b12.size
    refine wpAnyH_ready (rs := [4]) (by kernel_rfl) (by simp) ?_
    refine AllReadyH.cons (o := _) rfl (fun K hK => ?_) AllReadyH.nil
    simp only [List.getElem_toArray, List.getElem_cons_zero, List.getElem_cons_succ]
    go_simp
    with_reducible refine (K5.out _).mono ?_
    rintro e v13 ⟨rfl, b13⟩
    dsimp only
    have bel13 := bel12.trans (b13.mono bel12.size)
    refine hK.out _ _ ⟨(b13.cell (p := ⟨_, 0, none⟩) za).trans hH12.1, (b13.cell (p := ⟨_, 1, none⟩) za).trans hH12.2.1, (b13.cell (p := ⟨_, 2, none⟩) za).trans hH12.2.2.1, (b13.cell (p := ⟨_, 3, none⟩) za).trans hH12.2.2.2.1, (b13.cell (p := ⟨_, 0, none⟩) zb).trans hH12.2.2.2.2.1, (b13.cell (p := ⟨_, 1, none⟩) zb).trans hH12.2.2.2.2.2.1, (b13.cell (p := ⟨_, 2, none⟩) zb).trans hH12.2.2.2.2.2.2.1, (b13.cell (p := ⟨_, 3, none⟩) zb).trans hH12.2.2.2.2.2.2.2.1, (b13.cell (p := ⟨_, 0, none⟩) zx).trans hH12.2.2.2.2.2.2.2.2.1, (b13.cell (p := ⟨_, 1, none⟩) zx).trans hH12.2.2.2.2.2.2.2.2.2.1, (b13.cell (p := ⟨_, 2, none⟩) zx).trans hH12.2.2.2.2.2.2.2.2.2.2.1, (b13.cell (p := ⟨_, 3, none⟩) zx).trans hH12.2.2.2.2.2.2.2.2.2.2.2.1, (b13.cell (p := ⟨_, 4, none⟩) zx).trans hH12.2.2.2.2.2.2.2.2.2.2.2.2.1, (b13.cell (p := ⟨_, 0, none⟩) zy).trans hH12.2.2.2.2.2.2.2.2.2.2.2.2.2.1, (b13.cell (p := ⟨_, 1, none⟩) zy).trans hH12.2.2.2.2.2.2.2.2.2.2.2.2.2.2.1, (b13.cell (p := ⟨_, 2, none⟩) zy).trans hH12.2.2.2.2.2.2.2.2.2.2.2.2.2.2.2.1, (b13.cell (p := ⟨_, 3, none⟩) zy).trans hH12.2.2.2.2.2.2.2.2.2.2.2.2.2.2.2.2.1, (b13.cell (p := ⟨_, 4, none⟩) zy).trans hH12.2.2.2.2.2.2.2.2.2.2.2.2.2.2.2.2.2⟩ (fun hH13 => ?_)
    clear hK K
    replace za := Nat.lt_of_lt_of_le za b13.size
    replace zb := Nat.lt_of_lt_of_le zb b13.size
    replace zx := Nat.lt_of_lt_of_le zx b13.size
    replace zy := Nat.lt_of_lt_of_le zy b13.size
    refine wpAnyH_ready (rs := [5]) (by kernel_rfl) (by simp) ?_
    refine AllReadyH.cons (o := _) rfl (fun K hK => ?_) AllReadyH.nil
    simp only [List.getElem_toArray, List.getElem_cons_zero, List.getElem_cons_succ]
    go_simp
    with_reducible refine (J5.out _).mono ?_
    rintro e v14 ⟨rfl, b14⟩
    dsimp only
    have bel14 := bel13.trans (b14.mono bel13.size)
    refine hK.out _ _ ⟨(b14.cell (p := ⟨_, 0, none⟩) za).trans hH13.1, (b14.cell (p := ⟨_, 1, none⟩) za).trans hH13.2.1, (b14.cell (p := ⟨_, 2, none⟩) za).trans hH13.2.2.1, (b14.cell (p := ⟨_, 3, none⟩) za).trans hH13.2.2.2.1, (b14.cell (p := ⟨_, 0, none⟩) zb).trans hH13.2.2.2.2.1, (b14.cell (p := ⟨_, 1, none⟩) zb).trans hH13.2.2.2.2.2.1, (b14.cell (p := ⟨_, 2, none⟩) zb).trans hH13.2.2.2.2.2.2.1, (b14.cell (p := ⟨_, 3, none⟩) zb).trans hH13.2.2.2.2.2.2.2.1, (b14.cell (p := ⟨_, 0, none⟩) zx).trans hH13.2.2.2.2.2.2.2.2.1, (b14.cell (p := ⟨_, 1, none⟩) zx).trans hH13.2.2.2.2.2.2.2.2.2.1, (b14.cell (p := ⟨_, 2, none⟩) zx).trans hH13.2.2.2.2.2.2.2.2.2.2.1, (b14.cell (p := ⟨_, 3, none⟩) zx).trans hH13.2.2.2.2.2.2.2.2.2.2.2.1, (b14.cell (p := ⟨_, 4, none⟩) zx).trans hH13.2.2.2.2.2.2.2.2.2.2.2.2.1, (b14.cell (p := ⟨_, 0, none⟩) zy).trans hH13.2.2.2.2.2.2.2.2.2.2.2.2.2.1, (b14.cell (p := ⟨_, 1, none⟩) zy).trans hH13.2.2.2.2.2.2.2.2.2.2.2.2.2.2.1, (b14.cell (p := ⟨_, 2, none⟩) zy).trans hH13.2.2.2.2.2.2.2.2.2.2.2.2.2.2.2.1, (b14.cell (p := ⟨_, 3, none⟩) zy).trans hH13.2.2.2.2.2.2.2.2.2.2.2.2.2.2.2.2.1, (b14.cell (p := ⟨_, 4, none⟩) zy).trans hH13.2.2.2.2.2.2.2.2.2.2.2.2.2.2.2.2.2⟩ (fun hH14 => ?_)
    clear hK K
    replace za := Nat.lt_of_lt_of_le za b14.size
    replace zb := Nat.lt_of_lt_of_le zb b14.size
    replace zx := Nat.lt_of_lt_of_le zx b14.size
    replace zy := Nat.lt_of_lt_of_le zy b14.size
    refine wpAnyH_take (i := 6) (v := ?_) rfl (by kernel_rfl) (by kernel_rfl) (by kernel_rfl) (fun _ _ _ h => h) (Or.inl ⟨by rfl, ?_⟩) hH14 ?_
    rotate_left
    · ((intro W hW; obtain ⟨s0, s1, s2, s3, s4, s5, s6, s7, s8, s9, s10, s11, s12, s13, s14, s15, s16, s17⟩ := hW; go_simp) <;> with_reducible rfl)
    simp only [Act.put, List.getElem_toArray, List.getElem_cons_zero, List.getElem_cons_succ, List.setIfInBounds_toArray, List.set_cons_zero, List.set_cons_succ]
    refine wpAnyH_take (i := 7) (v := ?_) rfl (by kernel_rfl) (by kernel_rfl) (by kernel_rfl) (fun _ _ _ h => h) (Or.inl ⟨by rfl, ?_⟩) hH14 ?_
    rotate_left
    · ((intro W hW; obtain ⟨s0, s1, s2, s3, s4, s5, s6, s7, s8, s9, s10, s11, s12, s13, s14, s15, s16, s17⟩ := hW; go_simp) <;> with_reducible rfl)
    simp only [Act.put, List.getElem_toArray, List.getElem_cons_zero, List.getElem_cons_succ, List.setIfInBounds_toArray, List.set_cons_zero, List.set_cons_succ]
    refine wpAnyH_done (by kernel_rfl) ?_ _
    go_wp2_with fail
    refine wp_region_held_drew (S := fun W => W.cell? ⟨w.heap.size, 0, none⟩ = some (.int .u8 (a.toNat : Int)) ∧ W.cell? ⟨w.heap.size, 1, none⟩ = some (.int .u8 (b.toNat : Int)) ∧ W.cell? ⟨w.heap.size, 2, none⟩ = some (.int .u8 (c.toNat : Int)) ∧ W.cell? ⟨w.heap.size, 3, none⟩ = some (.int .u8 (d.toNat : Int)) ∧ W.cell? ⟨w.heap.size + 1, 0, none⟩ = some (.int .u8 (p1.toNat : Int)) ∧ W.cell? ⟨w.heap.size + 1, 1, none⟩ = some (.int .u8 (p2.toNat : Int)) ∧ W.cell? ⟨w.heap.size + 1, 2, none⟩ = some (.int .u8 (p3.toNat : Int)) ∧ W.cell? ⟨w.heap.size + 1, 3, none⟩ = some (.int .u8 (p4.toNat : Int)) ∧ W.cell? ⟨w1.heap.size + 1, 0, none⟩ = some (.int .u8 (a.toNat : Int)) ∧ W.cell? ⟨w1.heap.size + 1, 1, none⟩ = some (.int .u8 (b.toNat : Int)) ∧ W.cell? ⟨w1.heap.size + 1, 2, none⟩ = some (.int .u8 (c.toNat : Int)) ∧ W.cell? ⟨w1.heap.size + 1, 3, none⟩ = some (.int .u8 (d.toNat : Int)) ∧ W.cell? ⟨w1.heap.size + 1, 4, none⟩ = some (.int .i64 (m : Int)) ∧ W.cell? ⟨w1.heap.size, 0, none⟩ = some (.int .u8 (a.toNat : Int)) ∧ W.cell? ⟨w1.heap.size, 1, none⟩ = some (.int .u8 (b.toNat : Int)) ∧ W.cell? ⟨w1.heap.size, 2, none⟩ = some (.int .u8 (c.toNat : Int)) ∧ W.cell? ⟨w1.heap.size, 3, none⟩ = some (.int .u8 (d.toNat : Int)) ∧ W.cell? ⟨w1.heap.size, 4, none⟩ = some (.int .i64 ((m : Int) + 1))) (by kernel_rfl) hH14 (fun hH => ?_)
    refine wpAnyH_take (i := 0) (v := ?_) rfl (by kernel_rfl) (by kernel_rfl) (by kernel_rfl) (fun _ _ _ h => h) (Or.inl ⟨by rfl, ?_⟩) hH ?_
    rotate_left
    · ((intro W hW; obtain ⟨s0, s1, s2, s3, s4, s5, s6, s7, s8, s9, s10, s11, s12, s13, s14, s15, s16, s17⟩ := hW; go_simp) <;> with_reducible rfl)
    simp only [Act.put, List.getElem_toArray, List.getElem_cons_zero, List.setIfInBounds_toArray, List.set_cons_zero, List.set_cons_succ]
    refine wpAnyH_take (i := 1) (v := ?_) rfl (by kernel_rfl) (by kernel_rfl) (by kernel_rfl) (fun _ _ _ h => h) (Or.inl ⟨by rfl, ?_⟩) hH ?_
    rotate_left
    · ((intro W hW; obtain ⟨s0, s1, s2, s3, s4, s5, s6, s7, s8, s9, s10, s11, s12, s13, s14, s15, s16, s17⟩ := hW; go_simp) <;> with_reducible rfl)
    simp only [Act.put, List.getElem_toArray, List.getElem_cons_zero, List.getElem_cons_succ, List.setIfInBounds_toArray, List.set_cons_zero, List.set_cons_succ]
    refine wpAnyH_ready (rs := [2]) (by kernel_rfl) (by simp) ?_
    refine AllReadyH.cons (o := _) rfl (fun K hK => ?_) AllReadyH.nil
    simp only [List.getElem_toArray, List.getElem_cons_zero, List.getElem_cons_succ]
    go_simp
    with_reducible refine (K1.out _).mono ?_
    rintro e v15 ⟨rfl, b15⟩
    dsimp only
    have bel15 := bel14.drew.trans (b15.mono bel14.size)
    refine hK.out _ _ ⟨(b15.cell (p := ⟨_, 0, none⟩) za).trans hH.1, (b15.cell (p := ⟨_, 1, none⟩) za).trans hH.2.1, (b15.cell (p := ⟨_, 2, none⟩) za).trans hH.2.2.1, (b15.cell (p := ⟨_, 3, none⟩) za).trans hH.2.2.2.1, (b15.cell (p := ⟨_, 0, none⟩) zb).trans hH.2.2.2.2.1, (b15.cell (p := ⟨_, 1, none⟩) zb).trans hH.2.2.2.2.2.1, (b15.cell (p := ⟨_, 2, none⟩) zb).trans hH.2.2.2.2.2.2.1, (b15.cell (p := ⟨_, 3, none⟩) zb).trans hH.2.2.2.2.2.2.2.1, (b15.cell (p := ⟨_, 0, none⟩) zx).trans hH.2.2.2.2.2.2.2.2.1, (b15.cell (p := ⟨_, 1, none⟩) zx).trans hH.2.2.2.2.2.2.2.2.2.1, (b15.cell (p := ⟨_, 2, none⟩) zx).trans hH.2.2.2.2.2.2.2.2.2.2.1, (b15.cell (p := ⟨_, 3, none⟩) zx).trans hH.2.2.2.2.2.2.2.2.2.2.2.1, (b15.cell (p := ⟨_, 4, none⟩) zx).trans hH.2.2.2.2.2.2.2.2.2.2.2.2.1, (b15.cell (p := ⟨_, 0, none⟩) zy).trans hH.2.2.2.2.2.2.2.2.2.2.2.2.2.1, (b15.cell (p := ⟨_, 1, none⟩) zy).trans hH.2.2.2.2.2.2.2.2.2.2.2.2.2.2.1, (b15.cell (p := ⟨_, 2, none⟩) zy).trans hH.2.2.2.2.2.2.2.2.2.2.2.2.2.2.2.1, (b15.cell (p := ⟨_, 3, none⟩) zy).trans hH.2.2.2.2.2.2.2.2.2.2.2.2.2.2.2.2.1, (b15.cell (p := ⟨_, 4, none⟩) zy).trans hH.2.2.2.2.2.2.2.2.2.2.2.2.2.2.2.2.2⟩ (fun hH15 => ?_)
    clear hK K
    replace za := Nat.lt_of_lt_of_le za b15.size
    replace zb := Nat.lt_of_lt_of_le zb b15.size
    replace zx := Nat.lt_of_lt_of_le zx b15.size
    replace zy := Nat.lt_of_lt_of_le zy b15.size
    refine wpAnyH_take (i := 3) (v := ?_) rfl (by kernel_rfl) (by kernel_rfl) (by kernel_rfl) (fun _ _ _ h => h) (Or.inl ⟨by rfl, ?_⟩) hH15 ?_
    rotate_left
    · ((intro W hW; obtain ⟨s0, s1, s2, s3, s4, s5, s6, s7, s8, s9, s10, s11, s12, s13, s14, s15, s16, s17⟩ := hW; go_simp) <;> with_reducible rfl)
    simp only [Act.put, List.getElem_toArray, List.getElem_cons_zero, List.getElem_cons_succ, List.setIfInBounds_toArray, List.set_cons_zero, List.set_cons_succ]
    refine wpAnyH_take (i := 4) (v := ?_) rfl (by kernel_rfl) (by kernel_rfl) (by kernel_rfl) (fun _ _ _ h => h) (Or.inl ⟨by rfl, ?_⟩) hH15 ?_
    rotate_left
    · ((intro W hW; obtain ⟨s0, s1, s2, s3, s4, s5, s6, s7, s8, s9, s10, s11, s12, s13, s14, s15, s16, s17⟩ := hW; go_simp) <;> with_reducible rfl)
    simp only [Act.put, List.getElem_toArray, List.getElem_cons_zero, List.getElem_cons_succ, List.setIfInBounds_toArray, List.set_cons_zero, List.set_cons_succ]
    refine wpAnyH_take (i := 5) (v := ?_) rfl (by kernel_rfl) (by kernel_rfl) (by kernel_rfl) (fun _ _ _ h => h) (Or.inl ⟨by rfl, ?_⟩) hH15 ?_
    rotate_left
    · ((intro W hW; obtain ⟨s0, s1, s2, s3, s4, s5, s6, s7, s8, s9, s10, s11, s12, s13, s14, s15, s16, s17⟩ := hW; go_simp) <;> with_reducible rfl)
    simp only [Act.put, List.getElem_toArray, List.getElem_cons_zero, List.getElem_cons_succ, List.setIfInBounds_toArray, List.set_cons_zero, List.set_cons_succ]
    refine wpAnyH_take (i := 6) (v := ?_) rfl (by kernel_rfl) (by kernel_rfl) (by kernel_rfl) (fun _ _ _ h => h) (Or.inl ⟨by rfl, ?_⟩) hH15 ?_
    rotate_left
    · ((intro W hW; obtain ⟨s0, s1, s2, s3, s4, s5, s6, s7, s8, s9, s10, s11, s12, s13, s14, s15, s16, s17⟩ := hW; go_simp) <;> with_reducible rfl)
    simp only [Act.put, List.getElem_toArray, List.getElem_cons_zero, List.getElem_cons_succ, List.setIfInBounds_toArray, List.set_cons_zero, List.set_cons_succ]
    refine wpAnyH_ready (rs := [7]) (by kernel_rfl) (by simp) ?_
    refine AllReadyH.cons (o := _) rfl (fun K hK => ?_) AllReadyH.nil
    simp only [List.getElem_toArray, List.getElem_cons_zero, List.getElem_cons_succ]
    go_simp
    with_reducible refine (K2.out _).mono ?_
    rintro e v16 ⟨rfl, b16⟩
    dsimp only
    have bel16 := bel15.trans (b16.mono bel15.size)
    refine hK.out _ _ ⟨(b16.cell (p := ⟨_, 0, none⟩) za).trans hH15.1, (b16.cell (p := ⟨_, 1, none⟩) za).trans hH15.2.1, (b16.cell (p := ⟨_, 2, none⟩) za).trans hH15.2.2.1, (b16.cell (p := ⟨_, 3, none⟩) za).trans hH15.2.2.2.1, (b16.cell (p := ⟨_, 0, none⟩) zb).trans hH15.2.2.2.2.1, (b16.cell (p := ⟨_, 1, none⟩) zb).trans hH15.2.2.2.2.2.1, (b16.cell (p := ⟨_, 2, none⟩) zb).trans hH15.2.2.2.2.2.2.1, (b16.cell (p := ⟨_, 3, none⟩) zb).trans hH15.2.2.2.2.2.2.2.1, (b16.cell (p := ⟨_, 0, none⟩) zx).trans hH15.2.2.2.2.2.2.2.2.1, (b16.cell (p := ⟨_, 1, none⟩) zx).trans hH15.2.2.2.2.2.2.2.2.2.1, (b16.cell (p := ⟨_, 2, none⟩) zx).trans hH15.2.2.2.2.2.2.2.2.2.2.1, (b16.cell (p := ⟨_, 3, none⟩) zx).trans hH15.2.2.2.2.2.2.2.2.2.2.2.1, (b16.cell (p := ⟨_, 4, none⟩) zx).trans hH15.2.2.2.2.2.2.2.2.2.2.2.2.1, (b16.cell (p := ⟨_, 0, none⟩) zy).trans hH15.2.2.2.2.2.2.2.2.2.2.2.2.2.1, (b16.cell (p := ⟨_, 1, none⟩) zy).trans hH15.2.2.2.2.2.2.2.2.2.2.2.2.2.2.1, (b16.cell (p := ⟨_, 2, none⟩) zy).trans hH15.2.2.2.2.2.2.2.2.2.2.2.2.2.2.2.1, (b16.cell (p := ⟨_, 3, none⟩) zy).trans hH15.2.2.2.2.2.2.2.2.2.2.2.2.2.2.2.2.1, (b16.cell (p := ⟨_, 4, none⟩) zy).trans hH15.2.2.2.2.2.2.2.2.2.2.2.2.2.2.2.2.2⟩ (fun hH16 => ?_)
    clear hK K
    replace za := Nat.lt_of_lt_of_le za b16.size
    replace zb := Nat.lt_of_lt_of_le zb b16.size
    replace zx := Nat.lt_of_lt_of_le zx b16.size
    replace zy := Nat.lt_of_lt_of_le zy b16.size
    refine wpAnyH_take (i := 8) (v := ?_) rfl (by kernel_rfl) (by kernel_rfl) (by kernel_rfl) (fun _ _ _ h => h) (Or.inl ⟨by rfl, ?_⟩) hH16 ?_
    rotate_left
    · ((intro W hW; obtain ⟨s0, s1, s2, s3, s4, s5, s6, s7, s8, s9, s10, s11, s12, s13, s14, s15, s16, s17⟩ := hW; go_simp) <;> with_reducible rfl)
    simp only [Act.put, List.getElem_toArray, List.getElem_cons_zero, List.getElem_cons_succ, List.setIfInBounds_toArray, List.set_cons_zero, List.set_cons_succ]
    refine wpAnyH_take (i := 9) (v := ?_) rfl (by kernel_rfl) (by kernel_rfl) (by kernel_rfl) (fun _ _ _ h => h) (Or.inl ⟨by rfl, ?_⟩) hH16 ?_
    rotate_left
    · ((intro W hW; obtain ⟨s0, s1, s2, s3, s4, s5, s6, s7, s8, s9, s10, s11, s12, s13, s14, s15, s16, s17⟩ := hW; go_simp) <;> with_reducible rfl)
    simp only [Act.put, List.getElem_toArray, List.getElem_cons_zero, List.getElem_cons_succ, List.setIfInBounds_toArray, List.set_cons_zero, List.set_cons_succ]
    refine wpAnyH_take (i := 10) (v := ?_) rfl (by kernel_rfl) (by kernel_rfl) (by kernel_rfl) (fun _ _ _ h => h) (Or.inl ⟨by rfl, ?_⟩) hH16 ?_
    rotate_left
    · ((intro W hW; obtain ⟨s0, s1, s2, s3, s4, s5, s6, s7, s8, s9, s10, s11, s12, s13, s14, s15, s16, s17⟩ := hW; go_simp) <;> with_reducible rfl)
    simp only [Act.put, List.getElem_toArray, List.getElem_cons_zero, List.getElem_cons_succ, List.setIfInBounds_toArray, List.set_cons_zero, List.set_cons_succ]
    refine wpAnyH_take (i := 13) (v := ?_) rfl (by kernel_rfl) (by kernel_rfl) (by kernel_rfl) (fun _ _ _ h => h) (Or.inl ⟨by rfl, ?_⟩) hH16 ?_
    rotate_left
    · ((intro W hW; obtain ⟨s0, s1, s2, s3, s4, s5, s6, s7, s8, s9, s10, s11, s12, s13, s14, s15, s16, s17⟩ := hW; go_simp) <;> with_reducible rfl)
    simp only [Act.put, List.getElem_toArray, List.getElem_cons_zero, List.getElem_cons_succ, List.setIfInBounds_toArray, List.set_cons_zero, List.set_cons_succ]
    refine wpAnyH_take (i := 17) (v := ?_) rfl (by kernel_rfl) (by kernel_rfl) (by kernel_rfl) (fun _ _ _ h => h) (Or.inl ⟨by rfl, ?_⟩) hH16 ?_
    rotate_left
    · ((intro W hW; obtain ⟨s0, s1, s2, s3, s4, s5, s6, s7, s8, s9, s10, s11, s12, s13, s14, s15, s16, s17⟩ := hW; go_simp) <;> with_reducible rfl)
    simp only [Act.put, List.getElem_toArray, List.getElem_cons_zero, List.getElem_cons_succ, List.setIfInBounds_toArray, List.set_cons_zero, List.set_cons_succ]
    refine wpAnyH_take (i := 18) (v := ?_) rfl (by kernel_rfl) (by kernel_rfl) (by kernel_rfl) (fun _ _ _ h => h) (Or.inl ⟨by rfl, ?_⟩) hH16 ?_
    rotate_left
    · ((intro W hW; obtain ⟨s0, s1, s2, s3, s4, s5, s6, s7, s8, s9, s10, s11, s12, s13, s14, s15, s16, s17⟩ := hW; go_simp) <;> with_reducible rfl)
    simp only [Act.put, List.getElem_toArray, List.getElem_cons_zero, List.getElem_cons_succ, List.setIfInBounds_toArray, List.set_cons_zero, List.set_cons_succ]
    refine wpAnyH_take (i := 19) (v := ?_) rfl (by kernel_rfl) (by kernel_rfl) (by kernel_rfl) (fun _ _ _ h => h) (Or.inl ⟨by rfl, ?_⟩) hH16 ?_
    rotate_left
    · ((intro W hW; obtain ⟨s0, s1, s2, s3, s4, s5, s6, s7, s8, s9, s10, s11, s12, s13, s14, s15, s16, s17⟩ := hW; go_simp) <;> with_reducible rfl)
    simp only [Act.put, List.getElem_toArray, List.getElem_cons_zero, List.getElem_cons_succ, List.setIfInBounds_toArray, List.set_cons_zero, List.set_cons_succ]
    refine wpAnyH_ready (rs := [11]) (by kernel_rfl) (by simp) ?_
    refine AllReadyH.cons (o := _) rfl (fun K hK => ?_) AllReadyH.nil
    simp only [List.getElem_toArray, List.getElem_cons_zero, List.getElem_cons_succ]
    go_simp
    with_reducible refine (K6.out _).mono ?_
    rintro e v17 ⟨rfl, b17⟩
    dsimp only
    have bel17 := bel16.trans (b17.mono bel16.size)
    refine hK.out _ _ ⟨(b17.cell (p := ⟨_, 0, none⟩) za).trans hH16.1, (b17.cell (p := ⟨_, 1, none⟩) za).trans hH16.2.1, (b17.cell (p := ⟨_, 2, none⟩) za).trans hH16.2.2.1, (b17.cell (p := ⟨_, 3, none⟩) za).trans hH16.2.2.2.1, (b17.cell (p := ⟨_, 0, none⟩) zb).trans hH16.2.2.2.2.1, (b17.cell (p := ⟨_, 1, none⟩) zb).trans hH16.2.2.2.2.2.1, (b17.cell (p := ⟨_, 2, none⟩) zb).trans hH16.2.2.2.2.2.2.1, (b17.cell (p := ⟨_, 3, none⟩) zb).trans hH16.2.2.2.2.2.2.2.1, (b17.cell (p := ⟨_, 0, none⟩) zx).trans hH16.2.2.2.2.2.2.2.2.1, (b17.cell (p := ⟨_, 1, none⟩) zx).trans hH16.2.2.2.2.2.2.2.2.2.1, (b17.cell (p := ⟨_, 2, none⟩) zx).trans hH16.2.2.2.2.2.2.2.2.2.2.1, (b17.cell (p := ⟨_, 3, none⟩) zx).trans hH16.2.2.2.2.2.2.2.2.2.2.2.1, (b17.cell (p := ⟨_, 4, none⟩) zx).trans hH16.2.2.2.2.2.2.2.2.2.2.2.2.1, (b17.cell (p := ⟨_, 0, none⟩) zy).trans hH16.2.2.2.2.2.2.2.2.2.2.2.2.2.1, (b17.cell (p := ⟨_, 1, none⟩) zy).trans hH16.2.2.2.2.2.2.2.2.2.2.2.2.2.2.1, (b17.cell (p := ⟨_, 2, none⟩) zy).trans hH16.2.2.2.2.2.2.2.2.2.2.2.2.2.2.2.1, (b17.cell (p := ⟨_, 3, none⟩) zy).trans hH16.2.2.2.2.2.2.2.2.2.2.2.2.2.2.2.2.1, (b17.cell (p := ⟨_, 4, none⟩) zy).trans hH16.2.2.2.2.2.2.2.2.2.2.2.2.2.2.2.2.2⟩ (fun hH17 => ?_)
    clear hK K
    replace za := Nat.lt_of_lt_of_le za b17.size
    replace zb := Nat.lt_of_lt_of_le zb b17.size
    replace zx := Nat.lt_of_lt_of_le zx b17.size
    replace zy := Nat.lt_of_lt_of_le zy b17.size
    refine wpAnyH_ready (rs := [12]) (by kernel_rfl) (by simp) ?_
    refine AllReadyH.cons (o := _) rfl (fun K hK => ?_) AllReadyH.nil
    simp only [List.getElem_toArray, List.getElem_cons_zero, List.getElem_cons_succ]
    go_simp
    with_reducible refine (J6.out _).mono ?_
    rintro e v18 ⟨rfl, b18⟩
    dsimp only
    have bel18 := bel17.trans (b18.mono bel17.size)
    refine hK.out _ _ ⟨(b18.cell (p := ⟨_, 0, none⟩) za).trans hH17.1, (b18.cell (p := ⟨_, 1, none⟩) za).trans hH17.2.1, (b18.cell (p := ⟨_, 2, none⟩) za).trans hH17.2.2.1, (b18.cell (p := ⟨_, 3, none⟩) za).trans hH17.2.2.2.1, (b18.cell (p := ⟨_, 0, none⟩) zb).trans hH17.2.2.2.2.1, (b18.cell (p := ⟨_, 1, none⟩) zb).trans hH17.2.2.2.2.2.1, (b18.cell (p := ⟨_, 2, none⟩) zb).trans hH17.2.2.2.2.2.2.1, (b18.cell (p := ⟨_, 3, none⟩) zb).trans hH17.2.2.2.2.2.2.2.1, (b18.cell (p := ⟨_, 0, none⟩) zx).trans hH17.2.2.2.2.2.2.2.2.1, (b18.cell (p := ⟨_, 1, none⟩) zx).trans hH17.2.2.2.2.2.2.2.2.2.1, (b18.cell (p := ⟨_, 2, none⟩) zx).trans hH17.2.2.2.2.2.2.2.2.2.2.1, (b18.cell (p := ⟨_, 3, none⟩) zx).trans hH17.2.2.2.2.2.2.2.2.2.2.2.1, (b18.cell (p := ⟨_, 4, none⟩) zx).trans hH17.2.2.2.2.2.2.2.2.2.2.2.2.1, (b18.cell (p := ⟨_, 0, none⟩) zy).trans hH17.2.2.2.2.2.2.2.2.2.2.2.2.2.1, (b18.cell (p := ⟨_, 1, none⟩) zy).trans hH17.2.2.2.2.2.2.2.2.2.2.2.2.2.2.1, (b18.cell (p := ⟨_, 2, none⟩) zy).trans hH17.2.2.2.2.2.2.2.2.2.2.2.2.2.2.2.1, (b18.cell (p := ⟨_, 3, none⟩) zy).trans hH17.2.2.2.2.2.2.2.2.2.2.2.2.2.2.2.2.1, (b18.cell (p := ⟨_, 4, none⟩) zy).trans hH17.2.2.2.2.2.2.2.2.2.2.2.2.2.2.2.2.2⟩ (fun hH18 => ?_)
    clear hK K
    replace za := Nat.lt_of_lt_of_le za b18.size
    replace zb := Nat.lt_of_lt_of_le zb b18.size
    replace zx := Nat.lt_of_lt_of_le zx b18.size
    replace zy := Nat.lt_of_lt_of_le zy b18.size
    refine wpAnyH_ready (rs := [14]) (by kernel_rfl) (by simp) ?_
    refine AllReadyH.cons (o := _) rfl (fun K hK => ?_) AllReadyH.nil
    simp only [List.getElem_toArray, List.getElem_cons_zero, List.getElem_cons_succ]
    go_simp
    with_reducible refine (K7.out _).mono ?_
    rintro e v19 ⟨rfl, b19⟩
    dsimp only
    have bel19 := bel18.trans (b19.mono bel18.size)
    refine hK.out _ _ ⟨(b19.cell (p := ⟨_, 0, none⟩) za).trans hH18.1, (b19.cell (p := ⟨_, 1, none⟩) za).trans hH18.2.1, (b19.cell (p := ⟨_, 2, none⟩) za).trans hH18.2.2.1, (b19.cell (p := ⟨_, 3, none⟩) za).trans hH18.2.2.2.1, (b19.cell (p := ⟨_, 0, none⟩) zb).trans hH18.2.2.2.2.1, (b19.cell (p := ⟨_, 1, none⟩) zb).trans hH18.2.2.2.2.2.1, (b19.cell (p := ⟨_, 2, none⟩) zb).trans hH18.2.2.2.2.2.2.1, (b19.cell (p := ⟨_, 3, none⟩) zb).trans hH18.2.2.2.2.2.2.2.1, (b19.cell (p := ⟨_, 0, none⟩) zx).trans hH18.2.2.2.2.2.2.2.2.1, (b19.cell (p := ⟨_, 1, none⟩) zx).trans hH18.2.2.2.2.2.2.2.2.2.1, (b19.cell (p := ⟨_, 2, none⟩) zx).trans hH18.2.2.2.2.2.2.2.2.2.2.1, (b19.cell (p := ⟨_, 3, none⟩) zx).trans hH18.2.2.2.2.2.2.2.2.2.2.2.1, (b19.cell (p := ⟨_, 4, none⟩) zx).trans hH18.2.2.2.2.2.2.2.2.2.2.2.2.1, (b19.cell (p := ⟨_, 0, none⟩) zy).trans hH18.2.2.2.2.2.2.2.2.2.2.2.2.2.1, (b19.cell (p := ⟨_, 1, none⟩) zy).trans hH18.2.2.2.2.2.2.2.2.2.2.2.2.2.2.1, (b19.cell (p := ⟨_, 2, none⟩) zy).trans hH18.2.2.2.2.2.2.2.2.2.2.2.2.2.2.2.1, (b19.cell (p := ⟨_, 3, none⟩) zy).trans hH18.2.2.2.2.2.2.2.2.2.2.2.2.2.2.2.2.1, (b19.cell (p := ⟨_, 4, none⟩) zy).trans hH18.2.2.2.2.2.2.2.2.2.2.2.2.2.2.2.2.2⟩ (fun hH19 => ?_)
    clear hK K
    replace za := Nat.lt_of_lt_of_le za b19.size
    replace zb := Nat.lt_of_lt_of_le zb b19.size
    replace zx := Nat.lt_of_lt_of_le zx b19.size
    replace zy := Nat.lt_of_lt_of_le zy b19.size
    refine wpAnyH_ready (rs := [15]) (by kernel_rfl) (by simp) ?_
    refine AllReadyH.cons (o := _) rfl (fun K hK => ?_) AllReadyH.nil
    simp only [List.getElem_toArray, List.getElem_cons_zero, List.getElem_cons_succ]
    go_simp
    with_reducible refine (J7.out _).mono ?_
    rintro e v20 ⟨rfl, b20⟩
    dsimp only
    have bel20 := bel19.trans (b20.mono bel19.size)
    refine hK.out _ _ ⟨(b20.cell (p := ⟨_, 0, none⟩) za).trans hH19.1, (b20.cell (p := ⟨_, 1, none⟩) za).trans hH19.2.1, (b20.cell (p := ⟨_, 2, none⟩) za).trans hH19.2.2.1, (b20.cell (p := ⟨_, 3, none⟩) za).trans hH19.2.2.2.1, (b20.cell (p := ⟨_, 0, none⟩) zb).trans hH19.2.2.2.2.1, (b20.cell (p := ⟨_, 1, none⟩) zb).trans hH19.2.2.2.2.2.1, (b20.cell (p := ⟨_, 2, none⟩) zb).trans hH19.2.2.2.2.2.2.1, (b20.cell (p := ⟨_, 3, none⟩) zb).trans hH19.2.2.2.2.2.2.2.1, (b20.cell (p := ⟨_, 0, none⟩) zx).trans hH19.2.2.2.2.2.2.2.2.1, (b20.cell (p := ⟨_, 1, none⟩) zx).trans hH19.2.2.2.2.2.2.2.2.2.1, (b20.cell (p := ⟨_, 2, none⟩) zx).trans hH19.2.2.2.2.2.2.2.2.2.2.1, (b20.cell (p := ⟨_, 3, none⟩) zx).trans hH19.2.2.2.2.2.2.2.2.2.2.2.1, (b20.cell (p := ⟨_, 4, none⟩) zx).trans hH19.2.2.2.2.2.2.2.2.2.2.2.2.1, (b20.cell (p := ⟨_, 0, none⟩) zy).trans hH19.2.2.2.2.2.2.2.2.2.2.2.2.2.1, (b20.cell (p := ⟨_, 1, none⟩) zy).trans hH19.2.2.2.2.2.2.2.2.2.2.2.2.2.2.1, (b20.cell (p := ⟨_, 2, none⟩) zy).trans hH19.2.2.2.2.2.2.2.2.2.2.2.2.2.2.2.1, (b20.cell (p := ⟨_, 3, none⟩) zy).trans hH19.2.2.2.2.2.2.2.2.2.2.2.2.2.2.2.2.1, (b20.cell (p := ⟨_, 4, none⟩) zy).trans hH19.2.2.2.2.2.2.2.2.2.2.2.2.2.2.2.2.2⟩ (fun hH20 => ?_)
    clear hK K
    replace za := Nat.lt_of_lt_of_le za b20.size
    replace zb := Nat.lt_of_lt_of_le zb b20.size
    replace zx := Nat.lt_of_lt_of_le zx b20.size
    replace zy := Nat.lt_of_lt_of_le zy b20.size
    refine wpAnyH_take (i := 16) (v := ?_) rfl (by kernel_rfl) (by kernel_rfl) (by kernel_rfl) (fun _ _ _ h => h) (Or.inl ⟨by rfl, ?_⟩) hH20 ?_
    rotate_left
    · ((intro W hW; obtain ⟨s0, s1, s2, s3, s4, s5, s6, s7, s8, s9, s10, s11, s12, s13, s14, s15, s16, s17⟩ := hW; go_simp) <;> with_reducible rfl)
    simp only [Act.put, List.getElem_toArray, List.getElem_cons_zero, List.getElem_cons_succ, List.setIfInBounds_toArray, List.set_cons_zero, List.set_cons_succ]
    refine wpAnyH_take (i := 20) (v := ?_) rfl (by kernel_rfl) (by kernel_rfl) (by kernel_rfl) (fun _ _ _ h => h) (Or.inl ⟨by rfl, ?_⟩) hH20 ?_
    rotate_left
    · ((intro W hW; obtain ⟨s0, s1, s2, s3, s4, s5, s6, s7, s8, s9, s10, s11, s12, s13, s14, s15, s16, s17⟩ := hW; go_simp) <;> with_reducible rfl)
    simp only [Act.put, List.getElem_toArray, List.getElem_cons_zero, List.getElem_cons_succ, List.setIfInBounds_toArray, List.set_cons_zero, List.set_cons_succ]
    refine wpAnyH_take (i := 21) (v := ?_) rfl (by kernel_rfl) (by kernel_rfl) (by kernel_rfl) (fun _ _ _ h => h) (Or.inl ⟨by rfl, ?_⟩) hH20 ?_
    rotate_left
    · ((intro W hW; obtain ⟨s0, s1, s2, s3, s4, s5, s6, s7, s8, s9, s10, s11, s12, s13, s14, s15, s16, s17⟩ := hW; go_simp) <;> with_reducible rfl)
    simp only [Act.put, List.getElem_toArray, List.getElem_cons_zero, List.getElem_cons_succ, List.setIfInBounds_toArray, List.set_cons_zero, List.set_cons_succ]
    refine wpAnyH_take (i := 22) (v := ?_) rfl (by kernel_rfl) (by kernel_rfl) (by kernel_rfl) (fun _ _ _ h => h) (Or.inl ⟨by rfl, ?_⟩) hH20 ?_
    rotate_left
    · ((intro W hW; obtain ⟨s0, s1, s2, s3, s4, s5, s6, s7, s8, s9, s10, s11, s12, s13, s14, s15, s16, s17⟩ := hW; go_simp) <;> with_reducible rfl)
    simp only [Act.put, List.getElem_toArray, List.getElem_cons_zero, List.getElem_cons_succ, List.setIfInBounds_toArray, List.set_cons_zero, List.set_cons_succ]
    refine wpAnyH_take (i := 23) (v := ?_) rfl (by kernel_rfl) (by kernel_rfl) (by kernel_rfl) (fun _ _ _ h => h) (Or.inl ⟨by rfl, ?_⟩) hH20 ?_
    rotate_left
    · ((intro W hW; obtain ⟨s0, s1, s2, s3, s4, s5, s6, s7, s8, s9, s10, s11, s12, s13, s14, s15, s16, s17⟩ := hW; go_simp) <;> with_reducible rfl)
    simp only [Act.put, List.getElem_toArray, List.getElem_cons_zero, List.getElem_cons_succ, List.setIfInBounds_toArray, List.set_cons_zero, List.set_cons_succ]
    refine wpAnyH_take (i := 24) (v := ?_) rfl (by kernel_rfl) (by kernel_rfl) (by kernel_rfl) (fun _ _ _ h => h) (Or.inl ⟨by rfl, ?_⟩) hH20 ?_
    rotate_left
    · ((intro W hW; obtain ⟨s0, s1, s2, s3, s4, s5, s6, s7, s8, s9, s10, s11, s12, s13, s14, s15, s16, s17⟩ := hW; go_simp) <;> with_reducible rfl)
    simp only [Act.put, List.getElem_toArray, List.getElem_cons_zero, List.getElem_cons_succ, List.setIfInBounds_toArray, List.set_cons_zero, List.set_cons_succ]
    refine wpAnyH_take (i := 25) (v := ?_) rfl (by kernel_rfl) (by kernel_rfl) (by kernel_rfl) (fun _ _ _ h => h) (Or.inl ⟨by rfl, ?_⟩) hH20 ?_
    rotate_left
    · ((intro W hW; obtain ⟨s0, s1, s2, s3, s4, s5, s6, s7, s8, s9, s10, s11, s12, s13, s14, s15, s16, s17⟩ := hW; go_simp) <;> with_reducible rfl)
    simp only [Act.put, List.getElem_toArray, List.getElem_cons_zero, List.getElem_cons_succ, List.setIfInBounds_toArray, List.set_cons_zero, List.set_cons_succ]
    refine wpAnyH_take (i := 27) (v := ?_) rfl (by kernel_rfl) (by kernel_rfl) (by kernel_rfl) (fun _ _ _ h => h) (Or.inl ⟨by rfl, ?_⟩) hH20 ?_
    rotate_left
    · ((intro W hW; obtain ⟨s0, s1, s2, s3, s4, s5, s6, s7, s8, s9, s10, s11, s12, s13, s14, s15, s16, s17⟩ := hW; go_simp) <;> with_reducible rfl)
    simp only [Act.put, List.getElem_toArray, List.getElem_cons_zero, List.getElem_cons_succ, List.setIfInBounds_toArray, List.set_cons_zero, List.set_cons_succ]
    refine wpAnyH_take (i := 28) (v := ?_) rfl (by kernel_rfl) (by kernel_rfl) (by kernel_rfl) (fun _ _ _ h => h) (Or.inl ⟨by rfl, ?_⟩) hH20 ?_
    rotate_left
    · ((intro W hW; obtain ⟨s0, s1, s2, s3, s4, s5, s6, s7, s8, s9, s10, s11, s12, s13, s14, s15, s16, s17⟩ := hW; go_simp) <;> with_reducible rfl)
    simp only [Act.put, List.getElem_toArray, List.getElem_cons_zero, List.getElem_cons_succ, List.setIfInBounds_toArray, List.set_cons_zero, List.set_cons_succ]
    refine wpAnyH_take (i := 29) (v := ?_) rfl (by kernel_rfl) (by kernel_rfl) (by kernel_rfl) (fun _ _ _ h => h) (Or.inl ⟨by rfl, ?_⟩) hH20 ?_
    rotate_left
    · ((intro W hW; obtain ⟨s0, s1, s2, s3, s4, s5, s6, s7, s8, s9, s10, s11, s12, s13, s14, s15, s16, s17⟩ := hW; go_simp) <;> with_reducible rfl)
    simp only [Act.put, List.getElem_toArray, List.getElem_cons_zero, List.getElem_cons_succ, List.setIfInBounds_toArray, List.set_cons_zero, List.set_cons_succ]
    refine wpAnyH_ready (rs := [26]) (by kernel_rfl) (by simp) ?_
    refine AllReadyH.cons (o := _) rfl (fun K hK => ?_) AllReadyH.nil
    simp only [List.getElem_toArray, List.getElem_cons_zero, List.getElem_cons_succ]
    go_simp
    with_reducible refine (K3.out _).mono ?_
    rintro e v21 ⟨rfl, b21⟩
    dsimp only
    have bel21 := bel20.trans (b21.mono bel20.size)
    refine hK.out _ _ ⟨(b21.cell (p := ⟨_, 0, none⟩) za).trans hH20.1, (b21.cell (p := ⟨_, 1, none⟩) za).trans hH20.2.1, (b21.cell (p := ⟨_, 2, none⟩) za).trans hH20.2.2.1, (b21.cell (p := ⟨_, 3, none⟩) za).trans hH20.2.2.2.1, (b21.cell (p := ⟨_, 0, none⟩) zb).trans hH20.2.2.2.2.1, (b21.cell (p := ⟨_, 1, none⟩) zb).trans hH20.2.2.2.2.2.1, (b21.cell (p := ⟨_, 2, none⟩) zb).trans hH20.2.2.2.2.2.2.1, (b21.cell (p := ⟨_, 3, none⟩) zb).trans hH20.2.2.2.2.2.2.2.1, (b21.cell (p := ⟨_, 0, none⟩) zx).trans hH20.2.2.2.2.2.2.2.2.1, (b21.cell (p := ⟨_, 1, none⟩) zx).trans hH20.2.2.2.2.2.2.2.2.2.1, (b21.cell (p := ⟨_, 2, none⟩) zx).trans hH20.2.2.2.2.2.2.2.2.2.2.1, (b21.cell (p := ⟨_, 3, none⟩) zx).trans hH20.2.2.2.2.2.2.2.2.2.2.2.1, (b21.cell (p := ⟨_, 4, none⟩) zx).trans hH20.2.2.2.2.2.2.2.2.2.2.2.2.1, (b21.cell (p := ⟨_, 0, none⟩) zy).trans hH20.2.2.2.2.2.2.2.2.2.2.2.2.2.1, (b21.cell (p := ⟨_, 1, none⟩) zy).trans hH20.2.2.2.2.2.2.2.2.2.2.2.2.2.2.1, (b21.cell (p := ⟨_, 2, none⟩) zy).trans hH20.2.2.2.2.2.2.2.2.2.2.2.2.2.2.2.1, (b21.cell (p := ⟨_, 3, none⟩) zy).trans hH20.2.2.2.2.2.2.2.2.2.2.2.2.2.2.2.2.1, (b21.cell (p := ⟨_, 4, none⟩) zy).trans hH20.2.2.2.2.2.2.2.2.2.2.2.2.2.2.2.2.2⟩ (fun hH21 => ?_)
    clear hK K
    replace za := Nat.lt_of_lt_of_le za b21.size
    replace zb := Nat.lt_of_lt_of_le zb b21.size
    replace zx := Nat.lt_of_lt_of_le zx b21.size
    replace zy := Nat.lt_of_lt_of_le zy b21.size
    refine wpAnyH_take (i := 30) (v := ?_) rfl (by kernel_rfl) (by kernel_rfl) (by kernel_rfl) (fun _ _ _ h => h) (Or.inl ⟨by rfl, ?_⟩) hH21 ?_
    rotate_left
    · ((intro W hW; obtain ⟨s0, s1, s2, s3, s4, s5, s6, s7, s8, s9, s10, s11, s12, s13, s14, s15, s16, s17⟩ := hW; go_simp) <;> with_reducible rfl)
    simp only [Act.put, List.getElem_toArray, List.getElem_cons_zero, List.getElem_cons_succ, List.setIfInBounds_toArray, List.set_cons_zero, List.set_cons_succ]
    refine wpAnyH_take (i := 31) (v := ?_) rfl (by kernel_rfl) (by kernel_rfl) (by kernel_rfl) (fun _ _ _ h => h) (Or.inl ⟨by rfl, ?_⟩) hH21 ?_
    rotate_left
    · ((intro W hW; obtain ⟨s0, s1, s2, s3, s4, s5, s6, s7, s8, s9, s10, s11, s12, s13, s14, s15, s16, s17⟩ := hW; go_simp) <;> with_reducible rfl)
    simp only [Act.put, List.getElem_toArray, List.getElem_cons_zero, List.getElem_cons_succ, List.setIfInBounds_toArray, List.set_cons_zero, List.set_cons_succ]
    refine wpAnyH_take (i := 32) (v := ?_) rfl (by kernel_rfl) (by kernel_rfl) (by kernel_rfl) (fun _ _ _ h => h) (Or.inl ⟨by rfl, ?_⟩) hH21 ?_
    rotate_left
    · ((intro W hW; obtain ⟨s0, s1, s2, s3, s4, s5, s6, s7, s8, s9, s10, s11, s12, s13, s14, s15, s16, s17⟩ := hW; go_simp) <;> with_reducible rfl)
    simp only [Act.put, List.getElem_toArray, List.getElem_cons_zero, List.getElem_cons_succ, List.setIfInBounds_toArray, List.set_cons_zero, List.set_cons_succ]
    refine wpAnyH_done (by kernel_rfl) ?_ _
    go_wp2
    go_ret
    exact ⟨rfl, bel21⟩

set_option maxRecDepth 100000 in
set_option maxHeartbeats 16000000 in
theorem addrMasks_out (a b c d : UInt8) (m : Nat) (hm : m ≤ 31) (p1 p2 p3 p4 : UInt8) (w : World) (hT : Tab w) (hy : firstN (be [a, b, c, d]) (m + 1) ≠ firstN (be [p1, p2, p3, p4]) (m + 1)) : Calls Tryd.prog 8 #[.agg #[.int .u8 (a.toNat : Int), .int .u8 (b.toNat : Int), .int .u8 (c.toNat : Int), .int .u8 (d.toNat : Int)], .int .i64 (m : Int), .agg #[.int .u8 (p1.toNat : Int), .int .u8 (p2.toNat : Int), .int .u8 (p3.toNat : Int), .int .u8 (p4.toNat : Int)]] w fun e w' => e = .returned (.bool true) ∧ Below w.heap.size w w' := by
  have bel := Below.refl w.heap.size w
  have HT := Lib.hid hT
  clear hT
  have hn := be_four_lt a b c d
  have hk := be_four_lt p1 p2 p3 p4
  have cm0 : clamp (m : Int) = m := by unfold clamp; rw [if_neg (by omega), if_neg (by omega)]; omega
  have cm1 : clamp ((m : Int) + 1) = m + 1 := by unfold clamp; rw [if_neg (by omega), if_neg (by omega)]; omega
  have cm2 : clamp 32 = 32 := by decide
  have H1 := fun W => ahas_any a b c d p1 p2 p3 p4 ((m : Int) + 1) W
  have H2 := fun W => ahas_any a b c d p1 p2 p3 p4 (m : Int) W
  have H3 := fun W => ahas_any a b c d p1 p2 p3 p4 32 W
  have H4 := fun W => alast_any a b c d ((m : Int) + 1) W
  have H5 := fun W => afirst_any a b c d ((m : Int) + 1) W
  have H6 := fun W => alast_any a b c d (m : Int) W
  have H7 := fun W => afirst_any a b c d (m : Int) W
  rw [cm0] at H2 H6 H7
  rw [cm1] at H1 H4 H5
  rw [cm2, first_32, first_32] at H3
  have e3 := fun W => eql4 [a, b, c, d] [p1, p2, p3, p4] rfl rfl W
  rw [show ([a, b, c, d] == [p1, p2, p3, p4]) = (be [a, b, c, d] == be [p1, p2, p3, p4]) by rw [Bool.eq_iff_iff, beq_iff_eq, beq_iff_eq]; exact (be_inj ..).symm] at e3
  have g3 := fun op x y W => guard4 op x y ([a, b, c, d].map u8v).toArray ([p1, p2, p3, p4].map u8v).toArray W
  simp only [List.map_cons, List.map_nil, u8v] at e3 g3
  rw [show (firstN (be [a, b, c, d]) (m + 1) == firstN (be [p1, p2, p3, p4]) (m + 1)) = false by simpa using hy] at H1
  clear hy
  have fl0 := first_last (be [a, b, c, d]) m
  have fl1 := first_last (be [a, b, c, d]) (m + 1)
  have l0 := lastN_lt (be [a, b, c, d]) m (by omega) hn
  have l1 := lastN_lt (be [a, b, c, d]) (m + 1) (by omega) hn
  have N4 := fun W => num_adr (lastN (be [a, b, c, d]) (m + 1)) l1 W
  have N5 := fun W => num_adr (firstN (be [a, b, c, d]) (m + 1)) (by omega) W
  have N6 := fun W => num_adr (lastN (be [a, b, c, d]) m) l0 W
  have N7 := fun W => num_adr (firstN (be [a, b, c, d]) m) (by omega) W
  have pw : (2 : Nat) ^ (32 - m) = 2 * 2 ^ (32 - (m + 1)) := by rw [show 32 - m = (32 - (m + 1)) + 1 by omega, Nat.pow_succ]; omega
  have pq := Nat.two_pow_pos (32 - (m + 1))
  generalize (2 : Nat) ^ (32 - m) = P at fl0 pw
  generalize (2 : Nat) ^ (32 - (m + 1)) = Q at fl1 pw pq
  generalize adr (lastN (be [a, b, c, d]) (m + 1)) = v4 at H4 N4
  generalize adr (firstN (be [a, b, c, d]) (m + 1)) = v5 at H5 N5
  generalize adr (lastN (be [a, b, c, d]) m) = v6 at H6 N6
  generalize adr (firstN (be [a, b, c, d]) m) = v7 at H7 N7
  generalize lastN (be [a, b, c, d]) (m + 1) = L1 at *
  generalize firstN (be [a, b, c, d]) (m + 1) = F1 at *
  generalize lastN (be [a, b, c, d]) m = L0 at *
  generalize firstN (be [a, b, c, d]) m = F0 at *
  generalize (be [a, b, c, d] == be [p1, p2, p3, p4]) = r at *
  obtain ⟨D1, hD1⟩ : ∃ D, L1 = F1 + D := ⟨Q - 1, fl1.symm⟩
  obtain ⟨D0, hD0⟩ : ∃ D, L0 = F0 + D := ⟨P - 1, fl0.symm⟩
  have hDD : D0 = 2 * D1 + 1 := by omega
  have s1 : IntKind.u32.wrap ((L1 : Int) - F1) = D1 := by rw [u32_in (by omega) (by omega)]; omega
  have s0 : IntKind.u32.wrap ((L0 : Int) - F0) = D0 := by rw [u32_in (by omega) (by omega)]; omega
  have s2 : IntKind.u32.wrap (2 * (D1 : Int)) = 2 * D1 := u32_in (by omega) (by omega)
  have s3 : IntKind.u32.wrap (2 * (D1 : Int) + 1) = D0 := by rw [u32_in (by omega) (by omega)]; omega
  have K1 := Lib.hid H1; have K2 := Lib.hid H2; have K3 := Lib.hid H3; have K4 := Lib.hid H4; have K5 := Lib.hid H5; have K6 := Lib.hid H6; have K7 := Lib.hid H7
  have J4 := Lib.hid N4; have J5 := Lib.hid N5; have J6 := Lib.hid N6; have J7 := Lib.hid N7
  clear H1 H2 H3 H4 H5 H6 H7 N4 N5 N6 N7 hn hk cm0 cm1 cm2 fl0 fl1 l0 l1 pw pq hD1 hD0 hDD
  have w3 : IntKind.i64.wrap ((m : Int) + 1) = m + 1 := IntWalk.i64_in _ (by omega)
  have ha := heap_alloc_new w (.cells #[.int .u8 (a.toNat : Int), .int .u8 (b.toNat : Int), .int .u8 (c.toNat : Int), .int .u8 (d.toNat : Int)] 24)
  have za : w.heap.size < (w.alloc (.cells #[.int .u8 (a.toNat : Int), .int .u8 (b.toNat : Int), .int .u8 (c.toNat : Int), .int .u8 (d.toNat : Int)] 24)).heap.size := by simp
  replace bel := bel.alloc bel.size (.cells #[.int .u8 (a.toNat : Int), .int .u8 (b.toNat : Int), .int .u8 (c.toNat : Int), .int .u8 (d.toNat : Int)] 24)
  replace ha := (Go.heap_alloc_old (w.alloc (.cells #[.int .u8 (a.toNat : Int), .int .u8 (b.toNat : Int), .int .u8 (c.toNat : Int), .int .u8 (d.toNat : Int)] 24)) (.cells #[.int .u8 (p1.toNat : Int), .int .u8 (p2.toNat : Int), .int .u8 (p3.toNat : Int), .int .u8 (p4.toNat : Int)] 24) (r := w.heap.size) za).trans ha
  have hb : ((w.alloc (.cells #[.int .u8 (a.toNat : Int), .int .u8 (b.toNat : Int), .int .u8 (c.toNat : Int), .int .u8 (d.toNat : Int)] 24)).alloc (.cells #[.int .u8 (p1.toNat : Int), .int .u8 (p2.toNat : Int), .int .u8 (p3.toNat : Int), .int .u8 (p4.toNat : Int)] 24)).heap[w.heap.size + 1]? = some (.cells #[.int .u8 (p1.toNat : Int), .int .u8 (p2.toNat : Int), .int .u8 (p3.toNat : Int), .int .u8 (p4.toNat : Int)] 24 (0, 0)) := by have := heap_alloc_new (w.alloc (.cells #[.int .u8 (a.toNat : Int), .int .u8 (b.toNat : Int), .int .u8 (c.toNat : Int), .int .u8 (d.toNat : Int)] 24)) (.cells #[.int .u8 (p1.toNat : Int), .int .u8 (p2.toNat : Int), .int .u8 (p3.toNat : Int), .int .u8 (p4.toNat : Int)] 24); simpa using this
  replace za := Nat.lt_trans za (show (w.alloc (.cells #[.int .u8 (a.toNat : Int), .int .u8 (b.toNat : Int), .int .u8 (c.toNat : Int), .int .u8 (d.toNat : Int)] 24)).heap.size < ((w.alloc (.cells #[.int .u8 (a.toNat : Int), .int .u8 (b.toNat : Int), .int .u8 (c.toNat : Int), .int .u8 (d.toNat : Int)] 24)).alloc (.cells #[.int .u8 (p1.toNat : Int), .int .u8 (p2.toNat : Int), .int .u8 (p3.toNat : Int), .int .u8 (p4.toNat : Int)] 24)).heap.size by simp)
  have zb : w.heap.size + 1 < ((w.alloc (.cells #[.int .u8 (a.toNat : Int), .int .u8 (b.toNat : Int), .int .u8 (c.toNat : Int), .int .u8 (d.toNat : Int)] 24)).alloc (.cells #[.int .u8 (p1.toNat : Int), .int .u8 (p2.toNat : Int), .int .u8 (p3.toNat : Int), .int .u8 (p4.toNat : Int)] 24)).heap.size := by simp
  replace bel := bel.alloc bel.size (.cells #[.int .u8 (p1.toNat : Int), .int .u8 (p2.toNat : Int), .int .u8 (p3.toNat : Int), .int .u8 (p4.toNat : Int)] 24)
  have t0 : decide ((m : Int) < 0) = false := decide_eq_false (by omega)
  have t1 : decide ((31 : Int) < m) = false := decide_eq_false (by omega)
  have t2 : (0 : Int) ≤ m := by omega
  have t3 : (m : Int) ≤ 31 := by omega
  go_enter Tryd.func8, Tryd.ntmps8
  go_wp2_with fail
  with_reducible refine (awake3 _ (HT.out.below bel)).mono ?_
  rintro e w1 ⟨rfl, b1⟩
  replace ha := (b1.block _ za).trans ha
  replace za := Nat.lt_of_lt_of_le za b1.size
  replace hb := (b1.block _ zb).trans hb
  replace zb := Nat.lt_of_lt_of_le zb b1.size
  replace bel := bel.trans (b1.mono bel.size)
  clear b1
  obtain ⟨⟨ca0, ca1, ca2, ca3⟩, _⟩ := cells4 ha
  obtain ⟨⟨cb0, cb1, cb2, cb3⟩, _⟩ := cells4 hb
  go_wp2_with fail
  go_region
  all_goals clear ca0 ca1 ca2 ca3 cb0 cb1 cb2 cb3
  · replace ha := (Go.heap_alloc_old w1 (.cells #[.int .u8 (a.toNat : Int), .int .u8 (b.toNat : Int), .int .u8 (c.toNat : Int), .int .u8 (d.toNat : Int), .int .i64 (m : Int)] 29) (r := w.heap.size) za).trans ha
    replace hb := (Go.heap_alloc_old w1 (.cells #[.int .u8 (a.toNat : Int), .int .u8 (b.toNat : Int), .int .u8 (c.toNat : Int), .int .u8 (d.toNat : Int), .int .i64 (m : Int)] 29) (r := w.heap.size + 1) zb).trans hb
    have hx := heap_alloc_new w1 (.cells #[.int .u8 (a.toNat : Int), .int .u8 (b.toNat : Int), .int .u8 (c.toNat : Int), .int .u8 (d.toNat : Int), .int .i64 (m : Int)] 29)
    replace za := Nat.lt_trans za (show w1.heap.size < (w1.alloc (.cells #[.int .u8 (a.toNat : Int), .int .u8 (b.toNat : Int), .int .u8 (c.toNat : Int), .int .u8 (d.toNat : Int), .int .i64 (m : Int)] 29)).heap.size by simp)
    replace zb := Nat.lt_trans zb (show w1.heap.size < (w1.alloc (.cells #[.int .u8 (a.toNat : Int), .int .u8 (b.toNat : Int), .int .u8 (c.toNat : Int), .int .u8 (d.toNat : Int), .int .i64 (m : Int)] 29)).heap.size by simp)
    have zx : w1.heap.size < (w1.alloc (.cells #[.int .u8 (a.toNat : Int), .int .u8 (b.toNat : Int), .int .u8 (c.toNat : Int), .int .u8 (d.toNat : Int), .int .i64 (m : Int)] 29)).heap.size := by simp
    replace bel := bel.alloc bel.size (.cells #[.int .u8 (a.toNat : Int), .int .u8 (b.toNat : Int), .int .u8 (c.toNat : Int), .int .u8 (d.toNat : Int), .int .i64 (m : Int)] 29)
    replace ha := (Go.heap_alloc_old (w1.alloc (.cells #[.int .u8 (a.toNat : Int), .int .u8 (b.toNat : Int), .int .u8 (c.toNat : Int), .int .u8 (d.toNat : Int), .int .i64 (m : Int)] 29)) (.cells #[.int .u8 (a.toNat : Int), .int .u8 (b.toNat : Int), .int .u8 (c.toNat : Int), .int .u8 (d.toNat : Int), .int .i64 ((m : Int) + 1)] 29) (r := w.heap.size) za).trans ha
    replace hb := (Go.heap_alloc_old (w1.alloc (.cells #[.int .u8 (a.toNat : Int), .int .u8 (b.toNat : Int), .int .u8 (c.toNat : Int), .int .u8 (d.toNat : Int), .int .i64 (m : Int)] 29)) (.cells #[.int .u8 (a.toNat : Int), .int .u8 (b.toNat : Int), .int .u8 (c.toNat : Int), .int .u8 (d.toNat : Int), .int .i64 ((m : Int) + 1)] 29) (r := w.heap.size + 1) zb).trans hb
    replace hx := (Go.heap_alloc_old (w1.alloc (.cells #[.int .u8 (a.toNat : Int), .int .u8 (b.toNat : Int), .int .u8 (c.toNat : Int), .int .u8 (d.toNat : Int), .int .i64 (m : Int)] 29)) (.cells #[.int .u8 (a.toNat : Int), .int .u8 (b.toNat : Int), .int .u8 (c.toNat : Int), .int .u8 (d.toNat : Int), .int .i64 ((m : Int) + 1)] 29) (r := w1.heap.size) zx).trans hx
    have hy : ((w1.alloc (.cells #[.int .u8 (a.toNat : Int), .int .u8 (b.toNat : Int), .int .u8 (c.toNat : Int), .int .u8 (d.toNat : Int), .int .i64 (m : Int)] 29)).alloc (.cells #[.int .u8 (a.toNat : Int), .int .u8 (b.toNat : Int), .int .u8 (c.toNat : Int), .int .u8 (d.toNat : Int), .int .i64 ((m : Int) + 1)] 29)).heap[w1.heap.size + 1]? = some (.cells #[.int .u8 (a.toNat : Int), .int .u8 (b.toNat : Int), .int .u8 (c.toNat : Int), .int .u8 (d.toNat : Int), .int .i64 ((m : Int) + 1)] 29 (0, 0)) := by have := heap_alloc_new (w1.alloc (.cells #[.int .u8 (a.toNat : Int), .int .u8 (b.toNat : Int), .int .u8 (c.toNat : Int), .int .u8 (d.toNat : Int), .int .i64 (m : Int)] 29)) (.cells #[.int .u8 (a.toNat : Int), .int .u8 (b.toNat : Int), .int .u8 (c.toNat : Int), .int .u8 (d.toNat : Int), .int .i64 ((m : Int) + 1)] 29); simpa using this
    replace za := Nat.lt_trans za (show (w1.alloc (.cells #[.int .u8 (a.toNat : Int), .int .u8 (b.toNat : Int), .int .u8 (c.toNat : Int), .int .u8 (d.toNat : Int), .int .i64 (m : Int)] 29)).heap.size < ((w1.alloc (.cells #[.int .u8 (a.toNat : Int), .int .u8 (b.toNat : Int), .int .u8 (c.toNat : Int), .int .u8 (d.toNat : Int), .int .i64 (m : Int)] 29)).alloc (.cells #[.int .u8 (a.toNat : Int), .int .u8 (b.toNat : Int), .int .u8 (c.toNat : Int), .int .u8 (d.toNat : Int), .int .i64 ((m : Int) + 1)] 29)).heap.size by simp)
    replace zb := Nat.lt_trans zb (show (w1.alloc (.cells #[.int .u8 (a.toNat : Int), .int .u8 (b.toNat : Int), .int .u8 (c.toNat : Int), .int .u8 (d.toNat : Int), .int .i64 (m : Int)] 29)).heap.size < ((w1.alloc (.cells #[.int .u8 (a.toNat : Int), .int .u8 (b.toNat : Int), .int .u8 (c.toNat : Int), .int .u8 (d.toNat : Int), .int .i64 (m : Int)] 29)).alloc (.cells #[.int .u8 (a.toNat : Int), .int .u8 (b.toNat : Int), .int .u8 (c.toNat : Int), .int .u8 (d.toNat : Int), .int .i64 ((m : Int) + 1)] 29)).heap.size by simp)
    replace zx := Nat.lt_trans zx (show (w1.alloc (.cells #[.int .u8 (a.toNat : Int), .int .u8 (b.toNat : Int), .int .u8 (c.toNat : Int), .int .u8 (d.toNat : Int), .int .i64 (m : Int)] 29)).heap.size < ((w1.alloc (.cells #[.int .u8 (a.toNat : Int), .int .u8 (b.toNat : Int), .int .u8 (c.toNat : Int), .int .u8 (d.toNat : Int), .int .i64 (m : Int)] 29)).alloc (.cells #[.int .u8 (a.toNat : Int), .int .u8 (b.toNat : Int), .int .u8 (c.toNat : Int), .int .u8 (d.toNat : Int), .int .i64 ((m : Int) + 1)] 29)).heap.size by simp)
    have zy : w1.heap.size + 1 < ((w1.alloc (.cells #[.int .u8 (a.toNat : Int), .int .u8 (b.toNat : Int), .int .u8 (c.toNat : Int), .int .u8 (d.toNat : Int), .int .i64 (m : Int)] 29)).alloc (.cells #[.int .u8 (a.toNat : Int), .int .u8 (b.toNat : Int), .int .u8 (c.toNat : Int), .int .u8 (d.toNat : Int), .int .i64 ((m : Int) + 1)] 29)).heap.size := by simp
    replace bel := bel.alloc bel.size (.cells #[.int .u8 (a.toNat : Int), .int .u8 (b.toNat : Int), .int .u8 (c.toNat : Int), .int .u8 (d.toNat : Int), .int .i64 ((m : Int) + 1)] 29)
    go_wp2_with fail
    have ya := za
    have yb := zb
    have yx := zx
    have yy := zy
    replace ha : ((w1.alloc (.cells #[.int .u8 (a.toNat : Int), .int .u8 (b.toNat : Int), .int .u8 (c.toNat : Int), .int .u8 (d.toNat : Int), .int .i64 (m : Int)] 29)).alloc (.cells #[.int .u8 (a.toNat : Int), .int .u8 (b.toNat : Int), .int .u8 (c.toNat : Int), .int .u8 (d.toNat : Int), .int .i64 ((m : Int) + 1)] 29)).drew.heap[w.heap.size]? = some (.cells #[.int .u8 (a.toNat : Int), .int .u8 (b.toNat : Int), .int .u8 (c.toNat : Int), .int .u8 (d.toNat : Int)] 24 (0, 0)) := ha
    replace za : w.heap.size < ((w1.alloc (.cells #[.int .u8 (a.toNat : Int), .int .u8 (b.toNat : Int), .int .u8 (c.toNat : Int), .int .u8 (d.toNat : Int), .int .i64 (m : Int)] 29)).alloc (.cells #[.int .u8 (a.toNat : Int), .int .u8 (b.toNat : Int), .int .u8 (c.toNat : Int), .int .u8 (d.toNat : Int), .int .i64 ((m : Int) + 1)] 29)).drew.heap.size := za
    replace hb : ((w1.alloc (.cells #[.int .u8 (a.toNat : Int), .int .u8 (b.toNat : Int), .int .u8 (c.toNat : Int), .int .u8 (d.toNat : Int), .int .i64 (m : Int)] 29)).alloc (.cells #[.int .u8 (a.toNat : Int), .int .u8 (b.toNat : Int), .int .u8 (c.toNat : Int), .int .u8 (d.toNat : Int), .int .i64 ((m : Int) + 1)] 29)).drew.heap[w.heap.size + 1]? = some (.cells #[.int .u8 (p1.toNat : Int), .int .u8 (p2.toNat : Int), .int .u8 (p3.toNat : Int), .int .u8 (p4.toNat : Int)] 24 (0, 0)) := hb
    replace zb : w.heap.size + 1 < ((w1.alloc (.cells #[.int .u8 (a.toNat : Int), .int .u8 (b.toNat : Int), .int .u8 (c.toNat : Int), .int .u8 (d.toNat : Int), .int .i64 (m : Int)] 29)).alloc (.cells #[.int .u8 (a.toNat : Int), .int .u8 (b.toNat : Int), .int .u8 (c.toNat : Int), .int .u8 (d.toNat : Int), .int .i64 ((m : Int) + 1)] 29)).drew.heap.size := zb
    replace hx : ((w1.alloc (.cells #[.int .u8 (a.toNat : Int), .int .u8 (b.toNat : Int), .int .u8 (c.toNat : Int), .int .u8 (d.toNat : Int), .int .i64 (m : Int)] 29)).alloc (.cells #[.int .u8 (a.toNat : Int), .int .u8 (b.toNat : Int), .int .u8 (c.toNat : Int), .int .u8 (d.toNat : Int), .int .i64 ((m : Int) + 1)] 29)).drew.heap[w1.heap.size]? = some (.cells #[.int .u8 (a.toNat : Int), .int .u8 (b.toNat : Int), .int .u8 (c.toNat : Int), .int .u8 (d.toNat : Int), .int .i64 (m : Int)] 29 (0, 0)) := hx
    replace zx : w1.heap.size < ((w1.alloc (.cells #[.int .u8 (a.toNat : Int), .int .u8 (b.toNat : Int), .int .u8 (c.toNat : Int), .int .u8 (d.toNat : Int), .int .i64 (m : Int)] 29)).alloc (.cells #[.int .u8 (a.toNat : Int), .int .u8 (b.toNat : Int), .int .u8 (c.toNat : Int), .int .u8 (d.toNat : Int), .int .i64 ((m : Int) + 1)] 29)).drew.heap.size := zx
    replace hy : ((w1.alloc (.cells #[.int .u8 (a.toNat : Int), .int .u8 (b.toNat : Int), .int .u8 (c.toNat : Int), .int .u8 (d.toNat : Int), .int .i64 (m : Int)] 29)).alloc (.cells #[.int .u8 (a.toNat : Int), .int .u8 (b.toNat : Int), .int .u8 (c.toNat : Int), .int .u8 (d.toNat : Int), .int .i64 ((m : Int) + 1)] 29)).drew.heap[w1.heap.size + 1]? = some (.cells #[.int .u8 (a.toNat : Int), .int .u8 (b.toNat : Int), .int .u8 (c.toNat : Int), .int .u8 (d.toNat : Int), .int .i64 ((m : Int) + 1)] 29 (0, 0)) := hy
    replace zy : w1.heap.size + 1 < ((w1.alloc (.cells #[.int .u8 (a.toNat : Int), .int .u8 (b.toNat : Int), .int .u8 (c.toNat : Int), .int .u8 (d.toNat : Int), .int .i64 (m : Int)] 29)).alloc (.cells #[.int .u8 (a.toNat : Int), .int .u8 (b.toNat : Int), .int .u8 (c.toNat : Int), .int .u8 (d.toNat : Int), .int .i64 ((m : Int) + 1)] 29)).drew.heap.size := zy
    replace bel := bel.drew
    clear ya yb yx yy
    generalize ((w1.alloc (.cells #[.int .u8 (a.toNat : Int), .int .u8 (b.toNat : Int), .int .u8 (c.toNat : Int), .int .u8 (d.toNat : Int), .int .i64 (m : Int)] 29)).alloc (.cells #[.int .u8 (a.toNat : Int), .int .u8 (b.toNat : Int), .int .u8 (c.toNat : Int), .int .u8 (d.toNat : Int), .int .i64 ((m : Int) + 1)] 29)).drew = v0 at ha za hb zb hx zx hy zy bel ⊢
    obtain ⟨⟨ca0, ca1, ca2, ca3⟩, _⟩ := cells4 ha
    obtain ⟨⟨cb0, cb1, cb2, cb3⟩, _⟩ := cells4 hb
    obtain ⟨⟨cx0, cx1, cx2, cx3, cx4⟩, _⟩ := cells5 hx
    obtain ⟨⟨cy0, cy1, cy2, cy3, cy4⟩, _⟩ := cells5 hy
    clear ha hb hx hy
    refine wp_region_held_drew (S := fun W => W.cell? ⟨w.heap.size, 0, none⟩ = some (.int .u8 (a.toNat : Int)) ∧ W.cell? ⟨w.heap.size, 1, none⟩ = some (.int .u8 (b.toNat : Int)) ∧ W.cell? ⟨w.heap.size, 2, none⟩ = some (.int .u8 (c.toNat : Int)) ∧ W.cell? ⟨w.heap.size, 3, none⟩ = some (.int .u8 (d.toNat : Int)) ∧ W.cell? ⟨w.heap.size + 1, 0, none⟩ = some (.int .u8 (p1.toNat : Int)) ∧ W.cell? ⟨w.heap.size + 1, 1, none⟩ = some (.int .u8 (p2.toNat : Int)) ∧ W.cell? ⟨w.heap.size + 1, 2, none⟩ = some (.int .u8 (p3.toNat : Int)) ∧ W.cell? ⟨w.heap.size + 1, 3, none⟩ = some (.int .u8 (p4.toNat : Int)) ∧ W.cell? ⟨w1.heap.size, 0, none⟩ = some (.int .u8 (a.toNat : Int)) ∧ W.cell? ⟨w1.heap.size, 1, none⟩ = some (.int .u8 (b.toNat : Int)) ∧ W.cell? ⟨w1.heap.size, 2, none⟩ = some (.int .u8 (c.toNat : Int)) ∧ W.cell? ⟨w1.heap.size, 3, none⟩ = some (.int .u8 (d.toNat : Int)) ∧ W.cell? ⟨w1.heap.size, 4, none⟩ = some (.int .i64 (m : Int)) ∧ W.cell? ⟨w1.heap.size + 1, 0, none⟩ = some (.int .u8 (a.toNat : Int)) ∧ W.cell? ⟨w1.heap.size + 1, 1, none⟩ = some (.int .u8 (b.toNat : Int)) ∧ W.cell? ⟨w1.heap.size + 1, 2, none⟩ = some (.int .u8 (c.toNat : Int)) ∧ W.cell? ⟨w1.heap.size + 1, 3, none⟩ = some (.int .u8 (d.toNat : Int)) ∧ W.cell? ⟨w1.heap.size + 1, 4, none⟩ = some (.int .i64 ((m : Int) + 1))) (by kernel_rfl) ⟨ca0, ca1, ca2, ca3, cb0, cb1, cb2, cb3, cx0, cx1, cx2, cx3, cx4, cy0, cy1, cy2, cy3, cy4⟩ (fun hH => ?_)
    refine wpAnyH_take (i := 0) (v := ?_) rfl (by kernel_rfl) (by kernel_rfl) (by kernel_rfl) (fun _ _ _ h => h) (Or.inl ⟨by rfl, ?_⟩) hH ?_
    rotate_left
    · ((intro W hW; obtain ⟨s0, s1, s2, s3, s4, s5, s6, s7, s8, s9, s10, s11, s12, s13, s14, s15, s16, s17⟩ := hW; go_simp) <;> with_reducible rfl)
    simp only [Act.put, List.getElem_toArray, List.getElem_cons_zero, List.setIfInBounds_toArray, List.set_cons_zero, List.set_cons_succ]
    refine wpAnyH_take (i := 3) (v := ?_) rfl (by kernel_rfl) (by kernel_rfl) (by kernel_rfl) (fun _ _ _ h => h) (Or.inl ⟨by rfl, ?_⟩) hH ?_
    rotate_left
    · ((intro W hW; obtain ⟨s0, s1, s2, s3, s4, s5, s6, s7, s8, s9, s10, s11, s12, s13, s14, s15, s16, s17⟩ := hW; go_simp) <;> with_reducible rfl)
    simp only [Act.put, List.getElem_toArray, List.getElem_cons_zero, List.getElem_cons_succ, List.setIfInBounds_toArray, List.set_cons_zero, List.set_cons_succ]
    refine wpAnyH_ready (rs := [1]) (by kernel_rfl) (by simp) ?_
    refine AllReadyH.cons (o := _) rfl (fun K hK => ?_) AllReadyH.nil
    simp only [List.getElem_toArray, List.getElem_cons_zero, List.getElem_cons_succ]
    go_simp
    with_reducible refine (K4.out _).mono ?_
    rintro e v11 ⟨rfl, b11⟩
    dsimp only
    have bel11 := bel.drew.trans (b11.mono bel.size)
    refine hK.out _ _ ⟨(b11.cell (p := ⟨_, 0, none⟩) za).trans hH.1, (b11.cell (p := ⟨_, 1, none⟩) za).trans hH.2.1, (b11.cell (p := ⟨_, 2, none⟩) za).trans hH.2.2.1, (b11.cell (p := ⟨_, 3, none⟩) za).trans hH.2.2.2.1, (b11.cell (p := ⟨_, 0, none⟩) zb).trans hH.2.2.2.2.1, (b11.cell (p := ⟨_, 1, none⟩) zb).trans hH.2.2.2.2.2.1, (b11.cell (p := ⟨_, 2, none⟩) zb).trans hH.2.2.2.2.2.2.1, (b11.cell (p := ⟨_, 3, none⟩) zb).trans hH.2.2.2.2.2.2.2.1, (b11.cell (p := ⟨_, 0, none⟩) zx).trans hH.2.2.2.2.2.2.2.2.1, (b11.cell (p := ⟨_, 1, none⟩) zx).trans hH.2.2.2.2.2.2.2.2.2.1, (b11.cell (p := ⟨_, 2, none⟩) zx).trans hH.2.2.2.2.2.2.2.2.2.2.1, (b11.cell (p := ⟨_, 3, none⟩) zx).trans hH.2.2.2.2.2.2.2.2.2.2.2.1, (b11.cell (p := ⟨_, 4, none⟩) zx).trans hH.2.2.2.2.2.2.2.2.2.2.2.2.1, (b11.cell (p := ⟨_, 0, none⟩) zy).trans hH.2.2.2.2.2.2.2.2.2.2.2.2.2.1, (b11.cell (p := ⟨_, 1, none⟩) zy).trans hH.2.2.2.2.2.2.2.2.2.2.2.2.2.2.1, (b11.cell (p := ⟨_, 2, none⟩) zy).trans hH.2.2.2.2.2.2.2.2.2.2.2.2.2.2.2.1, (b11.cell (p := ⟨_, 3, none⟩) zy).trans hH.2.2.2.2.2.2.2.2.2.2.2.2.2.2.2.2.1, (b11.cell (p := ⟨_, 4, none⟩) zy).trans hH.2.2.2.2.2.2.2.2.2.2.2.2.2.2.2.2.2⟩ (fun hH11 => ?_)
    clear hK K
    replace za := Nat.lt_of_lt_of_le za b11.size
    replace zb := Nat.lt_of_lt_of_le zb b11.size
    replace zx := Nat.lt_of_lt_of_le zx b11.size
    replace zy := Nat.lt_of_lt_of_le zy b11.size
    refine wpAnyH_ready (rs := [2]) (by kernel_rfl) (by simp) ?_
    refine AllReadyH.cons (o := _) rfl (fun K hK => ?_) AllReadyH.nil
    simp only [List.getElem_toArray, List.getElem_cons_zero, List.getElem_cons_succ]
    go_simp
    with_reducible refine (J4.out _).mono ?_
    rintro e v12 ⟨rfl, b12⟩
    dsimp only
    have bel12 := bel11.trans (b12.mono bel11.size)
    refine hK.out _ _ ⟨(b12.cell (p := ⟨_, 0, none⟩) za).trans hH11.1, (b12.cell (p := ⟨_, 1, none⟩) za).trans hH11.2.1, (b12.cell (p := ⟨_, 2, none⟩) za).trans hH11.2.2.1, (b12.cell (p := ⟨_, 3, none⟩) za).trans hH11.2.2.2.1, (b12.cell (p := ⟨_, 0, none⟩) zb).trans hH11.2.2.2.2.1, (b12.cell (p := ⟨_, 1, none⟩) zb).trans hH11.2.2.2.2.2.1, (b12.cell (p := ⟨_, 2, none⟩) zb).trans hH11.2.2.2.2.2.2.1, (b12.cell (p := ⟨_, 3, none⟩) zb).trans hH11.2.2.2.2.2.2.2.1, (b12.cell (p := ⟨_, 0, none⟩) zx).trans hH11.2.2.2.2.2.2.2.2.1, (b12.cell (p := ⟨_, 1, none⟩) zx).trans hH11.2.2.2.2.2.2.2.2.2.1, (b12.cell (p := ⟨_, 2, none⟩) zx).trans hH11.2.2.2.2.2.2.2.2.2.2.1, (b12.cell (p := ⟨_, 3, none⟩) zx).trans hH11.2.2.2.2.2.2.2.2.2.2.2.1, (b12.cell (p := ⟨_, 4, none⟩) zx).trans hH11.2.2.2.2.2.2.2.2.2.2.2.2.1, (b12.cell (p := ⟨_, 0, none⟩) zy).trans hH11.2.2.2.2.2.2.2.2.2.2.2.2.2.1, (b12.cell (p := ⟨_, 1, none⟩) zy).trans hH11.2.2.2.2.2.2.2.2.2.2.2.2.2.2.1, (b12.cell (p := ⟨_, 2, none⟩) zy).trans hH11.2.2.2.2.2.2.2.2.2.2.2.2.2.2.2.1, (b12.cell (p := ⟨_, 3, none⟩) zy).trans hH11.2.2.2.2.2.2.2.2.2.2.2.2.2.2.2.2.1, (b12.cell (p := ⟨_, 4, none⟩) zy).trans hH11.2.2.2.2.2.2.2.2.2.2.2.2.2.2.2.2.2⟩ (fun hH12 => ?_)
    clear hK K
    replace za := Nat.lt_of_lt_of_le za b12.size
    replace zb := Nat.lt_of_lt_of_le zb b12.size
    replace zx := Nat.lt_of_lt_of_le zx b12.size
    replace zy := Nat.lt_of_lt_of_le zy b12.size
    refine wpAnyH_ready (rs := [4]) (by kernel_rfl) (by simp) ?_
    refine AllReadyH.cons (o := _) rfl (fun K hK => ?_) AllReadyH.nil
    simp only [List.getElem_toArray, List.getElem_cons_zero, List.getElem_cons_succ]
    go_simp
    with_reducible refine (K5.out _).mono ?_
    rintro e v13 ⟨rfl, b13⟩
    dsimp only
    have bel13 := bel12.trans (b13.mono bel12.size)
    refine hK.out _ _ ⟨(b13.cell (p := ⟨_, 0, none⟩) za).trans hH12.1, (b13.cell (p := ⟨_, 1, none⟩) za).trans hH12.2.1, (b13.cell (p := ⟨_, 2, none⟩) za).trans hH12.2.2.1, (b13.cell (p := ⟨_, 3, none⟩) za).trans hH12.2.2.2.1, (b13.cell (p := ⟨_, 0, none⟩) zb).trans hH12.2.2.2.2.1, (b13.cell (p := ⟨_, 1, none⟩) zb).trans hH12.2.2.2.2.2.1, (b13.cell (p := ⟨_, 2, none⟩) zb).trans hH12.2.2.2.2.2.2.1, (b13.cell (p := ⟨_, 3, none⟩) zb).trans hH12.2.2.2.2.2.2.2.1, (b13.cell (p := ⟨_, 0, none⟩) zx).trans hH12.2.2.2.2.2.2.2.2.1, (b13.cell (p := ⟨_, 1, none⟩) zx).trans hH12.2.2.2.2.2.2.2.2.2.1, (b13.cell (p := ⟨_, 2, none⟩) zx).trans hH12.2.2.2.2.2.2.2.2.2.2.1, (b13.cell (p := ⟨_, 3, none⟩) zx).trans hH12.2.2.2.2.2.2.2.2.2.2.2.1, (b13.cell (p := ⟨_, 4, none⟩) zx).trans hH12.2.2.2.2.2.2.2.2.2.2.2.2.1, (b13.cell (p := ⟨_, 0, none⟩) zy).trans hH12.2.2.2.2.2.2.2.2.2.2.2.2.2.1, (b13.cell (p := ⟨_, 1, none⟩) zy).trans hH12.2.2.2.2.2.2.2.2.2.2.2.2.2.2.1, (b13.cell (p := ⟨_, 2, none⟩) zy).trans hH12.2.2.2.2.2.2.2.2.2.2.2.2.2.2.2.1, (b13.cell (p := ⟨_, 3, none⟩) zy).trans hH12.2.2.2.2.2.2.2.2.2.2.2.2.2.2.2.2.1, (b13.cell (p := ⟨_, 4, none⟩) zy).trans hH12.2.2.2.2.2.2.2.2.2.2.2.2.2.2.2.2.2⟩ (fun hH13 => ?_)
    clear hK K
    replace za := Nat.lt_of_lt_of_le za b13.size
    replace zb := Nat.lt_of_lt_of_le zb b13.size
    replace zx := Nat.lt_of_lt_of_le zx b13.size
    replace zy := Nat.lt_of_lt_of_le zy b13.size
    refine wpAnyH_ready (rs := [5]) (by kernel_rfl) (by simp) ?_
    refine AllReadyH.cons (o := _) rfl (fun K hK => ?_) AllReadyH.nil
    simp only [List.getElem_toArray, List.getElem_cons_zero, List.getElem_cons_succ]
    go_simp
    with_reducible refine (J5.out _).mono ?_
    rintro e v14 ⟨rfl, b14⟩
    dsimp only
    have bel14 := bel13.trans (b14.mono bel13.size)
    refine hK.out _ _ ⟨(b14.cell (p := ⟨_, 0, none⟩) za).trans hH13.1, (b14.cell (p := ⟨_, 1, none⟩) za).trans hH13.2.1, (b14.cell (p := ⟨_, 2, none⟩) za).trans hH13.2.2.1, (b14.cell (p := ⟨_, 3, none⟩) za).trans hH13.2.2.2.1, (b14.cell (p := ⟨_, 0, none⟩) zb).trans hH13.2.2.2.2.1, (b14.cell (p := ⟨_, 1, none⟩) zb).trans hH13.2.2.2.2.2.1, (b14.cell (p := ⟨_, 2, none⟩) zb).trans hH13.2.2.2.2.2.2.1, (b14.cell (p := ⟨_, 3, none⟩) zb).trans hH13.2.2.2.2.2.2.2.1, (b14.cell (p := ⟨_, 0, none⟩) zx).trans hH13.2.2.2.2.2.2.2.2.1, (b14.cell (p := ⟨_, 1, none⟩) zx).trans hH13.2.2.2.2.2.2.2.2.2.1, (b14.cell (p := ⟨_, 2, none⟩) zx).trans hH13.2.2.2.2.2.2.2.2.2.2.1, (b14.cell (p := ⟨_, 3, none⟩) zx).trans hH13.2.2.2.2.2.2.2.2.2.2.2.1, (b14.cell (p := ⟨_, 4, none⟩) zx).trans hH13.2.2.2.2.2.2.2.2.2.2.2.2.1, (b14.cell (p := ⟨_, 0, none⟩) zy).trans hH13.2.2.2.2.2.2.2.2.2.2.2.2.2.1, (b14.cell (p := ⟨_, 1, none⟩) zy).trans hH13.2.2.2.2.2.2.2.2.2.2.2.2.2.2.1, (b14.cell (p := ⟨_, 2, none⟩) zy).trans hH13.2.2.2.2.2.2.2.2.2.2.2.2.2.2.2.1, (b14.cell (p := ⟨_, 3, none⟩) zy).trans hH13.2.2.2.2.2.2.2.2.2.2.2.2.2.2.2.2.1, (b14.cell (p := ⟨_, 4, none⟩) zy).trans hH13.2.2.2.2.2.2.2.2.2.2.2.2.2.2.2.2.2⟩ (fun hH14 => ?_)
    clear hK K
    replace za := Nat.lt_of_lt_of_le za b14.size
    replace zb := Nat.lt_of_lt_of_le zb b14.size
    replace zx := Nat.lt_of_lt_of_le zx b14.size
    replace zy := Nat.lt_of_lt_of_le zy b14.size
    refine wpAnyH_take (i := 6) (v := ?_) rfl (by kernel_rfl) (by kernel_rfl) (by kernel_rfl) (fun _ _ _ h => h) (Or.inl ⟨by rfl, ?_⟩) hH14 ?_
    rotate_left
    · ((intro W hW; obtain ⟨s0, s1, s2, s3, s4, s5, s6, s7, s8, s9, s10, s11, s12, s13, s14, s15, s16, s17⟩ := hW; go_simp) <;> with_reducible rfl)
    simp only [Act.put, List.getElem_toArray, List.getElem_cons_zero, List.getElem_cons_succ, List.setIfInBounds_toArray, List.set_cons_zero, List.set_cons_succ]
    refine wpAnyH_take (i := 7) (v := ?_) rfl (by kernel_rfl) (by kernel_rfl) (by kernel_rfl) (fun _ _ _ h => h) (Or.inl ⟨by rfl, ?_⟩) hH14 ?_
    rotate_left
    · ((intro W hW; obtain ⟨s0, s1, s2, s3, s4, s5, s6, s7, s8, s9, s10, s11, s12, s13, s14, s15, s16, s17⟩ := hW; go_simp) <;> with_reducible rfl)
    simp only [Act.put, List.getElem_toArray, List.getElem_cons_zero, List.getElem_cons_succ, List.setIfInBounds_toArray, List.set_cons_zero, List.set_cons_succ]
    refine wpAnyH_done (by kernel_rfl) ?_ _
    go_wp2_with fail
    refine wp_region_held_drew (S := fun W => W.cell? ⟨w.heap.size, 0, none⟩ = some (.int .u8 (a.toNat : Int)) ∧ W.cell? ⟨w.heap.size, 1, none⟩ = some (.int .u8 (b.toNat : Int)) ∧ W.cell? ⟨w.heap.size, 2, none⟩ = some (.int .u8 (c.toNat : Int)) ∧ W.cell? ⟨w.heap.size, 3, none⟩ = some (.int .u8 (d.toNat : Int)) ∧ W.cell? ⟨w.heap.size + 1, 0, none⟩ = some (.int .u8 (p1.toNat : Int)) ∧ W.cell? ⟨w.heap.size + 1, 1, none⟩ = some (.int .u8 (p2.toNat : Int)) ∧ W.cell? ⟨w.heap.size + 1, 2, none⟩ = some (.int .u8 (p3.toNat : Int)) ∧ W.cell? ⟨w.heap.size + 1, 3, none⟩ = some (.int .u8 (p4.toNat : Int)) ∧ W.cell? ⟨w1.heap.size, 0, none⟩ = some (.int .u8 (a.toNat : Int)) ∧ W.cell? ⟨w1.heap.size, 1, none⟩ = some (.int .u8 (b.toNat : Int)) ∧ W.cell? ⟨w1.heap.size, 2, none⟩ = some (.int .u8 (c.toNat : Int)) ∧ W.cell? ⟨w1.heap.size, 3, none⟩ = some (.int .u8 (d.toNat : Int)) ∧ W.cell? ⟨w1.heap.size, 4, none⟩ = some (.int .i64 (m : Int)) ∧ W.cell? ⟨w1.heap.size + 1, 0, none⟩ = some (.int .u8 (a.toNat : Int)) ∧ W.cell? ⟨w1.heap.size + 1, 1, none⟩ = some (.int .u8 (b.toNat : Int)) ∧ W.cell? ⟨w1.heap.size + 1, 2, none⟩ = some (.int .u8 (c.toNat : Int)) ∧ W.cell? ⟨w1.heap.size + 1, 3, none⟩ = some (.int .u8 (d.toNat : Int)) ∧ W.cell? ⟨w1.heap.size + 1, 4, none⟩ = some (.int .i64 ((m : Int) + 1))) (by kernel_rfl) hH14 (fun hH => ?_)
    refine wpAnyH_take (i := 0) (v := ?_) rfl (by kernel_rfl) (by kernel_rfl) (by kernel_rfl) (fun _ _ _ h => h) (Or.inl ⟨by rfl, ?_⟩) hH ?_
    rotate_left
    · ((intro W hW; obtain ⟨s0, s1, s2, s3, s4, s5, s6, s7, s8, s9, s10, s11, s12, s13, s14, s15, s16, s17⟩ := hW; go_simp) <;> with_reducible rfl)
    simp only [Act.put, List.getElem_toArray, List.getElem_cons_zero, List.setIfInBounds_toArray, List.set_cons_zero, List.set_cons_succ]
    refine wpAnyH_take (i := 1) (v := ?_) rfl (by kernel_rfl) (by kernel_rfl) (by kernel_rfl) (fun _ _ _ h => h) (Or.inl ⟨by rfl, ?_⟩) hH ?_
    rotate_left
    · ((intro W hW; obtain ⟨s0, s1, s2, s3, s4, s5, s6, s7, s8, s9, s10, s11, s12, s13, s14, s15, s16, s17⟩ := hW; go_simp) <;> with_reducible rfl)
    simp only [Act.put, List.getElem_toArray, List.getElem_cons_zero, List.getElem_cons_succ, List.setIfInBounds_toArray, List.set_cons_zero, List.set_cons_succ]
    refine wpAnyH_ready (rs := [2]) (by kernel_rfl) (by simp) ?_
    refine AllReadyH.cons (o := _) rfl (fun K hK => ?_) AllReadyH.nil
    simp only [List.getElem_toArray, List.getElem_cons_zero, List.getElem_cons_succ]
    go_simp
    with_reducible refine (K1.out _).mono ?_
    rintro e v15 ⟨rfl, b15⟩
    dsimp only
    have bel15 := bel14.drew.trans (b15.mono bel14.size)
    refine hK.out _ _ ⟨(b15.cell (p := ⟨_, 0, none⟩) za).trans hH.1, (b15.cell (p := ⟨_, 1, none⟩) za).trans hH.2.1, (b15.cell (p := ⟨_, 2, none⟩) za).trans hH.2.2.1, (b15.cell (p := ⟨_, 3, none⟩) za).trans hH.2.2.2.1, (b15.cell (p := ⟨_, 0, none⟩) zb).trans hH.2.2.2.2.1, (b15.cell (p := ⟨_, 1, none⟩) zb).trans hH.2.2.2.2.2.1, (b15.cell (p := ⟨_, 2, none⟩) zb).trans hH.2.2.2.2.2.2.1, (b15.cell (p := ⟨_, 3, none⟩) zb).trans hH.2.2.2.2.2.2.2.1, (b15.cell (p := ⟨_, 0, none⟩) zx).trans hH.2.2.2.2.2.2.2.2.1, (b15.cell (p := ⟨_, 1, none⟩) zx).trans hH.2.2.2.2.2.2.2.2.2.1, (b15.cell (p := ⟨_, 2, none⟩) zx).trans hH.2.2.2.2.2.2.2.2.2.2.1, (b15.cell (p := ⟨_, 3, none⟩) zx).trans hH.2.2.2.2.2.2.2.2.2.2.2.1, (b15.cell (p := ⟨_, 4, none⟩) zx).trans hH.2.2.2.2.2.2.2.2.2.2.2.2.1, (b15.cell (p := ⟨_, 0, none⟩) zy).trans hH.2.2.2.2.2.2.2.2.2.2.2.2.2.1, (b15.cell (p := ⟨_, 1, none⟩) zy).trans hH.2.2.2.2.2.2.2.2.2.2.2.2.2.2.1, (b15.cell (p := ⟨_, 2, none⟩) zy).trans hH.2.2.2.2.2.2.2.2.2.2.2.2.2.2.2.1, (b15.cell (p := ⟨_, 3, none⟩) zy).trans hH.2.2.2.2.2.2.2.2.2.2.2.2.2.2.2.2.1, (b15.cell (p := ⟨_, 4, none⟩) zy).trans hH.2.2.2.2.2.2.2.2.2.2.2.2.2.2.2.2.2⟩ (fun hH15 => ?_)
    clear hK K
    replace za := Nat.lt_of_lt_of_le za b15.size
    replace zb := Nat.lt_of_lt_of_le zb b15.size
    replace zx := Nat.lt_of_lt_of_le zx b15.size
    replace zy := Nat.lt_of_lt_of_le zy b15.size
    refine wpAnyH_take (i := 3) (v := ?_) rfl (by kernel_rfl) (by kernel_rfl) (by kernel_rfl) (fun _ _ _ h => h) (Or.inl ⟨by rfl, ?_⟩) hH15 ?_
    rotate_left
    · ((intro W hW; obtain ⟨s0, s1, s2, s3, s4, s5, s6, s7, s8, s9, s10, s11, s12, s13, s14, s15, s16, s17⟩ := hW; go_simp) <;> with_reducible rfl)
    simp only [Act.put, List.getElem_toArray, List.getElem_cons_zero, List.getElem_cons_succ, List.setIfInBounds_toArray, List.set_cons_zero, List.set_cons_succ]
    refine wpAnyH_take (i := 4) (v := ?_) rfl (by kernel_rfl) (by kernel_rfl) (by kernel_rfl) (fun _ _ _ h => h) (Or.inl ⟨by rfl, ?_⟩) hH15 ?_
    rotate_left
    · ((intro W hW; obtain ⟨s0, s1, s2, s3, s4, s5, s6, s7, s8, s9, s10, s11, s12, s13, s14, s15, s16, s17⟩ := hW; go_simp) <;> with_reducible rfl)
    simp only [Act.put, List.getElem_toArray, List.getElem_cons_zero, List.getElem_cons_succ, List.setIfInBounds_toArray, List.set_cons_zero, List.set_cons_succ]
    refine wpAnyH_take (i := 5) (v := undef) rfl (by kernel_rfl) (by kernel_rfl) (by kernel_rfl) (fun _ _ _ h => h) (Or.inr ⟨by rfl, rfl⟩) hH15 ?_
    simp only [Act.put, List.getElem_toArray, List.getElem_cons_zero, List.getElem_cons_succ, List.setIfInBounds_toArray, List.set_cons_zero, List.set_cons_succ]
    refine wpAnyH_take (i := 6) (v := undef) rfl (by kernel_rfl) (by kernel_rfl) (by kernel_rfl) (fun _ _ _ h => h) (Or.inr ⟨by rfl, rfl⟩) hH15 ?_
    simp only [Act.put, List.getElem_toArray, List.getElem_cons_zero, List.getElem_cons_succ, List.setIfInBounds_toArray, List.set_cons_zero, List.set_cons_succ]
    refine wpAnyH_take (i := 7) (v := undef) rfl (by kernel_rfl) (by kernel_rfl) (by kernel_rfl) (fun _ _ _ h => h) (Or.inr ⟨by rfl, rfl⟩) hH15 ?_
    simp only [Act.put, List.getElem_toArray, List.getElem_cons_zero, List.getElem_cons_succ, List.setIfInBounds_toArray, List.set_cons_zero, List.set_cons_succ]
    refine wpAnyH_take (i := 8) (v := ?_) rfl (by kernel_rfl) (by kernel_rfl) (by kernel_rfl) (fun _ _ _ h => h) (Or.inl ⟨by rfl, ?_⟩) hH15 ?_
    rotate_left
    · ((intro W hW; obtain ⟨s0, s1, s2, s3, s4, s5, s6, s7, s8, s9, s10, s11, s12, s13, s14, s15, s16, s17⟩ := hW; go_simp) <;> with_reducible rfl)
    simp only [Act.put, List.getElem_toArray, List.getElem_cons_zero, List.getElem_cons_succ, List.setIfInBounds_toArray, List.set_cons_zero, List.set_cons_succ]
    refine wpAnyH_take (i := 9) (v := ?_) rfl (by kernel_rfl) (by kernel_rfl) (by kernel_rfl) (fun _ _ _ h => h) (Or.inl ⟨by rfl, ?_⟩) hH15 ?_
    rotate_left
    · ((intro W hW; obtain ⟨s0, s1, s2, s3, s4, s5, s6, s7, s8, s9, s10, s11, s12, s13, s14, s15, s16, s17⟩ := hW; go_simp) <;> with_reducible rfl)
    simp only [Act.put, List.getElem_toArray, List.getElem_cons_zero, List.getElem_cons_succ, List.setIfInBounds_toArray, List.set_cons_zero, List.set_cons_succ]
    refine wpAnyH_take (i := 10) (v := ?_) rfl (by kernel_rfl) (by kernel_rfl) (by kernel_rfl) (fun _ _ _ h => h) (Or.inl ⟨by rfl, ?_⟩) hH15 ?_
    rotate_left
    · ((intro W hW; obtain ⟨s0, s1, s2, s3, s4, s5, s6, s7, s8, s9, s10, s11, s12, s13, s14, s15, s16, s17⟩ := hW; go_simp) <;> with_reducible rfl)
    simp only [Act.put, List.getElem_toArray, List.getElem_cons_zero, List.getElem_cons_succ, List.setIfInBounds_toArray, List.set_cons_zero, List.set_cons_succ]
    refine wpAnyH_take (i := 13) (v := ?_) rfl (by kernel_rfl) (by kernel_rfl) (by kernel_rfl) (fun _ _ _ h => h) (Or.inl ⟨by rfl, ?_⟩) hH15 ?_
    rotate_left
    · ((intro W hW; obtain ⟨s0, s1, s2, s3, s4, s5, s6, s7, s8, s9, s10, s11, s12, s13, s14, s15, s16, s17⟩ := hW; go_simp) <;> with_reducible rfl)
    simp only [Act.put, List.getElem_toArray, List.getElem_cons_zero, List.getElem_cons_succ, List.setIfInBounds_toArray, List.set_cons_zero, List.set_cons_succ]
    refine wpAnyH_take (i := 17) (v := ?_) rfl (by kernel_rfl) (by kernel_rfl) (by kernel_rfl) (fun _ _ _ h => h) (Or.inl ⟨by rfl, ?_⟩) hH15 ?_
    rotate_left
    · ((intro W hW; obtain ⟨s0, s1, s2, s3, s4, s5, s6, s7, s8, s9, s10, s11, s12, s13, s14, s15, s16, s17⟩ := hW; go_simp) <;> with_reducible rfl)
    simp only [Act.put, List.getElem_toArray, List.getElem_cons_zero, List.getElem_cons_succ, List.setIfInBounds_toArray, List.set_cons_zero, List.set_cons_succ]
    refine wpAnyH_take (i := 18) (v := ?_) rfl (by kernel_rfl) (by kernel_rfl) (by kernel_rfl) (fun _ _ _ h => h) (Or.inl ⟨by rfl, ?_⟩) hH15 ?_
    rotate_left
    · ((intro W hW; obtain ⟨s0, s1, s2, s3, s4, s5, s6, s7, s8, s9, s10, s11, s12, s13, s14, s15, s16, s17⟩ := hW; go_simp) <;> with_reducible rfl)
    simp only [Act.put, List.getElem_toArray, List.getElem_cons_zero, List.getElem_cons_succ, List.setIfInBounds_toArray, List.set_cons_zero, List.set_cons_succ]
    refine wpAnyH_take (i := 19) (v := ?_) rfl (by kernel_rfl) (by kernel_rfl) (by kernel_rfl) (fun _ _ _ h => h) (Or.inl ⟨by rfl, ?_⟩) hH15 ?_
    rotate_left
    · ((intro W hW; obtain ⟨s0, s1, s2, s3, s4, s5, s6, s7, s8, s9, s10, s11, s12, s13, s14, s15, s16, s17⟩ := hW; go_simp) <;> with_reducible rfl)
    simp only [Act.put, List.getElem_toArray, List.getElem_cons_zero, List.getElem_cons_succ, List.setIfInBounds_toArray, List.set_cons_zero, List.set_cons_succ]
    refine wpAnyH_ready (rs := [11]) (by kernel_rfl) (by simp) ?_
    refine AllReadyH.cons (o := _) rfl (fun K hK => ?_) AllReadyH.nil
    simp only [List.getElem_toArray, List.getElem_cons_zero, List.getElem_cons_succ]
    go_simp
    with_reducible refine (K6.out _).mono ?_
    rintro e v16 ⟨rfl, b16⟩
    dsimp only
    have bel16 := bel15.trans (b16.mono bel15.size)
    refine hK.out _ _ ⟨(b16.cell (p := ⟨_, 0, none⟩) za).trans hH15.1, (b16.cell (p := ⟨_, 1, none⟩) za).trans hH15.2.1, (b16.cell (p := ⟨_, 2, none⟩) za).trans hH15.2.2.1, (b16.cell (p := ⟨_, 3, none⟩) za).trans hH15.2.2.2.1, (b16.cell (p := ⟨_, 0, none⟩) zb).trans hH15.2.2.2.2.1, (b16.cell (p := ⟨_, 1, none⟩) zb).trans hH15.2.2.2.2.2.1, (b16.cell (p := ⟨_, 2, none⟩) zb).trans hH15.2.2.2.2.2.2.1, (b16.cell (p := ⟨_, 3, none⟩) zb).trans hH15.2.2.2.2.2.2.2.1, (b16.cell (p := ⟨_, 0, none⟩) zx).trans hH15.2.2.2.2.2.2.2.2.1, (b16.cell (p := ⟨_, 1, none⟩) zx).trans hH15.2.2.2.2.2.2.2.2.2.1, (b16.cell (p := ⟨_, 2, none⟩) zx).trans hH15.2.2.2.2.2.2.2.2.2.2.1, (b16.cell (p := ⟨_, 3, none⟩) zx).trans hH15.2.2.2.2.2.2.2.2.2.2.2.1, (b16.cell (p := ⟨_, 4, none⟩) zx).trans hH15.2.2.2.2.2.2.2.2.2.2.2.2.1, (b16.cell (p := ⟨_, 0, none⟩) zy).trans hH15.2.2.2.2.2.2.2.2.2.2.2.2.2.1, (b16.cell (p := ⟨_, 1, none⟩) zy).trans hH15.2.2.2.2.2.2.2.2.2.2.2.2.2.2.1, (b16.cell (p := ⟨_, 2, none⟩) zy).trans hH15.2.2.2.2.2.2.2.2.2.2.2.2.2.2.2.1, (b16.cell (p := ⟨_, 3, none⟩) zy).trans hH15.2.2.2.2.2.2.2.2.2.2.2.2.2.2.2.2.1, (b16.cell (p := ⟨_, 4, none⟩) zy).trans hH15.2.2.2.2.2.2.2.2.2.2.2.2.2.2.2.2.2⟩ (fun hH16 => ?_)
    clear hK K
    replace za := Nat.lt_of_lt_of_le za b16.size
    replace zb := Nat.lt_of_lt_of_le zb b16.size
    replace zx := Nat.lt_of_lt_of_le zx b16.size
    replace zy := Nat.lt_of_lt_of_le zy b16.size
    refine wpAnyH_ready (rs := [12]) (by kernel_rfl) (by simp) ?_
    refine AllReadyH.cons (o := _) rfl (fun K hK => ?_) AllReadyH.nil
    simp only [List.getElem_toArray, List.getElem_cons_zero, List.getElem_cons_succ]
    go_simp
    with_reducible refine (J6.out _).mono ?_
    rintro e v17 ⟨rfl, b17⟩
    dsimp only
    have bel17 := bel16.trans (b17.mono bel16.size)
    refine hK.out _ _ ⟨(b17.cell (p := ⟨_, 0, none⟩) za).trans hH16.1, (b17.cell (p := ⟨_, 1, none⟩) za).trans hH16.2.1, (b17.cell (p := ⟨_, 2, none⟩) za).trans hH16.2.2.1, (b17.cell (p := ⟨_, 3, none⟩) za).trans hH16.2.2.2.1, (b17.cell (p := ⟨_, 0, none⟩) zb).trans hH16.2.2.2.2.1, (b17.cell (p := ⟨_, 1, none⟩) zb).trans hH16.2.2.2.2.2.1, (b17.cell (p := ⟨_, 2, none⟩) zb).trans hH16.2.2.2.2.2.2.1, (b17.cell (p := ⟨_, 3, none⟩) zb).trans hH16.2.2.2.2.2.2.2.1, (b17.cell (p := ⟨_, 0, none⟩) zx).trans hH16.2.2.2.2.2.2.2.2.1, (b17.cell (p := ⟨_, 1, none⟩) zx).trans hH16.2.2.2.2.2.2.2.2.2.1, (b17.cell (p := ⟨_, 2, none⟩) zx).trans hH16.2.2.2.2.2.2.2.2.2.2.1, (b17.cell (p := ⟨_, 3, none⟩) zx).trans hH16.2.2.2.2.2.2.2.2.2.2.2.1, (b17.cell (p := ⟨_, 4, none⟩) zx).trans hH16.2.2.2.2.2.2.2.2.2.2.2.2.1, (b17.cell (p := ⟨_, 0, none⟩) zy).trans hH16.2.2.2.2.2.2.2.2.2.2.2.2.2.1, (b17.cell (p := ⟨_, 1, none⟩) zy).trans hH16.2.2.2.2.2.2.2.2.2.2.2.2.2.2.1, (b17.cell (p := ⟨_, 2, none⟩) zy).trans hH16.2.2.2.2.2.2.2.2.2.2.2.2.2.2.2.1, (b17.cell (p := ⟨_, 3, none⟩) zy).trans hH16.2.2.2.2.2.2.2.2.2.2.2.2.2.2.2.2.1, (b17.cell (p := ⟨_, 4, none⟩) zy).trans hH16.2.2.2.2.2.2.2.2.2.2.2.2.2.2.2.2.2⟩ (fun hH17 => ?_)
    clear hK K
    replace za := Nat.lt_of_lt_of_le za b17.size
    replace zb := Nat.lt_of_lt_of_le zb b17.size
    replace zx := Nat.lt_of_lt_of_le zx b17.size
    replace zy := Nat.lt_of_lt_of_le zy b17.size
    refine wpAnyH_ready (rs := [14]) (by kernel_rfl) (by simp) ?_
    refine AllReadyH.cons (o := _) rfl (fun K hK => ?_) AllReadyH.nil
    simp only [List.getElem_toArray, List.getElem_cons_zero, List.getElem_cons_succ]
    go_simp
    with_reducible refine (K7.out _).mono ?_
    rintro e v18 ⟨rfl, b18⟩
    dsimp only
    have bel18 := bel17.trans (b18.mono bel17.size)
    refine hK.out _ _ ⟨(b18.cell (p := ⟨_, 0, none⟩) za).trans hH17.1, (b18.cell (p := ⟨_, 1, none⟩) za).trans hH17.2.1, (b18.cell (p := ⟨_, 2, none⟩) za).trans hH17.2.2.1, (b18.cell (p := ⟨_, 3, none⟩) za).trans hH17.2.2.2.1, (b18.cell (p := ⟨_, 0, none⟩) zb).trans hH17.2.2.2.2.1, (b18.cell (p := ⟨_, 1, none⟩) zb).trans hH17.2.2.2.2.2.1, (b18.cell (p := ⟨_, 2, none⟩) zb).trans hH17.2.2.2.2.2.2.1, (b18.cell (p := ⟨_, 3, none⟩) zb).trans hH17.2.2.2.2.2.2.2.1, (b18.cell (p := ⟨_, 0, none⟩) zx).trans hH17.2.2.2.2.2.2.2.2.1, (b18.cell (p := ⟨_, 1, none⟩) zx).trans hH17.2.2.2.2.2.2.2.2.2.1, (b18.cell (p := ⟨_, 2, none⟩) zx).trans hH17.2.2.2.2.2.2.2.2.2.2.1, (b18.cell (p := ⟨_, 3, none⟩) zx).trans hH17.2.2.2.2.2.2.2.2.2.2.2.1, (b18.cell (p := ⟨_, 4, none⟩) zx).trans hH17.2.2.2.2.2.2.2.2.2.2.2.2.1, (b18.cell (p := ⟨_, 0, none⟩) zy).trans hH17.2.2.2.2.2.2.2.2.2.2.2.2.2.1, (b18.cell (p := ⟨_, 1, none⟩) zy).trans hH17.2.2.2.2.2.2.2.2.2.2.2.2.2.2.1, (b18.cell (p := ⟨_, 2, none⟩) zy).trans hH17.2.2.2.2.2.2.2.2.2.2.2.2.2.2.2.1, (b18.cell (p := ⟨_, 3, none⟩) zy).trans hH17.2.2.2.2.2.2.2.2.2.2.2.2.2.2.2.2.1, (b18.cell (p := ⟨_, 4, none⟩) zy).trans hH17.2.2.2.2.2.2.2.2.2.2.2.2.2.2.2.2.2⟩ (fun hH18 => ?_)
    clear hK K
    replace za := Nat.lt_of_lt_of_le za b18.size
    replace zb := Nat.lt_of_lt_of_le zb b18.size
    replace zx := Nat.lt_of_lt_of_le zx b18.size
    replace zy := Nat.lt_of_lt_of_le zy b18.size
    refine wpAnyH_ready (rs := [15]) (by kernel_rfl) (by simp) ?_
    refine AllReadyH.cons (o := _) rfl (fun K hK => ?_) AllReadyH.nil
    simp only [List.getElem_toArray, List.getElem_cons_zero, List.getElem_cons_succ]
    go_simp
    with_reducible refine (J7.out _).mono ?_
    rintro e v19 ⟨rfl, b19⟩
    dsimp only
    have bel19 := bel18.trans (b19.mono bel18.size)
    refine hK.out _ _ ⟨(b19.cell (p := ⟨_, 0, none⟩) za).trans hH18.1, (b19.cell (p := ⟨_, 1, none⟩) za).trans hH18.2.1, (b19.cell (p := ⟨_, 2, none⟩) za).trans hH18.2.2.1, (b19.cell (p := ⟨_, 3, none⟩) za).trans hH18.2.2.2.1, (b19.cell (p := ⟨_, 0, none⟩) zb).trans hH18.2.2.2.2.1, (b19.cell (p := ⟨_, 1, none⟩) zb).trans hH18.2.2.2.2.2.1, (b19.cell (p := ⟨_, 2, none⟩) zb).trans hH18.2.2.2.2.2.2.1, (b19.cell (p := ⟨_, 3, none⟩) zb).trans hH18.2.2.2.2.2.2.2.1, (b19.cell (p := ⟨_, 0, none⟩) zx).trans hH18.2.2.2.2.2.2.2.2.1, (b19.cell (p := ⟨_, 1, none⟩) zx).trans hH18.2.2.2.2.2.2.2.2.2.1, (b19.cell (p := ⟨_, 2, none⟩) zx).trans hH18.2.2.2.2.2.2.2.2.2.2.1, (b19.cell (p := ⟨_, 3, none⟩) zx).trans hH18.2.2.2.2.2.2.2.2.2.2.2.1, (b19.cell (p := ⟨_, 4, none⟩) zx).trans hH18.2.2.2.2.2.2.2.2.2.2.2.2.1, (b19.cell (p := ⟨_, 0, none⟩) zy).trans hH18.2.2.2.2.2.2.2.2.2.2.2.2.2.1, (b19.cell (p := ⟨_, 1, none⟩) zy).trans hH18.2.2.2.2.2.2.2.2.2.2.2.2.2.2.1, (b19.cell (p := ⟨_, 2, none⟩) zy).trans hH18.2.2.2.2.2.2.2.2.2.2.2.2.2.2.2.1, (b19.cell (p := ⟨_, 3, none⟩) zy).trans hH18.2.2.2.2.2.2.2.2.2.2.2.2.2.2.2.2.1, (b19.cell (p := ⟨_, 4, none⟩) zy).trans hH18.2.2.2.2.2.2.2.2.2.2.2.2.2.2.2.2.2⟩ (fun hH19 => ?_)
    clear hK K
    replace za := Nat.lt_of_lt_of_le za b19.size
    replace zb := Nat.lt_of_lt_of_le zb b19.size
    replace zx := Nat.lt_of_lt_of_le zx b19.size
    replace zy := Nat.lt_of_lt_of_le zy b19.size
    refine wpAnyH_take (i := 16) (v := ?_) rfl (by kernel_rfl) (by kernel_rfl) (by kernel_rfl) (fun _ _ _ h => h) (Or.inl ⟨by rfl, ?_⟩) hH19 ?_
    rotate_left
    · ((intro W hW; obtain ⟨s0, s1, s2, s3, s4, s5, s6, s7, s8, s9, s10, s11, s12, s13, s14, s15, s16, s17⟩ := hW; go_simp) <;> with_reducible rfl)
    simp only [Act.put, List.getElem_toArray, List.getElem_cons_zero, List.getElem_cons_succ, List.setIfInBounds_toArray, List.set_cons_zero, List.set_cons_succ]
    refine wpAnyH_take (i := 20) (v := ?_) rfl (by kernel_rfl) (by kernel_rfl) (by kernel_rfl) (fun _ _ _ h => h) (Or.inl ⟨by rfl, ?_⟩) hH19 ?_
    rotate_left
    · ((intro W hW; obtain ⟨s0, s1, s2, s3, s4, s5, s6, s7, s8, s9, s10, s11, s12, s13, s14, s15, s16, s17⟩ := hW; go_simp) <;> with_reducible rfl)
    simp only [Act.put, List.getElem_toArray, List.getElem_cons_zero, List.getElem_cons_succ, List.setIfInBounds_toArray, List.set_cons_zero, List.set_cons_succ]
    refine wpAnyH_take (i := 21) (v := ?_) rfl (by kernel_rfl) (by kernel_rfl) (by kernel_rfl) (fun _ _ _ h => h) (Or.inl ⟨by rfl, ?_⟩) hH19 ?_
    rotate_left
    · ((intro W hW; obtain ⟨s0, s1, s2, s3, s4, s5, s6, s7, s8, s9, s10, s11, s12, s13, s14, s15, s16, s17⟩ := hW; go_simp) <;> with_reducible rfl)
    simp only [Act.put, List.getElem_toArray, List.getElem_cons_zero, List.getElem_cons_succ, List.setIfInBounds_toArray, List.set_cons_zero, List.set_cons_succ]
    refine wpAnyH_take (i := 22) (v := ?_) rfl (by kernel_rfl) (by kernel_rfl) (by kernel_rfl) (fun _ _ _ h => h) (Or.inl ⟨by rfl, ?_⟩) hH19 ?_
    rotate_left
    · ((intro W hW; obtain ⟨s0, s1, s2, s3, s4, s5, s6, s7, s8, s9, s10, s11, s12, s13, s14, s15, s16, s17⟩ := hW; go_simp) <;> with_reducible rfl)
    simp only [Act.put, List.getElem_toArray, List.getElem_cons_zero, List.getElem_cons_succ, List.setIfInBounds_toArray, List.set_cons_zero, List.set_cons_succ]
    refine wpAnyH_take (i := 23) (v := ?_) rfl (by kernel_rfl) (by kernel_rfl) (by kernel_rfl) (fun _ _ _ h => h) (Or.inl ⟨by rfl, ?_⟩) hH19 ?_
    rotate_left
    · ((intro W hW; obtain ⟨s0, s1, s2, s3, s4, s5, s6, s7, s8, s9, s10, s11, s12, s13, s14, s15, s16, s17⟩ := hW; go_simp) <;> with_reducible rfl)
    simp only [Act.put, List.getElem_toArray, List.getElem_cons_zero, List.getElem_cons_succ, List.setIfInBounds_toArray, List.set_cons_zero, List.set_cons_succ]
    refine wpAnyH_take (i := 24) (v := ?_) rfl (by kernel_rfl) (by kernel_rfl) (by kernel_rfl) (fun _ _ _ h => h) (Or.inl ⟨by rfl, ?_⟩) hH19 ?_
    rotate_left
    · ((intro W hW; obtain ⟨s0, s1, s2, s3, s4, s5, s6, s7, s8, s9, s10, s11, s12, s13, s14, s15, s16, s17⟩ := hW; go_simp) <;> with_reducible rfl)
    simp only [Act.put, List.getElem_toArray, List.getElem_cons_zero, List.getElem_cons_succ, List.setIfInBounds_toArray, List.set_cons_zero, List.set_cons_succ]
    refine wpAnyH_take (i := 25) (v := ?_) rfl (by kernel_rfl) (by kernel_rfl) (by kernel_rfl) (fun _ _ _ h => h) (Or.inl ⟨by rfl, ?_⟩) hH19 ?_
    rotate_left
    · ((intro W hW; obtain ⟨s0, s1, s2, s3, s4, s5, s6, s7, s8, s9, s10, s11, s12, s13, s14, s15, s16, s17⟩ := hW; go_simp) <;> with_reducible rfl)
    simp only [Act.put, List.getElem_toArray, List.getElem_cons_zero, List.getElem_cons_succ, List.setIfInBounds_toArray, List.set_cons_zero, List.set_cons_succ]
    refine wpAnyH_take (i := 27) (v := ?_) rfl (by kernel_rfl) (by kernel_rfl) (by kernel_rfl) (fun _ _ _ h => h) (Or.inl ⟨by rfl, ?_⟩) hH19 ?_
    rotate_left
    · ((intro W hW; obtain ⟨s0, s1, s2, s3, s4, s5, s6, s7, s8, s9, s10, s11, s12, s13, s14, s15, s16, s17⟩ := hW; go_simp) <;> with_reducible rfl)
    simp only [Act.put, List.getElem_toArray, List.getElem_cons_zero, List.getElem_cons_succ, List.setIfInBounds_toArray, List.set_cons_zero, List.set_cons_succ]
    refine wpAnyH_take (i := 28) (v := ?_) rfl (by kernel_rfl) (by kernel_rfl) (by kernel_rfl) (fun _ _ _ h => h) (Or.inl ⟨by rfl, ?_⟩) hH19 ?_
    rotate_left
    · ((intro W hW; obtain ⟨s0, s1, s2, s3, s4, s5, s6, s7, s8, s9, s10, s11, s12, s13, s14, s15, s16, s17⟩ := hW; go_simp) <;> with_reducible rfl)
    simp only [Act.put, List.getElem_toArray, List.getElem_cons_zero, List.getElem_cons_succ, List.setIfInBounds_toArray, List.set_cons_zero, List.set_cons_succ]
    refine wpAnyH_take (i := 29) (v := ?_) rfl (by kernel_rfl) (by kernel_rfl) (by kernel_rfl) (fun _ _ _ h => h) (Or.inl ⟨by rfl, ?_⟩) hH19 ?_
    rotate_left
    · ((intro W hW; obtain ⟨s0, s1, s2, s3, s4, s5, s6, s7, s8, s9, s10, s11, s12, s13, s14, s15, s16, s17⟩ := hW; go_simp) <;> with_reducible rfl)
    simp only [Act.put, List.getElem_toArray, List.getElem_cons_zero, List.getElem_cons_succ, List.setIfInBounds_toArray, List.set_cons_zero, List.set_cons_succ]
    refine wpAnyH_ready (rs := [26]) (by kernel_rfl) (by simp) ?_
    refine AllReadyH.cons (o := _) rfl (fun K hK => ?_) AllReadyH.nil
    simp only [List.getElem_toArray, List.getElem_cons_zero, List.getElem_cons_succ]
    go_simp
    with_reducible refine (K3.out _).mono ?_
    rintro e v20 ⟨rfl, b20⟩
    dsimp only
    have bel20 := bel19.trans (b20.mono bel19.size)
    refine hK.out _ _ ⟨(b20.cell (p := ⟨_, 0, none⟩) za).trans hH19.1, (b20.cell (p := ⟨_, 1, none⟩) za).trans hH19.2.1, (b20.cell (p := ⟨_, 2, none⟩) za).trans hH19.2.2.1, (b20.cell (p := ⟨_, 3, none⟩) za).trans hH19.2.2.2.1, (b20.cell (p := ⟨_, 0, none⟩) zb).trans hH19.2.2.2.2.1, (b20.cell (p := ⟨_, 1, none⟩) zb).trans hH19.2.2.2.2.2.1, (b20.cell (p := ⟨_, 2, none⟩) zb).trans hH19.2.2.2.2.2.2.1, (b20.cell (p := ⟨_, 3, none⟩) zb).trans hH19.2.2.2.2.2.2.2.1, (b20.cell (p := ⟨_, 0, none⟩) zx).trans hH19.2.2.2.2.2.2.2.2.1, (b20.cell (p := ⟨_, 1, none⟩) zx).trans hH19.2.2.2.2.2.2.2.2.2.1, (b20.cell (p := ⟨_, 2, none⟩) zx).trans hH19.2.2.2.2.2.2.2.2.2.2.1, (b20.cell (p := ⟨_, 3, none⟩) zx).trans hH19.2.2.2.2.2.2.2.2.2.2.2.1, (b20.cell (p := ⟨_, 4, none⟩) zx).trans hH19.2.2.2.2.2.2.2.2.2.2.2.2.1, (b20.cell (p := ⟨_, 0, none⟩) zy).trans hH19.2.2.2.2.2.2.2.2.2.2.2.2.2.1, (b20.cell (p := ⟨_, 1, none⟩) zy).trans hH19.2.2.2.2.2.2.2.2.2.2.2.2.2.2.1, (b20.cell (p := ⟨_, 2, none⟩) zy).trans hH19.2.2.2.2.2.2.2.2.2.2.2.2.2.2.2.1, (b20.cell (p := ⟨_, 3, none⟩) zy).trans hH19.2.2.2.2.2.2.2.2.2.2.2.2.2.2.2.2.1, (b20.cell (p := ⟨_, 4, none⟩) zy).trans hH19.2.2.2.2.2.2.2.2.2.2.2.2.2.2.2.2.2⟩ (fun hH20 => ?_)
    clear hK K
    replace za := Nat.lt_of_lt_of_le za b20.size
    replace zb := Nat.lt_of_lt_of_le zb b20.size
    replace zx := Nat.lt_of_lt_of_le zx b20.size
    replace zy := Nat.lt_of_lt_of_le zy b20.size
    refine wpAnyH_take (i := 30) (v := ?_) rfl (by kernel_rfl) (by kernel_rfl) (by kernel_rfl) (fun _ _ _ h => h) (Or.inl ⟨by rfl, ?_⟩) hH20 ?_
    rotate_left
    · ((intro W hW; obtain ⟨s0, s1, s2, s3, s4, s5, s6, s7, s8, s9, s10, s11, s12, s13, s14, s15, s16, s17⟩ := hW; go_simp) <;> with_reducible rfl)
    simp only [Act.put, List.getElem_toArray, List.getElem_cons_zero, List.getElem_cons_succ, List.setIfInBounds_toArray, List.set_cons_zero, List.set_cons_succ]
    refine wpAnyH_take (i := 31) (v := ?_) rfl (by kernel_rfl) (by kernel_rfl) (by kernel_rfl) (fun _ _ _ h => h) (Or.inl ⟨by rfl, ?_⟩) hH20 ?_
    rotate_left
    · ((intro W hW; obtain ⟨s0, s1, s2, s3, s4, s5, s6, s7, s8, s9, s10, s11, s12, s13, s14, s15, s16, s17⟩ := hW; go_simp) <;> with_reducible rfl)
    simp only [Act.put, List.getElem_toArray, List.getElem_cons_zero, List.getElem_cons_succ, List.setIfInBounds_toArray, List.set_cons_zero, List.set_cons_succ]
    refine wpAnyH_take (i := 32) (v := ?_) rfl (by kernel_rfl) (by kernel_rfl) (by kernel_rfl) (fun _ _ _ h => h) (Or.inl ⟨by rfl, ?_⟩) hH20 ?_
    rotate_left
    · ((intro W hW; obtain ⟨s0, s1, s2, s3, s4, s5, s6, s7, s8, s9, s10, s11, s12, s13, s14, s15, s16, s17⟩ := hW; go_simp) <;> with_reducible rfl)
    simp only [Act.put, List.getElem_toArray, List.getElem_cons_zero, List.getElem_cons_succ, List.setIfInBounds_toArray, List.set_cons_zero, List.set_cons_succ]
    refine wpAnyH_done (by kernel_rfl) ?_ _
    go_wp2
    go_ret
    exact ⟨rfl, bel20⟩
  · replace ha := (Go.heap_alloc_old w1 (.cells #[.int .u8 (a.toNat : Int), .int .u8 (b.toNat : Int), .int .u8 (c.toNat : Int), .int .u8 (d.toNat : Int), .int .i64 ((m : Int) + 1)] 29) (r := w.heap.size) za).trans ha
    replace hb := (Go.heap_alloc_old w1 (.cells #[.int .u8 (a.toNat : Int), .int .u8 (b.toNat : Int), .int .u8 (c.toNat : Int), .int .u8 (d.toNat : Int), .int .i64 ((m : Int) + 1)] 29) (r := w.heap.size + 1) zb).trans hb
    have hy := heap_alloc_new w1 (.cells #[.int .u8 (a.toNat : Int), .int .u8 (b.toNat : Int), .int .u8 (c.toNat : Int), .int .u8 (d.toNat : Int), .int .i64 ((m : Int) + 1)] 29)
    replace za := Nat.lt_trans za (show w1.heap.size < (w1.alloc (.cells #[.int .u8 (a.toNat : Int), .int .u8 (b.toNat : Int), .int .u8 (c.toNat : Int), .int .u8 (d.toNat : Int), .int .i64 ((m : Int) + 1)] 29)).heap.size by simp)
    replace zb := Nat.lt_trans zb (show w1.heap.size < (w1.alloc (.cells #[.int .u8 (a.toNat : Int), .int .u8 (b.toNat : Int), .int .u8 (c.toNat : Int), .int .u8 (d.toNat : Int), .int .i64 ((m : Int) + 1)] 29)).heap.size by simp)
    have zy : w1.heap.size < (w1.alloc (.cells #[.int .u8 (a.toNat : Int), .int .u8 (b.toNat : Int), .int .u8 (c.toNat : Int), .int .u8 (d.toNat : Int), .int .i64 ((m : Int) + 1)] 29)).heap.size := by simp
    replace bel := bel.alloc bel.size (.cells #[.int .u8 (a.toNat : Int), .int .u8 (b.toNat : Int), .int .u8 (c.toNat : Int), .int .u8 (d.toNat : Int), .int .i64 ((m : Int) + 1)] 29)
    replace ha := (Go.heap_alloc_old (w1.alloc (.cells #[.int .u8 (a.toNat : Int), .int .u8 (b.toNat : Int), .int .u8 (c.toNat : Int), .int .u8 (d.toNat : Int), .int .i64 ((m : Int) + 1)] 29)) (.cells #[.int .u8 (a.toNat : Int), .int .u8 (b.toNat : Int), .int .u8 (c.toNat : Int), .int .u8 (d.toNat : Int), .int .i64 (m : Int)] 29) (r := w.heap.size) za).trans ha
    replace hb := (Go.heap_alloc_old (w1.alloc (.cells #[.int .u8 (a.toNat : Int), .int .u8 (b.toNat : Int), .int .u8 (c.toNat : Int), .int .u8 (d.toNat : Int), .int .i64 ((m : Int) + 1)] 29)) (.cells #[.int .u8 (a.toNat : Int), .int .u8 (b.toNat : Int), .int .u8 (c.toNat : Int), .int .u8 (d.toNat : Int), .int .i64 (m : Int)] 29) (r := w.heap.size + 1) zb).trans hb
    replace hy := (Go.heap_alloc_old (w1.alloc (.cells #[.int .u8 (a.toNat : Int), .int .u8 (b.toNat : Int), .int .u8 (c.toNat : Int), .int .u8 (d.toNat : Int), .int .i64 ((m : Int) + 1)] 29)) (.cells #[.int .u8 (a.toNat : Int), .int .u8 (b.toNat : Int), .int .u8 (c.toNat : Int), .int .u8 (d.toNat : Int), .int .i64 (m : Int)] 29) (r := w1.heap.size) zy).trans hy
    have hx : ((w1.alloc (.cells #[.int .u8 (a.toNat : Int), .int .u8 (b.toNat : Int), .int .u8 (c.toNat : Int), .int .u8 (d.toNat : Int), .int .i64 ((m : Int) + 1)] 29)).alloc (.cells #[.int .u8 (a.toNat : Int), .int .u8 (b.toNat : Int), .int .u8 (c.toNat : Int), .int .u8 (d.toNat : Int), .int .i64 (m : Int)] 29)).heap[w1.heap.size + 1]? = some (.cells #[.int .u8 (a.toNat : Int), .int .u8 (b.toNat : Int), .int .u8 (c.toNat : Int), .int .u8 (d.toNat : Int), .int .i64 (m : Int)] 29 (0, 0)) := by have := heap_alloc_new (w1.alloc (.cells #[.int .u8 (a.toNat : Int), .int .u8 (b.toNat : Int), .int .u8 (c.toNat : Int), .int .u8 (d.toNat : Int), .int .i64 ((m : Int) + 1)] 29)) (.cells #[.int .u8 (a.toNat : Int), .int .u8 (b.toNat : Int), .int .u8 (c.toNat : Int), .int .u8 (d.toNat : Int), .int .i64 (m : Int)] 29); simpa using this
    replace za := Nat.lt_trans za (show (w1.alloc (.cells #[.int .u8 (a.toNat : Int), .int .u8 (b.toNat : Int), .int .u8 (c.toNat : Int), .int .u8 (d.toNat : Int), .int .i64 ((m : Int) + 1)] 29)).heap.size < ((w1.alloc (.cells #[.int .u8 (a.toNat : Int), .int .u8 (b.toNat : Int), .int .u8 (c.toNat : Int), .int .u8 (d.toNat : Int), .int .i64 ((m : Int) + 1)] 29)).alloc (.cells #[.int .u8 (a.toNat : Int), .int .u8 (b.toNat : Int), .int .u8 (c.toNat : Int), .int .u8 (d.toNat : Int), .int .i64 (m : Int)] 29)).heap.size by simp)
    replace zb := Nat.lt_trans zb (show (w1.alloc (.cells #[.int .u8 (a.toNat : Int), .int .u8 (b.toNat : Int), .int .u8 (c.toNat : Int), .int .u8 (d.toNat : Int), .int .i64 ((m : Int) + 1)] 29)).heap.size < ((w1.alloc (.cells #[.int .u8 (a.toNat : Int), .int .u8 (b.toNat : Int), .int .u8 (c.toNat : Int), .int .u8 (d.toNat : Int), .int .i64 ((m : Int) + 1)] 29)).alloc (.cells #[.int .u8 (a.toNat : Int), .int .u8 (b.toNat : Int), .int .u8 (c.toNat : Int), .int .u8 (d.toNat : Int), .int .i64 (m : Int)] 29)).heap.size by simp)
    replace zy := Nat.lt_trans zy (show (w1.alloc (.cells #[.int .u8 (a.toNat : Int), .int .u8 (b.toNat : Int), .int .u8 (c.toNat : Int), .int .u8 (d.toNat : Int), .int .i64 ((m : Int) + 1)] 29)).heap.size < ((w1.alloc (.cells #[.int .u8 (a.toNat : Int), .int .u8 (b.toNat : Int), .int .u8 (c.toNat : Int), .int .u8 (d.toNat : Int), .int .i64 ((m : Int) + 1)] 29)).alloc (.cells #[.int .u8 (a.toNat : Int), .int .u8 (b.toNat : Int), .int .u8 (c.toNat : Int), .int .u8 (d.toNat : Int), .int .i64 (m : Int)] 29)).heap.size by simp)
    have zx : w1.heap.size + 1 < ((w1.alloc (.cells #[.int .u8 (a.toNat : Int), .int .u8 (b.toNat : Int), .int .u8 (c.toNat : Int), .int .u8 (d.toNat : Int), .int .i64 ((m : Int) + 1)] 29)).alloc (.cells #[.int .u8 (a.toNat : Int), .int .u8 (b.toNat : Int), .int .u8 (c.toNat : Int), .int .u8 (d.toNat : Int), .int .i64 (m : Int)] 29)).heap.size := by simp
    replace bel := bel.alloc bel.size (.cells #[.int .u8 (a.toNat : Int), .int .u8 (b.toNat : Int), .int .u8 (c.toNat : Int), .int .u8 (d.toNat : Int), .int .i64 (m : Int)] 29)
    go_wp2_with fail
    have ya := za
    have yb := zb
    have yy := zy
    have yx := zx
    replace ha : ((w1.alloc (.cells #[.int .u8 (a.toNat : Int), .int .u8 (b.toNat : Int), .int .u8 (c.toNat : Int), .int .u8 (d.toNat : Int), .int .i64 ((m : Int) + 1)] 29)).alloc (.cells #[.int .u8 (a.toNat : Int), .int .u8 (b.toNat : Int), .int .u8 (c.toNat : Int), .int .u8 (d.toNat : Int), .int .i64 (m : Int)] 29)).drew.heap[w.heap.size]? = some (.cells #[.int .u8 (a.toNat : Int), .int .u8 (b.toNat : Int), .int .u8 (c.toNat : Int), .int .u8 (d.toNat : Int)] 24 (0, 0)) := ha
    replace za : w.heap.size < ((w1.alloc (.cells #[.int .u8 (a.toNat : Int), .int .u8 (b.toNat : Int), .int .u8 (c.toNat : Int), .int .u8 (d.toNat : Int), .int .i64 ((m : Int) + 1)] 29)).alloc (.cells #[.int .u8 (a.toNat : Int), .int .u8 (b.toNat : Int), .int .u8 (c.toNat : Int), .int .u8 (d.toNat : Int), .int .i64 (m : Int)] 29)).drew.heap.size := za
    replace hb : ((w1.alloc (.cells #[.int .u8 (a.toNat : Int), .int .u8 (b.toNat : Int), .int .u8 (c.toNat : Int), .int .u8 (d.toNat : Int), .int .i64 ((m : Int) + 1)] 29)).alloc (.cells #[.int .u8 (a.toNat : Int), .int .u8 (b.toNat : Int), .int .u8 (c.toNat : Int), .int .u8 (d.toNat : Int), .int .i64 (m : Int)] 29)).drew.heap[w.heap.size + 1]? = some (.cells #[.int .u8 (p1.toNat : Int), .int .u8 (p2.toNat : Int), .int .u8 (p3.toNat : Int), .int .u8 (p4.toNat : Int)] 24 (0, 0)) := hb
    replace zb : w.heap.size + 1 < ((w1.alloc (.cells #[.int .u8 (a.toNat : Int), .int .u8 (b.toNat : Int), .int .u8 (c.toNat : Int), .int .u8 (d.toNat : Int), .int .i64 ((m : Int) + 1)] 29)).alloc (.cells #[.int .u8 (a.toNat : Int), .int .u8 (b.toNat : Int), .int .u8 (c.toNat : Int), .int .u8 (d.toNat : Int), .int .i64 (m : Int)] 29)).drew.heap.size := zb
    replace hy : ((w1.alloc (.cells #[.int .u8 (a.toNat : Int), .int .u8 (b.toNat : Int), .int .u8 (c.toNat : Int), .int .u8 (d.toNat : Int), .int .i64 ((m : Int) + 1)] 29)).alloc (.cells #[.int .u8 (a.toNat : Int), .int .u8 (b.toNat : Int), .int .u8 (c.toNat : Int), .int .u8 (d.toNat : Int), .int .i64 (m : Int)] 29)).drew.heap[w1.heap.size]? = some (.cells #[.int .u8 (a.toNat : Int), .int .u8 (b.toNat : Int), .int .u8 (c.toNat : Int), .int .u8 (d.toNat : Int), .int .i64 ((m : Int) + 1)] 29 (0, 0)) := hy
    replace zy : w1.heap.size < ((w1.alloc (.cells #[.int .u8 (a.toNat : Int), .int .u8 (b.toNat : Int), .int .u8 (c.toNat : Int), .int .u8 (d.toNat : Int), .int .i64 ((m : Int) + 1)] 29)).alloc (.cells #[.int .u8 (a.toNat : Int), .int .u8 (b.toNat : Int), .int .u8 (c.toNat : Int), .int .u8 (d.toNat : Int), .int .i64 (m : Int)] 29)).drew.heap.size := zy
    replace hx : ((w1.alloc (.cells #[.int .u8 (a.toNat : Int), .int .u8 (b.toNat : Int), .int .u8 (c.toNat : Int), .int .u8 (d.toNat : Int), .int .i64 ((m : Int) + 1)] 29)).alloc (.cells #[.int .u8 (a.toNat : Int), .int .u8 (b.toNat : Int), .int .u8 (c.toNat : Int), .int .u8 (d.toNat : Int), .int .i64 (m : Int)] 29)).drew.heap[w1.heap.size + 1]? = some (.cells #[.int .u8 (a.toNat : Int), .int .u8 (b.toNat : Int), .int .u8 (c.toNat : Int), .int .u8 (d.toNat : Int), .int .i64 (m : Int)] 29 (0, 0)) := hx
    replace zx : w1.heap.size + 1 < ((w1.alloc (.cells #[.int .u8 (a.toNat : Int), .int .u8 (b.toNat : Int), .int .u8 (c.toNat : Int), .int .u8 (d.toNat : Int), .int .i64 ((m : Int) + 1)] 29)).alloc (.cells #[.int .u8 (a.toNat : Int), .int .u8 (b.toNat : Int), .int .u8 (c.toNat : Int), .int .u8 (d.toNat : Int), .int .i64 (m : Int)] 29)).drew.heap.size := zx
    replace bel := bel.drew
    clear ya yb yy yx
    generalize ((w1.alloc (.cells #[.int .u8 (a.toNat : Int), .int .u8 (b.toNat : Int), .int .u8 (c.toNat : Int), .int .u8 (d.toNat : Int), .int .i64 ((m : Int) + 1)] 29)).alloc (.cells #[.int .u8 (a.toNat : Int), .int .u8 (b.toNat : Int), .int .u8 (c.toNat : Int), .int .u8 (d.toNat : Int), .int .i64 (m : Int)] 29)).drew = v0 at ha za hb zb hy zy hx zx bel ⊢
    obtain ⟨⟨ca0, ca1, ca2, ca3⟩, _⟩ := cells4 ha
    obtain ⟨⟨cb0, cb1, cb2, cb3⟩, _⟩ := cells4 hb
    obtain ⟨⟨cx0, cx1, cx2, cx3, cx4⟩, _⟩ := cells5 hx
    obtain ⟨⟨cy0, cy1, cy2, cy3, cy4⟩, _⟩ := cells5 hy
    clear ha hb hx hy
    refine wp_region_held_drew (S := fun W => W.cell? ⟨w.heap.size, 0, none⟩ = some (.int .u8 (a.toNat : Int)) ∧ W.cell? ⟨w.heap.size, 1, none⟩ = some (.int .u8 (b.toNat : Int)) ∧ W.cell? ⟨w.heap.size, 2, none⟩ = some (.int .u8 (c.toNat : Int)) ∧ W.cell? ⟨w.heap.size, 3, none⟩ = some (.int .u8 (d.toNat : Int)) ∧ W.cell? ⟨w.heap.size + 1, 0, none⟩ = some (.int .u8 (p1.toNat : Int)) ∧ W.cell? ⟨w.heap.size + 1, 1, none⟩ = some (.int .u8 (p2.toNat : Int)) ∧ W.cell? ⟨w.heap.size + 1, 2, none⟩ = some (.int .u8 (p3.toNat : Int)) ∧ W.cell? ⟨w.heap.size + 1, 3, none⟩ = some (.int .u8 (p4.toNat : Int)) ∧ W.cell? ⟨w1.heap.size + 1, 0, none⟩ = some (.int .u8 (a.toNat : Int)) ∧ W.cell? ⟨w1.heap.size + 1, 1, none⟩ = some (.int .u8 (b.toNat : Int)) ∧ W.cell? ⟨w1.heap.size + 1, 2, none⟩ = some (.int .u8 (c.toNat : Int)) ∧ W.cell? ⟨w1.heap.size + 1, 3, none⟩ = some (.int .u8 (d.toNat : Int)) ∧ W.cell? ⟨w1.heap.size + 1, 4, none⟩ = some (.int .i64 (m : Int)) ∧ W.cell? ⟨w1.heap.size, 0, none⟩ = some (.int .u8 (a.toNat : Int)) ∧ W.cell? ⟨w1.heap.size, 1, none⟩ = some (.int .u8 (b.toNat : Int)) ∧ W.cell? ⟨w1.heap.size, 2, none⟩ = some (.int .u8 (c.toNat : Int)) ∧ W.cell? ⟨w1.heap.size, 3, none⟩ = some (.int .u8 (d.toNat : Int)) ∧ W.cell? ⟨w1.heap.size, 4, none⟩ = some (.int .i64 ((m : Int) + 1))) (by kernel_rfl) ⟨ca0, ca1, ca2, ca3, cb0, cb1, cb2, cb3, cx0, cx1, cx2, cx3, cx4, cy0, cy1, cy2, cy3, cy4⟩ (fun hH => ?_)
    refine wpAnyH_take (i := 0) (v := ?_) rfl (by kernel_rfl) (by kernel_rfl) (by kernel_rfl) (fun _ _ _ h => h) (Or.inl ⟨by rfl, ?_⟩) hH ?_
    rotate_left
    · ((intro W hW; obtain ⟨s0, s1, s2, s3, s4, s5, s6, s7, s8, s9, s10, s11, s12, s13, s14, s15, s16, s17⟩ := hW; go_simp) <;> with_reducible rfl)
    simp only [Act.put, List.getElem_toArray, List.getElem_cons_zero, List.setIfInBounds_toArray, List.set_cons_zero, List.set_cons_succ]
    refine wpAnyH_take (i := 3) (v := ?_) rfl (by kernel_rfl) (by kernel_rfl) (by kernel_rfl) (fun _ _ _ h => h) (Or.inl ⟨by rfl, ?_⟩) hH ?_
    rotate_left
    · ((intro W hW; obtain ⟨s0, s1, s2, s3, s4, s5, s6, s7, s8, s9, s10, s11, s12, s13, s14, s15, s16, s17⟩ := hW; go_simp) <;> with_reducible rfl)
    simp only [Act.put, List.getElem_toArray, List.getElem_cons_zero, List.getElem_cons_succ, List.setIfInBounds_toArray, List.set_cons_zero, List.set_cons_succ]
    refine wpAnyH_ready (rs := [1]) (by kernel_rfl) (by simp) ?_
    refine AllReadyH.cons (o := _) rfl (fun K hK => ?_) AllReadyH.nil
    simp only [List.getElem_toArray, List.getElem_cons_zero, List.getElem_cons_succ]
    go_simp
    with_reducible refine (K4.out _).mono ?_
    rintro e v11 ⟨rfl, b11⟩
    dsimp only
    have bel11 := bel.drew.trans (b11.mono bel.size)
    refine hK.out _ _ ⟨(b11.cell (p := ⟨_, 0, none⟩) za).trans hH.1, (b11.cell (p := ⟨_, 1, none⟩) za).trans hH.2.1, (b11.cell (p := ⟨_, 2, none⟩) za).trans hH.2.2.1, (b11.cell (p := ⟨_, 3, none⟩) za).trans hH.2.2.2.1, (b11.cell (p := ⟨_, 0, none⟩) zb).trans hH.2.2.2.2.1, (b11.cell (p := ⟨_, 1, none⟩) zb).trans hH.2.2.2.2.2.1, (b11.cell (p := ⟨_, 2, none⟩) zb).trans hH.2.2.2.2.2.2.1, (b11.cell (p := ⟨_, 3, none⟩) zb).trans hH.2.2.2.2.2.2.2.1, (b11.cell (p := ⟨_, 0, none⟩) zx).trans hH.2.2.2.2.2.2.2.2.1, (b11.cell (p := ⟨_, 1, none⟩) zx).trans hH.2.2.2.2.2.2.2.2.2.1, (b11.cell (p := ⟨_, 2, none⟩) zx).trans hH.2.2.2.2.2.2.2.2.2.2.1, (b11.cell (p := ⟨_, 3, none⟩) zx).trans hH.2.2.2.2.2.2.2.2.2.2.2.1, (b11.cell (p := ⟨_, 4, none⟩) zx).trans hH.2.2.2.2.2.2.2.2.2.2.2.2.1, (b11.cell (p := ⟨_, 0, none⟩) zy).trans hH.2.2.2.2.2.2.2.2.2.2.2.2.2.1, (b11.cell (p := ⟨_, 1, none⟩) zy).trans hH.2.2.2.2.2.2.2.2.2.2.2.2.2.2.1, (b11.cell (p := ⟨_, 2, none⟩) zy).trans hH.2.2.2.2.2.2.2.2.2.2.2.2.2.2.2.1, (b11.cell (p := ⟨_, 3, none⟩) zy).trans hH.2.2.2.2.2.2.2.2.2.2.2.2.2.2.2.2.1, (b11.cell (p := ⟨_, 4, none⟩) zy).trans hH.2.2.2.2.2.2.2.2.2.2.2.2.2.2.2.2.2⟩ (fun hH11 => ?_)
    clear hK K
    replace za := Nat.lt_of_lt_of_le za b11.size
    replace zb := Nat.lt_of_lt_of_le zb b11.size
    replace zx := Nat.lt_of_lt_of_le zx b11.size
    replace zy := Nat.lt_of_lt_of_le zy b11.size
    refine wpAnyH_ready (rs := [2]) (by kernel_rfl) (by simp) ?_
    refine AllReadyH.cons (o := _) rfl (fun K hK => ?_) AllReadyH.nil
    simp only [List.getElem_toArray, List.getElem_cons_zero, List.getElem_cons_succ]
    go_simp
    with_reducible refine (J4.out _).mono ?_
    rintro e v12 ⟨rfl, b12⟩
    dsimp only
    have bel12 := bel11.trans (b12.mono bel11.size)
    refine hK.out _ _ ⟨(b12.cell (p := ⟨_, 0, none⟩) za).trans hH11.1, (b12.cell (p := ⟨_, 1, none⟩) za).trans hH11.2.1, (b12.cell (p := ⟨_, 2, none⟩) za).trans hH11.2.2.1, (b12.cell (p := ⟨_, 3, none⟩) za).trans hH11.2.2.2.1, (b12.cell (p := ⟨_, 0, none⟩) zb).trans hH11.2.2.2.2.1, (b12.cell (p := ⟨_, 1, none⟩) zb).trans hH11.2.2.2.2.2.1, (b12.cell (p := ⟨_, 2, none⟩) zb).trans hH11.2.2.2.2.2.2.1, (b12.cell (p := ⟨_, 3, none⟩) zb).trans hH11.2.2.2.2.2.2.2.1, (b12.cell (p := ⟨_, 0, none⟩) zx).trans hH11.2.2.2.2.2.2.2.2.1, (b12.cell (p := ⟨_, 1, none⟩) zx).trans hH11.2.2.2.2.2.2.2.2.2.1, (b12.cell (p := ⟨_, 2, none⟩) zx).trans hH11.2.2.2.2.2.2.2.2.2.2.1, (b12.cell (p := ⟨_, 3, none⟩) zx).trans hH11.2.2.2.2.2.2.2.2.2.2.2.1, (b12.cell (p := ⟨_, 4, none⟩) zx).trans hH11.2.2.2.2.2.2.2.2.2.2.2.2.1, (b12.cell (p := ⟨_, 0, none⟩) zy).trans hH11.2.2.2.2.2.2.2.2.2.2.2.2.2.1, (b12.cell (p := ⟨_, 1, none⟩) zy).trans hH11.2.2.2.2.2.2.2.2.2.2.2.2.2.2.1, (b12.cell (p := ⟨_, 2, none⟩) zy).trans hH11.2.2.2.2.2.2.2.2.2.2.2.2.2.2.2.1, (b12.cell (p := ⟨_, 3, none⟩) zy).trans hH11.2.2.2.2.2.2.2.2.2.2.2.2.2.2.2.2.1, (b12.cell (p := ⟨_, 4, none⟩) zy).trans hH11.2.2.2.2.2.2.2.2.2.2.2.2.2.2.2.2.2⟩ (fun hH12 => ?_)
    clear hK K
    replace za := Nat.lt_of_lt_of_le za b12.size
    replace zb := Nat.lt_of_lt_of_le zb b12.size
    replace zx := Nat.lt_of_lt_of_le zx b12.size
    replace zy := Nat.lt_of_lt_of_le zy b12.size
    refine wpAnyH_ready (rs := [4]) (by kernel_rfl) (by simp) ?_
    refine AllReadyH.cons (o := _) rfl (fun K hK => ?_) AllReadyH.nil
    simp only [List.getElem_toArray, List.getElem_cons_zero, List.getElem_cons_succ]
    go_simp
    with_reducible refine (K5.out _).mono ?_
    rintro e v13 ⟨rfl, b13⟩
    dsimp only
    have bel13 := bel12.trans (b13.mono bel12.size)
    refine hK.out _ _ ⟨(b13.cell (p := ⟨_, 0, none⟩) za).trans hH12.1, (b13.cell (p := ⟨_, 1, none⟩) za).trans hH12.2.1, (b13.cell (p := ⟨_, 2, none⟩) za).trans hH12.2.2.1, (b13.cell (p := ⟨_, 3, none⟩) za).trans hH12.2.2.2.1, (b13.cell (p := ⟨_, 0, none⟩) zb).trans hH12.2.2.2.2.1, (b13.cell (p := ⟨_, 1, none⟩) zb).trans hH12.2.2.2.2.2.1, (b13.cell (p := ⟨_, 2, none⟩) zb).trans hH12.2.2.2.2.2.2.1, (b13.cell (p := ⟨_, 3, none⟩) zb).trans hH12.2.2.2.2.2.2.2.1, (b13.cell (p := ⟨_, 0, none⟩) zx).trans hH12.2.2.2.2.2.2.2.2.1, (b13.cell (p := ⟨_, 1, none⟩) zx).trans hH12.2.2.2.2.2.2.2.2.2.1, (b13.cell (p := ⟨_, 2, none⟩) zx).trans hH12.2.2.2.2.2.2.2.2.2.2.1, (b13.cell (p := ⟨_, 3, none⟩) zx).trans hH12.2.2.2.2.2.2.2.2.2.2.2.1, (b13.cell (p := ⟨_, 4, none⟩) zx).trans hH12.2.2.2.2.2.2.2.2.2.2.2.2.1, (b13.cell (p := ⟨_, 0, none⟩) zy).trans hH12.2.2.2.2.2.2.2.2.2.2.2.2.2.1, (b13.cell (p := ⟨_, 1, none⟩) zy).trans hH12.2.2.2.2.2.2.2.2.2.2.2.2.2.2.1, (b13.cell (p := ⟨_, 2, none⟩) zy).trans hH12.2.2.2.2.2.2.2.2.2.2.2.2.2.2.2.1, (b13.cell (p := ⟨_, 3, none⟩) zy).trans hH12.2.2.2.2.2.2.2.2.2.2.2.2.2.2.2.2.1, (b13.cell (p := ⟨_, 4, none⟩) zy).trans hH12.2.2.2.2.2.2.2.2.2.2.2.2.2.2.2.2.2⟩ (fun hH13 => ?_)
    clear hK K
    replace za := Nat.lt_of_lt_of_le za b13.size
    replace zb := Nat.lt_of_lt_of_le zb b13.size
    replace zx := Nat.lt_of_lt_of_le zx b13.size
    replace zy := Nat.lt_of_lt_of_le zy b13.size
    refine wpAnyH_ready (rs := [5]) (by kernel_rfl) (by simp) ?_
    refine AllReadyH.cons (o := _) rfl (fun K hK => ?_) AllReadyH.nil
    simp only [List.getElem_toArray, List.getElem_cons_zero, List.getElem_cons_succ]
    go_simp
    with_reducible refine (J5.out _).mono ?_
    rintro e v14 ⟨rfl, b14⟩
    dsimp only
    have bel14 := bel13.trans (b14.mono bel13.size)
    refine hK.out _ _ ⟨(b14.cell (p := ⟨_, 0, none⟩) za).trans hH13.1, (b14.cell (p := ⟨_, 1, none⟩) za).trans hH13.2.1, (b14.cell (p := ⟨_, 2, none⟩) za).trans hH13.2.2.1, (b14.cell (p := ⟨_, 3, none⟩) za).trans hH13.2.2.2.1, (b14.cell (p := ⟨_, 0, none⟩) zb).trans hH13.2.2.2.2.1, (b14.cell (p := ⟨_, 1, none⟩) zb).trans hH13.2.2.2.2.2.1, (b14.cell (p := ⟨_, 2, none⟩) zb).trans hH13.2.2.2.2.2.2.1, (b14.cell (p := ⟨_, 3, none⟩) zb).trans hH13.2.2.2.2.2.2.2.1, (b14.cell (p := ⟨_, 0, none⟩) zx).trans hH13.2.2.2.2.2.2.2.2.1, (b14.cell (p := ⟨_, 1, none⟩) zx).trans hH13.2.2.2.2.2.2.2.2.2.1, (b14.cell (p := ⟨_, 2, none⟩) zx).trans hH13.2.2.2.2.2.2.2.2.2.2.1, (b14.cell (p := ⟨_, 3, none⟩) zx).trans hH13.2.2.2.2.2.2.2.2.2.2.2.1, (b14.cell (p := ⟨_, 4, none⟩) zx).trans hH13.2.2.2.2.2.2.2.2.2.2.2.2.1, (b14.cell (p := ⟨_, 0, none⟩) zy).trans hH13.2.2.2.2.2.2.2.2.2.2.2.2.2.1, (b14.cell (p := ⟨_, 1, none⟩) zy).trans hH13.2.2.2.2.2.2.2.2.2.2.2.2.2.2.1, (b14.cell (p := ⟨_, 2, none⟩) zy).trans hH13.2.2.2.2.2.2.2.2.2.2.2.2.2.2.2.1, (b14.cell (p := ⟨_, 3, none⟩) zy).trans hH13.2.2.2.2.2.2.2.2.2.2.2.2.2.2.2.2.1, (b14.cell (p := ⟨_, 4, none⟩) zy).trans hH13.2.2.2.2.2.2.2.2.2.2.2.2.2.2.2.2.2⟩ (fun hH14 => ?_)
    clear hK K
    replace za := Nat.lt_of_lt_of_le za b14.size
    replace zb := Nat.lt_of_lt_of_le zb b14.size
    replace zx := Nat.lt_of_lt_of_le zx b14.size
    replace zy := Nat.lt_of_lt_of_le zy b14.size
    refine wpAnyH_take (i := 6) (v := ?_) rfl (by kernel_rfl) (by kernel_rfl) (by kernel_rfl) (fun _ _ _ h => h) (Or.inl ⟨by rfl, ?_⟩) hH14 ?_
    rotate_left
    · ((intro W hW; obtain ⟨s0, s1, s2, s3, s4, s5, s6, s7, s8, s9, s10, s11, s12, s13, s14, s15, s16, s17⟩ := hW; go_simp) <;> with_reducible rfl)
    simp only [Act.put, List.getElem_toArray, List.getElem_cons_zero, List.getElem_cons_succ, List.setIfInBounds_toArray, List.set_cons_zero, List.set_cons_succ]
    refine wpAnyH_take (i := 7) (v := ?_) rfl (by kernel_rfl) (by kernel_rfl) (by kernel_rfl) (fun _ _ _ h => h) (Or.inl ⟨by rfl, ?_⟩) hH14 ?_
    rotate_left
    · ((intro W hW; obtain ⟨s0, s1, s2, s3, s4, s5, s6, s7, s8, s9, s10, s11, s12, s13, s14, s15, s16, s17⟩ := hW; go_simp) <;> with_reducible rfl)
    simp only [Act.put, List.getElem_toArray, List.getElem_cons_zero, List.getElem_cons_succ, List.setIfInBounds_toArray, List.set_cons_zero, List.set_cons_succ]
    refine wpAnyH_done (by kernel_rfl) ?_ _
    go_wp2_with fail
    refine wp_region_held_drew (S := fun W => W.cell? ⟨w.heap.size, 0, none⟩ = some (.int .u8 (a.toNat : Int)) ∧ W.cell? ⟨w.heap.size, 1, none⟩ = some (.int .u8 (b.toNat : Int)) ∧ W.cell? ⟨w.heap.size, 2, none⟩ = some (.int .u8 (c.toNat : Int)) ∧ W.cell? ⟨w.heap.size, 3, none⟩ = some (.int .u8 (d.toNat : Int)) ∧ W.cell? ⟨w.heap.size + 1, 0, none⟩ = some (.int .u8 (p1.toNat : Int)) ∧ W.cell? ⟨w.heap.size + 1, 1, none⟩ = some (.int .u8 (p2.toNat : Int)) ∧ W.cell? ⟨w.heap.size + 1, 2, none⟩ = some (.int .u8 (p3.toNat : Int)) ∧ W.cell? ⟨w.heap.size + 1, 3, none⟩ = some (.int .u8 (p4.toNat : Int)) ∧ W.cell? ⟨w1.heap.size + 1, 0, none⟩ = some (.int .u8 (a.toNat : Int)) ∧ W.cell? ⟨w1.heap.size + 1, 1, none⟩ = some (.int .u8 (b.toNat : Int)) ∧ W.cell? ⟨w1.heap.size + 1, 2, none⟩ = some (.int .u8 (c.toNat : Int)) ∧ W.cell? ⟨w1.heap.size + 1, 3, none⟩ = some (.int .u8 (d.toNat : Int)) ∧ W.cell? ⟨w1.heap.size + 1, 4, none⟩ = some (.int .i64 (m : Int)) ∧ W.cell? ⟨w1.heap.size, 0, none⟩ = some (.int .u8 (a.toNat : Int)) ∧ W.cell? ⟨w1.heap.size, 1, none⟩ = some (.int .u8 (b.toNat : Int)) ∧ W.cell? ⟨w1.heap.size, 2, none⟩ = some (.int .u8 (c.toNat : Int)) ∧ W.cell? ⟨w1.heap.size, 3, none⟩ = some (.int .u8 (d.toNat : Int)) ∧ W.cell? ⟨w1.heap.size, 4, none⟩ = some (.int .i64 ((m : Int) + 1))) (by kernel_rfl) hH14 (fun hH => ?_)
    refine wpAnyH_take (i := 0) (v := ?_) rfl (by kernel_rfl) (by kernel_rfl) (by kernel_rfl) (fun _ _ _ h => h) (Or.inl ⟨by rfl, ?_⟩) hH ?_
    rotate_left
    · ((intro W hW; obtain ⟨s0, s1, s2, s3, s4, s5, s6, s7, s8, s9, s10, s11, s12, s13, s14, s15, s16, s17⟩ := hW; go_simp) <;> with_reducible rfl)
    simp only [Act.put, List.getElem_toArray, List.getElem_cons_zero, List.setIfInBounds_toArray, List.set_cons_zero, List.set_cons_succ]
    refine wpAnyH_take (i := 1) (v := ?_) rfl (by kernel_rfl) (by kernel_rfl) (by kernel_rfl) (fun _ _ _ h => h) (Or.inl ⟨by rfl, ?_⟩) hH ?_
    rotate_left
    · ((intro W hW; obtain ⟨s0, s1, s2, s3, s4, s5, s6, s7, s8, s9, s10, s11, s12, s13, s14, s15, s16, s17⟩ := hW; go_simp) <;> with_reducible rfl)
    simp only [Act.put, List.getElem_toArray, List.getElem_cons_zero, List.getElem_cons_succ, List.setIfInBounds_toArray, List.set_cons_zero, List.set_cons_succ]
    refine wpAnyH_ready (rs := [2]) (by kernel_rfl) (by simp) ?_
    refine AllReadyH.cons (o := _) rfl (fun K hK => ?_) AllReadyH.nil
    simp only [List.getElem_toArray, List.getElem_cons_zero, List.getElem_cons_succ]
    go_simp
    with_reducible refine (K1.out _).mono ?_
    rintro e v15 ⟨rfl, b15⟩
    dsimp only
    have bel15 := bel14.drew.trans (b15.mono bel14.size)
    refine hK.out _ _ ⟨(b15.cell (p := ⟨_, 0, none⟩) za).trans hH.1, (b15.cell (p := ⟨_, 1, none⟩) za).trans hH.2.1, (b15.cell (p := ⟨_, 2, none⟩) za).trans hH.2.2.1, (b15.cell (p := ⟨_, 3, none⟩) za).trans hH.2.2.2.1, (b15.cell (p := ⟨_, 0, none⟩) zb).trans hH.2.2.2.2.1, (b15.cell (p := ⟨_, 1, none⟩) zb).trans hH.2.2.2.2.2.1, (b15.cell (p := ⟨_, 2, none⟩) zb).trans hH.2.2.2.2.2.2.1, (b15.cell (p := ⟨_, 3, none⟩) zb).trans hH.2.2.2.2.2.2.2.1, (b15.cell (p := ⟨_, 0, none⟩) zx).trans hH.2.2.2.2.2.2.2.2.1, (b15.cell (p := ⟨_, 1, none⟩) zx).trans hH.2.2.2.2.2.2.2.2.2.1, (b15.cell (p := ⟨_, 2, none⟩) zx).trans hH.2.2.2.2.2.2.2.2.2.2.1, (b15.cell (p := ⟨_, 3, none⟩) zx).trans hH.2.2.2.2.2.2.2.2.2.2.2.1, (b15.cell (p := ⟨_, 4, none⟩) zx).trans hH.2.2.2.2.2.2.2.2.2.2.2.2.1, (b15.cell (p := ⟨_, 0, none⟩) zy).trans hH.2.2.2.2.2.2.2.2.2.2.2.2.2.1, (b15.cell (p := ⟨_, 1, none⟩) zy).trans hH.2.2.2.2.2.2.2.2.2.2.2.2.2.2.1, (b15.cell (p := ⟨_, 2, none⟩) zy).trans hH.2.2.2.2.2.2.2.2.2.2.2.2.2.2.2.1, (b15.cell (p := ⟨_, 3, none⟩) zy).trans hH.2.2.2.2.2.2.2.2.2.2.2.2.2.2.2.2.1, (b15.cell (p := ⟨_, 4, none⟩) zy).trans hH.2.2.2.2.2.2.2.2.2.2.2.2.2.2.2.2.2⟩ (fun hH15 => ?_)
    clear hK K
    replace za := Nat.lt_of_lt_of_le za b15.size
    replace zb := Nat.lt_of_lt_of_le zb b15.size
    replace zx := Nat.lt_of_lt_of_le zx b15.size
    replace zy := Nat.lt_of_lt_of_le zy b15.size
    refine wpAnyH_take (i := 3) (v := ?_) rfl (by kernel_rfl) (by kernel_rfl) (by kernel_rfl) (fun _ _ _ h => h) (Or.inl ⟨by rfl, ?_⟩) hH15 ?_
    rotate_left
    · ((intro W hW; obtain ⟨s0, s1, s2, s3, s4, s5, s6, s7, s8, s9, s10, s11, s12, s13, s14, s15, s16, s17⟩ := hW; go_simp) <;> with_reducible rfl)
    simp only [Act.put, List.getElem_toArray, List.getElem_cons_zero, List.getElem_cons_succ, List.setIfInBounds_toArray, List.set_cons_zero, List.set_cons_succ]
    refine wpAnyH_take (i := 4) (v := ?_) rfl (by kernel_rfl) (by kernel_rfl) (by kernel_rfl) (fun _ _ _ h => h) (Or.inl ⟨by rfl, ?_⟩) hH15 ?_
    rotate_left
    · ((intro W hW; obtain ⟨s0, s1, s2, s3, s4, s5, s6, s7, s8, s9, s10, s11, s12, s13, s14, s15, s16, s17⟩ := hW; go_simp) <;> with_reducible rfl)
    simp only [Act.put, List.getElem_toArray, List.getElem_cons_zero, List.getElem_cons_succ, List.setIfInBounds_toArray, List.set_cons_zero, List.set_cons_succ]
    refine wpAnyH_take (i := 5) (v := undef) rfl (by kernel_rfl) (by kernel_rfl) (by kernel_rfl) (fun _ _ _ h => h) (Or.inr ⟨by rfl, rfl⟩) hH15 ?_
    simp only [Act.put, List.getElem_toArray, List.getElem_cons_zero, List.getElem_cons_succ, List.setIfInBounds_toArray, List.set_cons_zero, List.set_cons_succ]
    refine wpAnyH_take (i := 6) (v := undef) rfl (by kernel_rfl) (by kernel_rfl) (by kernel_rfl) (fun _ _ _ h => h) (Or.inr ⟨by rfl, rfl⟩) hH15 ?_
    simp only [Act.put, List.getElem_toArray, List.getElem_cons_zero, List.getElem_cons_succ, List.setIfInBounds_toArray, List.set_cons_zero, List.set_cons_succ]
    refine wpAnyH_take (i := 7) (v := undef) rfl (by kernel_rfl) (by kernel_rfl) (by kernel_rfl) (fun _ _ _ h => h) (Or.inr ⟨by rfl, rfl⟩) hH15 ?_
    simp only [Act.put, List.getElem_toArray, List.getElem_cons_zero, List.getElem_cons_succ, List.setIfInBounds_toArray, List.set_cons_zero, List.set_cons_succ]
    refine wpAnyH_take (i := 8) (v := ?_) rfl (by kernel_rfl) (by kernel_rfl) (by kernel_rfl) (fun _ _ _ h => h) (Or.inl ⟨by rfl, ?_⟩) hH15 ?_
    rotate_left
    · ((intro W hW; obtain ⟨s0, s1, s2, s3, s4, s5, s6, s7, s8, s9, s10, s11, s12, s13, s14, s15, s16, s17⟩ := hW; go_simp) <;> with_reducible rfl)
    simp only [Act.put, List.getElem_toArray, List.getElem_cons_zero, List.getElem_cons_succ, List.setIfInBounds_toArray, List.set_cons_zero, List.set_cons_succ]
    refine wpAnyH_take (i := 9) (v := ?_) rfl (by kernel_rfl) (by kernel_rfl) (by kernel_rfl) (fun _ _ _ h => h) (Or.inl ⟨by rfl, ?_⟩) hH15 ?_
    rotate_left
    · ((intro W hW; obtain ⟨s0, s1, s2, s3, s4, s5, s6, s7, s8, s9, s10, s11, s12, s13, s14, s15, s16, s17⟩ := hW; go_simp) <;> with_reducible rfl)
    simp only [Act.put, List.getElem_toArray, List.getElem_cons_zero, List.getElem_cons_succ, List.setIfInBounds_toArray, List.set_cons_zero, List.set_cons_succ]
    refine wpAnyH_take (i := 10) (v := ?_) rfl (by kernel_rfl) (by kernel_rfl) (by kernel_rfl) (fun _ _ _ h => h) (Or.inl ⟨by rfl, ?_⟩) hH15 ?_
    rotate_left
    · ((intro W hW; obtain ⟨s0, s1, s2, s3, s4, s5, s6, s7, s8, s9, s10, s11, s12, s13, s14, s15, s16, s17⟩ := hW; go_simp) <;> with_reducible rfl)
    simp only [Act.put, List.getElem_toArray, List.getElem_cons_zero, List.getElem_cons_succ, List.setIfInBounds_toArray, List.set_cons_zero, List.set_cons_succ]
    refine wpAnyH_take (i := 13) (v := ?_) rfl (by kernel_rfl) (by kernel_rfl) (by kernel_rfl) (fun _ _ _ h => h) (Or.inl ⟨by rfl, ?_⟩) hH15 ?_
    rotate_left
    · ((intro W hW; obtain ⟨s0, s1, s2, s3, s4, s5, s6, s7, s8, s9, s10, s11, s12, s13, s14, s15, s16, s17⟩ := hW; go_simp) <;> with_reducible rfl)
    simp only [Act.put, List.getElem_toArray, List.getElem_cons_zero, List.getElem_cons_succ, List.setIfInBounds_toArray, List.set_cons_zero, List.set_cons_succ]
    refine wpAnyH_take (i := 17) (v := ?_) rfl (by kernel_rfl) (by kernel_rfl) (by kernel_rfl) (fun _ _ _ h => h) (Or.inl ⟨by rfl, ?_⟩) hH15 ?_
    rotate_left
    · ((intro W hW; obtain ⟨s0, s1, s2, s3, s4, s5, s6, s7, s8, s9, s10, s11, s12, s13, s14, s15, s16, s17⟩ := hW; go_simp) <;> with_reducible rfl)
    simp only [Act.put, List.getElem_toArray, List.getElem_cons_zero, List.getElem_cons_succ, List.setIfInBounds_toArray, List.set_cons_zero, List.set_cons_succ]
    refine wpAnyH_take (i := 18) (v := ?_) rfl (by kernel_rfl) (by kernel_rfl) (by kernel_rfl) (fun _ _ _ h => h) (Or.inl ⟨by rfl, ?_⟩) hH15 ?_
    rotate_left
    · ((intro W hW; obtain ⟨s0, s1, s2, s3, s4, s5, s6, s7, s8, s9, s10, s11, s12, s13, s14, s15, s16, s17⟩ := hW; go_simp) <;> with_reducible rfl)
    simp only [Act.put, List.getElem_toArray, List.getElem_cons_zero, List.getElem_cons_succ, List.setIfInBounds_toArray, List.set_cons_zero, List.set_cons_succ]
    refine wpAnyH_take (i := 19) (v := ?_) rfl (by kernel_rfl) (by kernel_rfl) (by kernel_rfl) (fun _ _ _ h => h) (Or.inl ⟨by rfl, ?_⟩) hH15 ?_
    rotate_left
    · ((intro W hW; obtain ⟨s0, s1, s2, s3, s4, s5, s6, s7, s8, s9, s10, s11, s12, s13, s14, s15, s16, s17⟩ := hW; go_simp) <;> with_reducible rfl)
    simp only [Act.put, List.getElem_toArray, List.getElem_cons_zero, List.getElem_cons_succ, List.setIfInBounds_toArray, List.set_cons_zero, List.set_cons_succ]
    refine wpAnyH_ready (rs := [11]) (by kernel_rfl) (by simp) ?_
    refine AllReadyH.cons (o := _) rfl (fun K hK => ?_) AllReadyH.nil
    simp only [List.getElem_toArray, List.getElem_cons_zero, List.getElem_cons_succ]
    go_simp
    with_reducible refine (K6.out _).mono ?_
    rintro e v16 ⟨rfl, b16⟩
    dsimp only
    have bel16 := bel15.trans (b16.mono bel15.size)
    refine hK.out _ _ ⟨(b16.cell (p := ⟨_, 0, none⟩) za).trans hH15.1, (b16.cell (p := ⟨_, 1, none⟩) za).trans hH15.2.1, (b16.cell (p := ⟨_, 2, none⟩) za).trans hH15.2.2.1, (b16.cell (p := ⟨_, 3, none⟩) za).trans hH15.2.2.2.1, (b16.cell (p := ⟨_, 0, none⟩) zb).trans hH15.2.2.2.2.1, (b16.cell (p := ⟨_, 1, none⟩) zb).trans hH15.2.2.2.2.2.1, (b16.cell (p := ⟨_, 2, none⟩) zb).trans hH15.2.2.2.2.2.2.1, (b16.cell (p := ⟨_, 3, none⟩) zb).trans hH15.2.2.2.2.2.2.2.1, (b16.cell (p := ⟨_, 0, none⟩) zx).trans hH15.2.2.2.2.2.2.2.2.1, (b16.cell (p := ⟨_, 1, none⟩) zx).trans hH15.2.2.2.2.2.2.2.2.2.1, (b16.cell (p := ⟨_, 2, none⟩) zx).trans hH15.2.2.2.2.2.2.2.2.2.2.1, (b16.cell (p := ⟨_, 3, none⟩) zx).trans hH15.2.2.2.2.2.2.2.2.2.2.2.1, (b16.cell (p := ⟨_, 4, none⟩) zx).trans hH15.2.2.2.2.2.2.2.2.2.2.2.2.1, (b16.cell (p := ⟨_, 0, none⟩) zy).trans hH15.2.2.2.2.2.2.2.2.2.2.2.2.2.1, (b16.cell (p := ⟨_, 1, none⟩) zy).trans hH15.2.2.2.2.2.2.2.2.2.2.2.2.2.2.1, (b16.cell (p := ⟨_, 2, none⟩) zy).trans hH15.2.2.2.2.2.2.2.2.2.2.2.2.2.2.2.1, (b16.cell (p := ⟨_, 3, none⟩) zy).trans hH15.2.2.2.2.2.2.2.2.2.2.2.2.2.2.2.2.1, (b16.cell (p := ⟨_, 4, none⟩) zy).trans hH15.2.2.2.2.2.2.2.2.2.2.2.2.2.2.2.2.2⟩ (fun hH16 => ?_)
    clear hK K
    replace za := Nat.lt_of_lt_of_le za b16.size
    replace zb := Nat.lt_of_lt_of_le zb b16.size
    replace zx := Nat.lt_of_lt_of_le zx b16.size
    replace zy := Nat.lt_of_lt_of_le zy b16.size
    refine wpAnyH_ready (rs := [12]) (by kernel_rfl) (by simp) ?_
    refine AllReadyH.cons (o := _) rfl (fun K hK => ?_) AllReadyH.nil
    simp only [List.getElem_toArray, List.getElem_cons_zero, List.getElem_cons_succ]
    go_simp
    with_reducible refine (J6.out _).mono ?_
    rintro e v17 ⟨rfl, b17⟩
    dsimp only
    have bel17 := bel16.trans (b17.mono bel16.size)
    refine hK.out _ _ ⟨(b17.cell (p := ⟨_, 0, none⟩) za).trans hH16.1, (b17.cell (p := ⟨_, 1, none⟩) za).trans hH16.2.1, (b17.cell (p := ⟨_, 2, none⟩) za).trans hH16.2.2.1, (b17.cell (p := ⟨_, 3, none⟩) za).trans hH16.2.2.2.1, (b17.cell (p := ⟨_, 0, none⟩) zb).trans hH16.2.2.2.2.1, (b17.cell (p := ⟨_, 1, none⟩) zb).trans hH16.2.2.2.2.2.1, (b17.cell (p := ⟨_, 2, none⟩) zb).trans hH16.2.2.2.2.2.2.1, (b17.cell (p := ⟨_, 3, none⟩) zb).trans hH16.2.2.2.2.2.2.2.1, (b17.cell (p := ⟨_, 0, none⟩) zx).trans hH16.2.2.2.2.2.2.2.2.1, (b17.cell (p := ⟨_, 1, none⟩) zx).trans hH16.2.2.2.2.2.2.2.2.2.1, (b17.cell (p := ⟨_, 2, none⟩) zx).trans hH16.2.2.2.2.2.2.2.2.2.2.1, (b17.cell (p := ⟨_, 3, none⟩) zx).trans hH16.2.2.2.2.2.2.2.2.2.2.2.1, (b17.cell (p := ⟨_, 4, none⟩) zx).trans hH16.2.2.2.2.2.2.2.2.2.2.2.2.1, (b17.cell (p := ⟨_, 0, none⟩) zy).trans hH16.2.2.2.2.2.2.2.2.2.2.2.2.2.1, (b17.cell (p := ⟨_, 1, none⟩) zy).trans hH16.2.2.2.2.2.2.2.2.2.2.2.2.2.2.1, (b17.cell (p := ⟨_, 2, none⟩) zy).trans hH16.2.2.2.2.2.2.2.2.2.2.2.2.2.2.2.1, (b17.cell (p := ⟨_, 3, none⟩) zy).trans hH16.2.2.2.2.2.2.2.2.2.2.2.2.2.2.2.2.1, (b17.cell (p := ⟨_, 4, none⟩) zy).trans hH16.2.2.2.2.2.2.2.2.2.2.2.2.2.2.2.2.2⟩ (fun hH17 => ?_)
    clear hK K
    replace za := Nat.lt_of_lt_of_le za b17.size
    replace zb := Nat.lt_of_lt_of_le zb b17.size
    replace zx := Nat.lt_of_lt_of_le zx b17.size
    replace zy := Nat.lt_of_lt_of_le zy b17.size
    refine wpAnyH_ready (rs := [14]) (by kernel_rfl) (by simp) ?_
    refine AllReadyH.cons (o := _) rfl (fun K hK => ?_) AllReadyH.nil
    simp only [List.getElem_toArray, List.getElem_cons_zero, List.getElem_cons_succ]
    go_simp
    with_reducible refine (K7.out _).mono ?_
    rintro e v18 ⟨rfl, b18⟩
    dsimp only
    have bel18 := bel17.trans (b18.mono bel17.size)
    refine hK.out _ _ ⟨(b18.cell (p := ⟨_, 0, none⟩) za).trans hH17.1, (b18.cell (p := ⟨_, 1, none⟩) za).trans hH17.2.1, (b18.cell (p := ⟨_, 2, none⟩) za).trans hH17.2.2.1, (b18.cell (p := ⟨_, 3, none⟩) za).trans hH17.2.2.2.1, (b18.cell (p := ⟨_, 0, none⟩) zb).trans hH17.2.2.2.2.1, (b18.cell (p := ⟨_, 1, none⟩) zb).trans hH17.2.2.2.2.2.1, (b18.cell (p := ⟨_, 2, none⟩) zb).trans hH17.2.2.2.2.2.2.1, (b18.cell (p := ⟨_, 3, none⟩) zb).trans hH17.2.2.2.2.2.2.2.1, (b18.cell (p := ⟨_, 0, none⟩) zx).trans hH17.2.2.2.2.2.2.2.2.1, (b18.cell (p := ⟨_, 1, none⟩) zx).trans hH17.2.2.2.2.2.2.2.2.2.1, (b18.cell (p := ⟨_, 2, none⟩) zx).trans hH17.2.2.2.2.2.2.2.2.2.2.1, (b18.cell (p := ⟨_, 3, none⟩) zx).trans hH17.2.2.2.2.2.2.2.2.2.2.2.1, (b18.cell (p := ⟨_, 4, none⟩) zx).trans hH17.2.2.2.2.2.2.2.2.2.2.2.2.1, (b18.cell (p := ⟨_, 0, none⟩) zy).trans hH17.2.2.2.2.2.2.2.2.2.2.2.2.2.1, (b18.cell (p := ⟨_, 1, none⟩) zy).trans hH17.2.2.2.2.2.2.2.2.2.2.2.2.2.2.1, (b18.cell (p := ⟨_, 2, none⟩) zy).trans hH17.2.2.2.2.2.2.2.2.2.2.2.2.2.2.2.1, (b18.cell (p := ⟨_, 3, none⟩) zy).trans hH17.2.2.2.2.2.2.2.2.2.2.2.2.2.2.2.2.1, (b18.cell (p := ⟨_, 4, none⟩) zy).trans hH17.2.2.2.2.2.2.2.2.2.2.2.2.2.2.2.2.2⟩ (fun hH18 => ?_)
    clear hK K
    replace za := Nat.lt_of_lt_of_le za b18.size
    replace zb := Nat.lt_of_lt_of_le zb b18.size
    replace zx := Nat.lt_of_lt_of_le zx b18.size
    replace zy := Nat.lt_of_lt_of_le zy b18.size
    refine wpAnyH_ready (rs := [15]) (by kernel_rfl) (by simp) ?_
    refine AllReadyH.cons (o := _) rfl (fun K hK => ?_) AllReadyH.nil
    simp only [List.getElem_toArray, List.getElem_cons_zero, List.getElem_cons_succ]
    go_simp
    with_reducible refine (J7.out _).mono ?_
    rintro e v19 ⟨rfl, b19⟩
    dsimp only
    have bel19 := bel18.trans (b19.mono bel18.size)
    refine hK.out _ _ ⟨(b19.cell (p := ⟨_, 0, none⟩) za).trans hH18.1, (b19.cell (p := ⟨_, 1, none⟩) za).trans hH18.2.1, (b19.cell (p := ⟨_, 2, none⟩) za).trans hH18.2.2.1, (b19.cell (p := ⟨_, 3, none⟩) za).trans hH18.2.2.2.1, (b19.cell (p := ⟨_, 0, none⟩) zb).trans hH18.2.2.2.2.1, (b19.cell (p := ⟨_, 1, none⟩) zb).trans hH18.2.2.2.2.2.1, (b19.cell (p := ⟨_, 2, none⟩) zb).trans hH18.2.2.2.2.2.2.1, (b19.cell (p := ⟨_, 3, none⟩) zb).trans hH18.2.2.2.2.2.2.2.1, (b19.cell (p := ⟨_, 0, none⟩) zx).trans hH18.2.2.2.2.2.2.2.2.1, (b19.cell (p := ⟨_, 1, none⟩) zx).trans hH18.2.2.2.2.2.2.2.2.2.1, (b19.cell (p := ⟨_, 2, none⟩) zx).trans hH18.2.2.2.2.2.2.2.2.2.2.1, (b19.cell (p := ⟨_, 3, none⟩) zx).trans hH18.2.2.2.2.2.2.2.2.2.2.2.1, (b19.cell (p := ⟨_, 4, none⟩) zx).trans hH18.2.2.2.2.2.2.2.2.2.2.2.2.1, (b19.cell (p := ⟨_, 0, none⟩) zy).trans hH18.2.2.2.2.2.2.2.2.2.2.2.2.2.1, (b19.cell (p := ⟨_, 1, none⟩) zy).trans hH18.2.2.2.2.2.2.2.2.2.2.2.2.2.2.1, (b19.cell (p := ⟨_, 2, none⟩) zy).trans hH18.2.2.2.2.2.2.2.2.2.2.2.2.2.2.2.1, (b19.cell (p := ⟨_, 3, none⟩) zy).trans hH18.2.2.2.2.2.2.2.2.2.2.2.2.2.2.2.2.1, (b19.cell (p := ⟨_, 4, none⟩) zy).trans hH18.2.2.2.2.2.2.2.2.2.2.2.2.2.2.2.2.2⟩ (fun hH19 => ?_)
    clear hK K
    replace za := Nat.lt_of_lt_of_le za b19.size
    replace zb := Nat.lt_of_lt_of_le zb b19.size
    replace zx := Nat.lt_of_lt_of_le zx b19.size
    replace zy := Nat.lt_of_lt_of_le zy b19.size
    refine wpAnyH_take (i := 16) (v := ?_) rfl (by kernel_rfl) (by kernel_rfl) (by kernel_rfl) (fun _ _ _ h => h) (Or.inl ⟨by rfl, ?_⟩) hH19 ?_
    rotate_left
    · ((intro W hW; obtain ⟨s0, s1, s2, s3, s4, s5, s6, s7, s8, s9, s10, s11, s12, s13, s14, s15, s16, s17⟩ := hW; go_simp) <;> with_reducible rfl)
    simp only [Act.put, List.getElem_toArray, List.getElem_cons_zero, List.getElem_cons_succ, List.setIfInBounds_toArray, List.set_cons_zero, List.set_cons_succ]
    refine wpAnyH_take (i := 20) (v := ?_) rfl (by kernel_rfl) (by kernel_rfl) (by kernel_rfl) (fun _ _ _ h => h) (Or.inl ⟨by rfl, ?_⟩) hH19 ?_
    rotate_left
    · ((intro W hW; obtain ⟨s0, s1, s2, s3, s4, s5, s6, s7, s8, s9, s10, s11, s12, s13, s14, s15, s16, s17⟩ := hW; go_simp) <;> with_reducible rfl)
    simp only [Act.put, List.getElem_toArray, List.getElem_cons_zero, List.getElem_cons_succ, List.setIfInBounds_toArray, List.set_cons_zero, List.set_cons_succ]
    refine wpAnyH_take (i := 21) (v := ?_) rfl (by kernel_rfl) (by kernel_rfl) (by kernel_rfl) (fun _ _ _ h => h) (Or.inl ⟨by rfl, ?_⟩) hH19 ?_
    rotate_left
    · ((intro W hW; obtain ⟨s0, s1, s2, s3, s4, s5, s6, s7, s8, s9, s10, s11, s12, s13, s14, s15, s16, s17⟩ := hW; go_simp) <;> with_reducible rfl)
    simp only [Act.put, List.getElem_toArray, List.getElem_cons_zero, List.getElem_cons_succ, List.setIfInBounds_toArray, List.set_cons_zero, List.set_cons_succ]
    refine wpAnyH_take (i := 22) (v := ?_) rfl (by kernel_rfl) (by kernel_rfl) (by kernel_rfl) (fun _ _ _ h => h) (Or.inl ⟨by rfl, ?_⟩) hH19 ?_
    rotate_left
    · ((intro W hW; obtain ⟨s0, s1, s2, s3, s4, s5, s6, s7, s8, s9, s10, s11, s12, s13, s14, s15, s16, s17⟩ := hW; go_simp) <;> with_reducible rfl)
    simp only [Act.put, List.getElem_toArray, List.getElem_cons_zero, List.getElem_cons_succ, List.setIfInBounds_toArray, List.set_cons_zero, List.set_cons_succ]
    refine wpAnyH_take (i := 23) (v := ?_) rfl (by kernel_rfl) (by kernel_rfl) (by kernel_rfl) (fun _ _ _ h => h) (Or.inl ⟨by rfl, ?_⟩) hH19 ?_
    rotate_left
    · ((intro W hW; obtain ⟨s0, s1, s2, s3, s4, s5, s6, s7, s8, s9, s10, s11, s12, s13, s14, s15, s16, s17⟩ := hW; go_simp) <;> with_reducible rfl)
    simp only [Act.put, List.getElem_toArray, List.getElem_cons_zero, List.getElem_cons_succ, List.setIfInBounds_toArray, List.set_cons_zero, List.set_cons_succ]
    refine wpAnyH_take (i := 24) (v := ?_) rfl (by kernel_rfl) (by kernel_rfl) (by kernel_rfl) (fun _ _ _ h => h) (Or.inl ⟨by rfl, ?_⟩) hH19 ?_
    rotate_left
    · ((intro W hW; obtain ⟨s0, s1, s2, s3, s4, s5, s6, s7, s8, s9, s10, s11, s12, s13, s14, s15, s16, s17⟩ := hW; go_simp) <;> with_reducible rfl)
    simp only [Act.put, List.getElem_toArray, List.getElem_cons_zero, List.getElem_cons_succ, List.setIfInBounds_toArray, List.set_cons_zero, List.set_cons_succ]
    refine wpAnyH_take (i := 25) (v := ?_) rfl (by kernel_rfl) (by kernel_rfl) (by kernel_rfl) (fun _ _ _ h => h) (Or.inl ⟨by rfl, ?_⟩) hH19 ?_
    rotate_left
    · ((intro W hW; obtain ⟨s0, s1, s2, s3, s4, s5, s6, s7, s8, s9, s10, s11, s12, s13, s14, s15, s16, s17⟩ := hW; go_simp) <;> with_reducible rfl)
    simp only [Act.put, List.getElem_toArray, List.getElem_cons_zero, List.getElem_cons_succ, List.setIfInBounds_toArray, List.set_cons_zero, List.set_cons_succ]
    refine wpAnyH_take (i := 27) (v := ?_) rfl (by kernel_rfl) (by kernel_rfl) (by kernel_rfl) (fun _ _ _ h => h) (Or.inl ⟨by rfl, ?_⟩) hH19 ?_
    rotate_left
    · ((intro W hW; obtain ⟨s0, s1, s2, s3, s4, s5, s6, s7, s8, s9, s10, s11, s12, s13, s14, s15, s16, s17⟩ := hW; go_simp) <;> with_reducible rfl)
    simp only [Act.put, List.getElem_toArray, List.getElem_cons_zero, List.getElem_cons_succ, List.setIfInBounds_toArray, List.set_cons_zero, List.set_cons_succ]
    refine wpAnyH_take (i := 28) (v := ?_) rfl (by kernel_rfl) (by kernel_rfl) (by kernel_rfl) (fun _ _ _ h => h) (Or.inl ⟨by rfl, ?_⟩) hH19 ?_
    rotate_left
    · ((intro W hW; obtain ⟨s0, s1, s2, s3, s4, s5, s6, s7, s8, s9, s10, s11, s12, s13, s14, s15, s16, s17⟩ := hW; go_simp) <;> with_reducible rfl)
    simp only [Act.put, List.getElem_toArray, List.getElem_cons_zero, List.getElem_cons_succ, List.setIfInBounds_toArray, List.set_cons_zero, List.set_cons_succ]
    refine wpAnyH_take (i := 29) (v := ?_) rfl (by kernel_rfl) (by kernel_rfl) (by kernel_rfl) (fun _ _ _ h => h) (Or.inl ⟨by rfl, ?_⟩) hH19 ?_
    rotate_left
    · ((intro W hW; obtain ⟨s0, s1, s2, s3, s4, s5, s6, s7, s8, s9, s10, s11, s12, s13, s14, s15, s16, s17⟩ := hW; go_simp) <;> with_reducible rfl)
    simp only [Act.put, List.getElem_toArray, List.getElem_cons_zero, List.getElem_cons_succ, List.setIfInBounds_toArray, List.set_cons_zero, List.set_cons_succ]
    refine wpAnyH_ready (rs := [26]) (by kernel_rfl) (by simp) ?_
    refine AllReadyH.cons (o := _) rfl (fun K hK => ?_) AllReadyH.nil
    simp only [List.getElem_toArray, List.getElem_cons_zero, List.getElem_cons_succ]
    go_simp
    with_reducible refine (K3.out _).mono ?_
    rintro e v20 ⟨rfl, b20⟩
    dsimp only
    have bel20 := bel19.trans (b20.mono bel19.size)
    refine hK.out _ _ ⟨(b20.cell (p := ⟨_, 0, none⟩) za).trans hH19.1, (b20.cell (p := ⟨_, 1, none⟩) za).trans hH19.2.1, (b20.cell (p := ⟨_, 2, none⟩) za).trans hH19.2.2.1, (b20.cell (p := ⟨_, 3, none⟩) za).trans hH19.2.2.2.1, (b20.cell (p := ⟨_, 0, none⟩) zb).trans hH19.2.2.2.2.1, (b20.cell (p := ⟨_, 1, none⟩) zb).trans hH19.2.2.2.2.2.1, (b20.cell (p := ⟨_, 2, none⟩) zb).trans hH19.2.2.2.2.2.2.1, (b20.cell (p := ⟨_, 3, none⟩) zb).trans hH19.2.2.2.2.2.2.2.1, (b20.cell (p := ⟨_, 0, none⟩) zx).trans hH19.2.2.2.2.2.2.2.2.1, (b20.cell (p := ⟨_, 1, none⟩) zx).trans hH19.2.2.2.2.2.2.2.2.2.1, (b20.cell (p := ⟨_, 2, none⟩) zx).trans hH19.2.2.2.2.2.2.2.2.2.2.1, (b20.cell (p := ⟨_, 3, none⟩) zx).trans hH19.2.2.2.2.2.2.2.2.2.2.2.1, (b20.cell (p := ⟨_, 4, none⟩) zx).trans hH19.2.2.2.2.2.2.2.2.2.2.2.2.1, (b20.cell (p := ⟨_, 0, none⟩) zy).trans hH19.2.2.2.2.2.2.2.2.2.2.2.2.2.1, (b20.cell (p := ⟨_, 1, none⟩) zy).trans hH19.2.2.2.2.2.2.2.2.2.2.2.2.2.2.1, (b20.cell (p := ⟨_, 2, none⟩) zy).trans hH19.2.2.2.2.2.2.2.2.2.2.2.2.2.2.2.1, (b20.cell (p := ⟨_, 3, none⟩) zy).trans hH19.2.2.2.2.2.2.2.2.2.2.2.2.2.2.2.2.1, (b20.cell (p := ⟨_, 4, none⟩) zy).trans hH19.2.2.2.2.2.2.2.2.2.2.2.2.2.2.2.2.2⟩ (fun hH20 => ?_)
    clear hK K
    replace za := Nat.lt_of_lt_of_le za b20.size
    replace zb := Nat.lt_of_lt_of_le zb b20.size
    replace zx := Nat.lt_of_lt_of_le zx b20.size
    replace zy := Nat.lt_of_lt_of_le zy b20.size
    refine wpAnyH_take (i := 30) (v := ?_) rfl (by kernel_rfl) (by kernel_rfl) (by kernel_rfl) (fun _ _ _ h => h) (Or.inl ⟨by rfl, ?_⟩) hH20 ?_
    rotate_left
    · ((intro W hW; obtain ⟨s0, s1, s2, s3, s4, s5, s6, s7, s8, s9, s10, s11, s12, s13, s14, s15, s16, s17⟩ := hW; go_simp) <;> with_reducible rfl)
    simp only [Act.put, List.getElem_toArray, List.getElem_cons_zero, List.getElem_cons_succ, List.setIfInBounds_toArray, List.set_cons_zero, List.set_cons_succ]
    refine wpAnyH_take (i := 31) (v := ?_) rfl (by kernel_rfl) (by kernel_rfl) (by kernel_rfl) (fun _ _ _ h => h) (Or.inl ⟨by rfl, ?_⟩) hH20 ?_
    rotate_left
    · ((intro W hW; obtain ⟨s0, s1, s2, s3, s4, s5, s6, s7, s8, s9, s10, s11, s12, s13, s14, s15, s16, s17⟩ := hW; go_simp) <;> with_reducible rfl)
    simp only [Act.put, List.getElem_toArray, List.getElem_cons_zero, List.getElem_cons_succ, List.setIfInBounds_toArray, List.set_cons_zero, List.set_cons_succ]
    refine wpAnyH_take (i := 32) (v := ?_) rfl (by kernel_rfl) (by kernel_rfl) (by kernel_rfl) (fun _ _ _ h => h) (Or.inl ⟨by rfl, ?_⟩) hH20 ?_
    rotate_left
    · ((intro W hW; obtain ⟨s0, s1, s2, s3, s4, s5, s6, s7, s8, s9, s10, s11, s12, s13, s14, s15, s16, s17⟩ := hW; go_simp) <;> with_reducible rfl)
    simp only [Act.put, List.getElem_toArray, List.getElem_cons_zero, List.getElem_cons_succ, List.setIfInBounds_toArray, List.set_cons_zero, List.set_cons_succ]
    refine wpAnyH_done (by kernel_rfl) ?_ _
    go_wp2
    go_ret
    exact ⟨rfl, bel20⟩

end Go.Proofs.YtppjnhjglhlpkaaDoor
