/- Layer 3: AddrMasks' walk, whole. -/
import Derived.Test.YtppjnhjglhlpkaaDoorLaw3m
namespace Go.Proofs.YtppjnhjglhlpkaaDoor
open Go.RowKit

set_option maxRecDepth 100000 in
set_option maxHeartbeats 4000000 in
theorem addrMasks_lo (a b c d : UInt8) (bt : Int) (h : bt < 0) (p1 p2 p3 p4 : UInt8) (w : World) (hT : Tab w) : Calls Tryd.prog 8 #[.agg #[.int .u8 (a.toNat : Int), .int .u8 (b.toNat : Int), .int .u8 (c.toNat : Int), .int .u8 (d.toNat : Int)], .int .i64 bt, .agg #[.int .u8 (p1.toNat : Int), .int .u8 (p2.toNat : Int), .int .u8 (p3.toNat : Int), .int .u8 (p4.toNat : Int)]] w fun e w' => e = .returned (.bool true) ∧ Below w.heap.size w w' := by
  have bel := Below.refl w.heap.size w
  have HT := Lib.hid hT
  clear hT
  have ha := heap_alloc_new w (.cells #[.int .u8 (a.toNat : Int), .int .u8 (b.toNat : Int), .int .u8 (c.toNat : Int), .int .u8 (d.toNat : Int)] 24)
  have za : w.heap.size < (w.alloc (.cells #[.int .u8 (a.toNat : Int), .int .u8 (b.toNat : Int), .int .u8 (c.toNat : Int), .int .u8 (d.toNat : Int)] 24)).heap.size := by simp
  replace bel := bel.alloc bel.size (.cells #[.int .u8 (a.toNat : Int), .int .u8 (b.toNat : Int), .int .u8 (c.toNat : Int), .int .u8 (d.toNat : Int)] 24)
  replace ha := (Go.heap_alloc_old (w.alloc (.cells #[.int .u8 (a.toNat : Int), .int .u8 (b.toNat : Int), .int .u8 (c.toNat : Int), .int .u8 (d.toNat : Int)] 24)) (.cells #[.int .u8 (p1.toNat : Int), .int .u8 (p2.toNat : Int), .int .u8 (p3.toNat : Int), .int .u8 (p4.toNat : Int)] 24) (r := w.heap.size) za).trans ha
  have hb : ((w.alloc (.cells #[.int .u8 (a.toNat : Int), .int .u8 (b.toNat : Int), .int .u8 (c.toNat : Int), .int .u8 (d.toNat : Int)] 24)).alloc (.cells #[.int .u8 (p1.toNat : Int), .int .u8 (p2.toNat : Int), .int .u8 (p3.toNat : Int), .int .u8 (p4.toNat : Int)] 24)).heap[w.heap.size + 1]? = some (.cells #[.int .u8 (p1.toNat : Int), .int .u8 (p2.toNat : Int), .int .u8 (p3.toNat : Int), .int .u8 (p4.toNat : Int)] 24 (0, 0)) := by have := heap_alloc_new (w.alloc (.cells #[.int .u8 (a.toNat : Int), .int .u8 (b.toNat : Int), .int .u8 (c.toNat : Int), .int .u8 (d.toNat : Int)] 24)) (.cells #[.int .u8 (p1.toNat : Int), .int .u8 (p2.toNat : Int), .int .u8 (p3.toNat : Int), .int .u8 (p4.toNat : Int)] 24); simpa using this
  replace za := Nat.lt_trans za (show (w.alloc (.cells #[.int .u8 (a.toNat : Int), .int .u8 (b.toNat : Int), .int .u8 (c.toNat : Int), .int .u8 (d.toNat : Int)] 24)).heap.size < ((w.alloc (.cells #[.int .u8 (a.toNat : Int), .int .u8 (b.toNat : Int), .int .u8 (c.toNat : Int), .int .u8 (d.toNat : Int)] 24)).alloc (.cells #[.int .u8 (p1.toNat : Int), .int .u8 (p2.toNat : Int), .int .u8 (p3.toNat : Int), .int .u8 (p4.toNat : Int)] 24)).heap.size by simp)
  have zb : w.heap.size + 1 < ((w.alloc (.cells #[.int .u8 (a.toNat : Int), .int .u8 (b.toNat : Int), .int .u8 (c.toNat : Int), .int .u8 (d.toNat : Int)] 24)).alloc (.cells #[.int .u8 (p1.toNat : Int), .int .u8 (p2.toNat : Int), .int .u8 (p3.toNat : Int), .int .u8 (p4.toNat : Int)] 24)).heap.size := by simp
  replace bel := bel.alloc bel.size (.cells #[.int .u8 (p1.toNat : Int), .int .u8 (p2.toNat : Int), .int .u8 (p3.toNat : Int), .int .u8 (p4.toNat : Int)] 24)
  go_enter Tryd.func8, Tryd.ntmps8
  go_wp2_with fail
  with_reducible refine (awake3 _ (HT.out.below bel)).mono ?_
  rintro e w1 ⟨rfl, b1⟩
  replace ha := (b1.block _ za).trans ha
  replace za := Nat.lt_of_lt_of_le za b1.size
  replace hb := (b1.block _ zb).trans hb
  replace zb := Nat.lt_of_lt_of_le zb b1.size
  replace bel := bel.trans (b1.mono bel.size)
  clear b1
  
  go_wp2
  go_ret
  exact ⟨rfl, bel⟩
set_option maxRecDepth 100000 in
set_option maxHeartbeats 4000000 in
theorem addrMasks_hi (a b c d : UInt8) (bt : Int) (h : 31 < bt) (p1 p2 p3 p4 : UInt8) (w : World) (hT : Tab w) : Calls Tryd.prog 8 #[.agg #[.int .u8 (a.toNat : Int), .int .u8 (b.toNat : Int), .int .u8 (c.toNat : Int), .int .u8 (d.toNat : Int)], .int .i64 bt, .agg #[.int .u8 (p1.toNat : Int), .int .u8 (p2.toNat : Int), .int .u8 (p3.toNat : Int), .int .u8 (p4.toNat : Int)]] w fun e w' => e = .returned (.bool true) ∧ Below w.heap.size w w' := by
  have bel := Below.refl w.heap.size w
  have HT := Lib.hid hT
  clear hT
  have ha := heap_alloc_new w (.cells #[.int .u8 (a.toNat : Int), .int .u8 (b.toNat : Int), .int .u8 (c.toNat : Int), .int .u8 (d.toNat : Int)] 24)
  have za : w.heap.size < (w.alloc (.cells #[.int .u8 (a.toNat : Int), .int .u8 (b.toNat : Int), .int .u8 (c.toNat : Int), .int .u8 (d.toNat : Int)] 24)).heap.size := by simp
  replace bel := bel.alloc bel.size (.cells #[.int .u8 (a.toNat : Int), .int .u8 (b.toNat : Int), .int .u8 (c.toNat : Int), .int .u8 (d.toNat : Int)] 24)
  replace ha := (Go.heap_alloc_old (w.alloc (.cells #[.int .u8 (a.toNat : Int), .int .u8 (b.toNat : Int), .int .u8 (c.toNat : Int), .int .u8 (d.toNat : Int)] 24)) (.cells #[.int .u8 (p1.toNat : Int), .int .u8 (p2.toNat : Int), .int .u8 (p3.toNat : Int), .int .u8 (p4.toNat : Int)] 24) (r := w.heap.size) za).trans ha
  have hb : ((w.alloc (.cells #[.int .u8 (a.toNat : Int), .int .u8 (b.toNat : Int), .int .u8 (c.toNat : Int), .int .u8 (d.toNat : Int)] 24)).alloc (.cells #[.int .u8 (p1.toNat : Int), .int .u8 (p2.toNat : Int), .int .u8 (p3.toNat : Int), .int .u8 (p4.toNat : Int)] 24)).heap[w.heap.size + 1]? = some (.cells #[.int .u8 (p1.toNat : Int), .int .u8 (p2.toNat : Int), .int .u8 (p3.toNat : Int), .int .u8 (p4.toNat : Int)] 24 (0, 0)) := by have := heap_alloc_new (w.alloc (.cells #[.int .u8 (a.toNat : Int), .int .u8 (b.toNat : Int), .int .u8 (c.toNat : Int), .int .u8 (d.toNat : Int)] 24)) (.cells #[.int .u8 (p1.toNat : Int), .int .u8 (p2.toNat : Int), .int .u8 (p3.toNat : Int), .int .u8 (p4.toNat : Int)] 24); simpa using this
  replace za := Nat.lt_trans za (show (w.alloc (.cells #[.int .u8 (a.toNat : Int), .int .u8 (b.toNat : Int), .int .u8 (c.toNat : Int), .int .u8 (d.toNat : Int)] 24)).heap.size < ((w.alloc (.cells #[.int .u8 (a.toNat : Int), .int .u8 (b.toNat : Int), .int .u8 (c.toNat : Int), .int .u8 (d.toNat : Int)] 24)).alloc (.cells #[.int .u8 (p1.toNat : Int), .int .u8 (p2.toNat : Int), .int .u8 (p3.toNat : Int), .int .u8 (p4.toNat : Int)] 24)).heap.size by simp)
  have zb : w.heap.size + 1 < ((w.alloc (.cells #[.int .u8 (a.toNat : Int), .int .u8 (b.toNat : Int), .int .u8 (c.toNat : Int), .int .u8 (d.toNat : Int)] 24)).alloc (.cells #[.int .u8 (p1.toNat : Int), .int .u8 (p2.toNat : Int), .int .u8 (p3.toNat : Int), .int .u8 (p4.toNat : Int)] 24)).heap.size := by simp
  replace bel := bel.alloc bel.size (.cells #[.int .u8 (p1.toNat : Int), .int .u8 (p2.toNat : Int), .int .u8 (p3.toNat : Int), .int .u8 (p4.toNat : Int)] 24)
  go_enter Tryd.func8, Tryd.ntmps8
  go_wp2_with fail
  with_reducible refine (awake3 _ (HT.out.below bel)).mono ?_
  rintro e w1 ⟨rfl, b1⟩
  replace ha := (b1.block _ za).trans ha
  replace za := Nat.lt_of_lt_of_le za b1.size
  replace hb := (b1.block _ zb).trans hb
  replace zb := Nat.lt_of_lt_of_le zb b1.size
  replace bel := bel.trans (b1.mono bel.size)
  clear b1
  have h2 : decide (bt < 0) = false := decide_eq_false (by omega)
  go_wp2
  go_ret
  exact ⟨rfl, bel⟩
theorem addrMasks_walk (a b c d : UInt8) (bt : Int) (p1 p2 p3 p4 : UInt8) (w : World) (hT : Tab w) : Calls Tryd.prog 8 #[.agg #[.int .u8 (a.toNat : Int), .int .u8 (b.toNat : Int), .int .u8 (c.toNat : Int), .int .u8 (d.toNat : Int)], .int .i64 bt, .agg #[.int .u8 (p1.toNat : Int), .int .u8 (p2.toNat : Int), .int .u8 (p3.toNat : Int), .int .u8 (p4.toNat : Int)]] w fun e w' => e = .returned (.bool true) ∧ Below w.heap.size w w' := by
  by_cases h0 : bt < 0
  · exact addrMasks_lo a b c d bt h0 p1 p2 p3 p4 w hT
  by_cases h1 : 31 < bt
  · exact addrMasks_hi a b c d bt h1 p1 p2 p3 p4 w hT
  obtain ⟨m, rfl⟩ : ∃ m : Nat, bt = m := ⟨bt.toNat, by omega⟩
  by_cases hy : firstN (be [a, b, c, d]) (m + 1) = firstN (be [p1, p2, p3, p4]) (m + 1)
  · exact addrMasks_in a b c d m (by omega) p1 p2 p3 p4 w hT hy
  · exact addrMasks_out a b c d m (by omega) p1 p2 p3 p4 w hT hy
end Go.Proofs.YtppjnhjglhlpkaaDoor
