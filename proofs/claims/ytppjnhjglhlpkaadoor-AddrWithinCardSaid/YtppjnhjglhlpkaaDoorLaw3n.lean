/- Layer 3: AddrNets' walk. -/
import Derived.Test.YtppjnhjglhlpkaaDoorAwk3
import Derived.Test.YtppjnhjglhlpkaaDoorRef3h
namespace Go.Proofs.YtppjnhjglhlpkaaDoor
open Go.RowKit

theorem self4 (x : List UInt8) (hx : x.length = 4) (W : World) : (binOp .eql 24 (.agg (x.map u8v).toArray) (.agg (x.map u8v).toArray)).run Tryd.prog W = .ok (.bool true) W := by
  have h := eql4 x x hx hx W
  rw [beq_self_eq_true] at h; exact h
theorem self_adr (n : Nat) (hn : n < 4294967296) (W : World) : (binOp .eql 24 (adr n) (adr n)).run Tryd.prog W = .ok (.bool true) W := by
  have h := eql_adr n n hn hn W
  rw [beq_self_eq_true] at h; exact h

set_option maxRecDepth 100000 in
set_option maxHeartbeats 8000000 in
theorem addrNets_walk (a b c d : UInt8) (bt : Int) (p1 p2 p3 p4 m0 m1 m2 m3 m4 m5 : UInt8) (w : World) (hT : Tab w) : Calls Tryd.prog 5 #[.agg #[.int .u8 (a.toNat : Int), .int .u8 (b.toNat : Int), .int .u8 (c.toNat : Int), .int .u8 (d.toNat : Int)], .int .i64 bt, .agg #[.int .u8 (p1.toNat : Int), .int .u8 (p2.toNat : Int), .int .u8 (p3.toNat : Int), .int .u8 (p4.toNat : Int)], .agg #[.int .u8 (m0.toNat : Int), .int .u8 (m1.toNat : Int), .int .u8 (m2.toNat : Int), .int .u8 (m3.toNat : Int), .int .u8 (m4.toNat : Int), .int .u8 (m5.toNat : Int)]] w fun e w' => e = .returned (.bool true) ∧ Below w.heap.size w w' := by
  have bel := Below.refl w.heap.size w
  have HT := Lib.hid hT
  clear hT
  have hn := be_four_lt a b c d
  have hml := clamp_le bt
  have H1 := Lib.hid fun W => ahas_any a b c d p1 p2 p3 p4 bt W
  have H2 := Lib.hid fun W => rhas_any a b c d p1 p2 p3 p4 bt W
  generalize (firstN (be [a, b, c, d]) (clamp bt) == firstN (be [p1, p2, p3, p4]) (clamp bt)) = res at H1 H2
  have H3 := Lib.hid fun W => afirst_any a b c d bt W
  have H4 := Lib.hid fun W => rfirst_any a b c d bt W
  have e1 := fun W => self_adr (firstN (be [a, b, c, d]) (clamp bt)) (by have := firstN_le (be [a, b, c, d]) (clamp bt); omega) W
  have g1 := fun op x y W => guard_adr op x y (firstN (be [a, b, c, d]) (clamp bt)) (firstN (be [a, b, c, d]) (clamp bt)) W
  have H5 := Lib.hid fun W => alast_any a b c d bt W
  have H6 := Lib.hid fun W => rlast_any a b c d bt W
  have e2 := fun W => self_adr (lastN (be [a, b, c, d]) (clamp bt)) (lastN_lt _ _ hml hn) W
  have g2 := fun op x y W => guard_adr op x y (lastN (be [a, b, c, d]) (clamp bt)) (lastN (be [a, b, c, d]) (clamp bt)) W
  have H7 := Lib.hid fun W h => atext_any a b c d W h
  have H8 := Lib.hid fun W => raddrtext_any a b c d W
  have H9 := Lib.hid fun W => amactext_any m0 m1 m2 m3 m4 m5 W
  have H10 := Lib.hid fun W => rmactext_any m0 m1 m2 m3 m4 m5 W
  have H11 := Lib.hid fun W => anum_any a b c d W
  have H12 := Lib.hid fun W => rnum_any a b c d W
  have H13' := fun W => aof_any (be [a, b, c, d]) W hn
  rw [adr_be] at H13'
  have H13 := Lib.hid H13'
  have e3 := fun W => self4 [a, b, c, d] rfl W
  have g3 := fun op x y W => guard4 op x y ([a, b, c, d].map u8v).toArray ([a, b, c, d].map u8v).toArray W
  simp only [List.map_cons, List.map_nil, u8v] at e3 g3
  generalize adr (firstN (be [a, b, c, d]) (clamp bt)) = fv at *
  generalize adr (lastN (be [a, b, c, d]) (clamp bt)) = lv at *
  generalize be [a, b, c, d] = n at *
  clear hn hml H13'
  have ha := heap_alloc_new w (.cells #[.int .u8 (a.toNat : Int), .int .u8 (b.toNat : Int), .int .u8 (c.toNat : Int), .int .u8 (d.toNat : Int)] 24)
  have za : w.heap.size < (w.alloc (.cells #[.int .u8 (a.toNat : Int), .int .u8 (b.toNat : Int), .int .u8 (c.toNat : Int), .int .u8 (d.toNat : Int)] 24)).heap.size := by simp
  replace bel := bel.alloc bel.size (.cells #[.int .u8 (a.toNat : Int), .int .u8 (b.toNat : Int), .int .u8 (c.toNat : Int), .int .u8 (d.toNat : Int)] 24)
  replace ha := (Go.heap_alloc_old (w.alloc (.cells #[.int .u8 (a.toNat : Int), .int .u8 (b.toNat : Int), .int .u8 (c.toNat : Int), .int .u8 (d.toNat : Int)] 24)) (.cells #[.int .u8 (p1.toNat : Int), .int .u8 (p2.toNat : Int), .int .u8 (p3.toNat : Int), .int .u8 (p4.toNat : Int)] 24) (r := w.heap.size) za).trans ha
  have hb : ((w.alloc (.cells #[.int .u8 (a.toNat : Int), .int .u8 (b.toNat : Int), .int .u8 (c.toNat : Int), .int .u8 (d.toNat : Int)] 24)).alloc (.cells #[.int .u8 (p1.toNat : Int), .int .u8 (p2.toNat : Int), .int .u8 (p3.toNat : Int), .int .u8 (p4.toNat : Int)] 24)).heap[w.heap.size + 1]? = some (.cells #[.int .u8 (p1.toNat : Int), .int .u8 (p2.toNat : Int), .int .u8 (p3.toNat : Int), .int .u8 (p4.toNat : Int)] 24 (0, 0)) := by have := heap_alloc_new (w.alloc (.cells #[.int .u8 (a.toNat : Int), .int .u8 (b.toNat : Int), .int .u8 (c.toNat : Int), .int .u8 (d.toNat : Int)] 24)) (.cells #[.int .u8 (p1.toNat : Int), .int .u8 (p2.toNat : Int), .int .u8 (p3.toNat : Int), .int .u8 (p4.toNat : Int)] 24); simpa using this
  replace za := Nat.lt_trans za (show (w.alloc (.cells #[.int .u8 (a.toNat : Int), .int .u8 (b.toNat : Int), .int .u8 (c.toNat : Int), .int .u8 (d.toNat : Int)] 24)).heap.size < ((w.alloc (.cells #[.int .u8 (a.toNat : Int), .int .u8 (b.toNat : Int), .int .u8 (c.toNat : Int), .int .u8 (d.toNat : Int)] 24)).alloc (.cells #[.int .u8 (p1.toNat : Int), .int .u8 (p2.toNat : Int), .int .u8 (p3.toNat : Int), .int .u8 (p4.toNat : Int)] 24)).heap.size by simp)
  have zb : w.heap.size + 1 < ((w.alloc (.cells #[.int .u8 (a.toNat : Int), .int .u8 (b.toNat : Int), .int .u8 (c.toNat : Int), .int .u8 (d.toNat : Int)] 24)).alloc (.cells #[.int .u8 (p1.toNat : Int), .int .u8 (p2.toNat : Int), .int .u8 (p3.toNat : Int), .int .u8 (p4.toNat : Int)] 24)).heap.size := by simp
  replace bel := bel.alloc bel.size (.cells #[.int .u8 (p1.toNat : Int), .int .u8 (p2.toNat : Int), .int .u8 (p3.toNat : Int), .int .u8 (p4.toNat : Int)] 24)
  replace ha := (Go.heap_alloc_old ((w.alloc (.cells #[.int .u8 (a.toNat : Int), .int .u8 (b.toNat : Int), .int .u8 (c.toNat : Int), .int .u8 (d.toNat : Int)] 24)).alloc (.cells #[.int .u8 (p1.toNat : Int), .int .u8 (p2.toNat : Int), .int .u8 (p3.toNat : Int), .int .u8 (p4.toNat : Int)] 24)) (.cells #[.int .u8 (m0.toNat : Int), .int .u8 (m1.toNat : Int), .int .u8 (m2.toNat : Int), .int .u8 (m3.toNat : Int), .int .u8 (m4.toNat : Int), .int .u8 (m5.toNat : Int)] 33) (r := w.heap.size) za).trans ha
  replace hb := (Go.heap_alloc_old ((w.alloc (.cells #[.int .u8 (a.toNat : Int), .int .u8 (b.toNat : Int), .int .u8 (c.toNat : Int), .int .u8 (d.toNat : Int)] 24)).alloc (.cells #[.int .u8 (p1.toNat : Int), .int .u8 (p2.toNat : Int), .int .u8 (p3.toNat : Int), .int .u8 (p4.toNat : Int)] 24)) (.cells #[.int .u8 (m0.toNat : Int), .int .u8 (m1.toNat : Int), .int .u8 (m2.toNat : Int), .int .u8 (m3.toNat : Int), .int .u8 (m4.toNat : Int), .int .u8 (m5.toNat : Int)] 33) (r := w.heap.size + 1) zb).trans hb
  have hm : (((w.alloc (.cells #[.int .u8 (a.toNat : Int), .int .u8 (b.toNat : Int), .int .u8 (c.toNat : Int), .int .u8 (d.toNat : Int)] 24)).alloc (.cells #[.int .u8 (p1.toNat : Int), .int .u8 (p2.toNat : Int), .int .u8 (p3.toNat : Int), .int .u8 (p4.toNat : Int)] 24)).alloc (.cells #[.int .u8 (m0.toNat : Int), .int .u8 (m1.toNat : Int), .int .u8 (m2.toNat : Int), .int .u8 (m3.toNat : Int), .int .u8 (m4.toNat : Int), .int .u8 (m5.toNat : Int)] 33)).heap[w.heap.size + 1 + 1]? = some (.cells #[.int .u8 (m0.toNat : Int), .int .u8 (m1.toNat : Int), .int .u8 (m2.toNat : Int), .int .u8 (m3.toNat : Int), .int .u8 (m4.toNat : Int), .int .u8 (m5.toNat : Int)] 33 (0, 0)) := by have := heap_alloc_new ((w.alloc (.cells #[.int .u8 (a.toNat : Int), .int .u8 (b.toNat : Int), .int .u8 (c.toNat : Int), .int .u8 (d.toNat : Int)] 24)).alloc (.cells #[.int .u8 (p1.toNat : Int), .int .u8 (p2.toNat : Int), .int .u8 (p3.toNat : Int), .int .u8 (p4.toNat : Int)] 24)) (.cells #[.int .u8 (m0.toNat : Int), .int .u8 (m1.toNat : Int), .int .u8 (m2.toNat : Int), .int .u8 (m3.toNat : Int), .int .u8 (m4.toNat : Int), .int .u8 (m5.toNat : Int)] 33); simpa using this
  replace za := Nat.lt_trans za (show ((w.alloc (.cells #[.int .u8 (a.toNat : Int), .int .u8 (b.toNat : Int), .int .u8 (c.toNat : Int), .int .u8 (d.toNat : Int)] 24)).alloc (.cells #[.int .u8 (p1.toNat : Int), .int .u8 (p2.toNat : Int), .int .u8 (p3.toNat : Int), .int .u8 (p4.toNat : Int)] 24)).heap.size < (((w.alloc (.cells #[.int .u8 (a.toNat : Int), .int .u8 (b.toNat : Int), .int .u8 (c.toNat : Int), .int .u8 (d.toNat : Int)] 24)).alloc (.cells #[.int .u8 (p1.toNat : Int), .int .u8 (p2.toNat : Int), .int .u8 (p3.toNat : Int), .int .u8 (p4.toNat : Int)] 24)).alloc (.cells #[.int .u8 (m0.toNat : Int), .int .u8 (m1.toNat : Int), .int .u8 (m2.toNat : Int), .int .u8 (m3.toNat : Int), .int .u8 (m4.toNat : Int), .int .u8 (m5.toNat : Int)] 33)).heap.size by simp)
  replace zb := Nat.lt_trans zb (show ((w.alloc (.cells #[.int .u8 (a.toNat : Int), .int .u8 (b.toNat : Int), .int .u8 (c.toNat : Int), .int .u8 (d.toNat : Int)] 24)).alloc (.cells #[.int .u8 (p1.toNat : Int), .int .u8 (p2.toNat : Int), .int .u8 (p3.toNat : Int), .int .u8 (p4.toNat : Int)] 24)).heap.size < (((w.alloc (.cells #[.int .u8 (a.toNat : Int), .int .u8 (b.toNat : Int), .int .u8 (c.toNat : Int), .int .u8 (d.toNat : Int)] 24)).alloc (.cells #[.int .u8 (p1.toNat : Int), .int .u8 (p2.toNat : Int), .int .u8 (p3.toNat : Int), .int .u8 (p4.toNat : Int)] 24)).alloc (.cells #[.int .u8 (m0.toNat : Int), .int .u8 (m1.toNat : Int), .int .u8 (m2.toNat : Int), .int .u8 (m3.toNat : Int), .int .u8 (m4.toNat : Int), .int .u8 (m5.toNat : Int)] 33)).heap.size by simp)
  have zm : w.heap.size + 1 + 1 < (((w.alloc (.cells #[.int .u8 (a.toNat : Int), .int .u8 (b.toNat : Int), .int .u8 (c.toNat : Int), .int .u8 (d.toNat : Int)] 24)).alloc (.cells #[.int .u8 (p1.toNat : Int), .int .u8 (p2.toNat : Int), .int .u8 (p3.toNat : Int), .int .u8 (p4.toNat : Int)] 24)).alloc (.cells #[.int .u8 (m0.toNat : Int), .int .u8 (m1.toNat : Int), .int .u8 (m2.toNat : Int), .int .u8 (m3.toNat : Int), .int .u8 (m4.toNat : Int), .int .u8 (m5.toNat : Int)] 33)).heap.size := by simp
  replace bel := bel.alloc bel.size (.cells #[.int .u8 (m0.toNat : Int), .int .u8 (m1.toNat : Int), .int .u8 (m2.toNat : Int), .int .u8 (m3.toNat : Int), .int .u8 (m4.toNat : Int), .int .u8 (m5.toNat : Int)] 33)
  go_enter Tryd.func5, Tryd.ntmps5
  go_wp2_with fail
  with_reducible refine (awake3 _ (HT.out.below bel)).mono ?_
  rintro e w1 ⟨rfl, b1⟩
  replace ha := (b1.block _ za).trans ha
  replace za := Nat.lt_of_lt_of_le za b1.size
  replace hb := (b1.block _ zb).trans hb
  replace zb := Nat.lt_of_lt_of_le zb b1.size
  replace hm := (b1.block _ zm).trans hm
  replace zm := Nat.lt_of_lt_of_le zm b1.size
  replace bel := bel.trans (b1.mono bel.size)
  clear b1
  obtain ⟨⟨ca0, ca1, ca2, ca3⟩, _⟩ := cells4 ha
  have ya := za
  have yb := zb
  have ym := zm
  replace ha := (Go.heap_alloc_old w1 (.cells #[.int .u8 (a.toNat : Int), .int .u8 (b.toNat : Int), .int .u8 (c.toNat : Int), .int .u8 (d.toNat : Int), .int .i64 bt] 29) (r := w.heap.size) za).trans ha
  replace hb := (Go.heap_alloc_old w1 (.cells #[.int .u8 (a.toNat : Int), .int .u8 (b.toNat : Int), .int .u8 (c.toNat : Int), .int .u8 (d.toNat : Int), .int .i64 bt] 29) (r := w.heap.size + 1) zb).trans hb
  replace hm := (Go.heap_alloc_old w1 (.cells #[.int .u8 (a.toNat : Int), .int .u8 (b.toNat : Int), .int .u8 (c.toNat : Int), .int .u8 (d.toNat : Int), .int .i64 bt] 29) (r := w.heap.size + 1 + 1) zm).trans hm
  have hn := heap_alloc_new w1 (.cells #[.int .u8 (a.toNat : Int), .int .u8 (b.toNat : Int), .int .u8 (c.toNat : Int), .int .u8 (d.toNat : Int), .int .i64 bt] 29)
  replace za := Nat.lt_trans za (show w1.heap.size < (w1.alloc (.cells #[.int .u8 (a.toNat : Int), .int .u8 (b.toNat : Int), .int .u8 (c.toNat : Int), .int .u8 (d.toNat : Int), .int .i64 bt] 29)).heap.size by simp)
  replace zb := Nat.lt_trans zb (show w1.heap.size < (w1.alloc (.cells #[.int .u8 (a.toNat : Int), .int .u8 (b.toNat : Int), .int .u8 (c.toNat : Int), .int .u8 (d.toNat : Int), .int .i64 bt] 29)).heap.size by simp)
  replace zm := Nat.lt_trans zm (show w1.heap.size < (w1.alloc (.cells #[.int .u8 (a.toNat : Int), .int .u8 (b.toNat : Int), .int .u8 (c.toNat : Int), .int .u8 (d.toNat : Int), .int .i64 bt] 29)).heap.size by simp)
  have zn : w1.heap.size < (w1.alloc (.cells #[.int .u8 (a.toNat : Int), .int .u8 (b.toNat : Int), .int .u8 (c.toNat : Int), .int .u8 (d.toNat : Int), .int .i64 bt] 29)).heap.size := by simp
  replace bel := bel.alloc bel.size (.cells #[.int .u8 (a.toNat : Int), .int .u8 (b.toNat : Int), .int .u8 (c.toNat : Int), .int .u8 (d.toNat : Int), .int .i64 bt] 29)
  replace ha := (Go.heap_alloc_old (w1.alloc (.cells #[.int .u8 (a.toNat : Int), .int .u8 (b.toNat : Int), .int .u8 (c.toNat : Int), .int .u8 (d.toNat : Int), .int .i64 bt] 29)) (.cells #[.int .u8 (a.toNat : Int), .int .u8 (b.toNat : Int), .int .u8 (c.toNat : Int), .int .u8 (d.toNat : Int), .int .i64 bt] 41) (r := w.heap.size) za).trans ha
  replace hb := (Go.heap_alloc_old (w1.alloc (.cells #[.int .u8 (a.toNat : Int), .int .u8 (b.toNat : Int), .int .u8 (c.toNat : Int), .int .u8 (d.toNat : Int), .int .i64 bt] 29)) (.cells #[.int .u8 (a.toNat : Int), .int .u8 (b.toNat : Int), .int .u8 (c.toNat : Int), .int .u8 (d.toNat : Int), .int .i64 bt] 41) (r := w.heap.size + 1) zb).trans hb
  replace hm := (Go.heap_alloc_old (w1.alloc (.cells #[.int .u8 (a.toNat : Int), .int .u8 (b.toNat : Int), .int .u8 (c.toNat : Int), .int .u8 (d.toNat : Int), .int .i64 bt] 29)) (.cells #[.int .u8 (a.toNat : Int), .int .u8 (b.toNat : Int), .int .u8 (c.toNat : Int), .int .u8 (d.toNat : Int), .int .i64 bt] 41) (r := w.heap.size + 1 + 1) zm).trans hm
  replace hn := (Go.heap_alloc_old (w1.alloc (.cells #[.int .u8 (a.toNat : Int), .int .u8 (b.toNat : Int), .int .u8 (c.toNat : Int), .int .u8 (d.toNat : Int), .int .i64 bt] 29)) (.cells #[.int .u8 (a.toNat : Int), .int .u8 (b.toNat : Int), .int .u8 (c.toNat : Int), .int .u8 (d.toNat : Int), .int .i64 bt] 41) (r := w1.heap.size) zn).trans hn
  have hv : ((w1.alloc (.cells #[.int .u8 (a.toNat : Int), .int .u8 (b.toNat : Int), .int .u8 (c.toNat : Int), .int .u8 (d.toNat : Int), .int .i64 bt] 29)).alloc (.cells #[.int .u8 (a.toNat : Int), .int .u8 (b.toNat : Int), .int .u8 (c.toNat : Int), .int .u8 (d.toNat : Int), .int .i64 bt] 41)).heap[w1.heap.size + 1]? = some (.cells #[.int .u8 (a.toNat : Int), .int .u8 (b.toNat : Int), .int .u8 (c.toNat : Int), .int .u8 (d.toNat : Int), .int .i64 bt] 41 (0, 0)) := by have := heap_alloc_new (w1.alloc (.cells #[.int .u8 (a.toNat : Int), .int .u8 (b.toNat : Int), .int .u8 (c.toNat : Int), .int .u8 (d.toNat : Int), .int .i64 bt] 29)) (.cells #[.int .u8 (a.toNat : Int), .int .u8 (b.toNat : Int), .int .u8 (c.toNat : Int), .int .u8 (d.toNat : Int), .int .i64 bt] 41); simpa using this
  replace za := Nat.lt_trans za (show (w1.alloc (.cells #[.int .u8 (a.toNat : Int), .int .u8 (b.toNat : Int), .int .u8 (c.toNat : Int), .int .u8 (d.toNat : Int), .int .i64 bt] 29)).heap.size < ((w1.alloc (.cells #[.int .u8 (a.toNat : Int), .int .u8 (b.toNat : Int), .int .u8 (c.toNat : Int), .int .u8 (d.toNat : Int), .int .i64 bt] 29)).alloc (.cells #[.int .u8 (a.toNat : Int), .int .u8 (b.toNat : Int), .int .u8 (c.toNat : Int), .int .u8 (d.toNat : Int), .int .i64 bt] 41)).heap.size by simp)
  replace zb := Nat.lt_trans zb (show (w1.alloc (.cells #[.int .u8 (a.toNat : Int), .int .u8 (b.toNat : Int), .int .u8 (c.toNat : Int), .int .u8 (d.toNat : Int), .int .i64 bt] 29)).heap.size < ((w1.alloc (.cells #[.int .u8 (a.toNat : Int), .int .u8 (b.toNat : Int), .int .u8 (c.toNat : Int), .int .u8 (d.toNat : Int), .int .i64 bt] 29)).alloc (.cells #[.int .u8 (a.toNat : Int), .int .u8 (b.toNat : Int), .int .u8 (c.toNat : Int), .int .u8 (d.toNat : Int), .int .i64 bt] 41)).heap.size by simp)
  replace zm := Nat.lt_trans zm (show (w1.alloc (.cells #[.int .u8 (a.toNat : Int), .int .u8 (b.toNat : Int), .int .u8 (c.toNat : Int), .int .u8 (d.toNat : Int), .int .i64 bt] 29)).heap.size < ((w1.alloc (.cells #[.int .u8 (a.toNat : Int), .int .u8 (b.toNat : Int), .int .u8 (c.toNat : Int), .int .u8 (d.toNat : Int), .int .i64 bt] 29)).alloc (.cells #[.int .u8 (a.toNat : Int), .int .u8 (b.toNat : Int), .int .u8 (c.toNat : Int), .int .u8 (d.toNat : Int), .int .i64 bt] 41)).heap.size by simp)
  replace zn := Nat.lt_trans zn (show (w1.alloc (.cells #[.int .u8 (a.toNat : Int), .int .u8 (b.toNat : Int), .int .u8 (c.toNat : Int), .int .u8 (d.toNat : Int), .int .i64 bt] 29)).heap.size < ((w1.alloc (.cells #[.int .u8 (a.toNat : Int), .int .u8 (b.toNat : Int), .int .u8 (c.toNat : Int), .int .u8 (d.toNat : Int), .int .i64 bt] 29)).alloc (.cells #[.int .u8 (a.toNat : Int), .int .u8 (b.toNat : Int), .int .u8 (c.toNat : Int), .int .u8 (d.toNat : Int), .int .i64 bt] 41)).heap.size by simp)
  have zv : w1.heap.size + 1 < ((w1.alloc (.cells #[.int .u8 (a.toNat : Int), .int .u8 (b.toNat : Int), .int .u8 (c.toNat : Int), .int .u8 (d.toNat : Int), .int .i64 bt] 29)).alloc (.cells #[.int .u8 (a.toNat : Int), .int .u8 (b.toNat : Int), .int .u8 (c.toNat : Int), .int .u8 (d.toNat : Int), .int .i64 bt] 41)).heap.size := by simp
  replace bel := bel.alloc bel.size (.cells #[.int .u8 (a.toNat : Int), .int .u8 (b.toNat : Int), .int .u8 (c.toNat : Int), .int .u8 (d.toNat : Int), .int .i64 bt] 41)
  go_wp2_with fail
  clear ya yb ym
  generalize ((w1.alloc (.cells #[.int .u8 (a.toNat : Int), .int .u8 (b.toNat : Int), .int .u8 (c.toNat : Int), .int .u8 (d.toNat : Int), .int .i64 bt] 29)).alloc (.cells #[.int .u8 (a.toNat : Int), .int .u8 (b.toNat : Int), .int .u8 (c.toNat : Int), .int .u8 (d.toNat : Int), .int .i64 bt] 41)) = v0 at ha za hb zb hm zm hn zn hv zv bel ⊢
  clear ca0 ca1 ca2 ca3
  obtain ⟨⟨ca0, ca1, ca2, ca3⟩, _⟩ := cells4 ha
  obtain ⟨⟨cb0, cb1, cb2, cb3⟩, _⟩ := cells4 hb
  obtain ⟨⟨cm0, cm1, cm2, cm3, cm4, cm5⟩, _⟩ := cells6 hm
  obtain ⟨⟨cn0, cn1, cn2, cn3, cn4⟩, _⟩ := cells5 hn
  obtain ⟨⟨cv0, cv1, cv2, cv3, cv4⟩, _⟩ := cells5 hv
  clear ha hb hm hn hv
  refine wp_region_held_drew (S := fun W => W.cell? ⟨w.heap.size, 0, none⟩ = some (.int .u8 (a.toNat : Int)) ∧ W.cell? ⟨w.heap.size, 1, none⟩ = some (.int .u8 (b.toNat : Int)) ∧ W.cell? ⟨w.heap.size, 2, none⟩ = some (.int .u8 (c.toNat : Int)) ∧ W.cell? ⟨w.heap.size, 3, none⟩ = some (.int .u8 (d.toNat : Int)) ∧ W.cell? ⟨w.heap.size + 1, 0, none⟩ = some (.int .u8 (p1.toNat : Int)) ∧ W.cell? ⟨w.heap.size + 1, 1, none⟩ = some (.int .u8 (p2.toNat : Int)) ∧ W.cell? ⟨w.heap.size + 1, 2, none⟩ = some (.int .u8 (p3.toNat : Int)) ∧ W.cell? ⟨w.heap.size + 1, 3, none⟩ = some (.int .u8 (p4.toNat : Int)) ∧ W.cell? ⟨w.heap.size + 1 + 1, 0, none⟩ = some (.int .u8 (m0.toNat : Int)) ∧ W.cell? ⟨w.heap.size + 1 + 1, 1, none⟩ = some (.int .u8 (m1.toNat : Int)) ∧ W.cell? ⟨w.heap.size + 1 + 1, 2, none⟩ = some (.int .u8 (m2.toNat : Int)) ∧ W.cell? ⟨w.heap.size + 1 + 1, 3, none⟩ = some (.int .u8 (m3.toNat : Int)) ∧ W.cell? ⟨w.heap.size + 1 + 1, 4, none⟩ = some (.int .u8 (m4.toNat : Int)) ∧ W.cell? ⟨w.heap.size + 1 + 1, 5, none⟩ = some (.int .u8 (m5.toNat : Int)) ∧ W.cell? ⟨w1.heap.size, 0, none⟩ = some (.int .u8 (a.toNat : Int)) ∧ W.cell? ⟨w1.heap.size, 1, none⟩ = some (.int .u8 (b.toNat : Int)) ∧ W.cell? ⟨w1.heap.size, 2, none⟩ = some (.int .u8 (c.toNat : Int)) ∧ W.cell? ⟨w1.heap.size, 3, none⟩ = some (.int .u8 (d.toNat : Int)) ∧ W.cell? ⟨w1.heap.size, 4, none⟩ = some (.int .i64 bt) ∧ W.cell? ⟨w1.heap.size + 1, 0, none⟩ = some (.int .u8 (a.toNat : Int)) ∧ W.cell? ⟨w1.heap.size + 1, 1, none⟩ = some (.int .u8 (b.toNat : Int)) ∧ W.cell? ⟨w1.heap.size + 1, 2, none⟩ = some (.int .u8 (c.toNat : Int)) ∧ W.cell? ⟨w1.heap.size + 1, 3, none⟩ = some (.int .u8 (d.toNat : Int)) ∧ W.cell? ⟨w1.heap.size + 1, 4, none⟩ = some (.int .i64 bt)) (by kernel_rfl) ⟨ca0, ca1, ca2, ca3, cb0, cb1, cb2, cb3, cm0, cm1, cm2, cm3, cm4, cm5, cn0, cn1, cn2, cn3, cn4, cv0, cv1, cv2, cv3, cv4⟩ (fun hH => ?_)
  refine wpAnyH_take (i := 0) (v := ?_) rfl (by kernel_rfl) (by kernel_rfl) (by kernel_rfl) (fun _ _ _ h => h) (Or.inl ⟨by rfl, ?_⟩) hH ?_
  rotate_left
  · ((intro W hW; obtain ⟨s0, s1, s2, s3, s4, s5, s6, s7, s8, s9, s10, s11, s12, s13, s14, s15, s16, s17, s18, s19, s20, s21, s22, s23⟩ := hW; go_simp) <;> with_reducible rfl)
  simp only [Act.put, List.getElem_toArray, List.getElem_cons_zero, List.setIfInBounds_toArray, List.set_cons_zero, List.set_cons_succ]
  refine wpAnyH_take (i := 1) (v := ?_) rfl (by kernel_rfl) (by kernel_rfl) (by kernel_rfl) (fun _ _ _ h => h) (Or.inl ⟨by rfl, ?_⟩) hH ?_
  rotate_left
  · ((intro W hW; obtain ⟨s0, s1, s2, s3, s4, s5, s6, s7, s8, s9, s10, s11, s12, s13, s14, s15, s16, s17, s18, s19, s20, s21, s22, s23⟩ := hW; go_simp) <;> with_reducible rfl)
  simp only [Act.put, List.getElem_toArray, List.getElem_cons_zero, List.getElem_cons_succ, List.setIfInBounds_toArray, List.set_cons_zero, List.set_cons_succ]
  refine wpAnyH_take (i := 3) (v := ?_) rfl (by kernel_rfl) (by kernel_rfl) (by kernel_rfl) (fun _ _ _ h => h) (Or.inl ⟨by rfl, ?_⟩) hH ?_
  rotate_left
  · ((intro W hW; obtain ⟨s0, s1, s2, s3, s4, s5, s6, s7, s8, s9, s10, s11, s12, s13, s14, s15, s16, s17, s18, s19, s20, s21, s22, s23⟩ := hW; go_simp) <;> with_reducible rfl)
  simp only [Act.put, List.getElem_toArray, List.getElem_cons_zero, List.getElem_cons_succ, List.setIfInBounds_toArray, List.set_cons_zero, List.set_cons_succ]
  refine wpAnyH_take (i := 4) (v := ?_) rfl (by kernel_rfl) (by kernel_rfl) (by kernel_rfl) (fun _ _ _ h => h) (Or.inl ⟨by rfl, ?_⟩) hH ?_
  rotate_left
  · ((intro W hW; obtain ⟨s0, s1, s2, s3, s4, s5, s6, s7, s8, s9, s10, s11, s12, s13, s14, s15, s16, s17, s18, s19, s20, s21, s22, s23⟩ := hW; go_simp) <;> with_reducible rfl)
  simp only [Act.put, List.getElem_toArray, List.getElem_cons_zero, List.getElem_cons_succ, List.setIfInBounds_toArray, List.set_cons_zero, List.set_cons_succ]
  refine wpAnyH_ready (rs := [2]) (by kernel_rfl) (by simp) ?_
  refine AllReadyH.cons (o := _) rfl (fun K hK => ?_) AllReadyH.nil
  simp only [List.getElem_toArray, List.getElem_cons_zero, List.getElem_cons_succ]
  go_simp
  with_reducible refine (H1.out _).mono ?_
  rintro e v11 ⟨rfl, b11⟩
  dsimp only
  have bel11 := bel.drew.trans (b11.mono bel.size)
  refine hK.out _ _ ⟨(b11.cell (p := ⟨_, 0, none⟩) za).trans hH.1, (b11.cell (p := ⟨_, 1, none⟩) za).trans hH.2.1, (b11.cell (p := ⟨_, 2, none⟩) za).trans hH.2.2.1, (b11.cell (p := ⟨_, 3, none⟩) za).trans hH.2.2.2.1, (b11.cell (p := ⟨_, 0, none⟩) zb).trans hH.2.2.2.2.1, (b11.cell (p := ⟨_, 1, none⟩) zb).trans hH.2.2.2.2.2.1, (b11.cell (p := ⟨_, 2, none⟩) zb).trans hH.2.2.2.2.2.2.1, (b11.cell (p := ⟨_, 3, none⟩) zb).trans hH.2.2.2.2.2.2.2.1, (b11.cell (p := ⟨_, 0, none⟩) zm).trans hH.2.2.2.2.2.2.2.2.1, (b11.cell (p := ⟨_, 1, none⟩) zm).trans hH.2.2.2.2.2.2.2.2.2.1, (b11.cell (p := ⟨_, 2, none⟩) zm).trans hH.2.2.2.2.2.2.2.2.2.2.1, (b11.cell (p := ⟨_, 3, none⟩) zm).trans hH.2.2.2.2.2.2.2.2.2.2.2.1, (b11.cell (p := ⟨_, 4, none⟩) zm).trans hH.2.2.2.2.2.2.2.2.2.2.2.2.1, (b11.cell (p := ⟨_, 5, none⟩) zm).trans hH.2.2.2.2.2.2.2.2.2.2.2.2.2.1, (b11.cell (p := ⟨_, 0, none⟩) zn).trans hH.2.2.2.2.2.2.2.2.2.2.2.2.2.2.1, (b11.cell (p := ⟨_, 1, none⟩) zn).trans hH.2.2.2.2.2.2.2.2.2.2.2.2.2.2.2.1, (b11.cell (p := ⟨_, 2, none⟩) zn).trans hH.2.2.2.2.2.2.2.2.2.2.2.2.2.2.2.2.1, (b11.cell (p := ⟨_, 3, none⟩) zn).trans hH.2.2.2.2.2.2.2.2.2.2.2.2.2.2.2.2.2.1, (b11.cell (p := ⟨_, 4, none⟩) zn).trans hH.2.2.2.2.2.2.2.2.2.2.2.2.2.2.2.2.2.2.1, (b11.cell (p := ⟨_, 0, none⟩) zv).trans hH.2.2.2.2.2.2.2.2.2.2.2.2.2.2.2.2.2.2.2.1, (b11.cell (p := ⟨_, 1, none⟩) zv).trans hH.2.2.2.2.2.2.2.2.2.2.2.2.2.2.2.2.2.2.2.2.1, (b11.cell (p := ⟨_, 2, none⟩) zv).trans hH.2.2.2.2.2.2.2.2.2.2.2.2.2.2.2.2.2.2.2.2.2.1, (b11.cell (p := ⟨_, 3, none⟩) zv).trans hH.2.2.2.2.2.2.2.2.2.2.2.2.2.2.2.2.2.2.2.2.2.2.1, (b11.cell (p := ⟨_, 4, none⟩) zv).trans hH.2.2.2.2.2.2.2.2.2.2.2.2.2.2.2.2.2.2.2.2.2.2.2⟩ (fun hH11 => ?_)
  clear hK K
  replace za := Nat.lt_of_lt_of_le za b11.size
  replace zb := Nat.lt_of_lt_of_le zb b11.size
  replace zm := Nat.lt_of_lt_of_le zm b11.size
  replace zn := Nat.lt_of_lt_of_le zn b11.size
  replace zv := Nat.lt_of_lt_of_le zv b11.size
  refine wpAnyH_ready (rs := [5]) (by kernel_rfl) (by simp) ?_
  refine AllReadyH.cons (o := _) rfl (fun K hK => ?_) AllReadyH.nil
  simp only [List.getElem_toArray, List.getElem_cons_zero, List.getElem_cons_succ]
  go_simp
  with_reducible refine (H2.out _).mono ?_
  rintro e v12 ⟨rfl, b12⟩
  dsimp only
  have bel12 := bel11.trans (b12.mono bel11.size)
  refine hK.out _ _ ⟨(b12.cell (p := ⟨_, 0, none⟩) za).trans hH11.1, (b12.cell (p := ⟨_, 1, none⟩) za).trans hH11.2.1, (b12.cell (p := ⟨_, 2, none⟩) za).trans hH11.2.2.1, (b12.cell (p := ⟨_, 3, none⟩) za).trans hH11.2.2.2.1, (b12.cell (p := ⟨_, 0, none⟩) zb).trans hH11.2.2.2.2.1, (b12.cell (p := ⟨_, 1, none⟩) zb).trans hH11.2.2.2.2.2.1, (b12.cell (p := ⟨_, 2, none⟩) zb).trans hH11.2.2.2.2.2.2.1, (b12.cell (p := ⟨_, 3, none⟩) zb).trans hH11.2.2.2.2.2.2.2.1, (b12.cell (p := ⟨_, 0, none⟩) zm).trans hH11.2.2.2.2.2.2.2.2.1, (b12.cell (p := ⟨_, 1, none⟩) zm).trans hH11.2.2.2.2.2.2.2.2.2.1, (b12.cell (p := ⟨_, 2, none⟩) zm).trans hH11.2.2.2.2.2.2.2.2.2.2.1, (b12.cell (p := ⟨_, 3, none⟩) zm).trans hH11.2.2.2.2.2.2.2.2.2.2.2.1, (b12.cell (p := ⟨_, 4, none⟩) zm).trans hH11.2.2.2.2.2.2.2.2.2.2.2.2.1, (b12.cell (p := ⟨_, 5, none⟩) zm).trans hH11.2.2.2.2.2.2.2.2.2.2.2.2.2.1, (b12.cell (p := ⟨_, 0, none⟩) zn).trans hH11.2.2.2.2.2.2.2.2.2.2.2.2.2.2.1, (b12.cell (p := ⟨_, 1, none⟩) zn).trans hH11.2.2.2.2.2.2.2.2.2.2.2.2.2.2.2.1, (b12.cell (p := ⟨_, 2, none⟩) zn).trans hH11.2.2.2.2.2.2.2.2.2.2.2.2.2.2.2.2.1, (b12.cell (p := ⟨_, 3, none⟩) zn).trans hH11.2.2.2.2.2.2.2.2.2.2.2.2.2.2.2.2.2.1, (b12.cell (p := ⟨_, 4, none⟩) zn).trans hH11.2.2.2.2.2.2.2.2.2.2.2.2.2.2.2.2.2.2.1, (b12.cell (p := ⟨_, 0, none⟩) zv).trans hH11.2.2.2.2.2.2.2.2.2.2.2.2.2.2.2.2.2.2.2.1, (b12.cell (p := ⟨_, 1, none⟩) zv).trans hH11.2.2.2.2.2.2.2.2.2.2.2.2.2.2.2.2.2.2.2.2.1, (b12.cell (p := ⟨_, 2, none⟩) zv).trans hH11.2.2.2.2.2.2.2.2.2.2.2.2.2.2.2.2.2.2.2.2.2.1, (b12.cell (p := ⟨_, 3, none⟩) zv).trans hH11.2.2.2.2.2.2.2.2.2.2.2.2.2.2.2.2.2.2.2.2.2.2.1, (b12.cell (p := ⟨_, 4, none⟩) zv).trans hH11.2.2.2.2.2.2.2.2.2.2.2.2.2.2.2.2.2.2.2.2.2.2.2⟩ (fun hH12 => ?_)
  clear hK K
  replace za := Nat.lt_of_lt_of_le za b12.size
  replace zb := Nat.lt_of_lt_of_le zb b12.size
  replace zm := Nat.lt_of_lt_of_le zm b12.size
  replace zn := Nat.lt_of_lt_of_le zn b12.size
  replace zv := Nat.lt_of_lt_of_le zv b12.size
  refine wpAnyH_take (i := 6) (v := ?_) rfl (by kernel_rfl) (by kernel_rfl) (by kernel_rfl) (fun _ _ _ h => h) (Or.inl ⟨by rfl, ?_⟩) hH12 ?_
  rotate_left
  · ((intro W hW; obtain ⟨s0, s1, s2, s3, s4, s5, s6, s7, s8, s9, s10, s11, s12, s13, s14, s15, s16, s17, s18, s19, s20, s21, s22, s23⟩ := hW; go_simp) <;> with_reducible rfl)
  simp only [Act.put, List.getElem_toArray, List.getElem_cons_zero, List.getElem_cons_succ, List.setIfInBounds_toArray, List.set_cons_zero, List.set_cons_succ]
  refine wpAnyH_take (i := 7) (v := ?_) rfl (by kernel_rfl) (by kernel_rfl) (by kernel_rfl) (fun _ _ _ h => h) (Or.inl ⟨by rfl, ?_⟩) hH12 ?_
  rotate_left
  · ((intro W hW; obtain ⟨s0, s1, s2, s3, s4, s5, s6, s7, s8, s9, s10, s11, s12, s13, s14, s15, s16, s17, s18, s19, s20, s21, s22, s23⟩ := hW; go_simp) <;> with_reducible rfl)
  simp only [Act.put, List.getElem_toArray, List.getElem_cons_zero, List.getElem_cons_succ, List.setIfInBounds_toArray, List.set_cons_zero, List.set_cons_succ]
  refine wpAnyH_take (i := 8) (v := ?_) rfl (by kernel_rfl) (by kernel_rfl) (by kernel_rfl) (fun _ _ _ h => h) (Or.inl ⟨by rfl, ?_⟩) hH12 ?_
  rotate_left
  · ((intro W hW; obtain ⟨s0, s1, s2, s3, s4, s5, s6, s7, s8, s9, s10, s11, s12, s13, s14, s15, s16, s17, s18, s19, s20, s21, s22, s23⟩ := hW; go_simp) <;> with_reducible rfl)
  simp only [Act.put, List.getElem_toArray, List.getElem_cons_zero, List.getElem_cons_succ, List.setIfInBounds_toArray, List.set_cons_zero, List.set_cons_succ]
  refine wpAnyH_take (i := 10) (v := ?_) rfl (by kernel_rfl) (by kernel_rfl) (by kernel_rfl) (fun _ _ _ h => h) (Or.inl ⟨by rfl, ?_⟩) hH12 ?_
  rotate_left
  · ((intro W hW; obtain ⟨s0, s1, s2, s3, s4, s5, s6, s7, s8, s9, s10, s11, s12, s13, s14, s15, s16, s17, s18, s19, s20, s21, s22, s23⟩ := hW; go_simp) <;> with_reducible rfl)
  simp only [Act.put, List.getElem_toArray, List.getElem_cons_zero, List.getElem_cons_succ, List.setIfInBounds_toArray, List.set_cons_zero, List.set_cons_succ]
  refine wpAnyH_ready (rs := [9]) (by kernel_rfl) (by simp) ?_
  refine AllReadyH.cons (o := _) rfl (fun K hK => ?_) AllReadyH.nil
  simp only [List.getElem_toArray, List.getElem_cons_zero, List.getElem_cons_succ]
  go_simp
  with_reducible refine (H3.out _).mono ?_
  rintro e v13 ⟨rfl, b13⟩
  dsimp only
  have bel13 := bel12.trans (b13.mono bel12.size)
  refine hK.out _ _ ⟨(b13.cell (p := ⟨_, 0, none⟩) za).trans hH12.1, (b13.cell (p := ⟨_, 1, none⟩) za).trans hH12.2.1, (b13.cell (p := ⟨_, 2, none⟩) za).trans hH12.2.2.1, (b13.cell (p := ⟨_, 3, none⟩) za).trans hH12.2.2.2.1, (b13.cell (p := ⟨_, 0, none⟩) zb).trans hH12.2.2.2.2.1, (b13.cell (p := ⟨_, 1, none⟩) zb).trans hH12.2.2.2.2.2.1, (b13.cell (p := ⟨_, 2, none⟩) zb).trans hH12.2.2.2.2.2.2.1, (b13.cell (p := ⟨_, 3, none⟩) zb).trans hH12.2.2.2.2.2.2.2.1, (b13.cell (p := ⟨_, 0, none⟩) zm).trans hH12.2.2.2.2.2.2.2.2.1, (b13.cell (p := ⟨_, 1, none⟩) zm).trans hH12.2.2.2.2.2.2.2.2.2.1, (b13.cell (p := ⟨_, 2, none⟩) zm).trans hH12.2.2.2.2.2.2.2.2.2.2.1, (b13.cell (p := ⟨_, 3, none⟩) zm).trans hH12.2.2.2.2.2.2.2.2.2.2.2.1, (b13.cell (p := ⟨_, 4, none⟩) zm).trans hH12.2.2.2.2.2.2.2.2.2.2.2.2.1, (b13.cell (p := ⟨_, 5, none⟩) zm).trans hH12.2.2.2.2.2.2.2.2.2.2.2.2.2.1, (b13.cell (p := ⟨_, 0, none⟩) zn).trans hH12.2.2.2.2.2.2.2.2.2.2.2.2.2.2.1, (b13.cell (p := ⟨_, 1, none⟩) zn).trans hH12.2.2.2.2.2.2.2.2.2.2.2.2.2.2.2.1, (b13.cell (p := ⟨_, 2, none⟩) zn).trans hH12.2.2.2.2.2.2.2.2.2.2.2.2.2.2.2.2.1, (b13.cell (p := ⟨_, 3, none⟩) zn).trans hH12.2.2.2.2.2.2.2.2.2.2.2.2.2.2.2.2.2.1, (b13.cell (p := ⟨_, 4, none⟩) zn).trans hH12.2.2.2.2.2.2.2.2.2.2.2.2.2.2.2.2.2.2.1, (b13.cell (p := ⟨_, 0, none⟩) zv).trans hH12.2.2.2.2.2.2.2.2.2.2.2.2.2.2.2.2.2.2.2.1, (b13.cell (p := ⟨_, 1, none⟩) zv).trans hH12.2.2.2.2.2.2.2.2.2.2.2.2.2.2.2.2.2.2.2.2.1, (b13.cell (p := ⟨_, 2, none⟩) zv).trans hH12.2.2.2.2.2.2.2.2.2.2.2.2.2.2.2.2.2.2.2.2.2.1, (b13.cell (p := ⟨_, 3, none⟩) zv).trans hH12.2.2.2.2.2.2.2.2.2.2.2.2.2.2.2.2.2.2.2.2.2.2.1, (b13.cell (p := ⟨_, 4, none⟩) zv).trans hH12.2.2.2.2.2.2.2.2.2.2.2.2.2.2.2.2.2.2.2.2.2.2.2⟩ (fun hH13 => ?_)
  clear hK K
  replace za := Nat.lt_of_lt_of_le za b13.size
  replace zb := Nat.lt_of_lt_of_le zb b13.size
  replace zm := Nat.lt_of_lt_of_le zm b13.size
  replace zn := Nat.lt_of_lt_of_le zn b13.size
  replace zv := Nat.lt_of_lt_of_le zv b13.size
  refine wpAnyH_ready (rs := [11]) (by kernel_rfl) (by simp) ?_
  refine AllReadyH.cons (o := _) rfl (fun K hK => ?_) AllReadyH.nil
  simp only [List.getElem_toArray, List.getElem_cons_zero, List.getElem_cons_succ]
  go_simp
  with_reducible refine (H4.out _).mono ?_
  rintro e v14 ⟨rfl, b14⟩
  dsimp only
  have bel14 := bel13.trans (b14.mono bel13.size)
  refine hK.out _ _ ⟨(b14.cell (p := ⟨_, 0, none⟩) za).trans hH13.1, (b14.cell (p := ⟨_, 1, none⟩) za).trans hH13.2.1, (b14.cell (p := ⟨_, 2, none⟩) za).trans hH13.2.2.1, (b14.cell (p := ⟨_, 3, none⟩) za).trans hH13.2.2.2.1, (b14.cell (p := ⟨_, 0, none⟩) zb).trans hH13.2.2.2.2.1, (b14.cell (p := ⟨_, 1, none⟩) zb).trans hH13.2.2.2.2.2.1, (b14.cell (p := ⟨_, 2, none⟩) zb).trans hH13.2.2.2.2.2.2.1, (b14.cell (p := ⟨_, 3, none⟩) zb).trans hH13.2.2.2.2.2.2.2.1, (b14.cell (p := ⟨_, 0, none⟩) zm).trans hH13.2.2.2.2.2.2.2.2.1, (b14.cell (p := ⟨_, 1, none⟩) zm).trans hH13.2.2.2.2.2.2.2.2.2.1, (b14.cell (p := ⟨_, 2, none⟩) zm).trans hH13.2.2.2.2.2.2.2.2.2.2.1, (b14.cell (p := ⟨_, 3, none⟩) zm).trans hH13.2.2.2.2.2.2.2.2.2.2.2.1, (b14.cell (p := ⟨_, 4, none⟩) zm).trans hH13.2.2.2.2.2.2.2.2.2.2.2.2.1, (b14.cell (p := ⟨_, 5, none⟩) zm).trans hH13.2.2.2.2.2.2.2.2.2.2.2.2.2.1, (b14.cell (p := ⟨_, 0, none⟩) zn).trans hH13.2.2.2.2.2.2.2.2.2.2.2.2.2.2.1, (b14.cell (p := ⟨_, 1, none⟩) zn).trans hH13.2.2.2.2.2.2.2.2.2.2.2.2.2.2.2.1, (b14.cell (p := ⟨_, 2, none⟩) zn).trans hH13.2.2.2.2.2.2.2.2.2.2.2.2.2.2.2.2.1, (b14.cell (p := ⟨_, 3, none⟩) zn).trans hH13.2.2.2.2.2.2.2.2.2.2.2.2.2.2.2.2.2.1, (b14.cell (p := ⟨_, 4, none⟩) zn).trans hH13.2.2.2.2.2.2.2.2.2.2.2.2.2.2.2.2.2.2.1, (b14.cell (p := ⟨_, 0, none⟩) zv).trans hH13.2.2.2.2.2.2.2.2.2.2.2.2.2.2.2.2.2.2.2.1, (b14.cell (p := ⟨_, 1, none⟩) zv).trans hH13.2.2.2.2.2.2.2.2.2.2.2.2.2.2.2.2.2.2.2.2.1, (b14.cell (p := ⟨_, 2, none⟩) zv).trans hH13.2.2.2.2.2.2.2.2.2.2.2.2.2.2.2.2.2.2.2.2.2.1, (b14.cell (p := ⟨_, 3, none⟩) zv).trans hH13.2.2.2.2.2.2.2.2.2.2.2.2.2.2.2.2.2.2.2.2.2.2.1, (b14.cell (p := ⟨_, 4, none⟩) zv).trans hH13.2.2.2.2.2.2.2.2.2.2.2.2.2.2.2.2.2.2.2.2.2.2.2⟩ (fun hH14 => ?_)
  clear hK K
  replace za := Nat.lt_of_lt_of_le za b14.size
  replace zb := Nat.lt_of_lt_of_le zb b14.size
  replace zm := Nat.lt_of_lt_of_le zm b14.size
  replace zn := Nat.lt_of_lt_of_le zn b14.size
  replace zv := Nat.lt_of_lt_of_le zv b14.size
  refine wpAnyH_take (i := 12) (v := ?_) rfl (by kernel_rfl) (by kernel_rfl) (by kernel_rfl) (fun _ _ _ h => h) (Or.inl ⟨by rfl, ?_⟩) hH14 ?_
  rotate_left
  · ((intro W hW; obtain ⟨s0, s1, s2, s3, s4, s5, s6, s7, s8, s9, s10, s11, s12, s13, s14, s15, s16, s17, s18, s19, s20, s21, s22, s23⟩ := hW; go_simp) <;> with_reducible rfl)
  simp only [Act.put, List.getElem_toArray, List.getElem_cons_zero, List.getElem_cons_succ, List.setIfInBounds_toArray, List.set_cons_zero, List.set_cons_succ]
  refine wpAnyH_take (i := 13) (v := ?_) rfl (by kernel_rfl) (by kernel_rfl) (by kernel_rfl) (fun _ _ _ h => h) (Or.inl ⟨by rfl, ?_⟩) hH14 ?_
  rotate_left
  · ((intro W hW; obtain ⟨s0, s1, s2, s3, s4, s5, s6, s7, s8, s9, s10, s11, s12, s13, s14, s15, s16, s17, s18, s19, s20, s21, s22, s23⟩ := hW; go_simp) <;> with_reducible rfl)
  simp only [Act.put, List.getElem_toArray, List.getElem_cons_zero, List.getElem_cons_succ, List.setIfInBounds_toArray, List.set_cons_zero, List.set_cons_succ]
  refine wpAnyH_take (i := 14) (v := ?_) rfl (by kernel_rfl) (by kernel_rfl) (by kernel_rfl) (fun _ _ _ h => h) (Or.inl ⟨by rfl, ?_⟩) hH14 ?_
  rotate_left
  · ((intro W hW; obtain ⟨s0, s1, s2, s3, s4, s5, s6, s7, s8, s9, s10, s11, s12, s13, s14, s15, s16, s17, s18, s19, s20, s21, s22, s23⟩ := hW; go_simp) <;> with_reducible rfl)
  simp only [Act.put, List.getElem_toArray, List.getElem_cons_zero, List.getElem_cons_succ, List.setIfInBounds_toArray, List.set_cons_zero, List.set_cons_succ]
  refine wpAnyH_take (i := 15) (v := ?_) rfl (by kernel_rfl) (by kernel_rfl) (by kernel_rfl) (fun _ _ _ h => h) (Or.inl ⟨by rfl, ?_⟩) hH14 ?_
  rotate_left
  · ((intro W hW; obtain ⟨s0, s1, s2, s3, s4, s5, s6, s7, s8, s9, s10, s11, s12, s13, s14, s15, s16, s17, s18, s19, s20, s21, s22, s23⟩ := hW; go_simp) <;> with_reducible rfl)
  simp only [Act.put, List.getElem_toArray, List.getElem_cons_zero, List.getElem_cons_succ, List.setIfInBounds_toArray, List.set_cons_zero, List.set_cons_succ]
  refine wpAnyH_take (i := 17) (v := ?_) rfl (by kernel_rfl) (by kernel_rfl) (by kernel_rfl) (fun _ _ _ h => h) (Or.inl ⟨by rfl, ?_⟩) hH14 ?_
  rotate_left
  · ((intro W hW; obtain ⟨s0, s1, s2, s3, s4, s5, s6, s7, s8, s9, s10, s11, s12, s13, s14, s15, s16, s17, s18, s19, s20, s21, s22, s23⟩ := hW; go_simp) <;> with_reducible rfl)
  simp only [Act.put, List.getElem_toArray, List.getElem_cons_zero, List.getElem_cons_succ, List.setIfInBounds_toArray, List.set_cons_zero, List.set_cons_succ]
  refine wpAnyH_ready (rs := [16]) (by kernel_rfl) (by simp) ?_
  refine AllReadyH.cons (o := _) rfl (fun K hK => ?_) AllReadyH.nil
  simp only [List.getElem_toArray, List.getElem_cons_zero, List.getElem_cons_succ]
  go_simp
  with_reducible refine (H5.out _).mono ?_
  rintro e v15 ⟨rfl, b15⟩
  dsimp only
  have bel15 := bel14.trans (b15.mono bel14.size)
  refine hK.out _ _ ⟨(b15.cell (p := ⟨_, 0, none⟩) za).trans hH14.1, (b15.cell (p := ⟨_, 1, none⟩) za).trans hH14.2.1, (b15.cell (p := ⟨_, 2, none⟩) za).trans hH14.2.2.1, (b15.cell (p := ⟨_, 3, none⟩) za).trans hH14.2.2.2.1, (b15.cell (p := ⟨_, 0, none⟩) zb).trans hH14.2.2.2.2.1, (b15.cell (p := ⟨_, 1, none⟩) zb).trans hH14.2.2.2.2.2.1, (b15.cell (p := ⟨_, 2, none⟩) zb).trans hH14.2.2.2.2.2.2.1, (b15.cell (p := ⟨_, 3, none⟩) zb).trans hH14.2.2.2.2.2.2.2.1, (b15.cell (p := ⟨_, 0, none⟩) zm).trans hH14.2.2.2.2.2.2.2.2.1, (b15.cell (p := ⟨_, 1, none⟩) zm).trans hH14.2.2.2.2.2.2.2.2.2.1, (b15.cell (p := ⟨_, 2, none⟩) zm).trans hH14.2.2.2.2.2.2.2.2.2.2.1, (b15.cell (p := ⟨_, 3, none⟩) zm).trans hH14.2.2.2.2.2.2.2.2.2.2.2.1, (b15.cell (p := ⟨_, 4, none⟩) zm).trans hH14.2.2.2.2.2.2.2.2.2.2.2.2.1, (b15.cell (p := ⟨_, 5, none⟩) zm).trans hH14.2.2.2.2.2.2.2.2.2.2.2.2.2.1, (b15.cell (p := ⟨_, 0, none⟩) zn).trans hH14.2.2.2.2.2.2.2.2.2.2.2.2.2.2.1, (b15.cell (p := ⟨_, 1, none⟩) zn).trans hH14.2.2.2.2.2.2.2.2.2.2.2.2.2.2.2.1, (b15.cell (p := ⟨_, 2, none⟩) zn).trans hH14.2.2.2.2.2.2.2.2.2.2.2.2.2.2.2.2.1, (b15.cell (p := ⟨_, 3, none⟩) zn).trans hH14.2.2.2.2.2.2.2.2.2.2.2.2.2.2.2.2.2.1, (b15.cell (p := ⟨_, 4, none⟩) zn).trans hH14.2.2.2.2.2.2.2.2.2.2.2.2.2.2.2.2.2.2.1, (b15.cell (p := ⟨_, 0, none⟩) zv).trans hH14.2.2.2.2.2.2.2.2.2.2.2.2.2.2.2.2.2.2.2.1, (b15.cell (p := ⟨_, 1, none⟩) zv).trans hH14.2.2.2.2.2.2.2.2.2.2.2.2.2.2.2.2.2.2.2.2.1, (b15.cell (p := ⟨_, 2, none⟩) zv).trans hH14.2.2.2.2.2.2.2.2.2.2.2.2.2.2.2.2.2.2.2.2.2.1, (b15.cell (p := ⟨_, 3, none⟩) zv).trans hH14.2.2.2.2.2.2.2.2.2.2.2.2.2.2.2.2.2.2.2.2.2.2.1, (b15.cell (p := ⟨_, 4, none⟩) zv).trans hH14.2.2.2.2.2.2.2.2.2.2.2.2.2.2.2.2.2.2.2.2.2.2.2⟩ (fun hH15 => ?_)
  clear hK K
  replace za := Nat.lt_of_lt_of_le za b15.size
  replace zb := Nat.lt_of_lt_of_le zb b15.size
  replace zm := Nat.lt_of_lt_of_le zm b15.size
  replace zn := Nat.lt_of_lt_of_le zn b15.size
  replace zv := Nat.lt_of_lt_of_le zv b15.size
  refine wpAnyH_ready (rs := [18]) (by kernel_rfl) (by simp) ?_
  refine AllReadyH.cons (o := _) rfl (fun K hK => ?_) AllReadyH.nil
  simp only [List.getElem_toArray, List.getElem_cons_zero, List.getElem_cons_succ]
  go_simp
  with_reducible refine (H6.out _).mono ?_
  rintro e v16 ⟨rfl, b16⟩
  dsimp only
  have bel16 := bel15.trans (b16.mono bel15.size)
  refine hK.out _ _ ⟨(b16.cell (p := ⟨_, 0, none⟩) za).trans hH15.1, (b16.cell (p := ⟨_, 1, none⟩) za).trans hH15.2.1, (b16.cell (p := ⟨_, 2, none⟩) za).trans hH15.2.2.1, (b16.cell (p := ⟨_, 3, none⟩) za).trans hH15.2.2.2.1, (b16.cell (p := ⟨_, 0, none⟩) zb).trans hH15.2.2.2.2.1, (b16.cell (p := ⟨_, 1, none⟩) zb).trans hH15.2.2.2.2.2.1, (b16.cell (p := ⟨_, 2, none⟩) zb).trans hH15.2.2.2.2.2.2.1, (b16.cell (p := ⟨_, 3, none⟩) zb).trans hH15.2.2.2.2.2.2.2.1, (b16.cell (p := ⟨_, 0, none⟩) zm).trans hH15.2.2.2.2.2.2.2.2.1, (b16.cell (p := ⟨_, 1, none⟩) zm).trans hH15.2.2.2.2.2.2.2.2.2.1, (b16.cell (p := ⟨_, 2, none⟩) zm).trans hH15.2.2.2.2.2.2.2.2.2.2.1, (b16.cell (p := ⟨_, 3, none⟩) zm).trans hH15.2.2.2.2.2.2.2.2.2.2.2.1, (b16.cell (p := ⟨_, 4, none⟩) zm).trans hH15.2.2.2.2.2.2.2.2.2.2.2.2.1, (b16.cell (p := ⟨_, 5, none⟩) zm).trans hH15.2.2.2.2.2.2.2.2.2.2.2.2.2.1, (b16.cell (p := ⟨_, 0, none⟩) zn).trans hH15.2.2.2.2.2.2.2.2.2.2.2.2.2.2.1, (b16.cell (p := ⟨_, 1, none⟩) zn).trans hH15.2.2.2.2.2.2.2.2.2.2.2.2.2.2.2.1, (b16.cell (p := ⟨_, 2, none⟩) zn).trans hH15.2.2.2.2.2.2.2.2.2.2.2.2.2.2.2.2.1, (b16.cell (p := ⟨_, 3, none⟩) zn).trans hH15.2.2.2.2.2.2.2.2.2.2.2.2.2.2.2.2.2.1, (b16.cell (p := ⟨_, 4, none⟩) zn).trans hH15.2.2.2.2.2.2.2.2.2.2.2.2.2.2.2.2.2.2.1, (b16.cell (p := ⟨_, 0, none⟩) zv).trans hH15.2.2.2.2.2.2.2.2.2.2.2.2.2.2.2.2.2.2.2.1, (b16.cell (p := ⟨_, 1, none⟩) zv).trans hH15.2.2.2.2.2.2.2.2.2.2.2.2.2.2.2.2.2.2.2.2.1, (b16.cell (p := ⟨_, 2, none⟩) zv).trans hH15.2.2.2.2.2.2.2.2.2.2.2.2.2.2.2.2.2.2.2.2.2.1, (b16.cell (p := ⟨_, 3, none⟩) zv).trans hH15.2.2.2.2.2.2.2.2.2.2.2.2.2.2.2.2.2.2.2.2.2.2.1, (b16.cell (p := ⟨_, 4, none⟩) zv).trans hH15.2.2.2.2.2.2.2.2.2.2.2.2.2.2.2.2.2.2.2.2.2.2.2⟩ (fun hH16 => ?_)
  clear hK K
  replace za := Nat.lt_of_lt_of_le za b16.size
  replace zb := Nat.lt_of_lt_of_le zb b16.size
  replace zm := Nat.lt_of_lt_of_le zm b16.size
  replace zn := Nat.lt_of_lt_of_le zn b16.size
  replace zv := Nat.lt_of_lt_of_le zv b16.size
  refine wpAnyH_take (i := 19) (v := ?_) rfl (by kernel_rfl) (by kernel_rfl) (by kernel_rfl) (fun _ _ _ h => h) (Or.inl ⟨by rfl, ?_⟩) hH16 ?_
  rotate_left
  · ((intro W hW; obtain ⟨s0, s1, s2, s3, s4, s5, s6, s7, s8, s9, s10, s11, s12, s13, s14, s15, s16, s17, s18, s19, s20, s21, s22, s23⟩ := hW; go_simp) <;> with_reducible rfl)
  simp only [Act.put, List.getElem_toArray, List.getElem_cons_zero, List.getElem_cons_succ, List.setIfInBounds_toArray, List.set_cons_zero, List.set_cons_succ]
  refine wpAnyH_take (i := 20) (v := ?_) rfl (by kernel_rfl) (by kernel_rfl) (by kernel_rfl) (fun _ _ _ h => h) (Or.inl ⟨by rfl, ?_⟩) hH16 ?_
  rotate_left
  · ((intro W hW; obtain ⟨s0, s1, s2, s3, s4, s5, s6, s7, s8, s9, s10, s11, s12, s13, s14, s15, s16, s17, s18, s19, s20, s21, s22, s23⟩ := hW; go_simp) <;> with_reducible rfl)
  simp only [Act.put, List.getElem_toArray, List.getElem_cons_zero, List.getElem_cons_succ, List.setIfInBounds_toArray, List.set_cons_zero, List.set_cons_succ]
  refine wpAnyH_take (i := 21) (v := ?_) rfl (by kernel_rfl) (by kernel_rfl) (by kernel_rfl) (fun _ _ _ h => h) (Or.inl ⟨by rfl, ?_⟩) hH16 ?_
  rotate_left
  · ((intro W hW; obtain ⟨s0, s1, s2, s3, s4, s5, s6, s7, s8, s9, s10, s11, s12, s13, s14, s15, s16, s17, s18, s19, s20, s21, s22, s23⟩ := hW; go_simp) <;> with_reducible rfl)
  simp only [Act.put, List.getElem_toArray, List.getElem_cons_zero, List.getElem_cons_succ, List.setIfInBounds_toArray, List.set_cons_zero, List.set_cons_succ]
  refine wpAnyH_take (i := 22) (v := ?_) rfl (by kernel_rfl) (by kernel_rfl) (by kernel_rfl) (fun _ _ _ h => h) (Or.inl ⟨by rfl, ?_⟩) hH16 ?_
  rotate_left
  · ((intro W hW; obtain ⟨s0, s1, s2, s3, s4, s5, s6, s7, s8, s9, s10, s11, s12, s13, s14, s15, s16, s17, s18, s19, s20, s21, s22, s23⟩ := hW; go_simp) <;> with_reducible rfl)
  simp only [Act.put, List.getElem_toArray, List.getElem_cons_zero, List.getElem_cons_succ, List.setIfInBounds_toArray, List.set_cons_zero, List.set_cons_succ]
  refine wpAnyH_take (i := 24) (v := ?_) rfl (by kernel_rfl) (by kernel_rfl) (by kernel_rfl) (fun _ _ _ h => h) (Or.inl ⟨by rfl, ?_⟩) hH16 ?_
  rotate_left
  · ((intro W hW; obtain ⟨s0, s1, s2, s3, s4, s5, s6, s7, s8, s9, s10, s11, s12, s13, s14, s15, s16, s17, s18, s19, s20, s21, s22, s23⟩ := hW; go_simp) <;> with_reducible rfl)
  simp only [Act.put, List.getElem_toArray, List.getElem_cons_zero, List.getElem_cons_succ, List.setIfInBounds_toArray, List.set_cons_zero, List.set_cons_succ]
  refine wpAnyH_ready (rs := [23]) (by kernel_rfl) (by simp) ?_
  refine AllReadyH.cons (o := _) rfl (fun K hK => ?_) AllReadyH.nil
  simp only [List.getElem_toArray, List.getElem_cons_zero, List.getElem_cons_succ]
  go_simp
  with_reducible refine (H7.out _ (HT.out.below bel16)).mono ?_
  rintro e v17 ⟨rfl, b17⟩
  dsimp only
  have bel17 := bel16.trans (b17.mono bel16.size)
  refine hK.out _ _ ⟨(b17.cell (p := ⟨_, 0, none⟩) za).trans hH16.1, (b17.cell (p := ⟨_, 1, none⟩) za).trans hH16.2.1, (b17.cell (p := ⟨_, 2, none⟩) za).trans hH16.2.2.1, (b17.cell (p := ⟨_, 3, none⟩) za).trans hH16.2.2.2.1, (b17.cell (p := ⟨_, 0, none⟩) zb).trans hH16.2.2.2.2.1, (b17.cell (p := ⟨_, 1, none⟩) zb).trans hH16.2.2.2.2.2.1, (b17.cell (p := ⟨_, 2, none⟩) zb).trans hH16.2.2.2.2.2.2.1, (b17.cell (p := ⟨_, 3, none⟩) zb).trans hH16.2.2.2.2.2.2.2.1, (b17.cell (p := ⟨_, 0, none⟩) zm).trans hH16.2.2.2.2.2.2.2.2.1, (b17.cell (p := ⟨_, 1, none⟩) zm).trans hH16.2.2.2.2.2.2.2.2.2.1, (b17.cell (p := ⟨_, 2, none⟩) zm).trans hH16.2.2.2.2.2.2.2.2.2.2.1, (b17.cell (p := ⟨_, 3, none⟩) zm).trans hH16.2.2.2.2.2.2.2.2.2.2.2.1, (b17.cell (p := ⟨_, 4, none⟩) zm).trans hH16.2.2.2.2.2.2.2.2.2.2.2.2.1, (b17.cell (p := ⟨_, 5, none⟩) zm).trans hH16.2.2.2.2.2.2.2.2.2.2.2.2.2.1, (b17.cell (p := ⟨_, 0, none⟩) zn).trans hH16.2.2.2.2.2.2.2.2.2.2.2.2.2.2.1, (b17.cell (p := ⟨_, 1, none⟩) zn).trans hH16.2.2.2.2.2.2.2.2.2.2.2.2.2.2.2.1, (b17.cell (p := ⟨_, 2, none⟩) zn).trans hH16.2.2.2.2.2.2.2.2.2.2.2.2.2.2.2.2.1, (b17.cell (p := ⟨_, 3, none⟩) zn).trans hH16.2.2.2.2.2.2.2.2.2.2.2.2.2.2.2.2.2.1, (b17.cell (p := ⟨_, 4, none⟩) zn).trans hH16.2.2.2.2.2.2.2.2.2.2.2.2.2.2.2.2.2.2.1, (b17.cell (p := ⟨_, 0, none⟩) zv).trans hH16.2.2.2.2.2.2.2.2.2.2.2.2.2.2.2.2.2.2.2.1, (b17.cell (p := ⟨_, 1, none⟩) zv).trans hH16.2.2.2.2.2.2.2.2.2.2.2.2.2.2.2.2.2.2.2.2.1, (b17.cell (p := ⟨_, 2, none⟩) zv).trans hH16.2.2.2.2.2.2.2.2.2.2.2.2.2.2.2.2.2.2.2.2.2.1, (b17.cell (p := ⟨_, 3, none⟩) zv).trans hH16.2.2.2.2.2.2.2.2.2.2.2.2.2.2.2.2.2.2.2.2.2.2.1, (b17.cell (p := ⟨_, 4, none⟩) zv).trans hH16.2.2.2.2.2.2.2.2.2.2.2.2.2.2.2.2.2.2.2.2.2.2.2⟩ (fun hH17 => ?_)
  clear hK K
  replace za := Nat.lt_of_lt_of_le za b17.size
  replace zb := Nat.lt_of_lt_of_le zb b17.size
  replace zm := Nat.lt_of_lt_of_le zm b17.size
  replace zn := Nat.lt_of_lt_of_le zn b17.size
  replace zv := Nat.lt_of_lt_of_le zv b17.size
  refine wpAnyH_ready (rs := [25]) (by kernel_rfl) (by simp) ?_
  refine AllReadyH.cons (o := _) rfl (fun K hK => ?_) AllReadyH.nil
  simp only [List.getElem_toArray, List.getElem_cons_zero, List.getElem_cons_succ]
  go_simp
  with_reducible refine (H8.out _).mono ?_
  rintro e v18 ⟨rfl, b18⟩
  dsimp only
  have bel18 := bel17.trans (b18.mono bel17.size)
  refine hK.out _ _ ⟨(b18.cell (p := ⟨_, 0, none⟩) za).trans hH17.1, (b18.cell (p := ⟨_, 1, none⟩) za).trans hH17.2.1, (b18.cell (p := ⟨_, 2, none⟩) za).trans hH17.2.2.1, (b18.cell (p := ⟨_, 3, none⟩) za).trans hH17.2.2.2.1, (b18.cell (p := ⟨_, 0, none⟩) zb).trans hH17.2.2.2.2.1, (b18.cell (p := ⟨_, 1, none⟩) zb).trans hH17.2.2.2.2.2.1, (b18.cell (p := ⟨_, 2, none⟩) zb).trans hH17.2.2.2.2.2.2.1, (b18.cell (p := ⟨_, 3, none⟩) zb).trans hH17.2.2.2.2.2.2.2.1, (b18.cell (p := ⟨_, 0, none⟩) zm).trans hH17.2.2.2.2.2.2.2.2.1, (b18.cell (p := ⟨_, 1, none⟩) zm).trans hH17.2.2.2.2.2.2.2.2.2.1, (b18.cell (p := ⟨_, 2, none⟩) zm).trans hH17.2.2.2.2.2.2.2.2.2.2.1, (b18.cell (p := ⟨_, 3, none⟩) zm).trans hH17.2.2.2.2.2.2.2.2.2.2.2.1, (b18.cell (p := ⟨_, 4, none⟩) zm).trans hH17.2.2.2.2.2.2.2.2.2.2.2.2.1, (b18.cell (p := ⟨_, 5, none⟩) zm).trans hH17.2.2.2.2.2.2.2.2.2.2.2.2.2.1, (b18.cell (p := ⟨_, 0, none⟩) zn).trans hH17.2.2.2.2.2.2.2.2.2.2.2.2.2.2.1, (b18.cell (p := ⟨_, 1, none⟩) zn).trans hH17.2.2.2.2.2.2.2.2.2.2.2.2.2.2.2.1, (b18.cell (p := ⟨_, 2, none⟩) zn).trans hH17.2.2.2.2.2.2.2.2.2.2.2.2.2.2.2.2.1, (b18.cell (p := ⟨_, 3, none⟩) zn).trans hH17.2.2.2.2.2.2.2.2.2.2.2.2.2.2.2.2.2.1, (b18.cell (p := ⟨_, 4, none⟩) zn).trans hH17.2.2.2.2.2.2.2.2.2.2.2.2.2.2.2.2.2.2.1, (b18.cell (p := ⟨_, 0, none⟩) zv).trans hH17.2.2.2.2.2.2.2.2.2.2.2.2.2.2.2.2.2.2.2.1, (b18.cell (p := ⟨_, 1, none⟩) zv).trans hH17.2.2.2.2.2.2.2.2.2.2.2.2.2.2.2.2.2.2.2.2.1, (b18.cell (p := ⟨_, 2, none⟩) zv).trans hH17.2.2.2.2.2.2.2.2.2.2.2.2.2.2.2.2.2.2.2.2.2.1, (b18.cell (p := ⟨_, 3, none⟩) zv).trans hH17.2.2.2.2.2.2.2.2.2.2.2.2.2.2.2.2.2.2.2.2.2.2.1, (b18.cell (p := ⟨_, 4, none⟩) zv).trans hH17.2.2.2.2.2.2.2.2.2.2.2.2.2.2.2.2.2.2.2.2.2.2.2⟩ (fun hH18 => ?_)
  clear hK K
  replace za := Nat.lt_of_lt_of_le za b18.size
  replace zb := Nat.lt_of_lt_of_le zb b18.size
  replace zm := Nat.lt_of_lt_of_le zm b18.size
  replace zn := Nat.lt_of_lt_of_le zn b18.size
  replace zv := Nat.lt_of_lt_of_le zv b18.size
  refine wpAnyH_take (i := 26) (v := ?_) rfl (by kernel_rfl) (by kernel_rfl) (by kernel_rfl) (fun _ _ _ h => h) (Or.inl ⟨by rfl, ?_⟩) hH18 ?_
  rotate_left
  · ((intro W hW; obtain ⟨s0, s1, s2, s3, s4, s5, s6, s7, s8, s9, s10, s11, s12, s13, s14, s15, s16, s17, s18, s19, s20, s21, s22, s23⟩ := hW; go_simp) <;> with_reducible rfl)
  simp only [Act.put, List.getElem_toArray, List.getElem_cons_zero, List.getElem_cons_succ, List.setIfInBounds_toArray, List.set_cons_zero, List.set_cons_succ]
  refine wpAnyH_take (i := 27) (v := ?_) rfl (by kernel_rfl) (by kernel_rfl) (by kernel_rfl) (fun _ _ _ h => h) (Or.inl ⟨by rfl, ?_⟩) hH18 ?_
  rotate_left
  · ((intro W hW; obtain ⟨s0, s1, s2, s3, s4, s5, s6, s7, s8, s9, s10, s11, s12, s13, s14, s15, s16, s17, s18, s19, s20, s21, s22, s23⟩ := hW; go_simp) <;> with_reducible rfl)
  simp only [Act.put, List.getElem_toArray, List.getElem_cons_zero, List.getElem_cons_succ, List.setIfInBounds_toArray, List.set_cons_zero, List.set_cons_succ]
  refine wpAnyH_take (i := 28) (v := ?_) rfl (by kernel_rfl) (by kernel_rfl) (by kernel_rfl) (fun _ _ _ h => h) (Or.inl ⟨by rfl, ?_⟩) hH18 ?_
  rotate_left
  · ((intro W hW; obtain ⟨s0, s1, s2, s3, s4, s5, s6, s7, s8, s9, s10, s11, s12, s13, s14, s15, s16, s17, s18, s19, s20, s21, s22, s23⟩ := hW; go_simp) <;> with_reducible rfl)
  simp only [Act.put, List.getElem_toArray, List.getElem_cons_zero, List.getElem_cons_succ, List.setIfInBounds_toArray, List.set_cons_zero, List.set_cons_succ]
  refine wpAnyH_take (i := 29) (v := ?_) rfl (by kernel_rfl) (by kernel_rfl) (by kernel_rfl) (fun _ _ _ h => h) (Or.inl ⟨by rfl, ?_⟩) hH18 ?_
  rotate_left
  · ((intro W hW; obtain ⟨s0, s1, s2, s3, s4, s5, s6, s7, s8, s9, s10, s11, s12, s13, s14, s15, s16, s17, s18, s19, s20, s21, s22, s23⟩ := hW; go_simp) <;> with_reducible rfl)
  simp only [Act.put, List.getElem_toArray, List.getElem_cons_zero, List.getElem_cons_succ, List.setIfInBounds_toArray, List.set_cons_zero, List.set_cons_succ]
  refine wpAnyH_take (i := 31) (v := ?_) rfl (by kernel_rfl) (by kernel_rfl) (by kernel_rfl) (fun _ _ _ h => h) (Or.inl ⟨by rfl, ?_⟩) hH18 ?_
  rotate_left
  · ((intro W hW; obtain ⟨s0, s1, s2, s3, s4, s5, s6, s7, s8, s9, s10, s11, s12, s13, s14, s15, s16, s17, s18, s19, s20, s21, s22, s23⟩ := hW; go_simp) <;> with_reducible rfl)
  simp only [Act.put, List.getElem_toArray, List.getElem_cons_zero, List.getElem_cons_succ, List.setIfInBounds_toArray, List.set_cons_zero, List.set_cons_succ]
  refine wpAnyH_ready (rs := [30]) (by kernel_rfl) (by simp) ?_
  refine AllReadyH.cons (o := _) rfl (fun K hK => ?_) AllReadyH.nil
  simp only [List.getElem_toArray, List.getElem_cons_zero, List.getElem_cons_succ]
  go_simp
  with_reducible refine (H9.out _).mono ?_
  rintro e v19 ⟨rfl, b19⟩
  dsimp only
  have bel19 := bel18.trans (b19.mono bel18.size)
  refine hK.out _ _ ⟨(b19.cell (p := ⟨_, 0, none⟩) za).trans hH18.1, (b19.cell (p := ⟨_, 1, none⟩) za).trans hH18.2.1, (b19.cell (p := ⟨_, 2, none⟩) za).trans hH18.2.2.1, (b19.cell (p := ⟨_, 3, none⟩) za).trans hH18.2.2.2.1, (b19.cell (p := ⟨_, 0, none⟩) zb).trans hH18.2.2.2.2.1, (b19.cell (p := ⟨_, 1, none⟩) zb).trans hH18.2.2.2.2.2.1, (b19.cell (p := ⟨_, 2, none⟩) zb).trans hH18.2.2.2.2.2.2.1, (b19.cell (p := ⟨_, 3, none⟩) zb).trans hH18.2.2.2.2.2.2.2.1, (b19.cell (p := ⟨_, 0, none⟩) zm).trans hH18.2.2.2.2.2.2.2.2.1, (b19.cell (p := ⟨_, 1, none⟩) zm).trans hH18.2.2.2.2.2.2.2.2.2.1, (b19.cell (p := ⟨_, 2, none⟩) zm).trans hH18.2.2.2.2.2.2.2.2.2.2.1, (b19.cell (p := ⟨_, 3, none⟩) zm).trans hH18.2.2.2.2.2.2.2.2.2.2.2.1, (b19.cell (p := ⟨_, 4, none⟩) zm).trans hH18.2.2.2.2.2.2.2.2.2.2.2.2.1, (b19.cell (p := ⟨_, 5, none⟩) zm).trans hH18.2.2.2.2.2.2.2.2.2.2.2.2.2.1, (b19.cell (p := ⟨_, 0, none⟩) zn).trans hH18.2.2.2.2.2.2.2.2.2.2.2.2.2.2.1, (b19.cell (p := ⟨_, 1, none⟩) zn).trans hH18.2.2.2.2.2.2.2.2.2.2.2.2.2.2.2.1, (b19.cell (p := ⟨_, 2, none⟩) zn).trans hH18.2.2.2.2.2.2.2.2.2.2.2.2.2.2.2.2.1, (b19.cell (p := ⟨_, 3, none⟩) zn).trans hH18.2.2.2.2.2.2.2.2.2.2.2.2.2.2.2.2.2.1, (b19.cell (p := ⟨_, 4, none⟩) zn).trans hH18.2.2.2.2.2.2.2.2.2.2.2.2.2.2.2.2.2.2.1, (b19.cell (p := ⟨_, 0, none⟩) zv).trans hH18.2.2.2.2.2.2.2.2.2.2.2.2.2.2.2.2.2.2.2.1, (b19.cell (p := ⟨_, 1, none⟩) zv).trans hH18.2.2.2.2.2.2.2.2.2.2.2.2.2.2.2.2.2.2.2.2.1, (b19.cell (p := ⟨_, 2, none⟩) zv).trans hH18.2.2.2.2.2.2.2.2.2.2.2.2.2.2.2.2.2.2.2.2.2.1, (b19.cell (p := ⟨_, 3, none⟩) zv).trans hH18.2.2.2.2.2.2.2.2.2.2.2.2.2.2.2.2.2.2.2.2.2.2.1, (b19.cell (p := ⟨_, 4, none⟩) zv).trans hH18.2.2.2.2.2.2.2.2.2.2.2.2.2.2.2.2.2.2.2.2.2.2.2⟩ (fun hH19 => ?_)
  clear hK K
  replace za := Nat.lt_of_lt_of_le za b19.size
  replace zb := Nat.lt_of_lt_of_le zb b19.size
  replace zm := Nat.lt_of_lt_of_le zm b19.size
  replace zn := Nat.lt_of_lt_of_le zn b19.size
  replace zv := Nat.lt_of_lt_of_le zv b19.size
  refine wpAnyH_ready (rs := [32]) (by kernel_rfl) (by simp) ?_
  refine AllReadyH.cons (o := _) rfl (fun K hK => ?_) AllReadyH.nil
  simp only [List.getElem_toArray, List.getElem_cons_zero, List.getElem_cons_succ]
  go_simp
  with_reducible refine (H10.out _).mono ?_
  rintro e v20 ⟨rfl, b20⟩
  dsimp only
  have bel20 := bel19.trans (b20.mono bel19.size)
  refine hK.out _ _ ⟨(b20.cell (p := ⟨_, 0, none⟩) za).trans hH19.1, (b20.cell (p := ⟨_, 1, none⟩) za).trans hH19.2.1, (b20.cell (p := ⟨_, 2, none⟩) za).trans hH19.2.2.1, (b20.cell (p := ⟨_, 3, none⟩) za).trans hH19.2.2.2.1, (b20.cell (p := ⟨_, 0, none⟩) zb).trans hH19.2.2.2.2.1, (b20.cell (p := ⟨_, 1, none⟩) zb).trans hH19.2.2.2.2.2.1, (b20.cell (p := ⟨_, 2, none⟩) zb).trans hH19.2.2.2.2.2.2.1, (b20.cell (p := ⟨_, 3, none⟩) zb).trans hH19.2.2.2.2.2.2.2.1, (b20.cell (p := ⟨_, 0, none⟩) zm).trans hH19.2.2.2.2.2.2.2.2.1, (b20.cell (p := ⟨_, 1, none⟩) zm).trans hH19.2.2.2.2.2.2.2.2.2.1, (b20.cell (p := ⟨_, 2, none⟩) zm).trans hH19.2.2.2.2.2.2.2.2.2.2.1, (b20.cell (p := ⟨_, 3, none⟩) zm).trans hH19.2.2.2.2.2.2.2.2.2.2.2.1, (b20.cell (p := ⟨_, 4, none⟩) zm).trans hH19.2.2.2.2.2.2.2.2.2.2.2.2.1, (b20.cell (p := ⟨_, 5, none⟩) zm).trans hH19.2.2.2.2.2.2.2.2.2.2.2.2.2.1, (b20.cell (p := ⟨_, 0, none⟩) zn).trans hH19.2.2.2.2.2.2.2.2.2.2.2.2.2.2.1, (b20.cell (p := ⟨_, 1, none⟩) zn).trans hH19.2.2.2.2.2.2.2.2.2.2.2.2.2.2.2.1, (b20.cell (p := ⟨_, 2, none⟩) zn).trans hH19.2.2.2.2.2.2.2.2.2.2.2.2.2.2.2.2.1, (b20.cell (p := ⟨_, 3, none⟩) zn).trans hH19.2.2.2.2.2.2.2.2.2.2.2.2.2.2.2.2.2.1, (b20.cell (p := ⟨_, 4, none⟩) zn).trans hH19.2.2.2.2.2.2.2.2.2.2.2.2.2.2.2.2.2.2.1, (b20.cell (p := ⟨_, 0, none⟩) zv).trans hH19.2.2.2.2.2.2.2.2.2.2.2.2.2.2.2.2.2.2.2.1, (b20.cell (p := ⟨_, 1, none⟩) zv).trans hH19.2.2.2.2.2.2.2.2.2.2.2.2.2.2.2.2.2.2.2.2.1, (b20.cell (p := ⟨_, 2, none⟩) zv).trans hH19.2.2.2.2.2.2.2.2.2.2.2.2.2.2.2.2.2.2.2.2.2.1, (b20.cell (p := ⟨_, 3, none⟩) zv).trans hH19.2.2.2.2.2.2.2.2.2.2.2.2.2.2.2.2.2.2.2.2.2.2.1, (b20.cell (p := ⟨_, 4, none⟩) zv).trans hH19.2.2.2.2.2.2.2.2.2.2.2.2.2.2.2.2.2.2.2.2.2.2.2⟩ (fun hH20 => ?_)
  clear hK K
  replace za := Nat.lt_of_lt_of_le za b20.size
  replace zb := Nat.lt_of_lt_of_le zb b20.size
  replace zm := Nat.lt_of_lt_of_le zm b20.size
  replace zn := Nat.lt_of_lt_of_le zn b20.size
  replace zv := Nat.lt_of_lt_of_le zv b20.size
  refine wpAnyH_take (i := 33) (v := ?_) rfl (by kernel_rfl) (by kernel_rfl) (by kernel_rfl) (fun _ _ _ h => h) (Or.inl ⟨by rfl, ?_⟩) hH20 ?_
  rotate_left
  · ((intro W hW; obtain ⟨s0, s1, s2, s3, s4, s5, s6, s7, s8, s9, s10, s11, s12, s13, s14, s15, s16, s17, s18, s19, s20, s21, s22, s23⟩ := hW; go_simp) <;> with_reducible rfl)
  simp only [Act.put, List.getElem_toArray, List.getElem_cons_zero, List.getElem_cons_succ, List.setIfInBounds_toArray, List.set_cons_zero, List.set_cons_succ]
  refine wpAnyH_take (i := 34) (v := ?_) rfl (by kernel_rfl) (by kernel_rfl) (by kernel_rfl) (fun _ _ _ h => h) (Or.inl ⟨by rfl, ?_⟩) hH20 ?_
  rotate_left
  · ((intro W hW; obtain ⟨s0, s1, s2, s3, s4, s5, s6, s7, s8, s9, s10, s11, s12, s13, s14, s15, s16, s17, s18, s19, s20, s21, s22, s23⟩ := hW; go_simp) <;> with_reducible rfl)
  simp only [Act.put, List.getElem_toArray, List.getElem_cons_zero, List.getElem_cons_succ, List.setIfInBounds_toArray, List.set_cons_zero, List.set_cons_succ]
  refine wpAnyH_take (i := 35) (v := ?_) rfl (by kernel_rfl) (by kernel_rfl) (by kernel_rfl) (fun _ _ _ h => h) (Or.inl ⟨by rfl, ?_⟩) hH20 ?_
  rotate_left
  · ((intro W hW; obtain ⟨s0, s1, s2, s3, s4, s5, s6, s7, s8, s9, s10, s11, s12, s13, s14, s15, s16, s17, s18, s19, s20, s21, s22, s23⟩ := hW; go_simp) <;> with_reducible rfl)
  simp only [Act.put, List.getElem_toArray, List.getElem_cons_zero, List.getElem_cons_succ, List.setIfInBounds_toArray, List.set_cons_zero, List.set_cons_succ]
  refine wpAnyH_take (i := 36) (v := ?_) rfl (by kernel_rfl) (by kernel_rfl) (by kernel_rfl) (fun _ _ _ h => h) (Or.inl ⟨by rfl, ?_⟩) hH20 ?_
  rotate_left
  · ((intro W hW; obtain ⟨s0, s1, s2, s3, s4, s5, s6, s7, s8, s9, s10, s11, s12, s13, s14, s15, s16, s17, s18, s19, s20, s21, s22, s23⟩ := hW; go_simp) <;> with_reducible rfl)
  simp only [Act.put, List.getElem_toArray, List.getElem_cons_zero, List.getElem_cons_succ, List.setIfInBounds_toArray, List.set_cons_zero, List.set_cons_succ]
  refine wpAnyH_take (i := 38) (v := ?_) rfl (by kernel_rfl) (by kernel_rfl) (by kernel_rfl) (fun _ _ _ h => h) (Or.inl ⟨by rfl, ?_⟩) hH20 ?_
  rotate_left
  · ((intro W hW; obtain ⟨s0, s1, s2, s3, s4, s5, s6, s7, s8, s9, s10, s11, s12, s13, s14, s15, s16, s17, s18, s19, s20, s21, s22, s23⟩ := hW; go_simp) <;> with_reducible rfl)
  simp only [Act.put, List.getElem_toArray, List.getElem_cons_zero, List.getElem_cons_succ, List.setIfInBounds_toArray, List.set_cons_zero, List.set_cons_succ]
  refine wpAnyH_ready (rs := [37]) (by kernel_rfl) (by simp) ?_
  refine AllReadyH.cons (o := _) rfl (fun K hK => ?_) AllReadyH.nil
  simp only [List.getElem_toArray, List.getElem_cons_zero, List.getElem_cons_succ]
  go_simp
  with_reducible refine (H11.out _).mono ?_
  rintro e v21 ⟨rfl, b21⟩
  dsimp only
  have bel21 := bel20.trans (b21.mono bel20.size)
  refine hK.out _ _ ⟨(b21.cell (p := ⟨_, 0, none⟩) za).trans hH20.1, (b21.cell (p := ⟨_, 1, none⟩) za).trans hH20.2.1, (b21.cell (p := ⟨_, 2, none⟩) za).trans hH20.2.2.1, (b21.cell (p := ⟨_, 3, none⟩) za).trans hH20.2.2.2.1, (b21.cell (p := ⟨_, 0, none⟩) zb).trans hH20.2.2.2.2.1, (b21.cell (p := ⟨_, 1, none⟩) zb).trans hH20.2.2.2.2.2.1, (b21.cell (p := ⟨_, 2, none⟩) zb).trans hH20.2.2.2.2.2.2.1, (b21.cell (p := ⟨_, 3, none⟩) zb).trans hH20.2.2.2.2.2.2.2.1, (b21.cell (p := ⟨_, 0, none⟩) zm).trans hH20.2.2.2.2.2.2.2.2.1, (b21.cell (p := ⟨_, 1, none⟩) zm).trans hH20.2.2.2.2.2.2.2.2.2.1, (b21.cell (p := ⟨_, 2, none⟩) zm).trans hH20.2.2.2.2.2.2.2.2.2.2.1, (b21.cell (p := ⟨_, 3, none⟩) zm).trans hH20.2.2.2.2.2.2.2.2.2.2.2.1, (b21.cell (p := ⟨_, 4, none⟩) zm).trans hH20.2.2.2.2.2.2.2.2.2.2.2.2.1, (b21.cell (p := ⟨_, 5, none⟩) zm).trans hH20.2.2.2.2.2.2.2.2.2.2.2.2.2.1, (b21.cell (p := ⟨_, 0, none⟩) zn).trans hH20.2.2.2.2.2.2.2.2.2.2.2.2.2.2.1, (b21.cell (p := ⟨_, 1, none⟩) zn).trans hH20.2.2.2.2.2.2.2.2.2.2.2.2.2.2.2.1, (b21.cell (p := ⟨_, 2, none⟩) zn).trans hH20.2.2.2.2.2.2.2.2.2.2.2.2.2.2.2.2.1, (b21.cell (p := ⟨_, 3, none⟩) zn).trans hH20.2.2.2.2.2.2.2.2.2.2.2.2.2.2.2.2.2.1, (b21.cell (p := ⟨_, 4, none⟩) zn).trans hH20.2.2.2.2.2.2.2.2.2.2.2.2.2.2.2.2.2.2.1, (b21.cell (p := ⟨_, 0, none⟩) zv).trans hH20.2.2.2.2.2.2.2.2.2.2.2.2.2.2.2.2.2.2.2.1, (b21.cell (p := ⟨_, 1, none⟩) zv).trans hH20.2.2.2.2.2.2.2.2.2.2.2.2.2.2.2.2.2.2.2.2.1, (b21.cell (p := ⟨_, 2, none⟩) zv).trans hH20.2.2.2.2.2.2.2.2.2.2.2.2.2.2.2.2.2.2.2.2.2.1, (b21.cell (p := ⟨_, 3, none⟩) zv).trans hH20.2.2.2.2.2.2.2.2.2.2.2.2.2.2.2.2.2.2.2.2.2.2.1, (b21.cell (p := ⟨_, 4, none⟩) zv).trans hH20.2.2.2.2.2.2.2.2.2.2.2.2.2.2.2.2.2.2.2.2.2.2.2⟩ (fun hH21 => ?_)
  clear hK K
  replace za := Nat.lt_of_lt_of_le za b21.size
  replace zb := Nat.lt_of_lt_of_le zb b21.size
  replace zm := Nat.lt_of_lt_of_le zm b21.size
  replace zn := Nat.lt_of_lt_of_le zn b21.size
  replace zv := Nat.lt_of_lt_of_le zv b21.size
  refine wpAnyH_ready (rs := [39]) (by kernel_rfl) (by simp) ?_
  refine AllReadyH.cons (o := _) rfl (fun K hK => ?_) AllReadyH.nil
  simp only [List.getElem_toArray, List.getElem_cons_zero, List.getElem_cons_succ]
  go_simp
  with_reducible refine (H12.out _).mono ?_
  rintro e v22 ⟨rfl, b22⟩
  dsimp only
  have bel22 := bel21.trans (b22.mono bel21.size)
  refine hK.out _ _ ⟨(b22.cell (p := ⟨_, 0, none⟩) za).trans hH21.1, (b22.cell (p := ⟨_, 1, none⟩) za).trans hH21.2.1, (b22.cell (p := ⟨_, 2, none⟩) za).trans hH21.2.2.1, (b22.cell (p := ⟨_, 3, none⟩) za).trans hH21.2.2.2.1, (b22.cell (p := ⟨_, 0, none⟩) zb).trans hH21.2.2.2.2.1, (b22.cell (p := ⟨_, 1, none⟩) zb).trans hH21.2.2.2.2.2.1, (b22.cell (p := ⟨_, 2, none⟩) zb).trans hH21.2.2.2.2.2.2.1, (b22.cell (p := ⟨_, 3, none⟩) zb).trans hH21.2.2.2.2.2.2.2.1, (b22.cell (p := ⟨_, 0, none⟩) zm).trans hH21.2.2.2.2.2.2.2.2.1, (b22.cell (p := ⟨_, 1, none⟩) zm).trans hH21.2.2.2.2.2.2.2.2.2.1, (b22.cell (p := ⟨_, 2, none⟩) zm).trans hH21.2.2.2.2.2.2.2.2.2.2.1, (b22.cell (p := ⟨_, 3, none⟩) zm).trans hH21.2.2.2.2.2.2.2.2.2.2.2.1, (b22.cell (p := ⟨_, 4, none⟩) zm).trans hH21.2.2.2.2.2.2.2.2.2.2.2.2.1, (b22.cell (p := ⟨_, 5, none⟩) zm).trans hH21.2.2.2.2.2.2.2.2.2.2.2.2.2.1, (b22.cell (p := ⟨_, 0, none⟩) zn).trans hH21.2.2.2.2.2.2.2.2.2.2.2.2.2.2.1, (b22.cell (p := ⟨_, 1, none⟩) zn).trans hH21.2.2.2.2.2.2.2.2.2.2.2.2.2.2.2.1, (b22.cell (p := ⟨_, 2, none⟩) zn).trans hH21.2.2.2.2.2.2.2.2.2.2.2.2.2.2.2.2.1, (b22.cell (p := ⟨_, 3, none⟩) zn).trans hH21.2.2.2.2.2.2.2.2.2.2.2.2.2.2.2.2.2.1, (b22.cell (p := ⟨_, 4, none⟩) zn).trans hH21.2.2.2.2.2.2.2.2.2.2.2.2.2.2.2.2.2.2.1, (b22.cell (p := ⟨_, 0, none⟩) zv).trans hH21.2.2.2.2.2.2.2.2.2.2.2.2.2.2.2.2.2.2.2.1, (b22.cell (p := ⟨_, 1, none⟩) zv).trans hH21.2.2.2.2.2.2.2.2.2.2.2.2.2.2.2.2.2.2.2.2.1, (b22.cell (p := ⟨_, 2, none⟩) zv).trans hH21.2.2.2.2.2.2.2.2.2.2.2.2.2.2.2.2.2.2.2.2.2.1, (b22.cell (p := ⟨_, 3, none⟩) zv).trans hH21.2.2.2.2.2.2.2.2.2.2.2.2.2.2.2.2.2.2.2.2.2.2.1, (b22.cell (p := ⟨_, 4, none⟩) zv).trans hH21.2.2.2.2.2.2.2.2.2.2.2.2.2.2.2.2.2.2.2.2.2.2.2⟩ (fun hH22 => ?_)
  clear hK K
  replace za := Nat.lt_of_lt_of_le za b22.size
  replace zb := Nat.lt_of_lt_of_le zb b22.size
  replace zm := Nat.lt_of_lt_of_le zm b22.size
  replace zn := Nat.lt_of_lt_of_le zn b22.size
  replace zv := Nat.lt_of_lt_of_le zv b22.size
  refine wpAnyH_take (i := 40) (v := ?_) rfl (by kernel_rfl) (by kernel_rfl) (by kernel_rfl) (fun _ _ _ h => h) (Or.inl ⟨by rfl, ?_⟩) hH22 ?_
  rotate_left
  · ((intro W hW; obtain ⟨s0, s1, s2, s3, s4, s5, s6, s7, s8, s9, s10, s11, s12, s13, s14, s15, s16, s17, s18, s19, s20, s21, s22, s23⟩ := hW; go_simp) <;> with_reducible rfl)
  simp only [Act.put, List.getElem_toArray, List.getElem_cons_zero, List.getElem_cons_succ, List.setIfInBounds_toArray, List.set_cons_zero, List.set_cons_succ]
  refine wpAnyH_take (i := 41) (v := ?_) rfl (by kernel_rfl) (by kernel_rfl) (by kernel_rfl) (fun _ _ _ h => h) (Or.inl ⟨by rfl, ?_⟩) hH22 ?_
  rotate_left
  · ((intro W hW; obtain ⟨s0, s1, s2, s3, s4, s5, s6, s7, s8, s9, s10, s11, s12, s13, s14, s15, s16, s17, s18, s19, s20, s21, s22, s23⟩ := hW; go_simp) <;> with_reducible rfl)
  simp only [Act.put, List.getElem_toArray, List.getElem_cons_zero, List.getElem_cons_succ, List.setIfInBounds_toArray, List.set_cons_zero, List.set_cons_succ]
  refine wpAnyH_take (i := 42) (v := ?_) rfl (by kernel_rfl) (by kernel_rfl) (by kernel_rfl) (fun _ _ _ h => h) (Or.inl ⟨by rfl, ?_⟩) hH22 ?_
  rotate_left
  · ((intro W hW; obtain ⟨s0, s1, s2, s3, s4, s5, s6, s7, s8, s9, s10, s11, s12, s13, s14, s15, s16, s17, s18, s19, s20, s21, s22, s23⟩ := hW; go_simp) <;> with_reducible rfl)
  simp only [Act.put, List.getElem_toArray, List.getElem_cons_zero, List.getElem_cons_succ, List.setIfInBounds_toArray, List.set_cons_zero, List.set_cons_succ]
  refine wpAnyH_take (i := 43) (v := ?_) rfl (by kernel_rfl) (by kernel_rfl) (by kernel_rfl) (fun _ _ _ h => h) (Or.inl ⟨by rfl, ?_⟩) hH22 ?_
  rotate_left
  · ((intro W hW; obtain ⟨s0, s1, s2, s3, s4, s5, s6, s7, s8, s9, s10, s11, s12, s13, s14, s15, s16, s17, s18, s19, s20, s21, s22, s23⟩ := hW; go_simp) <;> with_reducible rfl)
  simp only [Act.put, List.getElem_toArray, List.getElem_cons_zero, List.getElem_cons_succ, List.setIfInBounds_toArray, List.set_cons_zero, List.set_cons_succ]
  refine wpAnyH_take (i := 46) (v := ?_) rfl (by kernel_rfl) (by kernel_rfl) (by kernel_rfl) (fun _ _ _ h => h) (Or.inl ⟨by rfl, ?_⟩) hH22 ?_
  rotate_left
  · ((intro W hW; obtain ⟨s0, s1, s2, s3, s4, s5, s6, s7, s8, s9, s10, s11, s12, s13, s14, s15, s16, s17, s18, s19, s20, s21, s22, s23⟩ := hW; go_simp) <;> with_reducible rfl)
  simp only [Act.put, List.getElem_toArray, List.getElem_cons_zero, List.getElem_cons_succ, List.setIfInBounds_toArray, List.set_cons_zero, List.set_cons_succ]
  refine wpAnyH_ready (rs := [44]) (by kernel_rfl) (by simp) ?_
  refine AllReadyH.cons (o := _) rfl (fun K hK => ?_) AllReadyH.nil
  simp only [List.getElem_toArray, List.getElem_cons_zero, List.getElem_cons_succ]
  go_simp
  with_reducible refine (H11.out _).mono ?_
  rintro e v23 ⟨rfl, b23⟩
  dsimp only
  have bel23 := bel22.trans (b23.mono bel22.size)
  refine hK.out _ _ ⟨(b23.cell (p := ⟨_, 0, none⟩) za).trans hH22.1, (b23.cell (p := ⟨_, 1, none⟩) za).trans hH22.2.1, (b23.cell (p := ⟨_, 2, none⟩) za).trans hH22.2.2.1, (b23.cell (p := ⟨_, 3, none⟩) za).trans hH22.2.2.2.1, (b23.cell (p := ⟨_, 0, none⟩) zb).trans hH22.2.2.2.2.1, (b23.cell (p := ⟨_, 1, none⟩) zb).trans hH22.2.2.2.2.2.1, (b23.cell (p := ⟨_, 2, none⟩) zb).trans hH22.2.2.2.2.2.2.1, (b23.cell (p := ⟨_, 3, none⟩) zb).trans hH22.2.2.2.2.2.2.2.1, (b23.cell (p := ⟨_, 0, none⟩) zm).trans hH22.2.2.2.2.2.2.2.2.1, (b23.cell (p := ⟨_, 1, none⟩) zm).trans hH22.2.2.2.2.2.2.2.2.2.1, (b23.cell (p := ⟨_, 2, none⟩) zm).trans hH22.2.2.2.2.2.2.2.2.2.2.1, (b23.cell (p := ⟨_, 3, none⟩) zm).trans hH22.2.2.2.2.2.2.2.2.2.2.2.1, (b23.cell (p := ⟨_, 4, none⟩) zm).trans hH22.2.2.2.2.2.2.2.2.2.2.2.2.1, (b23.cell (p := ⟨_, 5, none⟩) zm).trans hH22.2.2.2.2.2.2.2.2.2.2.2.2.2.1, (b23.cell (p := ⟨_, 0, none⟩) zn).trans hH22.2.2.2.2.2.2.2.2.2.2.2.2.2.2.1, (b23.cell (p := ⟨_, 1, none⟩) zn).trans hH22.2.2.2.2.2.2.2.2.2.2.2.2.2.2.2.1, (b23.cell (p := ⟨_, 2, none⟩) zn).trans hH22.2.2.2.2.2.2.2.2.2.2.2.2.2.2.2.2.1, (b23.cell (p := ⟨_, 3, none⟩) zn).trans hH22.2.2.2.2.2.2.2.2.2.2.2.2.2.2.2.2.2.1, (b23.cell (p := ⟨_, 4, none⟩) zn).trans hH22.2.2.2.2.2.2.2.2.2.2.2.2.2.2.2.2.2.2.1, (b23.cell (p := ⟨_, 0, none⟩) zv).trans hH22.2.2.2.2.2.2.2.2.2.2.2.2.2.2.2.2.2.2.2.1, (b23.cell (p := ⟨_, 1, none⟩) zv).trans hH22.2.2.2.2.2.2.2.2.2.2.2.2.2.2.2.2.2.2.2.2.1, (b23.cell (p := ⟨_, 2, none⟩) zv).trans hH22.2.2.2.2.2.2.2.2.2.2.2.2.2.2.2.2.2.2.2.2.2.1, (b23.cell (p := ⟨_, 3, none⟩) zv).trans hH22.2.2.2.2.2.2.2.2.2.2.2.2.2.2.2.2.2.2.2.2.2.2.1, (b23.cell (p := ⟨_, 4, none⟩) zv).trans hH22.2.2.2.2.2.2.2.2.2.2.2.2.2.2.2.2.2.2.2.2.2.2.2⟩ (fun hH23 => ?_)
  clear hK K
  replace za := Nat.lt_of_lt_of_le za b23.size
  replace zb := Nat.lt_of_lt_of_le zb b23.size
  replace zm := Nat.lt_of_lt_of_le zm b23.size
  replace zn := Nat.lt_of_lt_of_le zn b23.size
  replace zv := Nat.lt_of_lt_of_le zv b23.size
  refine wpAnyH_ready (rs := [45]) (by kernel_rfl) (by simp) ?_
  refine AllReadyH.cons (o := _) rfl (fun K hK => ?_) AllReadyH.nil
  simp only [List.getElem_toArray, List.getElem_cons_zero, List.getElem_cons_succ]
  go_simp
  with_reducible refine (H13.out _).mono ?_
  rintro e v24 ⟨rfl, b24⟩
  dsimp only
  have bel24 := bel23.trans (b24.mono bel23.size)
  refine hK.out _ _ ⟨(b24.cell (p := ⟨_, 0, none⟩) za).trans hH23.1, (b24.cell (p := ⟨_, 1, none⟩) za).trans hH23.2.1, (b24.cell (p := ⟨_, 2, none⟩) za).trans hH23.2.2.1, (b24.cell (p := ⟨_, 3, none⟩) za).trans hH23.2.2.2.1, (b24.cell (p := ⟨_, 0, none⟩) zb).trans hH23.2.2.2.2.1, (b24.cell (p := ⟨_, 1, none⟩) zb).trans hH23.2.2.2.2.2.1, (b24.cell (p := ⟨_, 2, none⟩) zb).trans hH23.2.2.2.2.2.2.1, (b24.cell (p := ⟨_, 3, none⟩) zb).trans hH23.2.2.2.2.2.2.2.1, (b24.cell (p := ⟨_, 0, none⟩) zm).trans hH23.2.2.2.2.2.2.2.2.1, (b24.cell (p := ⟨_, 1, none⟩) zm).trans hH23.2.2.2.2.2.2.2.2.2.1, (b24.cell (p := ⟨_, 2, none⟩) zm).trans hH23.2.2.2.2.2.2.2.2.2.2.1, (b24.cell (p := ⟨_, 3, none⟩) zm).trans hH23.2.2.2.2.2.2.2.2.2.2.2.1, (b24.cell (p := ⟨_, 4, none⟩) zm).trans hH23.2.2.2.2.2.2.2.2.2.2.2.2.1, (b24.cell (p := ⟨_, 5, none⟩) zm).trans hH23.2.2.2.2.2.2.2.2.2.2.2.2.2.1, (b24.cell (p := ⟨_, 0, none⟩) zn).trans hH23.2.2.2.2.2.2.2.2.2.2.2.2.2.2.1, (b24.cell (p := ⟨_, 1, none⟩) zn).trans hH23.2.2.2.2.2.2.2.2.2.2.2.2.2.2.2.1, (b24.cell (p := ⟨_, 2, none⟩) zn).trans hH23.2.2.2.2.2.2.2.2.2.2.2.2.2.2.2.2.1, (b24.cell (p := ⟨_, 3, none⟩) zn).trans hH23.2.2.2.2.2.2.2.2.2.2.2.2.2.2.2.2.2.1, (b24.cell (p := ⟨_, 4, none⟩) zn).trans hH23.2.2.2.2.2.2.2.2.2.2.2.2.2.2.2.2.2.2.1, (b24.cell (p := ⟨_, 0, none⟩) zv).trans hH23.2.2.2.2.2.2.2.2.2.2.2.2.2.2.2.2.2.2.2.1, (b24.cell (p := ⟨_, 1, none⟩) zv).trans hH23.2.2.2.2.2.2.2.2.2.2.2.2.2.2.2.2.2.2.2.2.1, (b24.cell (p := ⟨_, 2, none⟩) zv).trans hH23.2.2.2.2.2.2.2.2.2.2.2.2.2.2.2.2.2.2.2.2.2.1, (b24.cell (p := ⟨_, 3, none⟩) zv).trans hH23.2.2.2.2.2.2.2.2.2.2.2.2.2.2.2.2.2.2.2.2.2.2.1, (b24.cell (p := ⟨_, 4, none⟩) zv).trans hH23.2.2.2.2.2.2.2.2.2.2.2.2.2.2.2.2.2.2.2.2.2.2.2⟩ (fun hH24 => ?_)
  clear hK K
  replace za := Nat.lt_of_lt_of_le za b24.size
  replace zb := Nat.lt_of_lt_of_le zb b24.size
  replace zm := Nat.lt_of_lt_of_le zm b24.size
  replace zn := Nat.lt_of_lt_of_le zn b24.size
  replace zv := Nat.lt_of_lt_of_le zv b24.size
  refine wpAnyH_take (i := 47) (v := ?_) rfl (by kernel_rfl) (by kernel_rfl) (by kernel_rfl) (fun _ _ _ h => h) (Or.inl ⟨by rfl, ?_⟩) hH24 ?_
  rotate_left
  · ((intro W hW; obtain ⟨s0, s1, s2, s3, s4, s5, s6, s7, s8, s9, s10, s11, s12, s13, s14, s15, s16, s17, s18, s19, s20, s21, s22, s23⟩ := hW; go_simp) <;> with_reducible rfl)
  simp only [Act.put, List.getElem_toArray, List.getElem_cons_zero, List.getElem_cons_succ, List.setIfInBounds_toArray, List.set_cons_zero, List.set_cons_succ]
  refine wpAnyH_take (i := 48) (v := ?_) rfl (by kernel_rfl) (by kernel_rfl) (by kernel_rfl) (fun _ _ _ h => h) (Or.inl ⟨by rfl, ?_⟩) hH24 ?_
  rotate_left
  · ((intro W hW; obtain ⟨s0, s1, s2, s3, s4, s5, s6, s7, s8, s9, s10, s11, s12, s13, s14, s15, s16, s17, s18, s19, s20, s21, s22, s23⟩ := hW; go_simp) <;> with_reducible rfl)
  simp only [Act.put, List.getElem_toArray, List.getElem_cons_zero, List.getElem_cons_succ, List.setIfInBounds_toArray, List.set_cons_zero, List.set_cons_succ]
  refine wpAnyH_take (i := 49) (v := ?_) rfl (by kernel_rfl) (by kernel_rfl) (by kernel_rfl) (fun _ _ _ h => h) (Or.inl ⟨by rfl, ?_⟩) hH24 ?_
  rotate_left
  · ((intro W hW; obtain ⟨s0, s1, s2, s3, s4, s5, s6, s7, s8, s9, s10, s11, s12, s13, s14, s15, s16, s17, s18, s19, s20, s21, s22, s23⟩ := hW; go_simp) <;> with_reducible rfl)
  simp only [Act.put, List.getElem_toArray, List.getElem_cons_zero, List.getElem_cons_succ, List.setIfInBounds_toArray, List.set_cons_zero, List.set_cons_succ]
  refine wpAnyH_done (by kernel_rfl) ?_ _
  go_wp2
  go_ret
  exact ⟨rfl, bel24⟩
end Go.Proofs.YtppjnhjglhlpkaaDoor
