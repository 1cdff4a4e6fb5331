/- Layer 3: AddrReads' walk. -/
import Derived.Test.YtppjnhjglhlpkaaDoorLaw3b
namespace Go.Proofs.YtppjnhjglhlpkaaDoor
open Go.RowKit

set_option maxRecDepth 100000 in
set_option maxHeartbeats 16000000 in
theorem addrReads_11 (s : ByteArray) (a0 a1 a2 a3 n0 n1 n2 n3 m0 m1 m2 m3 m4 m5 : UInt8) (nn ne : Int) (hs : s.size ≤ 200)
    (k0 : (∀ W, Calls Tryd.prog 10 #[.string s] W fun e w' => e = .returned (.tuple #[.agg #[.int .u8 (a0.toNat : Int), .int .u8 (a1.toNat : Int), .int .u8 (a2.toNat : Int), .int .u8 (a3.toNat : Int)], .int .i64 0]) ∧ Below W.heap.size W w'))
    (k1 : (∀ W, Calls Tryd.prog 15 #[.string s] W fun e w' => e = .returned (.tuple #[.agg #[.int .u8 (a0.toNat : Int), .int .u8 (a1.toNat : Int), .int .u8 (a2.toNat : Int), .int .u8 (a3.toNat : Int)], .bool true]) ∧ Below W.heap.size W w'))
    (k2 : (∀ W, Calls Tryd.prog 11 #[.string s] W fun e w' => e = .returned (.tuple #[.agg #[.int .u8 (n0.toNat : Int), .int .u8 (n1.toNat : Int), .int .u8 (n2.toNat : Int), .int .u8 (n3.toNat : Int), .int .i64 nn], .int .i64 ne]) ∧ Below W.heap.size W w'))
    (k3 : (∀ W, Calls Tryd.prog 16 #[.string s] W fun e w' => e = .returned (.tuple #[.agg #[.int .u8 (n0.toNat : Int), .int .u8 (n1.toNat : Int), .int .u8 (n2.toNat : Int), .int .u8 (n3.toNat : Int), .int .i64 nn], .int .i64 ne]) ∧ Below W.heap.size W w'))
    (k4 : (∀ W, Calls Tryd.prog 12 #[.string s] W fun e w' => e = .returned (.tuple #[.agg #[.int .u8 (m0.toNat : Int), .int .u8 (m1.toNat : Int), .int .u8 (m2.toNat : Int), .int .u8 (m3.toNat : Int), .int .u8 (m4.toNat : Int), .int .u8 (m5.toNat : Int)], .int .i64 0]) ∧ Below W.heap.size W w'))
    (k5 : (∀ W, Calls Tryd.prog 17 #[.string s] W fun e w' => e = .returned (.tuple #[.agg #[.int .u8 (m0.toNat : Int), .int .u8 (m1.toNat : Int), .int .u8 (m2.toNat : Int), .int .u8 (m3.toNat : Int), .int .u8 (m4.toNat : Int), .int .u8 (m5.toNat : Int)], .bool true]) ∧ Below W.heap.size W w'))
    (w : World) (hT : Tab w) : Calls Tryd.prog 4 #[.string s] w fun e w' => e = .returned (.bool true) ∧ Below w.heap.size w w' := by
  have bel := Below.refl w.heap.size w
  have HT := Lib.hid hT
  clear hT
  have t0 : decide ((200 : Int) < s.size) = false := decide_eq_false (by omega)
  clear hs
  have e1 := fun W => self4 [a0, a1, a2, a3] rfl W
  have g1 := fun op x y W => guard4 op x y ([a0, a1, a2, a3].map u8v).toArray ([a0, a1, a2, a3].map u8v).toArray W
  have e2 := fun W => self4 [n0, n1, n2, n3] rfl W
  have g2 := fun op x y W => guard4 op x y ([n0, n1, n2, n3].map u8v).toArray ([n0, n1, n2, n3].map u8v).toArray W
  have e3 := fun W => self6 [m0, m1, m2, m3, m4, m5] rfl W
  have g3 := fun op x y W => guard_mac op x y ([m0, m1, m2, m3, m4, m5].map u8v).toArray ([m0, m1, m2, m3, m4, m5].map u8v).toArray W
  simp only [List.map_cons, List.map_nil, u8v] at e1 g1 e2 g2 e3 g3
  have K0 := Lib.hid k0; clear k0
  have K1 := Lib.hid k1; clear k1
  have K2 := Lib.hid k2; clear k2
  have K3 := Lib.hid k3; clear k3
  have K4 := Lib.hid k4; clear k4
  have K5 := Lib.hid k5; clear k5
  go_enter Tryd.func4, Tryd.ntmps4
  go_wp2_with fail
  with_reducible refine (awake3 _ HT.out).mono ?_
  rintro e w1 ⟨rfl, b1⟩
  replace bel := bel.trans (b1.mono bel.size)
  clear b1
  go_wp2_with fail
  with_reducible refine (K0.out _).mono ?_
  rintro e w2 ⟨rfl, b2⟩
  replace bel := bel.trans (b2.mono bel.size)
  clear b2
  have hx := heap_alloc_new w2 (.cells #[.int .u8 (a0.toNat : Int), .int .u8 (a1.toNat : Int), .int .u8 (a2.toNat : Int), .int .u8 (a3.toNat : Int)] 24)
  have zx : w2.heap.size < (w2.alloc (.cells #[.int .u8 (a0.toNat : Int), .int .u8 (a1.toNat : Int), .int .u8 (a2.toNat : Int), .int .u8 (a3.toNat : Int)] 24)).heap.size := by simp
  replace bel := bel.alloc bel.size (.cells #[.int .u8 (a0.toNat : Int), .int .u8 (a1.toNat : Int), .int .u8 (a2.toNat : Int), .int .u8 (a3.toNat : Int)] 24)
  go_wp2_with fail
  with_reducible refine (K1.out _).mono ?_
  rintro e w3 ⟨rfl, b3⟩
  replace hx := (b3.block _ zx).trans hx
  replace zx := Nat.lt_of_lt_of_le zx b3.size
  replace bel := bel.trans (b3.mono bel.size)
  clear b3
  have yx := zx
  replace hx := (Go.heap_alloc_old w3 (.cells #[.int .u8 (a0.toNat : Int), .int .u8 (a1.toNat : Int), .int .u8 (a2.toNat : Int), .int .u8 (a3.toNat : Int)] 24) (r := w2.heap.size) zx).trans hx
  have hy := heap_alloc_new w3 (.cells #[.int .u8 (a0.toNat : Int), .int .u8 (a1.toNat : Int), .int .u8 (a2.toNat : Int), .int .u8 (a3.toNat : Int)] 24)
  replace zx := Nat.lt_trans zx (show w3.heap.size < (w3.alloc (.cells #[.int .u8 (a0.toNat : Int), .int .u8 (a1.toNat : Int), .int .u8 (a2.toNat : Int), .int .u8 (a3.toNat : Int)] 24)).heap.size by simp)
  have zy : w3.heap.size < (w3.alloc (.cells #[.int .u8 (a0.toNat : Int), .int .u8 (a1.toNat : Int), .int .u8 (a2.toNat : Int), .int .u8 (a3.toNat : Int)] 24)).heap.size := by simp
  replace bel := bel.alloc bel.size (.cells #[.int .u8 (a0.toNat : Int), .int .u8 (a1.toNat : Int), .int .u8 (a2.toNat : Int), .int .u8 (a3.toNat : Int)] 24)
  go_wp2_with fail
  with_reducible refine (K2.out _).mono ?_
  rintro e w4 ⟨rfl, b4⟩
  clear yx
  replace hx := (b4.block _ zx).trans hx
  replace zx := Nat.lt_of_lt_of_le zx b4.size
  replace hy := (b4.block _ zy).trans hy
  replace zy := Nat.lt_of_lt_of_le zy b4.size
  replace bel := bel.trans (b4.mono bel.size)
  clear b4
  have yx := zx
  have yy := zy
  replace hx := (Go.heap_alloc_old w4 (.cells #[.int .u8 (n0.toNat : Int), .int .u8 (n1.toNat : Int), .int .u8 (n2.toNat : Int), .int .u8 (n3.toNat : Int), .int .i64 nn] 29) (r := w2.heap.size) zx).trans hx
  replace hy := (Go.heap_alloc_old w4 (.cells #[.int .u8 (n0.toNat : Int), .int .u8 (n1.toNat : Int), .int .u8 (n2.toNat : Int), .int .u8 (n3.toNat : Int), .int .i64 nn] 29) (r := w3.heap.size) zy).trans hy
  have hn := heap_alloc_new w4 (.cells #[.int .u8 (n0.toNat : Int), .int .u8 (n1.toNat : Int), .int .u8 (n2.toNat : Int), .int .u8 (n3.toNat : Int), .int .i64 nn] 29)
  replace zx := Nat.lt_trans zx (show w4.heap.size < (w4.alloc (.cells #[.int .u8 (n0.toNat : Int), .int .u8 (n1.toNat : Int), .int .u8 (n2.toNat : Int), .int .u8 (n3.toNat : Int), .int .i64 nn] 29)).heap.size by simp)
  replace zy := Nat.lt_trans zy (show w4.heap.size < (w4.alloc (.cells #[.int .u8 (n0.toNat : Int), .int .u8 (n1.toNat : Int), .int .u8 (n2.toNat : Int), .int .u8 (n3.toNat : Int), .int .i64 nn] 29)).heap.size by simp)
  have zn : w4.heap.size < (w4.alloc (.cells #[.int .u8 (n0.toNat : Int), .int .u8 (n1.toNat : Int), .int .u8 (n2.toNat : Int), .int .u8 (n3.toNat : Int), .int .i64 nn] 29)).heap.size := by simp
  replace bel := bel.alloc bel.size (.cells #[.int .u8 (n0.toNat : Int), .int .u8 (n1.toNat : Int), .int .u8 (n2.toNat : Int), .int .u8 (n3.toNat : Int), .int .i64 nn] 29)
  go_wp2_with fail
  with_reducible refine (K3.out _).mono ?_
  rintro e w5 ⟨rfl, b5⟩
  clear yx yy
  replace hx := (b5.block _ zx).trans hx
  replace zx := Nat.lt_of_lt_of_le zx b5.size
  replace hy := (b5.block _ zy).trans hy
  replace zy := Nat.lt_of_lt_of_le zy b5.size
  replace hn := (b5.block _ zn).trans hn
  replace zn := Nat.lt_of_lt_of_le zn b5.size
  replace bel := bel.trans (b5.mono bel.size)
  clear b5
  have yx := zx
  have yy := zy
  have yn := zn
  replace hx := (Go.heap_alloc_old w5 (.cells #[.int .u8 (n0.toNat : Int), .int .u8 (n1.toNat : Int), .int .u8 (n2.toNat : Int), .int .u8 (n3.toNat : Int), .int .i64 nn] 41) (r := w2.heap.size) zx).trans hx
  replace hy := (Go.heap_alloc_old w5 (.cells #[.int .u8 (n0.toNat : Int), .int .u8 (n1.toNat : Int), .int .u8 (n2.toNat : Int), .int .u8 (n3.toNat : Int), .int .i64 nn] 41) (r := w3.heap.size) zy).trans hy
  replace hn := (Go.heap_alloc_old w5 (.cells #[.int .u8 (n0.toNat : Int), .int .u8 (n1.toNat : Int), .int .u8 (n2.toNat : Int), .int .u8 (n3.toNat : Int), .int .i64 nn] 41) (r := w4.heap.size) zn).trans hn
  have hv := heap_alloc_new w5 (.cells #[.int .u8 (n0.toNat : Int), .int .u8 (n1.toNat : Int), .int .u8 (n2.toNat : Int), .int .u8 (n3.toNat : Int), .int .i64 nn] 41)
  replace zx := Nat.lt_trans zx (show w5.heap.size < (w5.alloc (.cells #[.int .u8 (n0.toNat : Int), .int .u8 (n1.toNat : Int), .int .u8 (n2.toNat : Int), .int .u8 (n3.toNat : Int), .int .i64 nn] 41)).heap.size by simp)
  replace zy := Nat.lt_trans zy (show w5.heap.size < (w5.alloc (.cells #[.int .u8 (n0.toNat : Int), .int .u8 (n1.toNat : Int), .int .u8 (n2.toNat : Int), .int .u8 (n3.toNat : Int), .int .i64 nn] 41)).heap.size by simp)
  replace zn := Nat.lt_trans zn (show w5.heap.size < (w5.alloc (.cells #[.int .u8 (n0.toNat : Int), .int .u8 (n1.toNat : Int), .int .u8 (n2.toNat : Int), .int .u8 (n3.toNat : Int), .int .i64 nn] 41)).heap.size by simp)
  have zv : w5.heap.size < (w5.alloc (.cells #[.int .u8 (n0.toNat : Int), .int .u8 (n1.toNat : Int), .int .u8 (n2.toNat : Int), .int .u8 (n3.toNat : Int), .int .i64 nn] 41)).heap.size := by simp
  replace bel := bel.alloc bel.size (.cells #[.int .u8 (n0.toNat : Int), .int .u8 (n1.toNat : Int), .int .u8 (n2.toNat : Int), .int .u8 (n3.toNat : Int), .int .i64 nn] 41)
  go_wp2_with fail
  with_reducible refine (K4.out _).mono ?_
  rintro e w6 ⟨rfl, b6⟩
  clear yx yy yn
  replace hx := (b6.block _ zx).trans hx
  replace zx := Nat.lt_of_lt_of_le zx b6.size
  replace hy := (b6.block _ zy).trans hy
  replace zy := Nat.lt_of_lt_of_le zy b6.size
  replace hn := (b6.block _ zn).trans hn
  replace zn := Nat.lt_of_lt_of_le zn b6.size
  replace hv := (b6.block _ zv).trans hv
  replace zv := Nat.lt_of_lt_of_le zv b6.size
  replace bel := bel.trans (b6.mono bel.size)
  clear b6
  have yx := zx
  have yy := zy
  have yn := zn
  have yv := zv
  replace hx := (Go.heap_alloc_old w6 (.cells #[.int .u8 (m0.toNat : Int), .int .u8 (m1.toNat : Int), .int .u8 (m2.toNat : Int), .int .u8 (m3.toNat : Int), .int .u8 (m4.toNat : Int), .int .u8 (m5.toNat : Int)] 33) (r := w2.heap.size) zx).trans hx
  replace hy := (Go.heap_alloc_old w6 (.cells #[.int .u8 (m0.toNat : Int), .int .u8 (m1.toNat : Int), .int .u8 (m2.toNat : Int), .int .u8 (m3.toNat : Int), .int .u8 (m4.toNat : Int), .int .u8 (m5.toNat : Int)] 33) (r := w3.heap.size) zy).trans hy
  replace hn := (Go.heap_alloc_old w6 (.cells #[.int .u8 (m0.toNat : Int), .int .u8 (m1.toNat : Int), .int .u8 (m2.toNat : Int), .int .u8 (m3.toNat : Int), .int .u8 (m4.toNat : Int), .int .u8 (m5.toNat : Int)] 33) (r := w4.heap.size) zn).trans hn
  replace hv := (Go.heap_alloc_old w6 (.cells #[.int .u8 (m0.toNat : Int), .int .u8 (m1.toNat : Int), .int .u8 (m2.toNat : Int), .int .u8 (m3.toNat : Int), .int .u8 (m4.toNat : Int), .int .u8 (m5.toNat : Int)] 33) (r := w5.heap.size) zv).trans hv
  have hp := heap_alloc_new w6 (.cells #[.int .u8 (m0.toNat : Int), .int .u8 (m1.toNat : Int), .int .u8 (m2.toNat : Int), .int .u8 (m3.toNat : Int), .int .u8 (m4.toNat : Int), .int .u8 (m5.toNat : Int)] 33)
  replace zx := Nat.lt_trans zx (show w6.heap.size < (w6.alloc (.cells #[.int .u8 (m0.toNat : Int), .int .u8 (m1.toNat : Int), .int .u8 (m2.toNat : Int), .int .u8 (m3.toNat : Int), .int .u8 (m4.toNat : Int), .int .u8 (m5.toNat : Int)] 33)).heap.size by simp)
  replace zy := Nat.lt_trans zy (show w6.heap.size < (w6.alloc (.cells #[.int .u8 (m0.toNat : Int), .int .u8 (m1.toNat : Int), .int .u8 (m2.toNat : Int), .int .u8 (m3.toNat : Int), .int .u8 (m4.toNat : Int), .int .u8 (m5.toNat : Int)] 33)).heap.size by simp)
  replace zn := Nat.lt_trans zn (show w6.heap.size < (w6.alloc (.cells #[.int .u8 (m0.toNat : Int), .int .u8 (m1.toNat : Int), .int .u8 (m2.toNat : Int), .int .u8 (m3.toNat : Int), .int .u8 (m4.toNat : Int), .int .u8 (m5.toNat : Int)] 33)).heap.size by simp)
  replace zv := Nat.lt_trans zv (show w6.heap.size < (w6.alloc (.cells #[.int .u8 (m0.toNat : Int), .int .u8 (m1.toNat : Int), .int .u8 (m2.toNat : Int), .int .u8 (m3.toNat : Int), .int .u8 (m4.toNat : Int), .int .u8 (m5.toNat : Int)] 33)).heap.size by simp)
  have zp : w6.heap.size < (w6.alloc (.cells #[.int .u8 (m0.toNat : Int), .int .u8 (m1.toNat : Int), .int .u8 (m2.toNat : Int), .int .u8 (m3.toNat : Int), .int .u8 (m4.toNat : Int), .int .u8 (m5.toNat : Int)] 33)).heap.size := by simp
  replace bel := bel.alloc bel.size (.cells #[.int .u8 (m0.toNat : Int), .int .u8 (m1.toNat : Int), .int .u8 (m2.toNat : Int), .int .u8 (m3.toNat : Int), .int .u8 (m4.toNat : Int), .int .u8 (m5.toNat : Int)] 33)
  go_wp2_with fail
  with_reducible refine (K5.out _).mono ?_
  rintro e w7 ⟨rfl, b7⟩
  clear yx yy yn yv
  replace hx := (b7.block _ zx).trans hx
  replace zx := Nat.lt_of_lt_of_le zx b7.size
  replace hy := (b7.block _ zy).trans hy
  replace zy := Nat.lt_of_lt_of_le zy b7.size
  replace hn := (b7.block _ zn).trans hn
  replace zn := Nat.lt_of_lt_of_le zn b7.size
  replace hv := (b7.block _ zv).trans hv
  replace zv := Nat.lt_of_lt_of_le zv b7.size
  replace hp := (b7.block _ zp).trans hp
  replace zp := Nat.lt_of_lt_of_le zp b7.size
  replace bel := bel.trans (b7.mono bel.size)
  clear b7
  obtain ⟨⟨cx0, cx1, cx2, cx3⟩, _⟩ := cells4 hx
  obtain ⟨⟨cy0, cy1, cy2, cy3⟩, _⟩ := cells4 hy
  obtain ⟨⟨cn0, cn1, cn2, cn3, cn4⟩, _⟩ := cells5 hn
  obtain ⟨⟨cv0, cv1, cv2, cv3, cv4⟩, _⟩ := cells5 hv
  obtain ⟨⟨cp0, cp1, cp2, cp3, cp4, cp5⟩, _⟩ := cells6 hp
  have yx := zx
  have yy := zy
  have yn := zn
  have yv := zv
  have yp := zp
  replace hx := (Go.heap_alloc_old w7 (.cells #[.int .u8 (m0.toNat : Int), .int .u8 (m1.toNat : Int), .int .u8 (m2.toNat : Int), .int .u8 (m3.toNat : Int), .int .u8 (m4.toNat : Int), .int .u8 (m5.toNat : Int)] 33) (r := w2.heap.size) zx).trans hx
  replace hy := (Go.heap_alloc_old w7 (.cells #[.int .u8 (m0.toNat : Int), .int .u8 (m1.toNat : Int), .int .u8 (m2.toNat : Int), .int .u8 (m3.toNat : Int), .int .u8 (m4.toNat : Int), .int .u8 (m5.toNat : Int)] 33) (r := w3.heap.size) zy).trans hy
  replace hn := (Go.heap_alloc_old w7 (.cells #[.int .u8 (m0.toNat : Int), .int .u8 (m1.toNat : Int), .int .u8 (m2.toNat : Int), .int .u8 (m3.toNat : Int), .int .u8 (m4.toNat : Int), .int .u8 (m5.toNat : Int)] 33) (r := w4.heap.size) zn).trans hn
  replace hv := (Go.heap_alloc_old w7 (.cells #[.int .u8 (m0.toNat : Int), .int .u8 (m1.toNat : Int), .int .u8 (m2.toNat : Int), .int .u8 (m3.toNat : Int), .int .u8 (m4.toNat : Int), .int .u8 (m5.toNat : Int)] 33) (r := w5.heap.size) zv).trans hv
  replace hp := (Go.heap_alloc_old w7 (.cells #[.int .u8 (m0.toNat : Int), .int .u8 (m1.toNat : Int), .int .u8 (m2.toNat : Int), .int .u8 (m3.toNat : Int), .int .u8 (m4.toNat : Int), .int .u8 (m5.toNat : Int)] 33) (r := w6.heap.size) zp).trans hp
  have hq := heap_alloc_new w7 (.cells #[.int .u8 (m0.toNat : Int), .int .u8 (m1.toNat : Int), .int .u8 (m2.toNat : Int), .int .u8 (m3.toNat : Int), .int .u8 (m4.toNat : Int), .int .u8 (m5.toNat : Int)] 33)
  replace zx := Nat.lt_trans zx (show w7.heap.size < (w7.alloc (.cells #[.int .u8 (m0.toNat : Int), .int .u8 (m1.toNat : Int), .int .u8 (m2.toNat : Int), .int .u8 (m3.toNat : Int), .int .u8 (m4.toNat : Int), .int .u8 (m5.toNat : Int)] 33)).heap.size by simp)
  replace zy := Nat.lt_trans zy (show w7.heap.size < (w7.alloc (.cells #[.int .u8 (m0.toNat : Int), .int .u8 (m1.toNat : Int), .int .u8 (m2.toNat : Int), .int .u8 (m3.toNat : Int), .int .u8 (m4.toNat : Int), .int .u8 (m5.toNat : Int)] 33)).heap.size by simp)
  replace zn := Nat.lt_trans zn (show w7.heap.size < (w7.alloc (.cells #[.int .u8 (m0.toNat : Int), .int .u8 (m1.toNat : Int), .int .u8 (m2.toNat : Int), .int .u8 (m3.toNat : Int), .int .u8 (m4.toNat : Int), .int .u8 (m5.toNat : Int)] 33)).heap.size by simp)
  replace zv := Nat.lt_trans zv (show w7.heap.size < (w7.alloc (.cells #[.int .u8 (m0.toNat : Int), .int .u8 (m1.toNat : Int), .int .u8 (m2.toNat : Int), .int .u8 (m3.toNat : Int), .int .u8 (m4.toNat : Int), .int .u8 (m5.toNat : Int)] 33)).heap.size by simp)
  replace zp := Nat.lt_trans zp (show w7.heap.size < (w7.alloc (.cells #[.int .u8 (m0.toNat : Int), .int .u8 (m1.toNat : Int), .int .u8 (m2.toNat : Int), .int .u8 (m3.toNat : Int), .int .u8 (m4.toNat : Int), .int .u8 (m5.toNat : Int)] 33)).heap.size by simp)
  have zq : w7.heap.size < (w7.alloc (.cells #[.int .u8 (m0.toNat : Int), .int .u8 (m1.toNat : Int), .int .u8 (m2.toNat : Int), .int .u8 (m3.toNat : Int), .int .u8 (m4.toNat : Int), .int .u8 (m5.toNat : Int)] 33)).heap.size := by simp
  replace bel := bel.alloc bel.size (.cells #[.int .u8 (m0.toNat : Int), .int .u8 (m1.toNat : Int), .int .u8 (m2.toNat : Int), .int .u8 (m3.toNat : Int), .int .u8 (m4.toNat : Int), .int .u8 (m5.toNat : Int)] 33)
  go_wp2
  go_ret
  exact ⟨rfl, bel⟩

set_option maxRecDepth 100000 in
set_option maxHeartbeats 16000000 in
theorem addrReads_10 (s : ByteArray) (a0 a1 a2 a3 n0 n1 n2 n3 m0 m1 m2 m3 m4 m5 : UInt8) (nn ne : Int) (hs : s.size ≤ 200)
    (k0 : (∀ W, Calls Tryd.prog 10 #[.string s] W fun e w' => e = .returned (.tuple #[.agg #[.int .u8 (a0.toNat : Int), .int .u8 (a1.toNat : Int), .int .u8 (a2.toNat : Int), .int .u8 (a3.toNat : Int)], .int .i64 0]) ∧ Below W.heap.size W w'))
    (k1 : (∀ W, Calls Tryd.prog 15 #[.string s] W fun e w' => e = .returned (.tuple #[.agg #[.int .u8 (a0.toNat : Int), .int .u8 (a1.toNat : Int), .int .u8 (a2.toNat : Int), .int .u8 (a3.toNat : Int)], .bool true]) ∧ Below W.heap.size W w'))
    (k2 : (∀ W, Calls Tryd.prog 11 #[.string s] W fun e w' => e = .returned (.tuple #[.agg #[.int .u8 (n0.toNat : Int), .int .u8 (n1.toNat : Int), .int .u8 (n2.toNat : Int), .int .u8 (n3.toNat : Int), .int .i64 nn], .int .i64 ne]) ∧ Below W.heap.size W w'))
    (k3 : (∀ W, Calls Tryd.prog 16 #[.string s] W fun e w' => e = .returned (.tuple #[.agg #[.int .u8 (n0.toNat : Int), .int .u8 (n1.toNat : Int), .int .u8 (n2.toNat : Int), .int .u8 (n3.toNat : Int), .int .i64 nn], .int .i64 ne]) ∧ Below W.heap.size W w'))
    (k4 : (∀ W, Calls Tryd.prog 12 #[.string s] W fun e w' => e = .returned (.tuple #[.agg #[.int .u8 (m0.toNat : Int), .int .u8 (m1.toNat : Int), .int .u8 (m2.toNat : Int), .int .u8 (m3.toNat : Int), .int .u8 (m4.toNat : Int), .int .u8 (m5.toNat : Int)], .int .i64 9]) ∧ Below W.heap.size W w'))
    (k5 : (∀ W, Calls Tryd.prog 17 #[.string s] W fun e w' => e = .returned (.tuple #[.agg #[.int .u8 (m0.toNat : Int), .int .u8 (m1.toNat : Int), .int .u8 (m2.toNat : Int), .int .u8 (m3.toNat : Int), .int .u8 (m4.toNat : Int), .int .u8 (m5.toNat : Int)], .bool false]) ∧ Below W.heap.size W w'))
    (w : World) (hT : Tab w) : Calls Tryd.prog 4 #[.string s] w fun e w' => e = .returned (.bool true) ∧ Below w.heap.size w w' := by
  have bel := Below.refl w.heap.size w
  have HT := Lib.hid hT
  clear hT
  have t0 : decide ((200 : Int) < s.size) = false := decide_eq_false (by omega)
  clear hs
  have e1 := fun W => self4 [a0, a1, a2, a3] rfl W
  have g1 := fun op x y W => guard4 op x y ([a0, a1, a2, a3].map u8v).toArray ([a0, a1, a2, a3].map u8v).toArray W
  have e2 := fun W => self4 [n0, n1, n2, n3] rfl W
  have g2 := fun op x y W => guard4 op x y ([n0, n1, n2, n3].map u8v).toArray ([n0, n1, n2, n3].map u8v).toArray W
  have e3 := fun W => self6 [m0, m1, m2, m3, m4, m5] rfl W
  have g3 := fun op x y W => guard_mac op x y ([m0, m1, m2, m3, m4, m5].map u8v).toArray ([m0, m1, m2, m3, m4, m5].map u8v).toArray W
  simp only [List.map_cons, List.map_nil, u8v] at e1 g1 e2 g2 e3 g3
  have K0 := Lib.hid k0; clear k0
  have K1 := Lib.hid k1; clear k1
  have K2 := Lib.hid k2; clear k2
  have K3 := Lib.hid k3; clear k3
  have K4 := Lib.hid k4; clear k4
  have K5 := Lib.hid k5; clear k5
  go_enter Tryd.func4, Tryd.ntmps4
  go_wp2_with fail
  with_reducible refine (awake3 _ HT.out).mono ?_
  rintro e w1 ⟨rfl, b1⟩
  replace bel := bel.trans (b1.mono bel.size)
  clear b1
  go_wp2_with fail
  with_reducible refine (K0.out _).mono ?_
  rintro e w2 ⟨rfl, b2⟩
  replace bel := bel.trans (b2.mono bel.size)
  clear b2
  have hx := heap_alloc_new w2 (.cells #[.int .u8 (a0.toNat : Int), .int .u8 (a1.toNat : Int), .int .u8 (a2.toNat : Int), .int .u8 (a3.toNat : Int)] 24)
  have zx : w2.heap.size < (w2.alloc (.cells #[.int .u8 (a0.toNat : Int), .int .u8 (a1.toNat : Int), .int .u8 (a2.toNat : Int), .int .u8 (a3.toNat : Int)] 24)).heap.size := by simp
  replace bel := bel.alloc bel.size (.cells #[.int .u8 (a0.toNat : Int), .int .u8 (a1.toNat : Int), .int .u8 (a2.toNat : Int), .int .u8 (a3.toNat : Int)] 24)
  go_wp2_with fail
  with_reducible refine (K1.out _).mono ?_
  rintro e w3 ⟨rfl, b3⟩
  replace hx := (b3.block _ zx).trans hx
  replace zx := Nat.lt_of_lt_of_le zx b3.size
  replace bel := bel.trans (b3.mono bel.size)
  clear b3
  have yx := zx
  replace hx := (Go.heap_alloc_old w3 (.cells #[.int .u8 (a0.toNat : Int), .int .u8 (a1.toNat : Int), .int .u8 (a2.toNat : Int), .int .u8 (a3.toNat : Int)] 24) (r := w2.heap.size) zx).trans hx
  have hy := heap_alloc_new w3 (.cells #[.int .u8 (a0.toNat : Int), .int .u8 (a1.toNat : Int), .int .u8 (a2.toNat : Int), .int .u8 (a3.toNat : Int)] 24)
  replace zx := Nat.lt_trans zx (show w3.heap.size < (w3.alloc (.cells #[.int .u8 (a0.toNat : Int), .int .u8 (a1.toNat : Int), .int .u8 (a2.toNat : Int), .int .u8 (a3.toNat : Int)] 24)).heap.size by simp)
  have zy : w3.heap.size < (w3.alloc (.cells #[.int .u8 (a0.toNat : Int), .int .u8 (a1.toNat : Int), .int .u8 (a2.toNat : Int), .int .u8 (a3.toNat : Int)] 24)).heap.size := by simp
  replace bel := bel.alloc bel.size (.cells #[.int .u8 (a0.toNat : Int), .int .u8 (a1.toNat : Int), .int .u8 (a2.toNat : Int), .int .u8 (a3.toNat : Int)] 24)
  go_wp2_with fail
  with_reducible refine (K2.out _).mono ?_
  rintro e w4 ⟨rfl, b4⟩
  clear yx
  replace hx := (b4.block _ zx).trans hx
  replace zx := Nat.lt_of_lt_of_le zx b4.size
  replace hy := (b4.block _ zy).trans hy
  replace zy := Nat.lt_of_lt_of_le zy b4.size
  replace bel := bel.trans (b4.mono bel.size)
  clear b4
  have yx := zx
  have yy := zy
  replace hx := (Go.heap_alloc_old w4 (.cells #[.int .u8 (n0.toNat : Int), .int .u8 (n1.toNat : Int), .int .u8 (n2.toNat : Int), .int .u8 (n3.toNat : Int), .int .i64 nn] 29) (r := w2.heap.size) zx).trans hx
  replace hy := (Go.heap_alloc_old w4 (.cells #[.int .u8 (n0.toNat : Int), .int .u8 (n1.toNat : Int), .int .u8 (n2.toNat : Int), .int .u8 (n3.toNat : Int), .int .i64 nn] 29) (r := w3.heap.size) zy).trans hy
  have hn := heap_alloc_new w4 (.cells #[.int .u8 (n0.toNat : Int), .int .u8 (n1.toNat : Int), .int .u8 (n2.toNat : Int), .int .u8 (n3.toNat : Int), .int .i64 nn] 29)
  replace zx := Nat.lt_trans zx (show w4.heap.size < (w4.alloc (.cells #[.int .u8 (n0.toNat : Int), .int .u8 (n1.toNat : Int), .int .u8 (n2.toNat : Int), .int .u8 (n3.toNat : Int), .int .i64 nn] 29)).heap.size by simp)
  replace zy := Nat.lt_trans zy (show w4.heap.size < (w4.alloc (.cells #[.int .u8 (n0.toNat : Int), .int .u8 (n1.toNat : Int), .int .u8 (n2.toNat : Int), .int .u8 (n3.toNat : Int), .int .i64 nn] 29)).heap.size by simp)
  have zn : w4.heap.size < (w4.alloc (.cells #[.int .u8 (n0.toNat : Int), .int .u8 (n1.toNat : Int), .int .u8 (n2.toNat : Int), .int .u8 (n3.toNat : Int), .int .i64 nn] 29)).heap.size := by simp
  replace bel := bel.alloc bel.size (.cells #[.int .u8 (n0.toNat : Int), .int .u8 (n1.toNat : Int), .int .u8 (n2.toNat : Int), .int .u8 (n3.toNat : Int), .int .i64 nn] 29)
  go_wp2_with fail
  with_reducible refine (K3.out _).mono ?_
  rintro e w5 ⟨rfl, b5⟩
  clear yx yy
  replace hx := (b5.block _ zx).trans hx
  replace zx := Nat.lt_of_lt_of_le zx b5.size
  replace hy := (b5.block _ zy).trans hy
  replace zy := Nat.lt_of_lt_of_le zy b5.size
  replace hn := (b5.block _ zn).trans hn
  replace zn := Nat.lt_of_lt_of_le zn b5.size
  replace bel := bel.trans (b5.mono bel.size)
  clear b5
  have yx := zx
  have yy := zy
  have yn := zn
  replace hx := (Go.heap_alloc_old w5 (.cells #[.int .u8 (n0.toNat : Int), .int .u8 (n1.toNat : Int), .int .u8 (n2.toNat : Int), .int .u8 (n3.toNat : Int), .int .i64 nn] 41) (r := w2.heap.size) zx).trans hx
  replace hy := (Go.heap_alloc_old w5 (.cells #[.int .u8 (n0.toNat : Int), .int .u8 (n1.toNat : Int), .int .u8 (n2.toNat : Int), .int .u8 (n3.toNat : Int), .int .i64 nn] 41) (r := w3.heap.size) zy).trans hy
  replace hn := (Go.heap_alloc_old w5 (.cells #[.int .u8 (n0.toNat : Int), .int .u8 (n1.toNat : Int), .int .u8 (n2.toNat : Int), .int .u8 (n3.toNat : Int), .int .i64 nn] 41) (r := w4.heap.size) zn).trans hn
  have hv := heap_alloc_new w5 (.cells #[.int .u8 (n0.toNat : Int), .int .u8 (n1.toNat : Int), .int .u8 (n2.toNat : Int), .int .u8 (n3.toNat : Int), .int .i64 nn] 41)
  replace zx := Nat.lt_trans zx (show w5.heap.size < (w5.alloc (.cells #[.int .u8 (n0.toNat : Int), .int .u8 (n1.toNat : Int), .int .u8 (n2.toNat : Int), .int .u8 (n3.toNat : Int), .int .i64 nn] 41)).heap.size by simp)
  replace zy := Nat.lt_trans zy (show w5.heap.size < (w5.alloc (.cells #[.int .u8 (n0.toNat : Int), .int .u8 (n1.toNat : Int), .int .u8 (n2.toNat : Int), .int .u8 (n3.toNat : Int), .int .i64 nn] 41)).heap.size by simp)
  replace zn := Nat.lt_trans zn (show w5.heap.size < (w5.alloc (.cells #[.int .u8 (n0.toNat : Int), .int .u8 (n1.toNat : Int), .int .u8 (n2.toNat : Int), .int .u8 (n3.toNat : Int), .int .i64 nn] 41)).heap.size by simp)
  have zv : w5.heap.size < (w5.alloc (.cells #[.int .u8 (n0.toNat : Int), .int .u8 (n1.toNat : Int), .int .u8 (n2.toNat : Int), .int .u8 (n3.toNat : Int), .int .i64 nn] 41)).heap.size := by simp
  replace bel := bel.alloc bel.size (.cells #[.int .u8 (n0.toNat : Int), .int .u8 (n1.toNat : Int), .int .u8 (n2.toNat : Int), .int .u8 (n3.toNat : Int), .int .i64 nn] 41)
  go_wp2_with fail
  with_reducible refine (K4.out _).mono ?_
  rintro e w6 ⟨rfl, b6⟩
  clear yx yy yn
  replace hx := (b6.block _ zx).trans hx
  replace zx := Nat.lt_of_lt_of_le zx b6.size
  replace hy := (b6.block _ zy).trans hy
  replace zy := Nat.lt_of_lt_of_le zy b6.size
  replace hn := (b6.block _ zn).trans hn
  replace zn := Nat.lt_of_lt_of_le zn b6.size
  replace hv := (b6.block _ zv).trans hv
  replace zv := Nat.lt_of_lt_of_le zv b6.size
  replace bel := bel.trans (b6.mono bel.size)
  clear b6
  have yx := zx
  have yy := zy
  have yn := zn
  have yv := zv
  replace hx := (Go.heap_alloc_old w6 (.cells #[.int .u8 (m0.toNat : Int), .int .u8 (m1.toNat : Int), .int .u8 (m2.toNat : Int), .int .u8 (m3.toNat : Int), .int .u8 (m4.toNat : Int), .int .u8 (m5.toNat : Int)] 33) (r := w2.heap.size) zx).trans hx
  replace hy := (Go.heap_alloc_old w6 (.cells #[.int .u8 (m0.toNat : Int), .int .u8 (m1.toNat : Int), .int .u8 (m2.toNat : Int), .int .u8 (m3.toNat : Int), .int .u8 (m4.toNat : Int), .int .u8 (m5.toNat : Int)] 33) (r := w3.heap.size) zy).trans hy
  replace hn := (Go.heap_alloc_old w6 (.cells #[.int .u8 (m0.toNat : Int), .int .u8 (m1.toNat : Int), .int .u8 (m2.toNat : Int), .int .u8 (m3.toNat : Int), .int .u8 (m4.toNat : Int), .int .u8 (m5.toNat : Int)] 33) (r := w4.heap.size) zn).trans hn
  replace hv := (Go.heap_alloc_old w6 (.cells #[.int .u8 (m0.toNat : Int), .int .u8 (m1.toNat : Int), .int .u8 (m2.toNat : Int), .int .u8 (m3.toNat : Int), .int .u8 (m4.toNat : Int), .int .u8 (m5.toNat : Int)] 33) (r := w5.heap.size) zv).trans hv
  have hp := heap_alloc_new w6 (.cells #[.int .u8 (m0.toNat : Int), .int .u8 (m1.toNat : Int), .int .u8 (m2.toNat : Int), .int .u8 (m3.toNat : Int), .int .u8 (m4.toNat : Int), .int .u8 (m5.toNat : Int)] 33)
  replace zx := Nat.lt_trans zx (show w6.heap.size < (w6.alloc (.cells #[.int .u8 (m0.toNat : Int), .int .u8 (m1.toNat : Int), .int .u8 (m2.toNat : Int), .int .u8 (m3.toNat : Int), .int .u8 (m4.toNat : Int), .int .u8 (m5.toNat : Int)] 33)).heap.size by simp)
  replace zy := Nat.lt_trans zy (show w6.heap.size < (w6.alloc (.cells #[.int .u8 (m0.toNat : Int), .int .u8 (m1.toNat : Int), .int .u8 (m2.toNat : Int), .int .u8 (m3.toNat : Int), .int .u8 (m4.toNat : Int), .int .u8 (m5.toNat : Int)] 33)).heap.size by simp)
  replace zn := Nat.lt_trans zn (show w6.heap.size < (w6.alloc (.cells #[.int .u8 (m0.toNat : Int), .int .u8 (m1.toNat : Int), .int .u8 (m2.toNat : Int), .int .u8 (m3.toNat : Int), .int .u8 (m4.toNat : Int), .int .u8 (m5.toNat : Int)] 33)).heap.size by simp)
  replace zv := Nat.lt_trans zv (show w6.heap.size < (w6.alloc (.cells #[.int .u8 (m0.toNat : Int), .int .u8 (m1.toNat : Int), .int .u8 (m2.toNat : Int), .int .u8 (m3.toNat : Int), .int .u8 (m4.toNat : Int), .int .u8 (m5.toNat : Int)] 33)).heap.size by simp)
  have zp : w6.heap.size < (w6.alloc (.cells #[.int .u8 (m0.toNat : Int), .int .u8 (m1.toNat : Int), .int .u8 (m2.toNat : Int), .int .u8 (m3.toNat : Int), .int .u8 (m4.toNat : Int), .int .u8 (m5.toNat : Int)] 33)).heap.size := by simp
  replace bel := bel.alloc bel.size (.cells #[.int .u8 (m0.toNat : Int), .int .u8 (m1.toNat : Int), .int .u8 (m2.toNat : Int), .int .u8 (m3.toNat : Int), .int .u8 (m4.toNat : Int), .int .u8 (m5.toNat : Int)] 33)
  go_wp2_with fail
  with_reducible refine (K5.out _).mono ?_
  rintro e w7 ⟨rfl, b7⟩
  clear yx yy yn yv
  replace hx := (b7.block _ zx).trans hx
  replace zx := Nat.lt_of_lt_of_le zx b7.size
  replace hy := (b7.block _ zy).trans hy
  replace zy := Nat.lt_of_lt_of_le zy b7.size
  replace hn := (b7.block _ zn).trans hn
  replace zn := Nat.lt_of_lt_of_le zn b7.size
  replace hv := (b7.block _ zv).trans hv
  replace zv := Nat.lt_of_lt_of_le zv b7.size
  replace hp := (b7.block _ zp).trans hp
  replace zp := Nat.lt_of_lt_of_le zp b7.size
  replace bel := bel.trans (b7.mono bel.size)
  clear b7
  obtain ⟨⟨cx0, cx1, cx2, cx3⟩, _⟩ := cells4 hx
  obtain ⟨⟨cy0, cy1, cy2, cy3⟩, _⟩ := cells4 hy
  obtain ⟨⟨cn0, cn1, cn2, cn3, cn4⟩, _⟩ := cells5 hn
  obtain ⟨⟨cv0, cv1, cv2, cv3, cv4⟩, _⟩ := cells5 hv
  obtain ⟨⟨cp0, cp1, cp2, cp3, cp4, cp5⟩, _⟩ := cells6 hp
  have yx := zx
  have yy := zy
  have yn := zn
  have yv := zv
  have yp := zp
  replace hx := (Go.heap_alloc_old w7 (.cells #[.int .u8 (m0.toNat : Int), .int .u8 (m1.toNat : Int), .int .u8 (m2.toNat : Int), .int .u8 (m3.toNat : Int), .int .u8 (m4.toNat : Int), .int .u8 (m5.toNat : Int)] 33) (r := w2.heap.size) zx).trans hx
  replace hy := (Go.heap_alloc_old w7 (.cells #[.int .u8 (m0.toNat : Int), .int .u8 (m1.toNat : Int), .int .u8 (m2.toNat : Int), .int .u8 (m3.toNat : Int), .int .u8 (m4.toNat : Int), .int .u8 (m5.toNat : Int)] 33) (r := w3.heap.size) zy).trans hy
  replace hn := (Go.heap_alloc_old w7 (.cells #[.int .u8 (m0.toNat : Int), .int .u8 (m1.toNat : Int), .int .u8 (m2.toNat : Int), .int .u8 (m3.toNat : Int), .int .u8 (m4.toNat : Int), .int .u8 (m5.toNat : Int)] 33) (r := w4.heap.size) zn).trans hn
  replace hv := (Go.heap_alloc_old w7 (.cells #[.int .u8 (m0.toNat : Int), .int .u8 (m1.toNat : Int), .int .u8 (m2.toNat : Int), .int .u8 (m3.toNat : Int), .int .u8 (m4.toNat : Int), .int .u8 (m5.toNat : Int)] 33) (r := w5.heap.size) zv).trans hv
  replace hp := (Go.heap_alloc_old w7 (.cells #[.int .u8 (m0.toNat : Int), .int .u8 (m1.toNat : Int), .int .u8 (m2.toNat : Int), .int .u8 (m3.toNat : Int), .int .u8 (m4.toNat : Int), .int .u8 (m5.toNat : Int)] 33) (r := w6.heap.size) zp).trans hp
  have hq := heap_alloc_new w7 (.cells #[.int .u8 (m0.toNat : Int), .int .u8 (m1.toNat : Int), .int .u8 (m2.toNat : Int), .int .u8 (m3.toNat : Int), .int .u8 (m4.toNat : Int), .int .u8 (m5.toNat : Int)] 33)
  replace zx := Nat.lt_trans zx (show w7.heap.size < (w7.alloc (.cells #[.int .u8 (m0.toNat : Int), .int .u8 (m1.toNat : Int), .int .u8 (m2.toNat : Int), .int .u8 (m3.toNat : Int), .int .u8 (m4.toNat : Int), .int .u8 (m5.toNat : Int)] 33)).heap.size by simp)
  replace zy := Nat.lt_trans zy (show w7.heap.size < (w7.alloc (.cells #[.int .u8 (m0.toNat : Int), .int .u8 (m1.toNat : Int), .int .u8 (m2.toNat : Int), .int .u8 (m3.toNat : Int), .int .u8 (m4.toNat : Int), .int .u8 (m5.toNat : Int)] 33)).heap.size by simp)
  replace zn := Nat.lt_trans zn (show w7.heap.size < (w7.alloc (.cells #[.int .u8 (m0.toNat : Int), .int .u8 (m1.toNat : Int), .int .u8 (m2.toNat : Int), .int .u8 (m3.toNat : Int), .int .u8 (m4.toNat : Int), .int .u8 (m5.toNat : Int)] 33)).heap.size by simp)
  replace zv := Nat.lt_trans zv (show w7.heap.size < (w7.alloc (.cells #[.int .u8 (m0.toNat : Int), .int .u8 (m1.toNat : Int), .int .u8 (m2.toNat : Int), .int .u8 (m3.toNat : Int), .int .u8 (m4.toNat : Int), .int .u8 (m5.toNat : Int)] 33)).heap.size by simp)
  replace zp := Nat.lt_trans zp (show w7.heap.size < (w7.alloc (.cells #[.int .u8 (m0.toNat : Int), .int .u8 (m1.toNat : Int), .int .u8 (m2.toNat : Int), .int .u8 (m3.toNat : Int), .int .u8 (m4.toNat : Int), .int .u8 (m5.toNat : Int)] 33)).heap.size by simp)
  have zq : w7.heap.size < (w7.alloc (.cells #[.int .u8 (m0.toNat : Int), .int .u8 (m1.toNat : Int), .int .u8 (m2.toNat : Int), .int .u8 (m3.toNat : Int), .int .u8 (m4.toNat : Int), .int .u8 (m5.toNat : Int)] 33)).heap.size := by simp
  replace bel := bel.alloc bel.size (.cells #[.int .u8 (m0.toNat : Int), .int .u8 (m1.toNat : Int), .int .u8 (m2.toNat : Int), .int .u8 (m3.toNat : Int), .int .u8 (m4.toNat : Int), .int .u8 (m5.toNat : Int)] 33)
  go_wp2
  go_ret
  exact ⟨rfl, bel⟩

set_option maxRecDepth 100000 in
set_option maxHeartbeats 16000000 in
theorem addrReads_01 (s : ByteArray) (a0 a1 a2 a3 n0 n1 n2 n3 m0 m1 m2 m3 m4 m5 : UInt8) (nn ne : Int) (hs : s.size ≤ 200)
    (k0 : (∀ W, Calls Tryd.prog 10 #[.string s] W fun e w' => e = .returned (.tuple #[.agg #[.int .u8 (a0.toNat : Int), .int .u8 (a1.toNat : Int), .int .u8 (a2.toNat : Int), .int .u8 (a3.toNat : Int)], .int .i64 9]) ∧ Below W.heap.size W w'))
    (k1 : (∀ W, Calls Tryd.prog 15 #[.string s] W fun e w' => e = .returned (.tuple #[.agg #[.int .u8 (a0.toNat : Int), .int .u8 (a1.toNat : Int), .int .u8 (a2.toNat : Int), .int .u8 (a3.toNat : Int)], .bool false]) ∧ Below W.heap.size W w'))
    (k2 : (∀ W, Calls Tryd.prog 11 #[.string s] W fun e w' => e = .returned (.tuple #[.agg #[.int .u8 (n0.toNat : Int), .int .u8 (n1.toNat : Int), .int .u8 (n2.toNat : Int), .int .u8 (n3.toNat : Int), .int .i64 nn], .int .i64 ne]) ∧ Below W.heap.size W w'))
    (k3 : (∀ W, Calls Tryd.prog 16 #[.string s] W fun e w' => e = .returned (.tuple #[.agg #[.int .u8 (n0.toNat : Int), .int .u8 (n1.toNat : Int), .int .u8 (n2.toNat : Int), .int .u8 (n3.toNat : Int), .int .i64 nn], .int .i64 ne]) ∧ Below W.heap.size W w'))
    (k4 : (∀ W, Calls Tryd.prog 12 #[.string s] W fun e w' => e = .returned (.tuple #[.agg #[.int .u8 (m0.toNat : Int), .int .u8 (m1.toNat : Int), .int .u8 (m2.toNat : Int), .int .u8 (m3.toNat : Int), .int .u8 (m4.toNat : Int), .int .u8 (m5.toNat : Int)], .int .i64 0]) ∧ Below W.heap.size W w'))
    (k5 : (∀ W, Calls Tryd.prog 17 #[.string s] W fun e w' => e = .returned (.tuple #[.agg #[.int .u8 (m0.toNat : Int), .int .u8 (m1.toNat : Int), .int .u8 (m2.toNat : Int), .int .u8 (m3.toNat : Int), .int .u8 (m4.toNat : Int), .int .u8 (m5.toNat : Int)], .bool true]) ∧ Below W.heap.size W w'))
    (w : World) (hT : Tab w) : Calls Tryd.prog 4 #[.string s] w fun e w' => e = .returned (.bool true) ∧ Below w.heap.size w w' := by
  have bel := Below.refl w.heap.size w
  have HT := Lib.hid hT
  clear hT
  have t0 : decide ((200 : Int) < s.size) = false := decide_eq_false (by omega)
  clear hs
  have e1 := fun W => self4 [a0, a1, a2, a3] rfl W
  have g1 := fun op x y W => guard4 op x y ([a0, a1, a2, a3].map u8v).toArray ([a0, a1, a2, a3].map u8v).toArray W
  have e2 := fun W => self4 [n0, n1, n2, n3] rfl W
  have g2 := fun op x y W => guard4 op x y ([n0, n1, n2, n3].map u8v).toArray ([n0, n1, n2, n3].map u8v).toArray W
  have e3 := fun W => self6 [m0, m1, m2, m3, m4, m5] rfl W
  have g3 := fun op x y W => guard_mac op x y ([m0, m1, m2, m3, m4, m5].map u8v).toArray ([m0, m1, m2, m3, m4, m5].map u8v).toArray W
  simp only [List.map_cons, List.map_nil, u8v] at e1 g1 e2 g2 e3 g3
  have K0 := Lib.hid k0; clear k0
  have K1 := Lib.hid k1; clear k1
  have K2 := Lib.hid k2; clear k2
  have K3 := Lib.hid k3; clear k3
  have K4 := Lib.hid k4; clear k4
  have K5 := Lib.hid k5; clear k5
  go_enter Tryd.func4, Tryd.ntmps4
  go_wp2_with fail
  with_reducible refine (awake3 _ HT.out).mono ?_
  rintro e w1 ⟨rfl, b1⟩
  replace bel := bel.trans (b1.mono bel.size)
  clear b1
  go_wp2_with fail
  with_reducible refine (K0.out _).mono ?_
  rintro e w2 ⟨rfl, b2⟩
  replace bel := bel.trans (b2.mono bel.size)
  clear b2
  have hx := heap_alloc_new w2 (.cells #[.int .u8 (a0.toNat : Int), .int .u8 (a1.toNat : Int), .int .u8 (a2.toNat : Int), .int .u8 (a3.toNat : Int)] 24)
  have zx : w2.heap.size < (w2.alloc (.cells #[.int .u8 (a0.toNat : Int), .int .u8 (a1.toNat : Int), .int .u8 (a2.toNat : Int), .int .u8 (a3.toNat : Int)] 24)).heap.size := by simp
  replace bel := bel.alloc bel.size (.cells #[.int .u8 (a0.toNat : Int), .int .u8 (a1.toNat : Int), .int .u8 (a2.toNat : Int), .int .u8 (a3.toNat : Int)] 24)
  go_wp2_with fail
  with_reducible refine (K1.out _).mono ?_
  rintro e w3 ⟨rfl, b3⟩
  replace hx := (b3.block _ zx).trans hx
  replace zx := Nat.lt_of_lt_of_le zx b3.size
  replace bel := bel.trans (b3.mono bel.size)
  clear b3
  have yx := zx
  replace hx := (Go.heap_alloc_old w3 (.cells #[.int .u8 (a0.toNat : Int), .int .u8 (a1.toNat : Int), .int .u8 (a2.toNat : Int), .int .u8 (a3.toNat : Int)] 24) (r := w2.heap.size) zx).trans hx
  have hy := heap_alloc_new w3 (.cells #[.int .u8 (a0.toNat : Int), .int .u8 (a1.toNat : Int), .int .u8 (a2.toNat : Int), .int .u8 (a3.toNat : Int)] 24)
  replace zx := Nat.lt_trans zx (show w3.heap.size < (w3.alloc (.cells #[.int .u8 (a0.toNat : Int), .int .u8 (a1.toNat : Int), .int .u8 (a2.toNat : Int), .int .u8 (a3.toNat : Int)] 24)).heap.size by simp)
  have zy : w3.heap.size < (w3.alloc (.cells #[.int .u8 (a0.toNat : Int), .int .u8 (a1.toNat : Int), .int .u8 (a2.toNat : Int), .int .u8 (a3.toNat : Int)] 24)).heap.size := by simp
  replace bel := bel.alloc bel.size (.cells #[.int .u8 (a0.toNat : Int), .int .u8 (a1.toNat : Int), .int .u8 (a2.toNat : Int), .int .u8 (a3.toNat : Int)] 24)
  go_wp2_with fail
  with_reducible refine (K2.out _).mono ?_
  rintro e w4 ⟨rfl, b4⟩
  clear yx
  replace hx := (b4.block _ zx).trans hx
  replace zx := Nat.lt_of_lt_of_le zx b4.size
  replace hy := (b4.block _ zy).trans hy
  replace zy := Nat.lt_of_lt_of_le zy b4.size
  replace bel := bel.trans (b4.mono bel.size)
  clear b4
  have yx := zx
  have yy := zy
  replace hx := (Go.heap_alloc_old w4 (.cells #[.int .u8 (n0.toNat : Int), .int .u8 (n1.toNat : Int), .int .u8 (n2.toNat : Int), .int .u8 (n3.toNat : Int), .int .i64 nn] 29) (r := w2.heap.size) zx).trans hx
  replace hy := (Go.heap_alloc_old w4 (.cells #[.int .u8 (n0.toNat : Int), .int .u8 (n1.toNat : Int), .int .u8 (n2.toNat : Int), .int .u8 (n3.toNat : Int), .int .i64 nn] 29) (r := w3.heap.size) zy).trans hy
  have hn := heap_alloc_new w4 (.cells #[.int .u8 (n0.toNat : Int), .int .u8 (n1.toNat : Int), .int .u8 (n2.toNat : Int), .int .u8 (n3.toNat : Int), .int .i64 nn] 29)
  replace zx := Nat.lt_trans zx (show w4.heap.size < (w4.alloc (.cells #[.int .u8 (n0.toNat : Int), .int .u8 (n1.toNat : Int), .int .u8 (n2.toNat : Int), .int .u8 (n3.toNat : Int), .int .i64 nn] 29)).heap.size by simp)
  replace zy := Nat.lt_trans zy (show w4.heap.size < (w4.alloc (.cells #[.int .u8 (n0.toNat : Int), .int .u8 (n1.toNat : Int), .int .u8 (n2.toNat : Int), .int .u8 (n3.toNat : Int), .int .i64 nn] 29)).heap.size by simp)
  have zn : w4.heap.size < (w4.alloc (.cells #[.int .u8 (n0.toNat : Int), .int .u8 (n1.toNat : Int), .int .u8 (n2.toNat : Int), .int .u8 (n3.toNat : Int), .int .i64 nn] 29)).heap.size := by simp
  replace bel := bel.alloc bel.size (.cells #[.int .u8 (n0.toNat : Int), .int .u8 (n1.toNat : Int), .int .u8 (n2.toNat : Int), .int .u8 (n3.toNat : Int), .int .i64 nn] 29)
  go_wp2_with fail
  with_reducible refine (K3.out _).mono ?_
  rintro e w5 ⟨rfl, b5⟩
  clear yx yy
  replace hx := (b5.block _ zx).trans hx
  replace zx := Nat.lt_of_lt_of_le zx b5.size
  replace hy := (b5.block _ zy).trans hy
  replace zy := Nat.lt_of_lt_of_le zy b5.size
  replace hn := (b5.block _ zn).trans hn
  replace zn := Nat.lt_of_lt_of_le zn b5.size
  replace bel := bel.trans (b5.mono bel.size)
  clear b5
  have yx := zx
  have yy := zy
  have yn := zn
  replace hx := (Go.heap_alloc_old w5 (.cells #[.int .u8 (n0.toNat : Int), .int .u8 (n1.toNat : Int), .int .u8 (n2.toNat : Int), .int .u8 (n3.toNat : Int), .int .i64 nn] 41) (r := w2.heap.size) zx).trans hx
  replace hy := (Go.heap_alloc_old w5 (.cells #[.int .u8 (n0.toNat : Int), .int .u8 (n1.toNat : Int), .int .u8 (n2.toNat : Int), .int .u8 (n3.toNat : Int), .int .i64 nn] 41) (r := w3.heap.size) zy).trans hy
  replace hn := (Go.heap_alloc_old w5 (.cells #[.int .u8 (n0.toNat : Int), .int .u8 (n1.toNat : Int), .int .u8 (n2.toNat : Int), .int .u8 (n3.toNat : Int), .int .i64 nn] 41) (r := w4.heap.size) zn).trans hn
  have hv := heap_alloc_new w5 (.cells #[.int .u8 (n0.toNat : Int), .int .u8 (n1.toNat : Int), .int .u8 (n2.toNat : Int), .int .u8 (n3.toNat : Int), .int .i64 nn] 41)
  replace zx := Nat.lt_trans zx (show w5.heap.size < (w5.alloc (.cells #[.int .u8 (n0.toNat : Int), .int .u8 (n1.toNat : Int), .int .u8 (n2.toNat : Int), .int .u8 (n3.toNat : Int), .int .i64 nn] 41)).heap.size by simp)
  replace zy := Nat.lt_trans zy (show w5.heap.size < (w5.alloc (.cells #[.int .u8 (n0.toNat : Int), .int .u8 (n1.toNat : Int), .int .u8 (n2.toNat : Int), .int .u8 (n3.toNat : Int), .int .i64 nn] 41)).heap.size by simp)
  replace zn := Nat.lt_trans zn (show w5.heap.size < (w5.alloc (.cells #[.int .u8 (n0.toNat : Int), .int .u8 (n1.toNat : Int), .int .u8 (n2.toNat : Int), .int .u8 (n3.toNat : Int), .int .i64 nn] 41)).heap.size by simp)
  have zv : w5.heap.size < (w5.alloc (.cells #[.int .u8 (n0.toNat : Int), .int .u8 (n1.toNat : Int), .int .u8 (n2.toNat : Int), .int .u8 (n3.toNat : Int), .int .i64 nn] 41)).heap.size := by simp
  replace bel := bel.alloc bel.size (.cells #[.int .u8 (n0.toNat : Int), .int .u8 (n1.toNat : Int), .int .u8 (n2.toNat : Int), .int .u8 (n3.toNat : Int), .int .i64 nn] 41)
  go_wp2_with fail
  with_reducible refine (K4.out _).mono ?_
  rintro e w6 ⟨rfl, b6⟩
  clear yx yy yn
  replace hx := (b6.block _ zx).trans hx
  replace zx := Nat.lt_of_lt_of_le zx b6.size
  replace hy := (b6.block _ zy).trans hy
  replace zy := Nat.lt_of_lt_of_le zy b6.size
  replace hn := (b6.block _ zn).trans hn
  replace zn := Nat.lt_of_lt_of_le zn b6.size
  replace hv := (b6.block _ zv).trans hv
  replace zv := Nat.lt_of_lt_of_le zv b6.size
  replace bel := bel.trans (b6.mono bel.size)
  clear b6
  have yx := zx
  have yy := zy
  have yn := zn
  have yv := zv
  replace hx := (Go.heap_alloc_old w6 (.cells #[.int .u8 (m0.toNat : Int), .int .u8 (m1.toNat : Int), .int .u8 (m2.toNat : Int), .int .u8 (m3.toNat : Int), .int .u8 (m4.toNat : Int), .int .u8 (m5.toNat : Int)] 33) (r := w2.heap.size) zx).trans hx
  replace hy := (Go.heap_alloc_old w6 (.cells #[.int .u8 (m0.toNat : Int), .int .u8 (m1.toNat : Int), .int .u8 (m2.toNat : Int), .int .u8 (m3.toNat : Int), .int .u8 (m4.toNat : Int), .int .u8 (m5.toNat : Int)] 33) (r := w3.heap.size) zy).trans hy
  replace hn := (Go.heap_alloc_old w6 (.cells #[.int .u8 (m0.toNat : Int), .int .u8 (m1.toNat : Int), .int .u8 (m2.toNat : Int), .int .u8 (m3.toNat : Int), .int .u8 (m4.toNat : Int), .int .u8 (m5.toNat : Int)] 33) (r := w4.heap.size) zn).trans hn
  replace hv := (Go.heap_alloc_old w6 (.cells #[.int .u8 (m0.toNat : Int), .int .u8 (m1.toNat : Int), .int .u8 (m2.toNat : Int), .int .u8 (m3.toNat : Int), .int .u8 (m4.toNat : Int), .int .u8 (m5.toNat : Int)] 33) (r := w5.heap.size) zv).trans hv
  have hp := heap_alloc_new w6 (.cells #[.int .u8 (m0.toNat : Int), .int .u8 (m1.toNat : Int), .int .u8 (m2.toNat : Int), .int .u8 (m3.toNat : Int), .int .u8 (m4.toNat : Int), .int .u8 (m5.toNat : Int)] 33)
  replace zx := Nat.lt_trans zx (show w6.heap.size < (w6.alloc (.cells #[.int .u8 (m0.toNat : Int), .int .u8 (m1.toNat : Int), .int .u8 (m2.toNat : Int), .int .u8 (m3.toNat : Int), .int .u8 (m4.toNat : Int), .int .u8 (m5.toNat : Int)] 33)).heap.size by simp)
  replace zy := Nat.lt_trans zy (show w6.heap.size < (w6.alloc (.cells #[.int .u8 (m0.toNat : Int), .int .u8 (m1.toNat : Int), .int .u8 (m2.toNat : Int), .int .u8 (m3.toNat : Int), .int .u8 (m4.toNat : Int), .int .u8 (m5.toNat : Int)] 33)).heap.size by simp)
  replace zn := Nat.lt_trans zn (show w6.heap.size < (w6.alloc (.cells #[.int .u8 (m0.toNat : Int), .int .u8 (m1.toNat : Int), .int .u8 (m2.toNat : Int), .int .u8 (m3.toNat : Int), .int .u8 (m4.toNat : Int), .int .u8 (m5.toNat : Int)] 33)).heap.size by simp)
  replace zv := Nat.lt_trans zv (show w6.heap.size < (w6.alloc (.cells #[.int .u8 (m0.toNat : Int), .int .u8 (m1.toNat : Int), .int .u8 (m2.toNat : Int), .int .u8 (m3.toNat : Int), .int .u8 (m4.toNat : Int), .int .u8 (m5.toNat : Int)] 33)).heap.size by simp)
  have zp : w6.heap.size < (w6.alloc (.cells #[.int .u8 (m0.toNat : Int), .int .u8 (m1.toNat : Int), .int .u8 (m2.toNat : Int), .int .u8 (m3.toNat : Int), .int .u8 (m4.toNat : Int), .int .u8 (m5.toNat : Int)] 33)).heap.size := by simp
  replace bel := bel.alloc bel.size (.cells #[.int .u8 (m0.toNat : Int), .int .u8 (m1.toNat : Int), .int .u8 (m2.toNat : Int), .int .u8 (m3.toNat : Int), .int .u8 (m4.toNat : Int), .int .u8 (m5.toNat : Int)] 33)
  go_wp2_with fail
  with_reducible refine (K5.out _).mono ?_
  rintro e w7 ⟨rfl, b7⟩
  clear yx yy yn yv
  replace hx := (b7.block _ zx).trans hx
  replace zx := Nat.lt_of_lt_of_le zx b7.size
  replace hy := (b7.block _ zy).trans hy
  replace zy := Nat.lt_of_lt_of_le zy b7.size
  replace hn := (b7.block _ zn).trans hn
  replace zn := Nat.lt_of_lt_of_le zn b7.size
  replace hv := (b7.block _ zv).trans hv
  replace zv := Nat.lt_of_lt_of_le zv b7.size
  replace hp := (b7.block _ zp).trans hp
  replace zp := Nat.lt_of_lt_of_le zp b7.size
  replace bel := bel.trans (b7.mono bel.size)
  clear b7
  obtain ⟨⟨cx0, cx1, cx2, cx3⟩, _⟩ := cells4 hx
  obtain ⟨⟨cy0, cy1, cy2, cy3⟩, _⟩ := cells4 hy
  obtain ⟨⟨cn0, cn1, cn2, cn3, cn4⟩, _⟩ := cells5 hn
  obtain ⟨⟨cv0, cv1, cv2, cv3, cv4⟩, _⟩ := cells5 hv
  obtain ⟨⟨cp0, cp1, cp2, cp3, cp4, cp5⟩, _⟩ := cells6 hp
  have yx := zx
  have yy := zy
  have yn := zn
  have yv := zv
  have yp := zp
  replace hx := (Go.heap_alloc_old w7 (.cells #[.int .u8 (m0.toNat : Int), .int .u8 (m1.toNat : Int), .int .u8 (m2.toNat : Int), .int .u8 (m3.toNat : Int), .int .u8 (m4.toNat : Int), .int .u8 (m5.toNat : Int)] 33) (r := w2.heap.size) zx).trans hx
  replace hy := (Go.heap_alloc_old w7 (.cells #[.int .u8 (m0.toNat : Int), .int .u8 (m1.toNat : Int), .int .u8 (m2.toNat : Int), .int .u8 (m3.toNat : Int), .int .u8 (m4.toNat : Int), .int .u8 (m5.toNat : Int)] 33) (r := w3.heap.size) zy).trans hy
  replace hn := (Go.heap_alloc_old w7 (.cells #[.int .u8 (m0.toNat : Int), .int .u8 (m1.toNat : Int), .int .u8 (m2.toNat : Int), .int .u8 (m3.toNat : Int), .int .u8 (m4.toNat : Int), .int .u8 (m5.toNat : Int)] 33) (r := w4.heap.size) zn).trans hn
  replace hv := (Go.heap_alloc_old w7 (.cells #[.int .u8 (m0.toNat : Int), .int .u8 (m1.toNat : Int), .int .u8 (m2.toNat : Int), .int .u8 (m3.toNat : Int), .int .u8 (m4.toNat : Int), .int .u8 (m5.toNat : Int)] 33) (r := w5.heap.size) zv).trans hv
  replace hp := (Go.heap_alloc_old w7 (.cells #[.int .u8 (m0.toNat : Int), .int .u8 (m1.toNat : Int), .int .u8 (m2.toNat : Int), .int .u8 (m3.toNat : Int), .int .u8 (m4.toNat : Int), .int .u8 (m5.toNat : Int)] 33) (r := w6.heap.size) zp).trans hp
  have hq := heap_alloc_new w7 (.cells #[.int .u8 (m0.toNat : Int), .int .u8 (m1.toNat : Int), .int .u8 (m2.toNat : Int), .int .u8 (m3.toNat : Int), .int .u8 (m4.toNat : Int), .int .u8 (m5.toNat : Int)] 33)
  replace zx := Nat.lt_trans zx (show w7.heap.size < (w7.alloc (.cells #[.int .u8 (m0.toNat : Int), .int .u8 (m1.toNat : Int), .int .u8 (m2.toNat : Int), .int .u8 (m3.toNat : Int), .int .u8 (m4.toNat : Int), .int .u8 (m5.toNat : Int)] 33)).heap.size by simp)
  replace zy := Nat.lt_trans zy (show w7.heap.size < (w7.alloc (.cells #[.int .u8 (m0.toNat : Int), .int .u8 (m1.toNat : Int), .int .u8 (m2.toNat : Int), .int .u8 (m3.toNat : Int), .int .u8 (m4.toNat : Int), .int .u8 (m5.toNat : Int)] 33)).heap.size by simp)
  replace zn := Nat.lt_trans zn (show w7.heap.size < (w7.alloc (.cells #[.int .u8 (m0.toNat : Int), .int .u8 (m1.toNat : Int), .int .u8 (m2.toNat : Int), .int .u8 (m3.toNat : Int), .int .u8 (m4.toNat : Int), .int .u8 (m5.toNat : Int)] 33)).heap.size by simp)
  replace zv := Nat.lt_trans zv (show w7.heap.size < (w7.alloc (.cells #[.int .u8 (m0.toNat : Int), .int .u8 (m1.toNat : Int), .int .u8 (m2.toNat : Int), .int .u8 (m3.toNat : Int), .int .u8 (m4.toNat : Int), .int .u8 (m5.toNat : Int)] 33)).heap.size by simp)
  replace zp := Nat.lt_trans zp (show w7.heap.size < (w7.alloc (.cells #[.int .u8 (m0.toNat : Int), .int .u8 (m1.toNat : Int), .int .u8 (m2.toNat : Int), .int .u8 (m3.toNat : Int), .int .u8 (m4.toNat : Int), .int .u8 (m5.toNat : Int)] 33)).heap.size by simp)
  have zq : w7.heap.size < (w7.alloc (.cells #[.int .u8 (m0.toNat : Int), .int .u8 (m1.toNat : Int), .int .u8 (m2.toNat : Int), .int .u8 (m3.toNat : Int), .int .u8 (m4.toNat : Int), .int .u8 (m5.toNat : Int)] 33)).heap.size := by simp
  replace bel := bel.alloc bel.size (.cells #[.int .u8 (m0.toNat : Int), .int .u8 (m1.toNat : Int), .int .u8 (m2.toNat : Int), .int .u8 (m3.toNat : Int), .int .u8 (m4.toNat : Int), .int .u8 (m5.toNat : Int)] 33)
  go_wp2
  go_ret
  exact ⟨rfl, bel⟩

set_option maxRecDepth 100000 in
set_option maxHeartbeats 16000000 in
theorem addrReads_00 (s : ByteArray) (a0 a1 a2 a3 n0 n1 n2 n3 m0 m1 m2 m3 m4 m5 : UInt8) (nn ne : Int) (hs : s.size ≤ 200)
    (k0 : (∀ W, Calls Tryd.prog 10 #[.string s] W fun e w' => e = .returned (.tuple #[.agg #[.int .u8 (a0.toNat : Int), .int .u8 (a1.toNat : Int), .int .u8 (a2.toNat : Int), .int .u8 (a3.toNat : Int)], .int .i64 9]) ∧ Below W.heap.size W w'))
    (k1 : (∀ W, Calls Tryd.prog 15 #[.string s] W fun e w' => e = .returned (.tuple #[.agg #[.int .u8 (a0.toNat : Int), .int .u8 (a1.toNat : Int), .int .u8 (a2.toNat : Int), .int .u8 (a3.toNat : Int)], .bool false]) ∧ Below W.heap.size W w'))
    (k2 : (∀ W, Calls Tryd.prog 11 #[.string s] W fun e w' => e = .returned (.tuple #[.agg #[.int .u8 (n0.toNat : Int), .int .u8 (n1.toNat : Int), .int .u8 (n2.toNat : Int), .int .u8 (n3.toNat : Int), .int .i64 nn], .int .i64 ne]) ∧ Below W.heap.size W w'))
    (k3 : (∀ W, Calls Tryd.prog 16 #[.string s] W fun e w' => e = .returned (.tuple #[.agg #[.int .u8 (n0.toNat : Int), .int .u8 (n1.toNat : Int), .int .u8 (n2.toNat : Int), .int .u8 (n3.toNat : Int), .int .i64 nn], .int .i64 ne]) ∧ Below W.heap.size W w'))
    (k4 : (∀ W, Calls Tryd.prog 12 #[.string s] W fun e w' => e = .returned (.tuple #[.agg #[.int .u8 (m0.toNat : Int), .int .u8 (m1.toNat : Int), .int .u8 (m2.toNat : Int), .int .u8 (m3.toNat : Int), .int .u8 (m4.toNat : Int), .int .u8 (m5.toNat : Int)], .int .i64 9]) ∧ Below W.heap.size W w'))
    (k5 : (∀ W, Calls Tryd.prog 17 #[.string s] W fun e w' => e = .returned (.tuple #[.agg #[.int .u8 (m0.toNat : Int), .int .u8 (m1.toNat : Int), .int .u8 (m2.toNat : Int), .int .u8 (m3.toNat : Int), .int .u8 (m4.toNat : Int), .int .u8 (m5.toNat : Int)], .bool false]) ∧ Below W.heap.size W w'))
    (w : World) (hT : Tab w) : Calls Tryd.prog 4 #[.string s] w fun e w' => e = .returned (.bool true) ∧ Below w.heap.size w w' := by
  have bel := Below.refl w.heap.size w
  have HT := Lib.hid hT
  clear hT
  have t0 : decide ((200 : Int) < s.size) = false := decide_eq_false (by omega)
  clear hs
  have e1 := fun W => self4 [a0, a1, a2, a3] rfl W
  have g1 := fun op x y W => guard4 op x y ([a0, a1, a2, a3].map u8v).toArray ([a0, a1, a2, a3].map u8v).toArray W
  have e2 := fun W => self4 [n0, n1, n2, n3] rfl W
  have g2 := fun op x y W => guard4 op x y ([n0, n1, n2, n3].map u8v).toArray ([n0, n1, n2, n3].map u8v).toArray W
  have e3 := fun W => self6 [m0, m1, m2, m3, m4, m5] rfl W
  have g3 := fun op x y W => guard_mac op x y ([m0, m1, m2, m3, m4, m5].map u8v).toArray ([m0, m1, m2, m3, m4, m5].map u8v).toArray W
  simp only [List.map_cons, List.map_nil, u8v] at e1 g1 e2 g2 e3 g3
  have K0 := Lib.hid k0; clear k0
  have K1 := Lib.hid k1; clear k1
  have K2 := Lib.hid k2; clear k2
  have K3 := Lib.hid k3; clear k3
  have K4 := Lib.hid k4; clear k4
  have K5 := Lib.hid k5; clear k5
  go_enter Tryd.func4, Tryd.ntmps4
  go_wp2_with fail
  with_reducible refine (awake3 _ HT.out).mono ?_
  rintro e w1 ⟨rfl, b1⟩
  replace bel := bel.trans (b1.mono bel.size)
  clear b1
  go_wp2_with fail
  with_reducible refine (K0.out _).mono ?_
  rintro e w2 ⟨rfl, b2⟩
  replace bel := bel.trans (b2.mono bel.size)
  clear b2
  have hx := heap_alloc_new w2 (.cells #[.int .u8 (a0.toNat : Int), .int .u8 (a1.toNat : Int), .int .u8 (a2.toNat : Int), .int .u8 (a3.toNat : Int)] 24)
  have zx : w2.heap.size < (w2.alloc (.cells #[.int .u8 (a0.toNat : Int), .int .u8 (a1.toNat : Int), .int .u8 (a2.toNat : Int), .int .u8 (a3.toNat : Int)] 24)).heap.size := by simp
  replace bel := bel.alloc bel.size (.cells #[.int .u8 (a0.toNat : Int), .int .u8 (a1.toNat : Int), .int .u8 (a2.toNat : Int), .int .u8 (a3.toNat : Int)] 24)
  go_wp2_with fail
  with_reducible refine (K1.out _).mono ?_
  rintro e w3 ⟨rfl, b3⟩
  replace hx := (b3.block _ zx).trans hx
  replace zx := Nat.lt_of_lt_of_le zx b3.size
  replace bel := bel.trans (b3.mono bel.size)
  clear b3
  have yx := zx
  replace hx := (Go.heap_alloc_old w3 (.cells #[.int .u8 (a0.toNat : Int), .int .u8 (a1.toNat : Int), .int .u8 (a2.toNat : Int), .int .u8 (a3.toNat : Int)] 24) (r := w2.heap.size) zx).trans hx
  have hy := heap_alloc_new w3 (.cells #[.int .u8 (a0.toNat : Int), .int .u8 (a1.toNat : Int), .int .u8 (a2.toNat : Int), .int .u8 (a3.toNat : Int)] 24)
  replace zx := Nat.lt_trans zx (show w3.heap.size < (w3.alloc (.cells #[.int .u8 (a0.toNat : Int), .int .u8 (a1.toNat : Int), .int .u8 (a2.toNat : Int), .int .u8 (a3.toNat : Int)] 24)).heap.size by simp)
  have zy : w3.heap.size < (w3.alloc (.cells #[.int .u8 (a0.toNat : Int), .int .u8 (a1.toNat : Int), .int .u8 (a2.toNat : Int), .int .u8 (a3.toNat : Int)] 24)).heap.size := by simp
  replace bel := bel.alloc bel.size (.cells #[.int .u8 (a0.toNat : Int), .int .u8 (a1.toNat : Int), .int .u8 (a2.toNat : Int), .int .u8 (a3.toNat : Int)] 24)
  go_wp2_with fail
  with_reducible refine (K2.out _).mono ?_
  rintro e w4 ⟨rfl, b4⟩
  clear yx
  replace hx := (b4.block _ zx).trans hx
  replace zx := Nat.lt_of_lt_of_le zx b4.size
  replace hy := (b4.block _ zy).trans hy
  replace zy := Nat.lt_of_lt_of_le zy b4.size
  replace bel := bel.trans (b4.mono bel.size)
  clear b4
  have yx := zx
  have yy := zy
  replace hx := (Go.heap_alloc_old w4 (.cells #[.int .u8 (n0.toNat : Int), .int .u8 (n1.toNat : Int), .int .u8 (n2.toNat : Int), .int .u8 (n3.toNat : Int), .int .i64 nn] 29) (r := w2.heap.size) zx).trans hx
  replace hy := (Go.heap_alloc_old w4 (.cells #[.int .u8 (n0.toNat : Int), .int .u8 (n1.toNat : Int), .int .u8 (n2.toNat : Int), .int .u8 (n3.toNat : Int), .int .i64 nn] 29) (r := w3.heap.size) zy).trans hy
  have hn := heap_alloc_new w4 (.cells #[.int .u8 (n0.toNat : Int), .int .u8 (n1.toNat : Int), .int .u8 (n2.toNat : Int), .int .u8 (n3.toNat : Int), .int .i64 nn] 29)
  replace zx := Nat.lt_trans zx (show w4.heap.size < (w4.alloc (.cells #[.int .u8 (n0.toNat : Int), .int .u8 (n1.toNat : Int), .int .u8 (n2.toNat : Int), .int .u8 (n3.toNat : Int), .int .i64 nn] 29)).heap.size by simp)
  replace zy := Nat.lt_trans zy (show w4.heap.size < (w4.alloc (.cells #[.int .u8 (n0.toNat : Int), .int .u8 (n1.toNat : Int), .int .u8 (n2.toNat : Int), .int .u8 (n3.toNat : Int), .int .i64 nn] 29)).heap.size by simp)
  have zn : w4.heap.size < (w4.alloc (.cells #[.int .u8 (n0.toNat : Int), .int .u8 (n1.toNat : Int), .int .u8 (n2.toNat : Int), .int .u8 (n3.toNat : Int), .int .i64 nn] 29)).heap.size := by simp
  replace bel := bel.alloc bel.size (.cells #[.int .u8 (n0.toNat : Int), .int .u8 (n1.toNat : Int), .int .u8 (n2.toNat : Int), .int .u8 (n3.toNat : Int), .int .i64 nn] 29)
  go_wp2_with fail
  with_reducible refine (K3.out _).mono ?_
  rintro e w5 ⟨rfl, b5⟩
  clear yx yy
  replace hx := (b5.block _ zx).trans hx
  replace zx := Nat.lt_of_lt_of_le zx b5.size
  replace hy := (b5.block _ zy).trans hy
  replace zy := Nat.lt_of_lt_of_le zy b5.size
  replace hn := (b5.block _ zn).trans hn
  replace zn := Nat.lt_of_lt_of_le zn b5.size
  replace bel := bel.trans (b5.mono bel.size)
  clear b5
  have yx := zx
  have yy := zy
  have yn := zn
  replace hx := (Go.heap_alloc_old w5 (.cells #[.int .u8 (n0.toNat : Int), .int .u8 (n1.toNat : Int), .int .u8 (n2.toNat : Int), .int .u8 (n3.toNat : Int), .int .i64 nn] 41) (r := w2.heap.size) zx).trans hx
  replace hy := (Go.heap_alloc_old w5 (.cells #[.int .u8 (n0.toNat : Int), .int .u8 (n1.toNat : Int), .int .u8 (n2.toNat : Int), .int .u8 (n3.toNat : Int), .int .i64 nn] 41) (r := w3.heap.size) zy).trans hy
  replace hn := (Go.heap_alloc_old w5 (.cells #[.int .u8 (n0.toNat : Int), .int .u8 (n1.toNat : Int), .int .u8 (n2.toNat : Int), .int .u8 (n3.toNat : Int), .int .i64 nn] 41) (r := w4.heap.size) zn).trans hn
  have hv := heap_alloc_new w5 (.cells #[.int .u8 (n0.toNat : Int), .int .u8 (n1.toNat : Int), .int .u8 (n2.toNat : Int), .int .u8 (n3.toNat : Int), .int .i64 nn] 41)
  replace zx := Nat.lt_trans zx (show w5.heap.size < (w5.alloc (.cells #[.int .u8 (n0.toNat : Int), .int .u8 (n1.toNat : Int), .int .u8 (n2.toNat : Int), .int .u8 (n3.toNat : Int), .int .i64 nn] 41)).heap.size by simp)
  replace zy := Nat.lt_trans zy (show w5.heap.size < (w5.alloc (.cells #[.int .u8 (n0.toNat : Int), .int .u8 (n1.toNat : Int), .int .u8 (n2.toNat : Int), .int .u8 (n3.toNat : Int), .int .i64 nn] 41)).heap.size by simp)
  replace zn := Nat.lt_trans zn (show w5.heap.size < (w5.alloc (.cells #[.int .u8 (n0.toNat : Int), .int .u8 (n1.toNat : Int), .int .u8 (n2.toNat : Int), .int .u8 (n3.toNat : Int), .int .i64 nn] 41)).heap.size by simp)
  have zv : w5.heap.size < (w5.alloc (.cells #[.int .u8 (n0.toNat : Int), .int .u8 (n1.toNat : Int), .int .u8 (n2.toNat : Int), .int .u8 (n3.toNat : Int), .int .i64 nn] 41)).heap.size := by simp
  replace bel := bel.alloc bel.size (.cells #[.int .u8 (n0.toNat : Int), .int .u8 (n1.toNat : Int), .int .u8 (n2.toNat : Int), .int .u8 (n3.toNat : Int), .int .i64 nn] 41)
  go_wp2_with fail
  with_reducible refine (K4.out _).mono ?_
  rintro e w6 ⟨rfl, b6⟩
  clear yx yy yn
  replace hx := (b6.block _ zx).trans hx
  replace zx := Nat.lt_of_lt_of_le zx b6.size
  replace hy := (b6.block _ zy).trans hy
  replace zy := Nat.lt_of_lt_of_le zy b6.size
  replace hn := (b6.block _ zn).trans hn
  replace zn := Nat.lt_of_lt_of_le zn b6.size
  replace hv := (b6.block _ zv).trans hv
  replace zv := Nat.lt_of_lt_of_le zv b6.size
  replace bel := bel.trans (b6.mono bel.size)
  clear b6
  have yx := zx
  have yy := zy
  have yn := zn
  have yv := zv
  replace hx := (Go.heap_alloc_old w6 (.cells #[.int .u8 (m0.toNat : Int), .int .u8 (m1.toNat : Int), .int .u8 (m2.toNat : Int), .int .u8 (m3.toNat : Int), .int .u8 (m4.toNat : Int), .int .u8 (m5.toNat : Int)] 33) (r := w2.heap.size) zx).trans hx
  replace hy := (Go.heap_alloc_old w6 (.cells #[.int .u8 (m0.toNat : Int), .int .u8 (m1.toNat : Int), .int .u8 (m2.toNat : Int), .int .u8 (m3.toNat : Int), .int .u8 (m4.toNat : Int), .int .u8 (m5.toNat : Int)] 33) (r := w3.heap.size) zy).trans hy
  replace hn := (Go.heap_alloc_old w6 (.cells #[.int .u8 (m0.toNat : Int), .int .u8 (m1.toNat : Int), .int .u8 (m2.toNat : Int), .int .u8 (m3.toNat : Int), .int .u8 (m4.toNat : Int), .int .u8 (m5.toNat : Int)] 33) (r := w4.heap.size) zn).trans hn
  replace hv := (Go.heap_alloc_old w6 (.cells #[.int .u8 (m0.toNat : Int), .int .u8 (m1.toNat : Int), .int .u8 (m2.toNat : Int), .int .u8 (m3.toNat : Int), .int .u8 (m4.toNat : Int), .int .u8 (m5.toNat : Int)] 33) (r := w5.heap.size) zv).trans hv
  have hp := heap_alloc_new w6 (.cells #[.int .u8 (m0.toNat : Int), .int .u8 (m1.toNat : Int), .int .u8 (m2.toNat : Int), .int .u8 (m3.toNat : Int), .int .u8 (m4.toNat : Int), .int .u8 (m5.toNat : Int)] 33)
  replace zx := Nat.lt_trans zx (show w6.heap.size < (w6.alloc (.cells #[.int .u8 (m0.toNat : Int), .int .u8 (m1.toNat : Int), .int .u8 (m2.toNat : Int), .int .u8 (m3.toNat : Int), .int .u8 (m4.toNat : Int), .int .u8 (m5.toNat : Int)] 33)).heap.size by simp)
  replace zy := Nat.lt_trans zy (show w6.heap.size < (w6.alloc (.cells #[.int .u8 (m0.toNat : Int), .int .u8 (m1.toNat : Int), .int .u8 (m2.toNat : Int), .int .u8 (m3.toNat : Int), .int .u8 (m4.toNat : Int), .int .u8 (m5.toNat : Int)] 33)).heap.size by simp)
  replace zn := Nat.lt_trans zn (show w6.heap.size < (w6.alloc (.cells #[.int .u8 (m0.toNat : Int), .int .u8 (m1.toNat : Int), .int .u8 (m2.toNat : Int), .int .u8 (m3.toNat : Int), .int .u8 (m4.toNat : Int), .int .u8 (m5.toNat : Int)] 33)).heap.size by simp)
  replace zv := Nat.lt_trans zv (show w6.heap.size < (w6.alloc (.cells #[.int .u8 (m0.toNat : Int), .int .u8 (m1.toNat : Int), .int .u8 (m2.toNat : Int), .int .u8 (m3.toNat : Int), .int .u8 (m4.toNat : Int), .int .u8 (m5.toNat : Int)] 33)).heap.size by simp)
  have zp : w6.heap.size < (w6.alloc (.cells #[.int .u8 (m0.toNat : Int), .int .u8 (m1.toNat : Int), .int .u8 (m2.toNat : Int), .int .u8 (m3.toNat : Int), .int .u8 (m4.toNat : Int), .int .u8 (m5.toNat : Int)] 33)).heap.size := by simp
  replace bel := bel.alloc bel.size (.cells #[.int .u8 (m0.toNat : Int), .int .u8 (m1.toNat : Int), .int .u8 (m2.toNat : Int), .int .u8 (m3.toNat : Int), .int .u8 (m4.toNat : Int), .int .u8 (m5.toNat : Int)] 33)
  go_wp2_with fail
  with_reducible refine (K5.out _).mono ?_
  rintro e w7 ⟨rfl, b7⟩
  clear yx yy yn yv
  replace hx := (b7.block _ zx).trans hx
  replace zx := Nat.lt_of_lt_of_le zx b7.size
  replace hy := (b7.block _ zy).trans hy
  replace zy := Nat.lt_of_lt_of_le zy b7.size
  replace hn := (b7.block _ zn).trans hn
  replace zn := Nat.lt_of_lt_of_le zn b7.size
  replace hv := (b7.block _ zv).trans hv
  replace zv := Nat.lt_of_lt_of_le zv b7.size
  replace hp := (b7.block _ zp).trans hp
  replace zp := Nat.lt_of_lt_of_le zp b7.size
  replace bel := bel.trans (b7.mono bel.size)
  clear b7
  obtain ⟨⟨cx0, cx1, cx2, cx3⟩, _⟩ := cells4 hx
  obtain ⟨⟨cy0, cy1, cy2, cy3⟩, _⟩ := cells4 hy
  obtain ⟨⟨cn0, cn1, cn2, cn3, cn4⟩, _⟩ := cells5 hn
  obtain ⟨⟨cv0, cv1, cv2, cv3, cv4⟩, _⟩ := cells5 hv
  obtain ⟨⟨cp0, cp1, cp2, cp3, cp4, cp5⟩, _⟩ := cells6 hp
  have yx := zx
  have yy := zy
  have yn := zn
  have yv := zv
  have yp := zp
  replace hx := (Go.heap_alloc_old w7 (.cells #[.int .u8 (m0.toNat : Int), .int .u8 (m1.toNat : Int), .int .u8 (m2.toNat : Int), .int .u8 (m3.toNat : Int), .int .u8 (m4.toNat : Int), .int .u8 (m5.toNat : Int)] 33) (r := w2.heap.size) zx).trans hx
  replace hy := (Go.heap_alloc_old w7 (.cells #[.int .u8 (m0.toNat : Int), .int .u8 (m1.toNat : Int), .int .u8 (m2.toNat : Int), .int .u8 (m3.toNat : Int), .int .u8 (m4.toNat : Int), .int .u8 (m5.toNat : Int)] 33) (r := w3.heap.size) zy).trans hy
  replace hn := (Go.heap_alloc_old w7 (.cells #[.int .u8 (m0.toNat : Int), .int .u8 (m1.toNat : Int), .int .u8 (m2.toNat : Int), .int .u8 (m3.toNat : Int), .int .u8 (m4.toNat : Int), .int .u8 (m5.toNat : Int)] 33) (r := w4.heap.size) zn).trans hn
  replace hv := (Go.heap_alloc_old w7 (.cells #[.int .u8 (m0.toNat : Int), .int .u8 (m1.toNat : Int), .int .u8 (m2.toNat : Int), .int .u8 (m3.toNat : Int), .int .u8 (m4.toNat : Int), .int .u8 (m5.toNat : Int)] 33) (r := w5.heap.size) zv).trans hv
  replace hp := (Go.heap_alloc_old w7 (.cells #[.int .u8 (m0.toNat : Int), .int .u8 (m1.toNat : Int), .int .u8 (m2.toNat : Int), .int .u8 (m3.toNat : Int), .int .u8 (m4.toNat : Int), .int .u8 (m5.toNat : Int)] 33) (r := w6.heap.size) zp).trans hp
  have hq := heap_alloc_new w7 (.cells #[.int .u8 (m0.toNat : Int), .int .u8 (m1.toNat : Int), .int .u8 (m2.toNat : Int), .int .u8 (m3.toNat : Int), .int .u8 (m4.toNat : Int), .int .u8 (m5.toNat : Int)] 33)
  replace zx := Nat.lt_trans zx (show w7.heap.size < (w7.alloc (.cells #[.int .u8 (m0.toNat : Int), .int .u8 (m1.toNat : Int), .int .u8 (m2.toNat : Int), .int .u8 (m3.toNat : Int), .int .u8 (m4.toNat : Int), .int .u8 (m5.toNat : Int)] 33)).heap.size by simp)
  replace zy := Nat.lt_trans zy (show w7.heap.size < (w7.alloc (.cells #[.int .u8 (m0.toNat : Int), .int .u8 (m1.toNat : Int), .int .u8 (m2.toNat : Int), .int .u8 (m3.toNat : Int), .int .u8 (m4.toNat : Int), .int .u8 (m5.toNat : Int)] 33)).heap.size by simp)
  replace zn := Nat.lt_trans zn (show w7.heap.size < (w7.alloc (.cells #[.int .u8 (m0.toNat : Int), .int .u8 (m1.toNat : Int), .int .u8 (m2.toNat : Int), .int .u8 (m3.toNat : Int), .int .u8 (m4.toNat : Int), .int .u8 (m5.toNat : Int)] 33)).heap.size by simp)
  replace zv := Nat.lt_trans zv (show w7.heap.size < (w7.alloc (.cells #[.int .u8 (m0.toNat : Int), .int .u8 (m1.toNat : Int), .int .u8 (m2.toNat : Int), .int .u8 (m3.toNat : Int), .int .u8 (m4.toNat : Int), .int .u8 (m5.toNat : Int)] 33)).heap.size by simp)
  replace zp := Nat.lt_trans zp (show w7.heap.size < (w7.alloc (.cells #[.int .u8 (m0.toNat : Int), .int .u8 (m1.toNat : Int), .int .u8 (m2.toNat : Int), .int .u8 (m3.toNat : Int), .int .u8 (m4.toNat : Int), .int .u8 (m5.toNat : Int)] 33)).heap.size by simp)
  have zq : w7.heap.size < (w7.alloc (.cells #[.int .u8 (m0.toNat : Int), .int .u8 (m1.toNat : Int), .int .u8 (m2.toNat : Int), .int .u8 (m3.toNat : Int), .int .u8 (m4.toNat : Int), .int .u8 (m5.toNat : Int)] 33)).heap.size := by simp
  replace bel := bel.alloc bel.size (.cells #[.int .u8 (m0.toNat : Int), .int .u8 (m1.toNat : Int), .int .u8 (m2.toNat : Int), .int .u8 (m3.toNat : Int), .int .u8 (m4.toNat : Int), .int .u8 (m5.toNat : Int)] 33)
  go_wp2
  go_ret
  exact ⟨rfl, bel⟩

set_option maxRecDepth 100000 in
set_option maxHeartbeats 16000000 in
theorem addrReads_long (s : ByteArray) (hs : 200 < s.size) (hm : s.size ≤ maxLen) (w : World) (hT : Tab w) : Calls Tryd.prog 4 #[.string s] w fun e w' => e = .returned (.bool true) ∧ Below w.heap.size w w' := by
  have bel := Below.refl w.heap.size w
  have HT := Lib.hid hT
  clear hT
  have t0 : (200 : Int) < s.size := by omega
  have t1 : (s.size : Int) ≤ 9223372036854775807 := by unfold maxLen at hm; omega
  clear hs hm
  go_enter Tryd.func4, Tryd.ntmps4
  go_wp2_with fail
  with_reducible refine (awake3 _ HT.out).mono ?_
  rintro e w1 ⟨rfl, b1⟩
  replace bel := bel.trans (b1.mono bel.size)
  clear b1
  go_wp2
  go_ret
  exact ⟨rfl, bel⟩

theorem mac_yes (s : ByteArray) (w : World) (b0 b1 b2 b3 b4 b5 : UInt8) (h : macOk s.data.toList) (hb : macBs s.data.toList 6 = [b0, b1, b2, b3, b4, b5]) :
    Calls Tryd.prog 17 #[.string s] w fun e w' => e = .returned (.tuple #[.agg #[.int .u8 (b0.toNat : Int), .int .u8 (b1.toNat : Int), .int .u8 (b2.toNat : Int), .int .u8 (b3.toNat : Int), .int .u8 (b4.toNat : Int), .int .u8 (b5.toNat : Int)], .bool true]) ∧ Below w.heap.size w w' :=
  (mac_any s w).mono fun e w' hh => by
    rcases hh.1 with ⟨_, h2⟩ | ⟨h1, _⟩
    · rw [hb] at h2; exact ⟨h2, hh.2⟩
    · exact absurd h h1
theorem mac_no (s : ByteArray) (w : World) (h : ¬ macOk s.data.toList) :
    Calls Tryd.prog 17 #[.string s] w fun e w' => e = .returned (.tuple #[mac0, .bool false]) ∧ Below w.heap.size w w' :=
  (mac_any s w).mono fun e w' hh => by
    rcases hh.1 with ⟨h1, _⟩ | ⟨_, h2⟩
    · exact absurd h1 h
    · exact ⟨h2, hh.2⟩
theorem parse_yes (s : ByteArray) (w : World) (hs : s.size ≤ 1000) (a b c d : UInt8) (h : parse4 s.data.toList = some (a, b, c, d)) : Calls Tryd.prog 15 #[.string s] w fun e w' => e = .returned (.tuple #[addrV a b c d, .bool true]) ∧ Below w.heap.size w w' :=
  (parse_any s w hs).mono fun e w' hh => by unfold ParsePost at hh; rw [h] at hh; exact hh
theorem parse_no (s : ByteArray) (w : World) (hs : s.size ≤ 1000) (h : parse4 s.data.toList = none) : Calls Tryd.prog 15 #[.string s] w fun e w' => e = .returned (.tuple #[addrV 0 0 0 0, .bool false]) ∧ Below w.heap.size w w' :=
  (parse_any s w hs).mono fun e w' hh => by unfold ParsePost at hh; rw [h] at hh; exact hh
theorem six_of (l : List UInt8) (k : Nat) : ∃ b0 b1 b2 b3 b4 b5, macBs l k = [b0, b1, b2, b3, b4, b5] := ⟨_, _, _, _, _, _, rfl⟩
theorem addrReads_walk (s : ByteArray) (w : World) (hT : Tab w) (hm : s.size ≤ maxLen) : Calls Tryd.prog 4 #[.string s] w fun e w' => e = .returned (.bool true) ∧ Below w.heap.size w w' := by
  by_cases hs : 200 < s.size
  · exact addrReads_long s hs hm w hT
  have h1 : s.size ≤ 140737488355328 := by omega
  have h2 : s.size ≤ 1000 := by omega
  have h3 : s.size ≤ 200 := by omega
  obtain ⟨n0, n1, n2, n3, hA⟩ : ∃ a b c d, netA s.data.toList = (a, b, c, d) := ⟨_, _, _, _, rfl⟩
  have kn : ∀ W, Calls Tryd.prog 11 #[.string s] W fun e w' => e = .returned (.tuple #[.agg #[.int .u8 (n0.toNat : Int), .int .u8 (n1.toNat : Int), .int .u8 (n2.toNat : Int), .int .u8 (n3.toNat : Int), .int .i64 (netN s.data.toList)], .int .i64 (netE s.data.toList)]) ∧ Below W.heap.size W w' := fun W => (anet_any s W h1).mono fun e w' hh => by unfold ANetPost at hh; rw [hA] at hh; exact hh
  have kr : ∀ W, Calls Tryd.prog 16 #[.string s] W fun e w' => e = .returned (.tuple #[.agg #[.int .u8 (n0.toNat : Int), .int .u8 (n1.toNat : Int), .int .u8 (n2.toNat : Int), .int .u8 (n3.toNat : Int), .int .i64 (netN s.data.toList)], .int .i64 (netE s.data.toList)]) ∧ Below W.heap.size W w' := fun W => (net_any s W h2).mono fun e w' hh => by rw [hA] at hh; exact hh
  match hp : parse4 s.data.toList with
  | none =>
    by_cases hmac : macOk s.data.toList
    · obtain ⟨m0, m1, m2, m3, m4, m5, hb⟩ := six_of s.data.toList 6
      exact addrReads_01 s 0 0 0 0 n0 n1 n2 n3 m0 m1 m2 m3 m4 m5 _ _ h3 (fun W => aparse_none s W h1 hp) (fun W => parse_no s W h2 hp) kn kr (fun W => amac_yes s W h1 _ _ _ _ _ _ hmac hb) (fun W => mac_yes s W _ _ _ _ _ _ hmac hb) w hT
    · exact addrReads_00 s 0 0 0 0 n0 n1 n2 n3 0 0 0 0 0 0 _ _ h3 (fun W => aparse_none s W h1 hp) (fun W => parse_no s W h2 hp) kn kr (fun W => amac_no s W h1 hmac) (fun W => mac_no s W hmac) w hT
  | some (a, b, c, d) =>
    by_cases hmac : macOk s.data.toList
    · obtain ⟨m0, m1, m2, m3, m4, m5, hb⟩ := six_of s.data.toList 6
      exact addrReads_11 s a b c d n0 n1 n2 n3 m0 m1 m2 m3 m4 m5 _ _ h3 (fun W => aparse_some s W h1 a b c d hp) (fun W => parse_yes s W h2 a b c d hp) kn kr (fun W => amac_yes s W h1 _ _ _ _ _ _ hmac hb) (fun W => mac_yes s W _ _ _ _ _ _ hmac hb) w hT
    · exact addrReads_10 s a b c d n0 n1 n2 n3 0 0 0 0 0 0 _ _ h3 (fun W => aparse_some s W h1 a b c d hp) (fun W => parse_yes s W h2 a b c d hp) kn kr (fun W => amac_no s W h1 hmac) (fun W => mac_no s W hmac) w hT
end Go.Proofs.YtppjnhjglhlpkaaDoor
