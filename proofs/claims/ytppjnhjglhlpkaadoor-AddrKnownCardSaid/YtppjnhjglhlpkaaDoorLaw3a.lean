/- Layer 3: AddrKnown's walk. -/
import Derived.Test.YtppjnhjglhlpkaaDoorAwk3
namespace Go.Proofs.YtppjnhjglhlpkaaDoor
open Go.RowKit

theorem kn_0 (W : World) : Calls Tryd.prog 10 #[.string ⟨#[49, 48, 46, 48, 46, 48]⟩] W fun e w' => e = .returned (.tuple #[.agg #[.int .u8 0, .int .u8 0, .int .u8 0, .int .u8 0], .int .i64 9]) ∧ Below W.heap.size W w' :=
  aparse_none ⟨#[49, 48, 46, 48, 46, 48]⟩ W (by decide) (by decide +kernel)
theorem kn_1 (W : World) : Calls Tryd.prog 10 #[.string ⟨#[49, 48, 46, 48, 46, 48, 46, 50, 53, 54]⟩] W fun e w' => e = .returned (.tuple #[.agg #[.int .u8 0, .int .u8 0, .int .u8 0, .int .u8 0], .int .i64 9]) ∧ Below W.heap.size W w' :=
  aparse_none ⟨#[49, 48, 46, 48, 46, 48, 46, 50, 53, 54]⟩ W (by decide) (by decide +kernel)
theorem kn_2 (W : World) : Calls Tryd.prog 10 #[.string ⟨#[49, 48, 46, 48, 46, 48, 46, 48, 49]⟩] W fun e w' => e = .returned (.tuple #[.agg #[.int .u8 0, .int .u8 0, .int .u8 0, .int .u8 0], .int .i64 9]) ∧ Below W.heap.size W w' :=
  aparse_none ⟨#[49, 48, 46, 48, 46, 48, 46, 48, 49]⟩ W (by decide) (by decide +kernel)
theorem kn_3 (W : World) : Calls Tryd.prog 11 #[.string ⟨#[49, 48, 46, 48, 46, 48, 46, 49, 47, 56]⟩] W fun e w' => e = .returned (.tuple #[.agg #[.int .u8 0, .int .u8 0, .int .u8 0, .int .u8 0, .int .i64 0], .int .i64 1]) ∧ Below W.heap.size W w' :=
  anet_is ⟨#[49, 48, 46, 48, 46, 48, 46, 49, 47, 56]⟩ W (by decide) 0 0 0 0 0 1 (by decide +kernel)
theorem kn_4 (W : World) : Calls Tryd.prog 11 #[.string ⟨#[49, 48, 46, 48, 46, 48, 46, 48, 47, 51, 51]⟩] W fun e w' => e = .returned (.tuple #[.agg #[.int .u8 0, .int .u8 0, .int .u8 0, .int .u8 0, .int .i64 0], .int .i64 9]) ∧ Below W.heap.size W w' :=
  anet_is ⟨#[49, 48, 46, 48, 46, 48, 46, 48, 47, 51, 51]⟩ W (by decide) 0 0 0 0 0 9 (by decide +kernel)
theorem kn_5 (W : World) : Calls Tryd.prog 12 #[.string ⟨#[48, 50, 58, 48, 48, 58, 48, 48, 58, 48, 48, 58, 48, 48, 58, 48]⟩] W fun e w' => e = .returned (.tuple #[.agg #[.int .u8 0, .int .u8 0, .int .u8 0, .int .u8 0, .int .u8 0, .int .u8 0], .int .i64 9]) ∧ Below W.heap.size W w' :=
  amac_no ⟨#[48, 50, 58, 48, 48, 58, 48, 48, 58, 48, 48, 58, 48, 48, 58, 48]⟩ W (by decide) (fun h => absurd h.1 (by decide))
theorem kn_num (W : World) : Calls Tryd.prog 13 #[.agg #[.int .u8 1, .int .u8 2, .int .u8 3, .int .u8 4]] W fun e w' => e = .returned (.int .u32 16909060) ∧ Below W.heap.size W w' := anum_any 1 2 3 4 W
theorem kn_of (W : World) : Calls Tryd.prog 14 #[.int .u32 16909060] W fun e w' => e = .returned (.agg #[.int .u8 1, .int .u8 2, .int .u8 3, .int .u8 4]) ∧ Below W.heap.size W w' := by
  have h := aof_any 16909060 W (by omega)
  have e : (16909060 : Nat) = be [1, 2, 3, 4] := by decide +kernel
  rw [show adr 16909060 = .agg #[.int .u8 1, .int .u8 2, .int .u8 3, .int .u8 4] by rw [e, adr_be]; rfl] at h
  exact h
theorem k_eq3 (W : World) : (binOp .eql 24 (.agg #[.int .u8 1, .int .u8 2, .int .u8 3, .int .u8 4]) (.agg #[.int .u8 1, .int .u8 2, .int .u8 3, .int .u8 4])).run Tryd.prog W = .ok (.bool true) W := eql4 [1, 2, 3, 4] [1, 2, 3, 4] rfl rfl W
set_option maxRecDepth 100000 in
set_option maxHeartbeats 4000000 in
theorem addrKnown_walk (w : World) (hT : Tab w) : Calls Tryd.prog 3 #[] w fun e w' => e = .returned (.bool true) ∧ Below w.heap.size w w' := by
  have bel := Below.refl w.heap.size w
  have HT := Lib.hid hT
  have q1 := k_eq3
  have g1 := guard4
  clear hT
  go_enter Tryd.func3, Tryd.ntmps3
  go_wp2_with fail
  with_reducible refine (awake3 _ HT.out).mono ?_
  rintro e w1 ⟨rfl, b1⟩
  replace bel := bel.trans (b1.mono bel.size)
  clear b1
  go_wp2_with fail
  with_reducible refine (kn_0 _).mono ?_
  rintro e w2 ⟨rfl, b2⟩
  replace bel := bel.trans (b2.mono bel.size)
  clear b2
  have ha0 := heap_alloc_new w2 (.cells #[.int .u8 0, .int .u8 0, .int .u8 0, .int .u8 0] 24)
  have za0 : w2.heap.size < (w2.alloc (.cells #[.int .u8 0, .int .u8 0, .int .u8 0, .int .u8 0] 24)).heap.size := by simp
  replace bel := bel.alloc bel.size (.cells #[.int .u8 0, .int .u8 0, .int .u8 0, .int .u8 0] 24)
  go_wp2_with fail
  with_reducible refine (kn_1 _).mono ?_
  rintro e w3 ⟨rfl, b3⟩
  replace ha0 := (b3.block _ za0).trans ha0
  replace za0 := Nat.lt_of_lt_of_le za0 b3.size
  replace bel := bel.trans (b3.mono bel.size)
  clear b3
  replace ha0 := (Go.heap_alloc_old w3 (.cells #[.int .u8 0, .int .u8 0, .int .u8 0, .int .u8 0] 24) (r := w2.heap.size) za0).trans ha0
  have ha1 := heap_alloc_new w3 (.cells #[.int .u8 0, .int .u8 0, .int .u8 0, .int .u8 0] 24)
  have za1 : w3.heap.size < (w3.alloc (.cells #[.int .u8 0, .int .u8 0, .int .u8 0, .int .u8 0] 24)).heap.size := by simp
  replace za0 : w2.heap.size < (w3.alloc (.cells #[.int .u8 0, .int .u8 0, .int .u8 0, .int .u8 0] 24)).heap.size := by simp; omega
  replace bel := bel.alloc bel.size (.cells #[.int .u8 0, .int .u8 0, .int .u8 0, .int .u8 0] 24)
  go_wp2_with fail
  with_reducible refine (kn_2 _).mono ?_
  rintro e w4 ⟨rfl, b4⟩
  replace ha0 := (b4.block _ za0).trans ha0
  replace za0 := Nat.lt_of_lt_of_le za0 b4.size
  replace ha1 := (b4.block _ za1).trans ha1
  replace za1 := Nat.lt_of_lt_of_le za1 b4.size
  replace bel := bel.trans (b4.mono bel.size)
  clear b4
  replace ha0 := (Go.heap_alloc_old w4 (.cells #[.int .u8 0, .int .u8 0, .int .u8 0, .int .u8 0] 24) (r := w2.heap.size) za0).trans ha0
  replace ha1 := (Go.heap_alloc_old w4 (.cells #[.int .u8 0, .int .u8 0, .int .u8 0, .int .u8 0] 24) (r := w3.heap.size) za1).trans ha1
  have ha2 := heap_alloc_new w4 (.cells #[.int .u8 0, .int .u8 0, .int .u8 0, .int .u8 0] 24)
  have za2 : w4.heap.size < (w4.alloc (.cells #[.int .u8 0, .int .u8 0, .int .u8 0, .int .u8 0] 24)).heap.size := by simp
  replace za0 : w2.heap.size < (w4.alloc (.cells #[.int .u8 0, .int .u8 0, .int .u8 0, .int .u8 0] 24)).heap.size := by simp; omega
  replace za1 : w3.heap.size < (w4.alloc (.cells #[.int .u8 0, .int .u8 0, .int .u8 0, .int .u8 0] 24)).heap.size := by simp; omega
  replace bel := bel.alloc bel.size (.cells #[.int .u8 0, .int .u8 0, .int .u8 0, .int .u8 0] 24)
  go_wp2_with fail
  with_reducible refine (kn_3 _).mono ?_
  rintro e w5 ⟨rfl, b5⟩
  replace ha0 := (b5.block _ za0).trans ha0
  replace za0 := Nat.lt_of_lt_of_le za0 b5.size
  replace ha1 := (b5.block _ za1).trans ha1
  replace za1 := Nat.lt_of_lt_of_le za1 b5.size
  replace ha2 := (b5.block _ za2).trans ha2
  replace za2 := Nat.lt_of_lt_of_le za2 b5.size
  replace bel := bel.trans (b5.mono bel.size)
  clear b5
  replace ha0 := (Go.heap_alloc_old w5 (.cells #[.int .u8 0, .int .u8 0, .int .u8 0, .int .u8 0, .int .i64 0] 29) (r := w2.heap.size) za0).trans ha0
  replace ha1 := (Go.heap_alloc_old w5 (.cells #[.int .u8 0, .int .u8 0, .int .u8 0, .int .u8 0, .int .i64 0] 29) (r := w3.heap.size) za1).trans ha1
  replace ha2 := (Go.heap_alloc_old w5 (.cells #[.int .u8 0, .int .u8 0, .int .u8 0, .int .u8 0, .int .i64 0] 29) (r := w4.heap.size) za2).trans ha2
  have ha3 := heap_alloc_new w5 (.cells #[.int .u8 0, .int .u8 0, .int .u8 0, .int .u8 0, .int .i64 0] 29)
  have za3 : w5.heap.size < (w5.alloc (.cells #[.int .u8 0, .int .u8 0, .int .u8 0, .int .u8 0, .int .i64 0] 29)).heap.size := by simp
  replace za0 : w2.heap.size < (w5.alloc (.cells #[.int .u8 0, .int .u8 0, .int .u8 0, .int .u8 0, .int .i64 0] 29)).heap.size := by simp; omega
  replace za1 : w3.heap.size < (w5.alloc (.cells #[.int .u8 0, .int .u8 0, .int .u8 0, .int .u8 0, .int .i64 0] 29)).heap.size := by simp; omega
  replace za2 : w4.heap.size < (w5.alloc (.cells #[.int .u8 0, .int .u8 0, .int .u8 0, .int .u8 0, .int .i64 0] 29)).heap.size := by simp; omega
  replace bel := bel.alloc bel.size (.cells #[.int .u8 0, .int .u8 0, .int .u8 0, .int .u8 0, .int .i64 0] 29)
  go_wp2_with fail
  with_reducible refine (kn_4 _).mono ?_
  rintro e w6 ⟨rfl, b6⟩
  replace ha0 := (b6.block _ za0).trans ha0
  replace za0 := Nat.lt_of_lt_of_le za0 b6.size
  replace ha1 := (b6.block _ za1).trans ha1
  replace za1 := Nat.lt_of_lt_of_le za1 b6.size
  replace ha2 := (b6.block _ za2).trans ha2
  replace za2 := Nat.lt_of_lt_of_le za2 b6.size
  replace ha3 := (b6.block _ za3).trans ha3
  replace za3 := Nat.lt_of_lt_of_le za3 b6.size
  replace bel := bel.trans (b6.mono bel.size)
  clear b6
  replace ha0 := (Go.heap_alloc_old w6 (.cells #[.int .u8 0, .int .u8 0, .int .u8 0, .int .u8 0, .int .i64 0] 29) (r := w2.heap.size) za0).trans ha0
  replace ha1 := (Go.heap_alloc_old w6 (.cells #[.int .u8 0, .int .u8 0, .int .u8 0, .int .u8 0, .int .i64 0] 29) (r := w3.heap.size) za1).trans ha1
  replace ha2 := (Go.heap_alloc_old w6 (.cells #[.int .u8 0, .int .u8 0, .int .u8 0, .int .u8 0, .int .i64 0] 29) (r := w4.heap.size) za2).trans ha2
  replace ha3 := (Go.heap_alloc_old w6 (.cells #[.int .u8 0, .int .u8 0, .int .u8 0, .int .u8 0, .int .i64 0] 29) (r := w5.heap.size) za3).trans ha3
  have ha4 := heap_alloc_new w6 (.cells #[.int .u8 0, .int .u8 0, .int .u8 0, .int .u8 0, .int .i64 0] 29)
  have za4 : w6.heap.size < (w6.alloc (.cells #[.int .u8 0, .int .u8 0, .int .u8 0, .int .u8 0, .int .i64 0] 29)).heap.size := by simp
  replace za0 : w2.heap.size < (w6.alloc (.cells #[.int .u8 0, .int .u8 0, .int .u8 0, .int .u8 0, .int .i64 0] 29)).heap.size := by simp; omega
  replace za1 : w3.heap.size < (w6.alloc (.cells #[.int .u8 0, .int .u8 0, .int .u8 0, .int .u8 0, .int .i64 0] 29)).heap.size := by simp; omega
  replace za2 : w4.heap.size < (w6.alloc (.cells #[.int .u8 0, .int .u8 0, .int .u8 0, .int .u8 0, .int .i64 0] 29)).heap.size := by simp; omega
  replace za3 : w5.heap.size < (w6.alloc (.cells #[.int .u8 0, .int .u8 0, .int .u8 0, .int .u8 0, .int .i64 0] 29)).heap.size := by simp; omega
  replace bel := bel.alloc bel.size (.cells #[.int .u8 0, .int .u8 0, .int .u8 0, .int .u8 0, .int .i64 0] 29)
  go_wp2_with fail
  with_reducible refine (kn_5 _).mono ?_
  rintro e w7 ⟨rfl, b7⟩
  replace ha0 := (b7.block _ za0).trans ha0
  replace za0 := Nat.lt_of_lt_of_le za0 b7.size
  replace ha1 := (b7.block _ za1).trans ha1
  replace za1 := Nat.lt_of_lt_of_le za1 b7.size
  replace ha2 := (b7.block _ za2).trans ha2
  replace za2 := Nat.lt_of_lt_of_le za2 b7.size
  replace ha3 := (b7.block _ za3).trans ha3
  replace za3 := Nat.lt_of_lt_of_le za3 b7.size
  replace ha4 := (b7.block _ za4).trans ha4
  replace za4 := Nat.lt_of_lt_of_le za4 b7.size
  replace bel := bel.trans (b7.mono bel.size)
  clear b7
  replace ha0 := (Go.heap_alloc_old w7 (.cells #[.int .u8 0, .int .u8 0, .int .u8 0, .int .u8 0, .int .u8 0, .int .u8 0] 33) (r := w2.heap.size) za0).trans ha0
  replace ha1 := (Go.heap_alloc_old w7 (.cells #[.int .u8 0, .int .u8 0, .int .u8 0, .int .u8 0, .int .u8 0, .int .u8 0] 33) (r := w3.heap.size) za1).trans ha1
  replace ha2 := (Go.heap_alloc_old w7 (.cells #[.int .u8 0, .int .u8 0, .int .u8 0, .int .u8 0, .int .u8 0, .int .u8 0] 33) (r := w4.heap.size) za2).trans ha2
  replace ha3 := (Go.heap_alloc_old w7 (.cells #[.int .u8 0, .int .u8 0, .int .u8 0, .int .u8 0, .int .u8 0, .int .u8 0] 33) (r := w5.heap.size) za3).trans ha3
  replace ha4 := (Go.heap_alloc_old w7 (.cells #[.int .u8 0, .int .u8 0, .int .u8 0, .int .u8 0, .int .u8 0, .int .u8 0] 33) (r := w6.heap.size) za4).trans ha4
  have ha5 := heap_alloc_new w7 (.cells #[.int .u8 0, .int .u8 0, .int .u8 0, .int .u8 0, .int .u8 0, .int .u8 0] 33)
  have za5 : w7.heap.size < (w7.alloc (.cells #[.int .u8 0, .int .u8 0, .int .u8 0, .int .u8 0, .int .u8 0, .int .u8 0] 33)).heap.size := by simp
  replace za0 : w2.heap.size < (w7.alloc (.cells #[.int .u8 0, .int .u8 0, .int .u8 0, .int .u8 0, .int .u8 0, .int .u8 0] 33)).heap.size := by simp; omega
  replace za1 : w3.heap.size < (w7.alloc (.cells #[.int .u8 0, .int .u8 0, .int .u8 0, .int .u8 0, .int .u8 0, .int .u8 0] 33)).heap.size := by simp; omega
  replace za2 : w4.heap.size < (w7.alloc (.cells #[.int .u8 0, .int .u8 0, .int .u8 0, .int .u8 0, .int .u8 0, .int .u8 0] 33)).heap.size := by simp; omega
  replace za3 : w5.heap.size < (w7.alloc (.cells #[.int .u8 0, .int .u8 0, .int .u8 0, .int .u8 0, .int .u8 0, .int .u8 0] 33)).heap.size := by simp; omega
  replace za4 : w6.heap.size < (w7.alloc (.cells #[.int .u8 0, .int .u8 0, .int .u8 0, .int .u8 0, .int .u8 0, .int .u8 0] 33)).heap.size := by simp; omega
  replace bel := bel.alloc bel.size (.cells #[.int .u8 0, .int .u8 0, .int .u8 0, .int .u8 0, .int .u8 0, .int .u8 0] 33)
  go_wp2_with fail
  with_reducible refine (kn_num _).mono ?_
  rintro e w8 ⟨rfl, b8⟩
  replace ha0 := (b8.block _ za0).trans ha0
  replace za0 := Nat.lt_of_lt_of_le za0 b8.size
  replace ha1 := (b8.block _ za1).trans ha1
  replace za1 := Nat.lt_of_lt_of_le za1 b8.size
  replace ha2 := (b8.block _ za2).trans ha2
  replace za2 := Nat.lt_of_lt_of_le za2 b8.size
  replace ha3 := (b8.block _ za3).trans ha3
  replace za3 := Nat.lt_of_lt_of_le za3 b8.size
  replace ha4 := (b8.block _ za4).trans ha4
  replace za4 := Nat.lt_of_lt_of_le za4 b8.size
  replace ha5 := (b8.block _ za5).trans ha5
  replace za5 := Nat.lt_of_lt_of_le za5 b8.size
  replace bel := bel.trans (b8.mono bel.size)
  clear b8
  go_wp2_with fail
  with_reducible refine (kn_of _).mono ?_
  rintro e w9 ⟨rfl, b9⟩
  replace ha0 := (b9.block _ za0).trans ha0
  replace za0 := Nat.lt_of_lt_of_le za0 b9.size
  replace ha1 := (b9.block _ za1).trans ha1
  replace za1 := Nat.lt_of_lt_of_le za1 b9.size
  replace ha2 := (b9.block _ za2).trans ha2
  replace za2 := Nat.lt_of_lt_of_le za2 b9.size
  replace ha3 := (b9.block _ za3).trans ha3
  replace za3 := Nat.lt_of_lt_of_le za3 b9.size
  replace ha4 := (b9.block _ za4).trans ha4
  replace za4 := Nat.lt_of_lt_of_le za4 b9.size
  replace ha5 := (b9.block _ za5).trans ha5
  replace za5 := Nat.lt_of_lt_of_le za5 b9.size
  replace bel := bel.trans (b9.mono bel.size)
  clear b9
  go_wp2
  go_ret
  exact ⟨rfl, bel⟩
end Go.Proofs.YtppjnhjglhlpkaaDoor
