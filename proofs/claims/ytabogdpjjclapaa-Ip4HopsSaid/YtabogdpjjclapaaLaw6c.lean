/- Layer 6: the walk of Ip4Hops. -/
import Derived.Test.YtabogdpjjclapaaLaw6
import Derived.Test.YtabogdpjjclapaaAwk6
import Derived.Deep.LoopGhost
namespace Go.Proofs.Ytabogdpjjclapaa
open Go.RowKit

theorem froz_lit {w : World} {b : Nat} {C : Array Value} {T : TypeId} (hb : w.heap[b]? = some (.cells C T (0, 0))) (i : Nat) : w.frozen? ⟨b, i, none⟩ = false := by simp [World.frozen?, hb]
set_option linter.unusedVariables false in
set_option maxRecDepth 100000 in
set_option maxHeartbeats 16000000 in
theorem ip4Hops_great (tos id fl pt ttl pr : Int) (a0 a1 a2 a3 a4 a5 a6 a7 : UInt8) (So Sb : Option Addr) (co cb : Nat) (lo lb : List UInt8) (n : Int) (w : World) (ho : Sl w So lo.length co lo) (hb : Sl w Sb lb.length cb lb) (hgr : (decide (1600 < lb.length) || decide (100 < lo.length)) = true) : Calls Try.prog 5 #[.agg #[.int .i64 tos, .int .i64 id, .int .i64 fl, .int .i64 pt, .int .i64 ttl, .int .i64 pr, .int .u8 (a0.toNat : Int), .int .u8 (a1.toNat : Int), .int .u8 (a2.toNat : Int), .int .u8 (a3.toNat : Int), .int .u8 (a4.toNat : Int), .int .u8 (a5.toNat : Int), .int .u8 (a6.toNat : Int), .int .u8 (a7.toNat : Int), .slice So lo.length co, .slice Sb lb.length cb], .int .i64 n] w fun e w' => e = .returned (.bool true) ∧ Below w.heap.size w w' := by
  have bel := Below.refl w.heap.size w
  have hp : (w.alloc (.cells #[.int .i64 tos, .int .i64 id, .int .i64 fl, .int .i64 pt, .int .i64 ttl, .int .i64 pr, .int .u8 (a0.toNat : Int), .int .u8 (a1.toNat : Int), .int .u8 (a2.toNat : Int), .int .u8 (a3.toNat : Int), .int .u8 (a4.toNat : Int), .int .u8 (a5.toNat : Int), .int .u8 (a6.toNat : Int), .int .u8 (a7.toNat : Int), .slice So lo.length co, .slice Sb lb.length cb] 27)).heap[w.heap.size]? = some (.cells #[.int .i64 tos, .int .i64 id, .int .i64 fl, .int .i64 pt, .int .i64 ttl, .int .i64 pr, .int .u8 (a0.toNat : Int), .int .u8 (a1.toNat : Int), .int .u8 (a2.toNat : Int), .int .u8 (a3.toNat : Int), .int .u8 (a4.toNat : Int), .int .u8 (a5.toNat : Int), .int .u8 (a6.toNat : Int), .int .u8 (a7.toNat : Int), .slice So lo.length co, .slice Sb lb.length cb] 27 (0, 0)) := by have := heap_alloc_new w (.cells #[.int .i64 tos, .int .i64 id, .int .i64 fl, .int .i64 pt, .int .i64 ttl, .int .i64 pr, .int .u8 (a0.toNat : Int), .int .u8 (a1.toNat : Int), .int .u8 (a2.toNat : Int), .int .u8 (a3.toNat : Int), .int .u8 (a4.toNat : Int), .int .u8 (a5.toNat : Int), .int .u8 (a6.toNat : Int), .int .u8 (a7.toNat : Int), .slice So lo.length co, .slice Sb lb.length cb] 27); simpa using this
  have zp : w.heap.size < (w.alloc (.cells #[.int .i64 tos, .int .i64 id, .int .i64 fl, .int .i64 pt, .int .i64 ttl, .int .i64 pr, .int .u8 (a0.toNat : Int), .int .u8 (a1.toNat : Int), .int .u8 (a2.toNat : Int), .int .u8 (a3.toNat : Int), .int .u8 (a4.toNat : Int), .int .u8 (a5.toNat : Int), .int .u8 (a6.toNat : Int), .int .u8 (a7.toNat : Int), .slice So lo.length co, .slice Sb lb.length cb] 27)).heap.size := by simp
  replace bel := bel.alloc bel.size (.cells #[.int .i64 tos, .int .i64 id, .int .i64 fl, .int .i64 pt, .int .i64 ttl, .int .i64 pr, .int .u8 (a0.toNat : Int), .int .u8 (a1.toNat : Int), .int .u8 (a2.toNat : Int), .int .u8 (a3.toNat : Int), .int .u8 (a4.toNat : Int), .int .u8 (a5.toNat : Int), .int .u8 (a6.toNat : Int), .int .u8 (a7.toNat : Int), .slice So lo.length co, .slice Sb lb.length cb] 27)
  
  go_enter Try.func5, Try.ntmps5
  go_wp2_with fail
  with_reducible refine (awake6 _).mono ?_
  rintro e w1 ⟨rfl, b1⟩
  replace hp := (b1.block _ zp).trans hp
  replace zp := Nat.lt_of_lt_of_le zp b1.size
  replace bel := bel.trans (b1.mono bel.size)
  clear b1
  have R2 := Lib.hid (range_lit hp 0 16 [.int .i64 tos, .int .i64 id, .int .i64 fl, .int .i64 pt, .int .i64 ttl, .int .i64 pr, .int .u8 (a0.toNat : Int), .int .u8 (a1.toNat : Int), .int .u8 (a2.toNat : Int), .int .u8 (a3.toNat : Int), .int .u8 (a4.toNat : Int), .int .u8 (a5.toNat : Int), .int .u8 (a6.toNat : Int), .int .u8 (a7.toNat : Int), .slice So lo.length co, .slice Sb lb.length cb] rfl)
  go_wp2_with (first | ((with_reducible show wpList _ _ _ (⟨some 15, _, _, _, _, _⟩ :: _) _ _); refine wpList_load_rng 27 (.tmp 2) rfl (by kernel_rfl) _ _ rfl _ R2.out _ Try.underlying27 rfl (by kernel_rfl) ?_))
  with_reducible refine (great6_any tos id fl pt ttl pr a0 a1 a2 a3 a4 a5 a6 a7 So Sb lo.length co lb.length cb _).mono ?_
  clear R2
  rintro e w2 ⟨rfl, b2⟩
  replace hp := (b2.block _ zp).trans hp
  replace zp := Nat.lt_of_lt_of_le zp b2.size
  replace bel := bel.trans (b2.mono bel.size)
  clear b2
  rw [hgr]
  go_wp2_with fail
  go_ret
  exact ⟨rfl, bel⟩
set_option linter.unusedVariables false in
set_option maxRecDepth 100000 in
set_option maxHeartbeats 16000000 in
theorem ip4Hops_neg (tos id fl pt ttl pr : Int) (a0 a1 a2 a3 a4 a5 a6 a7 : UInt8) (So Sb : Option Addr) (co cb : Nat) (lo lb : List UInt8) (n : Int) (w : World) (ho : Sl w So lo.length co lo) (hb : Sl w Sb lb.length cb lb) (h1 : lb.length ≤ 1600) (h2 : lo.length ≤ 100) (hc : n < 0) : Calls Try.prog 5 #[.agg #[.int .i64 tos, .int .i64 id, .int .i64 fl, .int .i64 pt, .int .i64 ttl, .int .i64 pr, .int .u8 (a0.toNat : Int), .int .u8 (a1.toNat : Int), .int .u8 (a2.toNat : Int), .int .u8 (a3.toNat : Int), .int .u8 (a4.toNat : Int), .int .u8 (a5.toNat : Int), .int .u8 (a6.toNat : Int), .int .u8 (a7.toNat : Int), .slice So lo.length co, .slice Sb lb.length cb], .int .i64 n] w fun e w' => e = .returned (.bool true) ∧ Below w.heap.size w w' := by
  have bel := Below.refl w.heap.size w
  have hp : (w.alloc (.cells #[.int .i64 tos, .int .i64 id, .int .i64 fl, .int .i64 pt, .int .i64 ttl, .int .i64 pr, .int .u8 (a0.toNat : Int), .int .u8 (a1.toNat : Int), .int .u8 (a2.toNat : Int), .int .u8 (a3.toNat : Int), .int .u8 (a4.toNat : Int), .int .u8 (a5.toNat : Int), .int .u8 (a6.toNat : Int), .int .u8 (a7.toNat : Int), .slice So lo.length co, .slice Sb lb.length cb] 27)).heap[w.heap.size]? = some (.cells #[.int .i64 tos, .int .i64 id, .int .i64 fl, .int .i64 pt, .int .i64 ttl, .int .i64 pr, .int .u8 (a0.toNat : Int), .int .u8 (a1.toNat : Int), .int .u8 (a2.toNat : Int), .int .u8 (a3.toNat : Int), .int .u8 (a4.toNat : Int), .int .u8 (a5.toNat : Int), .int .u8 (a6.toNat : Int), .int .u8 (a7.toNat : Int), .slice So lo.length co, .slice Sb lb.length cb] 27 (0, 0)) := by have := heap_alloc_new w (.cells #[.int .i64 tos, .int .i64 id, .int .i64 fl, .int .i64 pt, .int .i64 ttl, .int .i64 pr, .int .u8 (a0.toNat : Int), .int .u8 (a1.toNat : Int), .int .u8 (a2.toNat : Int), .int .u8 (a3.toNat : Int), .int .u8 (a4.toNat : Int), .int .u8 (a5.toNat : Int), .int .u8 (a6.toNat : Int), .int .u8 (a7.toNat : Int), .slice So lo.length co, .slice Sb lb.length cb] 27); simpa using this
  have zp : w.heap.size < (w.alloc (.cells #[.int .i64 tos, .int .i64 id, .int .i64 fl, .int .i64 pt, .int .i64 ttl, .int .i64 pr, .int .u8 (a0.toNat : Int), .int .u8 (a1.toNat : Int), .int .u8 (a2.toNat : Int), .int .u8 (a3.toNat : Int), .int .u8 (a4.toNat : Int), .int .u8 (a5.toNat : Int), .int .u8 (a6.toNat : Int), .int .u8 (a7.toNat : Int), .slice So lo.length co, .slice Sb lb.length cb] 27)).heap.size := by simp
  replace bel := bel.alloc bel.size (.cells #[.int .i64 tos, .int .i64 id, .int .i64 fl, .int .i64 pt, .int .i64 ttl, .int .i64 pr, .int .u8 (a0.toNat : Int), .int .u8 (a1.toNat : Int), .int .u8 (a2.toNat : Int), .int .u8 (a3.toNat : Int), .int .u8 (a4.toNat : Int), .int .u8 (a5.toNat : Int), .int .u8 (a6.toNat : Int), .int .u8 (a7.toNat : Int), .slice So lo.length co, .slice Sb lb.length cb] 27)
  have g1 : decide (1600 < lb.length) = false := decide_eq_false (by omega)
  have g2 : decide (100 < lo.length) = false := decide_eq_false (by omega)
  have H1 := Lib.hid h1
  clear h1 h2
  go_enter Try.func5, Try.ntmps5
  go_wp2_with fail
  with_reducible refine (awake6 _).mono ?_
  rintro e w1 ⟨rfl, b1⟩
  replace hp := (b1.block _ zp).trans hp
  replace zp := Nat.lt_of_lt_of_le zp b1.size
  replace bel := bel.trans (b1.mono bel.size)
  clear b1
  have R2 := Lib.hid (range_lit hp 0 16 [.int .i64 tos, .int .i64 id, .int .i64 fl, .int .i64 pt, .int .i64 ttl, .int .i64 pr, .int .u8 (a0.toNat : Int), .int .u8 (a1.toNat : Int), .int .u8 (a2.toNat : Int), .int .u8 (a3.toNat : Int), .int .u8 (a4.toNat : Int), .int .u8 (a5.toNat : Int), .int .u8 (a6.toNat : Int), .int .u8 (a7.toNat : Int), .slice So lo.length co, .slice Sb lb.length cb] rfl)
  go_wp2_with (first | ((with_reducible show wpList _ _ _ (⟨some 15, _, _, _, _, _⟩ :: _) _ _); refine wpList_load_rng 27 (.tmp 2) rfl (by kernel_rfl) _ _ rfl _ R2.out _ Try.underlying27 rfl (by kernel_rfl) ?_))
  with_reducible refine (great6_any tos id fl pt ttl pr a0 a1 a2 a3 a4 a5 a6 a7 So Sb lo.length co lb.length cb _).mono ?_
  clear R2
  rintro e w2 ⟨rfl, b2⟩
  replace hp := (b2.block _ zp).trans hp
  replace zp := Nat.lt_of_lt_of_le zp b2.size
  replace bel := bel.trans (b2.mono bel.size)
  clear b2
  rw [g1, g2, Bool.or_false]
  go_wp2_with fail
  go_ret
  exact ⟨rfl, bel⟩
set_option linter.unusedVariables false in
set_option maxRecDepth 100000 in
set_option maxHeartbeats 16000000 in
theorem ip4Hops_big (tos id fl pt ttl pr : Int) (a0 a1 a2 a3 a4 a5 a6 a7 : UInt8) (So Sb : Option Addr) (co cb : Nat) (lo lb : List UInt8) (n : Int) (w : World) (ho : Sl w So lo.length co lo) (hb : Sl w Sb lb.length cb lb) (h1 : lb.length ≤ 1600) (h2 : lo.length ≤ 100) (hc : 300 < n) : Calls Try.prog 5 #[.agg #[.int .i64 tos, .int .i64 id, .int .i64 fl, .int .i64 pt, .int .i64 ttl, .int .i64 pr, .int .u8 (a0.toNat : Int), .int .u8 (a1.toNat : Int), .int .u8 (a2.toNat : Int), .int .u8 (a3.toNat : Int), .int .u8 (a4.toNat : Int), .int .u8 (a5.toNat : Int), .int .u8 (a6.toNat : Int), .int .u8 (a7.toNat : Int), .slice So lo.length co, .slice Sb lb.length cb], .int .i64 n] w fun e w' => e = .returned (.bool true) ∧ Below w.heap.size w w' := by
  have bel := Below.refl w.heap.size w
  have hp : (w.alloc (.cells #[.int .i64 tos, .int .i64 id, .int .i64 fl, .int .i64 pt, .int .i64 ttl, .int .i64 pr, .int .u8 (a0.toNat : Int), .int .u8 (a1.toNat : Int), .int .u8 (a2.toNat : Int), .int .u8 (a3.toNat : Int), .int .u8 (a4.toNat : Int), .int .u8 (a5.toNat : Int), .int .u8 (a6.toNat : Int), .int .u8 (a7.toNat : Int), .slice So lo.length co, .slice Sb lb.length cb] 27)).heap[w.heap.size]? = some (.cells #[.int .i64 tos, .int .i64 id, .int .i64 fl, .int .i64 pt, .int .i64 ttl, .int .i64 pr, .int .u8 (a0.toNat : Int), .int .u8 (a1.toNat : Int), .int .u8 (a2.toNat : Int), .int .u8 (a3.toNat : Int), .int .u8 (a4.toNat : Int), .int .u8 (a5.toNat : Int), .int .u8 (a6.toNat : Int), .int .u8 (a7.toNat : Int), .slice So lo.length co, .slice Sb lb.length cb] 27 (0, 0)) := by have := heap_alloc_new w (.cells #[.int .i64 tos, .int .i64 id, .int .i64 fl, .int .i64 pt, .int .i64 ttl, .int .i64 pr, .int .u8 (a0.toNat : Int), .int .u8 (a1.toNat : Int), .int .u8 (a2.toNat : Int), .int .u8 (a3.toNat : Int), .int .u8 (a4.toNat : Int), .int .u8 (a5.toNat : Int), .int .u8 (a6.toNat : Int), .int .u8 (a7.toNat : Int), .slice So lo.length co, .slice Sb lb.length cb] 27); simpa using this
  have zp : w.heap.size < (w.alloc (.cells #[.int .i64 tos, .int .i64 id, .int .i64 fl, .int .i64 pt, .int .i64 ttl, .int .i64 pr, .int .u8 (a0.toNat : Int), .int .u8 (a1.toNat : Int), .int .u8 (a2.toNat : Int), .int .u8 (a3.toNat : Int), .int .u8 (a4.toNat : Int), .int .u8 (a5.toNat : Int), .int .u8 (a6.toNat : Int), .int .u8 (a7.toNat : Int), .slice So lo.length co, .slice Sb lb.length cb] 27)).heap.size := by simp
  replace bel := bel.alloc bel.size (.cells #[.int .i64 tos, .int .i64 id, .int .i64 fl, .int .i64 pt, .int .i64 ttl, .int .i64 pr, .int .u8 (a0.toNat : Int), .int .u8 (a1.toNat : Int), .int .u8 (a2.toNat : Int), .int .u8 (a3.toNat : Int), .int .u8 (a4.toNat : Int), .int .u8 (a5.toNat : Int), .int .u8 (a6.toNat : Int), .int .u8 (a7.toNat : Int), .slice So lo.length co, .slice Sb lb.length cb] 27)
  have t2 : decide (n < 0) = false := decide_eq_false (by omega)
  have g1 : decide (1600 < lb.length) = false := decide_eq_false (by omega)
  have g2 : decide (100 < lo.length) = false := decide_eq_false (by omega)
  have H1 := Lib.hid h1
  clear h1 h2
  go_enter Try.func5, Try.ntmps5
  go_wp2_with fail
  with_reducible refine (awake6 _).mono ?_
  rintro e w1 ⟨rfl, b1⟩
  replace hp := (b1.block _ zp).trans hp
  replace zp := Nat.lt_of_lt_of_le zp b1.size
  replace bel := bel.trans (b1.mono bel.size)
  clear b1
  have R2 := Lib.hid (range_lit hp 0 16 [.int .i64 tos, .int .i64 id, .int .i64 fl, .int .i64 pt, .int .i64 ttl, .int .i64 pr, .int .u8 (a0.toNat : Int), .int .u8 (a1.toNat : Int), .int .u8 (a2.toNat : Int), .int .u8 (a3.toNat : Int), .int .u8 (a4.toNat : Int), .int .u8 (a5.toNat : Int), .int .u8 (a6.toNat : Int), .int .u8 (a7.toNat : Int), .slice So lo.length co, .slice Sb lb.length cb] rfl)
  go_wp2_with (first | ((with_reducible show wpList _ _ _ (⟨some 15, _, _, _, _, _⟩ :: _) _ _); refine wpList_load_rng 27 (.tmp 2) rfl (by kernel_rfl) _ _ rfl _ R2.out _ Try.underlying27 rfl (by kernel_rfl) ?_))
  with_reducible refine (great6_any tos id fl pt ttl pr a0 a1 a2 a3 a4 a5 a6 a7 So Sb lo.length co lb.length cb _).mono ?_
  clear R2
  rintro e w2 ⟨rfl, b2⟩
  replace hp := (b2.block _ zp).trans hp
  replace zp := Nat.lt_of_lt_of_le zp b2.size
  replace bel := bel.trans (b2.mono bel.size)
  clear b2
  rw [g1, g2, Bool.or_false]
  go_wp2_with fail
  go_ret
  exact ⟨rfl, bel⟩
set_option linter.unusedVariables false in
set_option maxRecDepth 100000 in
set_option maxHeartbeats 16000000 in
theorem ip4Hops_refused (tos id fl pt ttl pr : Int) (a0 a1 a2 a3 a4 a5 a6 a7 : UInt8) (So Sb : Option Addr) (co cb : Nat) (lo lb : List UInt8) (n : Nat) (w : World) (ho : Sl w So lo.length co lo) (hb : Sl w Sb lb.length cb lb) (h1 : lb.length ≤ 1600) (h2 : lo.length ≤ 100) (hn : n ≤ 300) (hne : (ipPut tos id fl pt ttl pr a0 a1 a2 a3 a4 a5 a6 a7 lo lb).2 ≠ 0) : Calls Try.prog 5 #[.agg #[.int .i64 tos, .int .i64 id, .int .i64 fl, .int .i64 pt, .int .i64 ttl, .int .i64 pr, .int .u8 (a0.toNat : Int), .int .u8 (a1.toNat : Int), .int .u8 (a2.toNat : Int), .int .u8 (a3.toNat : Int), .int .u8 (a4.toNat : Int), .int .u8 (a5.toNat : Int), .int .u8 (a6.toNat : Int), .int .u8 (a7.toNat : Int), .slice So lo.length co, .slice Sb lb.length cb], .int .i64 n] w fun e w' => e = .returned (.bool true) ∧ Below w.heap.size w w' := by
  have bel := Below.refl w.heap.size w
  have hp : (w.alloc (.cells #[.int .i64 tos, .int .i64 id, .int .i64 fl, .int .i64 pt, .int .i64 ttl, .int .i64 pr, .int .u8 (a0.toNat : Int), .int .u8 (a1.toNat : Int), .int .u8 (a2.toNat : Int), .int .u8 (a3.toNat : Int), .int .u8 (a4.toNat : Int), .int .u8 (a5.toNat : Int), .int .u8 (a6.toNat : Int), .int .u8 (a7.toNat : Int), .slice So lo.length co, .slice Sb lb.length cb] 27)).heap[w.heap.size]? = some (.cells #[.int .i64 tos, .int .i64 id, .int .i64 fl, .int .i64 pt, .int .i64 ttl, .int .i64 pr, .int .u8 (a0.toNat : Int), .int .u8 (a1.toNat : Int), .int .u8 (a2.toNat : Int), .int .u8 (a3.toNat : Int), .int .u8 (a4.toNat : Int), .int .u8 (a5.toNat : Int), .int .u8 (a6.toNat : Int), .int .u8 (a7.toNat : Int), .slice So lo.length co, .slice Sb lb.length cb] 27 (0, 0)) := by have := heap_alloc_new w (.cells #[.int .i64 tos, .int .i64 id, .int .i64 fl, .int .i64 pt, .int .i64 ttl, .int .i64 pr, .int .u8 (a0.toNat : Int), .int .u8 (a1.toNat : Int), .int .u8 (a2.toNat : Int), .int .u8 (a3.toNat : Int), .int .u8 (a4.toNat : Int), .int .u8 (a5.toNat : Int), .int .u8 (a6.toNat : Int), .int .u8 (a7.toNat : Int), .slice So lo.length co, .slice Sb lb.length cb] 27); simpa using this
  have zp : w.heap.size < (w.alloc (.cells #[.int .i64 tos, .int .i64 id, .int .i64 fl, .int .i64 pt, .int .i64 ttl, .int .i64 pr, .int .u8 (a0.toNat : Int), .int .u8 (a1.toNat : Int), .int .u8 (a2.toNat : Int), .int .u8 (a3.toNat : Int), .int .u8 (a4.toNat : Int), .int .u8 (a5.toNat : Int), .int .u8 (a6.toNat : Int), .int .u8 (a7.toNat : Int), .slice So lo.length co, .slice Sb lb.length cb] 27)).heap.size := by simp
  replace bel := bel.alloc bel.size (.cells #[.int .i64 tos, .int .i64 id, .int .i64 fl, .int .i64 pt, .int .i64 ttl, .int .i64 pr, .int .u8 (a0.toNat : Int), .int .u8 (a1.toNat : Int), .int .u8 (a2.toNat : Int), .int .u8 (a3.toNat : Int), .int .u8 (a4.toNat : Int), .int .u8 (a5.toNat : Int), .int .u8 (a6.toNat : Int), .int .u8 (a7.toNat : Int), .slice So lo.length co, .slice Sb lb.length cb] 27)
  have hob := ho.below bel
  have hbb := hb.below bel
  have t2 : decide ((n : Int) < 0) = false := decide_eq_false (by omega)
  have t3 : decide (300 < (n : Int)) = false := decide_eq_false (by omega)
  have g1 : decide (1600 < lb.length) = false := decide_eq_false (by omega)
  have g2 : decide (100 < lo.length) = false := decide_eq_false (by omega)
  have H1 := Lib.hid h1
  clear h1 h2
  go_enter Try.func5, Try.ntmps5
  go_wp2_with fail
  with_reducible refine (awake6 _).mono ?_
  rintro e w1 ⟨rfl, b1⟩
  replace hp := (b1.block _ zp).trans hp
  replace zp := Nat.lt_of_lt_of_le zp b1.size
  replace hob := hob.below b1
  replace hbb := hbb.below b1
  replace bel := bel.trans (b1.mono bel.size)
  clear b1
  have R2 := Lib.hid (range_lit hp 0 16 [.int .i64 tos, .int .i64 id, .int .i64 fl, .int .i64 pt, .int .i64 ttl, .int .i64 pr, .int .u8 (a0.toNat : Int), .int .u8 (a1.toNat : Int), .int .u8 (a2.toNat : Int), .int .u8 (a3.toNat : Int), .int .u8 (a4.toNat : Int), .int .u8 (a5.toNat : Int), .int .u8 (a6.toNat : Int), .int .u8 (a7.toNat : Int), .slice So lo.length co, .slice Sb lb.length cb] rfl)
  go_wp2_with (first | ((with_reducible show wpList _ _ _ (⟨some 15, _, _, _, _, _⟩ :: _) _ _); refine wpList_load_rng 27 (.tmp 2) rfl (by kernel_rfl) _ _ rfl _ R2.out _ Try.underlying27 rfl (by kernel_rfl) ?_))
  with_reducible refine (great6_any tos id fl pt ttl pr a0 a1 a2 a3 a4 a5 a6 a7 So Sb lo.length co lb.length cb _).mono ?_
  clear R2
  rintro e w2 ⟨rfl, b2⟩
  replace hp := (b2.block _ zp).trans hp
  replace zp := Nat.lt_of_lt_of_le zp b2.size
  replace hob := hob.below b2
  replace hbb := hbb.below b2
  replace bel := bel.trans (b2.mono bel.size)
  clear b2
  rw [g1, g2, Bool.or_false]
  have R2 := Lib.hid (range_lit hp 0 16 [.int .i64 tos, .int .i64 id, .int .i64 fl, .int .i64 pt, .int .i64 ttl, .int .i64 pr, .int .u8 (a0.toNat : Int), .int .u8 (a1.toNat : Int), .int .u8 (a2.toNat : Int), .int .u8 (a3.toNat : Int), .int .u8 (a4.toNat : Int), .int .u8 (a5.toNat : Int), .int .u8 (a6.toNat : Int), .int .u8 (a7.toNat : Int), .slice So lo.length co, .slice Sb lb.length cb] rfl)
  go_wp2_with (first | ((with_reducible show wpList _ _ _ (⟨some 26, _, _, _, _, _⟩ :: _) _ _); refine wpList_load_rng 27 (.tmp 2) rfl (by kernel_rfl) _ _ rfl _ R2.out _ Try.underlying27 rfl (by kernel_rfl) ?_))
  with_reducible refine (ipput_any tos id fl pt ttl pr a0 a1 a2 a3 a4 a5 a6 a7 So Sb lo.length co lb.length cb lo lb _ hob hbb (by have := H1.out; omega)).mono ?_
  clear R2
  rintro e w3 ⟨v, r, er, rfl, hown, b3, hpe⟩
  replace hp := (b3.block _ zp).trans hp
  replace zp := Nat.lt_of_lt_of_le zp b3.size
  replace hob := hob.below b3
  replace hbb := hbb.below b3
  replace bel := bel.trans (b3.mono bel.size)
  clear b3
  have he : er = (ipPut tos id fl pt ttl pr a0 a1 a2 a3 a4 a5 a6 a7 lo lb).2 := congrArg Prod.snd hpe
  have q1 : (er == 0) = false := by rw [he]; simpa using hne
  have q2 : (er != 0) = true := by rw [he]; simpa using hne
  clear he hpe hown
  go_wp2_with fail
  go_ret
  exact ⟨rfl, bel⟩
set_option linter.unusedVariables false in
set_option maxRecDepth 100000 in
set_option maxHeartbeats 16000000 in
theorem ip4Hops_in (tos id fl pt ttl pr : Int) (a0 a1 a2 a3 a4 a5 a6 a7 : UInt8) (So Sb : Option Addr) (co cb : Nat) (lo lb : List UInt8) (n : Nat) (w : World) (ho : Sl w So lo.length co lo) (hb : Sl w Sb lb.length cb lb) (h1 : lb.length ≤ 1600) (h2 : lo.length ≤ 100) (hn : n ≤ 300) (httl : 0 ≤ ttl ∧ ttl ≤ 255) (PB : List UInt8) (hput : ipPut tos id fl pt ttl pr a0 a1 a2 a3 a4 a5 a6 a7 lo lb = (PB, 0)) (hpl : 20 ≤ PB.length ∧ PB.length ≤ 1500) (hE : ipErr PB = 0) (hG : ipGet PB = (([tos, id, fl, pt, ttl, pr], [a0, a1, a2, a3, a4, a5, a6, a7]), (lo, lb), 0)) (hbe : be ((PB.drop 2).take 2) = PB.length) : Calls Try.prog 5 #[.agg #[.int .i64 tos, .int .i64 id, .int .i64 fl, .int .i64 pt, .int .i64 ttl, .int .i64 pr, .int .u8 (a0.toNat : Int), .int .u8 (a1.toNat : Int), .int .u8 (a2.toNat : Int), .int .u8 (a3.toNat : Int), .int .u8 (a4.toNat : Int), .int .u8 (a5.toNat : Int), .int .u8 (a6.toNat : Int), .int .u8 (a7.toNat : Int), .slice So lo.length co, .slice Sb lb.length cb], .int .i64 n] w fun e w' => e = .returned (.bool true) ∧ Below w.heap.size w w' := by
  have bel := Below.refl w.heap.size w
  have hp : (w.alloc (.cells #[.int .i64 tos, .int .i64 id, .int .i64 fl, .int .i64 pt, .int .i64 ttl, .int .i64 pr, .int .u8 (a0.toNat : Int), .int .u8 (a1.toNat : Int), .int .u8 (a2.toNat : Int), .int .u8 (a3.toNat : Int), .int .u8 (a4.toNat : Int), .int .u8 (a5.toNat : Int), .int .u8 (a6.toNat : Int), .int .u8 (a7.toNat : Int), .slice So lo.length co, .slice Sb lb.length cb] 27)).heap[w.heap.size]? = some (.cells #[.int .i64 tos, .int .i64 id, .int .i64 fl, .int .i64 pt, .int .i64 ttl, .int .i64 pr, .int .u8 (a0.toNat : Int), .int .u8 (a1.toNat : Int), .int .u8 (a2.toNat : Int), .int .u8 (a3.toNat : Int), .int .u8 (a4.toNat : Int), .int .u8 (a5.toNat : Int), .int .u8 (a6.toNat : Int), .int .u8 (a7.toNat : Int), .slice So lo.length co, .slice Sb lb.length cb] 27 (0, 0)) := by have := heap_alloc_new w (.cells #[.int .i64 tos, .int .i64 id, .int .i64 fl, .int .i64 pt, .int .i64 ttl, .int .i64 pr, .int .u8 (a0.toNat : Int), .int .u8 (a1.toNat : Int), .int .u8 (a2.toNat : Int), .int .u8 (a3.toNat : Int), .int .u8 (a4.toNat : Int), .int .u8 (a5.toNat : Int), .int .u8 (a6.toNat : Int), .int .u8 (a7.toNat : Int), .slice So lo.length co, .slice Sb lb.length cb] 27); simpa using this
  have zp : w.heap.size < (w.alloc (.cells #[.int .i64 tos, .int .i64 id, .int .i64 fl, .int .i64 pt, .int .i64 ttl, .int .i64 pr, .int .u8 (a0.toNat : Int), .int .u8 (a1.toNat : Int), .int .u8 (a2.toNat : Int), .int .u8 (a3.toNat : Int), .int .u8 (a4.toNat : Int), .int .u8 (a5.toNat : Int), .int .u8 (a6.toNat : Int), .int .u8 (a7.toNat : Int), .slice So lo.length co, .slice Sb lb.length cb] 27)).heap.size := by simp
  replace bel := bel.alloc bel.size (.cells #[.int .i64 tos, .int .i64 id, .int .i64 fl, .int .i64 pt, .int .i64 ttl, .int .i64 pr, .int .u8 (a0.toNat : Int), .int .u8 (a1.toNat : Int), .int .u8 (a2.toNat : Int), .int .u8 (a3.toNat : Int), .int .u8 (a4.toNat : Int), .int .u8 (a5.toNat : Int), .int .u8 (a6.toNat : Int), .int .u8 (a7.toNat : Int), .slice So lo.length co, .slice Sb lb.length cb] 27)
  have hob := ho.below bel
  have hbb := hb.below bel
  have t2 : decide ((n : Int) < 0) = false := decide_eq_false (by omega)
  have t3 : decide (300 < (n : Int)) = false := decide_eq_false (by omega)
  have HN := Lib.hid hn; have HPL := Lib.hid hpl; have HT := Lib.hid httl
  clear hn hpl httl
  have g1 : decide (1600 < lb.length) = false := decide_eq_false (by omega)
  have g2 : decide (100 < lo.length) = false := decide_eq_false (by omega)
  have H1 := Lib.hid h1
  clear h1 h2
  go_enter Try.func5, Try.ntmps5
  go_wp2_with fail
  with_reducible refine (awake6 _).mono ?_
  rintro e w1 ⟨rfl, b1⟩
  replace hp := (b1.block _ zp).trans hp
  replace zp := Nat.lt_of_lt_of_le zp b1.size
  replace hob := hob.below b1
  replace hbb := hbb.below b1
  replace bel := bel.trans (b1.mono bel.size)
  clear b1
  have R2 := Lib.hid (range_lit hp 0 16 [.int .i64 tos, .int .i64 id, .int .i64 fl, .int .i64 pt, .int .i64 ttl, .int .i64 pr, .int .u8 (a0.toNat : Int), .int .u8 (a1.toNat : Int), .int .u8 (a2.toNat : Int), .int .u8 (a3.toNat : Int), .int .u8 (a4.toNat : Int), .int .u8 (a5.toNat : Int), .int .u8 (a6.toNat : Int), .int .u8 (a7.toNat : Int), .slice So lo.length co, .slice Sb lb.length cb] rfl)
  go_wp2_with (first | ((with_reducible show wpList _ _ _ (⟨some 15, _, _, _, _, _⟩ :: _) _ _); refine wpList_load_rng 27 (.tmp 2) rfl (by kernel_rfl) _ _ rfl _ R2.out _ Try.underlying27 rfl (by kernel_rfl) ?_))
  with_reducible refine (great6_any tos id fl pt ttl pr a0 a1 a2 a3 a4 a5 a6 a7 So Sb lo.length co lb.length cb _).mono ?_
  clear R2
  rintro e w2 ⟨rfl, b2⟩
  replace hp := (b2.block _ zp).trans hp
  replace zp := Nat.lt_of_lt_of_le zp b2.size
  replace hob := hob.below b2
  replace hbb := hbb.below b2
  replace bel := bel.trans (b2.mono bel.size)
  clear b2
  rw [g1, g2, Bool.or_false]
  have oz := Nat.le_refl w.heap.size
  have R2 := Lib.hid (range_lit hp 0 16 [.int .i64 tos, .int .i64 id, .int .i64 fl, .int .i64 pt, .int .i64 ttl, .int .i64 pr, .int .u8 (a0.toNat : Int), .int .u8 (a1.toNat : Int), .int .u8 (a2.toNat : Int), .int .u8 (a3.toNat : Int), .int .u8 (a4.toNat : Int), .int .u8 (a5.toNat : Int), .int .u8 (a6.toNat : Int), .int .u8 (a7.toNat : Int), .slice So lo.length co, .slice Sb lb.length cb] rfl)
  go_wp2_with (first | ((with_reducible show wpList _ _ _ (⟨some 26, _, _, _, _, _⟩ :: _) _ _); refine wpList_load_rng 27 (.tmp 2) rfl (by kernel_rfl) _ _ rfl _ R2.out _ Try.underlying27 rfl (by kernel_rfl) ?_))
  with_reducible refine (ipput_any tos id fl pt ttl pr a0 a1 a2 a3 a4 a5 a6 a7 So Sb lo.length co lb.length cb lo lb _ hob hbb (by have := H1.out; omega)).mono ?_
  clear R2
  rintro e w3 ⟨v, r, er, rfl, hown, b3, hpe⟩
  replace hp := (b3.block _ zp).trans hp
  replace zp := Nat.lt_of_lt_of_le zp b3.size
  replace hob := hob.below b3
  replace hbb := hbb.below b3
  replace bel := bel.trans (b3.mono bel.size)
  clear b3
  rw [hput] at hpe
  simp only [Prod.mk.injEq] at hpe
  obtain ⟨q1, rfl⟩ := hpe
  obtain rfl : PB = r := q1.symm
  obtain ⟨A1, c1, ev, hs, hfr⟩ := Sl.of_own_f hown
  subst ev
  clear hown hfr
  go_wp2_with fail
  go_loopw [5, 7] (fun b i wr => ∃ (k : Nat) (A : Option Addr) (c : Nat) (L : List UInt8), k ≤ n ∧ i = .int .i64 k ∧ b = .slice A PB.length c ∧ Sl wr A PB.length c L ∧ ipErr L = 0 ∧ ipGet L = (([tos, id, fl, pt, ttl - k, pr], [a0, a1, a2, a3, a4, a5, a6, a7]), (lo, lb), 0) ∧ be ((L.drop 2).take 2) = PB.length ∧ wr.heap[w.heap.size]? = some (.cells #[.int .i64 tos, .int .i64 id, .int .i64 fl, .int .i64 pt, .int .i64 ttl, .int .i64 pr, .int .u8 (a0.toNat : Int), .int .u8 (a1.toNat : Int), .int .u8 (a2.toNat : Int), .int .u8 (a3.toNat : Int), .int .u8 (a4.toNat : Int), .int .u8 (a5.toNat : Int), .int .u8 (a6.toNat : Int), .int .u8 (a7.toNat : Int), .slice So lo.length co, .slice Sb lb.length cb] 27 (0, 0)) ∧ w.heap.size < wr.heap.size ∧ Below w.heap.size w wr ∧ Sl wr So lo.length co lo ∧ Sl wr Sb lb.length cb lb) (fun _ i _ => n - (intOf i).toNat)
  case atStart => exact ⟨0, A1, c1, PB, by omega, rfl, rfl, hs, hE, by simpa using hG, hbe, hp, zp, bel, hob, hbb⟩
  case round =>
    clear hs hp zp bel hob hbb
    obtain ⟨k, A, c, L, hk, rfl, rfl, hs, hEL, hGL, hbL, hp, zp, bel, hob, hbb⟩ := hrel
    have k0 : (0 : Int) ≤ k := by omega
    have kb : (k : Int) < 1000 := by have := HN.out; omega
    by_cases hlt : k < n
    · have HLT := Lib.hid hlt
      have ht := ttl_of hEL hGL
      have hx := (L.getD 8 0).toNat_lt
      by_cases hd : (L.getD 8 0).toNat < 2
      · have eh : ipHop L = ([], 11) := by unfold ipHop; rw [if_neg (by rw [hEL]; simp), if_pos hd]
        have r4 := cell_lit hp 4 _ rfl
        have tk : decide (1 < ttl - (k : Int)) = false := decide_eq_false (by omega)
        have tw : IntKind.i64.wrap (ttl - (k : Int)) = ttl - k := by rw [IntKind.wrap_i64]; omega
        clear ht hx hd
        go_wp2_with fail
        with_reducible refine (iphop_any A PB.length c L _ hs (by have := HPL.out; omega)).mono ?_
        rintro e w9 ⟨A2, c2, r, er, rfl, hs2, b9, hpe⟩
        rw [eh] at hpe
        simp only [Prod.mk.injEq] at hpe
        obtain ⟨rfl, rfl⟩ := hpe
        replace hp := (b9.block _ zp).trans hp
        replace r4 := cell_lit hp 4 _ rfl
        replace bel := bel.trans (b9.mono bel.size)
        clear hs hs2 b9
        go_wp2
        go_ret
        exact ⟨rfl, bel⟩
      · have eh : ipHop L = (hopped L, 0) := by unfold ipHop; rw [if_neg (by rw [hEL]; simp), if_neg hd]
        have hg := Lib.hid (hop_good hEL (by omega))
        have r4 := cell_lit hp 4 _ rfl
        have tk : (1 : Int) < ttl - (k : Int) := by omega
        have tw : IntKind.i64.wrap (ttl - (k : Int)) = ttl - k := by rw [IntKind.wrap_i64]; omega
        have HGL := Lib.hid hGL
        have HBL := Lib.hid hbL
        clear ht hx hd hGL hbL
        go_wp2_with fail
        with_reducible refine (iphop_any A PB.length c L _ hs (by have := HPL.out; omega)).mono ?_
        rintro e w9 ⟨A2, c2, r, er, rfl, hs2, b9, hpe⟩
        rw [eh] at hpe
        simp only [Prod.mk.injEq] at hpe
        obtain ⟨rfl, rfl⟩ := hpe
        have hle : (hopped L).length = PB.length := by rw [hg.out.2.1, HBL.out]
        rw [hle] at hs2 ⊢
        replace hp := (b9.block _ zp).trans hp
        replace zp := Nat.lt_of_lt_of_le zp b9.size
        replace r4 := cell_lit hp 4 _ rfl
        replace bel := bel.trans (b9.mono bel.size)
        replace hob := hob.below b9
        replace hbb := hbb.below b9
        clear hs b9 hle eh
        go_wp2
        go_roundw
        case rel => exact ⟨k + 1, A2, c2, hopped L, by have := HLT.out; omega, by go_num, rfl, hs2, hg.out.1, by rw [hg.out.2.2.2.2 _ _ _ _ _ _ _ _ _ HGL.out, show ttl - (k : Int) - 1 = ttl - ((k + 1 : Nat) : Int) by omega], by rw [hg.out.2.2.1, HBL.out], hp, zp, bel, hob, hbb⟩
        case measure => have := HLT.out; simp [intOf]; omega
    · obtain rfl : k = n := by omega
      have hdt : (0 : Int) ≤ ttl - k ∨ ttl - (k : Int) < 0 := by omega
      have tw : IntKind.i64.wrap (ttl - (k : Int)) = ttl - k := by rw [IntKind.wrap_i64]; have := HT.out; omega
      clear hdt
      go_wp2_with fail
      with_reducible refine (ipget_any A PB.length c L _ hs (by have := HPL.out; omega)).mono ?_
      rintro e w41 ⟨f0, f1, f2, f3, f4, f5, g0, g1, g2, g3, g4, g5, g6, g7, lo1, lb1, Ao1, Ab1, co1, cb1, er1, rfl, ho1, hb1, b41, hg1⟩
      replace hp := (b41.block _ zp).trans hp
      replace zp := Nat.lt_of_lt_of_le zp b41.size
      replace hob := hob.below b41
      replace hbb := hbb.below b41
      replace bel := bel.trans (b41.mono bel.size)
      clear b41
      clear hs
      have hh := hGL.symm.trans hg1.symm
      simp only [Prod.mk.injEq, List.cons.injEq, and_true] at hh
      obtain ⟨⟨⟨rfl, rfl, rfl, rfl, rfl, rfl⟩, rfl, rfl, rfl, rfl, rfl, rfl, rfl, rfl⟩, ⟨rfl, rfl⟩, rfl⟩ := hh
      clear hg1 hGL hbL hEL
      have nq := heap_alloc_new w41 (.cells #[.int .i64 0, .int .i64 0, .int .i64 0, .int .i64 0, .int .i64 0, .int .i64 0, .int .u8 0, .int .u8 0, .int .u8 0, .int .u8 0, .int .u8 0, .int .u8 0, .int .u8 0, .int .u8 0, .slice none 0 0, .slice none 0 0] 27)
      have bqq := (Below.refl w41.heap.size w41).alloc (Nat.le_refl _) (.cells #[.int .i64 0, .int .i64 0, .int .i64 0, .int .i64 0, .int .i64 0, .int .i64 0, .int .u8 0, .int .u8 0, .int .u8 0, .int .u8 0, .int .u8 0, .int .u8 0, .int .u8 0, .int .u8 0, .slice none 0 0, .slice none 0 0] 27)
      go_wp2_with (first | ((with_reducible show wpList _ _ _ (⟨none, Op.store _ _ _, _, _, _, _⟩ :: _) _ _); refine wpList_store_blk rfl 27 _ _ rfl (w41.heap.size) rfl #[.int .i64 tos, .int .i64 id, .int .i64 fl, .int .i64 pt, .int .i64 (ttl - (k : Int)), .int .i64 pr, .int .u8 (a0.toNat : Int), .int .u8 (a1.toNat : Int), .int .u8 (a2.toNat : Int), .int .u8 (a3.toNat : Int), .int .u8 (a4.toNat : Int), .int .u8 (a5.toNat : Int), .int .u8 (a6.toNat : Int), .int .u8 (a7.toNat : Int), .slice Ao1 lo.length co1, .slice Ab1 lb.length cb1] rfl _ 27 nq (by rfl) (by kernel_rfl) (by kernel_rfl) ?_; intro x42 hq gq; have bz := below_grown bqq gq (Nat.le_refl _) bqq.size; replace hp := (bz.block _ zp).trans hp; replace zp := Nat.lt_of_lt_of_le zp bz.size; replace hob := hob.below bz; replace hbb := hbb.below bz; replace ho1 := ho1.below bz; replace hb1 := hb1.below bz; replace bel := bel.trans (bz.mono bel.size); have zq := (Array.getElem?_eq_some_iff.1 hq).1; clear nq bqq bz gq; have R2 := Lib.hid (range_lit hp 0 16 [.int .i64 tos, .int .i64 id, .int .i64 fl, .int .i64 pt, .int .i64 ttl, .int .i64 pr, .int .u8 (a0.toNat : Int), .int .u8 (a1.toNat : Int), .int .u8 (a2.toNat : Int), .int .u8 (a3.toNat : Int), .int .u8 (a4.toNat : Int), .int .u8 (a5.toNat : Int), .int .u8 (a6.toNat : Int), .int .u8 (a7.toNat : Int), .slice So lo.length co, .slice Sb lb.length cb] rfl)) | ((with_reducible show wpList _ _ _ (⟨some 60, _, _, _, _, _⟩ :: _) _ _); refine wpList_load_rng 27 (.tmp 2) rfl (by kernel_rfl) _ _ rfl _ R2.out _ Try.underlying27 rfl (by kernel_rfl) ?_))
      with_reducible refine (own6_any tos id fl pt ttl pr a0 a1 a2 a3 a4 a5 a6 a7 _ _ _ _ _ _ _).mono ?_
      clear R2
      rintro e w43 ⟨rfl, b43⟩
      replace hp := (b43.block _ zp).trans hp
      replace zp := Nat.lt_of_lt_of_le zp b43.size
      replace hq := (b43.block _ zq).trans hq
      replace zq := Nat.lt_of_lt_of_le zq b43.size
      replace hob := hob.below b43
      replace hbb := hbb.below b43
      replace ho1 := ho1.below b43
      replace hb1 := hb1.below b43
      replace bel := bel.trans (b43.mono bel.size)
      clear b43
      have zpr := zp
      have zqr := zq
      have pv := hp
      have qv := hq
      have v1 := hob
      have v2 := hbb
      have v3 := ho1
      have v4 := hb1
      have belv := bel
      have nr := heap_alloc_new w43 (.cells #[.int .i64 0, .int .i64 0, .int .i64 0, .int .i64 0, .int .i64 0, .int .i64 0, .int .u8 0, .int .u8 0, .int .u8 0, .int .u8 0, .int .u8 0, .int .u8 0, .int .u8 0, .int .u8 0, .slice none 0 0, .slice none 0 0] 35)
      have bqr := (Below.refl w43.heap.size w43).alloc (Nat.le_refl _) (.cells #[.int .i64 0, .int .i64 0, .int .i64 0, .int .i64 0, .int .i64 0, .int .i64 0, .int .u8 0, .int .u8 0, .int .u8 0, .int .u8 0, .int .u8 0, .int .u8 0, .int .u8 0, .int .u8 0, .slice none 0 0, .slice none 0 0] 35)
      go_wp2_with (first | ((with_reducible show wpList _ _ _ (⟨none, Op.store _ _ _, _, _, _, _⟩ :: _) _ _); refine wpList_store_blk rfl 35 _ _ rfl (w43.heap.size) rfl #[.int .i64 tos, .int .i64 id, .int .i64 fl, .int .i64 pt, .int .i64 ttl, .int .i64 pr, .int .u8 (a0.toNat : Int), .int .u8 (a1.toNat : Int), .int .u8 (a2.toNat : Int), .int .u8 (a3.toNat : Int), .int .u8 (a4.toNat : Int), .int .u8 (a5.toNat : Int), .int .u8 (a6.toNat : Int), .int .u8 (a7.toNat : Int), .slice So lo.length co, .slice Sb lb.length cb] rfl _ 35 nr (by rfl) (by kernel_rfl) (by kernel_rfl) ?_; intro x44 hr gr; have bz := below_grown bqr gr (Nat.le_refl _) bqr.size; replace hp := (bz.block _ zp).trans hp; replace zp := Nat.lt_of_lt_of_le zp bz.size; replace hq := (bz.block _ zq).trans hq; replace zq := Nat.lt_of_lt_of_le zq bz.size; replace hob := hob.below bz; replace hbb := hbb.below bz; replace ho1 := ho1.below bz; replace hb1 := hb1.below bz; replace bel := bel.trans (bz.mono bel.size); have zr := (Array.getElem?_eq_some_iff.1 hr).1; have bk := bz; have cr := cell_lit hr 4 _ rfl; have fr := froz_lit hr 4; clear nr bqr bz gr; have R62 := cell_lit hp 4 _ rfl))
      clear R62
      have hr2 : (x44.setCell ⟨w43.heap.size, 4, none⟩ (.int .i64 (ttl - (k : Int)))).heap[w43.heap.size]? = some (.cells #[.int .i64 tos, .int .i64 id, .int .i64 fl, .int .i64 pt, .int .i64 (ttl - (k : Int)), .int .i64 pr, .int .u8 (a0.toNat : Int), .int .u8 (a1.toNat : Int), .int .u8 (a2.toNat : Int), .int .u8 (a3.toNat : Int), .int .u8 (a4.toNat : Int), .int .u8 (a5.toNat : Int), .int .u8 (a6.toNat : Int), .int .u8 (a7.toNat : Int), .slice So lo.length co, .slice Sb lb.length cb] 35 (0, 0)) := by simp [World.setCell, Array.getElem?_modify, hr]
      have bk2 := bk.setCell (p := ⟨w43.heap.size, 4, none⟩) (Nat.le_refl _) (.int .i64 (ttl - (k : Int)))
      replace hq := (bk2.block _ zqr).trans qv
      replace zq := Nat.lt_of_lt_of_le zqr bk2.size
      have zr2 := (Array.getElem?_eq_some_iff.1 hr2).1
      replace hob := v1.below bk2
      replace hbb := v2.below bk2
      replace ho1 := v3.below bk2
      replace hb1 := v4.below bk2
      replace bel := belv.trans (bk2.mono belv.size)
      clear v1 v2 v3 v4 pv qv hr hp zp zr cr fr bk bk2 belv zpr
      generalize (x44.setCell ⟨w43.heap.size, 4, none⟩ (.int .i64 (ttl - (k : Int)))) = v0 at hr2 zr2 hq zq hob hbb ho1 hb1 bel ⊢
      have hr := hr2
      have zr := zr2
      clear hr2 zr2
      replace bel := bel.drew
      replace hq : v0.drew.heap[w41.heap.size]? = some (.cells #[.int .i64 tos, .int .i64 id, .int .i64 fl, .int .i64 pt, .int .i64 (ttl - (k : Int)), .int .i64 pr, .int .u8 (a0.toNat : Int), .int .u8 (a1.toNat : Int), .int .u8 (a2.toNat : Int), .int .u8 (a3.toNat : Int), .int .u8 (a4.toNat : Int), .int .u8 (a5.toNat : Int), .int .u8 (a6.toNat : Int), .int .u8 (a7.toNat : Int), .slice Ao1 lo.length co1, .slice Ab1 lb.length cb1] 27 (0, 0)) := hq
      replace zq : w41.heap.size < v0.drew.heap.size := zq
      replace hr : v0.drew.heap[w43.heap.size]? = some (.cells #[.int .i64 tos, .int .i64 id, .int .i64 fl, .int .i64 pt, .int .i64 (ttl - (k : Int)), .int .i64 pr, .int .u8 (a0.toNat : Int), .int .u8 (a1.toNat : Int), .int .u8 (a2.toNat : Int), .int .u8 (a3.toNat : Int), .int .u8 (a4.toNat : Int), .int .u8 (a5.toNat : Int), .int .u8 (a6.toNat : Int), .int .u8 (a7.toNat : Int), .slice So lo.length co, .slice Sb lb.length cb] 35 (0, 0)) := hr
      replace zr : w43.heap.size < v0.drew.heap.size := zr
      replace hob := hob.drew
      replace hbb := hbb.drew
      replace ho1 := ho1.drew
      replace hb1 := hb1.drew
      refine wp_region_held_drew (S := fun W => W.heap[w41.heap.size]? = some (.cells #[.int .i64 tos, .int .i64 id, .int .i64 fl, .int .i64 pt, .int .i64 (ttl - (k : Int)), .int .i64 pr, .int .u8 (a0.toNat : Int), .int .u8 (a1.toNat : Int), .int .u8 (a2.toNat : Int), .int .u8 (a3.toNat : Int), .int .u8 (a4.toNat : Int), .int .u8 (a5.toNat : Int), .int .u8 (a6.toNat : Int), .int .u8 (a7.toNat : Int), .slice Ao1 lo.length co1, .slice Ab1 lb.length cb1] 27 (0, 0)) ∧ W.heap[w43.heap.size]? = some (.cells #[.int .i64 tos, .int .i64 id, .int .i64 fl, .int .i64 pt, .int .i64 (ttl - (k : Int)), .int .i64 pr, .int .u8 (a0.toNat : Int), .int .u8 (a1.toNat : Int), .int .u8 (a2.toNat : Int), .int .u8 (a3.toNat : Int), .int .u8 (a4.toNat : Int), .int .u8 (a5.toNat : Int), .int .u8 (a6.toNat : Int), .int .u8 (a7.toNat : Int), .slice So lo.length co, .slice Sb lb.length cb] 35 (0, 0)) ∧ Sl W (So) (lo.length) (co) (lo) ∧ Sl W (Sb) (lb.length) (cb) (lb) ∧ Sl W (Ao1) (lo.length) (co1) (lo) ∧ Sl W (Ab1) (lb.length) (cb1) (lb)) (by kernel_rfl) ⟨hq, hr, hob, hbb, ho1, hb1⟩ (fun hH => ?_)
      generalize v0.drew = vd at bel hq zq hr zr hob hbb ho1 hb1 hH ⊢
      refine wpAnyH_take (i := 0) (v := ?_) rfl (by kernel_rfl) (by kernel_rfl) (by kernel_rfl) (fun _ _ _ h => h) (Or.inl ⟨by rfl, ?_⟩) hH ?_
      rotate_left
      · ((intro W hW; clear hW; go_simp) <;> with_reducible rfl)
      simp only [Act.put, List.getElem_toArray, List.getElem_cons_zero, List.setIfInBounds_toArray, List.set_cons_zero, List.set_cons_succ]
      refine wpAnyH_take (i := 1) (v := ?_) rfl (by kernel_rfl) (by kernel_rfl) (by kernel_rfl) (fun _ _ _ h => h) (Or.inl ⟨by rfl, ?_⟩) hH ?_
      rotate_left
      · ((intro W hW; clear hW; go_simp) <;> with_reducible rfl)
      simp only [Act.put, List.getElem_toArray, List.getElem_cons_zero, List.getElem_cons_succ, List.setIfInBounds_toArray, List.set_cons_zero, List.set_cons_succ]
      refine wpAnyH_take (i := 2) (v := ?_) rfl (by kernel_rfl) (by kernel_rfl) (by kernel_rfl) (fun _ _ _ h => h) (Or.inl ⟨by rfl, ?_⟩) hH ?_
      rotate_left
      · ((intro W hW; clear hW; go_simp) <;> with_reducible rfl)
      simp only [Act.put, List.getElem_toArray, List.getElem_cons_zero, List.getElem_cons_succ, List.setIfInBounds_toArray, List.set_cons_zero, List.set_cons_succ]
      refine wpAnyH_take (i := 3) (v := .agg #[.int .i64 tos, .int .i64 id, .int .i64 fl, .int .i64 pt, .int .i64 (ttl - (k : Int)), .int .i64 pr, .int .u8 (a0.toNat : Int), .int .u8 (a1.toNat : Int), .int .u8 (a2.toNat : Int), .int .u8 (a3.toNat : Int), .int .u8 (a4.toNat : Int), .int .u8 (a5.toNat : Int), .int .u8 (a6.toNat : Int), .int .u8 (a7.toNat : Int), .slice Ao1 lo.length co1, .slice Ab1 lb.length cb1]) rfl (by kernel_rfl) (by kernel_rfl) (by kernel_rfl) (fun _ _ _ h => h) (yieldsIf_load_part (by kernel_rfl) 27 _ rfl (w41.heap.size) 0 16 rfl [.int .i64 tos, .int .i64 id, .int .i64 fl, .int .i64 pt, .int .i64 (ttl - (k : Int)), .int .i64 pr, .int .u8 (a0.toNat : Int), .int .u8 (a1.toNat : Int), .int .u8 (a2.toNat : Int), .int .u8 (a3.toNat : Int), .int .u8 (a4.toNat : Int), .int .u8 (a5.toNat : Int), .int .u8 (a6.toNat : Int), .int .u8 (a7.toNat : Int), .slice Ao1 lo.length co1, .slice Ab1 lb.length cb1] 27 (0, 0) (fun W hW => hW.1) [.int .i64 tos, .int .i64 id, .int .i64 fl, .int .i64 pt, .int .i64 (ttl - (k : Int)), .int .i64 pr, .int .u8 (a0.toNat : Int), .int .u8 (a1.toNat : Int), .int .u8 (a2.toNat : Int), .int .u8 (a3.toNat : Int), .int .u8 (a4.toNat : Int), .int .u8 (a5.toNat : Int), .int .u8 (a6.toNat : Int), .int .u8 (a7.toNat : Int), .slice Ao1 lo.length co1, .slice Ab1 lb.length cb1] rfl _ Try.underlying27 rfl (by kernel_rfl)) hH ?_
      simp only [Act.put, List.getElem_toArray, List.getElem_cons_zero, List.getElem_cons_succ, List.setIfInBounds_toArray, List.set_cons_zero, List.set_cons_succ]
      refine wpAnyH_take (i := 5) (v := .agg #[.int .i64 tos, .int .i64 id, .int .i64 fl, .int .i64 pt, .int .i64 (ttl - (k : Int)), .int .i64 pr, .int .u8 (a0.toNat : Int), .int .u8 (a1.toNat : Int), .int .u8 (a2.toNat : Int), .int .u8 (a3.toNat : Int), .int .u8 (a4.toNat : Int), .int .u8 (a5.toNat : Int), .int .u8 (a6.toNat : Int), .int .u8 (a7.toNat : Int), .slice So lo.length co, .slice Sb lb.length cb]) rfl (by kernel_rfl) (by kernel_rfl) (by kernel_rfl) (fun _ _ _ h => h) (yieldsIf_load_part (by kernel_rfl) 35 _ rfl (w43.heap.size) 0 16 rfl [.int .i64 tos, .int .i64 id, .int .i64 fl, .int .i64 pt, .int .i64 (ttl - (k : Int)), .int .i64 pr, .int .u8 (a0.toNat : Int), .int .u8 (a1.toNat : Int), .int .u8 (a2.toNat : Int), .int .u8 (a3.toNat : Int), .int .u8 (a4.toNat : Int), .int .u8 (a5.toNat : Int), .int .u8 (a6.toNat : Int), .int .u8 (a7.toNat : Int), .slice So lo.length co, .slice Sb lb.length cb] 35 (0, 0) (fun W hW => hW.2.1) [.int .i64 tos, .int .i64 id, .int .i64 fl, .int .i64 pt, .int .i64 (ttl - (k : Int)), .int .i64 pr, .int .u8 (a0.toNat : Int), .int .u8 (a1.toNat : Int), .int .u8 (a2.toNat : Int), .int .u8 (a3.toNat : Int), .int .u8 (a4.toNat : Int), .int .u8 (a5.toNat : Int), .int .u8 (a6.toNat : Int), .int .u8 (a7.toNat : Int), .slice So lo.length co, .slice Sb lb.length cb] rfl _ Try.underlying35 rfl (by kernel_rfl)) hH ?_
      simp only [Act.put, List.getElem_toArray, List.getElem_cons_zero, List.getElem_cons_succ, List.setIfInBounds_toArray, List.set_cons_zero, List.set_cons_succ]
      refine wpAnyH_ready (rs := [4]) (by kernel_rfl) (by simp) ?_
      refine AllReadyH.cons (o := _) rfl (fun K hK => ?_) AllReadyH.nil
      simp only [List.getElem_toArray, List.getElem_cons_zero, List.getElem_cons_succ]
      go_simp
      with_reducible refine (own6_any tos id fl pt (ttl - (k : Int)) pr a0 a1 a2 a3 a4 a5 a6 a7 _ _ _ _ _ _ _).mono ?_
      rintro e v61 ⟨rfl, b61⟩
      dsimp only
      replace bel := bel.trans (b61.mono bel.size)
      replace hq := (b61.block _ zq).trans hq
      replace zq := Nat.lt_of_lt_of_le zq b61.size
      replace hr := (b61.block _ zr).trans hr
      replace zr := Nat.lt_of_lt_of_le zr b61.size
      replace hob := hob.below b61
      replace hbb := hbb.below b61
      replace ho1 := ho1.below b61
      replace hb1 := hb1.below b61
      refine hK.out _ _ ⟨hq, hr, hob, hbb, ho1, hb1⟩ (fun hH61 => ?_)
      clear hK K
      refine wpAnyH_ready (rs := [6]) (by kernel_rfl) (by simp) ?_
      refine AllReadyH.cons (o := _) rfl (fun K hK => ?_) AllReadyH.nil
      simp only [List.getElem_toArray, List.getElem_cons_zero, List.getElem_cons_succ]
      go_simp
      with_reducible refine (same6_true tos id fl pt (ttl - (k : Int)) pr a0 a1 a2 a3 a4 a5 a6 a7 _ _ _ _ _ _ _ _ _ _ lo lb _ ho1 hb1 hob hbb).mono ?_
      rintro e v62 ⟨rfl, b62⟩
      dsimp only
      replace bel := bel.trans (b62.mono bel.size)
      replace hq := (b62.block _ zq).trans hq
      replace zq := Nat.lt_of_lt_of_le zq b62.size
      replace hr := (b62.block _ zr).trans hr
      replace zr := Nat.lt_of_lt_of_le zr b62.size
      replace hob := hob.below b62
      replace hbb := hbb.below b62
      replace ho1 := ho1.below b62
      replace hb1 := hb1.below b62
      refine hK.out _ _ ⟨hq, hr, hob, hbb, ho1, hb1⟩ (fun hH62 => ?_)
      clear hK K
      refine wpAnyH_take (i := 7) (v := ?_) rfl (by kernel_rfl) (by kernel_rfl) (by kernel_rfl) (fun _ _ _ h => h) (Or.inl ⟨by rfl, ?_⟩) hH62 ?_
      rotate_left
      · ((intro W hW; clear hW; go_simp) <;> with_reducible rfl)
      simp only [Act.put, List.getElem_toArray, List.getElem_cons_zero, List.getElem_cons_succ, List.setIfInBounds_toArray, List.set_cons_zero, List.set_cons_succ]
      refine wpAnyH_take (i := 8) (v := ?_) rfl (by kernel_rfl) (by kernel_rfl) (by kernel_rfl) (fun _ _ _ h => h) (Or.inl ⟨by rfl, ?_⟩) hH62 ?_
      rotate_left
      · ((intro W hW; clear hW; go_simp) <;> with_reducible rfl)
      simp only [Act.put, List.getElem_toArray, List.getElem_cons_zero, List.getElem_cons_succ, List.setIfInBounds_toArray, List.set_cons_zero, List.set_cons_succ]
      refine wpAnyH_done (by kernel_rfl) ?_ _
      go_wp2
      go_ret
      exact ⟨rfl, bel⟩
theorem ip4Hops_walk (tos id fl pt ttl pr : Int) (a0 a1 a2 a3 a4 a5 a6 a7 : UInt8) (So : Option Addr) (no co : Nat) (lo : List UInt8) (Sb : Option Addr) (nb cb : Nat) (lb : List UInt8) (n : Int) (w : World) (ho : Sl w So no co lo) (hb : Sl w Sb nb cb lb) :
    Calls Try.prog 5 #[.agg #[.int .i64 tos, .int .i64 id, .int .i64 fl, .int .i64 pt, .int .i64 ttl, .int .i64 pr, .int .u8 (a0.toNat : Int), .int .u8 (a1.toNat : Int), .int .u8 (a2.toNat : Int), .int .u8 (a3.toNat : Int), .int .u8 (a4.toNat : Int), .int .u8 (a5.toNat : Int), .int .u8 (a6.toNat : Int), .int .u8 (a7.toNat : Int), .slice So no co, .slice Sb nb cb], .int .i64 n] w fun e w' => e = .returned (.bool true) ∧ Below w.heap.size w w' := by
  obtain rfl := ho.1
  obtain rfl := hb.1
  cases hgr : (decide (1600 < lb.length) || decide (100 < lo.length))
  · simp only [Bool.or_eq_false_iff, decide_eq_false_iff_not] at hgr
    have h1 : lb.length ≤ 1600 := by omega
    have h2 : lo.length ≤ 100 := by omega
    by_cases c1 : n < 0
    · exact ip4Hops_neg tos id fl pt ttl pr a0 a1 a2 a3 a4 a5 a6 a7 So Sb co cb lo lb n w ho hb h1 h2 c1
    by_cases c2 : 300 < n
    · exact ip4Hops_big tos id fl pt ttl pr a0 a1 a2 a3 a4 a5 a6 a7 So Sb co cb lo lb n w ho hb h1 h2 c2
    obtain ⟨k, rfl⟩ : ∃ k : Nat, n = k := ⟨n.toNat, by omega⟩
    have hk : k ≤ 300 := by omega
    rcases put_cases tos id fl pt ttl pr a0 a1 a2 a3 a4 a5 a6 a7 lo lb with he | ⟨hf, hn, hput⟩
    · exact ip4Hops_refused tos id fl pt ttl pr a0 a1 a2 a3 a4 a5 a6 a7 So Sb co cb lo lb k w ho hb h1 h2 hk he
    have g := put_good (a0 := a0) (a1 := a1) (a2 := a2) (a3 := a3) (a4 := a4) (a5 := a5) (a6 := a6) (a7 := a7) (body := lb) hf hn []
    rw [List.append_nil] at g
    exact ip4Hops_in tos id fl pt ttl pr a0 a1 a2 a3 a4 a5 a6 a7 So Sb co cb lo lb k w ho hb h1 h2 hk (of_decide_eq_true hf).2.2.2.2.1 _ hput (by rw [g.2.2.1]; omega) g.1 g.2.1 (by have e1 := g.2.2.2.2; have e2 := g.2.2.1; omega)
  · exact ip4Hops_great tos id fl pt ttl pr a0 a1 a2 a3 a4 a5 a6 a7 So Sb co cb lo lb n w ho hb hgr
end Go.Proofs.Ytabogdpjjclapaa
