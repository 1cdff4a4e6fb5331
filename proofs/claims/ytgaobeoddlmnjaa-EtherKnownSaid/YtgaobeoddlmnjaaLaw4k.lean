/- Layer 4: the walks of EtherSizes and EtherKnown. -/
import Derived.Test.YtgaobeoddlmnjaaAwk4
namespace Go.Proofs.Ytgaobeoddlmnjaa
open Go.RowKit

theorem made_zeros (k : Nat) : (madeCells #[Value.int .u8 0] k).toList = (List.replicate k (0 : UInt8)).map u8v := by
  apply List.ext_getElem
  · simp [madeCells]
  · intro i h1 h2
    simp [madeCells, u8v, Nat.mod_one]
/-- A frame of noughts. -/
theorem get_zeros (A : Option Addr) (n c : Nat) (w : World) (h : Sl w A n c (List.replicate n 0)) (h1 : 14 ≤ n) (h2 : n ≤ 1514) :
    Calls Try.prog 9 #[.slice A n c] w fun e w' => ∃ (A' : Option Addr) (m c' : Nat), m = n - 14 ∧ e = .returned (.tuple #[.agg #[.int .u8 0, .int .u8 0, .int .u8 0, .int .u8 0, .int .u8 0, .int .u8 0, .int .u8 0, .int .u8 0, .int .u8 0, .int .u8 0, .int .u8 0, .int .u8 0, .int .i64 0, .slice A' m c'], .int .i64 0]) ∧ Below w.heap.size w w' := by
  obtain ⟨m, rfl⟩ : ∃ m, n = 14 + m := ⟨n - 14, by omega⟩
  have e : List.replicate (14 + m) (0 : UInt8) = 0 :: 0 :: 0 :: 0 :: 0 :: 0 :: 0 :: 0 :: 0 :: 0 :: 0 :: 0 :: 0 :: 0 :: List.replicate m 0 := by
    rw [← List.replicate_append_replicate]; rfl
  rw [e] at h
  refine (eget_ok A (14 + m) c 0 0 0 0 0 0 0 0 0 0 0 0 0 0 _ w h h2).mono ?_
  rintro e w' ⟨A', c', rfl, _, bel⟩
  refine ⟨A', m, c', by omega, ?_, bel⟩
  rw [List.length_replicate]
  rfl
set_option maxRecDepth 100000 in
set_option maxHeartbeats 16000000 in
theorem etherSizes_neg (n : Int) (w : World) (h : n < 0) : Calls Try.prog 6 #[.int .i64 n] w fun e w' => e = .returned (.bool true) ∧ Below w.heap.size w w' := by
  have bel := Below.refl w.heap.size w
  
  go_enter Try.func6, Try.ntmps6
  go_wp2_with fail
  with_reducible refine (awake4 _).mono ?_
  rintro e w1 ⟨rfl, b1⟩
  replace bel := bel.trans (b1.mono bel.size)
  clear b1
  go_wp2
  go_ret
  exact ⟨rfl, bel⟩
set_option maxRecDepth 100000 in
set_option maxHeartbeats 16000000 in
theorem etherSizes_big (n : Int) (w : World) (h : 3000 < n) : Calls Try.prog 6 #[.int .i64 n] w fun e w' => e = .returned (.bool true) ∧ Below w.heap.size w w' := by
  have bel := Below.refl w.heap.size w
  have t0 : decide (n < 0) = false := decide_eq_false (by omega)
  go_enter Try.func6, Try.ntmps6
  go_wp2_with fail
  with_reducible refine (awake4 _).mono ?_
  rintro e w1 ⟨rfl, b1⟩
  replace bel := bel.trans (b1.mono bel.size)
  clear b1
  go_wp2
  go_ret
  exact ⟨rfl, bel⟩
set_option maxRecDepth 100000 in
set_option maxHeartbeats 16000000 in
theorem etherSizes_long (m : Nat) (w : World) (hm : m ≤ 3000) (h : 1514 < m) : Calls Try.prog 6 #[.int .i64 m] w fun e w' => e = .returned (.bool true) ∧ Below w.heap.size w w' := by
  have bel := Below.refl w.heap.size w
  obtain ⟨ii, hii, hz0, hz1, hz2⟩ := info_parts Try.info5
  have t0 : decide ((m : Int) < 0) = false := decide_eq_false (by omega)
  have t1 : decide ((3000 : Int) < m) = false := decide_eq_false (by omega)
  have HM := Lib.hid hm
  have t2 : (1514 : Int) < m := by omega
  clear hm
  go_enter Try.func6, Try.ntmps6
  go_wp2_with fail
  with_reducible refine (awake4 _).mono ?_
  rintro e w1 ⟨rfl, b1⟩
  replace bel := bel.trans (b1.mono bel.size)
  clear b1
  go_wp2_with (at_make; refine wpList_make_full _ rfl _ _ 25 rfl w1.heap.size 5 ii (.int .u8 0) 1 Try.underlying25 hii hz0 hz1 _ _ _ _ m rfl rfl rfl rfl ?b1 ?b2 ?b3 ?_)
  case b1 => rw [hz2]; have := HM.out; omega
  case b2 => unfold maxLen; have := HM.out; omega
  case b3 => exact Nat.le_refl _
  intro w2 hown hg0
  rw [made_zeros] at hown
  replace bel := bel.grown hg0 bel.size (fun k h => by cases h)
  obtain ⟨A0, c0, e0, sl⟩ := Sl.of_own hown
  cases e0
  clear hg0 hown
  go_wp2_with fail
  with_reducible refine (eget_long _ m _ _ h).mono ?_
  rintro e w3 ⟨rfl, b3⟩
  replace bel := bel.trans (b3.mono bel.size)
  clear b3
  have hg := heap_alloc_new w3 (.cells #[.int .u8 0, .int .u8 0, .int .u8 0, .int .u8 0, .int .u8 0, .int .u8 0, .int .u8 0, .int .u8 0, .int .u8 0, .int .u8 0, .int .u8 0, .int .u8 0, .int .i64 0, .slice none 0 0] 27)
  have zg : w3.heap.size < (w3.alloc (.cells #[.int .u8 0, .int .u8 0, .int .u8 0, .int .u8 0, .int .u8 0, .int .u8 0, .int .u8 0, .int .u8 0, .int .u8 0, .int .u8 0, .int .u8 0, .int .u8 0, .int .i64 0, .slice none 0 0] 27)).heap.size := by simp
  replace bel := bel.alloc bel.size (.cells #[.int .u8 0, .int .u8 0, .int .u8 0, .int .u8 0, .int .u8 0, .int .u8 0, .int .u8 0, .int .u8 0, .int .u8 0, .int .u8 0, .int .u8 0, .int .u8 0, .int .i64 0, .slice none 0 0] 27)
  obtain ⟨⟨cg0, cg1, cg2, cg3, cg4, cg5, cg6, cg7, cg8, cg9, cg10, cg11, cg12, cg13⟩, _⟩ := cells14 hg
  clear hg
  go_wp2
  go_ret
  exact ⟨rfl, bel⟩
set_option maxRecDepth 100000 in
set_option maxHeartbeats 16000000 in
theorem etherSizes_short (m : Nat) (w : World) (hm : m ≤ 3000) (h : m < 14) : Calls Try.prog 6 #[.int .i64 m] w fun e w' => e = .returned (.bool true) ∧ Below w.heap.size w w' := by
  have bel := Below.refl w.heap.size w
  obtain ⟨ii, hii, hz0, hz1, hz2⟩ := info_parts Try.info5
  have t0 : decide ((m : Int) < 0) = false := decide_eq_false (by omega)
  have t1 : decide ((3000 : Int) < m) = false := decide_eq_false (by omega)
  have HM := Lib.hid hm
  have t2 : decide ((1514 : Int) < m) = false := decide_eq_false (by omega)
  have t3 : (m : Int) < 14 := by omega
  clear hm
  go_enter Try.func6, Try.ntmps6
  go_wp2_with fail
  with_reducible refine (awake4 _).mono ?_
  rintro e w1 ⟨rfl, b1⟩
  replace bel := bel.trans (b1.mono bel.size)
  clear b1
  go_wp2_with (at_make; refine wpList_make_full _ rfl _ _ 25 rfl w1.heap.size 5 ii (.int .u8 0) 1 Try.underlying25 hii hz0 hz1 _ _ _ _ m rfl rfl rfl rfl ?b1 ?b2 ?b3 ?_)
  case b1 => rw [hz2]; have := HM.out; omega
  case b2 => unfold maxLen; have := HM.out; omega
  case b3 => exact Nat.le_refl _
  intro w2 hown hg0
  rw [made_zeros] at hown
  replace bel := bel.grown hg0 bel.size (fun k h => by cases h)
  obtain ⟨A0, c0, e0, sl⟩ := Sl.of_own hown
  cases e0
  clear hg0 hown
  go_wp2_with fail
  with_reducible refine (eget_short _ m _ _ h).mono ?_
  rintro e w3 ⟨rfl, b3⟩
  replace bel := bel.trans (b3.mono bel.size)
  clear b3
  have hg := heap_alloc_new w3 (.cells #[.int .u8 0, .int .u8 0, .int .u8 0, .int .u8 0, .int .u8 0, .int .u8 0, .int .u8 0, .int .u8 0, .int .u8 0, .int .u8 0, .int .u8 0, .int .u8 0, .int .i64 0, .slice none 0 0] 27)
  have zg : w3.heap.size < (w3.alloc (.cells #[.int .u8 0, .int .u8 0, .int .u8 0, .int .u8 0, .int .u8 0, .int .u8 0, .int .u8 0, .int .u8 0, .int .u8 0, .int .u8 0, .int .u8 0, .int .u8 0, .int .i64 0, .slice none 0 0] 27)).heap.size := by simp
  replace bel := bel.alloc bel.size (.cells #[.int .u8 0, .int .u8 0, .int .u8 0, .int .u8 0, .int .u8 0, .int .u8 0, .int .u8 0, .int .u8 0, .int .u8 0, .int .u8 0, .int .u8 0, .int .u8 0, .int .i64 0, .slice none 0 0] 27)
  obtain ⟨⟨cg0, cg1, cg2, cg3, cg4, cg5, cg6, cg7, cg8, cg9, cg10, cg11, cg12, cg13⟩, _⟩ := cells14 hg
  clear hg
  go_wp2
  go_ret
  exact ⟨rfl, bel⟩
set_option maxRecDepth 100000 in
set_option maxHeartbeats 16000000 in
theorem etherSizes_fits (m : Nat) (w : World) (hm : m ≤ 3000) (h : 14 ≤ m) (h2 : m ≤ 1514) : Calls Try.prog 6 #[.int .i64 m] w fun e w' => e = .returned (.bool true) ∧ Below w.heap.size w w' := by
  have bel := Below.refl w.heap.size w
  obtain ⟨ii, hii, hz0, hz1, hz2⟩ := info_parts Try.info5
  have t0 : decide ((m : Int) < 0) = false := decide_eq_false (by omega)
  have t1 : decide ((3000 : Int) < m) = false := decide_eq_false (by omega)
  have HM := Lib.hid hm
  have t2 : decide ((1514 : Int) < m) = false := decide_eq_false (by omega)
  have t3 : decide ((m : Int) < 14) = false := decide_eq_false (by omega)
  clear hm
  go_enter Try.func6, Try.ntmps6
  go_wp2_with fail
  with_reducible refine (awake4 _).mono ?_
  rintro e w1 ⟨rfl, b1⟩
  replace bel := bel.trans (b1.mono bel.size)
  clear b1
  go_wp2_with (at_make; refine wpList_make_full _ rfl _ _ 25 rfl w1.heap.size 5 ii (.int .u8 0) 1 Try.underlying25 hii hz0 hz1 _ _ _ _ m rfl rfl rfl rfl ?b1 ?b2 ?b3 ?_)
  case b1 => rw [hz2]; have := HM.out; omega
  case b2 => unfold maxLen; have := HM.out; omega
  case b3 => exact Nat.le_refl _
  intro w2 hown hg0
  rw [made_zeros] at hown
  replace bel := bel.grown hg0 bel.size (fun k h => by cases h)
  obtain ⟨A0, c0, e0, sl⟩ := Sl.of_own hown
  cases e0
  clear hg0 hown
  go_wp2_with fail
  with_reducible refine (get_zeros _ m _ _ sl h h2).mono ?_
  rintro e w3 ⟨A1, k, c1, hk, rfl, b3⟩
  have ek : IntKind.i64.wrap ((m : Int) - 14) = k := by rw [IntKind.wrap_i64]; omega
  clear hk
  replace bel := bel.trans (b3.mono bel.size)
  clear b3
  have hg := heap_alloc_new w3 (.cells #[.int .u8 0, .int .u8 0, .int .u8 0, .int .u8 0, .int .u8 0, .int .u8 0, .int .u8 0, .int .u8 0, .int .u8 0, .int .u8 0, .int .u8 0, .int .u8 0, .int .i64 0, .slice A1 k c1] 27)
  have zg : w3.heap.size < (w3.alloc (.cells #[.int .u8 0, .int .u8 0, .int .u8 0, .int .u8 0, .int .u8 0, .int .u8 0, .int .u8 0, .int .u8 0, .int .u8 0, .int .u8 0, .int .u8 0, .int .u8 0, .int .i64 0, .slice A1 k c1] 27)).heap.size := by simp
  replace bel := bel.alloc bel.size (.cells #[.int .u8 0, .int .u8 0, .int .u8 0, .int .u8 0, .int .u8 0, .int .u8 0, .int .u8 0, .int .u8 0, .int .u8 0, .int .u8 0, .int .u8 0, .int .u8 0, .int .i64 0, .slice A1 k c1] 27)
  obtain ⟨⟨cg0, cg1, cg2, cg3, cg4, cg5, cg6, cg7, cg8, cg9, cg10, cg11, cg12, cg13⟩, _⟩ := cells14 hg
  clear hg
  go_wp2
  go_ret
  exact ⟨rfl, bel⟩
theorem etherSizes_walk (n : Int) (w : World) : Calls Try.prog 6 #[.int .i64 n] w fun e w' => e = .returned (.bool true) ∧ Below w.heap.size w w' := by
  by_cases h0 : n < 0
  · exact etherSizes_neg n w h0
  by_cases h1 : 3000 < n
  · exact etherSizes_big n w h1
  obtain ⟨m, rfl⟩ : ∃ m : Nat, n = m := ⟨n.toNat, by omega⟩
  by_cases h2 : 1514 < m
  · exact etherSizes_long m w (by omega) h2
  by_cases h3 : m < 14
  · exact etherSizes_short m w (by omega) h3
  · exact etherSizes_fits m w (by omega) (by omega) (by omega)

theorem k4_long (S : Option Addr) (n c : Nat) (W : World) (h : 1500 < n) : Calls Try.prog 10 #[.agg #[.int .u8 0, .int .u8 0, .int .u8 0, .int .u8 0, .int .u8 0, .int .u8 0, .int .u8 0, .int .u8 0, .int .u8 0, .int .u8 0, .int .u8 0, .int .u8 0, .int .i64 0, .slice S n c]] W fun e w' => e = .returned (.tuple #[.slice none 0 0, .int .i64 2]) ∧ Below W.heap.size W w' := eput_long 0 0 0 0 0 0 0 0 0 0 0 0 0 S n c W h
theorem k4_type (W : World) : Calls Try.prog 10 #[.agg #[.int .u8 0, .int .u8 0, .int .u8 0, .int .u8 0, .int .u8 0, .int .u8 0, .int .u8 0, .int .u8 0, .int .u8 0, .int .u8 0, .int .u8 0, .int .u8 0, .int .i64 65536, .slice none 0 0]] W fun e w' => e = .returned (.tuple #[.slice none 0 0, .int .i64 1]) ∧ Below W.heap.size W w' := eput_big 0 0 0 0 0 0 0 0 0 0 0 0 65536 none 0 0 W (by omega) (by omega)
theorem k4_nogroup (W : World) : Calls Try.prog 11 #[.agg #[.int .u8 2, .int .u8 0, .int .u8 0, .int .u8 0, .int .u8 0, .int .u8 0]] W fun e w' => e = .returned (.bool false) ∧ Below W.heap.size W w' := egroup_any 2 0 0 0 0 0 W
theorem k4_nomine (W : World) : Calls Try.prog 12 #[.agg #[.int .u8 2, .int .u8 0, .int .u8 0, .int .u8 0, .int .u8 0, .int .u8 0], .agg #[.int .u8 4, .int .u8 0, .int .u8 0, .int .u8 0, .int .u8 0, .int .u8 0]] W fun e w' => e = .returned (.bool false) ∧ Below W.heap.size W w' := emine_any 2 0 0 0 0 0 4 0 0 0 0 0 W

set_option maxRecDepth 100000 in
set_option maxHeartbeats 16000000 in
theorem etherKnown_walk (w : World) : Calls Try.prog 3 #[] w fun e w' => e = .returned (.bool true) ∧ Below w.heap.size w w' := by
  have bel := Below.refl w.heap.size w
  obtain ⟨ii, hii, hz0, hz1, hz2⟩ := info_parts Try.info5
  go_enter Try.func3, Try.ntmps3
  go_wp2_with fail
  with_reducible refine (awake4 _).mono ?_
  rintro e w1 ⟨rfl, b1⟩
  replace bel := bel.trans (b1.mono bel.size)
  clear b1
  go_wp2_with (at_make; refine wpList_make_full _ rfl _ _ 25 rfl w.heap.size 5 ii (.int .u8 0) 1 Try.underlying25 hii hz0 hz1 _ _ _ _ 13 rfl rfl rfl rfl ?b1 ?b2 ?b3 ?_)
  case b1 => rw [hz2]; omega
  case b2 => unfold maxLen; omega
  case b3 => exact bel.size
  intro ma hown hg0
  rw [made_zeros] at hown
  replace bel := bel.grown hg0 bel.size (fun k h => by cases h)
  obtain ⟨A0, c0, e0, sl⟩ := Sl.of_own hown
  cases e0
  clear hg0 hown
  go_wp2_with fail
  with_reducible refine (eget_short _ 13 _ _ (by omega)).mono ?_
  rintro e w2 ⟨rfl, b2⟩
  clear sl
  replace bel := bel.trans (b2.mono bel.size)
  clear b2
  have ha := heap_alloc_new w2 (.cells #[.int .u8 0, .int .u8 0, .int .u8 0, .int .u8 0, .int .u8 0, .int .u8 0, .int .u8 0, .int .u8 0, .int .u8 0, .int .u8 0, .int .u8 0, .int .u8 0, .int .i64 0, .slice none 0 0] 27)
  have za : w2.heap.size < (w2.alloc (.cells #[.int .u8 0, .int .u8 0, .int .u8 0, .int .u8 0, .int .u8 0, .int .u8 0, .int .u8 0, .int .u8 0, .int .u8 0, .int .u8 0, .int .u8 0, .int .u8 0, .int .i64 0, .slice none 0 0] 27)).heap.size := by simp
  replace bel := bel.alloc bel.size (.cells #[.int .u8 0, .int .u8 0, .int .u8 0, .int .u8 0, .int .u8 0, .int .u8 0, .int .u8 0, .int .u8 0, .int .u8 0, .int .u8 0, .int .u8 0, .int .u8 0, .int .i64 0, .slice none 0 0] 27)
  clear ha za
  go_wp2_with (at_make; refine wpList_make_full _ rfl _ _ 25 rfl w.heap.size 5 ii (.int .u8 0) 1 Try.underlying25 hii hz0 hz1 _ _ _ _ 1515 rfl rfl rfl rfl ?b1 ?b2 ?b3 ?_)
  case b1 => rw [hz2]; omega
  case b2 => unfold maxLen; omega
  case b3 => exact bel.size
  intro mb hown hg0
  rw [made_zeros] at hown
  replace bel := bel.grown hg0 bel.size (fun k h => by cases h)
  obtain ⟨A0, c0, e0, sl⟩ := Sl.of_own hown
  cases e0
  clear hg0 hown
  go_wp2_with fail
  with_reducible refine (eget_long _ 1515 _ _ (by omega)).mono ?_
  rintro e w3 ⟨rfl, b3⟩
  clear sl
  replace bel := bel.trans (b3.mono bel.size)
  clear b3
  have hb := heap_alloc_new w3 (.cells #[.int .u8 0, .int .u8 0, .int .u8 0, .int .u8 0, .int .u8 0, .int .u8 0, .int .u8 0, .int .u8 0, .int .u8 0, .int .u8 0, .int .u8 0, .int .u8 0, .int .i64 0, .slice none 0 0] 27)
  have zb : w3.heap.size < (w3.alloc (.cells #[.int .u8 0, .int .u8 0, .int .u8 0, .int .u8 0, .int .u8 0, .int .u8 0, .int .u8 0, .int .u8 0, .int .u8 0, .int .u8 0, .int .u8 0, .int .u8 0, .int .i64 0, .slice none 0 0] 27)).heap.size := by simp
  replace bel := bel.alloc bel.size (.cells #[.int .u8 0, .int .u8 0, .int .u8 0, .int .u8 0, .int .u8 0, .int .u8 0, .int .u8 0, .int .u8 0, .int .u8 0, .int .u8 0, .int .u8 0, .int .u8 0, .int .i64 0, .slice none 0 0] 27)
  clear hb zb
  go_wp2_with (at_make; refine wpList_make_full _ rfl _ _ 25 rfl w.heap.size 5 ii (.int .u8 0) 1 Try.underlying25 hii hz0 hz1 _ _ _ _ 14 rfl rfl rfl rfl ?b1 ?b2 ?b3 ?_)
  case b1 => rw [hz2]; omega
  case b2 => unfold maxLen; omega
  case b3 => exact bel.size
  intro mc hown hg0
  rw [made_zeros] at hown
  replace bel := bel.grown hg0 bel.size (fun k h => by cases h)
  obtain ⟨A0, c0, e0, sl⟩ := Sl.of_own hown
  cases e0
  clear hg0 hown
  go_wp2_with fail
  with_reducible refine (get_zeros _ 14 _ _ sl (by omega) (by omega)).mono ?_
  rintro e w4 ⟨A1, k, c1, hk, rfl, b4⟩
  clear sl hk
  replace bel := bel.trans (b4.mono bel.size)
  clear b4
  have hc := heap_alloc_new w4 (.cells #[.int .u8 0, .int .u8 0, .int .u8 0, .int .u8 0, .int .u8 0, .int .u8 0, .int .u8 0, .int .u8 0, .int .u8 0, .int .u8 0, .int .u8 0, .int .u8 0, .int .i64 0, .slice A1 k c1] 27)
  have zc : w4.heap.size < (w4.alloc (.cells #[.int .u8 0, .int .u8 0, .int .u8 0, .int .u8 0, .int .u8 0, .int .u8 0, .int .u8 0, .int .u8 0, .int .u8 0, .int .u8 0, .int .u8 0, .int .u8 0, .int .i64 0, .slice A1 k c1] 27)).heap.size := by simp
  replace bel := bel.alloc bel.size (.cells #[.int .u8 0, .int .u8 0, .int .u8 0, .int .u8 0, .int .u8 0, .int .u8 0, .int .u8 0, .int .u8 0, .int .u8 0, .int .u8 0, .int .u8 0, .int .u8 0, .int .i64 0, .slice A1 k c1] 27)
  clear hc zc
  go_wp2_with (at_make; refine wpList_make_full _ rfl _ _ 25 rfl w.heap.size 5 ii (.int .u8 0) 1 Try.underlying25 hii hz0 hz1 _ _ _ _ 1501 rfl rfl rfl rfl ?b1 ?b2 ?b3 ?_)
  case b1 => rw [hz2]; omega
  case b2 => unfold maxLen; omega
  case b3 => exact bel.size
  intro md hown hg0
  rw [made_zeros] at hown
  replace bel := bel.grown hg0 bel.size (fun k h => by cases h)
  obtain ⟨A0, c0, e0, sl⟩ := Sl.of_own hown
  cases e0
  clear hg0 hown
  go_wp2_with fail
  with_reducible refine (k4_long _ 1501 _ _ (by omega)).mono ?_
  rintro e w5 ⟨rfl, b5⟩
  clear sl
  replace bel := bel.trans (b5.mono bel.size)
  clear b5
  go_wp2_with fail
  with_reducible refine (k4_type _).mono ?_
  rintro e w6 ⟨rfl, b6⟩
  replace bel := bel.trans (b6.mono bel.size)
  clear b6
  go_wp2_with fail
  with_reducible refine (k4_nogroup _).mono ?_
  rintro e w7 ⟨rfl, b7⟩
  replace bel := bel.trans (b7.mono bel.size)
  clear b7
  go_wp2_with fail
  with_reducible refine (k4_nomine _).mono ?_
  rintro e w8 ⟨rfl, b8⟩
  replace bel := bel.trans (b8.mono bel.size)
  clear b8
  go_wp2
  go_ret
  exact ⟨rfl, bel⟩
end Go.Proofs.Ytgaobeoddlmnjaa
