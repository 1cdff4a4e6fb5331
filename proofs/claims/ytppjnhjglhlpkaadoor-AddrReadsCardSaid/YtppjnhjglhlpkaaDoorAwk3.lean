/- The contract of layer 3's awake. -/
import Derived.Test.YtppjnhjglhlpkaaDoorAdr5
import Derived.Test.YtppjnhjglhlpkaaDoorAdr8
import Derived.Test.YtppjnhjglhlpkaaDoorAdr10
namespace Go.Proofs.YtppjnhjglhlpkaaDoor
open Go.RowKit

/-! ### The closed calls -/
theorem k_parse (W : World) : Calls Tryd.prog 10 #[.string ⟨#[49, 48, 46, 48, 46, 48, 46, 49]⟩] W fun e w' => e = .returned (.tuple #[.agg #[.int .u8 10, .int .u8 0, .int .u8 0, .int .u8 1], .int .i64 0]) ∧ Below W.heap.size W w' :=
  aparse_some ⟨#[49, 48, 46, 48, 46, 48, 46, 49]⟩ W (by decide) 10 0 0 1 (by decide +kernel)
theorem anet_is (s : ByteArray) (w : World) (hs : s.size ≤ 140737488355328) (a b c d : UInt8) (n e : Int) (h : (netA s.data.toList = (a, b, c, d) ∧ netN s.data.toList = n) ∧ netE s.data.toList = e) :
    Calls Tryd.prog 11 #[.string s] w fun e' w' => e' = .returned (.tuple #[.agg #[.int .u8 (a.toNat : Int), .int .u8 (b.toNat : Int), .int .u8 (c.toNat : Int), .int .u8 (d.toNat : Int), .int .i64 n], .int .i64 e]) ∧ Below w.heap.size w w' :=
  (anet_any s w hs).mono fun e' w' hh => by unfold ANetPost at hh; rw [h.1.1, h.1.2, h.2] at hh; exact hh
theorem k_net (W : World) : Calls Tryd.prog 11 #[.string ⟨#[49, 48, 46, 48, 46, 48, 46, 48, 47, 56]⟩] W fun e w' => e = .returned (.tuple #[.agg #[.int .u8 10, .int .u8 0, .int .u8 0, .int .u8 0, .int .i64 8], .int .i64 0]) ∧ Below W.heap.size W w' :=
  anet_is ⟨#[49, 48, 46, 48, 46, 48, 46, 48, 47, 56]⟩ W (by decide) 10 0 0 0 8 0 (by decide +kernel)
theorem amac_yes (s : ByteArray) (w : World) (hs : s.size ≤ 140737488355328) (b0 b1 b2 b3 b4 b5 : UInt8) (h : macOk s.data.toList) (hb : macBs s.data.toList 6 = [b0, b1, b2, b3, b4, b5]) :
    Calls Tryd.prog 12 #[.string s] w fun e w' => e = .returned (.tuple #[.agg #[.int .u8 (b0.toNat : Int), .int .u8 (b1.toNat : Int), .int .u8 (b2.toNat : Int), .int .u8 (b3.toNat : Int), .int .u8 (b4.toNat : Int), .int .u8 (b5.toNat : Int)], .int .i64 0]) ∧ Below w.heap.size w w' :=
  (amac_any s w hs).mono fun e w' hh => by
    rcases hh.1 with ⟨_, h2⟩ | ⟨h1, _⟩
    · rw [hb] at h2; exact ⟨h2, hh.2⟩
    · exact absurd h h1
theorem amac_no (s : ByteArray) (w : World) (hs : s.size ≤ 140737488355328) (h : ¬ macOk s.data.toList) :
    Calls Tryd.prog 12 #[.string s] w fun e w' => e = .returned (.tuple #[mac0, .int .i64 9]) ∧ Below w.heap.size w w' :=
  (amac_any s w hs).mono fun e w' hh => by
    rcases hh.1 with ⟨h1, _⟩ | ⟨_, h2⟩
    · exact absurd h1 h
    · exact ⟨h2, hh.2⟩
theorem macOk_dec {l : List UInt8} (h : l.length = 17 ∧ 0 ≤ macB l 0 ∧ 0 ≤ macB l 1 ∧ 0 ≤ macB l 2 ∧ 0 ≤ macB l 3 ∧ 0 ≤ macB l 4 ∧ 0 ≤ macB l 5) : macOk l := by
  refine ⟨h.1, fun i hi => ?_⟩
  rcases (by omega : i = 0 ∨ i = 1 ∨ i = 2 ∨ i = 3 ∨ i = 4 ∨ i = 5) with rfl | rfl | rfl | rfl | rfl | rfl
  · exact h.2.1
  · exact h.2.2.1
  · exact h.2.2.2.1
  · exact h.2.2.2.2.1
  · exact h.2.2.2.2.2.1
  · exact h.2.2.2.2.2.2
theorem k_mac (W : World) : Calls Tryd.prog 12 #[.string ⟨#[48, 50, 58, 48, 48, 58, 48, 48, 58, 48, 48, 58, 48, 48, 58, 97, 66]⟩] W fun e w' => e = .returned (.tuple #[.agg #[.int .u8 2, .int .u8 0, .int .u8 0, .int .u8 0, .int .u8 0, .int .u8 171], .int .i64 0]) ∧ Below W.heap.size W w' :=
  amac_yes ⟨#[48, 50, 58, 48, 48, 58, 48, 48, 58, 48, 48, 58, 48, 48, 58, 97, 66]⟩ W (by decide) 2 0 0 0 0 171 (macOk_dec (by decide +kernel)) (by decide +kernel)
theorem k_last (W : World) : Calls Tryd.prog 22 #[.agg #[.int .u8 10, .int .u8 0, .int .u8 0, .int .u8 0, .int .i64 8]] W fun e w' => e = .returned (.agg #[.int .u8 10, .int .u8 255, .int .u8 255, .int .u8 255]) ∧ Below W.heap.size W w' := by
  have h := alast_any 10 0 0 0 8 W
  have e : lastN (be [10, 0, 0, 0]) (clamp 8) = be [10, 255, 255, 255] := by decide +kernel
  rw [e, adr_be] at h
  exact h
theorem k_mactext (W : World) : Calls Tryd.prog 26 #[.agg #[.int .u8 2, .int .u8 0, .int .u8 0, .int .u8 0, .int .u8 0, .int .u8 171]] W fun e w' => e = .returned (.string ⟨#[48, 50, 58, 48, 48, 58, 48, 48, 58, 48, 48, 58, 48, 48, 58, 97, 98]⟩) ∧ Below W.heap.size W w' := by
  have h := amactext_any 2 0 0 0 0 171 W
  have e : macT [2, 0, 0, 0, 0, 171] 6 = [48, 50, 58, 48, 48, 58, 48, 48, 58, 48, 48, 58, 48, 48, 58, 97, 98] := by decide +kernel
  rw [e] at h
  exact h
theorem dec_0 : decT 0 = [48] := by rw [decT_small (by omega)]; rfl
theorem dec_1 : decT 1 = [49] := by rw [decT_small (by omega)]; rfl
theorem dec_8 : decT 8 = [56] := by rw [decT_small (by omega)]; rfl
theorem dec_10 : decT 10 = [49, 48] := by rw [decT_more (by omega), decT_small (by omega)]; rfl
theorem adT_a : adT 10 0 0 1 = [49, 48, 46, 48, 46, 48, 46, 49] := by
  show decT 10 ++ [46] ++ decT 0 ++ [46] ++ decT 0 ++ [46] ++ decT 1 = _
  rw [dec_0, dec_1, dec_10]; rfl
theorem adT_b : adT 10 0 0 0 ++ [47] ++ decT 8 = [49, 48, 46, 48, 46, 48, 46, 48, 47, 56] := by
  show decT 10 ++ [46] ++ decT 0 ++ [46] ++ decT 0 ++ [46] ++ decT 0 ++ [47] ++ decT 8 = _
  rw [dec_0, dec_8, dec_10]; rfl
theorem k_text (W : World) (hT : Tab W) : Calls Tryd.prog 24 #[.agg #[.int .u8 10, .int .u8 0, .int .u8 0, .int .u8 1]] W fun e w' => e = .returned (.string ⟨#[49, 48, 46, 48, 46, 48, 46, 49]⟩) ∧ Below W.heap.size W w' := by
  have h := atext_any 10 0 0 1 W hT
  rw [adT_a] at h
  exact h
theorem k_nettext (W : World) (hT : Tab W) : Calls Tryd.prog 29 #[.agg #[.int .u8 10, .int .u8 0, .int .u8 0, .int .u8 0, .int .i64 8]] W fun e w' => e = .returned (.string ⟨#[49, 48, 46, 48, 46, 48, 46, 48, 47, 56]⟩) ∧ Below W.heap.size W w' := by
  have h := anettext_any 10 0 0 0 8 (by omega) W hT
  rw [adT_b] at h
  exact h
theorem eql4 (x y : List UInt8) (hx : x.length = 4) (hy : y.length = 4) (W : World) : (binOp .eql 24 (.agg (x.map u8v).toArray) (.agg (y.map u8v).toArray)).run Tryd.prog W = .ok (.bool (x == y)) W :=
  run_eql_bytes (P := Tryd.prog) W 24 5 4 (by kernel_rfl) (by kernel_rfl) (fun w => by kernel_rfl) x y hx hy
theorem guard4 (op : BinOp) (x y : Operand) (a b : Array Value) (W : World) : (eqGuard op 24 x y (.agg a) (.agg b)).run Tryd.prog W = .ok () W := run_eqGuard_agg W op 24 x y _ _ (by kernel_rfl)
theorem k_eq1 (W : World) : (binOp .eql 24 (.agg #[.int .u8 10, .int .u8 0, .int .u8 0, .int .u8 1]) (.agg #[.int .u8 10, .int .u8 0, .int .u8 0, .int .u8 1])).run Tryd.prog W = .ok (.bool true) W := eql4 [10, 0, 0, 1] [10, 0, 0, 1] rfl rfl W
theorem k_eq2 (W : World) : (binOp .eql 24 (.agg #[.int .u8 10, .int .u8 255, .int .u8 255, .int .u8 255]) (.agg #[.int .u8 10, .int .u8 255, .int .u8 255, .int .u8 255])).run Tryd.prog W = .ok (.bool true) W := eql4 [10, 255, 255, 255] [10, 255, 255, 255] rfl rfl W

set_option maxRecDepth 100000 in
set_option maxHeartbeats 4000000 in
theorem awake3 (w : World) (hT : Tab w) : Calls Tryd.prog 9 #[] w fun e w' => e = .returned (.bool true) ∧ Below w.heap.size w w' := by
  have HT := Lib.hid hT
  have q1 := k_eq1
  have q2 := k_eq2
  have g1 := guard4
  clear hT
  go_enter Tryd.func9, Tryd.ntmps9
  go_wp2_with fail
  with_reducible refine (k_parse _).mono ?_
  rintro e w1 ⟨rfl, b1⟩
  have A1 := heap_alloc_new w1 (.cells #[.int .u8 10, .int .u8 0, .int .u8 0, .int .u8 1] 24)
  have bel1 := b1.alloc b1.size (.cells #[.int .u8 10, .int .u8 0, .int .u8 0, .int .u8 1] 24)
  have zA : w1.heap.size < (w1.alloc (.cells #[.int .u8 10, .int .u8 0, .int .u8 0, .int .u8 1] 24)).heap.size := by simp
  clear b1
  go_wp2_with fail
  with_reducible refine (k_net _).mono ?_
  rintro e w2 ⟨rfl, b2⟩
  have A2 := (b2.block _ zA).trans A1
  have zA2 := Nat.lt_of_lt_of_le zA b2.size
  have bel2 := bel1.trans (b2.mono bel1.size)
  clear b2 A1 zA bel1
  have A3 := (Go.heap_alloc_old w2 (.cells #[.int .u8 10, .int .u8 0, .int .u8 0, .int .u8 0, .int .i64 8] 29) (r := w1.heap.size) zA2).trans A2
  have N3 := heap_alloc_new w2 (.cells #[.int .u8 10, .int .u8 0, .int .u8 0, .int .u8 0, .int .i64 8] 29)
  have bel3 := bel2.alloc bel2.size (.cells #[.int .u8 10, .int .u8 0, .int .u8 0, .int .u8 0, .int .i64 8] 29)
  have zA3 : w1.heap.size < (w2.alloc (.cells #[.int .u8 10, .int .u8 0, .int .u8 0, .int .u8 0, .int .i64 8] 29)).heap.size := by simp; omega
  have zN3 : w2.heap.size < (w2.alloc (.cells #[.int .u8 10, .int .u8 0, .int .u8 0, .int .u8 0, .int .i64 8] 29)).heap.size := by simp
  clear A2 zA2 bel2
  go_wp2_with fail
  with_reducible refine (k_mac _).mono ?_
  rintro e w3 ⟨rfl, b3⟩
  have A4 := (b3.block _ zA3).trans A3
  have N4 := (b3.block _ zN3).trans N3
  have zA4 := Nat.lt_of_lt_of_le zA3 b3.size
  have zN4 := Nat.lt_of_lt_of_le zN3 b3.size
  have bel4 := bel3.trans (b3.mono bel3.size)
  clear b3 A3 N3 zA3 zN3 bel3
  have A5 := (Go.heap_alloc_old w3 (.cells #[.int .u8 2, .int .u8 0, .int .u8 0, .int .u8 0, .int .u8 0, .int .u8 171] 33) (r := w1.heap.size) zA4).trans A4
  have N5 := (Go.heap_alloc_old w3 (.cells #[.int .u8 2, .int .u8 0, .int .u8 0, .int .u8 0, .int .u8 0, .int .u8 171] 33) (r := w2.heap.size) zN4).trans N4
  have M5 := heap_alloc_new w3 (.cells #[.int .u8 2, .int .u8 0, .int .u8 0, .int .u8 0, .int .u8 0, .int .u8 171] 33)
  have bel5 := bel4.alloc bel4.size (.cells #[.int .u8 2, .int .u8 0, .int .u8 0, .int .u8 0, .int .u8 0, .int .u8 171] 33)
  have zA5 : w1.heap.size < (w3.alloc (.cells #[.int .u8 2, .int .u8 0, .int .u8 0, .int .u8 0, .int .u8 0, .int .u8 171] 33)).heap.size := by simp; omega
  have zN5 : w2.heap.size < (w3.alloc (.cells #[.int .u8 2, .int .u8 0, .int .u8 0, .int .u8 0, .int .u8 0, .int .u8 171] 33)).heap.size := by simp; omega
  have zM5 : w3.heap.size < (w3.alloc (.cells #[.int .u8 2, .int .u8 0, .int .u8 0, .int .u8 0, .int .u8 0, .int .u8 171] 33)).heap.size := by simp
  obtain ⟨⟨a0, a1, a2, a3⟩, _⟩ := cells4 A4
  obtain ⟨⟨n0, n1, n2, n3, n4⟩, _⟩ := cells5 N4
  have T5 := HT.out.below bel5
  clear A4 N4 bel4
  go_wp2_with fail
  with_reducible refine (k_last _).mono ?_
  rintro e w4 ⟨rfl, b4⟩
  have A6 := (b4.block _ zA5).trans A5
  have N6 := (b4.block _ zN5).trans N5
  have M6 := (b4.block _ zM5).trans M5
  have zA6 := Nat.lt_of_lt_of_le zA5 b4.size
  have zN6 := Nat.lt_of_lt_of_le zN5 b4.size
  have bel6 := bel5.trans (b4.mono bel5.size)
  have T6 := T5.below b4
  clear b4 A5 N5 M5 zA5 zN5 zM5 bel5 a0 a1 a2 a3 n0 n1 n2 n3 n4 T5
  obtain ⟨⟨m0, m1, m2, m3, m4, m5⟩, _⟩ := cells6 M6
  go_wp2_with fail
  with_reducible refine (k_mactext _).mono ?_
  rintro e w5 ⟨rfl, b5⟩
  have A7 := (b5.block _ zA6).trans A6
  have N7 := (b5.block _ zN6).trans N6
  have zN7 := Nat.lt_of_lt_of_le zN6 b5.size
  have bel7 := bel6.trans (b5.mono bel6.size)
  have T7 := T6.below b5
  clear b5 A6 N6 M6 zA6 zN6 bel6 m0 m1 m2 m3 m4 m5 T6
  obtain ⟨⟨a0, a1, a2, a3⟩, _⟩ := cells4 A7
  go_wp2_with fail
  with_reducible refine (k_text _ T7).mono ?_
  rintro e w6 ⟨rfl, b6⟩
  have N8 := (b6.block _ zN7).trans N7
  have bel8 := bel7.trans (b6.mono bel7.size)
  have T8 := T7.below b6
  clear b6 A7 N7 zN7 bel7 a0 a1 a2 a3 T7
  obtain ⟨⟨n0, n1, n2, n3, n4⟩, _⟩ := cells5 N8
  go_wp2_with fail
  with_reducible refine (k_nettext _ T8).mono ?_
  rintro e w7 ⟨rfl, b7⟩
  have bel9 := bel8.trans (b7.mono bel8.size)
  clear b7 N8 bel8 n0 n1 n2 n3 n4 T8
  go_wp2
  go_ret
  exact ⟨rfl, bel9⟩
end Go.Proofs.YtppjnhjglhlpkaaDoor
