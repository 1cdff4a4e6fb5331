/- Layer 3: AddrBack's walk. -/
import Derived.Test.YtppjnhjglhlpkaaDoorLaw3n
import Derived.Test.YtppjnhjglhlpkaaDoorBackm
namespace Go.Proofs.YtppjnhjglhlpkaaDoor
open Go.RowKit

theorem self6 (x : List UInt8) (hx : x.length = 6) (W : World) : (binOp .eql 33 (.agg (x.map u8v).toArray) (.agg (x.map u8v).toArray)).run Tryd.prog W = .ok (.bool true) W := by
  have h := run_eql_bytes (P := Tryd.prog) W 33 5 6 (by kernel_rfl) (by kernel_rfl) (fun w => by kernel_rfl) x x hx hx
  rw [beq_self_eq_true] at h; exact h
theorem in4 (d : Nat) (x : List UInt8) (hx : x.length = 4) (W : World) : (Op.equalIn (d + 2) 24 (.agg (x.map u8v).toArray) (.agg (x.map u8v).toArray)).run Tryd.prog W = .ok true W := by
  have h := run_equalIn_bytes (P := Tryd.prog) W d 24 5 4 (by kernel_rfl) (by kernel_rfl) (fun w => by kernel_rfl) x x hx hx
  rw [beq_self_eq_true] at h; exact h
theorem net_self (a b c d : UInt8) (n : Int) (W : World) : (binOp .eql 29 (.agg #[.int .u8 (a.toNat : Int), .int .u8 (b.toNat : Int), .int .u8 (c.toNat : Int), .int .u8 (d.toNat : Int), .int .i64 n]) (.agg #[.int .u8 (a.toNat : Int), .int .u8 (b.toNat : Int), .int .u8 (c.toNat : Int), .int .u8 (d.toNat : Int), .int .i64 n])).run Tryd.prog W = .ok (.bool true) W := by
  have h4 := in4 9997 [a, b, c, d] rfl W
  simp only [List.map_cons, List.map_nil, u8v] at h4
  rw [run_eql_struct]
  rw [show (10000 : Nat) = 9999 + 1 from rfl, run_equalIn_agg W 9999 29 _ _ (by kernel_rfl) (by kernel_rfl)]
  have h4' : (Op.equalIn 9999 24 (.agg #[.int .u8 (a.toNat : Int), .int .u8 (b.toNat : Int), .int .u8 (c.toNat : Int), .int .u8 (d.toNat : Int)]) (.agg #[.int .u8 (a.toNat : Int), .int .u8 (b.toNat : Int), .int .u8 (c.toNat : Int), .int .u8 (d.toNat : Int)])).run Tryd.prog W = .ok true W := h4
  simp [go_sem, h4']
theorem guard_net (op : BinOp) (x y : Operand) (a b : Array Value) (W : World) : (eqGuard op 29 x y (.agg a) (.agg b)).run Tryd.prog W = .ok () W := run_eqGuard_agg W op 29 x y _ _ (by kernel_rfl)
theorem guard_mac (op : BinOp) (x y : Operand) (a b : Array Value) (W : World) : (eqGuard op 33 x y (.agg a) (.agg b)).run Tryd.prog W = .ok () W := run_eqGuard_agg W op 33 x y _ _ (by kernel_rfl)
theorem first_last' (n m : Nat) : firstN n m ≤ lastN n m := Nat.le_add_right _ _
theorem firstN_idem (n m : Nat) : firstN (firstN n m) m = firstN n m := ((has_between n (firstN n m) m).2 ⟨Nat.le_refl _, by have := first_last' n m; omega⟩).symm
/-- A net's text is read as the net. -/
theorem net_back (a b c d : UInt8) (m : Nat) (hm : m ≤ 32) (hf : firstN (be [a, b, c, d]) m = be [a, b, c, d]) :
    (netA (adT a b c d ++ [47] ++ decT m) = (a, b, c, d) ∧ netN (adT a b c d ++ [47] ++ decT m) = (m : Int)) ∧ netE (adT a b c d ++ [47] ++ decT m) = 0 := by
  obtain ⟨hA, hN, hO⟩ := split_adT a b c d m hm
  have hc : clamp (m : Int) = m := by unfold clamp; rw [if_neg (by omega), if_neg (by omega)]; omega
  have hE : netE (adT a b c d ++ [47] ++ decT m) = 0 := by
    unfold netE; rw [hO, hA, hN, hc]; simp only [Bool.true_eq_false, if_false]; exact if_pos hf
  refine ⟨⟨?_, ?_⟩, hE⟩
  · unfold netA; rw [hE, if_pos rfl, hA]
  · unfold netN; rw [hE, if_pos rfl, hN]

set_option maxRecDepth 100000 in
set_option maxHeartbeats 16000000 in
theorem addrBack_mid (a b c d : UInt8) (m : Nat) (m0 m1 m2 m3 m4 m5 : UInt8) (hm : m ≤ 32) (w : World) (hT : Tab w) : Calls Tryd.prog 6 #[.agg #[.int .u8 (a.toNat : Int), .int .u8 (b.toNat : Int), .int .u8 (c.toNat : Int), .int .u8 (d.toNat : Int)], .int .i64 (m : Int), .agg #[.int .u8 (m0.toNat : Int), .int .u8 (m1.toNat : Int), .int .u8 (m2.toNat : Int), .int .u8 (m3.toNat : Int), .int .u8 (m4.toNat : Int), .int .u8 (m5.toNat : Int)]] w fun e w' => e = .returned (.bool true) ∧ Below w.heap.size w w' := by
  have bel := Below.refl w.heap.size w
  have HT := Lib.hid hT
  clear hT
  have hn := be_four_lt a b c d
  have cm0 : clamp (m : Int) = m := by unfold clamp; rw [if_neg (by omega), if_neg (by omega)]; omega
  have H1 := fun W => afirst_any a b c d (m : Int) W
  rw [cm0] at H1
  have lf := firstN_le (be [a, b, c, d]) m
  obtain ⟨f0, f1, f2, f3, hf⟩ := be_onto (firstN (be [a, b, c, d]) m) (by omega)
  have hid : firstN (be [f0, f1, f2, f3]) m = be [f0, f1, f2, f3] := by rw [← hf]; exact firstN_idem _ _
  rw [hf, adr_be] at H1
  have K1 := Lib.hid H1
  have K2 := Lib.hid fun W h => atext_any a b c d W h
  have l1 := adT_len a b c d
  have K3 := Lib.hid fun W => aparse_some ⟨(adT a b c d).toArray⟩ W (by rw [size_bs]; omega) a b c d (parse_adT a b c d)
  have K4 := Lib.hid fun W h => anettext_any f0 f1 f2 f3 m (by omega) W h
  have l2 := adT_len f0 f1 f2 f3
  have l3 := decT_len 1 m (by omega)
  have K5 := Lib.hid fun W => anet_is ⟨(adT f0 f1 f2 f3 ++ [47] ++ decT m).toArray⟩ W (by rw [size_bs]; simp only [List.length_append, List.length_singleton]; omega) f0 f1 f2 f3 (m : Int) 0 (net_back f0 f1 f2 f3 m hm hid)
  have K6 := Lib.hid fun W => amactext_any m0 m1 m2 m3 m4 m5 W
  have l4 := macT_len [m0, m1, m2, m3, m4, m5] 6
  have K7 := Lib.hid fun W => amac_yes ⟨(macT [m0, m1, m2, m3, m4, m5] 6).toArray⟩ W (by rw [size_bs]; omega) m0 m1 m2 m3 m4 m5 (mac_back m0 m1 m2 m3 m4 m5).1 (mac_back m0 m1 m2 m3 m4 m5).2
  generalize adT a b c d = s1 at *
  generalize adT f0 f1 f2 f3 ++ [47] ++ decT m = s2 at *
  generalize macT [m0, m1, m2, m3, m4, m5] 6 = s3 at *
  have e1 := fun W => self4 [a, b, c, d] rfl W
  have g1 := fun op x y W => guard4 op x y ([a, b, c, d].map u8v).toArray ([a, b, c, d].map u8v).toArray W
  have e2 := fun W => net_self f0 f1 f2 f3 (m : Int) W
  have g2 := guard_net
  have e3 := fun W => self6 [m0, m1, m2, m3, m4, m5] rfl W
  have g3 := fun op x y W => guard_mac op x y ([m0, m1, m2, m3, m4, m5].map u8v).toArray ([m0, m1, m2, m3, m4, m5].map u8v).toArray W
  simp only [List.map_cons, List.map_nil, u8v] at e1 g1 e3 g3
  clear hn cm0 H1 lf hf hid l1 l2 l3 l4
  have t0 : decide ((m : Int) < 0) = false := decide_eq_false (by omega)
  have t1 : decide ((32 : Int) < m) = false := decide_eq_false (by omega)
  have t2 : (0 : Int) ≤ m := by omega
  have t3 : (m : Int) ≤ 32 := by omega
  have ha := heap_alloc_new w (.cells #[.int .u8 (a.toNat : Int), .int .u8 (b.toNat : Int), .int .u8 (c.toNat : Int), .int .u8 (d.toNat : Int)] 24)
  have za : w.heap.size < (w.alloc (.cells #[.int .u8 (a.toNat : Int), .int .u8 (b.toNat : Int), .int .u8 (c.toNat : Int), .int .u8 (d.toNat : Int)] 24)).heap.size := by simp
  replace bel := bel.alloc bel.size (.cells #[.int .u8 (a.toNat : Int), .int .u8 (b.toNat : Int), .int .u8 (c.toNat : Int), .int .u8 (d.toNat : Int)] 24)
  replace ha := (Go.heap_alloc_old (w.alloc (.cells #[.int .u8 (a.toNat : Int), .int .u8 (b.toNat : Int), .int .u8 (c.toNat : Int), .int .u8 (d.toNat : Int)] 24)) (.cells #[.int .u8 (m0.toNat : Int), .int .u8 (m1.toNat : Int), .int .u8 (m2.toNat : Int), .int .u8 (m3.toNat : Int), .int .u8 (m4.toNat : Int), .int .u8 (m5.toNat : Int)] 33) (r := w.heap.size) za).trans ha
  have hm : ((w.alloc (.cells #[.int .u8 (a.toNat : Int), .int .u8 (b.toNat : Int), .int .u8 (c.toNat : Int), .int .u8 (d.toNat : Int)] 24)).alloc (.cells #[.int .u8 (m0.toNat : Int), .int .u8 (m1.toNat : Int), .int .u8 (m2.toNat : Int), .int .u8 (m3.toNat : Int), .int .u8 (m4.toNat : Int), .int .u8 (m5.toNat : Int)] 33)).heap[w.heap.size + 1]? = some (.cells #[.int .u8 (m0.toNat : Int), .int .u8 (m1.toNat : Int), .int .u8 (m2.toNat : Int), .int .u8 (m3.toNat : Int), .int .u8 (m4.toNat : Int), .int .u8 (m5.toNat : Int)] 33 (0, 0)) := by have := heap_alloc_new (w.alloc (.cells #[.int .u8 (a.toNat : Int), .int .u8 (b.toNat : Int), .int .u8 (c.toNat : Int), .int .u8 (d.toNat : Int)] 24)) (.cells #[.int .u8 (m0.toNat : Int), .int .u8 (m1.toNat : Int), .int .u8 (m2.toNat : Int), .int .u8 (m3.toNat : Int), .int .u8 (m4.toNat : Int), .int .u8 (m5.toNat : Int)] 33); simpa using this
  replace za := Nat.lt_trans za (show (w.alloc (.cells #[.int .u8 (a.toNat : Int), .int .u8 (b.toNat : Int), .int .u8 (c.toNat : Int), .int .u8 (d.toNat : Int)] 24)).heap.size < ((w.alloc (.cells #[.int .u8 (a.toNat : Int), .int .u8 (b.toNat : Int), .int .u8 (c.toNat : Int), .int .u8 (d.toNat : Int)] 24)).alloc (.cells #[.int .u8 (m0.toNat : Int), .int .u8 (m1.toNat : Int), .int .u8 (m2.toNat : Int), .int .u8 (m3.toNat : Int), .int .u8 (m4.toNat : Int), .int .u8 (m5.toNat : Int)] 33)).heap.size by simp)
  have zm : w.heap.size + 1 < ((w.alloc (.cells #[.int .u8 (a.toNat : Int), .int .u8 (b.toNat : Int), .int .u8 (c.toNat : Int), .int .u8 (d.toNat : Int)] 24)).alloc (.cells #[.int .u8 (m0.toNat : Int), .int .u8 (m1.toNat : Int), .int .u8 (m2.toNat : Int), .int .u8 (m3.toNat : Int), .int .u8 (m4.toNat : Int), .int .u8 (m5.toNat : Int)] 33)).heap.size := by simp
  replace bel := bel.alloc bel.size (.cells #[.int .u8 (m0.toNat : Int), .int .u8 (m1.toNat : Int), .int .u8 (m2.toNat : Int), .int .u8 (m3.toNat : Int), .int .u8 (m4.toNat : Int), .int .u8 (m5.toNat : Int)] 33)
  go_enter Tryd.func6, Tryd.ntmps6
  go_wp2_with fail
  with_reducible refine (awake3 _ (HT.out.below bel)).mono ?_
  rintro e w1 ⟨rfl, b1⟩
  replace ha := (b1.block _ za).trans ha
  replace za := Nat.lt_of_lt_of_le za b1.size
  replace hm := (b1.block _ zm).trans hm
  replace zm := Nat.lt_of_lt_of_le zm b1.size
  replace bel := bel.trans (b1.mono bel.size)
  clear b1
  obtain ⟨⟨ca0, ca1, ca2, ca3⟩, _⟩ := cells4 ha
  go_wp2_with fail
  with_reducible refine (K1.out _).mono ?_
  rintro e w2 ⟨rfl, b2⟩
  clear ca0 ca1 ca2 ca3
  replace ha := (b2.block _ za).trans ha
  replace za := Nat.lt_of_lt_of_le za b2.size
  replace hm := (b2.block _ zm).trans hm
  replace zm := Nat.lt_of_lt_of_le zm b2.size
  replace bel := bel.trans (b2.mono bel.size)
  clear b2
  obtain ⟨⟨ca0, ca1, ca2, ca3⟩, _⟩ := cells4 ha
  have ya := za
  have ym := zm
  replace ha := (Go.heap_alloc_old w2 (.cells #[.int .u8 (f0.toNat : Int), .int .u8 (f1.toNat : Int), .int .u8 (f2.toNat : Int), .int .u8 (f3.toNat : Int), .int .i64 (m : Int)] 29) (r := w.heap.size) za).trans ha
  replace hm := (Go.heap_alloc_old w2 (.cells #[.int .u8 (f0.toNat : Int), .int .u8 (f1.toNat : Int), .int .u8 (f2.toNat : Int), .int .u8 (f3.toNat : Int), .int .i64 (m : Int)] 29) (r := w.heap.size + 1) zm).trans hm
  have hn := heap_alloc_new w2 (.cells #[.int .u8 (f0.toNat : Int), .int .u8 (f1.toNat : Int), .int .u8 (f2.toNat : Int), .int .u8 (f3.toNat : Int), .int .i64 (m : Int)] 29)
  replace za := Nat.lt_trans za (show w2.heap.size < (w2.alloc (.cells #[.int .u8 (f0.toNat : Int), .int .u8 (f1.toNat : Int), .int .u8 (f2.toNat : Int), .int .u8 (f3.toNat : Int), .int .i64 (m : Int)] 29)).heap.size by simp)
  replace zm := Nat.lt_trans zm (show w2.heap.size < (w2.alloc (.cells #[.int .u8 (f0.toNat : Int), .int .u8 (f1.toNat : Int), .int .u8 (f2.toNat : Int), .int .u8 (f3.toNat : Int), .int .i64 (m : Int)] 29)).heap.size by simp)
  have zn : w2.heap.size < (w2.alloc (.cells #[.int .u8 (f0.toNat : Int), .int .u8 (f1.toNat : Int), .int .u8 (f2.toNat : Int), .int .u8 (f3.toNat : Int), .int .i64 (m : Int)] 29)).heap.size := by simp
  replace bel := bel.alloc bel.size (.cells #[.int .u8 (f0.toNat : Int), .int .u8 (f1.toNat : Int), .int .u8 (f2.toNat : Int), .int .u8 (f3.toNat : Int), .int .i64 (m : Int)] 29)
  go_wp2_with fail
  with_reducible refine (K2.out _ (HT.out.below bel)).mono ?_
  rintro e w3 ⟨rfl, b3⟩
  clear ca0 ca1 ca2 ca3 ya ym
  replace ha := (b3.block _ za).trans ha
  replace za := Nat.lt_of_lt_of_le za b3.size
  replace hm := (b3.block _ zm).trans hm
  replace zm := Nat.lt_of_lt_of_le zm b3.size
  replace hn := (b3.block _ zn).trans hn
  replace zn := Nat.lt_of_lt_of_le zn b3.size
  replace bel := bel.trans (b3.mono bel.size)
  clear b3
  go_wp2_with fail
  with_reducible refine (K3.out _).mono ?_
  rintro e w4 ⟨rfl, b4⟩
  replace ha := (b4.block _ za).trans ha
  replace za := Nat.lt_of_lt_of_le za b4.size
  replace hm := (b4.block _ zm).trans hm
  replace zm := Nat.lt_of_lt_of_le zm b4.size
  replace hn := (b4.block _ zn).trans hn
  replace zn := Nat.lt_of_lt_of_le zn b4.size
  replace bel := bel.trans (b4.mono bel.size)
  clear b4
  obtain ⟨⟨cn0, cn1, cn2, cn3, cn4⟩, _⟩ := cells5 hn
  have ya := za
  have ym := zm
  have yn := zn
  replace ha := (Go.heap_alloc_old w4 (.cells #[.int .u8 (a.toNat : Int), .int .u8 (b.toNat : Int), .int .u8 (c.toNat : Int), .int .u8 (d.toNat : Int)] 24) (r := w.heap.size) za).trans ha
  replace hm := (Go.heap_alloc_old w4 (.cells #[.int .u8 (a.toNat : Int), .int .u8 (b.toNat : Int), .int .u8 (c.toNat : Int), .int .u8 (d.toNat : Int)] 24) (r := w.heap.size + 1) zm).trans hm
  replace hn := (Go.heap_alloc_old w4 (.cells #[.int .u8 (a.toNat : Int), .int .u8 (b.toNat : Int), .int .u8 (c.toNat : Int), .int .u8 (d.toNat : Int)] 24) (r := w2.heap.size) zn).trans hn
  have hx := heap_alloc_new w4 (.cells #[.int .u8 (a.toNat : Int), .int .u8 (b.toNat : Int), .int .u8 (c.toNat : Int), .int .u8 (d.toNat : Int)] 24)
  replace za := Nat.lt_trans za (show w4.heap.size < (w4.alloc (.cells #[.int .u8 (a.toNat : Int), .int .u8 (b.toNat : Int), .int .u8 (c.toNat : Int), .int .u8 (d.toNat : Int)] 24)).heap.size by simp)
  replace zm := Nat.lt_trans zm (show w4.heap.size < (w4.alloc (.cells #[.int .u8 (a.toNat : Int), .int .u8 (b.toNat : Int), .int .u8 (c.toNat : Int), .int .u8 (d.toNat : Int)] 24)).heap.size by simp)
  replace zn := Nat.lt_trans zn (show w4.heap.size < (w4.alloc (.cells #[.int .u8 (a.toNat : Int), .int .u8 (b.toNat : Int), .int .u8 (c.toNat : Int), .int .u8 (d.toNat : Int)] 24)).heap.size by simp)
  have zx : w4.heap.size < (w4.alloc (.cells #[.int .u8 (a.toNat : Int), .int .u8 (b.toNat : Int), .int .u8 (c.toNat : Int), .int .u8 (d.toNat : Int)] 24)).heap.size := by simp
  replace bel := bel.alloc bel.size (.cells #[.int .u8 (a.toNat : Int), .int .u8 (b.toNat : Int), .int .u8 (c.toNat : Int), .int .u8 (d.toNat : Int)] 24)
  go_wp2_with fail
  with_reducible refine (K4.out _ (HT.out.below bel)).mono ?_
  rintro e w5 ⟨rfl, b5⟩
  clear cn0 cn1 cn2 cn3 cn4 ya ym yn
  replace ha := (b5.block _ za).trans ha
  replace za := Nat.lt_of_lt_of_le za b5.size
  replace hm := (b5.block _ zm).trans hm
  replace zm := Nat.lt_of_lt_of_le zm b5.size
  replace hn := (b5.block _ zn).trans hn
  replace zn := Nat.lt_of_lt_of_le zn b5.size
  replace hx := (b5.block _ zx).trans hx
  replace zx := Nat.lt_of_lt_of_le zx b5.size
  replace bel := bel.trans (b5.mono bel.size)
  clear b5
  go_wp2_with fail
  with_reducible refine (K5.out _).mono ?_
  rintro e w6 ⟨rfl, b6⟩
  replace ha := (b6.block _ za).trans ha
  replace za := Nat.lt_of_lt_of_le za b6.size
  replace hm := (b6.block _ zm).trans hm
  replace zm := Nat.lt_of_lt_of_le zm b6.size
  replace hn := (b6.block _ zn).trans hn
  replace zn := Nat.lt_of_lt_of_le zn b6.size
  replace hx := (b6.block _ zx).trans hx
  replace zx := Nat.lt_of_lt_of_le zx b6.size
  replace bel := bel.trans (b6.mono bel.size)
  clear b6
  obtain ⟨⟨cm0, cm1, cm2, cm3, cm4, cm5⟩, _⟩ := cells6 hm
  have ya := za
  have ym := zm
  have yn := zn
  have yx := zx
  replace ha := (Go.heap_alloc_old w6 (.cells #[.int .u8 (f0.toNat : Int), .int .u8 (f1.toNat : Int), .int .u8 (f2.toNat : Int), .int .u8 (f3.toNat : Int), .int .i64 (m : Int)] 29) (r := w.heap.size) za).trans ha
  replace hm := (Go.heap_alloc_old w6 (.cells #[.int .u8 (f0.toNat : Int), .int .u8 (f1.toNat : Int), .int .u8 (f2.toNat : Int), .int .u8 (f3.toNat : Int), .int .i64 (m : Int)] 29) (r := w.heap.size + 1) zm).trans hm
  replace hn := (Go.heap_alloc_old w6 (.cells #[.int .u8 (f0.toNat : Int), .int .u8 (f1.toNat : Int), .int .u8 (f2.toNat : Int), .int .u8 (f3.toNat : Int), .int .i64 (m : Int)] 29) (r := w2.heap.size) zn).trans hn
  replace hx := (Go.heap_alloc_old w6 (.cells #[.int .u8 (f0.toNat : Int), .int .u8 (f1.toNat : Int), .int .u8 (f2.toNat : Int), .int .u8 (f3.toNat : Int), .int .i64 (m : Int)] 29) (r := w4.heap.size) zx).trans hx
  have hy := heap_alloc_new w6 (.cells #[.int .u8 (f0.toNat : Int), .int .u8 (f1.toNat : Int), .int .u8 (f2.toNat : Int), .int .u8 (f3.toNat : Int), .int .i64 (m : Int)] 29)
  replace za := Nat.lt_trans za (show w6.heap.size < (w6.alloc (.cells #[.int .u8 (f0.toNat : Int), .int .u8 (f1.toNat : Int), .int .u8 (f2.toNat : Int), .int .u8 (f3.toNat : Int), .int .i64 (m : Int)] 29)).heap.size by simp)
  replace zm := Nat.lt_trans zm (show w6.heap.size < (w6.alloc (.cells #[.int .u8 (f0.toNat : Int), .int .u8 (f1.toNat : Int), .int .u8 (f2.toNat : Int), .int .u8 (f3.toNat : Int), .int .i64 (m : Int)] 29)).heap.size by simp)
  replace zn := Nat.lt_trans zn (show w6.heap.size < (w6.alloc (.cells #[.int .u8 (f0.toNat : Int), .int .u8 (f1.toNat : Int), .int .u8 (f2.toNat : Int), .int .u8 (f3.toNat : Int), .int .i64 (m : Int)] 29)).heap.size by simp)
  replace zx := Nat.lt_trans zx (show w6.heap.size < (w6.alloc (.cells #[.int .u8 (f0.toNat : Int), .int .u8 (f1.toNat : Int), .int .u8 (f2.toNat : Int), .int .u8 (f3.toNat : Int), .int .i64 (m : Int)] 29)).heap.size by simp)
  have zy : w6.heap.size < (w6.alloc (.cells #[.int .u8 (f0.toNat : Int), .int .u8 (f1.toNat : Int), .int .u8 (f2.toNat : Int), .int .u8 (f3.toNat : Int), .int .i64 (m : Int)] 29)).heap.size := by simp
  replace bel := bel.alloc bel.size (.cells #[.int .u8 (f0.toNat : Int), .int .u8 (f1.toNat : Int), .int .u8 (f2.toNat : Int), .int .u8 (f3.toNat : Int), .int .i64 (m : Int)] 29)
  go_wp2_with fail
  with_reducible refine (K6.out _).mono ?_
  rintro e w7 ⟨rfl, b7⟩
  clear cm0 cm1 cm2 cm3 cm4 cm5 ya ym yn yx
  replace ha := (b7.block _ za).trans ha
  replace za := Nat.lt_of_lt_of_le za b7.size
  replace hm := (b7.block _ zm).trans hm
  replace zm := Nat.lt_of_lt_of_le zm b7.size
  replace hn := (b7.block _ zn).trans hn
  replace zn := Nat.lt_of_lt_of_le zn b7.size
  replace hx := (b7.block _ zx).trans hx
  replace zx := Nat.lt_of_lt_of_le zx b7.size
  replace hy := (b7.block _ zy).trans hy
  replace zy := Nat.lt_of_lt_of_le zy b7.size
  replace bel := bel.trans (b7.mono bel.size)
  clear b7
  go_wp2_with fail
  with_reducible refine (K7.out _).mono ?_
  rintro e w8 ⟨rfl, b8⟩
  replace ha := (b8.block _ za).trans ha
  replace za := Nat.lt_of_lt_of_le za b8.size
  replace hm := (b8.block _ zm).trans hm
  replace zm := Nat.lt_of_lt_of_le zm b8.size
  replace hn := (b8.block _ zn).trans hn
  replace zn := Nat.lt_of_lt_of_le zn b8.size
  replace hx := (b8.block _ zx).trans hx
  replace zx := Nat.lt_of_lt_of_le zx b8.size
  replace hy := (b8.block _ zy).trans hy
  replace zy := Nat.lt_of_lt_of_le zy b8.size
  replace bel := bel.trans (b8.mono bel.size)
  clear b8
  obtain ⟨⟨ca0, ca1, ca2, ca3⟩, _⟩ := cells4 ha
  obtain ⟨⟨cn0, cn1, cn2, cn3, cn4⟩, _⟩ := cells5 hn
  obtain ⟨⟨cm0, cm1, cm2, cm3, cm4, cm5⟩, _⟩ := cells6 hm
  obtain ⟨⟨cx0, cx1, cx2, cx3⟩, _⟩ := cells4 hx
  obtain ⟨⟨cy0, cy1, cy2, cy3, cy4⟩, _⟩ := cells5 hy
  have ya := za
  have ym := zm
  have yn := zn
  have yx := zx
  have yy := zy
  replace ha := (Go.heap_alloc_old w8 (.cells #[.int .u8 (m0.toNat : Int), .int .u8 (m1.toNat : Int), .int .u8 (m2.toNat : Int), .int .u8 (m3.toNat : Int), .int .u8 (m4.toNat : Int), .int .u8 (m5.toNat : Int)] 33) (r := w.heap.size) za).trans ha
  replace hm := (Go.heap_alloc_old w8 (.cells #[.int .u8 (m0.toNat : Int), .int .u8 (m1.toNat : Int), .int .u8 (m2.toNat : Int), .int .u8 (m3.toNat : Int), .int .u8 (m4.toNat : Int), .int .u8 (m5.toNat : Int)] 33) (r := w.heap.size + 1) zm).trans hm
  replace hn := (Go.heap_alloc_old w8 (.cells #[.int .u8 (m0.toNat : Int), .int .u8 (m1.toNat : Int), .int .u8 (m2.toNat : Int), .int .u8 (m3.toNat : Int), .int .u8 (m4.toNat : Int), .int .u8 (m5.toNat : Int)] 33) (r := w2.heap.size) zn).trans hn
  replace hx := (Go.heap_alloc_old w8 (.cells #[.int .u8 (m0.toNat : Int), .int .u8 (m1.toNat : Int), .int .u8 (m2.toNat : Int), .int .u8 (m3.toNat : Int), .int .u8 (m4.toNat : Int), .int .u8 (m5.toNat : Int)] 33) (r := w4.heap.size) zx).trans hx
  replace hy := (Go.heap_alloc_old w8 (.cells #[.int .u8 (m0.toNat : Int), .int .u8 (m1.toNat : Int), .int .u8 (m2.toNat : Int), .int .u8 (m3.toNat : Int), .int .u8 (m4.toNat : Int), .int .u8 (m5.toNat : Int)] 33) (r := w6.heap.size) zy).trans hy
  have hz := heap_alloc_new w8 (.cells #[.int .u8 (m0.toNat : Int), .int .u8 (m1.toNat : Int), .int .u8 (m2.toNat : Int), .int .u8 (m3.toNat : Int), .int .u8 (m4.toNat : Int), .int .u8 (m5.toNat : Int)] 33)
  replace za := Nat.lt_trans za (show w8.heap.size < (w8.alloc (.cells #[.int .u8 (m0.toNat : Int), .int .u8 (m1.toNat : Int), .int .u8 (m2.toNat : Int), .int .u8 (m3.toNat : Int), .int .u8 (m4.toNat : Int), .int .u8 (m5.toNat : Int)] 33)).heap.size by simp)
  replace zm := Nat.lt_trans zm (show w8.heap.size < (w8.alloc (.cells #[.int .u8 (m0.toNat : Int), .int .u8 (m1.toNat : Int), .int .u8 (m2.toNat : Int), .int .u8 (m3.toNat : Int), .int .u8 (m4.toNat : Int), .int .u8 (m5.toNat : Int)] 33)).heap.size by simp)
  replace zn := Nat.lt_trans zn (show w8.heap.size < (w8.alloc (.cells #[.int .u8 (m0.toNat : Int), .int .u8 (m1.toNat : Int), .int .u8 (m2.toNat : Int), .int .u8 (m3.toNat : Int), .int .u8 (m4.toNat : Int), .int .u8 (m5.toNat : Int)] 33)).heap.size by simp)
  replace zx := Nat.lt_trans zx (show w8.heap.size < (w8.alloc (.cells #[.int .u8 (m0.toNat : Int), .int .u8 (m1.toNat : Int), .int .u8 (m2.toNat : Int), .int .u8 (m3.toNat : Int), .int .u8 (m4.toNat : Int), .int .u8 (m5.toNat : Int)] 33)).heap.size by simp)
  replace zy := Nat.lt_trans zy (show w8.heap.size < (w8.alloc (.cells #[.int .u8 (m0.toNat : Int), .int .u8 (m1.toNat : Int), .int .u8 (m2.toNat : Int), .int .u8 (m3.toNat : Int), .int .u8 (m4.toNat : Int), .int .u8 (m5.toNat : Int)] 33)).heap.size by simp)
  have zz : w8.heap.size < (w8.alloc (.cells #[.int .u8 (m0.toNat : Int), .int .u8 (m1.toNat : Int), .int .u8 (m2.toNat : Int), .int .u8 (m3.toNat : Int), .int .u8 (m4.toNat : Int), .int .u8 (m5.toNat : Int)] 33)).heap.size := by simp
  replace bel := bel.alloc bel.size (.cells #[.int .u8 (m0.toNat : Int), .int .u8 (m1.toNat : Int), .int .u8 (m2.toNat : Int), .int .u8 (m3.toNat : Int), .int .u8 (m4.toNat : Int), .int .u8 (m5.toNat : Int)] 33)
  go_wp2
  go_ret
  exact ⟨rfl, bel⟩
set_option maxRecDepth 100000 in
set_option maxHeartbeats 16000000 in
theorem addrBack_lo (a b c d : UInt8) (bt : Int) (m0 m1 m2 m3 m4 m5 : UInt8) (h : bt < 0) (w : World) (hT : Tab w) : Calls Tryd.prog 6 #[.agg #[.int .u8 (a.toNat : Int), .int .u8 (b.toNat : Int), .int .u8 (c.toNat : Int), .int .u8 (d.toNat : Int)], .int .i64 bt, .agg #[.int .u8 (m0.toNat : Int), .int .u8 (m1.toNat : Int), .int .u8 (m2.toNat : Int), .int .u8 (m3.toNat : Int), .int .u8 (m4.toNat : Int), .int .u8 (m5.toNat : Int)]] w fun e w' => e = .returned (.bool true) ∧ Below w.heap.size w w' := by
  have bel := Below.refl w.heap.size w
  have HT := Lib.hid hT
  clear hT
  have ha := heap_alloc_new w (.cells #[.int .u8 (a.toNat : Int), .int .u8 (b.toNat : Int), .int .u8 (c.toNat : Int), .int .u8 (d.toNat : Int)] 24)
  have za : w.heap.size < (w.alloc (.cells #[.int .u8 (a.toNat : Int), .int .u8 (b.toNat : Int), .int .u8 (c.toNat : Int), .int .u8 (d.toNat : Int)] 24)).heap.size := by simp
  replace bel := bel.alloc bel.size (.cells #[.int .u8 (a.toNat : Int), .int .u8 (b.toNat : Int), .int .u8 (c.toNat : Int), .int .u8 (d.toNat : Int)] 24)
  replace ha := (Go.heap_alloc_old (w.alloc (.cells #[.int .u8 (a.toNat : Int), .int .u8 (b.toNat : Int), .int .u8 (c.toNat : Int), .int .u8 (d.toNat : Int)] 24)) (.cells #[.int .u8 (m0.toNat : Int), .int .u8 (m1.toNat : Int), .int .u8 (m2.toNat : Int), .int .u8 (m3.toNat : Int), .int .u8 (m4.toNat : Int), .int .u8 (m5.toNat : Int)] 33) (r := w.heap.size) za).trans ha
  have hm : ((w.alloc (.cells #[.int .u8 (a.toNat : Int), .int .u8 (b.toNat : Int), .int .u8 (c.toNat : Int), .int .u8 (d.toNat : Int)] 24)).alloc (.cells #[.int .u8 (m0.toNat : Int), .int .u8 (m1.toNat : Int), .int .u8 (m2.toNat : Int), .int .u8 (m3.toNat : Int), .int .u8 (m4.toNat : Int), .int .u8 (m5.toNat : Int)] 33)).heap[w.heap.size + 1]? = some (.cells #[.int .u8 (m0.toNat : Int), .int .u8 (m1.toNat : Int), .int .u8 (m2.toNat : Int), .int .u8 (m3.toNat : Int), .int .u8 (m4.toNat : Int), .int .u8 (m5.toNat : Int)] 33 (0, 0)) := by have := heap_alloc_new (w.alloc (.cells #[.int .u8 (a.toNat : Int), .int .u8 (b.toNat : Int), .int .u8 (c.toNat : Int), .int .u8 (d.toNat : Int)] 24)) (.cells #[.int .u8 (m0.toNat : Int), .int .u8 (m1.toNat : Int), .int .u8 (m2.toNat : Int), .int .u8 (m3.toNat : Int), .int .u8 (m4.toNat : Int), .int .u8 (m5.toNat : Int)] 33); simpa using this
  replace za := Nat.lt_trans za (show (w.alloc (.cells #[.int .u8 (a.toNat : Int), .int .u8 (b.toNat : Int), .int .u8 (c.toNat : Int), .int .u8 (d.toNat : Int)] 24)).heap.size < ((w.alloc (.cells #[.int .u8 (a.toNat : Int), .int .u8 (b.toNat : Int), .int .u8 (c.toNat : Int), .int .u8 (d.toNat : Int)] 24)).alloc (.cells #[.int .u8 (m0.toNat : Int), .int .u8 (m1.toNat : Int), .int .u8 (m2.toNat : Int), .int .u8 (m3.toNat : Int), .int .u8 (m4.toNat : Int), .int .u8 (m5.toNat : Int)] 33)).heap.size by simp)
  have zm : w.heap.size + 1 < ((w.alloc (.cells #[.int .u8 (a.toNat : Int), .int .u8 (b.toNat : Int), .int .u8 (c.toNat : Int), .int .u8 (d.toNat : Int)] 24)).alloc (.cells #[.int .u8 (m0.toNat : Int), .int .u8 (m1.toNat : Int), .int .u8 (m2.toNat : Int), .int .u8 (m3.toNat : Int), .int .u8 (m4.toNat : Int), .int .u8 (m5.toNat : Int)] 33)).heap.size := by simp
  replace bel := bel.alloc bel.size (.cells #[.int .u8 (m0.toNat : Int), .int .u8 (m1.toNat : Int), .int .u8 (m2.toNat : Int), .int .u8 (m3.toNat : Int), .int .u8 (m4.toNat : Int), .int .u8 (m5.toNat : Int)] 33)
  go_enter Tryd.func6, Tryd.ntmps6
  go_wp2_with fail
  with_reducible refine (awake3 _ (HT.out.below bel)).mono ?_
  rintro e w1 ⟨rfl, b1⟩
  replace ha := (b1.block _ za).trans ha
  replace za := Nat.lt_of_lt_of_le za b1.size
  replace hm := (b1.block _ zm).trans hm
  replace zm := Nat.lt_of_lt_of_le zm b1.size
  replace bel := bel.trans (b1.mono bel.size)
  clear b1
  go_wp2
  go_ret
  exact ⟨rfl, bel⟩
set_option maxRecDepth 100000 in
set_option maxHeartbeats 16000000 in
theorem addrBack_hi (a b c d : UInt8) (bt : Int) (m0 m1 m2 m3 m4 m5 : UInt8) (h : 32 < bt) (w : World) (hT : Tab w) : Calls Tryd.prog 6 #[.agg #[.int .u8 (a.toNat : Int), .int .u8 (b.toNat : Int), .int .u8 (c.toNat : Int), .int .u8 (d.toNat : Int)], .int .i64 bt, .agg #[.int .u8 (m0.toNat : Int), .int .u8 (m1.toNat : Int), .int .u8 (m2.toNat : Int), .int .u8 (m3.toNat : Int), .int .u8 (m4.toNat : Int), .int .u8 (m5.toNat : Int)]] w fun e w' => e = .returned (.bool true) ∧ Below w.heap.size w w' := by
  have bel := Below.refl w.heap.size w
  have HT := Lib.hid hT
  clear hT
  have ha := heap_alloc_new w (.cells #[.int .u8 (a.toNat : Int), .int .u8 (b.toNat : Int), .int .u8 (c.toNat : Int), .int .u8 (d.toNat : Int)] 24)
  have za : w.heap.size < (w.alloc (.cells #[.int .u8 (a.toNat : Int), .int .u8 (b.toNat : Int), .int .u8 (c.toNat : Int), .int .u8 (d.toNat : Int)] 24)).heap.size := by simp
  replace bel := bel.alloc bel.size (.cells #[.int .u8 (a.toNat : Int), .int .u8 (b.toNat : Int), .int .u8 (c.toNat : Int), .int .u8 (d.toNat : Int)] 24)
  replace ha := (Go.heap_alloc_old (w.alloc (.cells #[.int .u8 (a.toNat : Int), .int .u8 (b.toNat : Int), .int .u8 (c.toNat : Int), .int .u8 (d.toNat : Int)] 24)) (.cells #[.int .u8 (m0.toNat : Int), .int .u8 (m1.toNat : Int), .int .u8 (m2.toNat : Int), .int .u8 (m3.toNat : Int), .int .u8 (m4.toNat : Int), .int .u8 (m5.toNat : Int)] 33) (r := w.heap.size) za).trans ha
  have hm : ((w.alloc (.cells #[.int .u8 (a.toNat : Int), .int .u8 (b.toNat : Int), .int .u8 (c.toNat : Int), .int .u8 (d.toNat : Int)] 24)).alloc (.cells #[.int .u8 (m0.toNat : Int), .int .u8 (m1.toNat : Int), .int .u8 (m2.toNat : Int), .int .u8 (m3.toNat : Int), .int .u8 (m4.toNat : Int), .int .u8 (m5.toNat : Int)] 33)).heap[w.heap.size + 1]? = some (.cells #[.int .u8 (m0.toNat : Int), .int .u8 (m1.toNat : Int), .int .u8 (m2.toNat : Int), .int .u8 (m3.toNat : Int), .int .u8 (m4.toNat : Int), .int .u8 (m5.toNat : Int)] 33 (0, 0)) := by have := heap_alloc_new (w.alloc (.cells #[.int .u8 (a.toNat : Int), .int .u8 (b.toNat : Int), .int .u8 (c.toNat : Int), .int .u8 (d.toNat : Int)] 24)) (.cells #[.int .u8 (m0.toNat : Int), .int .u8 (m1.toNat : Int), .int .u8 (m2.toNat : Int), .int .u8 (m3.toNat : Int), .int .u8 (m4.toNat : Int), .int .u8 (m5.toNat : Int)] 33); simpa using this
  replace za := Nat.lt_trans za (show (w.alloc (.cells #[.int .u8 (a.toNat : Int), .int .u8 (b.toNat : Int), .int .u8 (c.toNat : Int), .int .u8 (d.toNat : Int)] 24)).heap.size < ((w.alloc (.cells #[.int .u8 (a.toNat : Int), .int .u8 (b.toNat : Int), .int .u8 (c.toNat : Int), .int .u8 (d.toNat : Int)] 24)).alloc (.cells #[.int .u8 (m0.toNat : Int), .int .u8 (m1.toNat : Int), .int .u8 (m2.toNat : Int), .int .u8 (m3.toNat : Int), .int .u8 (m4.toNat : Int), .int .u8 (m5.toNat : Int)] 33)).heap.size by simp)
  have zm : w.heap.size + 1 < ((w.alloc (.cells #[.int .u8 (a.toNat : Int), .int .u8 (b.toNat : Int), .int .u8 (c.toNat : Int), .int .u8 (d.toNat : Int)] 24)).alloc (.cells #[.int .u8 (m0.toNat : Int), .int .u8 (m1.toNat : Int), .int .u8 (m2.toNat : Int), .int .u8 (m3.toNat : Int), .int .u8 (m4.toNat : Int), .int .u8 (m5.toNat : Int)] 33)).heap.size := by simp
  replace bel := bel.alloc bel.size (.cells #[.int .u8 (m0.toNat : Int), .int .u8 (m1.toNat : Int), .int .u8 (m2.toNat : Int), .int .u8 (m3.toNat : Int), .int .u8 (m4.toNat : Int), .int .u8 (m5.toNat : Int)] 33)
  go_enter Tryd.func6, Tryd.ntmps6
  go_wp2_with fail
  with_reducible refine (awake3 _ (HT.out.below bel)).mono ?_
  rintro e w1 ⟨rfl, b1⟩
  replace ha := (b1.block _ za).trans ha
  replace za := Nat.lt_of_lt_of_le za b1.size
  replace hm := (b1.block _ zm).trans hm
  replace zm := Nat.lt_of_lt_of_le zm b1.size
  replace bel := bel.trans (b1.mono bel.size)
  clear b1
  have h2 : decide (bt < 0) = false := decide_eq_false (by omega)
  go_wp2
  go_ret
  exact ⟨rfl, bel⟩
theorem addrBack_walk (a b c d : UInt8) (bt : Int) (m0 m1 m2 m3 m4 m5 : UInt8) (w : World) (hT : Tab w) : Calls Tryd.prog 6 #[.agg #[.int .u8 (a.toNat : Int), .int .u8 (b.toNat : Int), .int .u8 (c.toNat : Int), .int .u8 (d.toNat : Int)], .int .i64 bt, .agg #[.int .u8 (m0.toNat : Int), .int .u8 (m1.toNat : Int), .int .u8 (m2.toNat : Int), .int .u8 (m3.toNat : Int), .int .u8 (m4.toNat : Int), .int .u8 (m5.toNat : Int)]] w fun e w' => e = .returned (.bool true) ∧ Below w.heap.size w w' := by
  by_cases h0 : bt < 0
  · exact addrBack_lo a b c d bt m0 m1 m2 m3 m4 m5 h0 w hT
  by_cases h1 : 32 < bt
  · exact addrBack_hi a b c d bt m0 m1 m2 m3 m4 m5 h1 w hT
  obtain ⟨m, rfl⟩ : ∃ m : Nat, bt = m := ⟨bt.toNat, by omega⟩
  exact addrBack_mid a b c d m m0 m1 m2 m3 m4 m5 (by omega) w hT
end Go.Proofs.YtppjnhjglhlpkaaDoor
