/- NearAsks, NearKnown. -/
import Derived.Test.YtfghmckeogajnaaLaw11
namespace Go.Proofs.Ytfghmckeogajnaa
open Go.RowKit

def askT (A : Option Addr) (c i : Nat) : List En := if i ≤ 3 then [⟨⟨10, 0, 0, byteOf 3⟩, (i : Int) - 1, false, Mc6.zero, (i : Int), A, 1, c⟩] else []
def askN (i : Nat) : Int := if i ≤ 3 then (i : Int) else 3
theorem ask_tick (A : Option Addr) (c i : Nat) (hi : 1 ≤ i) : tickL 100 (i : Int) (askT A c i) = askT A c (i + 1) ∧ ((((askT A c i).filter (keepB 100 (i : Int))).filter (dueB (i : Int))).length : Int) = askN (i + 1) - askN i := by
  rcases (by omega : i = 1 ∨ i = 2 ∨ i = 3 ∨ 4 ≤ i) with rfl | rfl | rfl | h
  · exact ⟨rfl, rfl⟩
  · exact ⟨rfl, rfl⟩
  · exact ⟨rfl, rfl⟩
  · have h1 : askT A c i = [] := by unfold askT; rw [if_neg (by omega)]
    have h2 : askT A c (i + 1) = [] := by unfold askT; rw [if_neg (by omega)]
    rw [h1, h2]
    refine ⟨rfl, ?_⟩
    unfold askN
    rw [if_neg (by omega), if_neg (by omega)]; rfl
theorem askN_le (i : Nat) : 0 ≤ askN i ∧ askN i ≤ 3 := by unfold askN; split <;> omega
theorem adv_next (i : Nat) (hi : 1 ≤ i) (h2 : i ≤ 1000) : adv ((i : Int) - 1) (i : Int) = (i : Int) := adv_to (by omega) (by omega)
set_option linter.unusedVariables false in
set_option linter.unusedSimpArgs false in
set_option maxRecDepth 100000 in
set_option maxHeartbeats 16000000 in
theorem nearAsks_walk (tk : Int) (w : World) : Calls Try.prog 7 #[.int .i64 tk] w fun e w' => e = .returned (.bool true) ∧ Below w.heap.size w w' := by
  have bel := Below.refl w.heap.size w
  go_enter Try.func7, Try.ntmps7
  go_wp2_with fail
  with_reducible refine (awake_any _).mono ?_
  rintro e w1 ⟨rfl, b1⟩
  replace bel := bel.trans (b1.mono bel.size)
  clear b1
  by_cases c1 : tk < 0
  · go_wp2_with fail
    go_ret
    exact ⟨rfl, bel⟩
  have Hc1 : Hid (0 ≤ tk) := Lib.hid (by omega)
  replace c1 : decide (tk < 0) = false := decide_eq_false c1
  by_cases c2 : 20 < tk
  · go_wp2_with fail
    go_ret
    exact ⟨rfl, bel⟩
  have Hc2 : Hid (tk ≤ 20) := Lib.hid (by omega)
  replace c2 : decide (20 < tk) = false := decide_eq_false c2
  have kk := Hc1.out
  have kk2 := Hc2.out
  obtain ⟨K, rfl⟩ : ∃ K : Nat, tk = (K : Int) := ⟨tk.toNat, by omega⟩
  have K0 : (0 : Int) ≤ K := by omega
  have K1 : (K : Int) ≤ 20 := by omega
  go_wp2_with fail
  have HLO_ := bel.size
  with_reducible refine (tnew 100 (by decide) (by decide) _).mono ?_
  rintro e w2 ⟨gt, rfl, hT, b2⟩
  replace bel := bel.trans (b2.mono bel.size)
  clear b2
  replace hT := hT.lo_mono HLO_
  clear HLO_
  go_wp2_with fail
  with_reducible refine (addr_k 3 _).mono ?_
  rintro e w3 ⟨rfl, b3⟩
  replace hT := hT.below b3
  replace bel := bel.trans (b3.mono bel.size)
  clear b3
  go_wp2_with (first | ((with_reducible show wpList _ _ _ (⟨some 22, _, _, _, _, _⟩ :: _) _ _); refine wpList_lit_n rfl 42 5 1 _ rfl #[.int .u8 120] (.int .u8 0) Try.underlying42 (by kernel_rfl) 1 (by kernel_rfl) (by decide) (by kernel_rfl) ?_; intro g22 w4 ge lt hh bb; have hl : w4.heap[g22]? = some (.cells (([120] : List UInt8).map u8v).toArray 5 (0, 0)) := (by simpa [u8v, byteOf_val] using hh); have s22w := own_lit (B := w3.heap.size) ([120]) hl ge 1 rfl (by simp [maxLen]); have s22 := (own_sl s22w).1; have s22lo := bel.size; clear hl; have s22ge := ge; have lz_s22 := bb.size; have ob22 := Nat.le_trans bel.size ge; replace hT := hT.below bb; replace bel := bel.trans (bb.mono bel.size); have hb22 := hh; clear hh lt ge bb) | ((with_reducible show wpList _ _ _ (⟨some 23, _, _, _, _, _⟩ :: _) _ _); refine wpList_mark_n rfl 42 5 (.tmp 22) rfl Try.underlying42 Try.underlying5 g22 #[.int .u8 120] _ _ rfl hb22 ?_; intro w5 hq gr; replace lz_s22 := Nat.le_trans lz_s22 gr.size; replace hT := hT.kt (kt_grown gr hb22 (by simp) : Kt [5] _ _) (by decide) (by decide); replace bel := below_grown bel gr ob22 bel.size; clear hb22; have hb22 := hq; clear hq gr; replace s22 : Sl w5 (some ⟨g22, 0, none⟩) 1 1 ([120]) := sl_lit ([120]) hb22 rfl (by simp [maxLen]); clear s22w lz_s22; have sb23 : Sb w5 (some ⟨g22, 0, none⟩) 1 1 ([120]) := Sb.lit hb22 rfl (by simp [maxLen]); clear hb22))
  have cc : Calls Try.prog 11 #[.pointer (some ⟨gt, 0, none⟩), .agg #[.int .u8 10, .int .u8 0, .int .u8 0, .int .u8 ((byteOf 3).toNat : Int)], .slice (some ⟨g22, 0, none⟩) 1 1, .int .i64 0] w5 (fun e w' => ∃ A1 c1, e = .returned (.agg #[.int .u8 0, .int .u8 0, .int .u8 0, .int .u8 0, .int .u8 0, .int .u8 0, .bool false, .bool true]) ∧ Tb w.heap.size gt w' 100 0 [⟨⟨10, 0, 0, byteOf 3⟩, 0, false, Mc6.zero, 1, A1, 1, c1⟩] ∧ Pk w.heap.size w' A1 1 c1 [[120]] ∧ Kt [49, 52] w5 w' ∧ Below w.heap.size w5 w') := want_new (y := ⟨10, 0, 0, byteOf 3⟩) (t := 0) (lb := [120]) _ hT sb23 (by decide) rfl
  with_reducible refine (cc).mono ?_
  rintro e w6 ⟨A1, c1, rfl, hT_, pk_, k_, bb⟩
  clear cc
  clear s22
  clear hT
  have hT := hT_
  replace bel := bel.trans bb
  clear bb k_ hT_
  clear pk_
  go_wp2_with fail
  go_loopg [5, 6] (K + 1 - 1) (fun gk s5 s6 wr => ∃ i : Nat, gk = K + 1 - i ∧ 1 ≤ i ∧ i ≤ K + 1 ∧ Tb w.heap.size gt wr 100 ((i : Int) - 1) (askT A1 c1 i) ∧ s5 = .int .i64 (askN i) ∧ s6 = .int .i64 (i : Int) ∧ Below w.heap.size w wr)
  case atStart => exact ⟨1, rfl, Nat.le_refl _, by omega, (show Tb w.heap.size gt _ 100 (((1 : Nat) : Int) - 1) (askT A1 c1 1) from hT), rfl, rfl, bel⟩
  case round =>
    clear hT bel
    obtain ⟨i, HGK, hi, hiK, hT, rfl, rfl, bel⟩ := hrel
    have HGK_ := Lib.hid HGK
    clear HGK
    by_cases h : i ≤ K
    · have i0 : (0 : Int) ≤ i := by omega
      have i1 : (i : Int) ≤ 1000 := by omega
      have HAD := Lib.hid (adv_next i hi (by omega))
      go_wp2_with fail
      with_reducible refine (tick_any (t := (i : Int)) _ hT).mono ?_
      rintro e w7 ⟨A2, c2, rfl, hT_, k_, bb⟩
      clear hT
      have hT := hT_
      replace bel := bel.trans bb
      clear bb k_ hT_
      have ht_ := ask_tick A1 c1 i hi
      rw [HAD.out] at hT
      rw [HAD.out]
      rw [ht_.1] at hT
      obtain ⟨q, hq⟩ : ∃ q, (((askT A1 c1 i).filter (keepB 100 (i : Int))).filter (dueB (i : Int))).length = q := ⟨_, rfl⟩
      rw [hq]
      have hqq := ht_.2
      rw [hq] at hqq
      have hb0 := askN_le i
      have hb1 := askN_le (i + 1)
      have HQ : Hid (askN i + (q : Int) = askN (i + 1)) := Lib.hid (by omega)
      have a0 := hb0.1
      have a1 := hb0.2
      have q0 : (0 : Int) ≤ q := by omega
      have q1 : (q : Int) ≤ 10 := by omega
      clear ht_ hq hqq hb0 hb1
      go_wp2_with fail
      go_roundg (K + 1 - (i + 1))
      case measure => have := HGK_.out; omega
      case rel => exact ⟨i + 1, rfl, by omega, by omega, (show Tb w.heap.size gt _ 100 (((i + 1 : Nat) : Int) - 1) (askT A1 c1 (i + 1)) from (by rw [show ((i + 1 : Nat) : Int) - 1 = (i : Int) by omega]; exact hT)), by rw [HQ.out], by go_num, bel⟩
    obtain rfl : i = K + 1 := by omega
    replace h : decide (K + 1 ≤ K) = false := decide_eq_false (by omega)
    have hk2 : decide (((K + 1 : Nat) : Int) ≤ (K : Int)) = false := decide_eq_false (by omega)
    by_cases h3 : 3 ≤ K
    · have hL : askT A1 c1 (K + 1) = [] := by unfold askT; rw [if_neg (by omega)]
      rw [hL] at hT
      have haN : askN (K + 1) = 3 := by unfold askN; rw [if_neg (by omega)]
      have h3i : (3 : Int) ≤ K := by omega
      clear hL
      go_wp2_with fail
      with_reducible refine (addr_k 3 _).mono ?_
      rintro e w7 ⟨rfl, b7⟩
      replace hT := hT.below b7
      replace bel := bel.trans (b7.mono bel.size)
      clear b7
      go_wp2_with fail
      have cc : Calls Try.prog 10 #[.pointer (some ⟨gt, 0, none⟩), .agg #[.int .u8 10, .int .u8 0, .int .u8 0, .int .u8 ((byteOf 3).toNat : Int)], .agg #[.int .u8 2, .int .u8 0, .int .u8 0, .int .u8 0, .int .u8 0, .int .u8 0], .int .i64 (K : Int), .bool false] w7 (fun e w' => e = .returned (.slice none 0 0) ∧ Tb w.heap.size gt w' 100 (adv (((K + 1 : Nat) : Int) - 1) (K : Int)) [] ∧ Kt [49, 52] w7 w' ∧ Below w.heap.size w7 w') := learn_skip (y := ⟨10, 0, 0, byteOf 3⟩) (m := ⟨2, 0, 0, 0, 0, 0⟩) (t := (K : Int)) _ hT rfl
      with_reducible refine (cc).mono ?_
      rintro e w8 ⟨rfl, hT_, k_, bb⟩
      clear cc
      clear hT
      have hT := hT_
      replace bel := bel.trans bb
      clear bb k_ hT_
      go_wp2_with fail
      with_reducible refine (tlen _ hT).mono ?_
      rintro e _ ⟨rfl, rfl⟩
      go_wp2_with fail
      go_ret
      exact ⟨rfl, bel⟩
    have hL : askT A1 c1 (K + 1) = [⟨⟨10, 0, 0, byteOf 3⟩, (K : Int), false, Mc6.zero, (K : Int) + 1, A1, 1, c1⟩] := by unfold askT; rw [if_pos (by omega)]; simp only [Int.natCast_add, Int.natCast_one, Int.add_sub_cancel]
    rw [hL] at hT
    have haN : askN (K + 1) = 1 + (K : Int) := by unfold askN; rw [if_pos (by omega)]; omega
    have h3i : decide ((3 : Int) ≤ K) = false := decide_eq_false (by omega)
    clear hL
    go_wp2_with fail
    with_reducible refine (addr_k 3 _).mono ?_
    rintro e w7 ⟨rfl, b7⟩
    replace hT := hT.below b7
    replace bel := bel.trans (b7.mono bel.size)
    clear b7
    go_wp2_with fail
    have cc : Calls Try.prog 10 #[.pointer (some ⟨gt, 0, none⟩), .agg #[.int .u8 10, .int .u8 0, .int .u8 0, .int .u8 ((byteOf 3).toNat : Int)], .agg #[.int .u8 2, .int .u8 0, .int .u8 0, .int .u8 0, .int .u8 0, .int .u8 0], .int .i64 (K : Int), .bool false] w7 (fun e w' => e = .returned (.slice A1 1 c1) ∧ Tb w.heap.size gt w' 100 (adv (((K + 1 : Nat) : Int) - 1) (K : Int)) [⟨⟨10, 0, 0, byteOf 3⟩, adv (((K + 1 : Nat) : Int) - 1) (K : Int), true, ⟨2, 0, 0, 0, 0, 0⟩, 0, none, 0, 0⟩] ∧ Kt [49, 52] w7 w' ∧ Below w.heap.size w7 w') := learn_at (kn := false) (y := ⟨10, 0, 0, byteOf 3⟩) (m := ⟨2, 0, 0, 0, 0, 0⟩) (t := (K : Int)) (i := 0) (x := ⟨⟨10, 0, 0, byteOf 3⟩, (K : Int), false, Mc6.zero, (K : Int) + 1, A1, 1, c1⟩) _ hT rfl rfl
    with_reducible refine (cc).mono ?_
    rintro e w8 ⟨rfl, hT_, k_, bb⟩
    clear cc
    clear hT
    have hT := hT_
    replace bel := bel.trans bb
    clear bb k_ hT_
    go_wp2_with fail
    with_reducible refine (tlen _ hT).mono ?_
    rintro e _ ⟨rfl, rfl⟩
    go_wp2_with fail
    go_ret
    exact ⟨rfl, bel⟩
theorem kn_add (A1 : Option Addr) (c1 : Nat) : addE [⟨⟨1, 0, 0, 0⟩, 0, true, ⟨2, 0, 0, 0, 0, 0⟩, 0, none, 0, 0⟩] ⟨⟨2, 0, 0, 0⟩, 0, false, Mc6.zero, 1, A1, 1, c1⟩ = ([⟨⟨1, 0, 0, 0⟩, 0, true, ⟨2, 0, 0, 0, 0, 0⟩, 0, none, 0, 0⟩, ⟨⟨2, 0, 0, 0⟩, 0, false, Mc6.zero, 1, A1, 1, c1⟩], true) := by kernel_rfl
theorem kn_no2 : fhas [⟨⟨1, 0, 0, 0⟩, 0, true, ⟨2, 0, 0, 0, 0, 0⟩, 0, none, 0, 0⟩] (Ad4.num ⟨2, 0, 0, 0⟩) = false := by kernel_rfl
theorem kn_no9 : fhas [⟨⟨1, 0, 0, 0⟩, 0, true, ⟨2, 0, 0, 0, 0, 0⟩, 0, none, 0, 0⟩] (Ad4.num ⟨9, 0, 0, 0⟩) = false := by kernel_rfl
set_option linter.unusedVariables false in
set_option linter.unusedSimpArgs false in
set_option maxRecDepth 100000 in
set_option maxHeartbeats 16000000 in
theorem nearKnown_walk (w : World) : Calls Try.prog 3 #[] w fun e w' => e = .returned (.bool true) ∧ Below w.heap.size w w' := by
  have bel := Below.refl w.heap.size w
  go_enter Try.func3, Try.ntmps3
  go_wp2_with fail
  with_reducible refine (awake_any _).mono ?_
  rintro e w1 ⟨rfl, b1⟩
  replace bel := bel.trans (b1.mono bel.size)
  clear b1
  go_wp2_with fail
  with_reducible refine (new_zero _).mono ?_
  rintro e w2 ⟨rfl, b2⟩
  replace bel := bel.trans (b2.mono bel.size)
  clear b2
  go_wp2_with fail
  have HLO_ := bel.size
  with_reducible refine (tnew 10 (by decide) (by decide) _).mono ?_
  rintro e w3 ⟨gt, rfl, hT, b3⟩
  replace bel := bel.trans (b3.mono bel.size)
  clear b3
  replace hT := hT.lo_mono HLO_
  clear HLO_
  go_wp2_with fail
  have cc : Calls Try.prog 10 #[.pointer (some ⟨gt, 0, none⟩), .agg #[.int .u8 1, .int .u8 0, .int .u8 0, .int .u8 0], .agg #[.int .u8 2, .int .u8 0, .int .u8 0, .int .u8 0, .int .u8 0, .int .u8 0], .int .i64 0, .bool true] w3 (fun e w' => e = .returned (.slice none 0 0) ∧ Tb w.heap.size gt w' 10 0 [⟨⟨1, 0, 0, 0⟩, 0, true, ⟨2, 0, 0, 0, 0, 0⟩, 0, none, 0, 0⟩] ∧ Kt [49, 52] w3 w' ∧ Below w.heap.size w3 w') := learn_new (y := ⟨1, 0, 0, 0⟩) (m := ⟨2, 0, 0, 0, 0, 0⟩) (t := 0) _ hT rfl
  with_reducible refine (cc).mono ?_
  rintro e w4 ⟨rfl, hT_, k_, bb⟩
  clear cc
  clear hT
  have hT := hT_
  replace bel := bel.trans bb
  clear bb k_ hT_
  go_wp2_with fail
  have cc : Calls Try.prog 11 #[.pointer (some ⟨gt, 0, none⟩), .agg #[.int .u8 2, .int .u8 0, .int .u8 0, .int .u8 0], .slice none 0 0, .int .i64 0] w4 (fun e w' => ∃ A1 c1, e = .returned (.agg #[.int .u8 0, .int .u8 0, .int .u8 0, .int .u8 0, .int .u8 0, .int .u8 0, .bool false, .bool true]) ∧ Tb w.heap.size gt w' 10 0 [⟨⟨1, 0, 0, 0⟩, 0, true, ⟨2, 0, 0, 0, 0, 0⟩, 0, none, 0, 0⟩, ⟨⟨2, 0, 0, 0⟩, 0, false, Mc6.zero, 1, A1, 1, c1⟩] ∧ Pk w.heap.size w' A1 1 c1 [[]] ∧ Kt [49, 52] w4 w' ∧ Below w.heap.size w4 w') := by have h_ := want_new (y := ⟨2, 0, 0, 0⟩) (t := 0) (lb := []) w4 hT (Sb.nil _) (by decide) kn_no2; simp only [adv_00, kn_add] at h_; exact h_
  with_reducible refine (cc).mono ?_
  rintro e w5 ⟨A1, c1, rfl, hT_, pk_, k_, bb⟩
  clear cc
  clear hT
  have hT := hT_
  replace bel := bel.trans bb
  clear bb k_ hT_
  clear pk_
  go_wp2_with fail
  have cc : Calls Try.prog 12 #[.pointer (some ⟨gt, 0, none⟩), .int .i64 0] w5 (fun e w' => ∃ A2 c2, e = .returned (.slice A2 0 c2) ∧ Tb w.heap.size gt w' 10 0 [⟨⟨1, 0, 0, 0⟩, 0, true, ⟨2, 0, 0, 0, 0, 0⟩, 0, none, 0, 0⟩, ⟨⟨2, 0, 0, 0⟩, 0, false, Mc6.zero, 1, A1, 1, c1⟩] ∧ Kt [49, 52, 42, 30] w5 w' ∧ Below w.heap.size w5 w') := tick_any (t := 0) _ hT
  with_reducible refine (cc).mono ?_
  rintro e w6 ⟨A_0, c_0, rfl, hT_, k_, bb⟩
  clear cc
  clear hT
  have hT := hT_
  replace bel := bel.trans bb
  clear bb k_ hT_
  go_wp2_with fail
  have cc : Calls Try.prog 12 #[.pointer (some ⟨gt, 0, none⟩), .int .i64 1] w6 (fun e w' => ∃ A2 c2, e = .returned (.slice A2 1 c2) ∧ Tb w.heap.size gt w' 10 1 [⟨⟨1, 0, 0, 0⟩, 0, true, ⟨2, 0, 0, 0, 0, 0⟩, 0, none, 0, 0⟩, ⟨⟨2, 0, 0, 0⟩, 1, false, Mc6.zero, 2, A1, 1, c1⟩] ∧ Kt [49, 52, 42, 30] w6 w' ∧ Below w.heap.size w6 w') := tick_any (t := 1) _ hT
  with_reducible refine (cc).mono ?_
  rintro e w7 ⟨A_1, c_1, rfl, hT_, k_, bb⟩
  clear cc
  clear hT
  have hT := hT_
  replace bel := bel.trans bb
  clear bb k_ hT_
  go_wp2_with fail
  have cc : Calls Try.prog 12 #[.pointer (some ⟨gt, 0, none⟩), .int .i64 2] w7 (fun e w' => ∃ A2 c2, e = .returned (.slice A2 1 c2) ∧ Tb w.heap.size gt w' 10 2 [⟨⟨1, 0, 0, 0⟩, 0, true, ⟨2, 0, 0, 0, 0, 0⟩, 0, none, 0, 0⟩, ⟨⟨2, 0, 0, 0⟩, 2, false, Mc6.zero, 3, A1, 1, c1⟩] ∧ Kt [49, 52, 42, 30] w7 w' ∧ Below w.heap.size w7 w') := tick_any (t := 2) _ hT
  with_reducible refine (cc).mono ?_
  rintro e w8 ⟨A_2, c_2, rfl, hT_, k_, bb⟩
  clear cc
  clear hT
  have hT := hT_
  replace bel := bel.trans bb
  clear bb k_ hT_
  go_wp2_with fail
  have cc : Calls Try.prog 12 #[.pointer (some ⟨gt, 0, none⟩), .int .i64 3] w8 (fun e w' => ∃ A2 c2, e = .returned (.slice A2 0 c2) ∧ Tb w.heap.size gt w' 10 3 [⟨⟨1, 0, 0, 0⟩, 0, true, ⟨2, 0, 0, 0, 0, 0⟩, 0, none, 0, 0⟩] ∧ Kt [49, 52, 42, 30] w8 w' ∧ Below w.heap.size w8 w') := tick_any (t := 3) _ hT
  with_reducible refine (cc).mono ?_
  rintro e w9 ⟨A_3, c_3, rfl, hT_, k_, bb⟩
  clear cc
  clear hT
  have hT := hT_
  replace bel := bel.trans bb
  clear bb k_ hT_
  go_wp2_with fail
  have cc : Calls Try.prog 13 #[.pointer (some ⟨gt, 0, none⟩), .agg #[.int .u8 1, .int .u8 0, .int .u8 0, .int .u8 0], .int .i64 9] w9 (fun e w' => e = .returned (.tuple #[.agg #[.int .u8 2, .int .u8 0, .int .u8 0, .int .u8 0, .int .u8 0, .int .u8 0], .bool true]) ∧ Tb w.heap.size gt w' 10 9 [⟨⟨1, 0, 0, 0⟩, 0, true, ⟨2, 0, 0, 0, 0, 0⟩, 0, none, 0, 0⟩] ∧ Kt [49, 52] w9 w' ∧ Below w.heap.size w9 w') := mac_at (y := ⟨1, 0, 0, 0⟩) (t := 9) (i := 0) (x := ⟨⟨1, 0, 0, 0⟩, 0, true, ⟨2, 0, 0, 0, 0, 0⟩, 0, none, 0, 0⟩) _ hT rfl rfl rfl rfl
  with_reducible refine (cc).mono ?_
  rintro e w10 ⟨rfl, hT_, k_, bb⟩
  clear cc
  clear hT
  have hT := hT_
  replace bel := bel.trans bb
  clear bb k_ hT_
  go_wp2_with (first | ((with_reducible show wpList _ _ _ (⟨some 9, _, _, _, _, _⟩ :: _) _ _); refine wpList_new_a rfl 32 rfl #[.int .u8 0, .int .u8 0, .int .u8 0, .int .u8 0, .int .u8 0, .int .u8 0] (by kernel_rfl) ?_; intro g9 w11 ge hh bb; have oxb := Nat.le_trans bel.size ge; replace hT := hT.below bb; replace bel := bel.trans (bb.mono bel.size); have hxb := hh; clear hh ge bb) | ((with_reducible show wpList _ _ _ (⟨none, Op.store _ (.tmp 9) _, _, _, _, _⟩ :: _) _ _); refine wpList_store_blk rfl 32 (.tmp 9) (.tmp 43) rfl g9 rfl _ rfl _ 32 hxb (by rfl) (by kernel_rfl) (by kernel_rfl) ?_; intro w12 hq gr; replace hT := hT.kt (kt_grown gr hxb (by simp) : Kt [32] _ _) (by decide) (by decide); replace bel := below_grown bel gr oxb bel.size; clear hxb; have hxb := hq; clear hq gr))
  have cc : Calls Try.prog 13 #[.pointer (some ⟨gt, 0, none⟩), .agg #[.int .u8 1, .int .u8 0, .int .u8 0, .int .u8 0], .int .i64 10] w12 (fun e w' => e = .returned (.tuple #[.agg #[.int .u8 0, .int .u8 0, .int .u8 0, .int .u8 0, .int .u8 0, .int .u8 0], .bool false]) ∧ Tb w.heap.size gt w' 10 10 [⟨⟨1, 0, 0, 0⟩, 0, true, ⟨2, 0, 0, 0, 0, 0⟩, 0, none, 0, 0⟩] ∧ Kt [49, 52] w12 w' ∧ Below w.heap.size w12 w') := mac_old (y := ⟨1, 0, 0, 0⟩) (t := 10) (i := 0) (x := ⟨⟨1, 0, 0, 0⟩, 0, true, ⟨2, 0, 0, 0, 0, 0⟩, 0, none, 0, 0⟩) _ hT rfl rfl rfl rfl
  with_reducible refine (cc).mono ?_
  rintro e w13 ⟨rfl, hT_, k_, bb⟩
  clear cc
  replace hxb := Kt.blk k_ hxb (by decide)
  clear hT
  have hT := hT_
  replace bel := bel.trans bb
  clear bb k_ hT_
  go_wp2_with (first | ((with_reducible show wpList _ _ _ (⟨some 11, _, _, _, _, _⟩ :: _) _ _); refine wpList_new_a rfl 32 rfl #[.int .u8 0, .int .u8 0, .int .u8 0, .int .u8 0, .int .u8 0, .int .u8 0] (by kernel_rfl) ?_; intro g11 w14 ge hh bb; have d_xb_yb := ne_new (hlt hxb) ge; have oyb := Nat.le_trans bel.size ge; replace hxb := blk_u hxb bb; replace hT := hT.below bb; replace bel := bel.trans (bb.mono bel.size); have hyb := hh; clear hh ge bb) | ((with_reducible show wpList _ _ _ (⟨none, Op.store _ (.tmp 11) _, _, _, _, _⟩ :: _) _ _); refine wpList_store_blk rfl 32 (.tmp 11) (.tmp 49) rfl g11 rfl _ rfl _ 32 hyb (by rfl) (by kernel_rfl) (by kernel_rfl) ?_; intro w15 hq gr; replace hxb := blk_a hxb gr d_xb_yb; replace hT := hT.kt (kt_grown gr hyb (by simp) : Kt [32] _ _) (by decide) (by decide); replace bel := below_grown bel gr oyb bel.size; clear hyb; have hyb := hq; clear hq gr))
  have cc : Calls Try.prog 10 #[.pointer (some ⟨gt, 0, none⟩), .agg #[.int .u8 9, .int .u8 0, .int .u8 0, .int .u8 0], .agg #[.int .u8 2, .int .u8 0, .int .u8 0, .int .u8 0, .int .u8 0, .int .u8 0], .int .i64 10, .bool false] w15 (fun e w' => e = .returned (.slice none 0 0) ∧ Tb w.heap.size gt w' 10 10 [⟨⟨1, 0, 0, 0⟩, 0, true, ⟨2, 0, 0, 0, 0, 0⟩, 0, none, 0, 0⟩] ∧ Kt [49, 52] w15 w' ∧ Below w.heap.size w15 w') := learn_skip (y := ⟨9, 0, 0, 0⟩) (m := ⟨2, 0, 0, 0, 0, 0⟩) (t := 10) _ hT kn_no9
  with_reducible refine (cc).mono ?_
  rintro e w16 ⟨rfl, hT_, k_, bb⟩
  clear cc
  replace hxb := Kt.blk k_ hxb (by decide)
  replace hyb := Kt.blk k_ hyb (by decide)
  clear hT
  have hT := hT_
  replace bel := bel.trans bb
  clear bb k_ hT_
  go_wp2_with fail
  with_reducible refine (tlen _ hT).mono ?_
  rintro e _ ⟨rfl, rfl⟩
  go_wp2_with fail
  go_ret
  exact ⟨rfl, bel⟩
end Go.Proofs.Ytfghmckeogajnaa
