/- NearMost. -/
import Derived.Test.YtfghmckeogajnaaLaw11d
namespace Go.Proofs.Ytfghmckeogajnaa
open Go.RowKit

set_option linter.unusedVariables false in
set_option linter.unusedSimpArgs false in
set_option maxRecDepth 100000 in
set_option maxHeartbeats 16000000 in
theorem nearMost_walk (n q : Int) (w : World) : Calls Try.prog 5 #[.int .i64 n, .int .i64 q] w fun e w' => e = .returned (.bool true) ∧ Below w.heap.size w w' := by
  have bel := Below.refl w.heap.size w
  go_enter Try.func5, Try.ntmps5
  go_wp2_with fail
  with_reducible refine (awake_any _).mono ?_
  rintro e w1 ⟨rfl, b1⟩
  replace bel := bel.trans (b1.mono bel.size)
  clear b1
  by_cases c1 : n < 0
  · go_wp2_with fail
    go_ret
    exact ⟨rfl, bel⟩
  have Hc1 : Hid (0 ≤ n) := Lib.hid (by omega)
  replace c1 : decide (n < 0) = false := decide_eq_false c1
  by_cases c2 : 100 < n
  · go_wp2_with fail
    go_ret
    exact ⟨rfl, bel⟩
  have Hc2 : Hid (n ≤ 100) := Lib.hid (by omega)
  replace c2 : decide (100 < n) = false := decide_eq_false c2
  by_cases c3 : q < 0
  · go_wp2_with fail
    go_ret
    exact ⟨rfl, bel⟩
  have Hc3 : Hid (0 ≤ q) := Lib.hid (by omega)
  replace c3 : decide (q < 0) = false := decide_eq_false c3
  by_cases c4 : 40 < q
  · go_wp2_with fail
    go_ret
    exact ⟨rfl, bel⟩
  have Hc4 : Hid (q ≤ 40) := Lib.hid (by omega)
  replace c4 : decide (40 < q) = false := decide_eq_false c4
  have kk := Hc1.out
  have kk2 := Hc2.out
  have kk3 := Hc3.out
  have kk4 := Hc4.out
  obtain ⟨P, rfl⟩ : ∃ P : Nat, n = (P : Int) := ⟨n.toNat, by omega⟩
  obtain ⟨Q, rfl⟩ : ∃ Q : Nat, q = (Q : Int) := ⟨q.toNat, by omega⟩
  have P0 : (0 : Int) ≤ P := by omega
  have P1 : (P : Int) ≤ 100 := by omega
  have Q0 : (0 : Int) ≤ Q := by omega
  have Q1 : (Q : Int) ≤ 40 := by omega
  have HP : Hid (P ≤ 100) := Lib.hid (by omega)
  go_wp2_with fail
  have HLO_ := bel.size
  with_reducible refine (tnew 1000 (by decide) (by decide) _).mono ?_
  rintro e w2 ⟨gt, rfl, hT, b2⟩
  replace bel := bel.trans (b2.mono bel.size)
  clear b2
  replace hT := hT.lo_mono HLO_
  clear HLO_
  go_wp2_with fail
  go_loopg [7] (Q) (fun gk s7 wr => ∃ i : Nat, ∃ l : List En, gk = Q - i ∧ i ≤ Q ∧ NS 0 (min i 32) 0 l ∧ Tb w.heap.size gt wr 1000 0 l ∧ s7 = .int .i64 (i : Int) ∧ Below w.heap.size w wr)
  case atStart => exact ⟨0, [], rfl, Nat.zero_le _, NS.nil 0, hT, rfl, bel⟩
  case round =>
    clear hT bel
    obtain ⟨i, l, HGK, hiQ, hNS, hT, rfl, bel⟩ := hrel
    have HGK_ := Lib.hid HGK
    clear HGK
    by_cases h : (i : Int) < Q
    · have i0 : (0 : Int) ≤ i := by omega
      have i1 : (i : Int) ≤ 40 := by omega
      have hi39 : i < 40 := by omega
      have hw1 : IntKind.i64.wrap (100 + (i : Int)) = 100 + i := IntWalk.i64_in _ (by omega)
      by_cases h32 : (i : Int) < 32
      · have hb : decide (i < 32) = true := decide_eq_true (by omega)
        go_wp2_with fail
        with_reducible refine (addr_k (100 + (i : Int)) _).mono ?_
        rintro e w3 ⟨rfl, b3⟩
        replace hT := hT.below b3
        replace bel := bel.trans (b3.mono bel.size)
        clear b3
        go_wp2_with fail
        with_reducible refine (want_most _ hT hNS hi39 hb).mono ?_
        rintro e w4 ⟨l1, rfl, hT_, k_, bb, hN1⟩
        clear hT
        have hT := hT_
        replace bel := bel.trans bb
        clear bb k_ hT_
        clear hNS hb
        have r42 : ∀ W, (Instr.field 34 (.agg #[.int .u8 0, .int .u8 0, .int .u8 0, .int .u8 0, .int .u8 0, .int .u8 0, .bool false, .bool true]) 2).run Try.prog W = .ok (.bool true) W := fun W => by kernel_rfl
        go_wp2_with fail
        go_roundg (Q - (i + 1))
        case measure => have := HGK_.out; omega
        case rel => exact ⟨i + 1, l1, rfl, by omega, hN1, (show Tb w.heap.size gt _ 1000 0 l1 from hT), by go_num, bel⟩
      have hb : decide (i < 32) = false := decide_eq_false (by omega)
      have hb2 : decide (i < 32) = false := decide_eq_false (by omega)
      replace h32 : decide ((i : Int) < 32) = false := decide_eq_false h32
      go_wp2_with fail
      with_reducible refine (addr_k (100 + (i : Int)) _).mono ?_
      rintro e w3 ⟨rfl, b3⟩
      replace hT := hT.below b3
      replace bel := bel.trans (b3.mono bel.size)
      clear b3
      go_wp2_with fail
      with_reducible refine (want_most _ hT hNS hi39 hb).mono ?_
      rintro e w4 ⟨l1, rfl, hT_, k_, bb, hN1⟩
      clear hT
      have hT := hT_
      replace bel := bel.trans bb
      clear bb k_ hT_
      clear hNS hb
      have r42 : ∀ W, (Instr.field 34 (.agg #[.int .u8 0, .int .u8 0, .int .u8 0, .int .u8 0, .int .u8 0, .int .u8 0, .bool false, .bool false]) 2).run Try.prog W = .ok (.bool false) W := fun W => by kernel_rfl
      go_wp2_with fail
      go_roundg (Q - (i + 1))
      case measure => have := HGK_.out; omega
      case rel => exact ⟨i + 1, l1, rfl, by omega, hN1, (show Tb w.heap.size gt _ 1000 0 l1 from hT), by go_num, bel⟩
    by_cases h5 : (32 : Int) < Q
    · have hiQ2 : i = Q := by omega
      have hN_ : decide (i < Q) = false := decide_eq_false (by omega)
      replace h : decide ((i : Int) < Q) = false := decide_eq_false h
      rw [hiQ2, show min Q 32 = 32 by omega] at hNS
      have HKn : Hid (32 ≤ 32) := Lib.hid (by omega)
      clear hiQ2
      go_wp2_with fail
      go_loopg [8] (P) (fun gk s8 wr => ∃ i2 : Nat, ∃ nw : Int, ∃ l : List En, gk = P - i2 ∧ i2 ≤ P ∧ nw ≤ (i2 : Int) ∧ NS (min i2 (32 - 32)) 32 (i2 - (32 - 32)) l ∧ Tb w.heap.size gt wr 1000 nw l ∧ s8 = .int .i64 (i2 : Int) ∧ Below w.heap.size w wr)
      case atStart => exact ⟨0, 0, l, rfl, Nat.zero_le _, by decide, (by rw [Nat.zero_min, Nat.zero_sub]; exact hNS), hT, rfl, bel⟩
      case round =>
        clear hT bel
        obtain ⟨i2, nw, l, HGK, hiP, hnw, hNS, hT, rfl, bel⟩ := hrel
        have HGK_ := Lib.hid HGK
        clear HGK
        by_cases h : (i2 : Int) < P
        · have i0 : (0 : Int) ≤ i2 := by omega
          have i1 : (i2 : Int) ≤ 100 := by omega
          have hi99 : i2 < 100 := by omega
          go_wp2_with fail
          with_reducible refine (addr_k (i2 : Int) _).mono ?_
          rintro e w3 ⟨rfl, b3⟩
          replace hT := hT.below b3
          replace bel := bel.trans (b3.mono bel.size)
          clear b3
          go_wp2_with fail
          with_reducible refine (learn_most _ hT HKn.out hi99 hnw hNS).mono ?_
          rintro e w4 ⟨l1, rfl, hT_, k_, bb, hN1⟩
          clear hT
          have hT := hT_
          replace bel := bel.trans bb
          clear bb k_ hT_
          clear hNS
          go_wp2_with fail
          go_roundg (P - (i2 + 1))
          case measure => have := HGK_.out; omega
          case rel => exact ⟨i2 + 1, (i2 : Int), l1, rfl, by omega, by omega, hN1, hT, by go_num, bel⟩
        have hI2 : i2 = P := by omega
        have hN_ : decide (i2 < P) = false := decide_eq_false (by omega)
        replace h : decide ((i2 : Int) < P) = false := decide_eq_false h
        rw [hI2] at hNS hnw
        clear hI2
        go_wp2_with fail
        go_loopg [9] (P) (fun gk s9 wr => ∃ i3 : Nat, ∃ nw : Int, gk = P - i3 ∧ i3 ≤ P ∧ nw ≤ (P : Int) ∧ Tb w.heap.size gt wr 1000 nw l ∧ s9 = .int .i64 (i3 : Int) ∧ Below w.heap.size w wr)
        case atStart => exact ⟨0, nw, rfl, Nat.zero_le _, by omega, hT, rfl, bel⟩
        case round =>
          clear hT bel
          obtain ⟨i3, nw, HGK, hiP3, hnw, hT, rfl, bel⟩ := hrel
          have HGK_ := Lib.hid HGK
          clear HGK
          by_cases h : (i3 : Int) < P
          rotate_left
          · have hN_ : decide (i3 < P) = false := decide_eq_false (by omega)
            replace h : decide ((i3 : Int) < P) = false := decide_eq_false h
            have hlen := hNS.1
            have hK32 := HKn.out
            have hw5 : IntKind.i64.wrap (32 + (P : Int)) = 32 + P := IntWalk.i64_in _ (by omega)
            by_cases h6 : 32 + (P : Int) < 32
            · have hle : (l.length : Int) ≤ 32 := by omega
              clear hlen
              go_wp2_with fail
              with_reducible refine (tlen _ hT).mono ?_
              rintro e _ ⟨rfl, rfl⟩
              go_wp2_with fail
              go_ret
              exact ⟨rfl, bel⟩
            have hl32 : ((l.length : Int) == 32) = true := by simp; omega
            have hle : (l.length : Int) ≤ 32 := by omega
            clear hlen
            replace h6 : decide (32 + (P : Int) < 32) = false := decide_eq_false h6
            go_wp2_with fail
            with_reducible refine (tlen _ hT).mono ?_
            rintro e _ ⟨rfl, rfl⟩
            go_wp2_with fail
            with_reducible refine (tlen _ hT).mono ?_
            rintro e _ ⟨rfl, rfl⟩
            go_wp2_with fail
            go_ret
            exact ⟨rfl, bel⟩
          have i0 : (0 : Int) ≤ i3 := by omega
          have i1 : (i3 : Int) ≤ 100 := by omega
          have hi3 : i3 < P := by omega
          by_cases hs : (P : Int) ≤ (i3 : Int)
          · have hb : decide (P - (32 - 32) ≤ i3) = true := decide_eq_true (by omega)
            go_wp2_with fail
            with_reducible refine (addr_k (i3 : Int) _).mono ?_
            rintro e w3 ⟨rfl, b3⟩
            replace hT := hT.below b3
            replace bel := bel.trans (b3.mono bel.size)
            clear b3
            go_wp2_with fail
            with_reducible refine (mac_most _ hT HKn.out hi3 HP.out hnw hNS hb).mono ?_
            rintro e w4 ⟨mv, rfl, hT_, k_, bb⟩
            clear hT
            have hT := hT_
            replace bel := bel.trans bb
            clear bb k_ hT_
            clear hb
            go_wp2_with (first | ((with_reducible show wpList _ _ _ (⟨some 10, _, _, _, _, _⟩ :: _) _ _); refine wpList_new_a rfl 32 rfl #[.int .u8 0, .int .u8 0, .int .u8 0, .int .u8 0, .int .u8 0, .int .u8 0] (by kernel_rfl) ?_; intro g10 w5 ge hh bb; have omb := Nat.le_trans bel.size ge; replace hT := hT.below bb; replace bel := bel.trans (bb.mono bel.size); have hmb := hh; clear hh ge bb) | ((with_reducible show wpList _ _ _ (⟨none, Op.store _ (.tmp 10) _, _, _, _, _⟩ :: _) _ _); refine wpList_store_blk rfl 32 (.tmp 10) (.tmp 72) rfl g10 rfl _ rfl _ 32 hmb (by rfl) (by kernel_rfl) (by kernel_rfl) ?_; intro w6 hq gr; replace hT := hT.kt (kt_grown gr hmb (by simp) : Kt [32] _ _) (by decide) (by decide); replace bel := below_grown bel gr omb bel.size; clear hmb; have hmb := hq; clear hq gr))
            go_roundg (P - (i3 + 1))
            case measure => have := HGK_.out; omega
            case rel => exact ⟨i3 + 1, (P : Int), rfl, by omega, by omega, hT, by go_num, bel⟩
          have hb : decide (P - (32 - 32) ≤ i3) = false := decide_eq_false (by omega)
          replace hs : decide ((P : Int) ≤ (i3 : Int)) = false := decide_eq_false hs
          have hsN : decide (P ≤ i3) = false := decide_eq_false (by omega)
          go_wp2_with fail
          with_reducible refine (addr_k (i3 : Int) _).mono ?_
          rintro e w3 ⟨rfl, b3⟩
          replace hT := hT.below b3
          replace bel := bel.trans (b3.mono bel.size)
          clear b3
          go_wp2_with fail
          with_reducible refine (mac_most _ hT HKn.out hi3 HP.out hnw hNS hb).mono ?_
          rintro e w4 ⟨mv, rfl, hT_, k_, bb⟩
          clear hT
          have hT := hT_
          replace bel := bel.trans bb
          clear bb k_ hT_
          clear hb
          go_wp2_with (first | ((with_reducible show wpList _ _ _ (⟨some 10, _, _, _, _, _⟩ :: _) _ _); refine wpList_new_a rfl 32 rfl #[.int .u8 0, .int .u8 0, .int .u8 0, .int .u8 0, .int .u8 0, .int .u8 0] (by kernel_rfl) ?_; intro g10 w5 ge hh bb; have omb := Nat.le_trans bel.size ge; replace hT := hT.below bb; replace bel := bel.trans (bb.mono bel.size); have hmb := hh; clear hh ge bb) | ((with_reducible show wpList _ _ _ (⟨none, Op.store _ (.tmp 10) _, _, _, _, _⟩ :: _) _ _); refine wpList_store_blk rfl 32 (.tmp 10) (.tmp 72) rfl g10 rfl _ rfl _ 32 hmb (by rfl) (by kernel_rfl) (by kernel_rfl) ?_; intro w6 hq gr; replace hT := hT.kt (kt_grown gr hmb (by simp) : Kt [32] _ _) (by decide) (by decide); replace bel := below_grown bel gr omb bel.size; clear hmb; have hmb := hq; clear hq gr))
          go_roundg (P - (i3 + 1))
          case measure => have := HGK_.out; omega
          case rel => exact ⟨i3 + 1, (P : Int), rfl, by omega, by omega, hT, by go_num, bel⟩
    have hiQ2 : i = Q := by omega
    have hN_ : decide (i < Q) = false := decide_eq_false (by omega)
    replace h : decide ((i : Int) < Q) = false := decide_eq_false h
    rw [hiQ2, show min Q 32 = Q by omega] at hNS
    have HKn : Hid (Q ≤ 32) := Lib.hid (by omega)
    clear hiQ2
    replace h5 : decide ((32 : Int) < Q) = false := decide_eq_false h5
    go_wp2_with fail
    go_loopg [8] (P) (fun gk s8 wr => ∃ i2 : Nat, ∃ nw : Int, ∃ l : List En, gk = P - i2 ∧ i2 ≤ P ∧ nw ≤ (i2 : Int) ∧ NS (min i2 (32 - Q)) Q (i2 - (32 - Q)) l ∧ Tb w.heap.size gt wr 1000 nw l ∧ s8 = .int .i64 (i2 : Int) ∧ Below w.heap.size w wr)
    case atStart => exact ⟨0, 0, l, rfl, Nat.zero_le _, by decide, (by rw [Nat.zero_min, Nat.zero_sub]; exact hNS), hT, rfl, bel⟩
    case round =>
      clear hT bel
      obtain ⟨i2, nw, l, HGK, hiP, hnw, hNS, hT, rfl, bel⟩ := hrel
      have HGK_ := Lib.hid HGK
      clear HGK
      by_cases h : (i2 : Int) < P
      · have i0 : (0 : Int) ≤ i2 := by omega
        have i1 : (i2 : Int) ≤ 100 := by omega
        have hi99 : i2 < 100 := by omega
        go_wp2_with fail
        with_reducible refine (addr_k (i2 : Int) _).mono ?_
        rintro e w3 ⟨rfl, b3⟩
        replace hT := hT.below b3
        replace bel := bel.trans (b3.mono bel.size)
        clear b3
        go_wp2_with fail
        with_reducible refine (learn_most _ hT HKn.out hi99 hnw hNS).mono ?_
        rintro e w4 ⟨l1, rfl, hT_, k_, bb, hN1⟩
        clear hT
        have hT := hT_
        replace bel := bel.trans bb
        clear bb k_ hT_
        clear hNS
        go_wp2_with fail
        go_roundg (P - (i2 + 1))
        case measure => have := HGK_.out; omega
        case rel => exact ⟨i2 + 1, (i2 : Int), l1, rfl, by omega, by omega, hN1, hT, by go_num, bel⟩
      have hI2 : i2 = P := by omega
      have hN_ : decide (i2 < P) = false := decide_eq_false (by omega)
      replace h : decide ((i2 : Int) < P) = false := decide_eq_false h
      rw [hI2] at hNS hnw
      clear hI2
      go_wp2_with fail
      go_loopg [9] (P) (fun gk s9 wr => ∃ i3 : Nat, ∃ nw : Int, gk = P - i3 ∧ i3 ≤ P ∧ nw ≤ (P : Int) ∧ Tb w.heap.size gt wr 1000 nw l ∧ s9 = .int .i64 (i3 : Int) ∧ Below w.heap.size w wr)
      case atStart => exact ⟨0, nw, rfl, Nat.zero_le _, by omega, hT, rfl, bel⟩
      case round =>
        clear hT bel
        obtain ⟨i3, nw, HGK, hiP3, hnw, hT, rfl, bel⟩ := hrel
        have HGK_ := Lib.hid HGK
        clear HGK
        by_cases h : (i3 : Int) < P
        rotate_left
        · have hN_ : decide (i3 < P) = false := decide_eq_false (by omega)
          replace h : decide ((i3 : Int) < P) = false := decide_eq_false h
          have hlen := hNS.1
          have hK32 := HKn.out
          have hw5 : IntKind.i64.wrap ((Q : Int) + (P : Int)) = (Q : Int) + P := IntWalk.i64_in _ (by omega)
          by_cases h6 : (Q : Int) + (P : Int) < 32
          · have hle : (l.length : Int) ≤ 32 := by omega
            clear hlen
            go_wp2_with fail
            with_reducible refine (tlen _ hT).mono ?_
            rintro e _ ⟨rfl, rfl⟩
            go_wp2_with fail
            go_ret
            exact ⟨rfl, bel⟩
          have hl32 : ((l.length : Int) == 32) = true := by simp; omega
          have hle : (l.length : Int) ≤ 32 := by omega
          clear hlen
          replace h6 : decide ((Q : Int) + (P : Int) < 32) = false := decide_eq_false h6
          go_wp2_with fail
          with_reducible refine (tlen _ hT).mono ?_
          rintro e _ ⟨rfl, rfl⟩
          go_wp2_with fail
          with_reducible refine (tlen _ hT).mono ?_
          rintro e _ ⟨rfl, rfl⟩
          go_wp2_with fail
          go_ret
          exact ⟨rfl, bel⟩
        have i0 : (0 : Int) ≤ i3 := by omega
        have i1 : (i3 : Int) ≤ 100 := by omega
        have hi3 : i3 < P := by omega
        have hw3 : IntKind.i64.wrap (32 - (Q : Int)) = 32 - (Q : Int) := IntWalk.i64_in _ (by omega)
        have hw4 : IntKind.i64.wrap ((P : Int) - (32 - (Q : Int))) = (P : Int) - (32 - (Q : Int)) := IntWalk.i64_in _ (by omega)
        by_cases hs : (P : Int) - (32 - (Q : Int)) ≤ (i3 : Int)
        · have hb : decide (P - (32 - Q) ≤ i3) = true := decide_eq_true (by omega)
          go_wp2_with fail
          with_reducible refine (addr_k (i3 : Int) _).mono ?_
          rintro e w3 ⟨rfl, b3⟩
          replace hT := hT.below b3
          replace bel := bel.trans (b3.mono bel.size)
          clear b3
          go_wp2_with fail
          with_reducible refine (mac_most _ hT HKn.out hi3 HP.out hnw hNS hb).mono ?_
          rintro e w4 ⟨mv, rfl, hT_, k_, bb⟩
          clear hT
          have hT := hT_
          replace bel := bel.trans bb
          clear bb k_ hT_
          clear hb
          go_wp2_with (first | ((with_reducible show wpList _ _ _ (⟨some 10, _, _, _, _, _⟩ :: _) _ _); refine wpList_new_a rfl 32 rfl #[.int .u8 0, .int .u8 0, .int .u8 0, .int .u8 0, .int .u8 0, .int .u8 0] (by kernel_rfl) ?_; intro g10 w5 ge hh bb; have omb := Nat.le_trans bel.size ge; replace hT := hT.below bb; replace bel := bel.trans (bb.mono bel.size); have hmb := hh; clear hh ge bb) | ((with_reducible show wpList _ _ _ (⟨none, Op.store _ (.tmp 10) _, _, _, _, _⟩ :: _) _ _); refine wpList_store_blk rfl 32 (.tmp 10) (.tmp 72) rfl g10 rfl _ rfl _ 32 hmb (by rfl) (by kernel_rfl) (by kernel_rfl) ?_; intro w6 hq gr; replace hT := hT.kt (kt_grown gr hmb (by simp) : Kt [32] _ _) (by decide) (by decide); replace bel := below_grown bel gr omb bel.size; clear hmb; have hmb := hq; clear hq gr))
          go_roundg (P - (i3 + 1))
          case measure => have := HGK_.out; omega
          case rel => exact ⟨i3 + 1, (P : Int), rfl, by omega, by omega, hT, by go_num, bel⟩
        have hb : decide (P - (32 - Q) ≤ i3) = false := decide_eq_false (by omega)
        replace hs : decide ((P : Int) - (32 - (Q : Int)) ≤ (i3 : Int)) = false := decide_eq_false hs
        go_wp2_with fail
        with_reducible refine (addr_k (i3 : Int) _).mono ?_
        rintro e w3 ⟨rfl, b3⟩
        replace hT := hT.below b3
        replace bel := bel.trans (b3.mono bel.size)
        clear b3
        go_wp2_with fail
        with_reducible refine (mac_most _ hT HKn.out hi3 HP.out hnw hNS hb).mono ?_
        rintro e w4 ⟨mv, rfl, hT_, k_, bb⟩
        clear hT
        have hT := hT_
        replace bel := bel.trans bb
        clear bb k_ hT_
        clear hb
        go_wp2_with (first | ((with_reducible show wpList _ _ _ (⟨some 10, _, _, _, _, _⟩ :: _) _ _); refine wpList_new_a rfl 32 rfl #[.int .u8 0, .int .u8 0, .int .u8 0, .int .u8 0, .int .u8 0, .int .u8 0] (by kernel_rfl) ?_; intro g10 w5 ge hh bb; have omb := Nat.le_trans bel.size ge; replace hT := hT.below bb; replace bel := bel.trans (bb.mono bel.size); have hmb := hh; clear hh ge bb) | ((with_reducible show wpList _ _ _ (⟨none, Op.store _ (.tmp 10) _, _, _, _, _⟩ :: _) _ _); refine wpList_store_blk rfl 32 (.tmp 10) (.tmp 72) rfl g10 rfl _ rfl _ 32 hmb (by rfl) (by kernel_rfl) (by kernel_rfl) ?_; intro w6 hq gr; replace hT := hT.kt (kt_grown gr hmb (by simp) : Kt [32] _ _) (by decide) (by decide); replace bel := below_grown bel gr omb bel.size; clear hmb; have hmb := hq; clear hq gr))
        go_roundg (P - (i3 + 1))
        case measure => have := HGK_.out; omega
        case rel => exact ⟨i3 + 1, (P : Int), rfl, by omega, by omega, hT, by go_num, bel⟩
end Go.Proofs.Ytfghmckeogajnaa
