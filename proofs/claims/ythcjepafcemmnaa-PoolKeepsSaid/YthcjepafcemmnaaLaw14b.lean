/- PoolBars, PoolKeeps. -/
import Derived.Test.YthcjepafcemmnaaLaw14g
namespace Go.Proofs.Ythcjepafcemmnaa
open Go.RowKit

/-- One address, barred. -/
def barF (secs : Int) : Nat → Sd := upF nilF 0 { nilF 0 with u := 0, br := secs }
theorem barF_ad (secs : Int) : AdF (barF secs) := upF_ad nilF_ad rfl
theorem bars_1 {secs : Int} (h1 : 1 ≤ secs) (h2 : secs ≤ 1000) : barB ⟨0, [], Rg 1 nilF⟩ (nA 0) secs = true ∧ barS ⟨0, [], Rg 1 nilF⟩ (nA 0) 0 secs = ⟨0, [], Rg 1 (barF secs)⟩ := by
  have h := rg_bar (n := 1) (F := nilF) (now := 0) (t := 0) (i := 0) (secs := secs) nilF_ad (by omega) (by omega) rfl (perm_of h1 (by omega))
  rw [padv_self, Int.zero_add] at h
  exact h
theorem bars_free {secs later : Int} (h0 : 0 ≤ later) (j : Nat) (hj : j < 1) : (barF secs j).freeB later = decide (secs ≤ later) := by
  obtain rfl : j = 0 := by omega
  unfold barF
  rw [upF_at]
  have h1 : decide (later < 0) = false := decide_eq_false (by omega)
  show (!false && (!decide (later < 0) && decide (secs ≤ later))) = _
  rw [h1]; rfl
theorem bars_held {secs later : Int} {m : Mc6} (h0 : 0 ≤ later) (j : Nat) (hj : j < 1) : (barF secs j).heldB m later = false := by
  obtain rfl : j = 0 := by omega
  unfold barF
  rw [upF_at]
  have h1 : decide (later < 0) = false := decide_eq_false (by omega)
  show (decide (later < 0) && _) = false
  rw [h1]; rfl
theorem bars_2 {secs later : Int} (h0 : 0 ≤ later) (h1 : later ≤ 2000) (h : later < secs) : offerS ⟨0, [], Rg 1 (barF secs)⟩ (macM 1) (nA 0) later = (Ad4.zero, 7) := by
  have hp := padv_0 h0 (by omega : later ≤ 1099511627776)
  have hf : ∀ j, j < 1 → (barF secs j).freeB (padv 0 later) = false := fun j hj => by rw [hp, bars_free h0 j hj]; exact decide_eq_false (by omega)
  exact rg_offer_full (Rg.held_none fun j hj => by rw [hp]; exact bars_held h0 j hj) (noWant.busy (barF_ad _) (by omega) (by omega) (hf 0 (by omega))) (Rg.full hf _)
theorem bars_3 {secs later : Int} (h0 : 0 ≤ later) (h1 : later ≤ 2000) (h : later < secs) : takeS ((⟨0, [], Rg 1 (barF secs)⟩ : St).adv later) (macM 1) (nA 0) later 10 = (8, ⟨later, [], Rg 1 (barF secs)⟩) := by
  have hp := padv_0 h0 (by omega : later ≤ 1099511627776)
  have e : (⟨0, [], Rg 1 (barF secs)⟩ : St).adv later = ⟨later, [], Rg 1 (barF secs)⟩ := by show (⟨padv 0 later, [], Rg 1 (barF secs)⟩ : St) = _; rw [hp]
  rw [e, rg_take_no (i := 0) (barF_ad _) (by omega) (by omega) rfl (by decide) (by rw [padv_self, bars_free h0 0 (by omega)]; exact decide_eq_false (by omega)) (by rw [padv_self]; exact bars_held h0 0 (by omega)), padv_self]
theorem bars_4 {secs later : Int} (h0 : 0 ≤ later) (h1 : later ≤ 2000) (h : secs ≤ later) : offerS ⟨0, [], Rg 1 (barF secs)⟩ (macM 1) (nA 0) later = (nA 0, 0) := by
  have hp := padv_0 h0 (by omega : later ≤ 1099511627776)
  exact rg_offer_want (i := 0) (barF_ad _) (by omega) (by omega) (Rg.held_none fun j hj => by rw [hp]; exact bars_held h0 j hj) (by rw [hp, bars_free h0 0 (by omega)]; exact decide_eq_true h)
theorem bars_5 {secs later : Int} (h0 : 0 ≤ later) (h1 : later ≤ 2000) (h : secs ≤ later) : ∃ s', takeS ((⟨0, [], Rg 1 (barF secs)⟩ : St).adv later) (macM 1) (nA 0) later 10 = (0, s') := by
  have hp := padv_0 h0 (by omega : later ≤ 1099511627776)
  have e : (⟨0, [], Rg 1 (barF secs)⟩ : St).adv later = ⟨later, [], Rg 1 (barF secs)⟩ := by show (⟨padv 0 later, [], Rg 1 (barF secs)⟩ : St) = _; rw [hp]
  rw [e, rg_take (i := 0) (barF_ad _) (by omega) (by omega) rfl (by decide) (by rw [padv_self, bars_free h0 0 (by omega)]; exact decide_eq_true h) (Rg.held_none fun j hj => by rw [padv_self]; exact bars_held h0 j hj)]
  exact ⟨_, rfl⟩
set_option linter.unusedVariables false in
set_option linter.unusedSimpArgs false in
set_option maxRecDepth 100000 in
set_option maxHeartbeats 16000000 in
theorem poolBars_walk (secs later : Int) (w : World) : Calls Try.prog 7 #[.int .i64 secs, .int .i64 later] w fun e w' => e = .returned (.bool true) ∧ Below w.heap.size w w' := by
  have bel := Below.refl w.heap.size w
  go_enter Try.func7, Try.ntmps7
  go_wp2_with fail
  with_reducible refine (awake_any _).mono ?_
  rintro e w1 ⟨rfl, b1⟩
  replace bel := bel.trans (b1.mono bel.size)
  clear b1
  by_cases c1 : secs < 1
  · go_wp2_with fail
    go_ret
    exact ⟨rfl, bel⟩
  have Hc1 : Hid (1 ≤ secs) := Lib.hid (by omega)
  replace c1 : decide (secs < 1) = false := decide_eq_false c1
  by_cases c2 : 1000 < secs
  · go_wp2_with fail
    go_ret
    exact ⟨rfl, bel⟩
  have Hc2 : Hid (secs ≤ 1000) := Lib.hid (by omega)
  replace c2 : decide (1000 < secs) = false := decide_eq_false c2
  by_cases c3 : later < 0
  · go_wp2_with fail
    go_ret
    exact ⟨rfl, bel⟩
  have Hc3 : Hid (0 ≤ later) := Lib.hid (by omega)
  replace c3 : decide (later < 0) = false := decide_eq_false c3
  by_cases c4 : 2000 < later
  · go_wp2_with fail
    go_ret
    exact ⟨rfl, bel⟩
  have Hc4 : Hid (later ≤ 2000) := Lib.hid (by omega)
  replace c4 : decide (2000 < later) = false := decide_eq_false c4
  have HB := Lib.hid (bars_1 Hc1.out Hc2.out)
  go_wp2_with fail
  with_reducible refine (at_s (j := 0) _ (by omega)).mono ?_
  rintro e w2 ⟨rfl, b2⟩
  replace bel := bel.trans (b2.mono bel.size)
  clear b2
  go_wp2_with fail
  with_reducible refine (at_s (j := 0) _ (by omega)).mono ?_
  rintro e w3 ⟨rfl, b3⟩
  replace bel := bel.trans (b3.mono bel.size)
  clear b3
  go_wp2_with fail
  have HLO_ := bel.size
  with_reducible refine (pnew_nil (x := nA 0) (y := nA 0) _ (new_ok (q := 0) (by omega)).1 (new_ok (q := 0) (by omega)).2).mono ?_
  rintro e w4 ⟨gt, rfl, hT, b4⟩
  replace bel := bel.trans (b4.mono bel.size)
  clear b4
  rw [pool_new (q := 0) (by omega)] at hT
  replace hT : Pl w.heap.size gt w4 ⟨0, [], Rg 1 nilF⟩ := hT.lo_mono HLO_
  clear HLO_
  go_wp2_with fail
  with_reducible refine (at_s (j := 0) _ (by omega)).mono ?_
  rintro e w5 ⟨rfl, b5⟩
  replace hT := hT.below b5
  replace bel := bel.trans (b5.mono bel.size)
  clear b5
  go_wp2_with fail
  with_reducible refine (pbar_any (b := true) _ _ _ _ hT HB.out.1).mono ?_
  rintro e w6 ⟨rfl, hT_, k_, bb⟩
  clear hT
  have hT := hT_
  replace bel := bel.trans bb
  clear bb k_ hT_
  rw [HB.out.2] at hT
  have HL0 : Hid (0 ≤ later) := Lib.hid Hc3.out
  have HL1 : Hid (later ≤ 2000) := Lib.hid Hc4.out
  by_cases hl : later < secs
  · have HO := Lib.hid (bars_2 (HL0.out) (HL1.out) hl)
    have HTK := Lib.hid (bars_3 (HL0.out) (HL1.out) hl)
    go_wp2_with fail
    with_reducible refine (mac_k 1 _).mono ?_
    rintro e w7 ⟨rfl, b7⟩
    replace hT := hT.below b7
    replace bel := bel.trans (b7.mono bel.size)
    clear b7
    go_wp2_with fail
    with_reducible refine (at_s (j := 0) _ (by omega)).mono ?_
    rintro e w8 ⟨rfl, b8⟩
    replace hT := hT.below b8
    replace bel := bel.trans (b8.mono bel.size)
    clear b8
    go_wp2_with fail
    with_reducible refine (poffer_f _ _ () hT HO.out).mono ?_
    rintro e w9 ⟨rfl, hT_, k_, bb⟩
    clear hT
    have hT := hT_
    replace bel := bel.trans bb
    clear bb k_ hT_
    go_wp2_with (first | ((with_reducible show wpList _ _ _ (⟨some 7, _, _, _, _, _⟩ :: _) _ _); refine wpList_new_a rfl 28 rfl #[.int .u8 0, .int .u8 0, .int .u8 0, .int .u8 0] (by kernel_rfl) ?_; intro g7 w10 ge hh bb; have orB := Nat.le_trans bel.size ge; replace hT := hT.below bb; replace bel := bel.trans (bb.mono bel.size); have hrB := hh; clear hh ge bb) | ((with_reducible show wpList _ _ _ (⟨none, Op.store _ (.tmp 7) _, _, _, _, _⟩ :: _) _ _); refine wpList_store_blk rfl 28 (.tmp 7) (.tmp 47) rfl g7 rfl _ rfl _ 28 hrB (by rfl) (by kernel_rfl) (by kernel_rfl) ?_; intro w11 hq gr; replace hT := hT.grown gr hrB (by decide) (by decide); replace bel := below_grown bel gr orB bel.size; clear hrB; have hrB := hq; clear hq gr))
    with_reducible refine (mac_k 1 _).mono ?_
    rintro e w12 ⟨rfl, b12⟩
    replace hrB := blk_u hrB b12
    replace hT := hT.below b12
    replace bel := bel.trans (b12.mono bel.size)
    clear b12
    go_wp2_with fail
    with_reducible refine (at_s (j := 0) _ (by omega)).mono ?_
    rintro e w13 ⟨rfl, b13⟩
    replace hrB := blk_u hrB b13
    replace hT := hT.below b13
    replace bel := bel.trans (b13.mono bel.size)
    clear b13
    go_wp2_with fail
    with_reducible refine (ptake_any (r := 8) _ _ _ _ _ hT HTK.out).mono ?_
    rintro e w14 ⟨rfl, hT_, k_, bb⟩
    replace hrB := Kt.blk k_ hrB (by decide)
    clear hT
    have hT := hT_
    replace bel := bel.trans bb
    clear bb k_ hT_
    go_wp2_with fail
    go_ret
    exact ⟨rfl, bel⟩
  have hl2 : secs ≤ later := by omega
  have HO := Lib.hid (bars_4 (HL0.out) (HL1.out) hl2)
  obtain ⟨s5, ht5⟩ := bars_5 (HL0.out) (HL1.out) hl2
  have HTK := Lib.hid ht5
  clear hl2 ht5
  replace hl : decide (later < secs) = false := decide_eq_false hl
  go_wp2_with fail
  with_reducible refine (mac_k 1 _).mono ?_
  rintro e w7 ⟨rfl, b7⟩
  replace hT := hT.below b7
  replace bel := bel.trans (b7.mono bel.size)
  clear b7
  go_wp2_with fail
  with_reducible refine (at_s (j := 0) _ (by omega)).mono ?_
  rintro e w8 ⟨rfl, b8⟩
  replace hT := hT.below b8
  replace bel := bel.trans (b8.mono bel.size)
  clear b8
  go_wp2_with fail
  with_reducible refine (poffer_any (a := (nA 0)) (r := 0) _ _ _ _ hT HO.out).mono ?_
  rintro e w9 ⟨rfl, hT_, k_, bb⟩
  clear hT
  have hT := hT_
  replace bel := bel.trans bb
  clear bb k_ hT_
  go_wp2_with (first | ((with_reducible show wpList _ _ _ (⟨some 7, _, _, _, _, _⟩ :: _) _ _); refine wpList_new_a rfl 28 rfl #[.int .u8 0, .int .u8 0, .int .u8 0, .int .u8 0] (by kernel_rfl) ?_; intro g7 w10 ge hh bb; have orB := Nat.le_trans bel.size ge; replace hT := hT.below bb; replace bel := bel.trans (bb.mono bel.size); have hrB := hh; clear hh ge bb) | ((with_reducible show wpList _ _ _ (⟨none, Op.store _ (.tmp 7) _, _, _, _, _⟩ :: _) _ _); refine wpList_store_blk rfl 28 (.tmp 7) (.tmp 47) rfl g7 rfl _ rfl _ 28 hrB (by rfl) (by kernel_rfl) (by kernel_rfl) ?_; intro w11 hq gr; replace hT := hT.grown gr hrB (by decide) (by decide); replace bel := below_grown bel gr orB bel.size; clear hrB; have hrB := hq; clear hq gr))
  with_reducible refine (mac_k 1 _).mono ?_
  rintro e w12 ⟨rfl, b12⟩
  replace hrB := blk_u hrB b12
  replace hT := hT.below b12
  replace bel := bel.trans (b12.mono bel.size)
  clear b12
  go_wp2_with fail
  with_reducible refine (at_s (j := 0) _ (by omega)).mono ?_
  rintro e w13 ⟨rfl, b13⟩
  replace hrB := blk_u hrB b13
  replace hT := hT.below b13
  replace bel := bel.trans (b13.mono bel.size)
  clear b13
  go_wp2_with fail
  with_reducible refine (ptake_any (r := 0) _ _ _ _ _ hT HTK.out).mono ?_
  rintro e w14 ⟨rfl, hT_, k_, bb⟩
  replace hrB := Kt.blk k_ hrB (by decide)
  clear hT
  have hT := hT_
  replace bel := bel.trans bb
  clear bb k_ hT_
  go_wp2_with fail
  go_ret
  exact ⟨rfl, bel⟩
/-- q + 1 addresses, the second one taken. -/
def keepF (secs : Int) : Nat → Sd := upF nilF 1 ⟨macM 1, nA 1, secs, false, true, false, 0⟩
theorem keepF_ad (secs : Int) : AdF (keepF secs) := upF_ad nilF_ad rfl
theorem keepF_no {secs : Int} {j : Nat} (h : j ≠ 1) : keepF secs j = nilF j := upF_no h
theorem keeps_1 {q : Nat} {secs : Int} (hq : q ≤ 60) (hq1 : 1 ≤ q) (h1 : 1 ≤ secs) (h2 : secs ≤ 1000) : takeS ⟨0, [], Rg (q + 1) nilF⟩ (macM 1) (nA 1) 0 secs = (0, ⟨0, [], Rg (q + 1) (keepF secs)⟩) := by
  have h := rg_take (n := q + 1) (F := nilF) (now := 0) (t := 0) (m := macM 1) (i := 1) (secs := secs) nilF_ad (by omega) (by omega) rfl (perm_of h1 (by omega)) (slot0_free (by rw [padv_self]; exact Int.le_refl _)) (nil_held (by rw [padv_self]; exact Int.le_refl _))
  rw [padv_self, Int.zero_add] at h
  exact h
theorem keep_held {secs later : Int} {j : Nat} (h0 : 0 ≤ later) (hj : j ≠ 1) {m : Mc6} : (keepF secs j).heldB m later = false := by
  rw [keepF_no hj]; exact slot0_held h0
theorem keep_1 {secs later : Int} : (keepF secs 1).heldB (macM 1) later = decide (later < secs) := by
  unfold keepF
  rw [upF_at]
  show (decide (later < secs) && (macM 1).eqB (macM 1)) = _
  rw [Mc6.eqB_self, Bool.and_true]
theorem keeps_2 {q : Nat} {secs later : Int} {wa : Ad4} (hq1 : 1 ≤ q) (h0 : 0 ≤ later) (h1 : later ≤ 3000) (h : later < secs) : offerS ⟨0, [], Rg (q + 1) (keepF secs)⟩ (macM 1) wa later = (nA 1, 0) := by
  have hp := padv_0 h0 (by omega : later ≤ 1099511627776)
  exact rg_offer_held (i := 1) (by omega) (Rg.held (by omega) (by rw [hp, keep_1]; exact decide_eq_true h) (fun j hj => by rw [hp]; exact keep_held h0 (by omega)))
theorem keep_none {q : Nat} {secs later : Int} (h0 : 0 ≤ later) (h : secs ≤ later) : hldF (macM 1) later (Rg (q + 1) (keepF secs)) = none := Rg.held_none fun j _ => by
  by_cases e : j = 1
  · subst e; rw [keep_1]; exact decide_eq_false (by omega)
  · exact keep_held h0 e
theorem keep_free {secs later : Int} (h0 : 0 ≤ later) (h : secs ≤ later) (j : Nat) : (keepF secs j).freeB later = true := by
  by_cases e : j = 1
  · subst e
    unfold keepF
    rw [upF_at]
    have h1 : decide (later < secs) = false := decide_eq_false (by omega)
    show (!false && (!decide (later < secs) && decide ((0 : Int) ≤ later))) = true
    rw [h1, decide_eq_true h0]; rfl
  · rw [keepF_no e]; exact slot0_free h0
theorem keeps_3 {q j : Nat} {secs later : Int} (hq : q ≤ 60) (hj : j < q + 1) (h0 : 0 ≤ later) (h1 : later ≤ 3000) (h : secs ≤ later) : offerS ⟨0, [], Rg (q + 1) (keepF secs)⟩ (macM 1) (nA j) later = (nA j, 0) := by
  have hp := padv_0 h0 (by omega : later ≤ 1099511627776)
  exact rg_offer_want (keepF_ad _) (by omega) hj (by rw [hp]; exact keep_none h0 h) (by rw [hp]; exact keep_free h0 h j)
theorem keeps_4 {q : Nat} {secs later z : Int} (hq : q ≤ 60) (hq1 : 1 ≤ q) (h0 : 0 ≤ later) (h1 : later ≤ 3000) (h : secs ≤ later) (z0 : 0 ≤ z) (z1 : z ≤ 255) (hz : z < 100 ∨ 100 + (q : Int) < z) : offerS ⟨0, [], Rg (q + 1) (keepF secs)⟩ (macM 1) (atA z) later = (nA 1, 0) := by
  have hp := padv_0 h0 (by omega : later ≤ 1099511627776)
  obtain ⟨k, rfl⟩ : ∃ k : Nat, z = (k : Int) := ⟨z.toNat, by omega⟩
  refine rg_offer_best (i := 1) (by omega) (by rw [hp]; exact keep_none h0 h) (noWant.out (Rg.out (keepF_ad _) (by omega) (fun j hj => by rw [atA_num (by omega)]; omega))) (Rg.best (by omega) (by rw [hp]; exact keep_free h0 h 1) (fun j hj hf => ?_))
  have r1 : (keepF secs 1).rank (macM 1) = -2 := by
    unfold keepF
    rw [upF_at]
    show (if (true : Bool) = true then (if (macM 1).eqB (macM 1) = true then -2 else secs) else -1) = (-2 : Int)
    rw [Mc6.eqB_self]; rfl
  rw [r1]
  by_cases e : j = 1
  · omega
  · rw [keepF_no e]
    have r2 : (nilF j).rank (macM 1) = -1 := rfl
    rw [r2]; omega
set_option linter.unusedVariables false in
set_option linter.unusedSimpArgs false in
set_option maxRecDepth 100000 in
set_option maxHeartbeats 16000000 in
theorem poolKeeps_walk (n secs later want : Int) (w : World) : Calls Try.prog 6 #[.int .i64 n, .int .i64 secs, .int .i64 later, .int .i64 want] w fun e w' => e = .returned (.bool true) ∧ Below w.heap.size w w' := by
  have bel := Below.refl w.heap.size w
  go_enter Try.func6, Try.ntmps6
  go_wp2_with fail
  with_reducible refine (awake_any _).mono ?_
  rintro e w1 ⟨rfl, b1⟩
  replace bel := bel.trans (b1.mono bel.size)
  clear b1
  by_cases c1 : n < 2
  · go_wp2_with fail
    go_ret
    exact ⟨rfl, bel⟩
  have Hc1 : Hid (2 ≤ n) := Lib.hid (by omega)
  replace c1 : decide (n < 2) = false := decide_eq_false c1
  by_cases c2 : 30 < n
  · go_wp2_with fail
    go_ret
    exact ⟨rfl, bel⟩
  have Hc2 : Hid (n ≤ 30) := Lib.hid (by omega)
  replace c2 : decide (30 < n) = false := decide_eq_false c2
  by_cases c3 : secs < 1
  · go_wp2_with fail
    go_ret
    exact ⟨rfl, bel⟩
  have Hc3 : Hid (1 ≤ secs) := Lib.hid (by omega)
  replace c3 : decide (secs < 1) = false := decide_eq_false c3
  by_cases c4 : 1000 < secs
  · go_wp2_with fail
    go_ret
    exact ⟨rfl, bel⟩
  have Hc4 : Hid (secs ≤ 1000) := Lib.hid (by omega)
  replace c4 : decide (1000 < secs) = false := decide_eq_false c4
  by_cases c5 : later < 0
  · go_wp2_with fail
    go_ret
    exact ⟨rfl, bel⟩
  have Hc5 : Hid (0 ≤ later) := Lib.hid (by omega)
  replace c5 : decide (later < 0) = false := decide_eq_false c5
  by_cases c6 : 3000 < later
  · go_wp2_with fail
    go_ret
    exact ⟨rfl, bel⟩
  have Hc6 : Hid (later ≤ 3000) := Lib.hid (by omega)
  replace c6 : decide (3000 < later) = false := decide_eq_false c6
  by_cases c7 : want < 0
  · go_wp2_with fail
    go_ret
    exact ⟨rfl, bel⟩
  have Hc7 : Hid (0 ≤ want) := Lib.hid (by omega)
  replace c7 : decide (want < 0) = false := decide_eq_false c7
  by_cases c8 : 255 < want
  · go_wp2_with fail
    go_ret
    exact ⟨rfl, bel⟩
  have Hc8 : Hid (want ≤ 255) := Lib.hid (by omega)
  replace c8 : decide (255 < want) = false := decide_eq_false c8
  obtain ⟨q, hq⟩ : ∃ q : Nat, n = (q : Int) + 1 := ⟨(n - 1).toNat, by have := Hc1.out; omega⟩
  have HQ := Lib.hid hq
  have HQ0 : Hid (1 ≤ q) := Lib.hid (by have := Hc1.out; omega)
  have HQ1 : Hid (q ≤ 60) := Lib.hid (by have := Hc2.out; omega)
  have n0 : 2 ≤ n := Hc1.out
  have n1 : n ≤ 30 := Hc2.out
  have w0 : 0 ≤ want := Hc7.out
  have w1 : want ≤ 255 := Hc8.out
  have hw1 : IntKind.i64.wrap (99 + n) = 99 + n := IntWalk.i64_in _ (by omega)
  have hw2 : IntKind.i64.wrap (100 + n) = 100 + n := IntWalk.i64_in _ (by omega)
  have HK1 := Lib.hid (keeps_1 HQ1.out HQ0.out Hc3.out Hc4.out)
  clear hq
  go_wp2_with fail
  with_reducible refine (at_s (j := 0) _ (by omega)).mono ?_
  rintro e w2 ⟨rfl, b2⟩
  replace bel := bel.trans (b2.mono bel.size)
  clear b2
  go_wp2_with fail
  with_reducible refine (at_s (j := q) _ (by have := HQ.out; omega)).mono ?_
  rintro e w3 ⟨rfl, b3⟩
  replace bel := bel.trans (b3.mono bel.size)
  clear b3
  go_wp2_with fail
  have HLO_ := bel.size
  with_reducible refine (pnew_nil (x := nA 0) (y := nA q) _ (new_ok (q := q) (by have := HQ1.out; omega)).1 (new_ok (q := q) (by have := HQ1.out; omega)).2).mono ?_
  rintro e w4 ⟨gt, rfl, hT, b4⟩
  replace bel := bel.trans (b4.mono bel.size)
  clear b4
  rw [pool_new (q := q) (by have := HQ1.out; omega)] at hT
  replace hT : Pl w.heap.size gt w4 ⟨0, [], Rg (q + 1) nilF⟩ := hT.lo_mono HLO_
  clear HLO_
  go_wp2_with fail
  with_reducible refine (mac_k 1 _).mono ?_
  rintro e w5 ⟨rfl, b5⟩
  replace hT := hT.below b5
  replace bel := bel.trans (b5.mono bel.size)
  clear b5
  go_wp2_with fail
  with_reducible refine (at_s (j := 1) _ (by omega)).mono ?_
  rintro e w6 ⟨rfl, b6⟩
  replace hT := hT.below b6
  replace bel := bel.trans (b6.mono bel.size)
  clear b6
  go_wp2_with fail
  with_reducible refine (ptake_any (r := 0) _ _ _ _ _ hT HK1.out).mono ?_
  rintro e w7 ⟨rfl, hT_, k_, bb⟩
  clear hT
  have hT := hT_
  replace bel := bel.trans bb
  clear bb k_ hT_
  by_cases h100 : 100 ≤ want
  rotate_left
  · by_cases hl : later < secs
    · have HZ : Hid (want < 100 ∨ 100 + (q : Int) < want) := Lib.hid (by have := HQ.out; omega)
      have HO := Lib.hid (keeps_2 (q := q) (secs := secs) (wa := (atA want)) HQ0.out Hc5.out Hc6.out hl)
      replace h100 : decide (100 ≤ want) = false := decide_eq_false h100
      have r93 : ∀ W, (binOp .eql 28 (.agg #[.int .u8 ((nA 1).a.toNat : Int), .int .u8 ((nA 1).b.toNat : Int), .int .u8 ((nA 1).c.toNat : Int), .int .u8 ((nA 1).d.toNat : Int)]) (.agg #[.int .u8 ((nA 1).a.toNat : Int), .int .u8 ((nA 1).b.toNat : Int), .int .u8 ((nA 1).c.toNat : Int), .int .u8 ((nA 1).d.toNat : Int)])).run Try.prog W = .ok (.bool true) W := fun W => by have h_ := eqa_b (nA 1) (nA 1) W; rw [Ad4.eqB_self] at h_; exact h_
      go_wp2_with fail
      with_reducible refine (mac_k 1 _).mono ?_
      rintro e w8 ⟨rfl, b8⟩
      replace hT := hT.below b8
      replace bel := bel.trans (b8.mono bel.size)
      clear b8
      go_wp2_with fail
      with_reducible refine (at_k want _).mono ?_
      rintro e w9 ⟨rfl, b9⟩
      replace hT := hT.below b9
      replace bel := bel.trans (b9.mono bel.size)
      clear b9
      go_wp2_with fail
      with_reducible refine (poffer_any (a := (nA 1)) (r := 0) _ _ _ _ hT HO.out).mono ?_
      rintro e w10 ⟨rfl, hT_, k_, bb⟩
      clear hT
      have hT := hT_
      replace bel := bel.trans bb
      clear bb k_ hT_
      go_wp2_with (first | ((with_reducible show wpList _ _ _ (⟨some 11, _, _, _, _, _⟩ :: _) _ _); refine wpList_new_a rfl 28 rfl #[.int .u8 0, .int .u8 0, .int .u8 0, .int .u8 0] (by kernel_rfl) ?_; intro g11 w11 ge hh bb; have orB := Nat.le_trans bel.size ge; replace hT := hT.below bb; replace bel := bel.trans (bb.mono bel.size); have hrB := hh; clear hh ge bb) | ((with_reducible show wpList _ _ _ (⟨none, Op.store _ (.tmp 11) _, _, _, _, _⟩ :: _) _ _); refine wpList_store_blk rfl 28 (.tmp 11) (.tmp 71) rfl g11 rfl _ rfl _ 28 hrB (by rfl) (by kernel_rfl) (by kernel_rfl) ?_; intro w12 hq gr; replace hT := hT.grown gr hrB (by decide) (by decide); replace bel := below_grown bel gr orB bel.size; clear hrB; have hrB := hq; clear hq gr))
      replace bel := bel.drew
      replace hrB : w12.drew.heap[g11]? = _ := hrB
      replace hT := pl_drew hT
      refine wp_region_held_drew (S := fun W => W.heap[g11]? = some (.cells #[.int .u8 ((nA 1).a.toNat : Int), .int .u8 ((nA 1).b.toNat : Int), .int .u8 ((nA 1).c.toNat : Int), .int .u8 ((nA 1).d.toNat : Int)] 28 (0, 0))) (by kernel_rfl) hrB (fun hH => ?_)
      generalize w12.drew = w13 at bel hrB hT hH ⊢
      refine wpAnyH_take (i := 0) (v := ?_) rfl (by kernel_rfl) (by kernel_rfl) (by kernel_rfl) (fun _ _ _ h => h) (Or.inl ⟨by rfl, ?_⟩) hH ?_
      rotate_left
      · ((intro W hW; clear hW; go_simp) <;> with_reducible rfl)
      simp only [Act.put, List.getElem_toArray, List.getElem_cons_zero, List.setIfInBounds_toArray, List.set_cons_zero, List.set_cons_succ]
      refine wpAnyH_take (i := 1) (v := ?_) rfl (by kernel_rfl) (by kernel_rfl) (by kernel_rfl) (fun _ _ _ h => h) (Or.inl ⟨by rfl, ?_⟩) hH ?_
      rotate_left
      · ((intro W hW; clear hW; go_simp) <;> with_reducible rfl)
      simp only [Act.put, List.getElem_toArray, List.getElem_cons_zero, List.getElem_cons_succ, List.setIfInBounds_toArray, List.set_cons_zero, List.set_cons_succ]
      refine wpAnyH_take (i := 2) (v := ?_) rfl (by kernel_rfl) (by kernel_rfl) (by kernel_rfl) (fun _ _ _ h => h) (Or.inl ⟨by rfl, ?_⟩) hH ?_
      rotate_left
      · ((intro W hW; clear hW; go_simp) <;> with_reducible rfl)
      simp only [Act.put, List.getElem_toArray, List.getElem_cons_zero, List.getElem_cons_succ, List.setIfInBounds_toArray, List.set_cons_zero, List.set_cons_succ]
      refine wpAnyH_take (i := 3) (v := .agg #[.int .u8 ((nA 1).a.toNat : Int), .int .u8 ((nA 1).b.toNat : Int), .int .u8 ((nA 1).c.toNat : Int), .int .u8 ((nA 1).d.toNat : Int)]) rfl (by kernel_rfl) (by kernel_rfl) (by kernel_rfl) (fun _ _ _ h => h) (yieldsIf_load_part (by kernel_rfl) 28 _ rfl g11 0 4 rfl _ 28 (0, 0) (fun W hW => hW) _ rfl _ Try.underlying28 rfl (by kernel_rfl)) hH ?_
      simp only [Act.put, List.getElem_toArray, List.getElem_cons_zero, List.getElem_cons_succ, List.setIfInBounds_toArray, List.set_cons_zero, List.set_cons_succ]
      refine wpAnyH_ready (rs := [4]) (by kernel_rfl) (by simp) ?_
      refine AllReadyH.cons (o := _) rfl (fun K hK => ?_) AllReadyH.nil
      simp only [List.getElem_toArray, List.getElem_cons_zero, List.getElem_cons_succ]
      go_simp
      with_reducible refine (at_s (j := 1) _ (by omega)).mono ?_
      rintro e w14 ⟨rfl, b14⟩
      dsimp only
      replace hrB := blk_u hrB b14
      replace hT := hT.below b14
      replace bel := bel.trans (b14.mono bel.size)
      clear b14
      refine hK.out _ _ hrB (fun hH15 => ?_)
      clear hK K
      refine wpAnyH_take (i := 5) (v := ?_) rfl (by kernel_rfl) (by kernel_rfl) (by kernel_rfl) (fun _ _ _ h => h) (Or.inl ⟨by rfl, ?_⟩) hH15 ?_
      rotate_left
      · ((intro W hW; clear hW; go_simp) <;> with_reducible rfl)
      simp only [Act.put, List.getElem_toArray, List.getElem_cons_zero, List.getElem_cons_succ, List.setIfInBounds_toArray, List.set_cons_zero, List.set_cons_succ]
      refine wpAnyH_take (i := 6) (v := ?_) rfl (by kernel_rfl) (by kernel_rfl) (by kernel_rfl) (fun _ _ _ h => h) (Or.inl ⟨by rfl, ?_⟩) hH15 ?_
      rotate_left
      · ((intro W hW; clear hW; go_simp) <;> with_reducible rfl)
      simp only [Act.put, List.getElem_toArray, List.getElem_cons_zero, List.getElem_cons_succ, List.setIfInBounds_toArray, List.set_cons_zero, List.set_cons_succ]
      refine wpAnyH_take (i := 7) (v := ?_) rfl (by kernel_rfl) (by kernel_rfl) (by kernel_rfl) (fun _ _ _ h => h) (Or.inl ⟨by rfl, ?_⟩) hH15 ?_
      rotate_left
      · ((intro W hW; clear hW; go_simp) <;> with_reducible rfl)
      simp only [Act.put, List.getElem_toArray, List.getElem_cons_zero, List.getElem_cons_succ, List.setIfInBounds_toArray, List.set_cons_zero, List.set_cons_succ]
      refine wpAnyH_done (by kernel_rfl) ?_ _
      go_wp2_with fail
      go_ret
      exact ⟨rfl, bel⟩
    have HZ : Hid (want < 100 ∨ 100 + (q : Int) < want) := Lib.hid (by have := HQ.out; omega)
    have HO := Lib.hid (keeps_4 HQ1.out HQ0.out Hc5.out Hc6.out (Int.not_lt.1 hl) w0 w1 HZ.out)
    replace hl : decide (later < secs) = false := decide_eq_false hl
    replace h100 : decide (100 ≤ want) = false := decide_eq_false h100
    have r93 : ∀ W, (binOp .eql 28 (.agg #[.int .u8 ((nA 1).a.toNat : Int), .int .u8 ((nA 1).b.toNat : Int), .int .u8 ((nA 1).c.toNat : Int), .int .u8 ((nA 1).d.toNat : Int)]) (.agg #[.int .u8 ((nA 1).a.toNat : Int), .int .u8 ((nA 1).b.toNat : Int), .int .u8 ((nA 1).c.toNat : Int), .int .u8 ((nA 1).d.toNat : Int)])).run Try.prog W = .ok (.bool true) W := fun W => by have h_ := eqa_b (nA 1) (nA 1) W; rw [Ad4.eqB_self] at h_; exact h_
    go_wp2_with fail
    with_reducible refine (mac_k 1 _).mono ?_
    rintro e w8 ⟨rfl, b8⟩
    replace hT := hT.below b8
    replace bel := bel.trans (b8.mono bel.size)
    clear b8
    go_wp2_with fail
    with_reducible refine (at_k want _).mono ?_
    rintro e w9 ⟨rfl, b9⟩
    replace hT := hT.below b9
    replace bel := bel.trans (b9.mono bel.size)
    clear b9
    go_wp2_with fail
    with_reducible refine (poffer_any (a := (nA 1)) (r := 0) _ _ _ _ hT HO.out).mono ?_
    rintro e w10 ⟨rfl, hT_, k_, bb⟩
    clear hT
    have hT := hT_
    replace bel := bel.trans bb
    clear bb k_ hT_
    go_wp2_with (first | ((with_reducible show wpList _ _ _ (⟨some 11, _, _, _, _, _⟩ :: _) _ _); refine wpList_new_a rfl 28 rfl #[.int .u8 0, .int .u8 0, .int .u8 0, .int .u8 0] (by kernel_rfl) ?_; intro g11 w11 ge hh bb; have orB := Nat.le_trans bel.size ge; replace hT := hT.below bb; replace bel := bel.trans (bb.mono bel.size); have hrB := hh; clear hh ge bb) | ((with_reducible show wpList _ _ _ (⟨none, Op.store _ (.tmp 11) _, _, _, _, _⟩ :: _) _ _); refine wpList_store_blk rfl 28 (.tmp 11) (.tmp 71) rfl g11 rfl _ rfl _ 28 hrB (by rfl) (by kernel_rfl) (by kernel_rfl) ?_; intro w12 hq gr; replace hT := hT.grown gr hrB (by decide) (by decide); replace bel := below_grown bel gr orB bel.size; clear hrB; have hrB := hq; clear hq gr))
    replace bel := bel.drew
    replace hrB : w12.drew.heap[g11]? = _ := hrB
    replace hT := pl_drew hT
    refine wp_region_held_drew (S := fun W => W.heap[g11]? = some (.cells #[.int .u8 ((nA 1).a.toNat : Int), .int .u8 ((nA 1).b.toNat : Int), .int .u8 ((nA 1).c.toNat : Int), .int .u8 ((nA 1).d.toNat : Int)] 28 (0, 0))) (by kernel_rfl) hrB (fun hH => ?_)
    generalize w12.drew = w13 at bel hrB hT hH ⊢
    refine wpAnyH_take (i := 0) (v := ?_) rfl (by kernel_rfl) (by kernel_rfl) (by kernel_rfl) (fun _ _ _ h => h) (Or.inl ⟨by rfl, ?_⟩) hH ?_
    rotate_left
    · ((intro W hW; clear hW; go_simp) <;> with_reducible rfl)
    simp only [Act.put, List.getElem_toArray, List.getElem_cons_zero, List.setIfInBounds_toArray, List.set_cons_zero, List.set_cons_succ]
    refine wpAnyH_take (i := 1) (v := ?_) rfl (by kernel_rfl) (by kernel_rfl) (by kernel_rfl) (fun _ _ _ h => h) (Or.inl ⟨by rfl, ?_⟩) hH ?_
    rotate_left
    · ((intro W hW; clear hW; go_simp) <;> with_reducible rfl)
    simp only [Act.put, List.getElem_toArray, List.getElem_cons_zero, List.getElem_cons_succ, List.setIfInBounds_toArray, List.set_cons_zero, List.set_cons_succ]
    refine wpAnyH_take (i := 2) (v := ?_) rfl (by kernel_rfl) (by kernel_rfl) (by kernel_rfl) (fun _ _ _ h => h) (Or.inl ⟨by rfl, ?_⟩) hH ?_
    rotate_left
    · ((intro W hW; clear hW; go_simp) <;> with_reducible rfl)
    simp only [Act.put, List.getElem_toArray, List.getElem_cons_zero, List.getElem_cons_succ, List.setIfInBounds_toArray, List.set_cons_zero, List.set_cons_succ]
    refine wpAnyH_take (i := 3) (v := .agg #[.int .u8 ((nA 1).a.toNat : Int), .int .u8 ((nA 1).b.toNat : Int), .int .u8 ((nA 1).c.toNat : Int), .int .u8 ((nA 1).d.toNat : Int)]) rfl (by kernel_rfl) (by kernel_rfl) (by kernel_rfl) (fun _ _ _ h => h) (yieldsIf_load_part (by kernel_rfl) 28 _ rfl g11 0 4 rfl _ 28 (0, 0) (fun W hW => hW) _ rfl _ Try.underlying28 rfl (by kernel_rfl)) hH ?_
    simp only [Act.put, List.getElem_toArray, List.getElem_cons_zero, List.getElem_cons_succ, List.setIfInBounds_toArray, List.set_cons_zero, List.set_cons_succ]
    refine wpAnyH_ready (rs := [4]) (by kernel_rfl) (by simp) ?_
    refine AllReadyH.cons (o := _) rfl (fun K hK => ?_) AllReadyH.nil
    simp only [List.getElem_toArray, List.getElem_cons_zero, List.getElem_cons_succ]
    go_simp
    with_reducible refine (at_s (j := 1) _ (by omega)).mono ?_
    rintro e w14 ⟨rfl, b14⟩
    dsimp only
    replace hrB := blk_u hrB b14
    replace hT := hT.below b14
    replace bel := bel.trans (b14.mono bel.size)
    clear b14
    refine hK.out _ _ hrB (fun hH15 => ?_)
    clear hK K
    refine wpAnyH_take (i := 5) (v := ?_) rfl (by kernel_rfl) (by kernel_rfl) (by kernel_rfl) (fun _ _ _ h => h) (Or.inl ⟨by rfl, ?_⟩) hH15 ?_
    rotate_left
    · ((intro W hW; clear hW; go_simp) <;> with_reducible rfl)
    simp only [Act.put, List.getElem_toArray, List.getElem_cons_zero, List.getElem_cons_succ, List.setIfInBounds_toArray, List.set_cons_zero, List.set_cons_succ]
    refine wpAnyH_take (i := 6) (v := ?_) rfl (by kernel_rfl) (by kernel_rfl) (by kernel_rfl) (fun _ _ _ h => h) (Or.inl ⟨by rfl, ?_⟩) hH15 ?_
    rotate_left
    · ((intro W hW; clear hW; go_simp) <;> with_reducible rfl)
    simp only [Act.put, List.getElem_toArray, List.getElem_cons_zero, List.getElem_cons_succ, List.setIfInBounds_toArray, List.set_cons_zero, List.set_cons_succ]
    refine wpAnyH_take (i := 7) (v := ?_) rfl (by kernel_rfl) (by kernel_rfl) (by kernel_rfl) (fun _ _ _ h => h) (Or.inl ⟨by rfl, ?_⟩) hH15 ?_
    rotate_left
    · ((intro W hW; clear hW; go_simp) <;> with_reducible rfl)
    simp only [Act.put, List.getElem_toArray, List.getElem_cons_zero, List.getElem_cons_succ, List.setIfInBounds_toArray, List.set_cons_zero, List.set_cons_succ]
    refine wpAnyH_done (by kernel_rfl) ?_ _
    go_wp2_with fail
    go_ret
    exact ⟨rfl, bel⟩
  by_cases hin : want < 100 + n
  rotate_left
  · by_cases hl : later < secs
    · have HZ : Hid (want < 100 ∨ 100 + (q : Int) < want) := Lib.hid (by have := HQ.out; omega)
      have HO := Lib.hid (keeps_2 (q := q) (secs := secs) (wa := (atA want)) HQ0.out Hc5.out Hc6.out hl)
      replace hin : decide (want < 100 + n) = false := decide_eq_false hin
      have r93 : ∀ W, (binOp .eql 28 (.agg #[.int .u8 ((nA 1).a.toNat : Int), .int .u8 ((nA 1).b.toNat : Int), .int .u8 ((nA 1).c.toNat : Int), .int .u8 ((nA 1).d.toNat : Int)]) (.agg #[.int .u8 ((nA 1).a.toNat : Int), .int .u8 ((nA 1).b.toNat : Int), .int .u8 ((nA 1).c.toNat : Int), .int .u8 ((nA 1).d.toNat : Int)])).run Try.prog W = .ok (.bool true) W := fun W => by have h_ := eqa_b (nA 1) (nA 1) W; rw [Ad4.eqB_self] at h_; exact h_
      go_wp2_with fail
      with_reducible refine (mac_k 1 _).mono ?_
      rintro e w8 ⟨rfl, b8⟩
      replace hT := hT.below b8
      replace bel := bel.trans (b8.mono bel.size)
      clear b8
      go_wp2_with fail
      with_reducible refine (at_k want _).mono ?_
      rintro e w9 ⟨rfl, b9⟩
      replace hT := hT.below b9
      replace bel := bel.trans (b9.mono bel.size)
      clear b9
      go_wp2_with fail
      with_reducible refine (poffer_any (a := (nA 1)) (r := 0) _ _ _ _ hT HO.out).mono ?_
      rintro e w10 ⟨rfl, hT_, k_, bb⟩
      clear hT
      have hT := hT_
      replace bel := bel.trans bb
      clear bb k_ hT_
      go_wp2_with (first | ((with_reducible show wpList _ _ _ (⟨some 11, _, _, _, _, _⟩ :: _) _ _); refine wpList_new_a rfl 28 rfl #[.int .u8 0, .int .u8 0, .int .u8 0, .int .u8 0] (by kernel_rfl) ?_; intro g11 w11 ge hh bb; have orB := Nat.le_trans bel.size ge; replace hT := hT.below bb; replace bel := bel.trans (bb.mono bel.size); have hrB := hh; clear hh ge bb) | ((with_reducible show wpList _ _ _ (⟨none, Op.store _ (.tmp 11) _, _, _, _, _⟩ :: _) _ _); refine wpList_store_blk rfl 28 (.tmp 11) (.tmp 71) rfl g11 rfl _ rfl _ 28 hrB (by rfl) (by kernel_rfl) (by kernel_rfl) ?_; intro w12 hq gr; replace hT := hT.grown gr hrB (by decide) (by decide); replace bel := below_grown bel gr orB bel.size; clear hrB; have hrB := hq; clear hq gr))
      replace bel := bel.drew
      replace hrB : w12.drew.heap[g11]? = _ := hrB
      replace hT := pl_drew hT
      refine wp_region_held_drew (S := fun W => W.heap[g11]? = some (.cells #[.int .u8 ((nA 1).a.toNat : Int), .int .u8 ((nA 1).b.toNat : Int), .int .u8 ((nA 1).c.toNat : Int), .int .u8 ((nA 1).d.toNat : Int)] 28 (0, 0))) (by kernel_rfl) hrB (fun hH => ?_)
      generalize w12.drew = w13 at bel hrB hT hH ⊢
      refine wpAnyH_take (i := 0) (v := ?_) rfl (by kernel_rfl) (by kernel_rfl) (by kernel_rfl) (fun _ _ _ h => h) (Or.inl ⟨by rfl, ?_⟩) hH ?_
      rotate_left
      · ((intro W hW; clear hW; go_simp) <;> with_reducible rfl)
      simp only [Act.put, List.getElem_toArray, List.getElem_cons_zero, List.setIfInBounds_toArray, List.set_cons_zero, List.set_cons_succ]
      refine wpAnyH_take (i := 1) (v := ?_) rfl (by kernel_rfl) (by kernel_rfl) (by kernel_rfl) (fun _ _ _ h => h) (Or.inl ⟨by rfl, ?_⟩) hH ?_
      rotate_left
      · ((intro W hW; clear hW; go_simp) <;> with_reducible rfl)
      simp only [Act.put, List.getElem_toArray, List.getElem_cons_zero, List.getElem_cons_succ, List.setIfInBounds_toArray, List.set_cons_zero, List.set_cons_succ]
      refine wpAnyH_take (i := 2) (v := ?_) rfl (by kernel_rfl) (by kernel_rfl) (by kernel_rfl) (fun _ _ _ h => h) (Or.inl ⟨by rfl, ?_⟩) hH ?_
      rotate_left
      · ((intro W hW; clear hW; go_simp) <;> with_reducible rfl)
      simp only [Act.put, List.getElem_toArray, List.getElem_cons_zero, List.getElem_cons_succ, List.setIfInBounds_toArray, List.set_cons_zero, List.set_cons_succ]
      refine wpAnyH_take (i := 3) (v := .agg #[.int .u8 ((nA 1).a.toNat : Int), .int .u8 ((nA 1).b.toNat : Int), .int .u8 ((nA 1).c.toNat : Int), .int .u8 ((nA 1).d.toNat : Int)]) rfl (by kernel_rfl) (by kernel_rfl) (by kernel_rfl) (fun _ _ _ h => h) (yieldsIf_load_part (by kernel_rfl) 28 _ rfl g11 0 4 rfl _ 28 (0, 0) (fun W hW => hW) _ rfl _ Try.underlying28 rfl (by kernel_rfl)) hH ?_
      simp only [Act.put, List.getElem_toArray, List.getElem_cons_zero, List.getElem_cons_succ, List.setIfInBounds_toArray, List.set_cons_zero, List.set_cons_succ]
      refine wpAnyH_ready (rs := [4]) (by kernel_rfl) (by simp) ?_
      refine AllReadyH.cons (o := _) rfl (fun K hK => ?_) AllReadyH.nil
      simp only [List.getElem_toArray, List.getElem_cons_zero, List.getElem_cons_succ]
      go_simp
      with_reducible refine (at_s (j := 1) _ (by omega)).mono ?_
      rintro e w14 ⟨rfl, b14⟩
      dsimp only
      replace hrB := blk_u hrB b14
      replace hT := hT.below b14
      replace bel := bel.trans (b14.mono bel.size)
      clear b14
      refine hK.out _ _ hrB (fun hH15 => ?_)
      clear hK K
      refine wpAnyH_take (i := 5) (v := ?_) rfl (by kernel_rfl) (by kernel_rfl) (by kernel_rfl) (fun _ _ _ h => h) (Or.inl ⟨by rfl, ?_⟩) hH15 ?_
      rotate_left
      · ((intro W hW; clear hW; go_simp) <;> with_reducible rfl)
      simp only [Act.put, List.getElem_toArray, List.getElem_cons_zero, List.getElem_cons_succ, List.setIfInBounds_toArray, List.set_cons_zero, List.set_cons_succ]
      refine wpAnyH_take (i := 6) (v := ?_) rfl (by kernel_rfl) (by kernel_rfl) (by kernel_rfl) (fun _ _ _ h => h) (Or.inl ⟨by rfl, ?_⟩) hH15 ?_
      rotate_left
      · ((intro W hW; clear hW; go_simp) <;> with_reducible rfl)
      simp only [Act.put, List.getElem_toArray, List.getElem_cons_zero, List.getElem_cons_succ, List.setIfInBounds_toArray, List.set_cons_zero, List.set_cons_succ]
      refine wpAnyH_take (i := 7) (v := ?_) rfl (by kernel_rfl) (by kernel_rfl) (by kernel_rfl) (fun _ _ _ h => h) (Or.inl ⟨by rfl, ?_⟩) hH15 ?_
      rotate_left
      · ((intro W hW; clear hW; go_simp) <;> with_reducible rfl)
      simp only [Act.put, List.getElem_toArray, List.getElem_cons_zero, List.getElem_cons_succ, List.setIfInBounds_toArray, List.set_cons_zero, List.set_cons_succ]
      refine wpAnyH_done (by kernel_rfl) ?_ _
      go_wp2_with fail
      go_ret
      exact ⟨rfl, bel⟩
    have HZ : Hid (want < 100 ∨ 100 + (q : Int) < want) := Lib.hid (by have := HQ.out; omega)
    have HO := Lib.hid (keeps_4 HQ1.out HQ0.out Hc5.out Hc6.out (Int.not_lt.1 hl) w0 w1 HZ.out)
    replace hl : decide (later < secs) = false := decide_eq_false hl
    replace hin : decide (want < 100 + n) = false := decide_eq_false hin
    have r93 : ∀ W, (binOp .eql 28 (.agg #[.int .u8 ((nA 1).a.toNat : Int), .int .u8 ((nA 1).b.toNat : Int), .int .u8 ((nA 1).c.toNat : Int), .int .u8 ((nA 1).d.toNat : Int)]) (.agg #[.int .u8 ((nA 1).a.toNat : Int), .int .u8 ((nA 1).b.toNat : Int), .int .u8 ((nA 1).c.toNat : Int), .int .u8 ((nA 1).d.toNat : Int)])).run Try.prog W = .ok (.bool true) W := fun W => by have h_ := eqa_b (nA 1) (nA 1) W; rw [Ad4.eqB_self] at h_; exact h_
    go_wp2_with fail
    with_reducible refine (mac_k 1 _).mono ?_
    rintro e w8 ⟨rfl, b8⟩
    replace hT := hT.below b8
    replace bel := bel.trans (b8.mono bel.size)
    clear b8
    go_wp2_with fail
    with_reducible refine (at_k want _).mono ?_
    rintro e w9 ⟨rfl, b9⟩
    replace hT := hT.below b9
    replace bel := bel.trans (b9.mono bel.size)
    clear b9
    go_wp2_with fail
    with_reducible refine (poffer_any (a := (nA 1)) (r := 0) _ _ _ _ hT HO.out).mono ?_
    rintro e w10 ⟨rfl, hT_, k_, bb⟩
    clear hT
    have hT := hT_
    replace bel := bel.trans bb
    clear bb k_ hT_
    go_wp2_with (first | ((with_reducible show wpList _ _ _ (⟨some 11, _, _, _, _, _⟩ :: _) _ _); refine wpList_new_a rfl 28 rfl #[.int .u8 0, .int .u8 0, .int .u8 0, .int .u8 0] (by kernel_rfl) ?_; intro g11 w11 ge hh bb; have orB := Nat.le_trans bel.size ge; replace hT := hT.below bb; replace bel := bel.trans (bb.mono bel.size); have hrB := hh; clear hh ge bb) | ((with_reducible show wpList _ _ _ (⟨none, Op.store _ (.tmp 11) _, _, _, _, _⟩ :: _) _ _); refine wpList_store_blk rfl 28 (.tmp 11) (.tmp 71) rfl g11 rfl _ rfl _ 28 hrB (by rfl) (by kernel_rfl) (by kernel_rfl) ?_; intro w12 hq gr; replace hT := hT.grown gr hrB (by decide) (by decide); replace bel := below_grown bel gr orB bel.size; clear hrB; have hrB := hq; clear hq gr))
    replace bel := bel.drew
    replace hrB : w12.drew.heap[g11]? = _ := hrB
    replace hT := pl_drew hT
    refine wp_region_held_drew (S := fun W => W.heap[g11]? = some (.cells #[.int .u8 ((nA 1).a.toNat : Int), .int .u8 ((nA 1).b.toNat : Int), .int .u8 ((nA 1).c.toNat : Int), .int .u8 ((nA 1).d.toNat : Int)] 28 (0, 0))) (by kernel_rfl) hrB (fun hH => ?_)
    generalize w12.drew = w13 at bel hrB hT hH ⊢
    refine wpAnyH_take (i := 0) (v := ?_) rfl (by kernel_rfl) (by kernel_rfl) (by kernel_rfl) (fun _ _ _ h => h) (Or.inl ⟨by rfl, ?_⟩) hH ?_
    rotate_left
    · ((intro W hW; clear hW; go_simp) <;> with_reducible rfl)
    simp only [Act.put, List.getElem_toArray, List.getElem_cons_zero, List.setIfInBounds_toArray, List.set_cons_zero, List.set_cons_succ]
    refine wpAnyH_take (i := 1) (v := ?_) rfl (by kernel_rfl) (by kernel_rfl) (by kernel_rfl) (fun _ _ _ h => h) (Or.inl ⟨by rfl, ?_⟩) hH ?_
    rotate_left
    · ((intro W hW; clear hW; go_simp) <;> with_reducible rfl)
    simp only [Act.put, List.getElem_toArray, List.getElem_cons_zero, List.getElem_cons_succ, List.setIfInBounds_toArray, List.set_cons_zero, List.set_cons_succ]
    refine wpAnyH_take (i := 2) (v := ?_) rfl (by kernel_rfl) (by kernel_rfl) (by kernel_rfl) (fun _ _ _ h => h) (Or.inl ⟨by rfl, ?_⟩) hH ?_
    rotate_left
    · ((intro W hW; clear hW; go_simp) <;> with_reducible rfl)
    simp only [Act.put, List.getElem_toArray, List.getElem_cons_zero, List.getElem_cons_succ, List.setIfInBounds_toArray, List.set_cons_zero, List.set_cons_succ]
    refine wpAnyH_take (i := 3) (v := .agg #[.int .u8 ((nA 1).a.toNat : Int), .int .u8 ((nA 1).b.toNat : Int), .int .u8 ((nA 1).c.toNat : Int), .int .u8 ((nA 1).d.toNat : Int)]) rfl (by kernel_rfl) (by kernel_rfl) (by kernel_rfl) (fun _ _ _ h => h) (yieldsIf_load_part (by kernel_rfl) 28 _ rfl g11 0 4 rfl _ 28 (0, 0) (fun W hW => hW) _ rfl _ Try.underlying28 rfl (by kernel_rfl)) hH ?_
    simp only [Act.put, List.getElem_toArray, List.getElem_cons_zero, List.getElem_cons_succ, List.setIfInBounds_toArray, List.set_cons_zero, List.set_cons_succ]
    refine wpAnyH_ready (rs := [4]) (by kernel_rfl) (by simp) ?_
    refine AllReadyH.cons (o := _) rfl (fun K hK => ?_) AllReadyH.nil
    simp only [List.getElem_toArray, List.getElem_cons_zero, List.getElem_cons_succ]
    go_simp
    with_reducible refine (at_s (j := 1) _ (by omega)).mono ?_
    rintro e w14 ⟨rfl, b14⟩
    dsimp only
    replace hrB := blk_u hrB b14
    replace hT := hT.below b14
    replace bel := bel.trans (b14.mono bel.size)
    clear b14
    refine hK.out _ _ hrB (fun hH15 => ?_)
    clear hK K
    refine wpAnyH_take (i := 5) (v := ?_) rfl (by kernel_rfl) (by kernel_rfl) (by kernel_rfl) (fun _ _ _ h => h) (Or.inl ⟨by rfl, ?_⟩) hH15 ?_
    rotate_left
    · ((intro W hW; clear hW; go_simp) <;> with_reducible rfl)
    simp only [Act.put, List.getElem_toArray, List.getElem_cons_zero, List.getElem_cons_succ, List.setIfInBounds_toArray, List.set_cons_zero, List.set_cons_succ]
    refine wpAnyH_take (i := 6) (v := ?_) rfl (by kernel_rfl) (by kernel_rfl) (by kernel_rfl) (fun _ _ _ h => h) (Or.inl ⟨by rfl, ?_⟩) hH15 ?_
    rotate_left
    · ((intro W hW; clear hW; go_simp) <;> with_reducible rfl)
    simp only [Act.put, List.getElem_toArray, List.getElem_cons_zero, List.getElem_cons_succ, List.setIfInBounds_toArray, List.set_cons_zero, List.set_cons_succ]
    refine wpAnyH_take (i := 7) (v := ?_) rfl (by kernel_rfl) (by kernel_rfl) (by kernel_rfl) (fun _ _ _ h => h) (Or.inl ⟨by rfl, ?_⟩) hH15 ?_
    rotate_left
    · ((intro W hW; clear hW; go_simp) <;> with_reducible rfl)
    simp only [Act.put, List.getElem_toArray, List.getElem_cons_zero, List.getElem_cons_succ, List.setIfInBounds_toArray, List.set_cons_zero, List.set_cons_succ]
    refine wpAnyH_done (by kernel_rfl) ?_ _
    go_wp2_with fail
    go_ret
    exact ⟨rfl, bel⟩
  by_cases hl : later < secs
  · obtain ⟨j, hj⟩ : ∃ j : Nat, want = 100 + (j : Int) := ⟨(want - 100).toNat, by omega⟩
    have HJ := Lib.hid hj
    have HJQ : Hid (j < q + 1) := Lib.hid (by have := HQ.out; omega)
    clear hj
    have HO := Lib.hid (keeps_2 (q := q) (secs := secs) (wa := (nA j)) HQ0.out Hc5.out Hc6.out hl)
    have r93 : ∀ W, (binOp .eql 28 (.agg #[.int .u8 ((nA 1).a.toNat : Int), .int .u8 ((nA 1).b.toNat : Int), .int .u8 ((nA 1).c.toNat : Int), .int .u8 ((nA 1).d.toNat : Int)]) (.agg #[.int .u8 ((nA 1).a.toNat : Int), .int .u8 ((nA 1).b.toNat : Int), .int .u8 ((nA 1).c.toNat : Int), .int .u8 ((nA 1).d.toNat : Int)])).run Try.prog W = .ok (.bool true) W := fun W => by have h_ := eqa_b (nA 1) (nA 1) W; rw [Ad4.eqB_self] at h_; exact h_
    go_wp2_with fail
    with_reducible refine (mac_k 1 _).mono ?_
    rintro e w8 ⟨rfl, b8⟩
    replace hT := hT.below b8
    replace bel := bel.trans (b8.mono bel.size)
    clear b8
    go_wp2_with fail
    with_reducible refine (at_s (j := j) _ (HJ.out)).mono ?_
    rintro e w9 ⟨rfl, b9⟩
    replace hT := hT.below b9
    replace bel := bel.trans (b9.mono bel.size)
    clear b9
    go_wp2_with fail
    with_reducible refine (poffer_any (a := (nA 1)) (r := 0) _ _ _ _ hT HO.out).mono ?_
    rintro e w10 ⟨rfl, hT_, k_, bb⟩
    clear hT
    have hT := hT_
    replace bel := bel.trans bb
    clear bb k_ hT_
    go_wp2_with (first | ((with_reducible show wpList _ _ _ (⟨some 11, _, _, _, _, _⟩ :: _) _ _); refine wpList_new_a rfl 28 rfl #[.int .u8 0, .int .u8 0, .int .u8 0, .int .u8 0] (by kernel_rfl) ?_; intro g11 w11 ge hh bb; have orB := Nat.le_trans bel.size ge; replace hT := hT.below bb; replace bel := bel.trans (bb.mono bel.size); have hrB := hh; clear hh ge bb) | ((with_reducible show wpList _ _ _ (⟨none, Op.store _ (.tmp 11) _, _, _, _, _⟩ :: _) _ _); refine wpList_store_blk rfl 28 (.tmp 11) (.tmp 71) rfl g11 rfl _ rfl _ 28 hrB (by rfl) (by kernel_rfl) (by kernel_rfl) ?_; intro w12 hq gr; replace hT := hT.grown gr hrB (by decide) (by decide); replace bel := below_grown bel gr orB bel.size; clear hrB; have hrB := hq; clear hq gr))
    replace bel := bel.drew
    replace hrB : w12.drew.heap[g11]? = _ := hrB
    replace hT := pl_drew hT
    refine wp_region_held_drew (S := fun W => W.heap[g11]? = some (.cells #[.int .u8 ((nA 1).a.toNat : Int), .int .u8 ((nA 1).b.toNat : Int), .int .u8 ((nA 1).c.toNat : Int), .int .u8 ((nA 1).d.toNat : Int)] 28 (0, 0))) (by kernel_rfl) hrB (fun hH => ?_)
    generalize w12.drew = w13 at bel hrB hT hH ⊢
    refine wpAnyH_take (i := 0) (v := ?_) rfl (by kernel_rfl) (by kernel_rfl) (by kernel_rfl) (fun _ _ _ h => h) (Or.inl ⟨by rfl, ?_⟩) hH ?_
    rotate_left
    · ((intro W hW; clear hW; go_simp) <;> with_reducible rfl)
    simp only [Act.put, List.getElem_toArray, List.getElem_cons_zero, List.setIfInBounds_toArray, List.set_cons_zero, List.set_cons_succ]
    refine wpAnyH_take (i := 1) (v := ?_) rfl (by kernel_rfl) (by kernel_rfl) (by kernel_rfl) (fun _ _ _ h => h) (Or.inl ⟨by rfl, ?_⟩) hH ?_
    rotate_left
    · ((intro W hW; clear hW; go_simp) <;> with_reducible rfl)
    simp only [Act.put, List.getElem_toArray, List.getElem_cons_zero, List.getElem_cons_succ, List.setIfInBounds_toArray, List.set_cons_zero, List.set_cons_succ]
    refine wpAnyH_take (i := 2) (v := ?_) rfl (by kernel_rfl) (by kernel_rfl) (by kernel_rfl) (fun _ _ _ h => h) (Or.inl ⟨by rfl, ?_⟩) hH ?_
    rotate_left
    · ((intro W hW; clear hW; go_simp) <;> with_reducible rfl)
    simp only [Act.put, List.getElem_toArray, List.getElem_cons_zero, List.getElem_cons_succ, List.setIfInBounds_toArray, List.set_cons_zero, List.set_cons_succ]
    refine wpAnyH_take (i := 3) (v := .agg #[.int .u8 ((nA 1).a.toNat : Int), .int .u8 ((nA 1).b.toNat : Int), .int .u8 ((nA 1).c.toNat : Int), .int .u8 ((nA 1).d.toNat : Int)]) rfl (by kernel_rfl) (by kernel_rfl) (by kernel_rfl) (fun _ _ _ h => h) (yieldsIf_load_part (by kernel_rfl) 28 _ rfl g11 0 4 rfl _ 28 (0, 0) (fun W hW => hW) _ rfl _ Try.underlying28 rfl (by kernel_rfl)) hH ?_
    simp only [Act.put, List.getElem_toArray, List.getElem_cons_zero, List.getElem_cons_succ, List.setIfInBounds_toArray, List.set_cons_zero, List.set_cons_succ]
    refine wpAnyH_ready (rs := [4]) (by kernel_rfl) (by simp) ?_
    refine AllReadyH.cons (o := _) rfl (fun K hK => ?_) AllReadyH.nil
    simp only [List.getElem_toArray, List.getElem_cons_zero, List.getElem_cons_succ]
    go_simp
    with_reducible refine (at_s (j := 1) _ (by omega)).mono ?_
    rintro e w14 ⟨rfl, b14⟩
    dsimp only
    replace hrB := blk_u hrB b14
    replace hT := hT.below b14
    replace bel := bel.trans (b14.mono bel.size)
    clear b14
    refine hK.out _ _ hrB (fun hH15 => ?_)
    clear hK K
    refine wpAnyH_take (i := 5) (v := ?_) rfl (by kernel_rfl) (by kernel_rfl) (by kernel_rfl) (fun _ _ _ h => h) (Or.inl ⟨by rfl, ?_⟩) hH15 ?_
    rotate_left
    · ((intro W hW; clear hW; go_simp) <;> with_reducible rfl)
    simp only [Act.put, List.getElem_toArray, List.getElem_cons_zero, List.getElem_cons_succ, List.setIfInBounds_toArray, List.set_cons_zero, List.set_cons_succ]
    refine wpAnyH_take (i := 6) (v := ?_) rfl (by kernel_rfl) (by kernel_rfl) (by kernel_rfl) (fun _ _ _ h => h) (Or.inl ⟨by rfl, ?_⟩) hH15 ?_
    rotate_left
    · ((intro W hW; clear hW; go_simp) <;> with_reducible rfl)
    simp only [Act.put, List.getElem_toArray, List.getElem_cons_zero, List.getElem_cons_succ, List.setIfInBounds_toArray, List.set_cons_zero, List.set_cons_succ]
    refine wpAnyH_take (i := 7) (v := ?_) rfl (by kernel_rfl) (by kernel_rfl) (by kernel_rfl) (fun _ _ _ h => h) (Or.inl ⟨by rfl, ?_⟩) hH15 ?_
    rotate_left
    · ((intro W hW; clear hW; go_simp) <;> with_reducible rfl)
    simp only [Act.put, List.getElem_toArray, List.getElem_cons_zero, List.getElem_cons_succ, List.setIfInBounds_toArray, List.set_cons_zero, List.set_cons_succ]
    refine wpAnyH_done (by kernel_rfl) ?_ _
    go_wp2_with fail
    go_ret
    exact ⟨rfl, bel⟩
  obtain ⟨j, hj⟩ : ∃ j : Nat, want = 100 + (j : Int) := ⟨(want - 100).toNat, by omega⟩
  have HJ := Lib.hid hj
  have HJQ : Hid (j < q + 1) := Lib.hid (by have := HQ.out; omega)
  clear hj
  have HO := Lib.hid (keeps_3 HQ1.out HJQ.out Hc5.out Hc6.out (Int.not_lt.1 hl))
  replace hl : decide (later < secs) = false := decide_eq_false hl
  have r93 : ∀ W, (binOp .eql 28 (.agg #[.int .u8 ((nA j).a.toNat : Int), .int .u8 ((nA j).b.toNat : Int), .int .u8 ((nA j).c.toNat : Int), .int .u8 ((nA j).d.toNat : Int)]) (.agg #[.int .u8 ((nA j).a.toNat : Int), .int .u8 ((nA j).b.toNat : Int), .int .u8 ((nA j).c.toNat : Int), .int .u8 ((nA j).d.toNat : Int)])).run Try.prog W = .ok (.bool true) W := fun W => by have h_ := eqa_b (nA j) (nA j) W; rw [Ad4.eqB_self] at h_; exact h_
  go_wp2_with fail
  with_reducible refine (mac_k 1 _).mono ?_
  rintro e w8 ⟨rfl, b8⟩
  replace hT := hT.below b8
  replace bel := bel.trans (b8.mono bel.size)
  clear b8
  go_wp2_with fail
  with_reducible refine (at_s (j := j) _ (HJ.out)).mono ?_
  rintro e w9 ⟨rfl, b9⟩
  replace hT := hT.below b9
  replace bel := bel.trans (b9.mono bel.size)
  clear b9
  go_wp2_with fail
  with_reducible refine (poffer_any (a := (nA j)) (r := 0) _ _ _ _ hT HO.out).mono ?_
  rintro e w10 ⟨rfl, hT_, k_, bb⟩
  clear hT
  have hT := hT_
  replace bel := bel.trans bb
  clear bb k_ hT_
  go_wp2_with (first | ((with_reducible show wpList _ _ _ (⟨some 11, _, _, _, _, _⟩ :: _) _ _); refine wpList_new_a rfl 28 rfl #[.int .u8 0, .int .u8 0, .int .u8 0, .int .u8 0] (by kernel_rfl) ?_; intro g11 w11 ge hh bb; have orB := Nat.le_trans bel.size ge; replace hT := hT.below bb; replace bel := bel.trans (bb.mono bel.size); have hrB := hh; clear hh ge bb) | ((with_reducible show wpList _ _ _ (⟨none, Op.store _ (.tmp 11) _, _, _, _, _⟩ :: _) _ _); refine wpList_store_blk rfl 28 (.tmp 11) (.tmp 71) rfl g11 rfl _ rfl _ 28 hrB (by rfl) (by kernel_rfl) (by kernel_rfl) ?_; intro w12 hq gr; replace hT := hT.grown gr hrB (by decide) (by decide); replace bel := below_grown bel gr orB bel.size; clear hrB; have hrB := hq; clear hq gr))
  replace bel := bel.drew
  replace hrB : w12.drew.heap[g11]? = _ := hrB
  replace hT := pl_drew hT
  refine wp_region_held_drew (S := fun W => W.heap[g11]? = some (.cells #[.int .u8 ((nA j).a.toNat : Int), .int .u8 ((nA j).b.toNat : Int), .int .u8 ((nA j).c.toNat : Int), .int .u8 ((nA j).d.toNat : Int)] 28 (0, 0))) (by kernel_rfl) hrB (fun hH => ?_)
  generalize w12.drew = w13 at bel hrB hT hH ⊢
  refine wpAnyH_take (i := 0) (v := ?_) rfl (by kernel_rfl) (by kernel_rfl) (by kernel_rfl) (fun _ _ _ h => h) (Or.inl ⟨by rfl, ?_⟩) hH ?_
  rotate_left
  · ((intro W hW; clear hW; go_simp) <;> with_reducible rfl)
  simp only [Act.put, List.getElem_toArray, List.getElem_cons_zero, List.setIfInBounds_toArray, List.set_cons_zero, List.set_cons_succ]
  refine wpAnyH_take (i := 1) (v := ?_) rfl (by kernel_rfl) (by kernel_rfl) (by kernel_rfl) (fun _ _ _ h => h) (Or.inl ⟨by rfl, ?_⟩) hH ?_
  rotate_left
  · ((intro W hW; clear hW; go_simp) <;> with_reducible rfl)
  simp only [Act.put, List.getElem_toArray, List.getElem_cons_zero, List.getElem_cons_succ, List.setIfInBounds_toArray, List.set_cons_zero, List.set_cons_succ]
  refine wpAnyH_take (i := 2) (v := ?_) rfl (by kernel_rfl) (by kernel_rfl) (by kernel_rfl) (fun _ _ _ h => h) (Or.inl ⟨by rfl, ?_⟩) hH ?_
  rotate_left
  · ((intro W hW; clear hW; go_simp) <;> with_reducible rfl)
  simp only [Act.put, List.getElem_toArray, List.getElem_cons_zero, List.getElem_cons_succ, List.setIfInBounds_toArray, List.set_cons_zero, List.set_cons_succ]
  refine wpAnyH_take (i := 3) (v := .agg #[.int .u8 ((nA j).a.toNat : Int), .int .u8 ((nA j).b.toNat : Int), .int .u8 ((nA j).c.toNat : Int), .int .u8 ((nA j).d.toNat : Int)]) rfl (by kernel_rfl) (by kernel_rfl) (by kernel_rfl) (fun _ _ _ h => h) (yieldsIf_load_part (by kernel_rfl) 28 _ rfl g11 0 4 rfl _ 28 (0, 0) (fun W hW => hW) _ rfl _ Try.underlying28 rfl (by kernel_rfl)) hH ?_
  simp only [Act.put, List.getElem_toArray, List.getElem_cons_zero, List.getElem_cons_succ, List.setIfInBounds_toArray, List.set_cons_zero, List.set_cons_succ]
  refine wpAnyH_take (i := 4) (v := ?_) rfl (by kernel_rfl) (by kernel_rfl) (by kernel_rfl) (fun _ _ _ h => h) (Or.inl ⟨by rfl, ?_⟩) hH ?_
  rotate_left
  · ((intro W hW; clear hW; go_simp) <;> with_reducible rfl)
  simp only [Act.put, List.getElem_toArray, List.getElem_cons_zero, List.getElem_cons_succ, List.setIfInBounds_toArray, List.set_cons_zero, List.set_cons_succ]
  refine wpAnyH_ready (rs := [5]) (by kernel_rfl) (by simp) ?_
  refine AllReadyH.cons (o := _) rfl (fun K hK => ?_) AllReadyH.nil
  simp only [List.getElem_toArray, List.getElem_cons_zero, List.getElem_cons_succ]
  go_simp
  with_reducible refine (at_s (j := j) _ (HJ.out)).mono ?_
  rintro e w14 ⟨rfl, b14⟩
  dsimp only
  replace hrB := blk_u hrB b14
  replace hT := hT.below b14
  replace bel := bel.trans (b14.mono bel.size)
  clear b14
  refine hK.out _ _ hrB (fun hH15 => ?_)
  clear hK K
  refine wpAnyH_take (i := 6) (v := ?_) rfl (by kernel_rfl) (by kernel_rfl) (by kernel_rfl) (fun _ _ _ h => h) (Or.inl ⟨by rfl, ?_⟩) hH15 ?_
  rotate_left
  · ((intro W hW; clear hW; go_simp) <;> with_reducible rfl)
  simp only [Act.put, List.getElem_toArray, List.getElem_cons_zero, List.getElem_cons_succ, List.setIfInBounds_toArray, List.set_cons_zero, List.set_cons_succ]
  refine wpAnyH_take (i := 7) (v := ?_) rfl (by kernel_rfl) (by kernel_rfl) (by kernel_rfl) (fun _ _ _ h => h) (Or.inl ⟨by rfl, ?_⟩) hH15 ?_
  rotate_left
  · ((intro W hW; clear hW; go_simp) <;> with_reducible rfl)
  simp only [Act.put, List.getElem_toArray, List.getElem_cons_zero, List.getElem_cons_succ, List.setIfInBounds_toArray, List.set_cons_zero, List.set_cons_succ]
  refine wpAnyH_take (i := 8) (v := ?_) rfl (by kernel_rfl) (by kernel_rfl) (by kernel_rfl) (fun _ _ _ h => h) (Or.inl ⟨by rfl, ?_⟩) hH15 ?_
  rotate_left
  · ((intro W hW; clear hW; go_simp) <;> with_reducible rfl)
  simp only [Act.put, List.getElem_toArray, List.getElem_cons_zero, List.getElem_cons_succ, List.setIfInBounds_toArray, List.set_cons_zero, List.set_cons_succ]
  refine wpAnyH_done (by kernel_rfl) ?_ _
  go_wp2_with fail
  go_ret
  exact ⟨rfl, bel⟩
end Go.Proofs.Ythcjepafcemmnaa
