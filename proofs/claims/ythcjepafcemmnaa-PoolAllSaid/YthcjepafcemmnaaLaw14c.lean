/- PoolAll. -/
import Derived.Test.YthcjepafcemmnaaLaw14g
namespace Go.Proofs.Ythcjepafcemmnaa
open Go.RowKit

theorem adv_0 (hs : List (Mc6 × Ad4)) (l : List Sd) : (⟨0, hs, l⟩ : St).adv 0 = ⟨0, hs, l⟩ := by show (⟨padv 0 0, hs, l⟩ : St) = _; rw [padv_self]
theorem adv_60 (hs : List (Mc6 × Ad4)) (l : List Sd) : (⟨0, hs, l⟩ : St).adv 60 = ⟨60, hs, l⟩ := by show (⟨padv 0 60, hs, l⟩ : St) = _; rw [padv_0 (by decide) (by decide)]
theorem adv_6060 (hs : List (Mc6 × Ad4)) (l : List Sd) : (⟨60, hs, l⟩ : St).adv 60 = ⟨60, hs, l⟩ := by show (⟨padv 60 60, hs, l⟩ : St) = _; rw [padv_self]
/-- The first k are taken. -/
def allF (k : Nat) (j : Nat) : Sd := if j < k then ⟨macM (j : Int), nA j, 60, false, true, false, 0⟩ else nilF j
theorem allF_ad (k : Nat) : AdF (allF k) := fun j => by unfold allF; split <;> rfl
theorem allF_lt {k j : Nat} (h : j < k) : allF k j = ⟨macM (j : Int), nA j, 60, false, true, false, 0⟩ := if_pos h
theorem allF_ge {k j : Nat} (h : ¬ j < k) : allF k j = nilF j := if_neg h
theorem all_held {k j i : Nat} (hj : j < 256) (hi : i < 256) (hne : j < k → j ≠ i) : (allF k j).heldB (macM (i : Int)) 0 = false := by
  by_cases h : j < k
  · rw [allF_lt h]
    show (decide ((0 : Int) < 60) && (macM (j : Int)).eqB (macM (i : Int))) = false
    rw [macM_ne hj hi (hne h), Bool.and_false]
  · rw [allF_ge h]; exact slot0_held (Int.le_refl _)
theorem all_busy {k j : Nat} (h : j < k) : (allF k j).freeB 0 = false := by rw [allF_lt h]; rfl
theorem all_offer {n k : Nat} (hn : n ≤ 64) (hk : k < n) : offerS ⟨0, [], Rg n (allF k)⟩ (macM (k : Int)) Ad4.zero 0 = (nA k, 0) := by
  have h := rg_offer_best (n := n) (F := allF k) (now := 0) (t := 0) (m := macM (k : Int)) (wa := Ad4.zero) (i := k) hk (Rg.held_none fun j hj => by rw [padv_self]; exact all_held (by omega) (by omega) (fun h => by omega)) (zero_out (allF_ad k) (by omega)) (by
    rw [padv_self]
    refine Rg.best hk (by rw [allF_ge (by omega)]; exact slot0_free (Int.le_refl _)) (fun j hj hf => ?_)
    by_cases h : j < k
    · rw [all_busy h] at hf; cases hf
    · rw [allF_ge (by omega : ¬ k < k), allF_ge h]
      exact ⟨fun h2 => absurd h2 h, fun _ => Int.le_refl _⟩)
  rw [h, allF_ge (by omega)]; rfl
theorem all_take {n k : Nat} (hn : n ≤ 64) (hk : k < n) : takeS ⟨0, [], Rg n (allF k)⟩ (macM (k : Int)) (nA k) 0 60 = (0, ⟨0, [], Rg n (allF (k + 1))⟩) := by
  have h := rg_take (n := n) (F := allF k) (now := 0) (t := 0) (m := macM (k : Int)) (i := k) (secs := 60) (allF_ad k) (by omega) hk (by rw [allF_ge (by omega)]; rfl) (by decide) (by rw [padv_self, allF_ge (by omega)]; exact slot0_free (Int.le_refl _)) (Rg.held_none fun j hj => by rw [padv_self]; exact all_held (by omega) (by omega) (fun h => by omega))
  rw [h, padv_self]
  congr 2
  apply Rg.congr
  intro j hj
  by_cases e : j = k
  · subst e
    rw [upF_at, allF_ge (k := j) (j := j) (by omega), allF_lt (k := j + 1) (j := j) (by omega)]
    rfl
  · rw [upF_no e]
    by_cases h1 : j < k
    · rw [allF_lt h1, allF_lt (by omega)]
    · rw [allF_ge h1, allF_ge (by omega)]
theorem all_full {n : Nat} (hn : n ≤ 64) : offerS ⟨0, [], Rg n (allF n)⟩ (macM 200) Ad4.zero 0 = (Ad4.zero, 7) :=
  rg_offer_full (Rg.held_none fun j hj => by rw [padv_self]; exact all_held (i := 200) (by omega) (by omega) (fun _ => by omega)) (zero_out (allF_ad n) (by omega)) (by rw [padv_self]; exact Rg.full (fun j hj => all_busy hj) _)
/-- All taken, one ended. -/
def endF (n e : Nat) : Nat → Sd := upF (allF n) e { allF n e with u := 0 }
theorem endF_ad (n e : Nat) : AdF (endF n e) := upF_ad (allF_ad n) rfl
theorem endF_no {n e j : Nat} (h : j ≠ e) : endF n e j = allF n j := upF_no h
theorem endF_at {n e : Nat} (h : e < n) : endF n e e = ⟨macM (e : Int), nA e, 0, false, true, false, 0⟩ := by unfold endF; rw [upF_at, allF_lt h]
theorem all_end {n e : Nat} (hn : n ≤ 64) (he : e < n) : endB ⟨0, [], Rg n (allF n)⟩ (macM (e : Int)) (nA e) = true ∧ endS ⟨0, [], Rg n (allF n)⟩ (macM (e : Int)) (nA e) = ⟨0, [], Rg n (endF n e)⟩ :=
  rg_end (allF_ad n) (by omega) he (by rw [allF_lt he]) (by rw [allF_lt he]; exact Mc6.eqB_self _)
theorem end_held {n e i : Nat} (hn : n ≤ 64) (he : e < n) (hi : i < 256) (hne : ∀ j, j < n → j ≠ e → j ≠ i) : hldF (macM (i : Int)) 0 (Rg n (endF n e)) = none := Rg.held_none fun j hj => by
  by_cases h : j = e
  · subst h; rw [endF_at he]; rfl
  · rw [endF_no h]; exact all_held (by omega) hi (fun _ => hne j hj h)
theorem end_best {n e : Nat} (he : e < n) {m : Mc6} : bestF m 0 (Rg n (endF n e)) (Rg n (endF n e)).length = some e := Rg.best he (by rw [endF_at he]; rfl) fun j hj hf => by
  by_cases h : j = e
  · omega
  · rw [endF_no h, all_busy hj] at hf; cases hf
theorem end_offer {n e i : Nat} (hn : n ≤ 64) (he : e < n) (hi : i < 256) (hne : ∀ j, j < n → j ≠ e → j ≠ i) : offerS ⟨0, [], Rg n (endF n e)⟩ (macM (i : Int)) Ad4.zero 0 = (nA e, 0) := by
  have h := rg_offer_best (n := n) (F := endF n e) (now := 0) (t := 0) (m := macM (i : Int)) (wa := Ad4.zero) (i := e) he (by rw [padv_self]; exact end_held hn he hi hne) (zero_out (endF_ad n e) (by omega)) (by rw [padv_self]; exact end_best he)
  rw [h, endF_at he]
theorem end_o2 {n e : Nat} (hn : n ≤ 64) (he : e < n) : offerS ⟨0, [], Rg n (endF n e)⟩ (macM 200) Ad4.zero 0 = (nA e, 0) := end_offer (i := 200) hn he (by omega) (fun j hj _ => by omega)
theorem end_o3 {n e : Nat} (hn : n ≤ 64) (he : e < n) : offerS ⟨0, [], Rg n (endF n e)⟩ (macM (e : Int)) Ad4.zero 0 = (nA e, 0) := end_offer hn he (by omega) (fun j _ h => h)
theorem cnt_ne (e : Nat) : ∀ n, ((List.range n).filter (fun j => decide (j ≠ e))).length = if e < n then n - 1 else n := by
  intro n
  induction n with
  | zero => rfl
  | succ n ih =>
    rw [List.range_succ, List.filter_append, List.length_append, ih]
    by_cases h : n = e
    · subst h; simp
    · have h2 : ([n].filter (fun j => decide (j ≠ e))).length = 1 := by simp [h]
      rw [h2]
      by_cases h3 : e < n
      · rw [if_pos h3, if_pos (by omega)]; omega
      · rw [if_neg h3, if_neg (by omega)]
theorem Rg.filt {n : Nat} {F : Nat → Sd} {p : Sd → Bool} : ((Rg n F).filter p).length = ((List.range n).filter (fun j => p (F j))).length := by
  unfold Rg
  rw [List.filter_map, List.length_map]; rfl
theorem end_all {q e : Nat} (he : e < q + 1) : ∃ ls, allO ((⟨0, [], Rg (q + 1) (endF (q + 1) e)⟩ : St).adv 0).now (Rg (q + 1) (endF (q + 1) e)) = ls ∧ ls.length = q := by
  refine ⟨_, rfl, ?_⟩
  rw [adv_0]
  show (((Rg (q + 1) (endF (q + 1) e)).filter _).map _).length = q
  rw [List.length_map, Rg.filt, show (List.range (q + 1)).filter (fun j => (endF (q + 1) e j).liveB 0) = (List.range (q + 1)).filter (fun j => decide (j ≠ e)) from ?_, cnt_ne, if_pos he]
  · omega
  · apply List.filter_congr
    intro j hj
    have hj := List.mem_range.1 hj
    by_cases h : j = e
    · subst h; rw [endF_at he]; simp [Sd.liveB]
    · rw [endF_no h, allF_lt hj]; simp [Sd.liveB, h]
theorem end_live {n e j : Nat} (he : e < n) (hj : j < n) : (endF n e j).liveB 60 = false ∧ (endF n e j).le = true ∧ (endF n e j).rp = false := by
  by_cases h : j = e
  · subst h; rw [endF_at he]; exact ⟨rfl, rfl, rfl⟩
  · rw [endF_no h, allF_lt hj]; exact ⟨rfl, rfl, rfl⟩
theorem end_all60 {n e : Nat} (he : e < n) : allO ((⟨0, [], Rg n (endF n e)⟩ : St).adv 60).now (Rg n (endF n e)) = [] ∧ ([] : List Le).length = 0 := by
  refine ⟨?_, rfl⟩
  rw [adv_60]
  show ((Rg n (endF n e)).filter _).map _ = []
  rw [List.map_eq_nil_iff, List.filter_eq_nil_iff]
  intro x hx
  obtain ⟨j, hj⟩ := List.getElem?_of_mem hx
  obtain ⟨h1, rfl⟩ := Rg.of hj
  rw [(end_live he h1).1]; decide
theorem end_tick {n e : Nat} (he : e < n) : ∃ ls, tickO ((⟨60, [], Rg n (endF n e)⟩ : St).adv 60).now (Rg n (endF n e)) = ls ∧ ls.length = n := by
  refine ⟨_, rfl, ?_⟩
  rw [adv_6060]
  show (((Rg n (endF n e)).filter _).map _).length = n
  rw [List.length_map, Rg.filt, List.filter_eq_self.2 (fun j hj => ?_), List.length_range]
  have h := end_live he (List.mem_range.1 hj)
  unfold Sd.overB
  rw [h.1, h.2.1, h.2.2]; rfl
set_option linter.unusedVariables false in
set_option linter.unusedSimpArgs false in
set_option maxRecDepth 100000 in
set_option maxHeartbeats 16000000 in
theorem poolAll_walk (n ed : Int) (w : World) : Calls Try.prog 5 #[.int .i64 n, .int .i64 ed] w fun e w' => e = .returned (.bool true) ∧ Below w.heap.size w w' := by
  have bel := Below.refl w.heap.size w
  go_enter Try.func5, Try.ntmps5
  go_wp2_with fail
  with_reducible refine (awake_any _).mono ?_
  rintro e w1 ⟨rfl, b1⟩
  replace bel := bel.trans (b1.mono bel.size)
  clear b1
  by_cases c1 : n < 1
  · go_wp2_with fail
    go_ret
    exact ⟨rfl, bel⟩
  have Hc1 : Hid (1 ≤ n) := Lib.hid (by omega)
  replace c1 : decide (n < 1) = false := decide_eq_false c1
  by_cases c2 : 64 < n
  · go_wp2_with fail
    go_ret
    exact ⟨rfl, bel⟩
  have Hc2 : Hid (n ≤ 64) := Lib.hid (by omega)
  replace c2 : decide (64 < n) = false := decide_eq_false c2
  by_cases c3 : ed < 0
  · go_wp2_with fail
    go_ret
    exact ⟨rfl, bel⟩
  have Hc3 : Hid (0 ≤ ed) := Lib.hid (by omega)
  replace c3 : decide (ed < 0) = false := decide_eq_false c3
  by_cases c4 : n ≤ ed
  · go_wp2_with fail
    go_ret
    exact ⟨rfl, bel⟩
  have Hc4 : Hid (ed < n) := Lib.hid (by omega)
  replace c4 : decide (n ≤ ed) = false := decide_eq_false c4
  obtain ⟨q, hq⟩ : ∃ q : Nat, n = (q : Int) + 1 := ⟨(n - 1).toNat, by have := Hc1.out; omega⟩
  obtain ⟨e, he⟩ : ∃ e : Nat, ed = (e : Int) := ⟨ed.toNat, by have := Hc3.out; omega⟩
  have HQ := Lib.hid hq
  have HE := Lib.hid he
  have HQ1 : Hid (q + 1 ≤ 64) := Lib.hid (by have := Hc2.out; omega)
  have HEQ : Hid (e < q + 1) := Lib.hid (by have := Hc4.out; omega)
  have n0 : 1 ≤ n := Hc1.out
  have n1 : n ≤ 64 := Hc2.out
  have e0 : 0 ≤ ed := Hc3.out
  have e1 : ed < n := Hc4.out
  have hw1 : IntKind.i64.wrap (99 + n) = 99 + n := IntWalk.i64_in _ (by omega)
  have hw2 : IntKind.i64.wrap (100 + ed) = 100 + ed := IntWalk.i64_in _ (by omega)
  clear hq he
  go_wp2_with fail
  with_reducible refine (at_s (j := 0) _ (by omega)).mono ?_
  rintro e w2 ⟨rfl, b2⟩
  replace bel := bel.trans (b2.mono bel.size)
  clear b2
  go_wp2_with fail
  with_reducible refine (at_s (j := q) _ (by have := HQ.out; omega)).mono ?_
  rintro e w3 ⟨rfl, b3⟩
  replace bel := bel.trans (b3.mono bel.size)
  clear b3
  go_wp2_with fail
  have HLO_ := bel.size
  with_reducible refine (pnew_nil (x := nA 0) (y := nA q) _ (new_ok (q := q) (by have := HQ1.out; omega)).1 (new_ok (q := q) (by have := HQ1.out; omega)).2).mono ?_
  rintro e w4 ⟨gt, rfl, hT, b4⟩
  replace bel := bel.trans (b4.mono bel.size)
  clear b4
  rw [pool_new (q := q) (by have := HQ1.out; omega)] at hT
  replace hT : Pl w.heap.size gt w4 ⟨0, [], Rg (q + 1) (allF 0)⟩ := hT.lo_mono HLO_
  clear HLO_
  go_wp2_with fail
  go_loopg [7] (q + 1) (fun gk s7 wr => ∃ k : Nat, gk = q + 1 - k ∧ k ≤ q + 1 ∧ Pl w.heap.size gt wr ⟨0, [], Rg (q + 1) (allF k)⟩ ∧ s7 = .int .i64 (k : Int) ∧ Below w.heap.size w wr)
  case atStart => exact ⟨0, Nat.sub_zero _, Nat.zero_le _, hT, rfl, bel⟩
  case round =>
    clear hT bel
    obtain ⟨k, HGK, hkq, hT, rfl, bel⟩ := hrel
    have HGK_ := Lib.hid HGK
    clear HGK
    by_cases h : (k : Int) < n
    · have hk : k < q + 1 := by have := HQ.out; omega
      have HK := Lib.hid hk
      have k0 : (0 : Int) ≤ k := by omega
      have k1 : (k : Int) < 64 := by omega
      have hw3 : IntKind.i64.wrap (100 + (k : Int)) = 100 + k := IntWalk.i64_in _ (by omega)
      have HO := Lib.hid (all_offer HQ1.out HK.out)
      have HTK := Lib.hid (all_take HQ1.out HK.out)
      clear hk
      have r61 : ∀ W, (binOp .neq 28 (.agg #[.int .u8 ((nA k).a.toNat : Int), .int .u8 ((nA k).b.toNat : Int), .int .u8 ((nA k).c.toNat : Int), .int .u8 ((nA k).d.toNat : Int)]) (.agg #[.int .u8 ((nA k).a.toNat : Int), .int .u8 ((nA k).b.toNat : Int), .int .u8 ((nA k).c.toNat : Int), .int .u8 ((nA k).d.toNat : Int)])).run Try.prog W = .ok (.bool false) W := fun W => by have h_ := nea_b (nA k) (nA k) W; rw [Ad4.eqB_self] at h_; exact h_
      go_wp2_with fail
      with_reducible refine (mac_n (k := k) _ rfl).mono ?_
      rintro e w5 ⟨rfl, b5⟩
      replace hT := hT.below b5
      replace bel := bel.trans (b5.mono bel.size)
      clear b5
      go_wp2_with fail
      with_reducible refine (poffer_z (a := (nA k)) (r := 0) _ () hT HO.out).mono ?_
      rintro e w6 ⟨rfl, hT_, k_, bb⟩
      clear hT
      have hT := hT_
      replace bel := bel.trans bb
      clear bb k_ hT_
      rw [adv_0] at hT
      go_wp2_with (first | ((with_reducible show wpList _ _ _ (⟨some 8, _, _, _, _, _⟩ :: _) _ _); refine wpList_new_a rfl 28 rfl #[.int .u8 0, .int .u8 0, .int .u8 0, .int .u8 0] (by kernel_rfl) ?_; intro g8 w7 ge hh bb; have oaB := Nat.le_trans bel.size ge; replace hT := hT.below bb; replace bel := bel.trans (bb.mono bel.size); have haB := hh; clear hh ge bb) | ((with_reducible show wpList _ _ _ (⟨none, Op.store _ (.tmp 8) _, _, _, _, _⟩ :: _) _ _); refine wpList_store_blk rfl 28 (.tmp 8) (.tmp 52) rfl g8 rfl _ rfl _ 28 haB (by rfl) (by kernel_rfl) (by kernel_rfl) ?_; intro w8 hq gr; replace hT := hT.grown gr haB (by decide) (by decide); replace bel := below_grown bel gr oaB bel.size; clear haB; have haB := hq; clear hq gr))
      replace bel := bel.drew
      replace haB : w8.drew.heap[g8]? = _ := haB
      replace hT := pl_drew hT
      refine wp_region_held_drew (S := fun W => W.heap[g8]? = some (.cells #[.int .u8 ((nA k).a.toNat : Int), .int .u8 ((nA k).b.toNat : Int), .int .u8 ((nA k).c.toNat : Int), .int .u8 ((nA k).d.toNat : Int)] 28 (0, 0))) (by kernel_rfl) haB (fun hH => ?_)
      generalize w8.drew = w9 at bel haB hT hH ⊢
      refine wpAnyH_take (i := 0) (v := ?_) rfl (by kernel_rfl) (by kernel_rfl) (by kernel_rfl) (fun _ _ _ h => h) (Or.inl ⟨by rfl, ?_⟩) hH ?_
      rotate_left
      · ((intro W hW; clear hW; go_simp) <;> with_reducible rfl)
      simp only [Act.put, List.getElem_toArray, List.getElem_cons_zero, List.setIfInBounds_toArray, List.set_cons_zero, List.set_cons_succ]
      refine wpAnyH_take (i := 1) (v := ?_) rfl (by kernel_rfl) (by kernel_rfl) (by kernel_rfl) (fun _ _ _ h => h) (Or.inl ⟨by rfl, ?_⟩) hH ?_
      rotate_left
      · ((intro W hW; clear hW; go_simp) <;> with_reducible rfl)
      simp only [Act.put, List.getElem_toArray, List.getElem_cons_zero, List.getElem_cons_succ, List.setIfInBounds_toArray, List.set_cons_zero, List.set_cons_succ]
      refine wpAnyH_take (i := 2) (v := ?_) rfl (by kernel_rfl) (by kernel_rfl) (by kernel_rfl) (fun _ _ _ h => h) (Or.inl ⟨by rfl, ?_⟩) hH ?_
      rotate_left
      · ((intro W hW; clear hW; go_simp) <;> with_reducible rfl)
      simp only [Act.put, List.getElem_toArray, List.getElem_cons_zero, List.getElem_cons_succ, List.setIfInBounds_toArray, List.set_cons_zero, List.set_cons_succ]
      refine wpAnyH_take (i := 3) (v := .agg #[.int .u8 ((nA k).a.toNat : Int), .int .u8 ((nA k).b.toNat : Int), .int .u8 ((nA k).c.toNat : Int), .int .u8 ((nA k).d.toNat : Int)]) rfl (by kernel_rfl) (by kernel_rfl) (by kernel_rfl) (fun _ _ _ h => h) (yieldsIf_load_part (by kernel_rfl) 28 _ rfl g8 0 4 rfl _ 28 (0, 0) (fun W hW => hW) _ rfl _ Try.underlying28 rfl (by kernel_rfl)) hH ?_
      simp only [Act.put, List.getElem_toArray, List.getElem_cons_zero, List.getElem_cons_succ, List.setIfInBounds_toArray, List.set_cons_zero, List.set_cons_succ]
      refine wpAnyH_take (i := 4) (v := ?_) rfl (by kernel_rfl) (by kernel_rfl) (by kernel_rfl) (fun _ _ _ h => h) (Or.inl ⟨by rfl, ?_⟩) hH ?_
      rotate_left
      · ((intro W hW; clear hW; go_simp) <;> with_reducible rfl)
      simp only [Act.put, List.getElem_toArray, List.getElem_cons_zero, List.getElem_cons_succ, List.setIfInBounds_toArray, List.set_cons_zero, List.set_cons_succ]
      refine wpAnyH_take (i := 5) (v := ?_) rfl (by kernel_rfl) (by kernel_rfl) (by kernel_rfl) (fun _ _ _ h => h) (Or.inl ⟨by rfl, ?_⟩) hH ?_
      rotate_left
      · ((intro W hW; clear hW; go_simp) <;> with_reducible rfl)
      simp only [Act.put, List.getElem_toArray, List.getElem_cons_zero, List.getElem_cons_succ, List.setIfInBounds_toArray, List.set_cons_zero, List.set_cons_succ]
      refine wpAnyH_ready (rs := [6]) (by kernel_rfl) (by simp) ?_
      refine AllReadyH.cons (o := _) rfl (fun K hK => ?_) AllReadyH.nil
      simp only [List.getElem_toArray, List.getElem_cons_zero, List.getElem_cons_succ]
      go_simp
      with_reducible refine (at_s (j := k) _ rfl).mono ?_
      rintro e w10 ⟨rfl, b10⟩
      dsimp only
      replace haB := blk_u haB b10
      replace hT := hT.below b10
      replace bel := bel.trans (b10.mono bel.size)
      clear b10
      refine hK.out _ _ haB (fun hH11 => ?_)
      clear hK K
      refine wpAnyH_take (i := 7) (v := ?_) rfl (by kernel_rfl) (by kernel_rfl) (by kernel_rfl) (fun _ _ _ h => h) (Or.inl ⟨by rfl, ?_⟩) hH11 ?_
      rotate_left
      · ((intro W hW; clear hW; go_simp) <;> with_reducible rfl)
      simp only [Act.put, List.getElem_toArray, List.getElem_cons_zero, List.getElem_cons_succ, List.setIfInBounds_toArray, List.set_cons_zero, List.set_cons_succ]
      refine wpAnyH_take (i := 8) (v := ?_) rfl (by kernel_rfl) (by kernel_rfl) (by kernel_rfl) (fun _ _ _ h => h) (Or.inl ⟨by rfl, ?_⟩) hH11 ?_
      rotate_left
      · ((intro W hW; clear hW; go_simp) <;> with_reducible rfl)
      simp only [Act.put, List.getElem_toArray, List.getElem_cons_zero, List.getElem_cons_succ, List.setIfInBounds_toArray, List.set_cons_zero, List.set_cons_succ]
      refine wpAnyH_take (i := 9) (v := ?_) rfl (by kernel_rfl) (by kernel_rfl) (by kernel_rfl) (fun _ _ _ h => h) (Or.inl ⟨by rfl, ?_⟩) hH11 ?_
      rotate_left
      · ((intro W hW; clear hW; go_simp) <;> with_reducible rfl)
      simp only [Act.put, List.getElem_toArray, List.getElem_cons_zero, List.getElem_cons_succ, List.setIfInBounds_toArray, List.set_cons_zero, List.set_cons_succ]
      refine wpAnyH_take (i := 10) (v := ?_) rfl (by kernel_rfl) (by kernel_rfl) (by kernel_rfl) (fun _ _ _ h => h) (Or.inl ⟨by rfl, ?_⟩) hH11 ?_
      rotate_left
      · ((intro W hW; clear hW; go_simp) <;> with_reducible rfl)
      simp only [Act.put, List.getElem_toArray, List.getElem_cons_zero, List.getElem_cons_succ, List.setIfInBounds_toArray, List.set_cons_zero, List.set_cons_succ]
      refine wpAnyH_take (i := 11) (v := ?_) rfl (by kernel_rfl) (by kernel_rfl) (by kernel_rfl) (fun _ _ _ h => h) (Or.inl ⟨by rfl, ?_⟩) hH11 ?_
      rotate_left
      · ((intro W hW; clear hW; go_simp) <;> with_reducible rfl)
      simp only [Act.put, List.getElem_toArray, List.getElem_cons_zero, List.getElem_cons_succ, List.setIfInBounds_toArray, List.set_cons_zero, List.set_cons_succ]
      refine wpAnyH_take (i := 13) (v := .agg #[.int .u8 ((nA k).a.toNat : Int), .int .u8 ((nA k).b.toNat : Int), .int .u8 ((nA k).c.toNat : Int), .int .u8 ((nA k).d.toNat : Int)]) rfl (by kernel_rfl) (by kernel_rfl) (by kernel_rfl) (fun _ _ _ h => h) (yieldsIf_load_part (by kernel_rfl) 28 _ rfl g8 0 4 rfl _ 28 (0, 0) (fun W hW => hW) _ rfl _ Try.underlying28 rfl (by kernel_rfl)) hH11 ?_
      simp only [Act.put, List.getElem_toArray, List.getElem_cons_zero, List.getElem_cons_succ, List.setIfInBounds_toArray, List.set_cons_zero, List.set_cons_succ]
      refine wpAnyH_ready (rs := [12]) (by kernel_rfl) (by simp) ?_
      refine AllReadyH.cons (o := _) rfl (fun K hK => ?_) AllReadyH.nil
      simp only [List.getElem_toArray, List.getElem_cons_zero, List.getElem_cons_succ]
      go_simp
      with_reducible refine (mac_n (k := k) _ rfl).mono ?_
      rintro e w12 ⟨rfl, b12⟩
      dsimp only
      replace haB := blk_u haB b12
      replace hT := hT.below b12
      replace bel := bel.trans (b12.mono bel.size)
      clear b12
      refine hK.out _ _ haB (fun hH13 => ?_)
      clear hK K
      refine wpAnyH_ready (rs := [14]) (by kernel_rfl) (by simp) ?_
      refine AllReadyH.cons (o := _) rfl (fun K hK => ?_) AllReadyH.nil
      simp only [List.getElem_toArray, List.getElem_cons_zero, List.getElem_cons_succ]
      go_simp
      with_reducible refine (ptake_any (r := 0) _ _ _ _ _ hT HTK.out).mono ?_
      rintro e w14 ⟨rfl, hT_, k_, bb⟩
      dsimp only
      replace haB := Kt.blk k_ haB (by decide)
      clear hT
      have hT := hT_
      replace bel := bel.trans bb
      clear bb k_ hT_
      refine hK.out _ _ haB (fun hH15 => ?_)
      clear hK K
      refine wpAnyH_take (i := 15) (v := ?_) rfl (by kernel_rfl) (by kernel_rfl) (by kernel_rfl) (fun _ _ _ h => h) (Or.inl ⟨by rfl, ?_⟩) hH15 ?_
      rotate_left
      · ((intro W hW; clear hW; go_simp) <;> with_reducible rfl)
      simp only [Act.put, List.getElem_toArray, List.getElem_cons_zero, List.getElem_cons_succ, List.setIfInBounds_toArray, List.set_cons_zero, List.set_cons_succ]
      refine wpAnyH_take (i := 16) (v := ?_) rfl (by kernel_rfl) (by kernel_rfl) (by kernel_rfl) (fun _ _ _ h => h) (Or.inl ⟨by rfl, ?_⟩) hH15 ?_
      rotate_left
      · ((intro W hW; clear hW; go_simp) <;> with_reducible rfl)
      simp only [Act.put, List.getElem_toArray, List.getElem_cons_zero, List.getElem_cons_succ, List.setIfInBounds_toArray, List.set_cons_zero, List.set_cons_succ]
      refine wpAnyH_done (by kernel_rfl) ?_ _
      go_wp2_with fail
      go_roundg (q + 1 - (k + 1))
      case measure => have := HGK_.out; have := HK.out; omega
      case rel => exact ⟨k + 1, rfl, by have := HK.out; omega, hT, by go_num, bel⟩
    have hkq2 : k = q + 1 := by have := HQ.out; omega
    replace h : decide ((k : Int) < n) = false := decide_eq_false h
    rw [hkq2] at hT
    clear hkq2 hkq
    have HF := Lib.hid (all_full HQ1.out)
    have HEN := Lib.hid (all_end HQ1.out HEQ.out)
    have HO2 := Lib.hid (end_o2 HQ1.out HEQ.out)
    have HO3 := Lib.hid (end_o3 HQ1.out HEQ.out)
    obtain ⟨l1, hl1⟩ := end_all HEQ.out
    have HA1 := Lib.hid hl1
    have HA2 := Lib.hid (end_all60 HEQ.out)
    obtain ⟨nn, hnn⟩ : ∃ m, m = q + 1 := ⟨_, rfl⟩
    obtain ⟨l3, hl3⟩ := end_tick HEQ.out
    have HA3 : Hid (tickO ((⟨60, [], Rg (q + 1) (endF (q + 1) e)⟩ : St).adv 60).now (Rg (q + 1) (endF (q + 1) e)) = l3 ∧ l3.length = nn) := Lib.hid (hnn ▸ hl3)
    have hbn : ((nn : Int) == n) = true := by have := HQ.out; simp; omega
    have hwm : IntKind.i64.wrap (n - 1) = (q : Int) := by rw [show n - 1 = (q : Int) by have := HQ.out; omega]; exact IntWalk.i64_in _ (by have := HQ1.out; omega)
    clear hl1 hl3 hnn
    have r112 : ∀ W, (binOp .eql 28 (.agg #[.int .u8 ((nA e).a.toNat : Int), .int .u8 ((nA e).b.toNat : Int), .int .u8 ((nA e).c.toNat : Int), .int .u8 ((nA e).d.toNat : Int)]) (.agg #[.int .u8 ((nA e).a.toNat : Int), .int .u8 ((nA e).b.toNat : Int), .int .u8 ((nA e).c.toNat : Int), .int .u8 ((nA e).d.toNat : Int)])).run Try.prog W = .ok (.bool true) W := fun W => by have h_ := eqa_b (nA e) (nA e) W; rw [Ad4.eqB_self] at h_; exact h_
    have r121 : ∀ W, (binOp .eql 28 (.agg #[.int .u8 ((nA e).a.toNat : Int), .int .u8 ((nA e).b.toNat : Int), .int .u8 ((nA e).c.toNat : Int), .int .u8 ((nA e).d.toNat : Int)]) (.agg #[.int .u8 ((nA e).a.toNat : Int), .int .u8 ((nA e).b.toNat : Int), .int .u8 ((nA e).c.toNat : Int), .int .u8 ((nA e).d.toNat : Int)])).run Try.prog W = .ok (.bool true) W := fun W => by have h_ := eqa_b (nA e) (nA e) W; rw [Ad4.eqB_self] at h_; exact h_
    go_wp2_with fail
    with_reducible refine (mac_k 200 _).mono ?_
    rintro e w5 ⟨rfl, b5⟩
    replace hT := hT.below b5
    replace bel := bel.trans (b5.mono bel.size)
    clear b5
    go_wp2_with fail
    with_reducible refine (poffer_zf _ () hT HF.out).mono ?_
    rintro e w6 ⟨rfl, hT_, k_, bb⟩
    clear hT
    have hT := hT_
    replace bel := bel.trans bb
    clear bb k_ hT_
    rw [adv_0] at hT
    go_wp2_with fail
    with_reducible refine (mac_n (k := e) _ HE.out).mono ?_
    rintro e w7 ⟨rfl, b7⟩
    replace hT := hT.below b7
    replace bel := bel.trans (b7.mono bel.size)
    clear b7
    go_wp2_with fail
    with_reducible refine (at_s (j := e) _ (by have := HE.out; omega)).mono ?_
    rintro e w8 ⟨rfl, b8⟩
    replace hT := hT.below b8
    replace bel := bel.trans (b8.mono bel.size)
    clear b8
    go_wp2_with fail
    with_reducible refine (pend_any (b := true) _ _ _ hT HEN.out.1).mono ?_
    rintro e w9 ⟨rfl, hT_, k_, bb⟩
    clear hT
    have hT := hT_
    replace bel := bel.trans bb
    clear bb k_ hT_
    rw [HEN.out.2] at hT
    go_wp2_with fail
    with_reducible refine (mac_k 200 _).mono ?_
    rintro e w10 ⟨rfl, b10⟩
    replace hT := hT.below b10
    replace bel := bel.trans (b10.mono bel.size)
    clear b10
    go_wp2_with fail
    with_reducible refine (poffer_z (a := (nA e)) (r := 0) _ () hT HO2.out).mono ?_
    rintro e w11 ⟨rfl, hT_, k_, bb⟩
    clear hT
    have hT := hT_
    replace bel := bel.trans bb
    clear bb k_ hT_
    rw [adv_0] at hT
    go_wp2_with (first | ((with_reducible show wpList _ _ _ (⟨some 10, _, _, _, _, _⟩ :: _) _ _); refine wpList_new_a rfl 28 rfl #[.int .u8 0, .int .u8 0, .int .u8 0, .int .u8 0] (by kernel_rfl) ?_; intro g10 w12 ge hh bb; have obB := Nat.le_trans bel.size ge; replace hT := hT.below bb; replace bel := bel.trans (bb.mono bel.size); have hbB := hh; clear hh ge bb) | ((with_reducible show wpList _ _ _ (⟨none, Op.store _ (.tmp 10) _, _, _, _, _⟩ :: _) _ _); refine wpList_store_blk rfl 28 (.tmp 10) (.tmp 95) rfl g10 rfl _ rfl _ 28 hbB (by rfl) (by kernel_rfl) (by kernel_rfl) ?_; intro w13 hq gr; replace hT := hT.grown gr hbB (by decide) (by decide); replace bel := below_grown bel gr obB bel.size; clear hbB; have hbB := hq; clear hq gr))
    with_reducible refine (mac_n (k := e) _ HE.out).mono ?_
    rintro e w14 ⟨rfl, b14⟩
    replace hbB := blk_u hbB b14
    replace hT := hT.below b14
    replace bel := bel.trans (b14.mono bel.size)
    clear b14
    go_wp2_with fail
    with_reducible refine (poffer_z (a := (nA e)) (r := 0) _ () hT HO3.out).mono ?_
    rintro e w15 ⟨rfl, hT_, k_, bb⟩
    replace hbB := Kt.blk k_ hbB (by decide)
    clear hT
    have hT := hT_
    replace bel := bel.trans bb
    clear bb k_ hT_
    rw [adv_0] at hT
    go_wp2_with (first | ((with_reducible show wpList _ _ _ (⟨some 12, _, _, _, _, _⟩ :: _) _ _); refine wpList_new_a rfl 28 rfl #[.int .u8 0, .int .u8 0, .int .u8 0, .int .u8 0] (by kernel_rfl) ?_; intro g12 w16 ge hh bb; have d_bB_cB := ne_new (hlt hbB) ge; have ocB := Nat.le_trans bel.size ge; replace hbB := blk_u hbB bb; replace hT := hT.below bb; replace bel := bel.trans (bb.mono bel.size); have hcB := hh; clear hh ge bb) | ((with_reducible show wpList _ _ _ (⟨none, Op.store _ (.tmp 12) _, _, _, _, _⟩ :: _) _ _); refine wpList_store_blk rfl 28 (.tmp 12) (.tmp 103) rfl g12 rfl _ rfl _ 28 hcB (by rfl) (by kernel_rfl) (by kernel_rfl) ?_; intro w17 hq gr; replace hbB := blk_a hbB gr d_bB_cB; replace hT := hT.grown gr hcB (by decide) (by decide); replace bel := below_grown bel gr ocB bel.size; clear hcB; have hcB := hq; clear hq gr))
    replace bel := bel.drew
    replace hbB : w17.drew.heap[g10]? = _ := hbB
    replace hcB : w17.drew.heap[g12]? = _ := hcB
    replace hT := pl_drew hT
    refine wp_region_held_drew (S := fun W => W.heap[g10]? = some (.cells #[.int .u8 ((nA e).a.toNat : Int), .int .u8 ((nA e).b.toNat : Int), .int .u8 ((nA e).c.toNat : Int), .int .u8 ((nA e).d.toNat : Int)] 28 (0, 0)) ∧ W.heap[g12]? = some (.cells #[.int .u8 ((nA e).a.toNat : Int), .int .u8 ((nA e).b.toNat : Int), .int .u8 ((nA e).c.toNat : Int), .int .u8 ((nA e).d.toNat : Int)] 28 (0, 0))) (by kernel_rfl) ⟨hbB, hcB⟩ (fun hH => ?_)
    generalize w17.drew = w18 at bel hbB hcB hT hH ⊢
    refine wpAnyH_take (i := 0) (v := ?_) rfl (by kernel_rfl) (by kernel_rfl) (by kernel_rfl) (fun _ _ _ h => h) (Or.inl ⟨by rfl, ?_⟩) hH ?_
    rotate_left
    · ((intro W hW; clear hW; go_simp) <;> with_reducible rfl)
    simp only [Act.put, List.getElem_toArray, List.getElem_cons_zero, List.setIfInBounds_toArray, List.set_cons_zero, List.set_cons_succ]
    refine wpAnyH_take (i := 1) (v := ?_) rfl (by kernel_rfl) (by kernel_rfl) (by kernel_rfl) (fun _ _ _ h => h) (Or.inl ⟨by rfl, ?_⟩) hH ?_
    rotate_left
    · ((intro W hW; clear hW; go_simp) <;> with_reducible rfl)
    simp only [Act.put, List.getElem_toArray, List.getElem_cons_zero, List.getElem_cons_succ, List.setIfInBounds_toArray, List.set_cons_zero, List.set_cons_succ]
    refine wpAnyH_take (i := 2) (v := ?_) rfl (by kernel_rfl) (by kernel_rfl) (by kernel_rfl) (fun _ _ _ h => h) (Or.inl ⟨by rfl, ?_⟩) hH ?_
    rotate_left
    · ((intro W hW; clear hW; go_simp) <;> with_reducible rfl)
    simp only [Act.put, List.getElem_toArray, List.getElem_cons_zero, List.getElem_cons_succ, List.setIfInBounds_toArray, List.set_cons_zero, List.set_cons_succ]
    refine wpAnyH_take (i := 3) (v := .agg #[.int .u8 ((nA e).a.toNat : Int), .int .u8 ((nA e).b.toNat : Int), .int .u8 ((nA e).c.toNat : Int), .int .u8 ((nA e).d.toNat : Int)]) rfl (by kernel_rfl) (by kernel_rfl) (by kernel_rfl) (fun _ _ _ h => h) (yieldsIf_load_part (by kernel_rfl) 28 _ rfl g10 0 4 rfl _ 28 (0, 0) (fun W hW => hW.1) _ rfl _ Try.underlying28 rfl (by kernel_rfl)) hH ?_
    simp only [Act.put, List.getElem_toArray, List.getElem_cons_zero, List.getElem_cons_succ, List.setIfInBounds_toArray, List.set_cons_zero, List.set_cons_succ]
    refine wpAnyH_take (i := 4) (v := ?_) rfl (by kernel_rfl) (by kernel_rfl) (by kernel_rfl) (fun _ _ _ h => h) (Or.inl ⟨by rfl, ?_⟩) hH ?_
    rotate_left
    · ((intro W hW; clear hW; go_simp) <;> with_reducible rfl)
    simp only [Act.put, List.getElem_toArray, List.getElem_cons_zero, List.getElem_cons_succ, List.setIfInBounds_toArray, List.set_cons_zero, List.set_cons_succ]
    refine wpAnyH_take (i := 5) (v := ?_) rfl (by kernel_rfl) (by kernel_rfl) (by kernel_rfl) (fun _ _ _ h => h) (Or.inl ⟨by rfl, ?_⟩) hH ?_
    rotate_left
    · ((intro W hW; clear hW; go_simp) <;> with_reducible rfl)
    simp only [Act.put, List.getElem_toArray, List.getElem_cons_zero, List.getElem_cons_succ, List.setIfInBounds_toArray, List.set_cons_zero, List.set_cons_succ]
    refine wpAnyH_ready (rs := [6]) (by kernel_rfl) (by simp) ?_
    refine AllReadyH.cons (o := _) rfl (fun K hK => ?_) AllReadyH.nil
    simp only [List.getElem_toArray, List.getElem_cons_zero, List.getElem_cons_succ]
    go_simp
    with_reducible refine (at_s (j := e) _ (by have := HE.out; omega)).mono ?_
    rintro e w19 ⟨rfl, b19⟩
    dsimp only
    replace hbB := blk_u hbB b19
    replace hcB := blk_u hcB b19
    replace hT := hT.below b19
    replace bel := bel.trans (b19.mono bel.size)
    clear b19
    refine hK.out _ _ ⟨hbB, hcB⟩ (fun hH20 => ?_)
    clear hK K
    refine wpAnyH_take (i := 7) (v := ?_) rfl (by kernel_rfl) (by kernel_rfl) (by kernel_rfl) (fun _ _ _ h => h) (Or.inl ⟨by rfl, ?_⟩) hH20 ?_
    rotate_left
    · ((intro W hW; clear hW; go_simp) <;> with_reducible rfl)
    simp only [Act.put, List.getElem_toArray, List.getElem_cons_zero, List.getElem_cons_succ, List.setIfInBounds_toArray, List.set_cons_zero, List.set_cons_succ]
    refine wpAnyH_take (i := 8) (v := ?_) rfl (by kernel_rfl) (by kernel_rfl) (by kernel_rfl) (fun _ _ _ h => h) (Or.inl ⟨by rfl, ?_⟩) hH20 ?_
    rotate_left
    · ((intro W hW; clear hW; go_simp) <;> with_reducible rfl)
    simp only [Act.put, List.getElem_toArray, List.getElem_cons_zero, List.getElem_cons_succ, List.setIfInBounds_toArray, List.set_cons_zero, List.set_cons_succ]
    refine wpAnyH_take (i := 9) (v := ?_) rfl (by kernel_rfl) (by kernel_rfl) (by kernel_rfl) (fun _ _ _ h => h) (Or.inl ⟨by rfl, ?_⟩) hH20 ?_
    rotate_left
    · ((intro W hW; clear hW; go_simp) <;> with_reducible rfl)
    simp only [Act.put, List.getElem_toArray, List.getElem_cons_zero, List.getElem_cons_succ, List.setIfInBounds_toArray, List.set_cons_zero, List.set_cons_succ]
    refine wpAnyH_take (i := 10) (v := ?_) rfl (by kernel_rfl) (by kernel_rfl) (by kernel_rfl) (fun _ _ _ h => h) (Or.inl ⟨by rfl, ?_⟩) hH20 ?_
    rotate_left
    · ((intro W hW; clear hW; go_simp) <;> with_reducible rfl)
    simp only [Act.put, List.getElem_toArray, List.getElem_cons_zero, List.getElem_cons_succ, List.setIfInBounds_toArray, List.set_cons_zero, List.set_cons_succ]
    refine wpAnyH_take (i := 11) (v := ?_) rfl (by kernel_rfl) (by kernel_rfl) (by kernel_rfl) (fun _ _ _ h => h) (Or.inl ⟨by rfl, ?_⟩) hH20 ?_
    rotate_left
    · ((intro W hW; clear hW; go_simp) <;> with_reducible rfl)
    simp only [Act.put, List.getElem_toArray, List.getElem_cons_zero, List.getElem_cons_succ, List.setIfInBounds_toArray, List.set_cons_zero, List.set_cons_succ]
    refine wpAnyH_take (i := 12) (v := ?_) rfl (by kernel_rfl) (by kernel_rfl) (by kernel_rfl) (fun _ _ _ h => h) (Or.inl ⟨by rfl, ?_⟩) hH20 ?_
    rotate_left
    · ((intro W hW; clear hW; go_simp) <;> with_reducible rfl)
    simp only [Act.put, List.getElem_toArray, List.getElem_cons_zero, List.getElem_cons_succ, List.setIfInBounds_toArray, List.set_cons_zero, List.set_cons_succ]
    refine wpAnyH_take (i := 13) (v := ?_) rfl (by kernel_rfl) (by kernel_rfl) (by kernel_rfl) (fun _ _ _ h => h) (Or.inl ⟨by rfl, ?_⟩) hH20 ?_
    rotate_left
    · ((intro W hW; clear hW; go_simp) <;> with_reducible rfl)
    simp only [Act.put, List.getElem_toArray, List.getElem_cons_zero, List.getElem_cons_succ, List.setIfInBounds_toArray, List.set_cons_zero, List.set_cons_succ]
    refine wpAnyH_take (i := 14) (v := .agg #[.int .u8 ((nA e).a.toNat : Int), .int .u8 ((nA e).b.toNat : Int), .int .u8 ((nA e).c.toNat : Int), .int .u8 ((nA e).d.toNat : Int)]) rfl (by kernel_rfl) (by kernel_rfl) (by kernel_rfl) (fun _ _ _ h => h) (yieldsIf_load_part (by kernel_rfl) 28 _ rfl g12 0 4 rfl _ 28 (0, 0) (fun W hW => hW.2) _ rfl _ Try.underlying28 rfl (by kernel_rfl)) hH20 ?_
    simp only [Act.put, List.getElem_toArray, List.getElem_cons_zero, List.getElem_cons_succ, List.setIfInBounds_toArray, List.set_cons_zero, List.set_cons_succ]
    refine wpAnyH_take (i := 15) (v := .agg #[.int .u8 ((nA e).a.toNat : Int), .int .u8 ((nA e).b.toNat : Int), .int .u8 ((nA e).c.toNat : Int), .int .u8 ((nA e).d.toNat : Int)]) rfl (by kernel_rfl) (by kernel_rfl) (by kernel_rfl) (fun _ _ _ h => h) (yieldsIf_load_part (by kernel_rfl) 28 _ rfl g10 0 4 rfl _ 28 (0, 0) (fun W hW => hW.1) _ rfl _ Try.underlying28 rfl (by kernel_rfl)) hH20 ?_
    simp only [Act.put, List.getElem_toArray, List.getElem_cons_zero, List.getElem_cons_succ, List.setIfInBounds_toArray, List.set_cons_zero, List.set_cons_succ]
    refine wpAnyH_take (i := 16) (v := ?_) rfl (by kernel_rfl) (by kernel_rfl) (by kernel_rfl) (fun _ _ _ h => h) (Or.inl ⟨by rfl, ?_⟩) hH20 ?_
    rotate_left
    · ((intro W hW; clear hW; go_simp) <;> with_reducible rfl)
    simp only [Act.put, List.getElem_toArray, List.getElem_cons_zero, List.getElem_cons_succ, List.setIfInBounds_toArray, List.set_cons_zero, List.set_cons_succ]
    refine wpAnyH_take (i := 17) (v := ?_) rfl (by kernel_rfl) (by kernel_rfl) (by kernel_rfl) (fun _ _ _ h => h) (Or.inl ⟨by rfl, ?_⟩) hH20 ?_
    rotate_left
    · ((intro W hW; clear hW; go_simp) <;> with_reducible rfl)
    simp only [Act.put, List.getElem_toArray, List.getElem_cons_zero, List.getElem_cons_succ, List.setIfInBounds_toArray, List.set_cons_zero, List.set_cons_succ]
    refine wpAnyH_take (i := 18) (v := ?_) rfl (by kernel_rfl) (by kernel_rfl) (by kernel_rfl) (fun _ _ _ h => h) (Or.inl ⟨by rfl, ?_⟩) hH20 ?_
    rotate_left
    · ((intro W hW; clear hW; go_simp) <;> with_reducible rfl)
    simp only [Act.put, List.getElem_toArray, List.getElem_cons_zero, List.getElem_cons_succ, List.setIfInBounds_toArray, List.set_cons_zero, List.set_cons_succ]
    refine wpAnyH_take (i := 19) (v := ?_) rfl (by kernel_rfl) (by kernel_rfl) (by kernel_rfl) (fun _ _ _ h => h) (Or.inl ⟨by rfl, ?_⟩) hH20 ?_
    rotate_left
    · ((intro W hW; clear hW; go_simp) <;> with_reducible rfl)
    simp only [Act.put, List.getElem_toArray, List.getElem_cons_zero, List.getElem_cons_succ, List.setIfInBounds_toArray, List.set_cons_zero, List.set_cons_succ]
    refine wpAnyH_take (i := 22) (v := ?_) rfl (by kernel_rfl) (by kernel_rfl) (by kernel_rfl) (fun _ _ _ h => h) (Or.inl ⟨by rfl, ?_⟩) hH20 ?_
    rotate_left
    · ((intro W hW; clear hW; go_simp) <;> with_reducible rfl)
    simp only [Act.put, List.getElem_toArray, List.getElem_cons_zero, List.getElem_cons_succ, List.setIfInBounds_toArray, List.set_cons_zero, List.set_cons_succ]
    refine wpAnyH_take (i := 23) (v := ?_) rfl (by kernel_rfl) (by kernel_rfl) (by kernel_rfl) (fun _ _ _ h => h) (Or.inl ⟨by rfl, ?_⟩) hH20 ?_
    rotate_left
    · ((intro W hW; clear hW; go_simp) <;> with_reducible rfl)
    simp only [Act.put, List.getElem_toArray, List.getElem_cons_zero, List.getElem_cons_succ, List.setIfInBounds_toArray, List.set_cons_zero, List.set_cons_succ]
    refine wpAnyH_ready (rs := [20]) (by kernel_rfl) (by simp) ?_
    refine AllReadyH.cons (o := _) rfl (fun K hK => ?_) AllReadyH.nil
    simp only [List.getElem_toArray, List.getElem_cons_zero, List.getElem_cons_succ]
    go_simp
    with_reducible refine (pall_is _ () hT HA1.out).mono ?_
    rintro e w21 ⟨Ala, cla, rfl, law, hT_, k_, bb⟩
    dsimp only
    replace hbB := Kt.blk k_ hbB (by decide)
    replace hcB := Kt.blk k_ hcB (by decide)
    clear hT
    have hT := hT_
    replace bel := bel.trans bb
    clear bb k_ hT_
    clear law
    rw [adv_0] at hT
    refine hK.out _ _ ⟨hbB, hcB⟩ (fun hH22 => ?_)
    clear hK K
    refine wpAnyH_take (i := 21) (v := ?_) rfl (by kernel_rfl) (by kernel_rfl) (by kernel_rfl) (fun _ _ _ h => h) (Or.inl ⟨by rfl, ?_⟩) hH22 ?_
    rotate_left
    · ((intro W hW; clear hW; go_simp) <;> with_reducible rfl)
    simp only [Act.put, List.getElem_toArray, List.getElem_cons_zero, List.getElem_cons_succ, List.setIfInBounds_toArray, List.set_cons_zero, List.set_cons_succ]
    refine wpAnyH_take (i := 24) (v := ?_) rfl (by kernel_rfl) (by kernel_rfl) (by kernel_rfl) (fun _ _ _ h => h) (Or.inl ⟨by rfl, ?_⟩) hH22 ?_
    rotate_left
    · ((intro W hW; clear hW; go_simp) <;> with_reducible rfl)
    simp only [Act.put, List.getElem_toArray, List.getElem_cons_zero, List.getElem_cons_succ, List.setIfInBounds_toArray, List.set_cons_zero, List.set_cons_succ]
    refine wpAnyH_take (i := 25) (v := ?_) rfl (by kernel_rfl) (by kernel_rfl) (by kernel_rfl) (fun _ _ _ h => h) (Or.inl ⟨by rfl, ?_⟩) hH22 ?_
    rotate_left
    · ((intro W hW; clear hW; go_simp) <;> with_reducible rfl)
    simp only [Act.put, List.getElem_toArray, List.getElem_cons_zero, List.getElem_cons_succ, List.setIfInBounds_toArray, List.set_cons_zero, List.set_cons_succ]
    refine wpAnyH_take (i := 26) (v := ?_) rfl (by kernel_rfl) (by kernel_rfl) (by kernel_rfl) (fun _ _ _ h => h) (Or.inl ⟨by rfl, ?_⟩) hH22 ?_
    rotate_left
    · ((intro W hW; clear hW; go_simp) <;> with_reducible rfl)
    simp only [Act.put, List.getElem_toArray, List.getElem_cons_zero, List.getElem_cons_succ, List.setIfInBounds_toArray, List.set_cons_zero, List.set_cons_succ]
    refine wpAnyH_take (i := 27) (v := ?_) rfl (by kernel_rfl) (by kernel_rfl) (by kernel_rfl) (fun _ _ _ h => h) (Or.inl ⟨by rfl, ?_⟩) hH22 ?_
    rotate_left
    · ((intro W hW; clear hW; go_simp) <;> with_reducible rfl)
    simp only [Act.put, List.getElem_toArray, List.getElem_cons_zero, List.getElem_cons_succ, List.setIfInBounds_toArray, List.set_cons_zero, List.set_cons_succ]
    refine wpAnyH_ready (rs := [28]) (by kernel_rfl) (by simp) ?_
    refine AllReadyH.cons (o := _) rfl (fun K hK => ?_) AllReadyH.nil
    simp only [List.getElem_toArray, List.getElem_cons_zero, List.getElem_cons_succ]
    go_simp
    with_reducible refine (pall_is _ () hT HA2.out).mono ?_
    rintro e w23 ⟨Alb, clb, rfl, lbw, hT_, k_, bb⟩
    dsimp only
    replace hbB := Kt.blk k_ hbB (by decide)
    replace hcB := Kt.blk k_ hcB (by decide)
    clear hT
    have hT := hT_
    replace bel := bel.trans bb
    clear bb k_ hT_
    clear lbw
    rw [adv_60] at hT
    refine hK.out _ _ ⟨hbB, hcB⟩ (fun hH24 => ?_)
    clear hK K
    refine wpAnyH_take (i := 29) (v := ?_) rfl (by kernel_rfl) (by kernel_rfl) (by kernel_rfl) (fun _ _ _ h => h) (Or.inl ⟨by rfl, ?_⟩) hH24 ?_
    rotate_left
    · ((intro W hW; clear hW; go_simp) <;> with_reducible rfl)
    simp only [Act.put, List.getElem_toArray, List.getElem_cons_zero, List.getElem_cons_succ, List.setIfInBounds_toArray, List.set_cons_zero, List.set_cons_succ]
    refine wpAnyH_take (i := 30) (v := ?_) rfl (by kernel_rfl) (by kernel_rfl) (by kernel_rfl) (fun _ _ _ h => h) (Or.inl ⟨by rfl, ?_⟩) hH24 ?_
    rotate_left
    · ((intro W hW; clear hW; go_simp) <;> with_reducible rfl)
    simp only [Act.put, List.getElem_toArray, List.getElem_cons_zero, List.getElem_cons_succ, List.setIfInBounds_toArray, List.set_cons_zero, List.set_cons_succ]
    refine wpAnyH_take (i := 31) (v := ?_) rfl (by kernel_rfl) (by kernel_rfl) (by kernel_rfl) (fun _ _ _ h => h) (Or.inl ⟨by rfl, ?_⟩) hH24 ?_
    rotate_left
    · ((intro W hW; clear hW; go_simp) <;> with_reducible rfl)
    simp only [Act.put, List.getElem_toArray, List.getElem_cons_zero, List.getElem_cons_succ, List.setIfInBounds_toArray, List.set_cons_zero, List.set_cons_succ]
    refine wpAnyH_take (i := 32) (v := ?_) rfl (by kernel_rfl) (by kernel_rfl) (by kernel_rfl) (fun _ _ _ h => h) (Or.inl ⟨by rfl, ?_⟩) hH24 ?_
    rotate_left
    · ((intro W hW; clear hW; go_simp) <;> with_reducible rfl)
    simp only [Act.put, List.getElem_toArray, List.getElem_cons_zero, List.getElem_cons_succ, List.setIfInBounds_toArray, List.set_cons_zero, List.set_cons_succ]
    refine wpAnyH_take (i := 33) (v := ?_) rfl (by kernel_rfl) (by kernel_rfl) (by kernel_rfl) (fun _ _ _ h => h) (Or.inl ⟨by rfl, ?_⟩) hH24 ?_
    rotate_left
    · ((intro W hW; clear hW; go_simp) <;> with_reducible rfl)
    simp only [Act.put, List.getElem_toArray, List.getElem_cons_zero, List.getElem_cons_succ, List.setIfInBounds_toArray, List.set_cons_zero, List.set_cons_succ]
    refine wpAnyH_take (i := 36) (v := ?_) rfl (by kernel_rfl) (by kernel_rfl) (by kernel_rfl) (fun _ _ _ h => h) (Or.inl ⟨by rfl, ?_⟩) hH24 ?_
    rotate_left
    · ((intro W hW; clear hW; go_simp) <;> with_reducible rfl)
    simp only [Act.put, List.getElem_toArray, List.getElem_cons_zero, List.getElem_cons_succ, List.setIfInBounds_toArray, List.set_cons_zero, List.set_cons_succ]
    refine wpAnyH_ready (rs := [34]) (by kernel_rfl) (by simp) ?_
    refine AllReadyH.cons (o := _) rfl (fun K hK => ?_) AllReadyH.nil
    simp only [List.getElem_toArray, List.getElem_cons_zero, List.getElem_cons_succ]
    go_simp
    with_reducible refine (ptick_is _ () hT HA3.out).mono ?_
    rintro e w25 ⟨Alc, clc, rfl, lcw, hT_, k_, bb⟩
    dsimp only
    replace hbB := Kt.blk k_ hbB (by decide)
    replace hcB := Kt.blk k_ hcB (by decide)
    clear hT
    have hT := hT_
    replace bel := bel.trans bb
    clear bb k_ hT_
    clear lcw
    refine hK.out _ _ ⟨hbB, hcB⟩ (fun hH26 => ?_)
    clear hK K
    refine wpAnyH_take (i := 35) (v := ?_) rfl (by kernel_rfl) (by kernel_rfl) (by kernel_rfl) (fun _ _ _ h => h) (Or.inl ⟨by rfl, ?_⟩) hH26 ?_
    rotate_left
    · ((intro W hW; clear hW; go_simp) <;> with_reducible rfl)
    simp only [Act.put, List.getElem_toArray, List.getElem_cons_zero, List.getElem_cons_succ, List.setIfInBounds_toArray, List.set_cons_zero, List.set_cons_succ]
    refine wpAnyH_take (i := 37) (v := ?_) rfl (by kernel_rfl) (by kernel_rfl) (by kernel_rfl) (fun _ _ _ h => h) (Or.inl ⟨by rfl, ?_⟩) hH26 ?_
    rotate_left
    · ((intro W hW; clear hW; go_simp) <;> with_reducible rfl)
    simp only [Act.put, List.getElem_toArray, List.getElem_cons_zero, List.getElem_cons_succ, List.setIfInBounds_toArray, List.set_cons_zero, List.set_cons_succ]
    refine wpAnyH_take (i := 38) (v := ?_) rfl (by kernel_rfl) (by kernel_rfl) (by kernel_rfl) (fun _ _ _ h => h) (Or.inl ⟨by rfl, ?_⟩) hH26 ?_
    rotate_left
    · ((intro W hW; clear hW; go_simp) <;> with_reducible rfl)
    simp only [Act.put, List.getElem_toArray, List.getElem_cons_zero, List.getElem_cons_succ, List.setIfInBounds_toArray, List.set_cons_zero, List.set_cons_succ]
    refine wpAnyH_take (i := 39) (v := ?_) rfl (by kernel_rfl) (by kernel_rfl) (by kernel_rfl) (fun _ _ _ h => h) (Or.inl ⟨by rfl, ?_⟩) hH26 ?_
    rotate_left
    · ((intro W hW; clear hW; go_simp) <;> with_reducible rfl)
    simp only [Act.put, List.getElem_toArray, List.getElem_cons_zero, List.getElem_cons_succ, List.setIfInBounds_toArray, List.set_cons_zero, List.set_cons_succ]
    refine wpAnyH_done (by kernel_rfl) ?_ _
    go_wp2_with fail
    go_ret
    exact ⟨rfl, bel⟩
end Go.Proofs.Ythcjepafcemmnaa
