/- PoolTells. -/
import Derived.Test.YthcjepafcemmnaaLaw14g
import Derived.Test.YthcjepafcemmnaaSli
namespace Go.Proofs.Ythcjepafcemmnaa
open Go.RowKit

/-- The first k of 31 are taken, each till its time. -/
def telF (L : List Int) (k : Nat) (j : Nat) : Sd := if j < k then ⟨macM (j : Int), nA j, L.getD j 0, false, true, false, 0⟩ else nilF j
theorem telF_ad (L : List Int) (k : Nat) : AdF (telF L k) := fun j => by unfold telF; split <;> rfl
theorem telF_lt {L : List Int} {k j : Nat} (h : j < k) : telF L k j = ⟨macM (j : Int), nA j, L.getD j 0, false, true, false, 0⟩ := if_pos h
theorem telF_ge {L : List Int} {k j : Nat} (h : ¬ j < k) : telF L k j = nilF j := if_neg h
theorem tel_take {L : List Int} {k : Nat} {x : Int} (hk : k < 31) (hx : L[k]? = some x) (h1 : 1 ≤ x) (h2 : x ≤ 1000) : takeS ⟨0, [], Rg 31 (telF L k)⟩ (macM (k : Int)) (nA k) 0 x = (0, ⟨0, [], Rg 31 (telF L (k + 1))⟩) := by
  have h := rg_take (n := 31) (F := telF L k) (now := 0) (t := 0) (m := macM (k : Int)) (i := k) (secs := x) (telF_ad L k) (by omega) hk (by rw [telF_ge (by omega)]; rfl) (perm_of h1 (by omega)) (by rw [padv_self, telF_ge (by omega)]; exact slot0_free (Int.le_refl _)) (Rg.held_none fun j hj => by
    rw [padv_self]
    by_cases h : j < k
    · rw [telF_lt h]
      show (decide ((0 : Int) < _) && (macM (j : Int)).eqB (macM (k : Int))) = false
      rw [macM_ne (by omega) (by omega) (by omega), Bool.and_false]
    · rw [telF_ge h]; exact slot0_held (Int.le_refl _))
  rw [h, padv_self]
  congr 2
  apply Rg.congr
  intro j hj
  by_cases e : j = k
  · subst e
    rw [upF_at, telF_ge (k := j) (j := j) (by omega), telF_lt (k := j + 1) (j := j) (by omega)]
    have : L.getD j 0 = x := by simp [List.getD, hx]
    rw [this, Int.zero_add]
    rfl
  · rw [upF_no e]
    by_cases h1 : j < k
    · rw [telF_lt h1, telF_lt (by omega)]
    · rw [telF_ge h1, telF_ge (by omega)]
/-- Those that are over. -/
def telI (L : List Int) (now : Int) : List Nat := (List.range L.length).filter (fun j => decide (L.getD j 0 ≤ now))
def telG (L : List Int) (j : Nat) : Le := ⟨macM (j : Int), nA j, L.getD j 0⟩
theorem telI_len (L : List Int) (now : Int) : (telI L now).length = (L.filter (fun x => decide (x ≤ now))).length := by
  have e : L = (List.range L.length).map (fun j => L.getD j 0) := by
    apply List.ext_getElem?
    intro j
    rw [List.getElem?_map]
    rcases Nat.lt_or_ge j L.length with h | h
    · rw [List.getElem?_range h, List.getElem?_eq_getElem h]; simp [List.getD, List.getElem?_eq_getElem h]
    · rw [List.getElem?_eq_none h, List.getElem?_eq_none (by simpa using h)]; rfl
  conv => rhs; rw [e]
  rw [List.filter_map, List.length_map]; rfl
theorem telI_at {L : List Int} {now : Int} {k j : Nat} (h : (telI L now)[k]? = some j) : j < L.length ∧ L.getD j 0 ≤ now := by
  have := List.mem_of_getElem? h
  unfold telI at this
  rw [List.mem_filter, List.mem_range] at this
  exact ⟨this.1, by simpa using this.2⟩
theorem telI_up {L : List Int} {now : Int} {k j j' : Nat} (h : (telI L now)[k]? = some j) (h' : (telI L now)[k + 1]? = some j') : j < j' := by
  have hs : (telI L now).Pairwise (fun a b => a < b) := List.Pairwise.filter _ List.pairwise_lt_range
  obtain ⟨a1, a2⟩ := List.getElem?_eq_some_iff.1 h
  obtain ⟨b1, b2⟩ := List.getElem?_eq_some_iff.1 h'
  have := List.pairwise_iff_getElem.1 hs k (k + 1) a1 b1 (by omega)
  rw [a2, b2] at this
  exact this
theorem adv_now {now : Int} (h0 : 0 ≤ now) (h1 : now ≤ 2000) (hs : List (Mc6 × Ad4)) (l : List Sd) : (⟨0, hs, l⟩ : St).adv now = ⟨now, hs, l⟩ := by show (⟨padv 0 now, hs, l⟩ : St) = _; rw [padv_0 h0 (by omega)]
theorem adv_same (now : Int) (hs : List (Mc6 × Ad4)) (l : List Sd) : (⟨now, hs, l⟩ : St).adv now = ⟨now, hs, l⟩ := by show (⟨padv now now, hs, l⟩ : St) = _; rw [padv_self]
theorem tel_over {L : List Int} {now : Int} (j : Nat) : (telF L L.length j).overB now = (decide (j < L.length) && decide (L.getD j 0 ≤ now)) := by
  by_cases h : j < L.length
  · rw [telF_lt h, decide_eq_true h, Bool.true_and]
    show (true && (!false && !decide (now < L.getD j 0))) = _
    by_cases h2 : now < L.getD j 0
    · rw [decide_eq_true h2, decide_eq_false (by omega)]; rfl
    · rw [decide_eq_false h2, decide_eq_true (by omega)]; rfl
  · rw [telF_ge h, decide_eq_false h, Bool.false_and]; rfl
theorem range_cut {N m : Nat} (p : Nat → Bool) : (List.range (N + m)).filter (fun j => decide (j < N) && p j) = (List.range N).filter p := by
  rw [List.range_add, List.filter_append]
  have h1 : (List.range N).filter (fun j => decide (j < N) && p j) = (List.range N).filter p := List.filter_congr fun j hj => by
    rw [decide_eq_true (List.mem_range.1 hj), Bool.true_and]
  have h2 : ((List.range m).map (fun x => N + x)).filter (fun j => decide (j < N) && p j) = [] := by
    rw [List.filter_eq_nil_iff]
    intro x hx
    obtain ⟨y, _, rfl⟩ := List.mem_map.1 hx
    rw [decide_eq_false (by omega)]
    simp
  rw [h1, h2, List.append_nil]
theorem tel_filt {L : List Int} {now : Int} (hL : L.length ≤ 30) : (Rg 31 (telF L L.length)).filter (fun e => e.overB now) = (telI L now).map (telF L L.length) := by
  unfold Rg telI
  rw [List.filter_map]
  congr 1
  have e : ((fun e => Sd.overB now e) ∘ telF L L.length) = fun j => decide (j < L.length) && decide (L.getD j 0 ≤ now) := by
    funext j; exact tel_over j
  rw [e]
  obtain ⟨m, hm⟩ : ∃ m, 31 = L.length + m := ⟨31 - L.length, by omega⟩
  rw [hm]
  exact range_cut _
theorem tel_t1 {L : List Int} {now : Int} (h0 : 0 ≤ now) (h1 : now ≤ 2000) (hL : L.length ≤ 30) : tickO ((⟨0, [], Rg 31 (telF L L.length)⟩ : St).adv now).now (Rg 31 (telF L L.length)) = (telI L now).map (telG L) ∧ ((telI L now).map (telG L)).length = (telI L now).length := by
  refine ⟨?_, List.length_map _⟩
  rw [adv_now h0 h1]
  show ((Rg 31 (telF L L.length)).filter _).map _ = _
  rw [tel_filt hL, List.map_map]
  apply List.map_congr_left
  intro j hj
  have hj' : j < L.length := List.mem_range.1 (List.mem_filter.1 hj).1
  show (telF L L.length j).lease = telG L j
  rw [telF_lt hj']; rfl
def telH (L : List Int) (now : Int) (j : Nat) : Sd := tkE now (telF L L.length j)
theorem tel_s1 {L : List Int} {now : Int} (h0 : 0 ≤ now) (h1 : now ≤ 2000) : ({ (⟨0, [], Rg 31 (telF L L.length)⟩ : St).adv now with l := tickL ((⟨0, [], Rg 31 (telF L L.length)⟩ : St).adv now).now (Rg 31 (telF L L.length)) } : St) = ⟨now, [], Rg 31 (telH L now)⟩ := by
  rw [adv_now h0 h1, tickL_eq]
  unfold Rg
  rw [List.map_map]; rfl
theorem telH_over {L : List Int} {now : Int} (j : Nat) : (telH L now j).overB now = false := by
  unfold telH tkE
  cases h : (telF L L.length j).overB now with
  | false => rw [if_neg (by decide)]; exact h
  | true =>
    rw [if_pos rfl]
    show (_ && (!true && _)) = false
    simp
theorem tel_t2 {L : List Int} {now : Int} : tickO ((⟨now, [], Rg 31 (telH L now)⟩ : St).adv now).now (Rg 31 (telH L now)) = [] ∧ ([] : List Le).length = 0 := by
  refine ⟨?_, rfl⟩
  rw [adv_same]
  show ((Rg 31 (telH L now)).filter _).map _ = []
  rw [List.map_eq_nil_iff, List.filter_eq_nil_iff]
  intro x hx
  obtain ⟨j, hj⟩ := List.getElem?_of_mem hx
  obtain ⟨_, rfl⟩ := Rg.of hj
  rw [telH_over]; decide
theorem tel_s2 {L : List Int} {now : Int} : ({ (⟨now, [], Rg 31 (telH L now)⟩ : St).adv now with l := tickL ((⟨now, [], Rg 31 (telH L now)⟩ : St).adv now).now (Rg 31 (telH L now)) } : St) = ⟨now, [], Rg 31 (telH L now)⟩ := by
  rw [adv_same, tickL_eq]
  have e : (Rg 31 (telH L now)).map (tkE now) = Rg 31 (telH L now) := by
    unfold Rg
    rw [List.map_map]
    apply List.map_congr_left
    intro j _
    show tkE now (telH L now j) = _
    unfold tkE
    rw [telH_over]; rfl
  show (⟨now, [], (Rg 31 (telH L now)).map (tkE now)⟩ : St) = _
  rw [e]
theorem cnt_two (p : Nat → Bool) : ∀ n, ((List.range n).filter p).length + ((List.range n).filter (fun j => !p j)).length = n := by
  intro n
  induction n with
  | zero => rfl
  | succ n ih =>
    rw [List.range_succ, List.filter_append, List.filter_append, List.length_append, List.length_append]
    cases h : p n <;> simp [h] <;> omega
theorem Rg.filt {n : Nat} {F : Nat → Sd} {p : Sd → Bool} : ((Rg n F).filter p).length = ((List.range n).filter (fun j => p (F j))).length := by
  unfold Rg
  rw [List.filter_map, List.length_map]; rfl
theorem telH_live {L : List Int} {now : Int} (h0 : 0 ≤ now) (j : Nat) : (telH L now j).liveB now = (decide (j < L.length) && !decide (L.getD j 0 ≤ now)) := by
  have e : (telH L now j).liveB now = (telF L L.length j).liveB now := by unfold telH tkE; split <;> rfl
  rw [e]
  by_cases h : j < L.length
  · rw [telF_lt h, decide_eq_true h, Bool.true_and]
    show decide (now < L.getD j 0) = _
    by_cases h2 : now < L.getD j 0
    · rw [decide_eq_true h2, decide_eq_false (by omega)]; rfl
    · rw [decide_eq_false h2, decide_eq_true (by omega)]; rfl
  · rw [telF_ge h, decide_eq_false h, Bool.false_and]
    exact decide_eq_false (show ¬ now < 0 by omega)
theorem tel_all {L : List Int} {now : Int} (h0 : 0 ≤ now) (hL : L.length ≤ 30) : ∃ ls, allO ((⟨now, [], Rg 31 (telH L now)⟩ : St).adv now).now (Rg 31 (telH L now)) = ls ∧ ls.length + (telI L now).length = L.length := by
  refine ⟨_, rfl, ?_⟩
  rw [adv_same]
  show (((Rg 31 (telH L now)).filter _).map _).length + _ = _
  rw [List.length_map, Rg.filt]
  show ((List.range 31).filter (fun j => Sd.liveB now (telH L now j))).length + _ = _
  have e : (fun j => Sd.liveB now (telH L now j)) = fun j => decide (j < L.length) && !decide (L.getD j 0 ≤ now) := by
    funext j; exact telH_live h0 j
  rw [e]
  obtain ⟨m, hm⟩ : ∃ m, 31 = L.length + m := ⟨31 - L.length, by omega⟩
  rw [hm, range_cut]
  have := cnt_two (fun j => decide (L.getD j 0 ≤ now)) L.length
  unfold telI
  omega
theorem cnt_skip {L : List Int} {now x : Int} {k : Nat} (hx : L[k]? = some x) (h : ¬ x ≤ now) : ((L.take (k + 1)).filter (fun x => decide (x ≤ now))).length = ((L.take k).filter (fun x => decide (x ≤ now))).length := by
  rw [List.take_add_one, hx, List.filter_append]
  simp [h]
theorem cnt_keep {L : List Int} {now x : Int} {k : Nat} (hx : L[k]? = some x) (h : x ≤ now) : ((L.take (k + 1)).filter (fun x => decide (x ≤ now))).length = ((L.take k).filter (fun x => decide (x ≤ now))).length + 1 := by
  rw [List.take_add_one, hx, List.filter_append]
  simp [h]
set_option linter.unusedVariables false in
set_option linter.unusedSimpArgs false in
set_option maxRecDepth 100000 in
set_option maxHeartbeats 16000000 in
theorem poolTells_walk (A : Option Addr) (n cp : Nat) (L : List Int) (now : Int) (w : World) (ll : Sle inf 1 w A n cp L) : Calls Try.prog 8 #[.slice A n cp, .int .i64 now] w fun e w' => e = .returned (.bool true) ∧ Below w.heap.size w w' := by
  have HL0 := Lib.hid ll
  have HN : Hid (L.length = n) := Lib.hid ll.1
  have bel := Below.refl w.heap.size w
  go_enter Try.func8, Try.ntmps8
  go_wp2_with fail
  with_reducible refine (awake_any _).mono ?_
  rintro e w1 ⟨rfl, b1⟩
  replace ll := ll.below b1
  replace bel := bel.trans (b1.mono bel.size)
  clear b1
  by_cases c1 : (30 : Int) < n
  · go_wp2_with fail
    go_ret
    exact ⟨rfl, bel⟩
  have Hc1 : Hid ((n : Int) ≤ 30) := Lib.hid (by omega)
  replace c1 : decide ((30 : Int) < n) = false := decide_eq_false c1
  by_cases c2 : now < 0
  · go_wp2_with fail
    go_ret
    exact ⟨rfl, bel⟩
  have Hc2 : Hid (0 ≤ now) := Lib.hid (by omega)
  replace c2 : decide (now < 0) = false := decide_eq_false c2
  by_cases c3 : 2000 < now
  · go_wp2_with fail
    go_ret
    exact ⟨rfl, bel⟩
  have Hc3 : Hid (now ≤ 2000) := Lib.hid (by omega)
  replace c3 : decide (2000 < now) = false := decide_eq_false c3
  have HN30 : Hid (n ≤ 30) := Lib.hid (by have := Hc1.out; omega)
  go_wp2_with fail
  with_reducible refine (at_s (j := 0) _ (by omega)).mono ?_
  rintro e w2 ⟨rfl, b2⟩
  replace ll := ll.below b2
  replace bel := bel.trans (b2.mono bel.size)
  clear b2
  go_wp2_with fail
  with_reducible refine (at_s (j := 30) _ (by omega)).mono ?_
  rintro e w3 ⟨rfl, b3⟩
  replace ll := ll.below b3
  replace bel := bel.trans (b3.mono bel.size)
  clear b3
  go_wp2_with fail
  have HLO_ := bel.size
  with_reducible refine (pnew_nil (x := nA 0) (y := nA 30) _ (new_ok (q := 30) (by omega)).1 (new_ok (q := 30) (by omega)).2).mono ?_
  rintro e w4 ⟨gt, rfl, hT, b4⟩
  replace ll := ll.below b4
  replace bel := bel.trans (b4.mono bel.size)
  clear b4
  rw [pool_new (q := 30) (by omega)] at hT
  replace hT : Pl w.heap.size gt w4 ⟨0, [], Rg 31 (telF L 0)⟩ := hT.lo_mono HLO_
  clear HLO_
  clear ll
  go_wp2_with fail
  go_loopg [8, 7] (n) (fun gk s8 s7 wr => ∃ k : Nat, ∃ c : Nat, gk = n - k ∧ k ≤ n ∧ Hid (c = ((L.take k).filter (fun x => decide (x ≤ now))).length) ∧ c ≤ k ∧ Pl w.heap.size gt wr ⟨0, [], Rg 31 (telF L k)⟩ ∧ s8 = .int .i64 (k : Int) ∧ s7 = .int .i64 (c : Int) ∧ Below w.heap.size w wr)
  case atStart => exact ⟨0, 0, Nat.sub_zero _, Nat.zero_le _, Lib.hid rfl, Nat.le_refl _, hT, rfl, rfl, bel⟩
  case round =>
    clear hT bel
    obtain ⟨k, c, HGK, hkn, HC, hck, hT, rfl, rfl, bel⟩ := hrel
    have HGK_ := Lib.hid HGK
    clear HGK
    by_cases h : (k : Int) < n
    · obtain ⟨x, hx⟩ : ∃ x, L[k]? = some x := ⟨_, List.getElem?_eq_getElem (by have := HN.out; omega)⟩
      have HX := Lib.hid hx
      clear hx
      have hkn2 : k < n := by omega
      have HK : Hid (k < 31) := Lib.hid (by have := HN30.out; omega)
      have k0 : (0 : Int) ≤ k := by omega
      have k31 : (k : Int) < 31 := by have := HK.out; omega
      have hw1 : IntKind.i64.wrap (100 + (k : Int)) = 100 + k := IntWalk.i64_in _ (by omega)
      have ll := HL0.out.below bel
      obtain ⟨gI, oI, rfl⟩ := ll.place (by omega)
      clear hkn2
      have HK2 : Hid (k < n) := Lib.hid (by omega)
      by_cases c5 : x < 1
      · have R42 := Sle.inc (i := k) ll HX.out
        go_wp2_with fail
        clear R42
        go_ret
        exact ⟨rfl, bel⟩
      have hc5 := c5
      replace c5 : decide (x < 1) = false := decide_eq_false c5
      by_cases c6 : 1000 < x
      · clear hc5
        have R42 := Sle.inc (i := k) ll HX.out
        have R48 := Sle.inc (i := k) ll HX.out
        go_wp2_with fail
        clear R42 R48
        go_ret
        exact ⟨rfl, bel⟩
      have HTK := Lib.hid (tel_take HK.out HX.out (by omega) (by omega))
      replace c6 : decide (1000 < x) = false := decide_eq_false c6
      clear hc5
      have R42 := Sle.inc (i := k) ll HX.out
      have R48 := Sle.inc (i := k) ll HX.out
      go_wp2_with fail
      clear R42 R48
      replace bel := bel.drew
      replace ll := ll.drew
      replace hT := pl_drew hT
      refine wp_region_held_drew (S := fun W => Sle inf 1 W (some ⟨gI, oI, none⟩) (n) (cp) (L)) (by kernel_rfl) ll (fun hH => ?_)
      generalize wr.drew = w5 at bel ll hT hH ⊢
      refine wpAnyH_take (i := 0) (v := ?_) rfl (by kernel_rfl) (by kernel_rfl) (by kernel_rfl) (fun _ _ _ h => h) (Or.inl ⟨by rfl, ?_⟩) hH ?_
      rotate_left
      · ((intro W hW; clear hW; go_simp) <;> with_reducible rfl)
      simp only [Act.put, List.getElem_toArray, List.getElem_cons_zero, List.setIfInBounds_toArray, List.set_cons_zero, List.set_cons_succ]
      refine wpAnyH_take (i := 1) (v := ?_) rfl (by kernel_rfl) (by kernel_rfl) (by kernel_rfl) (fun _ _ _ h => h) (Or.inl ⟨by rfl, ?_⟩) hH ?_
      rotate_left
      · ((intro W hW; clear hW; go_simp) <;> with_reducible rfl)
      simp only [Act.put, List.getElem_toArray, List.getElem_cons_zero, List.getElem_cons_succ, List.setIfInBounds_toArray, List.set_cons_zero, List.set_cons_succ]
      refine wpAnyH_take (i := 3) (v := ?_) rfl (by kernel_rfl) (by kernel_rfl) (by kernel_rfl) (fun _ _ _ h => h) (Or.inl ⟨by rfl, ?_⟩) hH ?_
      rotate_left
      · ((intro W hW; clear hW; go_simp) <;> with_reducible rfl)
      simp only [Act.put, List.getElem_toArray, List.getElem_cons_zero, List.getElem_cons_succ, List.setIfInBounds_toArray, List.set_cons_zero, List.set_cons_succ]
      refine wpAnyH_take (i := 4) (v := ?_) rfl (by kernel_rfl) (by kernel_rfl) (by kernel_rfl) (fun _ _ _ h => h) (Or.inl ⟨by rfl, ?_⟩) hH ?_
      rotate_left
      · ((intro W hW; clear hW; go_simp) <;> with_reducible rfl)
      simp only [Act.put, List.getElem_toArray, List.getElem_cons_zero, List.getElem_cons_succ, List.setIfInBounds_toArray, List.set_cons_zero, List.set_cons_succ]
      refine wpAnyH_take (i := 6) (v := ?_) rfl (by kernel_rfl) (by kernel_rfl) (by kernel_rfl) (fun _ _ _ h => h) (Or.inl ⟨by rfl, ?_⟩) hH ?_
      rotate_left
      · ((intro W hW; clear hW; go_simp) <;> with_reducible rfl)
      simp only [Act.put, List.getElem_toArray, List.getElem_cons_zero, List.getElem_cons_succ, List.setIfInBounds_toArray, List.set_cons_zero, List.set_cons_succ]
      refine wpAnyH_take (i := 7) (v := ?_) rfl (by kernel_rfl) (by kernel_rfl) (by kernel_rfl) (fun _ _ _ h => h) (Or.inl ⟨by rfl, ?_⟩) hH ?_
      rotate_left
      · ((intro W hW; clear hW; go_simp) <;> with_reducible rfl)
      simp only [Act.put, List.getElem_toArray, List.getElem_cons_zero, List.getElem_cons_succ, List.setIfInBounds_toArray, List.set_cons_zero, List.set_cons_succ]
      refine wpAnyH_take (i := 8) (v := ?_) rfl (by kernel_rfl) (by kernel_rfl) (by kernel_rfl) (fun _ _ _ h => h) (Or.inl ⟨by rfl, ?_⟩) hH ?_
      rotate_left
      · ((intro W hW; clear hW; go_simp) <;> with_reducible rfl)
      simp only [Act.put, List.getElem_toArray, List.getElem_cons_zero, List.getElem_cons_succ, List.setIfInBounds_toArray, List.set_cons_zero, List.set_cons_succ]
      refine wpAnyH_take (i := 9) (v := ?_) rfl (by kernel_rfl) (by kernel_rfl) (by kernel_rfl) (fun _ _ _ h => h) (Or.inl ⟨by rfl, ?_⟩) hH ?_
      rotate_left
      · ((intro W hW; have hk := Sle.inc (i := k) (hW) HX.out; clear hW; go_simp) <;> with_reducible rfl)
      simp only [Act.put, List.getElem_toArray, List.getElem_cons_zero, List.getElem_cons_succ, List.setIfInBounds_toArray, List.set_cons_zero, List.set_cons_succ]
      refine wpAnyH_ready (rs := [2]) (by kernel_rfl) (by simp) ?_
      refine AllReadyH.cons (o := _) rfl (fun K hK => ?_) AllReadyH.nil
      simp only [List.getElem_toArray, List.getElem_cons_zero, List.getElem_cons_succ]
      go_simp
      with_reducible refine (mac_n (k := k) _ rfl).mono ?_
      rintro e w6 ⟨rfl, b6⟩
      dsimp only
      replace ll := ll.below b6
      replace hT := hT.below b6
      replace bel := bel.trans (b6.mono bel.size)
      clear b6
      refine hK.out _ _ ll (fun hH7 => ?_)
      clear hK K
      refine wpAnyH_ready (rs := [5]) (by kernel_rfl) (by simp) ?_
      refine AllReadyH.cons (o := _) rfl (fun K hK => ?_) AllReadyH.nil
      simp only [List.getElem_toArray, List.getElem_cons_zero, List.getElem_cons_succ]
      go_simp
      with_reducible refine (at_s (j := k) _ rfl).mono ?_
      rintro e w8 ⟨rfl, b8⟩
      dsimp only
      replace ll := ll.below b8
      replace hT := hT.below b8
      replace bel := bel.trans (b8.mono bel.size)
      clear b8
      refine hK.out _ _ ll (fun hH9 => ?_)
      clear hK K
      refine wpAnyH_ready (rs := [10]) (by kernel_rfl) (by simp) ?_
      refine AllReadyH.cons (o := _) rfl (fun K hK => ?_) AllReadyH.nil
      simp only [List.getElem_toArray, List.getElem_cons_zero, List.getElem_cons_succ]
      go_simp
      with_reducible refine (ptake_any (r := 0) _ _ _ _ _ hT HTK.out).mono ?_
      rintro e w10 ⟨rfl, hT_, k_, bb⟩
      dsimp only
      clear ll
      clear hT
      have hT := hT_
      replace bel := bel.trans bb
      clear bb k_ hT_
      have ll := HL0.out.below bel
      refine hK.out _ _ ll (fun hH11 => ?_)
      clear hK K
      refine wpAnyH_take (i := 11) (v := ?_) rfl (by kernel_rfl) (by kernel_rfl) (by kernel_rfl) (fun _ _ _ h => h) (Or.inl ⟨by rfl, ?_⟩) hH11 ?_
      rotate_left
      · ((intro W hW; clear hW; go_simp) <;> with_reducible rfl)
      simp only [Act.put, List.getElem_toArray, List.getElem_cons_zero, List.getElem_cons_succ, List.setIfInBounds_toArray, List.set_cons_zero, List.set_cons_succ]
      by_cases hle : x ≤ now
      rotate_left
      · have HLE := Lib.hid hle
        replace hle : decide (x ≤ now) = false := decide_eq_false hle
        refine wpAnyH_done (by kernel_rfl) ?_ _
        have R66 := Sle.inc (i := k) ll HX.out
        go_wp2_with fail
        clear R66
        go_roundg (n - (k + 1))
        case measure => have := HGK_.out; have := HK2.out; omega
        case rel => exact ⟨k + 1, c, rfl, by have := HK2.out; omega, Lib.hid (by rw [cnt_skip HX.out (by have := HLE.out; omega)]; exact HC.out), by omega, hT, by go_num, by go_num, bel⟩
      have hwc : IntKind.i64.wrap ((c : Int) + 1) = (c : Int) + 1 := IntWalk.i64_in _ (by omega)
      have HLE := Lib.hid hle
      refine wpAnyH_done (by kernel_rfl) ?_ _
      have R66 := Sle.inc (i := k) ll HX.out
      go_wp2_with fail
      clear R66
      go_roundg (n - (k + 1))
      case measure => have := HGK_.out; have := HK2.out; omega
      case rel => exact ⟨k + 1, c + 1, rfl, by have := HK2.out; omega, Lib.hid (by rw [cnt_keep HX.out HLE.out, HC.out]), by omega, hT, by go_num, by go_num, bel⟩
    have hkn2 : k = n := by omega
    replace h : decide ((k : Int) < n) = false := decide_eq_false h
    have hN_ : decide (k < n) = false := decide_eq_false (by omega)
    have HKN := Lib.hid hkn2
    rw [show k = L.length by rw [HKN.out]; exact HN.out.symm] at hT
    have HCI : Hid ((telI L now).length = c) := Lib.hid (by rw [telI_len, HC.out, List.take_of_length_le (by rw [HN.out, HKN.out]; exact Nat.le_refl _)])
    have HL30 : Hid (L.length ≤ 30) := Lib.hid (by rw [HN.out]; exact HN30.out)
    obtain ⟨ls, hls⟩ : ∃ q, (telI L now).map (telG L) = q := ⟨_, rfl⟩
    have HLS := Lib.hid hls
    have HT1 : Hid (tickO ((⟨0, [], Rg 31 (telF L L.length)⟩ : St).adv now).now (Rg 31 (telF L L.length)) = ls ∧ ls.length = c) := Lib.hid (by have h_ := tel_t1 Hc2.out Hc3.out HL30.out; rw [hls, HCI.out] at h_; exact h_)
    have HT2 := Lib.hid (tel_t2 (L := L) (now := now))
    obtain ⟨la, hla1, hla2⟩ := tel_all (L := L) (now := now) Hc2.out HL30.out
    obtain ⟨m, hm⟩ : ∃ m, la.length = m := ⟨_, rfl⟩
    have HT3 : Hid (allO ((⟨now, [], Rg 31 (telH L now)⟩ : St).adv now).now (Rg 31 (telH L now)) = la ∧ la.length = m) := Lib.hid ⟨hla1, hm⟩
    have HMC : Hid (m + c = n) := Lib.hid (by rw [← hm, ← HCI.out, ← HN.out]; exact hla2)
    have hwm : IntKind.i64.wrap ((n : Int) - (c : Int)) = (m : Int) := by rw [show (n : Int) - (c : Int) = (m : Int) by have := HMC.out; omega]; exact IntWalk.i64_in _ (by have := HMC.out; have := HN30.out; omega)
    have HCK : Hid (c ≤ 30) := Lib.hid (by have := HN30.out; omega)
    clear hkn2 hkn hls hla1 hla2 hm hck
    go_wp2_with fail
    with_reducible refine (ptick_is _ () hT HT1.out).mono ?_
    rintro e w5 ⟨Ax, cx, rfl, xw, hT_, k_, bb⟩
    clear hT
    have hT := hT_
    replace bel := bel.trans bb
    clear bb k_ hT_
    rw [tel_s1 Hc2.out Hc3.out] at hT
    go_wp2_with fail
    with_reducible refine (ptick_is _ () hT HT2.out).mono ?_
    rintro e w6 ⟨Ay, cy, rfl, yw, hT_, k_, bb⟩
    replace xw := (k_.own xw (by decide))
    clear hT
    have hT := hT_
    replace bel := bel.trans bb
    clear bb k_ hT_
    clear yw
    rw [tel_s2] at hT
    go_wp2_with fail
    with_reducible refine (pall_is _ () hT HT3.out).mono ?_
    rintro e w7 ⟨Az, cz, rfl, zw, hT_, k_, bb⟩
    replace xw := (k_.own xw (by decide))
    clear hT
    have hT := hT_
    replace bel := bel.trans bb
    clear bb k_ hT_
    clear zw
    have xs := (owk_sle (by decide) leE_len xw).1
    clear xw
    clear hT
    go_wp2_with fail
    go_loopg [10] (c) (fun gk s10 wr => ∃ i : Nat, gk = c - i ∧ i ≤ c ∧ s10 = .int .i64 (i : Int) ∧ Sle leE 11 wr (Ax) (c) (cx) (ls) ∧ Below w.heap.size w wr)
    case atStart => exact ⟨0, Nat.sub_zero _, Nat.zero_le _, rfl, xs, bel⟩
    case round =>
      clear xs bel
      obtain ⟨i, HGK, hic, rfl, xs, bel⟩ := hrel
      have HGK_ := Lib.hid HGK
      clear HGK
      by_cases h2 : (i : Int) < c
      rotate_left
      · have hic3 : decide ((i : Int) < c) = false := decide_eq_false h2
        have hic4 : decide (i < c) = false := decide_eq_false (by omega)
        go_wp2_with fail
        go_ret
        exact ⟨rfl, bel⟩
      have hic2 : i < c := by omega
      obtain ⟨j, hj⟩ : ∃ j, (telI L now)[i]? = some j := ⟨_, List.getElem?_eq_getElem (by rw [HCI.out]; exact hic2)⟩
      have hjL := (telI_at hj).1
      obtain ⟨y, hy⟩ : ∃ y, L[j]? = some y := ⟨_, List.getElem?_eq_getElem hjL⟩
      have hgd : L.getD j 0 = y := by simp [List.getD, hy]
      have HX : Hid (ls[i]? = some ⟨macM (j : Int), nA j, y⟩) := Lib.hid (by rw [← HLS.out, List.getElem?_map, hj, ← hgd]; rfl)
      have HY := Lib.hid hy
      have HJ := Lib.hid hj
      have HJ31 : Hid (j < 31) := Lib.hid (by have := HN30.out; have := HN.out; omega)
      have HD : Hid (((nA j).d.toNat : Int) = 100 + (j : Int)) := Lib.hid (by show ((byteOf ((100 + j : Nat) : Int)).toNat : Int) = _; rw [byteOf_small (by have := HJ31.out; omega)]; omega)
      have f1 : IntKind.i64.wrap ((nA j).d.toNat : Int) = 100 + (j : Int) := by rw [HD.out]; exact IntWalk.i64_in _ (by have := HJ31.out; omega)
      have f2 : IntKind.i64.wrap (100 + (j : Int) - 100) = (j : Int) := by rw [show 100 + (j : Int) - 100 = (j : Int) by omega]; exact IntWalk.i64_in _ (by have := HJ31.out; omega)
      have f3 : IntKind.i64.wrap (j : Int) = (j : Int) := IntWalk.i64_in _ (by have := HJ31.out; omega)
      have j0 : (0 : Int) ≤ j := by omega
      have j00 : decide ((j : Int) < 0) = false := decide_eq_false (by omega)
      have jn : (j : Int) < n := by have := HN.out; omega
      have jn2 : j < n := by have := HN.out; omega
      have jn3 : decide ((n : Int) ≤ j) = false := decide_eq_false (by omega)
      have jn4 : decide (n ≤ j) = false := decide_eq_false (by omega)
      have i0 : (0 : Int) ≤ i := by omega
      have i1 : (i : Int) < c := by omega
      have i2 : (i : Int) ≤ 30 := by have := HCK.out; omega
      have ll := HL0.out.below bel
      obtain ⟨gI, oI, rfl⟩ := ll.place (by omega)
      obtain ⟨gX, oX, rfl⟩ := xs.place (by omega)
      have q138 : ∀ W, (binOp .neq 31 (.agg #[.int .u8 ((macM (j : Int)).a.toNat : Int), .int .u8 ((macM (j : Int)).b.toNat : Int), .int .u8 ((macM (j : Int)).c.toNat : Int), .int .u8 ((macM (j : Int)).d.toNat : Int), .int .u8 ((macM (j : Int)).e.toNat : Int), .int .u8 ((macM (j : Int)).f.toNat : Int)]) (.agg #[.int .u8 ((macM (j : Int)).a.toNat : Int), .int .u8 ((macM (j : Int)).b.toNat : Int), .int .u8 ((macM (j : Int)).c.toNat : Int), .int .u8 ((macM (j : Int)).d.toNat : Int), .int .u8 ((macM (j : Int)).e.toNat : Int), .int .u8 ((macM (j : Int)).f.toNat : Int)])).run Try.prog W = .ok (.bool false) W := fun W => by have h_ := nem_b (macM (j : Int)) (macM (j : Int)) W; rw [Mc6.eqB_self] at h_; exact h_
      clear hj hjL hgd hy hic2
      have HIC : Hid (i < c) := Lib.hid (by omega)
      by_cases hi0 : i = 0
      · have i00 : decide ((0 : Int) < i) = false := decide_eq_false (by omega)
        have i00n : decide (0 < i) = false := decide_eq_false (by omega)
        clear hi0
        have R107 := Sle.cellk xs HX.out 9 _ rfl
        go_wp2_with fail
        clear R107
        replace bel := bel.drew
        replace xs := xs.drew
        replace ll := ll.drew
        refine wp_region_held_drew (S := fun W => Sle inf 1 W (some ⟨gI, oI, none⟩) (n) (cp) (L) ∧ Sle leE 11 W (some ⟨gX, oX, none⟩) (c) (cx) (ls)) (by kernel_rfl) ⟨ll, xs⟩ (fun hH => ?_)
        generalize wr.drew = w8 at bel xs ll hH ⊢
        refine wpAnyH_take (i := 0) (v := ?_) rfl (by kernel_rfl) (by kernel_rfl) (by kernel_rfl) (fun _ _ _ h => h) (Or.inl ⟨by rfl, ?_⟩) hH ?_
        rotate_left
        · ((intro W hW; clear hW; go_simp) <;> with_reducible rfl)
        simp only [Act.put, List.getElem_toArray, List.getElem_cons_zero, List.setIfInBounds_toArray, List.set_cons_zero, List.set_cons_succ]
        refine wpAnyH_take (i := 1) (v := ?_) rfl (by kernel_rfl) (by kernel_rfl) (by kernel_rfl) (fun _ _ _ h => h) (Or.inl ⟨by rfl, ?_⟩) hH ?_
        rotate_left
        · ((intro W hW; clear hW; go_simp) <;> with_reducible rfl)
        simp only [Act.put, List.getElem_toArray, List.getElem_cons_zero, List.getElem_cons_succ, List.setIfInBounds_toArray, List.set_cons_zero, List.set_cons_succ]
        refine wpAnyH_take (i := 2) (v := ?_) rfl (by kernel_rfl) (by kernel_rfl) (by kernel_rfl) (fun _ _ _ h => h) (Or.inl ⟨by rfl, ?_⟩) hH ?_
        rotate_left
        · ((intro W hW; clear hW; go_simp) <;> with_reducible rfl)
        simp only [Act.put, List.getElem_toArray, List.getElem_cons_zero, List.getElem_cons_succ, List.setIfInBounds_toArray, List.set_cons_zero, List.set_cons_succ]
        refine wpAnyH_take (i := 3) (v := ?_) rfl (by kernel_rfl) (by kernel_rfl) (by kernel_rfl) (fun _ _ _ h => h) (Or.inl ⟨by rfl, ?_⟩) hH ?_
        rotate_left
        · ((intro W hW; clear hW; go_simp) <;> with_reducible rfl)
        simp only [Act.put, List.getElem_toArray, List.getElem_cons_zero, List.getElem_cons_succ, List.setIfInBounds_toArray, List.set_cons_zero, List.set_cons_succ]
        refine wpAnyH_take (i := 4) (v := ?_) rfl (by kernel_rfl) (by kernel_rfl) (by kernel_rfl) (fun _ _ _ h => h) (Or.inl ⟨by rfl, ?_⟩) hH ?_
        rotate_left
        · ((intro W hW; clear hW; go_simp) <;> with_reducible rfl)
        simp only [Act.put, List.getElem_toArray, List.getElem_cons_zero, List.getElem_cons_succ, List.setIfInBounds_toArray, List.set_cons_zero, List.set_cons_succ]
        refine wpAnyH_take (i := 5) (v := ?_) rfl (by kernel_rfl) (by kernel_rfl) (by kernel_rfl) (fun _ _ _ h => h) (Or.inl ⟨by rfl, ?_⟩) hH ?_
        rotate_left
        · ((intro W hW; clear hW; go_simp) <;> with_reducible rfl)
        simp only [Act.put, List.getElem_toArray, List.getElem_cons_zero, List.getElem_cons_succ, List.setIfInBounds_toArray, List.set_cons_zero, List.set_cons_succ]
        refine wpAnyH_take (i := 6) (v := ?_) rfl (by kernel_rfl) (by kernel_rfl) (by kernel_rfl) (fun _ _ _ h => h) (Or.inl ⟨by rfl, ?_⟩) hH ?_
        rotate_left
        · ((intro W hW; clear hW; go_simp) <;> with_reducible rfl)
        simp only [Act.put, List.getElem_toArray, List.getElem_cons_zero, List.getElem_cons_succ, List.setIfInBounds_toArray, List.set_cons_zero, List.set_cons_succ]
        refine wpAnyH_take (i := 7) (v := ?_) rfl (by kernel_rfl) (by kernel_rfl) (by kernel_rfl) (fun _ _ _ h => h) (Or.inl ⟨by rfl, ?_⟩) hH ?_
        rotate_left
        · ((intro W hW; clear hW; go_simp) <;> with_reducible rfl)
        simp only [Act.put, List.getElem_toArray, List.getElem_cons_zero, List.getElem_cons_succ, List.setIfInBounds_toArray, List.set_cons_zero, List.set_cons_succ]
        refine wpAnyH_take (i := 8) (v := ?_) rfl (by kernel_rfl) (by kernel_rfl) (by kernel_rfl) (fun _ _ _ h => h) (Or.inl ⟨by rfl, ?_⟩) hH ?_
        rotate_left
        · ((intro W hW; clear hW; go_simp) <;> with_reducible rfl)
        simp only [Act.put, List.getElem_toArray, List.getElem_cons_zero, List.getElem_cons_succ, List.setIfInBounds_toArray, List.set_cons_zero, List.set_cons_succ]
        refine wpAnyH_take (i := 9) (v := ?_) rfl (by kernel_rfl) (by kernel_rfl) (by kernel_rfl) (fun _ _ _ h => h) (Or.inl ⟨by rfl, ?_⟩) hH ?_
        rotate_left
        · ((intro W hW; clear hW; go_simp) <;> with_reducible rfl)
        simp only [Act.put, List.getElem_toArray, List.getElem_cons_zero, List.getElem_cons_succ, List.setIfInBounds_toArray, List.set_cons_zero, List.set_cons_succ]
        refine wpAnyH_take (i := 10) (v := ?_) rfl (by kernel_rfl) (by kernel_rfl) (by kernel_rfl) (fun _ _ _ h => h) (Or.inl ⟨by rfl, ?_⟩) hH ?_
        rotate_left
        · ((intro W hW; clear hW; go_simp) <;> with_reducible rfl)
        simp only [Act.put, List.getElem_toArray, List.getElem_cons_zero, List.getElem_cons_succ, List.setIfInBounds_toArray, List.set_cons_zero, List.set_cons_succ]
        refine wpAnyH_take (i := 11) (v := ?_) rfl (by kernel_rfl) (by kernel_rfl) (by kernel_rfl) (fun _ _ _ h => h) (Or.inl ⟨by rfl, ?_⟩) hH ?_
        rotate_left
        · ((intro W hW; clear hW; go_simp) <;> with_reducible rfl)
        simp only [Act.put, List.getElem_toArray, List.getElem_cons_zero, List.getElem_cons_succ, List.setIfInBounds_toArray, List.set_cons_zero, List.set_cons_succ]
        refine wpAnyH_take (i := 12) (v := ?_) rfl (by kernel_rfl) (by kernel_rfl) (by kernel_rfl) (fun _ _ _ h => h) (Or.inl ⟨by rfl, ?_⟩) hH ?_
        rotate_left
        · ((intro W hW; clear hW; go_simp) <;> with_reducible rfl)
        simp only [Act.put, List.getElem_toArray, List.getElem_cons_zero, List.getElem_cons_succ, List.setIfInBounds_toArray, List.set_cons_zero, List.set_cons_succ]
        refine wpAnyH_take (i := 13) (v := ?_) rfl (by kernel_rfl) (by kernel_rfl) (by kernel_rfl) (fun _ _ _ h => h) (Or.inl ⟨by rfl, ?_⟩) hH ?_
        rotate_left
        · ((intro W hW; have hk := Sle.cellk (hW.2) HX.out 10 _ rfl; clear hW; go_simp) <;> with_reducible rfl)
        simp only [Act.put, List.getElem_toArray, List.getElem_cons_zero, List.getElem_cons_succ, List.setIfInBounds_toArray, List.set_cons_zero, List.set_cons_succ]
        refine wpAnyH_take (i := 14) (v := ?_) rfl (by kernel_rfl) (by kernel_rfl) (by kernel_rfl) (fun _ _ _ h => h) (Or.inl ⟨by rfl, ?_⟩) hH ?_
        rotate_left
        · ((intro W hW; clear hW; go_simp) <;> with_reducible rfl)
        simp only [Act.put, List.getElem_toArray, List.getElem_cons_zero, List.getElem_cons_succ, List.setIfInBounds_toArray, List.set_cons_zero, List.set_cons_succ]
        refine wpAnyH_take (i := 15) (v := ?_) rfl (by kernel_rfl) (by kernel_rfl) (by kernel_rfl) (fun _ _ _ h => h) (Or.inl ⟨by rfl, ?_⟩) hH ?_
        rotate_left
        · ((intro W hW; clear hW; go_simp) <;> with_reducible rfl)
        simp only [Act.put, List.getElem_toArray, List.getElem_cons_zero, List.getElem_cons_succ, List.setIfInBounds_toArray, List.set_cons_zero, List.set_cons_succ]
        refine wpAnyH_take (i := 16) (v := ?_) rfl (by kernel_rfl) (by kernel_rfl) (by kernel_rfl) (fun _ _ _ h => h) (Or.inl ⟨by rfl, ?_⟩) hH ?_
        rotate_left
        · ((intro W hW; clear hW; go_simp) <;> with_reducible rfl)
        simp only [Act.put, List.getElem_toArray, List.getElem_cons_zero, List.getElem_cons_succ, List.setIfInBounds_toArray, List.set_cons_zero, List.set_cons_succ]
        refine wpAnyH_take (i := 17) (v := ?_) rfl (by kernel_rfl) (by kernel_rfl) (by kernel_rfl) (fun _ _ _ h => h) (Or.inl ⟨by rfl, ?_⟩) hH ?_
        rotate_left
        · ((intro W hW; have hk := Sle.inc (i := j) (hW.1) HY.out; clear hW; go_simp) <;> with_reducible rfl)
        simp only [Act.put, List.getElem_toArray, List.getElem_cons_zero, List.getElem_cons_succ, List.setIfInBounds_toArray, List.set_cons_zero, List.set_cons_succ]
        refine wpAnyH_take (i := 18) (v := ?_) rfl (by kernel_rfl) (by kernel_rfl) (by kernel_rfl) (fun _ _ _ h => h) (Or.inl ⟨by rfl, ?_⟩) hH ?_
        rotate_left
        · ((intro W hW; clear hW; go_simp) <;> with_reducible rfl)
        simp only [Act.put, List.getElem_toArray, List.getElem_cons_zero, List.getElem_cons_succ, List.setIfInBounds_toArray, List.set_cons_zero, List.set_cons_succ]
        refine wpAnyH_take (i := 19) (v := ?_) rfl (by kernel_rfl) (by kernel_rfl) (by kernel_rfl) (fun _ _ _ h => h) (Or.inl ⟨by rfl, ?_⟩) hH ?_
        rotate_left
        · ((intro W hW; clear hW; go_simp) <;> with_reducible rfl)
        simp only [Act.put, List.getElem_toArray, List.getElem_cons_zero, List.getElem_cons_succ, List.setIfInBounds_toArray, List.set_cons_zero, List.set_cons_succ]
        refine wpAnyH_take (i := 20) (v := ?_) rfl (by kernel_rfl) (by kernel_rfl) (by kernel_rfl) (fun _ _ _ h => h) (Or.inl ⟨by rfl, ?_⟩) hH ?_
        rotate_left
        · ((intro W hW; clear hW; go_simp) <;> with_reducible rfl)
        simp only [Act.put, List.getElem_toArray, List.getElem_cons_zero, List.getElem_cons_succ, List.setIfInBounds_toArray, List.set_cons_zero, List.set_cons_succ]
        refine wpAnyH_take (i := 21) (v := ?_) rfl (by kernel_rfl) (by kernel_rfl) (by kernel_rfl) (fun _ _ _ h => h) (Or.inl ⟨by rfl, ?_⟩) hH ?_
        rotate_left
        · ((intro W hW; clear hW; go_simp) <;> with_reducible rfl)
        simp only [Act.put, List.getElem_toArray, List.getElem_cons_zero, List.getElem_cons_succ, List.setIfInBounds_toArray, List.set_cons_zero, List.set_cons_succ]
        refine wpAnyH_take (i := 22) (v := ?_) rfl (by kernel_rfl) (by kernel_rfl) (by kernel_rfl) (fun _ _ _ h => h) (Or.inl ⟨by rfl, ?_⟩) hH ?_
        rotate_left
        · ((intro W hW; clear hW; go_simp) <;> with_reducible rfl)
        simp only [Act.put, List.getElem_toArray, List.getElem_cons_zero, List.getElem_cons_succ, List.setIfInBounds_toArray, List.set_cons_zero, List.set_cons_succ]
        refine wpAnyH_take (i := 23) (v := ?_) rfl (by kernel_rfl) (by kernel_rfl) (by kernel_rfl) (fun _ _ _ h => h) (Or.inl ⟨by rfl, ?_⟩) hH ?_
        rotate_left
        · ((intro W hW; clear hW; go_simp) <;> with_reducible rfl)
        simp only [Act.put, List.getElem_toArray, List.getElem_cons_zero, List.getElem_cons_succ, List.setIfInBounds_toArray, List.set_cons_zero, List.set_cons_succ]
        refine wpAnyH_take (i := 24) (v := ?_) rfl (by kernel_rfl) (by kernel_rfl) (by kernel_rfl) (fun _ _ _ h => h) (Or.inl ⟨by rfl, ?_⟩) hH ?_
        rotate_left
        · ((intro W hW; clear hW; go_simp) <;> with_reducible rfl)
        simp only [Act.put, List.getElem_toArray, List.getElem_cons_zero, List.getElem_cons_succ, List.setIfInBounds_toArray, List.set_cons_zero, List.set_cons_succ]
        refine wpAnyH_take (i := 25) (v := .agg #[.int .u8 ((macM (j : Int)).a.toNat : Int), .int .u8 ((macM (j : Int)).b.toNat : Int), .int .u8 ((macM (j : Int)).c.toNat : Int), .int .u8 ((macM (j : Int)).d.toNat : Int), .int .u8 ((macM (j : Int)).e.toNat : Int), .int .u8 ((macM (j : Int)).f.toNat : Int)]) rfl (by kernel_rfl) (by kernel_rfl) (by kernel_rfl) (fun _ _ _ h => h) (yieldsIf_load_mid (by kernel_rfl) 31 _ rfl gX (oX + i * 11) rfl [.int .u8 ((macM (j : Int)).a.toNat : Int), .int .u8 ((macM (j : Int)).b.toNat : Int), .int .u8 ((macM (j : Int)).c.toNat : Int), .int .u8 ((macM (j : Int)).d.toNat : Int), .int .u8 ((macM (j : Int)).e.toNat : Int), .int .u8 ((macM (j : Int)).f.toNat : Int)] _ (fun W hW => Sle.range0 (hW.2) HX.out 6 [.int .u8 ((macM (j : Int)).a.toNat : Int), .int .u8 ((macM (j : Int)).b.toNat : Int), .int .u8 ((macM (j : Int)).c.toNat : Int), .int .u8 ((macM (j : Int)).d.toNat : Int), .int .u8 ((macM (j : Int)).e.toNat : Int), .int .u8 ((macM (j : Int)).f.toNat : Int)] rfl) Try.underlying31 rfl (by kernel_rfl)) hH ?_
        simp only [Act.put, List.getElem_toArray, List.getElem_cons_zero, List.getElem_cons_succ, List.setIfInBounds_toArray, List.set_cons_zero, List.set_cons_succ]
        refine wpAnyH_take (i := 26) (v := ?_) rfl (by kernel_rfl) (by kernel_rfl) (by kernel_rfl) (fun _ _ _ h => h) (Or.inl ⟨by rfl, ?_⟩) hH ?_
        rotate_left
        · ((intro W hW; clear hW; go_simp) <;> with_reducible rfl)
        simp only [Act.put, List.getElem_toArray, List.getElem_cons_zero, List.getElem_cons_succ, List.setIfInBounds_toArray, List.set_cons_zero, List.set_cons_succ]
        refine wpAnyH_ready (rs := [27]) (by kernel_rfl) (by simp) ?_
        refine AllReadyH.cons (o := _) rfl (fun K hK => ?_) AllReadyH.nil
        simp only [List.getElem_toArray, List.getElem_cons_zero, List.getElem_cons_succ]
        go_simp
        with_reducible refine (mac_n (k := j) _ rfl).mono ?_
        rintro e w9 ⟨rfl, b9⟩
        dsimp only
        replace xs := xs.below b9
        replace ll := ll.below b9
        replace bel := bel.trans (b9.mono bel.size)
        clear b9
        refine hK.out _ _ ⟨ll, xs⟩ (fun hH10 => ?_)
        clear hK K
        refine wpAnyH_take (i := 28) (v := ?_) rfl (by kernel_rfl) (by kernel_rfl) (by kernel_rfl) (fun _ _ _ h => h) (Or.inl ⟨by rfl, ?_⟩) hH10 ?_
        rotate_left
        · ((intro W hW; clear hW; go_simp) <;> with_reducible rfl)
        simp only [Act.put, List.getElem_toArray, List.getElem_cons_zero, List.getElem_cons_succ, List.setIfInBounds_toArray, List.set_cons_zero, List.set_cons_succ]
        refine wpAnyH_take (i := 29) (v := ?_) rfl (by kernel_rfl) (by kernel_rfl) (by kernel_rfl) (fun _ _ _ h => h) (Or.inl ⟨by rfl, ?_⟩) hH10 ?_
        rotate_left
        · ((intro W hW; clear hW; go_simp) <;> with_reducible rfl)
        simp only [Act.put, List.getElem_toArray, List.getElem_cons_zero, List.getElem_cons_succ, List.setIfInBounds_toArray, List.set_cons_zero, List.set_cons_succ]
        refine wpAnyH_take (i := 30) (v := ?_) rfl (by kernel_rfl) (by kernel_rfl) (by kernel_rfl) (fun _ _ _ h => h) (Or.inl ⟨by rfl, ?_⟩) hH10 ?_
        rotate_left
        · ((intro W hW; clear hW; go_simp) <;> with_reducible rfl)
        simp only [Act.put, List.getElem_toArray, List.getElem_cons_zero, List.getElem_cons_succ, List.setIfInBounds_toArray, List.set_cons_zero, List.set_cons_succ]
        refine wpAnyH_take (i := 31) (v := ?_) rfl (by kernel_rfl) (by kernel_rfl) (by kernel_rfl) (fun _ _ _ h => h) (Or.inl ⟨by rfl, ?_⟩) hH10 ?_
        rotate_left
        · ((intro W hW; clear hW; go_simp) <;> with_reducible rfl)
        simp only [Act.put, List.getElem_toArray, List.getElem_cons_zero, List.getElem_cons_succ, List.setIfInBounds_toArray, List.set_cons_zero, List.set_cons_succ]
        refine wpAnyH_take (i := 32) (v := ?_) rfl (by kernel_rfl) (by kernel_rfl) (by kernel_rfl) (fun _ _ _ h => h) (Or.inl ⟨by rfl, ?_⟩) hH10 ?_
        rotate_left
        · ((intro W hW; clear hW; go_simp) <;> with_reducible rfl)
        simp only [Act.put, List.getElem_toArray, List.getElem_cons_zero, List.getElem_cons_succ, List.setIfInBounds_toArray, List.set_cons_zero, List.set_cons_succ]
        refine wpAnyH_take (i := 33) (v := ?_) rfl (by kernel_rfl) (by kernel_rfl) (by kernel_rfl) (fun _ _ _ h => h) (Or.inl ⟨by rfl, ?_⟩) hH10 ?_
        rotate_left
        · ((intro W hW; clear hW; go_simp) <;> with_reducible rfl)
        simp only [Act.put, List.getElem_toArray, List.getElem_cons_zero, List.getElem_cons_succ, List.setIfInBounds_toArray, List.set_cons_zero, List.set_cons_succ]
        refine wpAnyH_take (i := 34) (v := undef) rfl (by kernel_rfl) (by kernel_rfl) (by kernel_rfl) (fun _ _ _ h => h) (Or.inr ⟨by rfl, rfl⟩) hH10 ?_
        simp only [Act.put, List.getElem_toArray, List.getElem_cons_zero, List.getElem_cons_succ, List.setIfInBounds_toArray, List.set_cons_zero, List.set_cons_succ]
        refine wpAnyH_take (i := 35) (v := undef) rfl (by kernel_rfl) (by kernel_rfl) (by kernel_rfl) (fun _ _ _ h => h) (Or.inr ⟨by rfl, rfl⟩) hH10 ?_
        simp only [Act.put, List.getElem_toArray, List.getElem_cons_zero, List.getElem_cons_succ, List.setIfInBounds_toArray, List.set_cons_zero, List.set_cons_succ]
        refine wpAnyH_take (i := 36) (v := undef) rfl (by kernel_rfl) (by kernel_rfl) (by kernel_rfl) (fun _ _ _ h => h) (Or.inr ⟨by rfl, rfl⟩) hH10 ?_
        simp only [Act.put, List.getElem_toArray, List.getElem_cons_zero, List.getElem_cons_succ, List.setIfInBounds_toArray, List.set_cons_zero, List.set_cons_succ]
        refine wpAnyH_take (i := 37) (v := undef) rfl (by kernel_rfl) (by kernel_rfl) (by kernel_rfl) (fun _ _ _ h => h) (Or.inr ⟨by rfl, rfl⟩) hH10 ?_
        simp only [Act.put, List.getElem_toArray, List.getElem_cons_zero, List.getElem_cons_succ, List.setIfInBounds_toArray, List.set_cons_zero, List.set_cons_succ]
        refine wpAnyH_take (i := 38) (v := undef) rfl (by kernel_rfl) (by kernel_rfl) (by kernel_rfl) (fun _ _ _ h => h) (Or.inr ⟨by rfl, rfl⟩) hH10 ?_
        simp only [Act.put, List.getElem_toArray, List.getElem_cons_zero, List.getElem_cons_succ, List.setIfInBounds_toArray, List.set_cons_zero, List.set_cons_succ]
        refine wpAnyH_take (i := 39) (v := undef) rfl (by kernel_rfl) (by kernel_rfl) (by kernel_rfl) (fun _ _ _ h => h) (Or.inr ⟨by rfl, rfl⟩) hH10 ?_
        simp only [Act.put, List.getElem_toArray, List.getElem_cons_zero, List.getElem_cons_succ, List.setIfInBounds_toArray, List.set_cons_zero, List.set_cons_succ]
        refine wpAnyH_take (i := 40) (v := undef) rfl (by kernel_rfl) (by kernel_rfl) (by kernel_rfl) (fun _ _ _ h => h) (Or.inr ⟨by rfl, rfl⟩) hH10 ?_
        simp only [Act.put, List.getElem_toArray, List.getElem_cons_zero, List.getElem_cons_succ, List.setIfInBounds_toArray, List.set_cons_zero, List.set_cons_succ]
        refine wpAnyH_take (i := 41) (v := undef) rfl (by kernel_rfl) (by kernel_rfl) (by kernel_rfl) (fun _ _ _ h => h) (Or.inr ⟨by rfl, rfl⟩) hH10 ?_
        simp only [Act.put, List.getElem_toArray, List.getElem_cons_zero, List.getElem_cons_succ, List.setIfInBounds_toArray, List.set_cons_zero, List.set_cons_succ]
        refine wpAnyH_take (i := 42) (v := undef) rfl (by kernel_rfl) (by kernel_rfl) (by kernel_rfl) (fun _ _ _ h => h) (Or.inr ⟨by rfl, rfl⟩) hH10 ?_
        simp only [Act.put, List.getElem_toArray, List.getElem_cons_zero, List.getElem_cons_succ, List.setIfInBounds_toArray, List.set_cons_zero, List.set_cons_succ]
        refine wpAnyH_take (i := 43) (v := undef) rfl (by kernel_rfl) (by kernel_rfl) (by kernel_rfl) (fun _ _ _ h => h) (Or.inr ⟨by rfl, rfl⟩) hH10 ?_
        simp only [Act.put, List.getElem_toArray, List.getElem_cons_zero, List.getElem_cons_succ, List.setIfInBounds_toArray, List.set_cons_zero, List.set_cons_succ]
        refine wpAnyH_take (i := 44) (v := undef) rfl (by kernel_rfl) (by kernel_rfl) (by kernel_rfl) (fun _ _ _ h => h) (Or.inr ⟨by rfl, rfl⟩) hH10 ?_
        simp only [Act.put, List.getElem_toArray, List.getElem_cons_zero, List.getElem_cons_succ, List.setIfInBounds_toArray, List.set_cons_zero, List.set_cons_succ]
        refine wpAnyH_take (i := 45) (v := undef) rfl (by kernel_rfl) (by kernel_rfl) (by kernel_rfl) (fun _ _ _ h => h) (Or.inr ⟨by rfl, rfl⟩) hH10 ?_
        simp only [Act.put, List.getElem_toArray, List.getElem_cons_zero, List.getElem_cons_succ, List.setIfInBounds_toArray, List.set_cons_zero, List.set_cons_succ]
        refine wpAnyH_take (i := 46) (v := undef) rfl (by kernel_rfl) (by kernel_rfl) (by kernel_rfl) (fun _ _ _ h => h) (Or.inr ⟨by rfl, rfl⟩) hH10 ?_
        simp only [Act.put, List.getElem_toArray, List.getElem_cons_zero, List.getElem_cons_succ, List.setIfInBounds_toArray, List.set_cons_zero, List.set_cons_succ]
        refine wpAnyH_take (i := 47) (v := undef) rfl (by kernel_rfl) (by kernel_rfl) (by kernel_rfl) (fun _ _ _ h => h) (Or.inr ⟨by rfl, rfl⟩) hH10 ?_
        simp only [Act.put, List.getElem_toArray, List.getElem_cons_zero, List.getElem_cons_succ, List.setIfInBounds_toArray, List.set_cons_zero, List.set_cons_succ]
        refine wpAnyH_take (i := 48) (v := ?_) rfl (by kernel_rfl) (by kernel_rfl) (by kernel_rfl) (fun _ _ _ h => h) (Or.inl ⟨by rfl, ?_⟩) hH10 ?_
        rotate_left
        · ((intro W hW; clear hW; go_simp) <;> with_reducible rfl)
        simp only [Act.put, List.getElem_toArray, List.getElem_cons_zero, List.getElem_cons_succ, List.setIfInBounds_toArray, List.set_cons_zero, List.set_cons_succ]
        refine wpAnyH_take (i := 49) (v := ?_) rfl (by kernel_rfl) (by kernel_rfl) (by kernel_rfl) (fun _ _ _ h => h) (Or.inl ⟨by rfl, ?_⟩) hH10 ?_
        rotate_left
        · ((intro W hW; clear hW; go_simp) <;> with_reducible rfl)
        simp only [Act.put, List.getElem_toArray, List.getElem_cons_zero, List.getElem_cons_succ, List.setIfInBounds_toArray, List.set_cons_zero, List.set_cons_succ]
        refine wpAnyH_done (by kernel_rfl) ?_ _
        go_wp2_with fail
        go_roundg (c - (i + 1))
        case measure => have := HGK_.out; have := HIC.out; omega
        case rel => exact ⟨i + 1, rfl, by have := HIC.out; omega, by go_num, xs, bel⟩
      obtain ⟨r, hr⟩ : ∃ r, r + 1 = i := ⟨i - 1, by omega⟩
      have hir : (i : Int) - 1 = (r : Int) := by omega
      have r0 : (0 : Int) ≤ r := by omega
      have r1 : (r : Int) < c := by omega
      have hwr : IntKind.i64.wrap (r : Int) = (r : Int) := IntWalk.i64_in _ (by have := HCK.out; omega)
      have i0p : (0 : Int) < i := by omega
      have i0n : 0 < i := by omega
      obtain ⟨p, hp⟩ : ∃ p, (telI L now)[r]? = some p := ⟨_, List.getElem?_eq_getElem (by rw [HCI.out]; omega)⟩
      have hpj : p < j := telI_up hp (by rw [hr]; exact HJ.out)
      obtain ⟨z, hz⟩ : ∃ z, L.getD p 0 = z := ⟨_, rfl⟩
      have HP : Hid (ls[r]? = some ⟨macM (p : Int), nA p, z⟩) := Lib.hid (by rw [← HLS.out, List.getElem?_map, hp, ← hz]; rfl)
      have hdp : ((nA p).d.toNat : Int) = 100 + (p : Int) := by show ((byteOf ((100 + p : Nat) : Int)).toNat : Int) = _; rw [byteOf_small (by have := HJ31.out; omega)]; omega
      have hlt_ : ¬ ((nA j).d.toNat : Int) ≤ ((nA p).d.toNat : Int) := by rw [HD.out, hdp]; omega
      have g1 : decide (((nA j).d.toNat : Int) ≤ ((nA p).d.toNat : Int)) = false := decide_eq_false hlt_
      have g2 : decide ((nA j).d.toNat ≤ (nA p).d.toNat) = false := decide_eq_false (by omega)
      have g3 : decide ((nA j).d ≤ (nA p).d) = false := decide_eq_false (by rw [UInt8.le_iff_toNat_le]; omega)
      clear hr hp hpj hz hdp hlt_ hi0
      have R107 := Sle.cellk xs HX.out 9 _ rfl
      go_wp2_with fail
      clear R107
      replace bel := bel.drew
      replace xs := xs.drew
      replace ll := ll.drew
      refine wp_region_held_drew (S := fun W => Sle inf 1 W (some ⟨gI, oI, none⟩) (n) (cp) (L) ∧ Sle leE 11 W (some ⟨gX, oX, none⟩) (c) (cx) (ls)) (by kernel_rfl) ⟨ll, xs⟩ (fun hH => ?_)
      generalize wr.drew = w8 at bel xs ll hH ⊢
      refine wpAnyH_take (i := 0) (v := ?_) rfl (by kernel_rfl) (by kernel_rfl) (by kernel_rfl) (fun _ _ _ h => h) (Or.inl ⟨by rfl, ?_⟩) hH ?_
      rotate_left
      · ((intro W hW; clear hW; go_simp) <;> with_reducible rfl)
      simp only [Act.put, List.getElem_toArray, List.getElem_cons_zero, List.setIfInBounds_toArray, List.set_cons_zero, List.set_cons_succ]
      refine wpAnyH_take (i := 1) (v := ?_) rfl (by kernel_rfl) (by kernel_rfl) (by kernel_rfl) (fun _ _ _ h => h) (Or.inl ⟨by rfl, ?_⟩) hH ?_
      rotate_left
      · ((intro W hW; clear hW; go_simp) <;> with_reducible rfl)
      simp only [Act.put, List.getElem_toArray, List.getElem_cons_zero, List.getElem_cons_succ, List.setIfInBounds_toArray, List.set_cons_zero, List.set_cons_succ]
      refine wpAnyH_take (i := 2) (v := ?_) rfl (by kernel_rfl) (by kernel_rfl) (by kernel_rfl) (fun _ _ _ h => h) (Or.inl ⟨by rfl, ?_⟩) hH ?_
      rotate_left
      · ((intro W hW; clear hW; go_simp) <;> with_reducible rfl)
      simp only [Act.put, List.getElem_toArray, List.getElem_cons_zero, List.getElem_cons_succ, List.setIfInBounds_toArray, List.set_cons_zero, List.set_cons_succ]
      refine wpAnyH_take (i := 3) (v := ?_) rfl (by kernel_rfl) (by kernel_rfl) (by kernel_rfl) (fun _ _ _ h => h) (Or.inl ⟨by rfl, ?_⟩) hH ?_
      rotate_left
      · ((intro W hW; clear hW; go_simp) <;> with_reducible rfl)
      simp only [Act.put, List.getElem_toArray, List.getElem_cons_zero, List.getElem_cons_succ, List.setIfInBounds_toArray, List.set_cons_zero, List.set_cons_succ]
      refine wpAnyH_take (i := 4) (v := ?_) rfl (by kernel_rfl) (by kernel_rfl) (by kernel_rfl) (fun _ _ _ h => h) (Or.inl ⟨by rfl, ?_⟩) hH ?_
      rotate_left
      · ((intro W hW; clear hW; go_simp) <;> with_reducible rfl)
      simp only [Act.put, List.getElem_toArray, List.getElem_cons_zero, List.getElem_cons_succ, List.setIfInBounds_toArray, List.set_cons_zero, List.set_cons_succ]
      refine wpAnyH_take (i := 5) (v := ?_) rfl (by kernel_rfl) (by kernel_rfl) (by kernel_rfl) (fun _ _ _ h => h) (Or.inl ⟨by rfl, ?_⟩) hH ?_
      rotate_left
      · ((intro W hW; clear hW; go_simp) <;> with_reducible rfl)
      simp only [Act.put, List.getElem_toArray, List.getElem_cons_zero, List.getElem_cons_succ, List.setIfInBounds_toArray, List.set_cons_zero, List.set_cons_succ]
      refine wpAnyH_take (i := 6) (v := ?_) rfl (by kernel_rfl) (by kernel_rfl) (by kernel_rfl) (fun _ _ _ h => h) (Or.inl ⟨by rfl, ?_⟩) hH ?_
      rotate_left
      · ((intro W hW; clear hW; go_simp) <;> with_reducible rfl)
      simp only [Act.put, List.getElem_toArray, List.getElem_cons_zero, List.getElem_cons_succ, List.setIfInBounds_toArray, List.set_cons_zero, List.set_cons_succ]
      refine wpAnyH_take (i := 7) (v := ?_) rfl (by kernel_rfl) (by kernel_rfl) (by kernel_rfl) (fun _ _ _ h => h) (Or.inl ⟨by rfl, ?_⟩) hH ?_
      rotate_left
      · ((intro W hW; clear hW; go_simp) <;> with_reducible rfl)
      simp only [Act.put, List.getElem_toArray, List.getElem_cons_zero, List.getElem_cons_succ, List.setIfInBounds_toArray, List.set_cons_zero, List.set_cons_succ]
      refine wpAnyH_take (i := 8) (v := ?_) rfl (by kernel_rfl) (by kernel_rfl) (by kernel_rfl) (fun _ _ _ h => h) (Or.inl ⟨by rfl, ?_⟩) hH ?_
      rotate_left
      · ((intro W hW; clear hW; go_simp) <;> with_reducible rfl)
      simp only [Act.put, List.getElem_toArray, List.getElem_cons_zero, List.getElem_cons_succ, List.setIfInBounds_toArray, List.set_cons_zero, List.set_cons_succ]
      refine wpAnyH_take (i := 9) (v := ?_) rfl (by kernel_rfl) (by kernel_rfl) (by kernel_rfl) (fun _ _ _ h => h) (Or.inl ⟨by rfl, ?_⟩) hH ?_
      rotate_left
      · ((intro W hW; clear hW; go_simp) <;> with_reducible rfl)
      simp only [Act.put, List.getElem_toArray, List.getElem_cons_zero, List.getElem_cons_succ, List.setIfInBounds_toArray, List.set_cons_zero, List.set_cons_succ]
      refine wpAnyH_take (i := 10) (v := ?_) rfl (by kernel_rfl) (by kernel_rfl) (by kernel_rfl) (fun _ _ _ h => h) (Or.inl ⟨by rfl, ?_⟩) hH ?_
      rotate_left
      · ((intro W hW; clear hW; go_simp) <;> with_reducible rfl)
      simp only [Act.put, List.getElem_toArray, List.getElem_cons_zero, List.getElem_cons_succ, List.setIfInBounds_toArray, List.set_cons_zero, List.set_cons_succ]
      refine wpAnyH_take (i := 11) (v := ?_) rfl (by kernel_rfl) (by kernel_rfl) (by kernel_rfl) (fun _ _ _ h => h) (Or.inl ⟨by rfl, ?_⟩) hH ?_
      rotate_left
      · ((intro W hW; clear hW; go_simp) <;> with_reducible rfl)
      simp only [Act.put, List.getElem_toArray, List.getElem_cons_zero, List.getElem_cons_succ, List.setIfInBounds_toArray, List.set_cons_zero, List.set_cons_succ]
      refine wpAnyH_take (i := 12) (v := ?_) rfl (by kernel_rfl) (by kernel_rfl) (by kernel_rfl) (fun _ _ _ h => h) (Or.inl ⟨by rfl, ?_⟩) hH ?_
      rotate_left
      · ((intro W hW; clear hW; go_simp) <;> with_reducible rfl)
      simp only [Act.put, List.getElem_toArray, List.getElem_cons_zero, List.getElem_cons_succ, List.setIfInBounds_toArray, List.set_cons_zero, List.set_cons_succ]
      refine wpAnyH_take (i := 13) (v := ?_) rfl (by kernel_rfl) (by kernel_rfl) (by kernel_rfl) (fun _ _ _ h => h) (Or.inl ⟨by rfl, ?_⟩) hH ?_
      rotate_left
      · ((intro W hW; have hk := Sle.cellk (hW.2) HX.out 10 _ rfl; clear hW; go_simp) <;> with_reducible rfl)
      simp only [Act.put, List.getElem_toArray, List.getElem_cons_zero, List.getElem_cons_succ, List.setIfInBounds_toArray, List.set_cons_zero, List.set_cons_succ]
      refine wpAnyH_take (i := 14) (v := ?_) rfl (by kernel_rfl) (by kernel_rfl) (by kernel_rfl) (fun _ _ _ h => h) (Or.inl ⟨by rfl, ?_⟩) hH ?_
      rotate_left
      · ((intro W hW; clear hW; go_simp) <;> with_reducible rfl)
      simp only [Act.put, List.getElem_toArray, List.getElem_cons_zero, List.getElem_cons_succ, List.setIfInBounds_toArray, List.set_cons_zero, List.set_cons_succ]
      refine wpAnyH_take (i := 15) (v := ?_) rfl (by kernel_rfl) (by kernel_rfl) (by kernel_rfl) (fun _ _ _ h => h) (Or.inl ⟨by rfl, ?_⟩) hH ?_
      rotate_left
      · ((intro W hW; clear hW; go_simp) <;> with_reducible rfl)
      simp only [Act.put, List.getElem_toArray, List.getElem_cons_zero, List.getElem_cons_succ, List.setIfInBounds_toArray, List.set_cons_zero, List.set_cons_succ]
      refine wpAnyH_take (i := 16) (v := ?_) rfl (by kernel_rfl) (by kernel_rfl) (by kernel_rfl) (fun _ _ _ h => h) (Or.inl ⟨by rfl, ?_⟩) hH ?_
      rotate_left
      · ((intro W hW; clear hW; go_simp) <;> with_reducible rfl)
      simp only [Act.put, List.getElem_toArray, List.getElem_cons_zero, List.getElem_cons_succ, List.setIfInBounds_toArray, List.set_cons_zero, List.set_cons_succ]
      refine wpAnyH_take (i := 17) (v := ?_) rfl (by kernel_rfl) (by kernel_rfl) (by kernel_rfl) (fun _ _ _ h => h) (Or.inl ⟨by rfl, ?_⟩) hH ?_
      rotate_left
      · ((intro W hW; have hk := Sle.inc (i := j) (hW.1) HY.out; clear hW; go_simp) <;> with_reducible rfl)
      simp only [Act.put, List.getElem_toArray, List.getElem_cons_zero, List.getElem_cons_succ, List.setIfInBounds_toArray, List.set_cons_zero, List.set_cons_succ]
      refine wpAnyH_take (i := 18) (v := ?_) rfl (by kernel_rfl) (by kernel_rfl) (by kernel_rfl) (fun _ _ _ h => h) (Or.inl ⟨by rfl, ?_⟩) hH ?_
      rotate_left
      · ((intro W hW; clear hW; go_simp) <;> with_reducible rfl)
      simp only [Act.put, List.getElem_toArray, List.getElem_cons_zero, List.getElem_cons_succ, List.setIfInBounds_toArray, List.set_cons_zero, List.set_cons_succ]
      refine wpAnyH_take (i := 19) (v := ?_) rfl (by kernel_rfl) (by kernel_rfl) (by kernel_rfl) (fun _ _ _ h => h) (Or.inl ⟨by rfl, ?_⟩) hH ?_
      rotate_left
      · ((intro W hW; clear hW; go_simp) <;> with_reducible rfl)
      simp only [Act.put, List.getElem_toArray, List.getElem_cons_zero, List.getElem_cons_succ, List.setIfInBounds_toArray, List.set_cons_zero, List.set_cons_succ]
      refine wpAnyH_take (i := 20) (v := ?_) rfl (by kernel_rfl) (by kernel_rfl) (by kernel_rfl) (fun _ _ _ h => h) (Or.inl ⟨by rfl, ?_⟩) hH ?_
      rotate_left
      · ((intro W hW; clear hW; go_simp) <;> with_reducible rfl)
      simp only [Act.put, List.getElem_toArray, List.getElem_cons_zero, List.getElem_cons_succ, List.setIfInBounds_toArray, List.set_cons_zero, List.set_cons_succ]
      refine wpAnyH_take (i := 21) (v := ?_) rfl (by kernel_rfl) (by kernel_rfl) (by kernel_rfl) (fun _ _ _ h => h) (Or.inl ⟨by rfl, ?_⟩) hH ?_
      rotate_left
      · ((intro W hW; clear hW; go_simp) <;> with_reducible rfl)
      simp only [Act.put, List.getElem_toArray, List.getElem_cons_zero, List.getElem_cons_succ, List.setIfInBounds_toArray, List.set_cons_zero, List.set_cons_succ]
      refine wpAnyH_take (i := 22) (v := ?_) rfl (by kernel_rfl) (by kernel_rfl) (by kernel_rfl) (fun _ _ _ h => h) (Or.inl ⟨by rfl, ?_⟩) hH ?_
      rotate_left
      · ((intro W hW; clear hW; go_simp) <;> with_reducible rfl)
      simp only [Act.put, List.getElem_toArray, List.getElem_cons_zero, List.getElem_cons_succ, List.setIfInBounds_toArray, List.set_cons_zero, List.set_cons_succ]
      refine wpAnyH_take (i := 23) (v := ?_) rfl (by kernel_rfl) (by kernel_rfl) (by kernel_rfl) (fun _ _ _ h => h) (Or.inl ⟨by rfl, ?_⟩) hH ?_
      rotate_left
      · ((intro W hW; clear hW; go_simp) <;> with_reducible rfl)
      simp only [Act.put, List.getElem_toArray, List.getElem_cons_zero, List.getElem_cons_succ, List.setIfInBounds_toArray, List.set_cons_zero, List.set_cons_succ]
      refine wpAnyH_take (i := 24) (v := ?_) rfl (by kernel_rfl) (by kernel_rfl) (by kernel_rfl) (fun _ _ _ h => h) (Or.inl ⟨by rfl, ?_⟩) hH ?_
      rotate_left
      · ((intro W hW; clear hW; go_simp) <;> with_reducible rfl)
      simp only [Act.put, List.getElem_toArray, List.getElem_cons_zero, List.getElem_cons_succ, List.setIfInBounds_toArray, List.set_cons_zero, List.set_cons_succ]
      refine wpAnyH_take (i := 25) (v := .agg #[.int .u8 ((macM (j : Int)).a.toNat : Int), .int .u8 ((macM (j : Int)).b.toNat : Int), .int .u8 ((macM (j : Int)).c.toNat : Int), .int .u8 ((macM (j : Int)).d.toNat : Int), .int .u8 ((macM (j : Int)).e.toNat : Int), .int .u8 ((macM (j : Int)).f.toNat : Int)]) rfl (by kernel_rfl) (by kernel_rfl) (by kernel_rfl) (fun _ _ _ h => h) (yieldsIf_load_mid (by kernel_rfl) 31 _ rfl gX (oX + i * 11) rfl [.int .u8 ((macM (j : Int)).a.toNat : Int), .int .u8 ((macM (j : Int)).b.toNat : Int), .int .u8 ((macM (j : Int)).c.toNat : Int), .int .u8 ((macM (j : Int)).d.toNat : Int), .int .u8 ((macM (j : Int)).e.toNat : Int), .int .u8 ((macM (j : Int)).f.toNat : Int)] _ (fun W hW => Sle.range0 (hW.2) HX.out 6 [.int .u8 ((macM (j : Int)).a.toNat : Int), .int .u8 ((macM (j : Int)).b.toNat : Int), .int .u8 ((macM (j : Int)).c.toNat : Int), .int .u8 ((macM (j : Int)).d.toNat : Int), .int .u8 ((macM (j : Int)).e.toNat : Int), .int .u8 ((macM (j : Int)).f.toNat : Int)] rfl) Try.underlying31 rfl (by kernel_rfl)) hH ?_
      simp only [Act.put, List.getElem_toArray, List.getElem_cons_zero, List.getElem_cons_succ, List.setIfInBounds_toArray, List.set_cons_zero, List.set_cons_succ]
      refine wpAnyH_take (i := 26) (v := ?_) rfl (by kernel_rfl) (by kernel_rfl) (by kernel_rfl) (fun _ _ _ h => h) (Or.inl ⟨by rfl, ?_⟩) hH ?_
      rotate_left
      · ((intro W hW; clear hW; go_simp) <;> with_reducible rfl)
      simp only [Act.put, List.getElem_toArray, List.getElem_cons_zero, List.getElem_cons_succ, List.setIfInBounds_toArray, List.set_cons_zero, List.set_cons_succ]
      refine wpAnyH_ready (rs := [27]) (by kernel_rfl) (by simp) ?_
      refine AllReadyH.cons (o := _) rfl (fun K hK => ?_) AllReadyH.nil
      simp only [List.getElem_toArray, List.getElem_cons_zero, List.getElem_cons_succ]
      go_simp
      with_reducible refine (mac_n (k := j) _ rfl).mono ?_
      rintro e w9 ⟨rfl, b9⟩
      dsimp only
      replace xs := xs.below b9
      replace ll := ll.below b9
      replace bel := bel.trans (b9.mono bel.size)
      clear b9
      refine hK.out _ _ ⟨ll, xs⟩ (fun hH10 => ?_)
      clear hK K
      refine wpAnyH_take (i := 28) (v := ?_) rfl (by kernel_rfl) (by kernel_rfl) (by kernel_rfl) (fun _ _ _ h => h) (Or.inl ⟨by rfl, ?_⟩) hH10 ?_
      rotate_left
      · ((intro W hW; clear hW; go_simp) <;> with_reducible rfl)
      simp only [Act.put, List.getElem_toArray, List.getElem_cons_zero, List.getElem_cons_succ, List.setIfInBounds_toArray, List.set_cons_zero, List.set_cons_succ]
      refine wpAnyH_take (i := 29) (v := ?_) rfl (by kernel_rfl) (by kernel_rfl) (by kernel_rfl) (fun _ _ _ h => h) (Or.inl ⟨by rfl, ?_⟩) hH10 ?_
      rotate_left
      · ((intro W hW; clear hW; go_simp) <;> with_reducible rfl)
      simp only [Act.put, List.getElem_toArray, List.getElem_cons_zero, List.getElem_cons_succ, List.setIfInBounds_toArray, List.set_cons_zero, List.set_cons_succ]
      refine wpAnyH_take (i := 30) (v := ?_) rfl (by kernel_rfl) (by kernel_rfl) (by kernel_rfl) (fun _ _ _ h => h) (Or.inl ⟨by rfl, ?_⟩) hH10 ?_
      rotate_left
      · ((intro W hW; clear hW; go_simp) <;> with_reducible rfl)
      simp only [Act.put, List.getElem_toArray, List.getElem_cons_zero, List.getElem_cons_succ, List.setIfInBounds_toArray, List.set_cons_zero, List.set_cons_succ]
      refine wpAnyH_take (i := 31) (v := ?_) rfl (by kernel_rfl) (by kernel_rfl) (by kernel_rfl) (fun _ _ _ h => h) (Or.inl ⟨by rfl, ?_⟩) hH10 ?_
      rotate_left
      · ((intro W hW; clear hW; go_simp) <;> with_reducible rfl)
      simp only [Act.put, List.getElem_toArray, List.getElem_cons_zero, List.getElem_cons_succ, List.setIfInBounds_toArray, List.set_cons_zero, List.set_cons_succ]
      refine wpAnyH_take (i := 32) (v := ?_) rfl (by kernel_rfl) (by kernel_rfl) (by kernel_rfl) (fun _ _ _ h => h) (Or.inl ⟨by rfl, ?_⟩) hH10 ?_
      rotate_left
      · ((intro W hW; clear hW; go_simp) <;> with_reducible rfl)
      simp only [Act.put, List.getElem_toArray, List.getElem_cons_zero, List.getElem_cons_succ, List.setIfInBounds_toArray, List.set_cons_zero, List.set_cons_succ]
      refine wpAnyH_take (i := 33) (v := ?_) rfl (by kernel_rfl) (by kernel_rfl) (by kernel_rfl) (fun _ _ _ h => h) (Or.inl ⟨by rfl, ?_⟩) hH10 ?_
      rotate_left
      · ((intro W hW; clear hW; go_simp) <;> with_reducible rfl)
      simp only [Act.put, List.getElem_toArray, List.getElem_cons_zero, List.getElem_cons_succ, List.setIfInBounds_toArray, List.set_cons_zero, List.set_cons_succ]
      refine wpAnyH_take (i := 34) (v := ?_) rfl (by kernel_rfl) (by kernel_rfl) (by kernel_rfl) (fun _ _ _ h => h) (Or.inl ⟨by rfl, ?_⟩) hH10 ?_
      rotate_left
      · ((intro W hW; clear hW; go_simp) <;> with_reducible rfl)
      simp only [Act.put, List.getElem_toArray, List.getElem_cons_zero, List.getElem_cons_succ, List.setIfInBounds_toArray, List.set_cons_zero, List.set_cons_succ]
      refine wpAnyH_take (i := 35) (v := ?_) rfl (by kernel_rfl) (by kernel_rfl) (by kernel_rfl) (fun _ _ _ h => h) (Or.inl ⟨by rfl, ?_⟩) hH10 ?_
      rotate_left
      · ((intro W hW; clear hW; go_simp) <;> with_reducible rfl)
      simp only [Act.put, List.getElem_toArray, List.getElem_cons_zero, List.getElem_cons_succ, List.setIfInBounds_toArray, List.set_cons_zero, List.set_cons_succ]
      refine wpAnyH_take (i := 36) (v := ?_) rfl (by kernel_rfl) (by kernel_rfl) (by kernel_rfl) (fun _ _ _ h => h) (Or.inl ⟨by rfl, ?_⟩) hH10 ?_
      rotate_left
      · ((intro W hW; clear hW; go_simp) <;> with_reducible rfl)
      simp only [Act.put, List.getElem_toArray, List.getElem_cons_zero, List.getElem_cons_succ, List.setIfInBounds_toArray, List.set_cons_zero, List.set_cons_succ]
      refine wpAnyH_take (i := 37) (v := ?_) rfl (by kernel_rfl) (by kernel_rfl) (by kernel_rfl) (fun _ _ _ h => h) (Or.inl ⟨by rfl, ?_⟩) hH10 ?_
      rotate_left
      · ((intro W hW; clear hW; go_simp) <;> with_reducible rfl)
      simp only [Act.put, List.getElem_toArray, List.getElem_cons_zero, List.getElem_cons_succ, List.setIfInBounds_toArray, List.set_cons_zero, List.set_cons_succ]
      refine wpAnyH_take (i := 38) (v := ?_) rfl (by kernel_rfl) (by kernel_rfl) (by kernel_rfl) (fun _ _ _ h => h) (Or.inl ⟨by rfl, ?_⟩) hH10 ?_
      rotate_left
      · ((intro W hW; clear hW; go_simp) <;> with_reducible rfl)
      simp only [Act.put, List.getElem_toArray, List.getElem_cons_zero, List.getElem_cons_succ, List.setIfInBounds_toArray, List.set_cons_zero, List.set_cons_succ]
      refine wpAnyH_take (i := 39) (v := ?_) rfl (by kernel_rfl) (by kernel_rfl) (by kernel_rfl) (fun _ _ _ h => h) (Or.inl ⟨by rfl, ?_⟩) hH10 ?_
      rotate_left
      · ((intro W hW; have hk := Sle.cellk (hW.2) HX.out 9 _ rfl; clear hW; go_simp) <;> with_reducible rfl)
      simp only [Act.put, List.getElem_toArray, List.getElem_cons_zero, List.getElem_cons_succ, List.setIfInBounds_toArray, List.set_cons_zero, List.set_cons_succ]
      refine wpAnyH_take (i := 40) (v := ?_) rfl (by kernel_rfl) (by kernel_rfl) (by kernel_rfl) (fun _ _ _ h => h) (Or.inl ⟨by rfl, ?_⟩) hH10 ?_
      rotate_left
      · ((intro W hW; clear hW; go_simp) <;> with_reducible rfl)
      simp only [Act.put, List.getElem_toArray, List.getElem_cons_zero, List.getElem_cons_succ, List.setIfInBounds_toArray, List.set_cons_zero, List.set_cons_succ]
      refine wpAnyH_take (i := 41) (v := ?_) rfl (by kernel_rfl) (by kernel_rfl) (by kernel_rfl) (fun _ _ _ h => h) (Or.inl ⟨by rfl, ?_⟩) hH10 ?_
      rotate_left
      · ((intro W hW; clear hW; go_simp) <;> with_reducible rfl)
      simp only [Act.put, List.getElem_toArray, List.getElem_cons_zero, List.getElem_cons_succ, List.setIfInBounds_toArray, List.set_cons_zero, List.set_cons_succ]
      refine wpAnyH_take (i := 42) (v := ?_) rfl (by kernel_rfl) (by kernel_rfl) (by kernel_rfl) (fun _ _ _ h => h) (Or.inl ⟨by rfl, ?_⟩) hH10 ?_
      rotate_left
      · ((intro W hW; clear hW; go_simp) <;> with_reducible rfl)
      simp only [Act.put, List.getElem_toArray, List.getElem_cons_zero, List.getElem_cons_succ, List.setIfInBounds_toArray, List.set_cons_zero, List.set_cons_succ]
      refine wpAnyH_take (i := 43) (v := ?_) rfl (by kernel_rfl) (by kernel_rfl) (by kernel_rfl) (fun _ _ _ h => h) (Or.inl ⟨by rfl, ?_⟩) hH10 ?_
      rotate_left
      · ((intro W hW; clear hW; go_simp) <;> with_reducible rfl)
      simp only [Act.put, List.getElem_toArray, List.getElem_cons_zero, List.getElem_cons_succ, List.setIfInBounds_toArray, List.set_cons_zero, List.set_cons_succ]
      refine wpAnyH_take (i := 44) (v := ?_) rfl (by kernel_rfl) (by kernel_rfl) (by kernel_rfl) (fun _ _ _ h => h) (Or.inl ⟨by rfl, ?_⟩) hH10 ?_
      rotate_left
      · ((intro W hW; clear hW; go_simp) <;> with_reducible rfl)
      simp only [Act.put, List.getElem_toArray, List.getElem_cons_zero, List.getElem_cons_succ, List.setIfInBounds_toArray, List.set_cons_zero, List.set_cons_succ]
      refine wpAnyH_take (i := 45) (v := ?_) rfl (by kernel_rfl) (by kernel_rfl) (by kernel_rfl) (fun _ _ _ h => h) (Or.inl ⟨by rfl, ?_⟩) hH10 ?_
      rotate_left
      · ((intro W hW; clear hW; go_simp) <;> with_reducible rfl)
      simp only [Act.put, List.getElem_toArray, List.getElem_cons_zero, List.getElem_cons_succ, List.setIfInBounds_toArray, List.set_cons_zero, List.set_cons_succ]
      refine wpAnyH_take (i := 46) (v := ?_) rfl (by kernel_rfl) (by kernel_rfl) (by kernel_rfl) (fun _ _ _ h => h) (Or.inl ⟨by rfl, ?_⟩) hH10 ?_
      rotate_left
      · ((intro W hW; have hk := Sle.cellk (hW.2) HP.out 9 _ rfl; clear hW; go_simp) <;> with_reducible rfl)
      simp only [Act.put, List.getElem_toArray, List.getElem_cons_zero, List.getElem_cons_succ, List.setIfInBounds_toArray, List.set_cons_zero, List.set_cons_succ]
      refine wpAnyH_take (i := 47) (v := ?_) rfl (by kernel_rfl) (by kernel_rfl) (by kernel_rfl) (fun _ _ _ h => h) (Or.inl ⟨by rfl, ?_⟩) hH10 ?_
      rotate_left
      · ((intro W hW; clear hW; go_simp) <;> with_reducible rfl)
      simp only [Act.put, List.getElem_toArray, List.getElem_cons_zero, List.getElem_cons_succ, List.setIfInBounds_toArray, List.set_cons_zero, List.set_cons_succ]
      refine wpAnyH_take (i := 48) (v := ?_) rfl (by kernel_rfl) (by kernel_rfl) (by kernel_rfl) (fun _ _ _ h => h) (Or.inl ⟨by rfl, ?_⟩) hH10 ?_
      rotate_left
      · ((intro W hW; clear hW; go_simp) <;> with_reducible rfl)
      simp only [Act.put, List.getElem_toArray, List.getElem_cons_zero, List.getElem_cons_succ, List.setIfInBounds_toArray, List.set_cons_zero, List.set_cons_succ]
      refine wpAnyH_take (i := 49) (v := ?_) rfl (by kernel_rfl) (by kernel_rfl) (by kernel_rfl) (fun _ _ _ h => h) (Or.inl ⟨by rfl, ?_⟩) hH10 ?_
      rotate_left
      · ((intro W hW; clear hW; go_simp) <;> with_reducible rfl)
      simp only [Act.put, List.getElem_toArray, List.getElem_cons_zero, List.getElem_cons_succ, List.setIfInBounds_toArray, List.set_cons_zero, List.set_cons_succ]
      refine wpAnyH_done (by kernel_rfl) ?_ _
      go_wp2_with fail
      go_roundg (c - (i + 1))
      case measure => have := HGK_.out; have := HIC.out; omega
      case rel => exact ⟨i + 1, rfl, by have := HIC.out; omega, by go_num, xs, bel⟩
end Go.Proofs.Ythcjepafcemmnaa
