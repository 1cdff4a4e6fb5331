/- The closures that remove; slices.IndexFunc, slices.DeleteFunc over each of them. -/
import Derived.Test.YtmjmjfcdblapcaaPt5
import Derived.Maps.Range
namespace Go.Proofs.Ytmjmjfcdblapcaa
open Go.RowKit

theorem gk_new {a b c : World} {row : Option Nat} {j : Nat} (h : a.grownBy b row) (hj : a.heap.size ≤ j) (k : b.grownBy c (some j)) : a.grownBy c row := World.grownBy.andThen h k (fun _ e => Or.inl (by cases e; exact hj))
def purB (ad : Ad4) (keep : Int) (m : Mp) : Bool := m.ad.eqB ad && !(m.k == keep)
def clrB (k : Int) (m : Mp) : Bool := m.k == k
theorem mdrop_head {l l' : List Mp} {j : Nat} (h : l.drop j = l'.drop j) : l[j]? = l'[j]? := by
  have := congrArg (fun x => x[0]?) h
  simpa only [List.getElem?_drop, Nat.add_zero] using this
theorem mdrop_more {l l' : List Mp} {j : Nat} (h : l.drop j = l'.drop j) : l.drop (j + 1) = l'.drop (j + 1) := by
  have := congrArg (fun x => x.drop 1) h
  simpa only [List.drop_drop] using this
theorem mfilt_skip {l : List Mp} {j : Nat} {e : Mp} {p : Mp → Bool} (he : l[j]? = some e) (h : p e = false) : (l.take (j + 1)).filter p = (l.take j).filter p := by
  rw [List.take_add_one, he, List.filter_append]
  simp [h]
theorem mfilt_keep {l : List Mp} {j : Nat} {e : Mp} {p : Mp → Bool} (he : l[j]? = some e) (h : p e = true) : (l.take (j + 1)).filter p = (l.take j).filter p ++ [e] := by
  rw [List.take_add_one, he, List.filter_append]
  simp [h]
theorem mtake_set_next {l : List Mp} {i : Nat} {e : Mp} (hi : i < l.length) : (l.set i e).take (i + 1) = l.take i ++ [e] := by
  rw [List.take_add_one, List.take_set_of_le (Nat.le_refl _), List.getElem?_set_self hi]
  rfl
theorem mdrop_set_next {l : List Mp} {i j : Nat} {e : Mp} (hi : i < j) : (l.set i e).drop j = l.drop j := List.drop_set_of_lt hi
theorem mfilt_first {l : List Mp} {i : Nat} {p : Mp → Bool} (h : ∀ j e, j < i → l[j]? = some e → p e = true) : l.take i = (l.take i).filter p := by
  symm
  rw [List.filter_eq_self]
  intro e he
  obtain ⟨j, hj⟩ := List.getElem?_of_mem he
  rw [List.getElem?_take] at hj
  split at hj
  · exact h j e ‹_› hj
  · cases hj
theorem mfirst_of (p : Mp → Bool) : ∀ (l : List Mp), (∀ e ∈ l, p e = false) ∨ ∃ (k : Nat) (x : Mp), l[k]? = some x ∧ p x = true ∧ ∀ (j : Nat) (e : Mp), j < k → l[j]? = some e → p e = false
  | [] => .inl fun e h => by cases h
  | y :: l => by
    cases hy : p y with
    | true => exact .inr ⟨0, y, rfl, hy, fun j e h => absurd h (by omega)⟩
    | false =>
      rcases mfirst_of p l with h | ⟨k, x, h1, h2, h3⟩
      · exact .inl fun e he => (List.mem_cons.1 he).elim (fun h' => h' ▸ hy) (h e)
      · refine .inr ⟨k + 1, x, by simpa using h1, h2, fun j e hj he => ?_⟩
        cases j with
        | zero => simp only [List.getElem?_cons_zero, Option.some.injEq] at he; exact he ▸ hy
        | succ j => exact h3 j e (by omega) (by simpa using he)
set_option linter.unusedVariables false in
set_option linter.unusedSimpArgs false in
set_option maxRecDepth 100000 in
set_option maxHeartbeats 16000000 in
theorem clf_a {gn : Nat} {t : Int} (x : Mp) (w : World) (hnb : w.heap[gn]? = some (.cells #[.int .i64 t] 2 (0, 0))) : Calls Try.prog 44 #[.agg #[.int .i64 x.pr, .int .i64 x.o, .int .u8 (x.ad.a.toNat : Int), .int .u8 (x.ad.b.toNat : Int), .int .u8 (x.ad.c.toNat : Int), .int .u8 (x.ad.d.toNat : Int), .int .i64 x.i, .int .i64 x.k, .int .i64 x.u], .pointer (some ⟨gn, 0, none⟩)] w fun e w' => e = .returned (.bool (deadB t x)) ∧ Below w.heap.size w w' := by
  obtain ⟨b, hb⟩ : ∃ b, liveB t x = b := ⟨_, rfl⟩
  have HL_ := Lib.hid hb
  clear hb
  have bel := Below.refl w.heap.size w
  go_enter Try.func44, Try.ntmps44
  go_wp2_with (first | ((with_reducible show wpList _ _ _ (⟨some 2, _, _, _, _, _⟩ :: _) _ _); refine wpList_box_n rfl 31 (.tmp 0) rfl #[.int .i64 x.pr, .int .i64 x.o, .int .u8 (x.ad.a.toNat : Int), .int .u8 (x.ad.b.toNat : Int), .int .u8 (x.ad.c.toNat : Int), .int .u8 (x.ad.d.toNat : Int), .int .i64 x.i, .int .i64 x.k, .int .i64 x.u] rfl ?_; intro g2 w1 ge lt hh bb; have d_nb_eb := ne_new (hlt hnb) ge; have oeb := Nat.le_trans bel.size ge; replace hnb := blk_u hnb bb; replace bel := bel.trans (bb.mono bel.size); have heb := hh; clear hh lt ge bb; have R4 := Lib.hid (range_lit heb 0 9 [.int .i64 x.pr, .int .i64 x.o, .int .u8 (x.ad.a.toNat : Int), .int .u8 (x.ad.b.toNat : Int), .int .u8 (x.ad.c.toNat : Int), .int .u8 (x.ad.d.toNat : Int), .int .i64 x.i, .int .i64 x.k, .int .i64 x.u] rfl)) | ((with_reducible show wpList _ _ _ (⟨some 4, _, _, _, _, _⟩ :: _) _ _); refine wpList_load_rng 31 (.tmp 2) rfl (by kernel_rfl) _ _ rfl _ R4.out _ Try.underlying31 rfl (by kernel_rfl) ?_; have R5 := cell_lit hnb 0 _ rfl))
  try clear R4
  try clear R5
  with_reducible refine (live_any _ HL_.out).mono ?_
  rintro e w2 ⟨rfl, b2⟩
  replace hnb := blk_u hnb b2
  replace heb := blk_u heb b2
  replace bel := bel.trans (b2.mono bel.size)
  clear b2
  go_wp2_with fail
  go_ret
  exact ⟨by show Ending.returned (.bool (!b)) = .returned (.bool (deadB t x)); unfold deadB; rw [HL_.out], bel⟩
set_option linter.unusedVariables false in
set_option linter.unusedSimpArgs false in
set_option maxRecDepth 100000 in
set_option maxHeartbeats 16000000 in
theorem idxa_none_pos {gn : Nat} {n c gE oE : Nat} {t : Int} {l : List Mp} (w : World) (hnb : w.heap[gn]? = some (.cells #[.int .i64 t] 2 (0, 0))) (en : Sle mpE 9 w (some ⟨gE, oE, none⟩) n c l) (hn : n ≤ 1000) (hN : ∀ e ∈ l, deadB t e = false) : Calls Try.prog 58 #[.slice (some ⟨gE, oE, none⟩) n c, .func (.func 44) #[] #[.pointer (some ⟨gn, 0, none⟩)]] w fun e w' => e = .returned (.int .i64 (-1)) ∧ Below w.heap.size w w' := by
  have HL := Lib.hid en.1
  have hn0 : (n : Int) ≤ 1000 := by omega
  have HN := Lib.hid hN
  clear hN
  have bel := Below.refl w.heap.size w
  go_enter Try.func58, Try.ntmps58
  go_wp2_with fail
  go_loopg [8] (n) (fun gk s8 wr => ∃ k : Nat, gk = n - k ∧ k ≤ n ∧ s8 = .int .i64 (k : Int) ∧ wr.heap[gn]? = some (.cells #[.int .i64 t] 2 (0, 0)) ∧ Sle mpE 9 wr (some ⟨gE, oE, none⟩) (n) (c) (l) ∧ Below w.heap.size w wr)
  case atStart => exact ⟨0, Nat.sub_zero _, Nat.zero_le _, rfl, hnb, en, bel⟩
  case round =>
    clear hnb en bel
    obtain ⟨k, HGK, hkn, rfl, hnb, en, bel⟩ := hrel
    have HGK_ := Lib.hid HGK
    clear HGK
    by_cases h : k < n
    rotate_left
    · obtain rfl : k = n := by omega
      replace h : decide (k < k) = false := decide_eq_false (by omega)
      go_wp2_with fail
      go_ret
      exact ⟨rfl, bel⟩
    obtain ⟨e, hx⟩ : ∃ e, l[k]? = some e := ⟨_, List.getElem?_eq_getElem (by have := HL.out; omega)⟩
    have k0 : (0 : Int) ≤ k := by omega
    have k1 : (k : Int) < n := by omega
    have HX := Lib.hid hx
    clear hx
    have HG : Hid (deadB t e = false) := Lib.hid (HN.out e (List.mem_of_getElem? HX.out))
    have R15 := Lib.hid (Sle.range0 en HX.out 9 [.int .i64 e.pr, .int .i64 e.o, .int .u8 (e.ad.a.toNat : Int), .int .u8 (e.ad.b.toNat : Int), .int .u8 (e.ad.c.toNat : Int), .int .u8 (e.ad.d.toNat : Int), .int .i64 e.i, .int .i64 e.k, .int .i64 e.u] rfl)
    go_wp2_with (first | ((with_reducible show wpList _ _ _ (⟨some 15, _, _, _, _, _⟩ :: _) _ _); refine wpList_load_rng 31 (.tmp 14) rfl (by kernel_rfl) _ _ rfl _ R15.out _ Try.underlying31 rfl (by kernel_rfl) ?_))
    try clear R15
    with_reducible refine (clf_a e _ hnb).mono ?_
    rintro e w1 ⟨rfl, b1⟩
    replace hnb := blk_u hnb b1
    replace en := en.below b1
    replace bel := bel.trans (b1.mono bel.size)
    clear b1
    rw [HG.out]
    go_wp2_with fail
    go_roundg (n - (k + 1))
    case measure => have := HGK_.out; omega
    case rel => exact ⟨k + 1, rfl, by omega, by go_num, hnb, en, bel⟩
set_option linter.unusedVariables false in
set_option linter.unusedSimpArgs false in
set_option maxRecDepth 100000 in
set_option maxHeartbeats 16000000 in
theorem idxa_some {gn : Nat} {n c gE oE : Nat} {t : Int} {l : List Mp} (w : World) (hnb : w.heap[gn]? = some (.cells #[.int .i64 t] 2 (0, 0))) (en : Sle mpE 9 w (some ⟨gE, oE, none⟩) n c l) (hn : n ≤ 1000) {i : Nat} {x : Mp} (hx : l[i]? = some x) (hg : deadB t x = true) (hN : ∀ j e, j < i → l[j]? = some e → deadB t e = false) : Calls Try.prog 58 #[.slice (some ⟨gE, oE, none⟩) n c, .func (.func 44) #[] #[.pointer (some ⟨gn, 0, none⟩)]] w fun e w' => e = .returned (.int .i64 (i : Int)) ∧ Below w.heap.size w w' := by
  have HL := Lib.hid en.1
  have hn0 : (n : Int) ≤ 1000 := by omega
  have HIN : Hid (i < n) := Lib.hid (by have := (List.getElem?_eq_some_iff.1 hx).1; have h_ := en.1; omega)
  have HN := Lib.hid hN
  have HXI := Lib.hid hx
  have HGI := Lib.hid hg
  clear hN hx hg
  have bel := Below.refl w.heap.size w
  go_enter Try.func58, Try.ntmps58
  go_wp2_with fail
  go_loopg [8] (n) (fun gk s8 wr => ∃ k : Nat, gk = n - k ∧ k ≤ i ∧ s8 = .int .i64 (k : Int) ∧ wr.heap[gn]? = some (.cells #[.int .i64 t] 2 (0, 0)) ∧ Sle mpE 9 wr (some ⟨gE, oE, none⟩) (n) (c) (l) ∧ Below w.heap.size w wr)
  case atStart => exact ⟨0, Nat.sub_zero _, Nat.zero_le _, rfl, hnb, en, bel⟩
  case round =>
    clear hnb en bel
    obtain ⟨k, HGK, hkn, rfl, hnb, en, bel⟩ := hrel
    have HGK_ := Lib.hid HGK
    clear HGK
    by_cases h : k < n
    rotate_left
    · exfalso
      have := HIN.out
      omega
    obtain ⟨e, hx⟩ : ∃ e, l[k]? = some e := ⟨_, List.getElem?_eq_getElem (by have := HL.out; omega)⟩
    have k0 : (0 : Int) ≤ k := by omega
    have k1 : (k : Int) < n := by omega
    have HX := Lib.hid hx
    clear hx
    by_cases h2 : k < i
    rotate_left
    · obtain rfl : k = i := by omega
      obtain rfl : e = x := Option.some.inj (HX.out.symm.trans HXI.out)
      have HG := HGI
      have R15 := Lib.hid (Sle.range0 en HX.out 9 [.int .i64 e.pr, .int .i64 e.o, .int .u8 (e.ad.a.toNat : Int), .int .u8 (e.ad.b.toNat : Int), .int .u8 (e.ad.c.toNat : Int), .int .u8 (e.ad.d.toNat : Int), .int .i64 e.i, .int .i64 e.k, .int .i64 e.u] rfl)
      go_wp2_with (first | ((with_reducible show wpList _ _ _ (⟨some 15, _, _, _, _, _⟩ :: _) _ _); refine wpList_load_rng 31 (.tmp 14) rfl (by kernel_rfl) _ _ rfl _ R15.out _ Try.underlying31 rfl (by kernel_rfl) ?_))
      try clear R15
      with_reducible refine (clf_a e _ hnb).mono ?_
      rintro e w1 ⟨rfl, b1⟩
      replace hnb := blk_u hnb b1
      replace en := en.below b1
      replace bel := bel.trans (b1.mono bel.size)
      clear b1
      rw [HG.out]
      go_wp2_with fail
      go_ret
      exact ⟨rfl, bel⟩
    have HG : Hid (deadB t e = false) := Lib.hid (HN.out k e h2 HX.out)
    have R15 := Lib.hid (Sle.range0 en HX.out 9 [.int .i64 e.pr, .int .i64 e.o, .int .u8 (e.ad.a.toNat : Int), .int .u8 (e.ad.b.toNat : Int), .int .u8 (e.ad.c.toNat : Int), .int .u8 (e.ad.d.toNat : Int), .int .i64 e.i, .int .i64 e.k, .int .i64 e.u] rfl)
    go_wp2_with (first | ((with_reducible show wpList _ _ _ (⟨some 15, _, _, _, _, _⟩ :: _) _ _); refine wpList_load_rng 31 (.tmp 14) rfl (by kernel_rfl) _ _ rfl _ R15.out _ Try.underlying31 rfl (by kernel_rfl) ?_))
    try clear R15
    with_reducible refine (clf_a e _ hnb).mono ?_
    rintro e w1 ⟨rfl, b1⟩
    replace hnb := blk_u hnb b1
    replace en := en.below b1
    replace bel := bel.trans (b1.mono bel.size)
    clear b1
    rw [HG.out]
    go_wp2_with fail
    go_roundg (n - (k + 1))
    case measure => have := HGK_.out; omega
    case rel => exact ⟨k + 1, rfl, by omega, by go_num, hnb, en, bel⟩
set_option linter.unusedVariables false in
set_option linter.unusedSimpArgs false in
set_option maxRecDepth 100000 in
set_option maxHeartbeats 16000000 in
theorem idxa_nil {gn : Nat} {n c : Nat} {A2 : Option Addr} (w : World) (hn : n = 0) : Calls Try.prog 58 #[.slice A2 n c, .func (.func 44) #[] #[.pointer (some ⟨gn, 0, none⟩)]] w fun e w' => e = .returned (.int .i64 (-1)) ∧ w = w' := by
  subst hn
  skip
  go_enter Try.func58, Try.ntmps58
  go_wp2_with fail
  refine wp_loop_rounds 1 ?_
  rw [rounds_succ]
  go_wp2_with fail
  go_ret
  exact ⟨rfl, rfl⟩
theorem idxa_none {gn : Nat} {n c : Nat} {A2 : Option Addr} {t : Int} {l : List Mp} (w : World) (hnb : w.heap[gn]? = some (.cells #[.int .i64 t] 2 (0, 0))) (en : Sle mpE 9 w A2 n c l) (hn : n ≤ 1000) (hN : ∀ e ∈ l, deadB t e = false) : Calls Try.prog 58 #[.slice A2 n c, .func (.func 44) #[] #[.pointer (some ⟨gn, 0, none⟩)]] w fun e w' => e = .returned (.int .i64 (-1)) ∧ Below w.heap.size w w' := by
  rcases Nat.eq_zero_or_pos n with h | h
  · refine (idxa_nil w h).mono ?_
    rintro e w' ⟨rfl, rfl⟩
    exact ⟨rfl, Below.refl _ _⟩
  · obtain ⟨g, o, rfl⟩ := en.place h
    exact idxa_none_pos w hnb en hn hN
set_option linter.unusedVariables false in
set_option linter.unusedSimpArgs false in
set_option maxRecDepth 100000 in
set_option maxHeartbeats 16000000 in
theorem dela_some {gn : Nat} {lo gE n c k : Nat} {t : Int} {l : List Mp} {x : Mp} (w : World) (hlo : lo ≤ w.heap.size) (hnb : w.heap[gn]? = some (.cells #[.int .i64 t] 2 (0, 0))) (hown : w.ownsRow lo 31 9 (.slice (some ⟨gE, 0, none⟩) n c) n (l.flatMap mpE)) (hn : n ≤ 1000) (hx : l[k]? = some x) (hg : deadB t x = true) (hN : ∀ j e, j < k → l[j]? = some e → deadB t e = false) : Calls Try.prog 45 #[.slice (some ⟨gE, 0, none⟩) n c, .func (.func 44) #[] #[.pointer (some ⟨gn, 0, none⟩)]] w fun e w' => ∃ i, e = .returned (.slice (some ⟨gE, 0, none⟩) i c) ∧ w'.ownsRow lo 31 9 (.slice (some ⟨gE, 0, none⟩) i c) i ((l.filter (fun e => !deadB t e)).flatMap mpE) ∧ w.grownBy w' (some gE) := by
  have own := hown
  clear hown
  have off_nb := ofs_type own hnb (by decide)
  have en := (owk_sle (by decide) mpE_len own).1
  have HLL := Lib.hid (row_len (by decide) mpE_len own)
  have HCAP := Lib.hid (row_cap own)
  have HKN : Hid (k + 1 ≤ n) := Lib.hid (by have := (List.getElem?_eq_some_iff.1 hx).1; have h_ := HLL.out; omega)
  have HF0 : Hid (l.take k = (l.take (k + 1)).filter (fun e => !deadB t e)) := Lib.hid (by rw [mfilt_skip hx (by show (!_) = _; rw [hg]; rfl)]; exact mfilt_first (fun j e h1 h2 => by show (!_) = _; rw [hN j e h1 h2]; rfl))
  have hn0 : (n : Int) ≤ 1000 := by omega
  have hne : ((k : Int) == -1) = false := beq_eq_false_iff_ne.2 (by omega)
  have k0 : (0 : Int) ≤ k := by omega
  have k1 : (k : Int) < n := by have := HKN.out; omega
  have HN := Lib.hid hn
  have HXI := Lib.hid hx
  have HGI := Lib.hid hg
  have HNI := Lib.hid hN
  have grw := World.grownBy.refl w (some gE)
  clear hn hx hg hN
  have bel := Below.refl lo w
  go_enter Try.func45, Try.ntmps45
  go_wp2_with fail
  have H1000 := HN.out
  with_reducible refine (idxa_some _ hnb en H1000 HXI.out HGI.out HNI.out).mono ?_
  rintro e w1 ⟨rfl, b1⟩
  replace hnb := blk_u hnb b1
  replace en := en.below b1
  replace own := owk_under own b1
  replace grw := grw.trans (grown_of_below b1)
  replace bel := bel.trans (b1.mono (Nat.le_trans hlo bel.size))
  clear b1
  clear H1000
  go_wp2_with fail
  go_loopg [6, 5] (n - (k + 1)) (fun gk s6 s5 wr => ∃ j : Nat, ∃ i : Nat, ∃ cur : List Mp, gk = n - j ∧ i < j ∧ j ≤ n ∧ Hid (cur.length = n) ∧ Hid (cur.take i = (l.take j).filter (fun e => !deadB t e)) ∧ Hid (cur.drop j = l.drop j) ∧ wr.ownsRow lo 31 9 (.slice (some ⟨gE, 0, none⟩) n c) n (cur.flatMap mpE) ∧ w.grownBy wr (some gE) ∧ s6 = .int .i64 (j : Int) ∧ s5 = .int .i64 (i : Int) ∧ wr.heap[gn]? = some (.cells #[.int .i64 t] 2 (0, 0)) ∧ Sle mpE 9 wr (some ⟨gE, 0, none⟩) (n) (c) (cur) ∧ Below lo w wr)
  case atStart => exact ⟨k + 1, k, l, rfl, Nat.lt_succ_self k, HKN.out, HLL, HF0, Lib.hid rfl, own, grw, by go_num, rfl, hnb, en, bel⟩
  case round =>
    clear own grw hnb en bel
    obtain ⟨j, i, cur, HGK, hij, hjn, HCL, HCT, HCD, own, grw, rfl, rfl, hnb, en, bel⟩ := hrel
    have HGK_ := Lib.hid HGK
    clear HGK
    by_cases h : j < n
    rotate_left
    · obtain rfl : j = n := by omega
      replace h : decide (j < j) = false := decide_eq_false (by omega)
      obtain ⟨q, hq⟩ : ∃ q, i + q = j := ⟨j - i, by omega⟩
      have HQ := Lib.hid hq
      have HQ0 : Hid (0 < q) := Lib.hid (by omega)
      have r38 := fun W => mp_back gE j c i (by omega) (by have := HCAP.out; omega) W
      rw [show j - i = q by omega] at r38
      have r41 := fun W => mp_front gE j c i (by have := HCAP.out; omega) W
      clear hq
      have R38 := r38
      go_wp2_with (first | ((with_reducible show wpList _ _ _ (⟨none, Op.call _, _, _, _, _⟩ :: _) _ _); refine wpList_clear_row rfl (.tmp 38) 37 31 rfl (.agg #[.int .i64 0, .int .i64 0, .int .u8 0, .int .u8 0, .int .u8 0, .int .u8 0, .int .i64 0, .int .i64 0, .int .i64 0]) Try.underlying37 mp_zero mp_zs mp_z1 _ HQ.out own HQ0.out _ rfl ?_; intro w90 own_ gw; replace grw := grw.trans gw; clear bel own gw hnb en; have own := own_; clear own_; have R41 := r41))
      try clear R38
      try clear R41
      go_ret
      exact ⟨i, rfl, by rw [← flat_take mpE_len, HCT.out, List.take_of_length_le (Nat.le_of_eq HLL.out)] at own; exact own, grw⟩
    have HX0 := mdrop_head HCD.out
    obtain ⟨e, hx⟩ : ∃ e, l[j]? = some e := ⟨_, List.getElem?_eq_getElem (by have := HLL.out; omega)⟩
    have HXL := Lib.hid hx
    have HX : Hid (cur[j]? = some e) := Lib.hid (HX0.trans hx)
    obtain ⟨xi, hxi⟩ : ∃ xi, cur[i]? = some xi := ⟨_, List.getElem?_eq_getElem (by have := HCL.out; omega)⟩
    have HXI2 := Lib.hid hxi
    have j0 : (0 : Int) ≤ j := by omega
    have j1 : (j : Int) < n := by omega
    have i0_ : (0 : Int) ≤ i := by omega
    have i1_ : (i : Int) < n := by omega
    clear hx HX0 hxi
    rcases hb : deadB t e with _ | _
    rotate_left
    · have HG := Lib.hid hb
      clear hb
      have HKE : Hid ((fun e => !deadB t e) e = false) := Lib.hid (by show (!_) = _; rw [HG.out]; rfl)
      have R25 := Lib.hid (Sle.zrange0 en HX.out 9 [.int .i64 e.pr, .int .i64 e.o, .int .u8 (e.ad.a.toNat : Int), .int .u8 (e.ad.b.toNat : Int), .int .u8 (e.ad.c.toNat : Int), .int .u8 (e.ad.d.toNat : Int), .int .i64 e.i, .int .i64 e.k, .int .i64 e.u] rfl)
      go_wp2_with (first | ((with_reducible show wpList _ _ _ (⟨some 25, _, _, _, _, _⟩ :: _) _ _); refine wpList_load_rng 31 (.tmp 24) rfl (by kernel_rfl) _ _ rfl _ R25.out _ Try.underlying31 rfl (by kernel_rfl) ?_) | ((with_reducible show wpList _ _ _ (⟨some 7, _, _, _, _, _⟩ :: _) _ _); refine wpList_new_a rfl 31 rfl #[.int .i64 0, .int .i64 0, .int .u8 0, .int .u8 0, .int .u8 0, .int .u8 0, .int .i64 0, .int .i64 0, .int .i64 0] (by kernel_rfl) ?_; intro g7 w2 ge hh bb; have d_nb_vb := ne_new (hlt hnb) ge; have av_en_vb := en.av_new ge; have ovb := Nat.le_trans (Nat.le_trans hlo bel.size) ge; have off_vb := owk_new own ge; have pv_vb := Nat.le_trans grw.size ge; replace hnb := blk_u hnb bb; replace en := en.below bb; replace own := owk_under own bb; replace grw := grw.trans (grown_of_below bb); replace bel := bel.trans (bb.mono (Nat.le_trans hlo bel.size)); have hvb := hh; clear hh ge bb) | ((with_reducible show wpList _ _ _ (⟨none, Op.store _ (.tmp 7) _, _, _, _, _⟩ :: _) _ _); refine wpList_store_blk rfl 31 (.tmp 7) (.tmp 25) rfl g7 rfl _ rfl _ 31 hvb (by rfl) (by kernel_rfl) (by kernel_rfl) ?_; intro w3 hq gr; replace en := en.away av_en_vb gr; replace hnb := blk_a hnb gr d_nb_vb; replace own := owk_off own off_vb gr; replace grw := gk_new grw pv_vb gr; replace bel := below_grown bel gr ovb (Nat.le_trans hlo bel.size); clear hvb; have hvb := hq; clear hq gr; have R27 := Lib.hid (range_lit hvb 0 9 [.int .i64 e.pr, .int .i64 e.o, .int .u8 (e.ad.a.toNat : Int), .int .u8 (e.ad.b.toNat : Int), .int .u8 (e.ad.c.toNat : Int), .int .u8 (e.ad.d.toNat : Int), .int .i64 e.i, .int .i64 e.k, .int .i64 e.u] rfl)) | ((with_reducible show wpList _ _ _ (⟨some 27, _, _, _, _, _⟩ :: _) _ _); refine wpList_load_rng 31 (.tmp 7) rfl (by kernel_rfl) _ _ rfl _ R27.out _ Try.underlying31 rfl (by kernel_rfl) ?_))
      try clear R25
      try clear R27
      with_reducible refine (clf_a e _ hnb).mono ?_
      rintro e w4 ⟨rfl, b4⟩
      replace hnb := blk_u hnb b4
      replace hvb := blk_u hvb b4
      replace en := en.below b4
      replace own := owk_under own b4
      replace grw := grw.trans (grown_of_below b4)
      replace bel := bel.trans (b4.mono (Nat.le_trans hlo bel.size))
      clear b4
      rw [HG.out]
      go_wp2_with fail
      go_roundg (n - (j + 1))
      case measure => have := HGK_.out; omega
      case rel => exact ⟨j + 1, i, cur, rfl, by omega, by omega, HCL, Lib.hid (by rw [mfilt_skip HXL.out HKE.out]; exact HCT.out), Lib.hid (mdrop_more HCD.out), own, grw, by go_num, by go_num, hnb, en, bel⟩
    have HG := Lib.hid hb
    clear hb
    have HKE : Hid ((fun e => !deadB t e) e = true) := Lib.hid (by show (!_) = _; rw [HG.out]; rfl)
    have R25 := Lib.hid (Sle.zrange0 en HX.out 9 [.int .i64 e.pr, .int .i64 e.o, .int .u8 (e.ad.a.toNat : Int), .int .u8 (e.ad.b.toNat : Int), .int .u8 (e.ad.c.toNat : Int), .int .u8 (e.ad.d.toNat : Int), .int .i64 e.i, .int .i64 e.k, .int .i64 e.u] rfl)
    go_wp2_with (first | ((with_reducible show wpList _ _ _ (⟨some 25, _, _, _, _, _⟩ :: _) _ _); refine wpList_load_rng 31 (.tmp 24) rfl (by kernel_rfl) _ _ rfl _ R25.out _ Try.underlying31 rfl (by kernel_rfl) ?_) | ((with_reducible show wpList _ _ _ (⟨some 7, _, _, _, _, _⟩ :: _) _ _); refine wpList_new_a rfl 31 rfl #[.int .i64 0, .int .i64 0, .int .u8 0, .int .u8 0, .int .u8 0, .int .u8 0, .int .i64 0, .int .i64 0, .int .i64 0] (by kernel_rfl) ?_; intro g7 w2 ge hh bb; have d_nb_vb := ne_new (hlt hnb) ge; have av_en_vb := en.av_new ge; have ovb := Nat.le_trans (Nat.le_trans hlo bel.size) ge; have off_vb := owk_new own ge; have pv_vb := Nat.le_trans grw.size ge; replace hnb := blk_u hnb bb; replace en := en.below bb; replace own := owk_under own bb; replace grw := grw.trans (grown_of_below bb); replace bel := bel.trans (bb.mono (Nat.le_trans hlo bel.size)); have hvb := hh; clear hh ge bb) | ((with_reducible show wpList _ _ _ (⟨none, Op.store _ (.tmp 7) _, _, _, _, _⟩ :: _) _ _); refine wpList_store_blk rfl 31 (.tmp 7) (.tmp 25) rfl g7 rfl _ rfl _ 31 hvb (by rfl) (by kernel_rfl) (by kernel_rfl) ?_; intro w3 hq gr; replace en := en.away av_en_vb gr; replace hnb := blk_a hnb gr d_nb_vb; replace own := owk_off own off_vb gr; replace grw := gk_new grw pv_vb gr; replace bel := below_grown bel gr ovb (Nat.le_trans hlo bel.size); clear hvb; have hvb := hq; clear hq gr; have R27 := Lib.hid (range_lit hvb 0 9 [.int .i64 e.pr, .int .i64 e.o, .int .u8 (e.ad.a.toNat : Int), .int .u8 (e.ad.b.toNat : Int), .int .u8 (e.ad.c.toNat : Int), .int .u8 (e.ad.d.toNat : Int), .int .i64 e.i, .int .i64 e.k, .int .i64 e.u] rfl)) | ((with_reducible show wpList _ _ _ (⟨some 27, _, _, _, _, _⟩ :: _) _ _); refine wpList_load_rng 31 (.tmp 7) rfl (by kernel_rfl) _ _ rfl _ R27.out _ Try.underlying31 rfl (by kernel_rfl) ?_))
    try clear R25
    try clear R27
    with_reducible refine (clf_a e _ hnb).mono ?_
    rintro e w4 ⟨rfl, b4⟩
    replace hnb := blk_u hnb b4
    replace hvb := blk_u hvb b4
    replace en := en.below b4
    replace own := owk_under own b4
    replace grw := grw.trans (grown_of_below b4)
    replace bel := bel.trans (b4.mono (Nat.le_trans hlo bel.size))
    clear b4
    rw [HG.out]
    have R32 := Lib.hid (range_lit hvb 0 9 [.int .i64 e.pr, .int .i64 e.o, .int .u8 (e.ad.a.toNat : Int), .int .u8 (e.ad.b.toNat : Int), .int .u8 (e.ad.c.toNat : Int), .int .u8 (e.ad.d.toNat : Int), .int .i64 e.i, .int .i64 e.k, .int .i64 e.u] rfl)
    go_wp2_with (first | ((with_reducible show wpList _ _ _ (⟨some 32, _, _, _, _, _⟩ :: _) _ _); refine wpList_load_rng 31 (.tmp 7) rfl (by kernel_rfl) _ _ rfl _ R32.out _ Try.underlying31 rfl (by kernel_rfl) ?_) | ((with_reducible show wpList _ _ _ (⟨none, Op.store _ (.tmp 33) _, _, _, _, _⟩ :: _) _ _); refine wpList_store_el rfl 31 (.tmp 33) (.tmp 32) rfl gE i 0 xi e rfl [.int .i64 e.pr, .int .i64 e.o, .int .u8 (e.ad.a.toNat : Int), .int .u8 (e.ad.b.toNat : Int), .int .u8 (e.ad.c.toNat : Int), .int .u8 (e.ad.d.toNat : Int), .int .i64 e.i, .int .i64 e.k, .int .i64 e.u] rfl (by decide) mpE_len own HXI2.out (Nat.le_of_ble_eq_true rfl) rfl (by kernel_rfl) (by rfl) ?_; intro w5 own_ gw; replace bel := bel.trans (row_bel gw own (Nat.le_trans hlo bel.size)); replace hnb := blk_own (v := .slice (some ⟨gE, 0, none⟩) n c) hnb gw off_nb; replace hvb := blk_own (v := .slice (some ⟨gE, 0, none⟩) n c) hvb gw off_vb; replace grw := grw.trans gw; clear own; have own := own_; clear own_ gw; replace en := (owk_sle (by decide) mpE_len own).1))
    try clear R32
    go_roundg (n - (j + 1))
    case measure => have := HGK_.out; omega
    case rel => exact ⟨j + 1, i + 1, cur.set i e, rfl, by omega, by omega, Lib.hid (by rw [List.length_set]; exact HCL.out), Lib.hid (by rw [mtake_set_next (by have := HCL.out; omega), mfilt_keep HXL.out HKE.out, HCT.out]), Lib.hid (by rw [mdrop_set_next (by omega)]; exact mdrop_more HCD.out), own, grw, by go_num, by go_num, hnb, en, bel⟩
set_option linter.unusedVariables false in
set_option linter.unusedSimpArgs false in
set_option maxRecDepth 100000 in
set_option maxHeartbeats 16000000 in
theorem dela_none {gn : Nat} {n c : Nat} {A2 : Option Addr} {t : Int} {l : List Mp} (w : World) (hnb : w.heap[gn]? = some (.cells #[.int .i64 t] 2 (0, 0))) (en : Sle mpE 9 w A2 n c l) (hn : n ≤ 1000) (hN : ∀ e ∈ l, deadB t e = false) : Calls Try.prog 45 #[.slice A2 n c, .func (.func 44) #[] #[.pointer (some ⟨gn, 0, none⟩)]] w fun e w' => e = .returned (.slice A2 n c) ∧ Below w.heap.size w w' := by
  have bel := Below.refl w.heap.size w
  go_enter Try.func45, Try.ntmps45
  go_wp2_with fail
  with_reducible refine (idxa_none _ hnb en hn hN).mono ?_
  rintro e w1 ⟨rfl, b1⟩
  replace hnb := blk_u hnb b1
  replace en := en.below b1
  replace bel := bel.trans (b1.mono bel.size)
  clear b1
  go_wp2_with fail
  go_ret
  exact ⟨rfl, bel⟩
theorem dela_any {gn : Nat} {lo n c : Nat} {A2 : Option Addr} {t : Int} {l : List Mp} (w : World) (hlo : lo ≤ w.heap.size) (hnb : w.heap[gn]? = some (.cells #[.int .i64 t] 2 (0, 0))) (hown : w.ownsRow lo 31 9 (.slice A2 n c) n (l.flatMap mpE)) (hn : n ≤ 1000) : Calls Try.prog 45 #[.slice A2 n c, .func (.func 44) #[] #[.pointer (some ⟨gn, 0, none⟩)]] w fun e w' => ∃ n3, e = .returned (.slice A2 n3 c) ∧ w'.ownsRow lo 31 9 (.slice A2 n3 c) n3 ((l.filter (fun e => !deadB t e)).flatMap mpE) ∧ w.grownBy w' (Value.ownBlock (.slice A2 n c)) ∧ (∀ q, q < w.heap.size → Ofs (.slice A2 n c) q → Ofs (.slice A2 n3 c) q) := by
  rcases mfirst_of (deadB t) l with h | ⟨k, x, h1, h2, h3⟩
  · refine (dela_none w hnb (owk_sle (by decide) mpE_len hown).1 hn h).mono ?_
    rintro e w' ⟨rfl, bel⟩
    refine ⟨n, rfl, ?_, grown_of_below bel, fun _ _ h => h⟩
    rw [show l.filter (fun e => !deadB t e) = l from List.filter_eq_self.2 (fun e he => by show (!_) = _; rw [h e he]; rfl)]
    exact owk_under hown bel
  · obtain ⟨gE, rfl, _⟩ := row_at hown (by have := (List.getElem?_eq_some_iff.1 h1).1; have h_ := row_len (by decide) mpE_len hown; omega)
    refine (dela_some w hlo hnb hown hn h1 h2 h3).mono ?_
    rintro e w' ⟨i, rfl, h4, h5⟩
    exact ⟨i, rfl, h4, h5, fun _ _ h => h⟩
set_option linter.unusedVariables false in
set_option linter.unusedSimpArgs false in
set_option maxRecDepth 100000 in
set_option maxHeartbeats 16000000 in
theorem clf_p1 {ga gq : Nat} {a : Ad4} {kp : Int} (x : Mp) (w : World) (hab : w.heap[ga]? = some (.cells #[.int .u8 (a.a.toNat : Int), .int .u8 (a.b.toNat : Int), .int .u8 (a.c.toNat : Int), .int .u8 (a.d.toNat : Int)] 28 (0, 0))) (hkb : w.heap[gq]? = some (.cells #[.int .i64 kp] 3 (0, 0))) (h : x.ad.eqB a = false) : Calls Try.prog 38 #[.agg #[.int .i64 x.pr, .int .i64 x.o, .int .u8 (x.ad.a.toNat : Int), .int .u8 (x.ad.b.toNat : Int), .int .u8 (x.ad.c.toNat : Int), .int .u8 (x.ad.d.toNat : Int), .int .i64 x.i, .int .i64 x.k, .int .i64 x.u], .pointer (some ⟨ga, 0, none⟩), .pointer (some ⟨gq, 0, none⟩)] w fun e w' => e = .returned (.bool false) ∧ Below w.heap.size w w' := by
  have q : ∀ W, (binOp .eql 28 (.agg #[.int .u8 (x.ad.a.toNat : Int), .int .u8 (x.ad.b.toNat : Int), .int .u8 (x.ad.c.toNat : Int), .int .u8 (x.ad.d.toNat : Int)]) (.agg #[.int .u8 (a.a.toNat : Int), .int .u8 (a.b.toNat : Int), .int .u8 (a.c.toNat : Int), .int .u8 (a.d.toNat : Int)])).run Try.prog W = .ok (.bool false) W := fun W => by have h_ := eqa_b x.ad a W; rw [h] at h_; exact h_
  have bel := Below.refl w.heap.size w
  go_enter Try.func38, Try.ntmps38
  go_wp2_with (first | ((with_reducible show wpList _ _ _ (⟨some 3, _, _, _, _, _⟩ :: _) _ _); refine wpList_box_n rfl 31 (.tmp 0) rfl #[.int .i64 x.pr, .int .i64 x.o, .int .u8 (x.ad.a.toNat : Int), .int .u8 (x.ad.b.toNat : Int), .int .u8 (x.ad.c.toNat : Int), .int .u8 (x.ad.d.toNat : Int), .int .i64 x.i, .int .i64 x.k, .int .i64 x.u] rfl ?_; intro g3 w1 ge lt hh bb; have d_ab_eb := ne_new (hlt hab) ge; have d_kb_eb := ne_new (hlt hkb) ge; have oeb := Nat.le_trans bel.size ge; replace hab := blk_u hab bb; replace hkb := blk_u hkb bb; replace bel := bel.trans (bb.mono bel.size); have heb := hh; clear hh lt ge bb; have R6 := Lib.hid (range_lit heb 2 4 [.int .u8 (x.ad.a.toNat : Int), .int .u8 (x.ad.b.toNat : Int), .int .u8 (x.ad.c.toNat : Int), .int .u8 (x.ad.d.toNat : Int)] rfl)) | ((with_reducible show wpList _ _ _ (⟨some 6, _, _, _, _, _⟩ :: _) _ _); refine wpList_load_rng 28 (.tmp 5) rfl (by kernel_rfl) _ _ rfl _ R6.out _ Try.underlying28 rfl (by kernel_rfl) ?_; have R7 := Lib.hid (range_lit hab 0 4 [.int .u8 (a.a.toNat : Int), .int .u8 (a.b.toNat : Int), .int .u8 (a.c.toNat : Int), .int .u8 (a.d.toNat : Int)] rfl)) | ((with_reducible show wpList _ _ _ (⟨some 7, _, _, _, _, _⟩ :: _) _ _); refine wpList_load_rng 28 (.tmp 1) rfl (by kernel_rfl) _ _ rfl _ R7.out _ Try.underlying28 rfl (by kernel_rfl) ?_))
  try clear R6
  try clear R7
  go_ret
  exact ⟨rfl, bel⟩
set_option linter.unusedVariables false in
set_option linter.unusedSimpArgs false in
set_option maxRecDepth 100000 in
set_option maxHeartbeats 16000000 in
theorem clf_p2 {ga gq : Nat} {a : Ad4} {kp : Int} (x : Mp) (w : World) (hab : w.heap[ga]? = some (.cells #[.int .u8 (a.a.toNat : Int), .int .u8 (a.b.toNat : Int), .int .u8 (a.c.toNat : Int), .int .u8 (a.d.toNat : Int)] 28 (0, 0))) (hkb : w.heap[gq]? = some (.cells #[.int .i64 kp] 3 (0, 0))) (h : x.ad.eqB a = true) : Calls Try.prog 38 #[.agg #[.int .i64 x.pr, .int .i64 x.o, .int .u8 (x.ad.a.toNat : Int), .int .u8 (x.ad.b.toNat : Int), .int .u8 (x.ad.c.toNat : Int), .int .u8 (x.ad.d.toNat : Int), .int .i64 x.i, .int .i64 x.k, .int .i64 x.u], .pointer (some ⟨ga, 0, none⟩), .pointer (some ⟨gq, 0, none⟩)] w fun e w' => e = .returned (.bool (x.k != kp)) ∧ Below w.heap.size w w' := by
  have q : ∀ W, (binOp .eql 28 (.agg #[.int .u8 (x.ad.a.toNat : Int), .int .u8 (x.ad.b.toNat : Int), .int .u8 (x.ad.c.toNat : Int), .int .u8 (x.ad.d.toNat : Int)]) (.agg #[.int .u8 (a.a.toNat : Int), .int .u8 (a.b.toNat : Int), .int .u8 (a.c.toNat : Int), .int .u8 (a.d.toNat : Int)])).run Try.prog W = .ok (.bool true) W := fun W => by have h_ := eqa_b x.ad a W; rw [h] at h_; exact h_
  have bel := Below.refl w.heap.size w
  go_enter Try.func38, Try.ntmps38
  go_wp2_with (first | ((with_reducible show wpList _ _ _ (⟨some 3, _, _, _, _, _⟩ :: _) _ _); refine wpList_box_n rfl 31 (.tmp 0) rfl #[.int .i64 x.pr, .int .i64 x.o, .int .u8 (x.ad.a.toNat : Int), .int .u8 (x.ad.b.toNat : Int), .int .u8 (x.ad.c.toNat : Int), .int .u8 (x.ad.d.toNat : Int), .int .i64 x.i, .int .i64 x.k, .int .i64 x.u] rfl ?_; intro g3 w1 ge lt hh bb; have d_ab_eb := ne_new (hlt hab) ge; have d_kb_eb := ne_new (hlt hkb) ge; have oeb := Nat.le_trans bel.size ge; replace hab := blk_u hab bb; replace hkb := blk_u hkb bb; replace bel := bel.trans (bb.mono bel.size); have heb := hh; clear hh lt ge bb; have R6 := Lib.hid (range_lit heb 2 4 [.int .u8 (x.ad.a.toNat : Int), .int .u8 (x.ad.b.toNat : Int), .int .u8 (x.ad.c.toNat : Int), .int .u8 (x.ad.d.toNat : Int)] rfl)) | ((with_reducible show wpList _ _ _ (⟨some 6, _, _, _, _, _⟩ :: _) _ _); refine wpList_load_rng 28 (.tmp 5) rfl (by kernel_rfl) _ _ rfl _ R6.out _ Try.underlying28 rfl (by kernel_rfl) ?_; have R7 := Lib.hid (range_lit hab 0 4 [.int .u8 (a.a.toNat : Int), .int .u8 (a.b.toNat : Int), .int .u8 (a.c.toNat : Int), .int .u8 (a.d.toNat : Int)] rfl)) | ((with_reducible show wpList _ _ _ (⟨some 7, _, _, _, _, _⟩ :: _) _ _); refine wpList_load_rng 28 (.tmp 1) rfl (by kernel_rfl) _ _ rfl _ R7.out _ Try.underlying28 rfl (by kernel_rfl) ?_; have R11 := cell_lit heb 7 _ rfl; have R12 := cell_lit hkb 0 _ rfl))
  try clear R6
  try clear R7
  try clear R11
  try clear R12
  go_ret
  exact ⟨rfl, bel⟩
theorem clf_p {ga gq : Nat} {a : Ad4} {kp : Int} (x : Mp) (w : World) (hab : w.heap[ga]? = some (.cells #[.int .u8 (a.a.toNat : Int), .int .u8 (a.b.toNat : Int), .int .u8 (a.c.toNat : Int), .int .u8 (a.d.toNat : Int)] 28 (0, 0))) (hkb : w.heap[gq]? = some (.cells #[.int .i64 kp] 3 (0, 0))) : Calls Try.prog 38 #[.agg #[.int .i64 x.pr, .int .i64 x.o, .int .u8 (x.ad.a.toNat : Int), .int .u8 (x.ad.b.toNat : Int), .int .u8 (x.ad.c.toNat : Int), .int .u8 (x.ad.d.toNat : Int), .int .i64 x.i, .int .i64 x.k, .int .i64 x.u], .pointer (some ⟨ga, 0, none⟩), .pointer (some ⟨gq, 0, none⟩)] w fun e w' => e = .returned (.bool (purB a kp x)) ∧ Below w.heap.size w w' := by
  unfold purB
  cases h : x.ad.eqB a with
  | false => exact clf_p1 x w hab hkb h
  | true => exact clf_p2 x w hab hkb h
set_option linter.unusedVariables false in
set_option linter.unusedSimpArgs false in
set_option maxRecDepth 100000 in
set_option maxHeartbeats 16000000 in
theorem idxp_none_pos {ga gq : Nat} {n c gE oE : Nat} {a : Ad4} {kp : Int} {l : List Mp} (w : World) (hab : w.heap[ga]? = some (.cells #[.int .u8 (a.a.toNat : Int), .int .u8 (a.b.toNat : Int), .int .u8 (a.c.toNat : Int), .int .u8 (a.d.toNat : Int)] 28 (0, 0))) (hkb : w.heap[gq]? = some (.cells #[.int .i64 kp] 3 (0, 0))) (en : Sle mpE 9 w (some ⟨gE, oE, none⟩) n c l) (hn : n ≤ 1000) (hN : ∀ e ∈ l, purB a kp e = false) : Calls Try.prog 58 #[.slice (some ⟨gE, oE, none⟩) n c, .func (.func 38) #[] #[.pointer (some ⟨ga, 0, none⟩), .pointer (some ⟨gq, 0, none⟩)]] w fun e w' => e = .returned (.int .i64 (-1)) ∧ Below w.heap.size w w' := by
  have HL := Lib.hid en.1
  have hn0 : (n : Int) ≤ 1000 := by omega
  have HN := Lib.hid hN
  clear hN
  have bel := Below.refl w.heap.size w
  go_enter Try.func58, Try.ntmps58
  go_wp2_with fail
  go_loopg [8] (n) (fun gk s8 wr => ∃ k : Nat, gk = n - k ∧ k ≤ n ∧ s8 = .int .i64 (k : Int) ∧ wr.heap[ga]? = some (.cells #[.int .u8 (a.a.toNat : Int), .int .u8 (a.b.toNat : Int), .int .u8 (a.c.toNat : Int), .int .u8 (a.d.toNat : Int)] 28 (0, 0)) ∧ wr.heap[gq]? = some (.cells #[.int .i64 kp] 3 (0, 0)) ∧ Sle mpE 9 wr (some ⟨gE, oE, none⟩) (n) (c) (l) ∧ Below w.heap.size w wr)
  case atStart => exact ⟨0, Nat.sub_zero _, Nat.zero_le _, rfl, hab, hkb, en, bel⟩
  case round =>
    clear hab hkb en bel
    obtain ⟨k, HGK, hkn, rfl, hab, hkb, en, bel⟩ := hrel
    have HGK_ := Lib.hid HGK
    clear HGK
    by_cases h : k < n
    rotate_left
    · obtain rfl : k = n := by omega
      replace h : decide (k < k) = false := decide_eq_false (by omega)
      go_wp2_with fail
      go_ret
      exact ⟨rfl, bel⟩
    obtain ⟨e, hx⟩ : ∃ e, l[k]? = some e := ⟨_, List.getElem?_eq_getElem (by have := HL.out; omega)⟩
    have k0 : (0 : Int) ≤ k := by omega
    have k1 : (k : Int) < n := by omega
    have HX := Lib.hid hx
    clear hx
    have HG : Hid (purB a kp e = false) := Lib.hid (HN.out e (List.mem_of_getElem? HX.out))
    have R15 := Lib.hid (Sle.range0 en HX.out 9 [.int .i64 e.pr, .int .i64 e.o, .int .u8 (e.ad.a.toNat : Int), .int .u8 (e.ad.b.toNat : Int), .int .u8 (e.ad.c.toNat : Int), .int .u8 (e.ad.d.toNat : Int), .int .i64 e.i, .int .i64 e.k, .int .i64 e.u] rfl)
    go_wp2_with (first | ((with_reducible show wpList _ _ _ (⟨some 15, _, _, _, _, _⟩ :: _) _ _); refine wpList_load_rng 31 (.tmp 14) rfl (by kernel_rfl) _ _ rfl _ R15.out _ Try.underlying31 rfl (by kernel_rfl) ?_))
    try clear R15
    with_reducible refine (clf_p e _ hab hkb).mono ?_
    rintro e w1 ⟨rfl, b1⟩
    replace hab := blk_u hab b1
    replace hkb := blk_u hkb b1
    replace en := en.below b1
    replace bel := bel.trans (b1.mono bel.size)
    clear b1
    rw [HG.out]
    go_wp2_with fail
    go_roundg (n - (k + 1))
    case measure => have := HGK_.out; omega
    case rel => exact ⟨k + 1, rfl, by omega, by go_num, hab, hkb, en, bel⟩
set_option linter.unusedVariables false in
set_option linter.unusedSimpArgs false in
set_option maxRecDepth 100000 in
set_option maxHeartbeats 16000000 in
theorem idxp_some {ga gq : Nat} {n c gE oE : Nat} {a : Ad4} {kp : Int} {l : List Mp} (w : World) (hab : w.heap[ga]? = some (.cells #[.int .u8 (a.a.toNat : Int), .int .u8 (a.b.toNat : Int), .int .u8 (a.c.toNat : Int), .int .u8 (a.d.toNat : Int)] 28 (0, 0))) (hkb : w.heap[gq]? = some (.cells #[.int .i64 kp] 3 (0, 0))) (en : Sle mpE 9 w (some ⟨gE, oE, none⟩) n c l) (hn : n ≤ 1000) {i : Nat} {x : Mp} (hx : l[i]? = some x) (hg : purB a kp x = true) (hN : ∀ j e, j < i → l[j]? = some e → purB a kp e = false) : Calls Try.prog 58 #[.slice (some ⟨gE, oE, none⟩) n c, .func (.func 38) #[] #[.pointer (some ⟨ga, 0, none⟩), .pointer (some ⟨gq, 0, none⟩)]] w fun e w' => e = .returned (.int .i64 (i : Int)) ∧ Below w.heap.size w w' := by
  have HL := Lib.hid en.1
  have hn0 : (n : Int) ≤ 1000 := by omega
  have HIN : Hid (i < n) := Lib.hid (by have := (List.getElem?_eq_some_iff.1 hx).1; have h_ := en.1; omega)
  have HN := Lib.hid hN
  have HXI := Lib.hid hx
  have HGI := Lib.hid hg
  clear hN hx hg
  have bel := Below.refl w.heap.size w
  go_enter Try.func58, Try.ntmps58
  go_wp2_with fail
  go_loopg [8] (n) (fun gk s8 wr => ∃ k : Nat, gk = n - k ∧ k ≤ i ∧ s8 = .int .i64 (k : Int) ∧ wr.heap[ga]? = some (.cells #[.int .u8 (a.a.toNat : Int), .int .u8 (a.b.toNat : Int), .int .u8 (a.c.toNat : Int), .int .u8 (a.d.toNat : Int)] 28 (0, 0)) ∧ wr.heap[gq]? = some (.cells #[.int .i64 kp] 3 (0, 0)) ∧ Sle mpE 9 wr (some ⟨gE, oE, none⟩) (n) (c) (l) ∧ Below w.heap.size w wr)
  case atStart => exact ⟨0, Nat.sub_zero _, Nat.zero_le _, rfl, hab, hkb, en, bel⟩
  case round =>
    clear hab hkb en bel
    obtain ⟨k, HGK, hkn, rfl, hab, hkb, en, bel⟩ := hrel
    have HGK_ := Lib.hid HGK
    clear HGK
    by_cases h : k < n
    rotate_left
    · exfalso
      have := HIN.out
      omega
    obtain ⟨e, hx⟩ : ∃ e, l[k]? = some e := ⟨_, List.getElem?_eq_getElem (by have := HL.out; omega)⟩
    have k0 : (0 : Int) ≤ k := by omega
    have k1 : (k : Int) < n := by omega
    have HX := Lib.hid hx
    clear hx
    by_cases h2 : k < i
    rotate_left
    · obtain rfl : k = i := by omega
      obtain rfl : e = x := Option.some.inj (HX.out.symm.trans HXI.out)
      have HG := HGI
      have R15 := Lib.hid (Sle.range0 en HX.out 9 [.int .i64 e.pr, .int .i64 e.o, .int .u8 (e.ad.a.toNat : Int), .int .u8 (e.ad.b.toNat : Int), .int .u8 (e.ad.c.toNat : Int), .int .u8 (e.ad.d.toNat : Int), .int .i64 e.i, .int .i64 e.k, .int .i64 e.u] rfl)
      go_wp2_with (first | ((with_reducible show wpList _ _ _ (⟨some 15, _, _, _, _, _⟩ :: _) _ _); refine wpList_load_rng 31 (.tmp 14) rfl (by kernel_rfl) _ _ rfl _ R15.out _ Try.underlying31 rfl (by kernel_rfl) ?_))
      try clear R15
      with_reducible refine (clf_p e _ hab hkb).mono ?_
      rintro e w1 ⟨rfl, b1⟩
      replace hab := blk_u hab b1
      replace hkb := blk_u hkb b1
      replace en := en.below b1
      replace bel := bel.trans (b1.mono bel.size)
      clear b1
      rw [HG.out]
      go_wp2_with fail
      go_ret
      exact ⟨rfl, bel⟩
    have HG : Hid (purB a kp e = false) := Lib.hid (HN.out k e h2 HX.out)
    have R15 := Lib.hid (Sle.range0 en HX.out 9 [.int .i64 e.pr, .int .i64 e.o, .int .u8 (e.ad.a.toNat : Int), .int .u8 (e.ad.b.toNat : Int), .int .u8 (e.ad.c.toNat : Int), .int .u8 (e.ad.d.toNat : Int), .int .i64 e.i, .int .i64 e.k, .int .i64 e.u] rfl)
    go_wp2_with (first | ((with_reducible show wpList _ _ _ (⟨some 15, _, _, _, _, _⟩ :: _) _ _); refine wpList_load_rng 31 (.tmp 14) rfl (by kernel_rfl) _ _ rfl _ R15.out _ Try.underlying31 rfl (by kernel_rfl) ?_))
    try clear R15
    with_reducible refine (clf_p e _ hab hkb).mono ?_
    rintro e w1 ⟨rfl, b1⟩
    replace hab := blk_u hab b1
    replace hkb := blk_u hkb b1
    replace en := en.below b1
    replace bel := bel.trans (b1.mono bel.size)
    clear b1
    rw [HG.out]
    go_wp2_with fail
    go_roundg (n - (k + 1))
    case measure => have := HGK_.out; omega
    case rel => exact ⟨k + 1, rfl, by omega, by go_num, hab, hkb, en, bel⟩
set_option linter.unusedVariables false in
set_option linter.unusedSimpArgs false in
set_option maxRecDepth 100000 in
set_option maxHeartbeats 16000000 in
theorem idxp_nil {ga gq : Nat} {n c : Nat} {A2 : Option Addr} (w : World) (hn : n = 0) : Calls Try.prog 58 #[.slice A2 n c, .func (.func 38) #[] #[.pointer (some ⟨ga, 0, none⟩), .pointer (some ⟨gq, 0, none⟩)]] w fun e w' => e = .returned (.int .i64 (-1)) ∧ w = w' := by
  subst hn
  skip
  go_enter Try.func58, Try.ntmps58
  go_wp2_with fail
  refine wp_loop_rounds 1 ?_
  rw [rounds_succ]
  go_wp2_with fail
  go_ret
  exact ⟨rfl, rfl⟩
theorem idxp_none {ga gq : Nat} {n c : Nat} {A2 : Option Addr} {a : Ad4} {kp : Int} {l : List Mp} (w : World) (hab : w.heap[ga]? = some (.cells #[.int .u8 (a.a.toNat : Int), .int .u8 (a.b.toNat : Int), .int .u8 (a.c.toNat : Int), .int .u8 (a.d.toNat : Int)] 28 (0, 0))) (hkb : w.heap[gq]? = some (.cells #[.int .i64 kp] 3 (0, 0))) (en : Sle mpE 9 w A2 n c l) (hn : n ≤ 1000) (hN : ∀ e ∈ l, purB a kp e = false) : Calls Try.prog 58 #[.slice A2 n c, .func (.func 38) #[] #[.pointer (some ⟨ga, 0, none⟩), .pointer (some ⟨gq, 0, none⟩)]] w fun e w' => e = .returned (.int .i64 (-1)) ∧ Below w.heap.size w w' := by
  rcases Nat.eq_zero_or_pos n with h | h
  · refine (idxp_nil w h).mono ?_
    rintro e w' ⟨rfl, rfl⟩
    exact ⟨rfl, Below.refl _ _⟩
  · obtain ⟨g, o, rfl⟩ := en.place h
    exact idxp_none_pos w hab hkb en hn hN
set_option linter.unusedVariables false in
set_option linter.unusedSimpArgs false in
set_option maxRecDepth 100000 in
set_option maxHeartbeats 16000000 in
theorem delp_some {ga gq : Nat} {lo gE n c k : Nat} {a : Ad4} {kp : Int} {l : List Mp} {x : Mp} (w : World) (hlo : lo ≤ w.heap.size) (hab : w.heap[ga]? = some (.cells #[.int .u8 (a.a.toNat : Int), .int .u8 (a.b.toNat : Int), .int .u8 (a.c.toNat : Int), .int .u8 (a.d.toNat : Int)] 28 (0, 0))) (hkb : w.heap[gq]? = some (.cells #[.int .i64 kp] 3 (0, 0))) (hown : w.ownsRow lo 31 9 (.slice (some ⟨gE, 0, none⟩) n c) n (l.flatMap mpE)) (hn : n ≤ 1000) (hx : l[k]? = some x) (hg : purB a kp x = true) (hN : ∀ j e, j < k → l[j]? = some e → purB a kp e = false) : Calls Try.prog 45 #[.slice (some ⟨gE, 0, none⟩) n c, .func (.func 38) #[] #[.pointer (some ⟨ga, 0, none⟩), .pointer (some ⟨gq, 0, none⟩)]] w fun e w' => ∃ i, e = .returned (.slice (some ⟨gE, 0, none⟩) i c) ∧ w'.ownsRow lo 31 9 (.slice (some ⟨gE, 0, none⟩) i c) i ((l.filter (fun e => !purB a kp e)).flatMap mpE) ∧ w.grownBy w' (some gE) := by
  have own := hown
  clear hown
  have off_ab := ofs_type own hab (by decide)
  have off_kb := ofs_type own hkb (by decide)
  have en := (owk_sle (by decide) mpE_len own).1
  have HLL := Lib.hid (row_len (by decide) mpE_len own)
  have HCAP := Lib.hid (row_cap own)
  have HKN : Hid (k + 1 ≤ n) := Lib.hid (by have := (List.getElem?_eq_some_iff.1 hx).1; have h_ := HLL.out; omega)
  have HF0 : Hid (l.take k = (l.take (k + 1)).filter (fun e => !purB a kp e)) := Lib.hid (by rw [mfilt_skip hx (by show (!_) = _; rw [hg]; rfl)]; exact mfilt_first (fun j e h1 h2 => by show (!_) = _; rw [hN j e h1 h2]; rfl))
  have hn0 : (n : Int) ≤ 1000 := by omega
  have hne : ((k : Int) == -1) = false := beq_eq_false_iff_ne.2 (by omega)
  have k0 : (0 : Int) ≤ k := by omega
  have k1 : (k : Int) < n := by have := HKN.out; omega
  have HN := Lib.hid hn
  have HXI := Lib.hid hx
  have HGI := Lib.hid hg
  have HNI := Lib.hid hN
  have grw := World.grownBy.refl w (some gE)
  clear hn hx hg hN
  have bel := Below.refl lo w
  go_enter Try.func45, Try.ntmps45
  go_wp2_with fail
  have H1000 := HN.out
  with_reducible refine (idxp_some _ hab hkb en H1000 HXI.out HGI.out HNI.out).mono ?_
  rintro e w1 ⟨rfl, b1⟩
  replace hab := blk_u hab b1
  replace hkb := blk_u hkb b1
  replace en := en.below b1
  replace own := owk_under own b1
  replace grw := grw.trans (grown_of_below b1)
  replace bel := bel.trans (b1.mono (Nat.le_trans hlo bel.size))
  clear b1
  clear H1000
  go_wp2_with fail
  go_loopg [6, 5] (n - (k + 1)) (fun gk s6 s5 wr => ∃ j : Nat, ∃ i : Nat, ∃ cur : List Mp, gk = n - j ∧ i < j ∧ j ≤ n ∧ Hid (cur.length = n) ∧ Hid (cur.take i = (l.take j).filter (fun e => !purB a kp e)) ∧ Hid (cur.drop j = l.drop j) ∧ wr.ownsRow lo 31 9 (.slice (some ⟨gE, 0, none⟩) n c) n (cur.flatMap mpE) ∧ w.grownBy wr (some gE) ∧ s6 = .int .i64 (j : Int) ∧ s5 = .int .i64 (i : Int) ∧ wr.heap[ga]? = some (.cells #[.int .u8 (a.a.toNat : Int), .int .u8 (a.b.toNat : Int), .int .u8 (a.c.toNat : Int), .int .u8 (a.d.toNat : Int)] 28 (0, 0)) ∧ wr.heap[gq]? = some (.cells #[.int .i64 kp] 3 (0, 0)) ∧ Sle mpE 9 wr (some ⟨gE, 0, none⟩) (n) (c) (cur) ∧ Below lo w wr)
  case atStart => exact ⟨k + 1, k, l, rfl, Nat.lt_succ_self k, HKN.out, HLL, HF0, Lib.hid rfl, own, grw, by go_num, rfl, hab, hkb, en, bel⟩
  case round =>
    clear own grw hab hkb en bel
    obtain ⟨j, i, cur, HGK, hij, hjn, HCL, HCT, HCD, own, grw, rfl, rfl, hab, hkb, en, bel⟩ := hrel
    have HGK_ := Lib.hid HGK
    clear HGK
    by_cases h : j < n
    rotate_left
    · obtain rfl : j = n := by omega
      replace h : decide (j < j) = false := decide_eq_false (by omega)
      obtain ⟨q, hq⟩ : ∃ q, i + q = j := ⟨j - i, by omega⟩
      have HQ := Lib.hid hq
      have HQ0 : Hid (0 < q) := Lib.hid (by omega)
      have r38 := fun W => mp_back gE j c i (by omega) (by have := HCAP.out; omega) W
      rw [show j - i = q by omega] at r38
      have r41 := fun W => mp_front gE j c i (by have := HCAP.out; omega) W
      clear hq
      have R38 := r38
      go_wp2_with (first | ((with_reducible show wpList _ _ _ (⟨none, Op.call _, _, _, _, _⟩ :: _) _ _); refine wpList_clear_row rfl (.tmp 38) 37 31 rfl (.agg #[.int .i64 0, .int .i64 0, .int .u8 0, .int .u8 0, .int .u8 0, .int .u8 0, .int .i64 0, .int .i64 0, .int .i64 0]) Try.underlying37 mp_zero mp_zs mp_z1 _ HQ.out own HQ0.out _ rfl ?_; intro w90 own_ gw; replace grw := grw.trans gw; clear bel own gw hab hkb en; have own := own_; clear own_; have R41 := r41))
      try clear R38
      try clear R41
      go_ret
      exact ⟨i, rfl, by rw [← flat_take mpE_len, HCT.out, List.take_of_length_le (Nat.le_of_eq HLL.out)] at own; exact own, grw⟩
    have HX0 := mdrop_head HCD.out
    obtain ⟨e, hx⟩ : ∃ e, l[j]? = some e := ⟨_, List.getElem?_eq_getElem (by have := HLL.out; omega)⟩
    have HXL := Lib.hid hx
    have HX : Hid (cur[j]? = some e) := Lib.hid (HX0.trans hx)
    obtain ⟨xi, hxi⟩ : ∃ xi, cur[i]? = some xi := ⟨_, List.getElem?_eq_getElem (by have := HCL.out; omega)⟩
    have HXI2 := Lib.hid hxi
    have j0 : (0 : Int) ≤ j := by omega
    have j1 : (j : Int) < n := by omega
    have i0_ : (0 : Int) ≤ i := by omega
    have i1_ : (i : Int) < n := by omega
    clear hx HX0 hxi
    rcases hb : purB a kp e with _ | _
    rotate_left
    · have HG := Lib.hid hb
      clear hb
      have HKE : Hid ((fun e => !purB a kp e) e = false) := Lib.hid (by show (!_) = _; rw [HG.out]; rfl)
      have R25 := Lib.hid (Sle.zrange0 en HX.out 9 [.int .i64 e.pr, .int .i64 e.o, .int .u8 (e.ad.a.toNat : Int), .int .u8 (e.ad.b.toNat : Int), .int .u8 (e.ad.c.toNat : Int), .int .u8 (e.ad.d.toNat : Int), .int .i64 e.i, .int .i64 e.k, .int .i64 e.u] rfl)
      go_wp2_with (first | ((with_reducible show wpList _ _ _ (⟨some 25, _, _, _, _, _⟩ :: _) _ _); refine wpList_load_rng 31 (.tmp 24) rfl (by kernel_rfl) _ _ rfl _ R25.out _ Try.underlying31 rfl (by kernel_rfl) ?_) | ((with_reducible show wpList _ _ _ (⟨some 7, _, _, _, _, _⟩ :: _) _ _); refine wpList_new_a rfl 31 rfl #[.int .i64 0, .int .i64 0, .int .u8 0, .int .u8 0, .int .u8 0, .int .u8 0, .int .i64 0, .int .i64 0, .int .i64 0] (by kernel_rfl) ?_; intro g7 w2 ge hh bb; have d_ab_vb := ne_new (hlt hab) ge; have d_kb_vb := ne_new (hlt hkb) ge; have av_en_vb := en.av_new ge; have ovb := Nat.le_trans (Nat.le_trans hlo bel.size) ge; have off_vb := owk_new own ge; have pv_vb := Nat.le_trans grw.size ge; replace hab := blk_u hab bb; replace hkb := blk_u hkb bb; replace en := en.below bb; replace own := owk_under own bb; replace grw := grw.trans (grown_of_below bb); replace bel := bel.trans (bb.mono (Nat.le_trans hlo bel.size)); have hvb := hh; clear hh ge bb) | ((with_reducible show wpList _ _ _ (⟨none, Op.store _ (.tmp 7) _, _, _, _, _⟩ :: _) _ _); refine wpList_store_blk rfl 31 (.tmp 7) (.tmp 25) rfl g7 rfl _ rfl _ 31 hvb (by rfl) (by kernel_rfl) (by kernel_rfl) ?_; intro w3 hq gr; replace en := en.away av_en_vb gr; replace hab := blk_a hab gr d_ab_vb; replace hkb := blk_a hkb gr d_kb_vb; replace own := owk_off own off_vb gr; replace grw := gk_new grw pv_vb gr; replace bel := below_grown bel gr ovb (Nat.le_trans hlo bel.size); clear hvb; have hvb := hq; clear hq gr; have R27 := Lib.hid (range_lit hvb 0 9 [.int .i64 e.pr, .int .i64 e.o, .int .u8 (e.ad.a.toNat : Int), .int .u8 (e.ad.b.toNat : Int), .int .u8 (e.ad.c.toNat : Int), .int .u8 (e.ad.d.toNat : Int), .int .i64 e.i, .int .i64 e.k, .int .i64 e.u] rfl)) | ((with_reducible show wpList _ _ _ (⟨some 27, _, _, _, _, _⟩ :: _) _ _); refine wpList_load_rng 31 (.tmp 7) rfl (by kernel_rfl) _ _ rfl _ R27.out _ Try.underlying31 rfl (by kernel_rfl) ?_))
      try clear R25
      try clear R27
      with_reducible refine (clf_p e _ hab hkb).mono ?_
      rintro e w4 ⟨rfl, b4⟩
      replace hab := blk_u hab b4
      replace hkb := blk_u hkb b4
      replace hvb := blk_u hvb b4
      replace en := en.below b4
      replace own := owk_under own b4
      replace grw := grw.trans (grown_of_below b4)
      replace bel := bel.trans (b4.mono (Nat.le_trans hlo bel.size))
      clear b4
      rw [HG.out]
      go_wp2_with fail
      go_roundg (n - (j + 1))
      case measure => have := HGK_.out; omega
      case rel => exact ⟨j + 1, i, cur, rfl, by omega, by omega, HCL, Lib.hid (by rw [mfilt_skip HXL.out HKE.out]; exact HCT.out), Lib.hid (mdrop_more HCD.out), own, grw, by go_num, by go_num, hab, hkb, en, bel⟩
    have HG := Lib.hid hb
    clear hb
    have HKE : Hid ((fun e => !purB a kp e) e = true) := Lib.hid (by show (!_) = _; rw [HG.out]; rfl)
    have R25 := Lib.hid (Sle.zrange0 en HX.out 9 [.int .i64 e.pr, .int .i64 e.o, .int .u8 (e.ad.a.toNat : Int), .int .u8 (e.ad.b.toNat : Int), .int .u8 (e.ad.c.toNat : Int), .int .u8 (e.ad.d.toNat : Int), .int .i64 e.i, .int .i64 e.k, .int .i64 e.u] rfl)
    go_wp2_with (first | ((with_reducible show wpList _ _ _ (⟨some 25, _, _, _, _, _⟩ :: _) _ _); refine wpList_load_rng 31 (.tmp 24) rfl (by kernel_rfl) _ _ rfl _ R25.out _ Try.underlying31 rfl (by kernel_rfl) ?_) | ((with_reducible show wpList _ _ _ (⟨some 7, _, _, _, _, _⟩ :: _) _ _); refine wpList_new_a rfl 31 rfl #[.int .i64 0, .int .i64 0, .int .u8 0, .int .u8 0, .int .u8 0, .int .u8 0, .int .i64 0, .int .i64 0, .int .i64 0] (by kernel_rfl) ?_; intro g7 w2 ge hh bb; have d_ab_vb := ne_new (hlt hab) ge; have d_kb_vb := ne_new (hlt hkb) ge; have av_en_vb := en.av_new ge; have ovb := Nat.le_trans (Nat.le_trans hlo bel.size) ge; have off_vb := owk_new own ge; have pv_vb := Nat.le_trans grw.size ge; replace hab := blk_u hab bb; replace hkb := blk_u hkb bb; replace en := en.below bb; replace own := owk_under own bb; replace grw := grw.trans (grown_of_below bb); replace bel := bel.trans (bb.mono (Nat.le_trans hlo bel.size)); have hvb := hh; clear hh ge bb) | ((with_reducible show wpList _ _ _ (⟨none, Op.store _ (.tmp 7) _, _, _, _, _⟩ :: _) _ _); refine wpList_store_blk rfl 31 (.tmp 7) (.tmp 25) rfl g7 rfl _ rfl _ 31 hvb (by rfl) (by kernel_rfl) (by kernel_rfl) ?_; intro w3 hq gr; replace en := en.away av_en_vb gr; replace hab := blk_a hab gr d_ab_vb; replace hkb := blk_a hkb gr d_kb_vb; replace own := owk_off own off_vb gr; replace grw := gk_new grw pv_vb gr; replace bel := below_grown bel gr ovb (Nat.le_trans hlo bel.size); clear hvb; have hvb := hq; clear hq gr; have R27 := Lib.hid (range_lit hvb 0 9 [.int .i64 e.pr, .int .i64 e.o, .int .u8 (e.ad.a.toNat : Int), .int .u8 (e.ad.b.toNat : Int), .int .u8 (e.ad.c.toNat : Int), .int .u8 (e.ad.d.toNat : Int), .int .i64 e.i, .int .i64 e.k, .int .i64 e.u] rfl)) | ((with_reducible show wpList _ _ _ (⟨some 27, _, _, _, _, _⟩ :: _) _ _); refine wpList_load_rng 31 (.tmp 7) rfl (by kernel_rfl) _ _ rfl _ R27.out _ Try.underlying31 rfl (by kernel_rfl) ?_))
    try clear R25
    try clear R27
    with_reducible refine (clf_p e _ hab hkb).mono ?_
    rintro e w4 ⟨rfl, b4⟩
    replace hab := blk_u hab b4
    replace hkb := blk_u hkb b4
    replace hvb := blk_u hvb b4
    replace en := en.below b4
    replace own := owk_under own b4
    replace grw := grw.trans (grown_of_below b4)
    replace bel := bel.trans (b4.mono (Nat.le_trans hlo bel.size))
    clear b4
    rw [HG.out]
    have R32 := Lib.hid (range_lit hvb 0 9 [.int .i64 e.pr, .int .i64 e.o, .int .u8 (e.ad.a.toNat : Int), .int .u8 (e.ad.b.toNat : Int), .int .u8 (e.ad.c.toNat : Int), .int .u8 (e.ad.d.toNat : Int), .int .i64 e.i, .int .i64 e.k, .int .i64 e.u] rfl)
    go_wp2_with (first | ((with_reducible show wpList _ _ _ (⟨some 32, _, _, _, _, _⟩ :: _) _ _); refine wpList_load_rng 31 (.tmp 7) rfl (by kernel_rfl) _ _ rfl _ R32.out _ Try.underlying31 rfl (by kernel_rfl) ?_) | ((with_reducible show wpList _ _ _ (⟨none, Op.store _ (.tmp 33) _, _, _, _, _⟩ :: _) _ _); refine wpList_store_el rfl 31 (.tmp 33) (.tmp 32) rfl gE i 0 xi e rfl [.int .i64 e.pr, .int .i64 e.o, .int .u8 (e.ad.a.toNat : Int), .int .u8 (e.ad.b.toNat : Int), .int .u8 (e.ad.c.toNat : Int), .int .u8 (e.ad.d.toNat : Int), .int .i64 e.i, .int .i64 e.k, .int .i64 e.u] rfl (by decide) mpE_len own HXI2.out (Nat.le_of_ble_eq_true rfl) rfl (by kernel_rfl) (by rfl) ?_; intro w5 own_ gw; replace bel := bel.trans (row_bel gw own (Nat.le_trans hlo bel.size)); replace hab := blk_own (v := .slice (some ⟨gE, 0, none⟩) n c) hab gw off_ab; replace hkb := blk_own (v := .slice (some ⟨gE, 0, none⟩) n c) hkb gw off_kb; replace hvb := blk_own (v := .slice (some ⟨gE, 0, none⟩) n c) hvb gw off_vb; replace grw := grw.trans gw; clear own; have own := own_; clear own_ gw; replace en := (owk_sle (by decide) mpE_len own).1))
    try clear R32
    go_roundg (n - (j + 1))
    case measure => have := HGK_.out; omega
    case rel => exact ⟨j + 1, i + 1, cur.set i e, rfl, by omega, by omega, Lib.hid (by rw [List.length_set]; exact HCL.out), Lib.hid (by rw [mtake_set_next (by have := HCL.out; omega), mfilt_keep HXL.out HKE.out, HCT.out]), Lib.hid (by rw [mdrop_set_next (by omega)]; exact mdrop_more HCD.out), own, grw, by go_num, by go_num, hab, hkb, en, bel⟩
set_option linter.unusedVariables false in
set_option linter.unusedSimpArgs false in
set_option maxRecDepth 100000 in
set_option maxHeartbeats 16000000 in
theorem delp_none {ga gq : Nat} {n c : Nat} {A2 : Option Addr} {a : Ad4} {kp : Int} {l : List Mp} (w : World) (hab : w.heap[ga]? = some (.cells #[.int .u8 (a.a.toNat : Int), .int .u8 (a.b.toNat : Int), .int .u8 (a.c.toNat : Int), .int .u8 (a.d.toNat : Int)] 28 (0, 0))) (hkb : w.heap[gq]? = some (.cells #[.int .i64 kp] 3 (0, 0))) (en : Sle mpE 9 w A2 n c l) (hn : n ≤ 1000) (hN : ∀ e ∈ l, purB a kp e = false) : Calls Try.prog 45 #[.slice A2 n c, .func (.func 38) #[] #[.pointer (some ⟨ga, 0, none⟩), .pointer (some ⟨gq, 0, none⟩)]] w fun e w' => e = .returned (.slice A2 n c) ∧ Below w.heap.size w w' := by
  have bel := Below.refl w.heap.size w
  go_enter Try.func45, Try.ntmps45
  go_wp2_with fail
  with_reducible refine (idxp_none _ hab hkb en hn hN).mono ?_
  rintro e w1 ⟨rfl, b1⟩
  replace hab := blk_u hab b1
  replace hkb := blk_u hkb b1
  replace en := en.below b1
  replace bel := bel.trans (b1.mono bel.size)
  clear b1
  go_wp2_with fail
  go_ret
  exact ⟨rfl, bel⟩
theorem delp_any {ga gq : Nat} {lo n c : Nat} {A2 : Option Addr} {a : Ad4} {kp : Int} {l : List Mp} (w : World) (hlo : lo ≤ w.heap.size) (hab : w.heap[ga]? = some (.cells #[.int .u8 (a.a.toNat : Int), .int .u8 (a.b.toNat : Int), .int .u8 (a.c.toNat : Int), .int .u8 (a.d.toNat : Int)] 28 (0, 0))) (hkb : w.heap[gq]? = some (.cells #[.int .i64 kp] 3 (0, 0))) (hown : w.ownsRow lo 31 9 (.slice A2 n c) n (l.flatMap mpE)) (hn : n ≤ 1000) : Calls Try.prog 45 #[.slice A2 n c, .func (.func 38) #[] #[.pointer (some ⟨ga, 0, none⟩), .pointer (some ⟨gq, 0, none⟩)]] w fun e w' => ∃ n3, e = .returned (.slice A2 n3 c) ∧ w'.ownsRow lo 31 9 (.slice A2 n3 c) n3 ((l.filter (fun e => !purB a kp e)).flatMap mpE) ∧ w.grownBy w' (Value.ownBlock (.slice A2 n c)) ∧ (∀ q, q < w.heap.size → Ofs (.slice A2 n c) q → Ofs (.slice A2 n3 c) q) := by
  rcases mfirst_of (purB a kp) l with h | ⟨k, x, h1, h2, h3⟩
  · refine (delp_none w hab hkb (owk_sle (by decide) mpE_len hown).1 hn h).mono ?_
    rintro e w' ⟨rfl, bel⟩
    refine ⟨n, rfl, ?_, grown_of_below bel, fun _ _ h => h⟩
    rw [show l.filter (fun e => !purB a kp e) = l from List.filter_eq_self.2 (fun e he => by show (!_) = _; rw [h e he]; rfl)]
    exact owk_under hown bel
  · obtain ⟨gE, rfl, _⟩ := row_at hown (by have := (List.getElem?_eq_some_iff.1 h1).1; have h_ := row_len (by decide) mpE_len hown; omega)
    refine (delp_some w hlo hab hkb hown hn h1 h2 h3).mono ?_
    rintro e w' ⟨i, rfl, h4, h5⟩
    exact ⟨i, rfl, h4, h5, fun _ _ h => h⟩
set_option linter.unusedVariables false in
set_option linter.unusedSimpArgs false in
set_option maxRecDepth 100000 in
set_option maxHeartbeats 16000000 in
theorem clf_c {gq : Nat} {kp : Int} (x : Mp) (w : World) (hkb : w.heap[gq]? = some (.cells #[.int .i64 kp] 3 (0, 0))) : Calls Try.prog 43 #[.agg #[.int .i64 x.pr, .int .i64 x.o, .int .u8 (x.ad.a.toNat : Int), .int .u8 (x.ad.b.toNat : Int), .int .u8 (x.ad.c.toNat : Int), .int .u8 (x.ad.d.toNat : Int), .int .i64 x.i, .int .i64 x.k, .int .i64 x.u], .pointer (some ⟨gq, 0, none⟩)] w fun e w' => e = .returned (.bool (clrB kp x)) ∧ Below w.heap.size w w' := by
  skip
  have bel := Below.refl w.heap.size w
  go_enter Try.func43, Try.ntmps43
  go_wp2_with (first | ((with_reducible show wpList _ _ _ (⟨some 2, _, _, _, _, _⟩ :: _) _ _); refine wpList_box_n rfl 31 (.tmp 0) rfl #[.int .i64 x.pr, .int .i64 x.o, .int .u8 (x.ad.a.toNat : Int), .int .u8 (x.ad.b.toNat : Int), .int .u8 (x.ad.c.toNat : Int), .int .u8 (x.ad.d.toNat : Int), .int .i64 x.i, .int .i64 x.k, .int .i64 x.u] rfl ?_; intro g2 w1 ge lt hh bb; have d_kb_eb := ne_new (hlt hkb) ge; have oeb := Nat.le_trans bel.size ge; replace hkb := blk_u hkb bb; replace bel := bel.trans (bb.mono bel.size); have heb := hh; clear hh lt ge bb; have R5 := cell_lit heb 7 _ rfl; have R6 := cell_lit hkb 0 _ rfl))
  try clear R5
  try clear R6
  go_ret
  exact ⟨rfl, bel⟩
set_option linter.unusedVariables false in
set_option linter.unusedSimpArgs false in
set_option maxRecDepth 100000 in
set_option maxHeartbeats 16000000 in
theorem idxc_none_pos {gq : Nat} {n c gE oE : Nat} {kp : Int} {l : List Mp} (w : World) (hkb : w.heap[gq]? = some (.cells #[.int .i64 kp] 3 (0, 0))) (en : Sle mpE 9 w (some ⟨gE, oE, none⟩) n c l) (hn : n ≤ 1000) (hN : ∀ e ∈ l, clrB kp e = false) : Calls Try.prog 58 #[.slice (some ⟨gE, oE, none⟩) n c, .func (.func 43) #[] #[.pointer (some ⟨gq, 0, none⟩)]] w fun e w' => e = .returned (.int .i64 (-1)) ∧ Below w.heap.size w w' := by
  have HL := Lib.hid en.1
  have hn0 : (n : Int) ≤ 1000 := by omega
  have HN := Lib.hid hN
  clear hN
  have bel := Below.refl w.heap.size w
  go_enter Try.func58, Try.ntmps58
  go_wp2_with fail
  go_loopg [8] (n) (fun gk s8 wr => ∃ k : Nat, gk = n - k ∧ k ≤ n ∧ s8 = .int .i64 (k : Int) ∧ wr.heap[gq]? = some (.cells #[.int .i64 kp] 3 (0, 0)) ∧ Sle mpE 9 wr (some ⟨gE, oE, none⟩) (n) (c) (l) ∧ Below w.heap.size w wr)
  case atStart => exact ⟨0, Nat.sub_zero _, Nat.zero_le _, rfl, hkb, en, bel⟩
  case round =>
    clear hkb en bel
    obtain ⟨k, HGK, hkn, rfl, hkb, en, bel⟩ := hrel
    have HGK_ := Lib.hid HGK
    clear HGK
    by_cases h : k < n
    rotate_left
    · obtain rfl : k = n := by omega
      replace h : decide (k < k) = false := decide_eq_false (by omega)
      go_wp2_with fail
      go_ret
      exact ⟨rfl, bel⟩
    obtain ⟨e, hx⟩ : ∃ e, l[k]? = some e := ⟨_, List.getElem?_eq_getElem (by have := HL.out; omega)⟩
    have k0 : (0 : Int) ≤ k := by omega
    have k1 : (k : Int) < n := by omega
    have HX := Lib.hid hx
    clear hx
    have HG : Hid (clrB kp e = false) := Lib.hid (HN.out e (List.mem_of_getElem? HX.out))
    have R15 := Lib.hid (Sle.range0 en HX.out 9 [.int .i64 e.pr, .int .i64 e.o, .int .u8 (e.ad.a.toNat : Int), .int .u8 (e.ad.b.toNat : Int), .int .u8 (e.ad.c.toNat : Int), .int .u8 (e.ad.d.toNat : Int), .int .i64 e.i, .int .i64 e.k, .int .i64 e.u] rfl)
    go_wp2_with (first | ((with_reducible show wpList _ _ _ (⟨some 15, _, _, _, _, _⟩ :: _) _ _); refine wpList_load_rng 31 (.tmp 14) rfl (by kernel_rfl) _ _ rfl _ R15.out _ Try.underlying31 rfl (by kernel_rfl) ?_))
    try clear R15
    with_reducible refine (clf_c e _ hkb).mono ?_
    rintro e w1 ⟨rfl, b1⟩
    replace hkb := blk_u hkb b1
    replace en := en.below b1
    replace bel := bel.trans (b1.mono bel.size)
    clear b1
    rw [HG.out]
    go_wp2_with fail
    go_roundg (n - (k + 1))
    case measure => have := HGK_.out; omega
    case rel => exact ⟨k + 1, rfl, by omega, by go_num, hkb, en, bel⟩
set_option linter.unusedVariables false in
set_option linter.unusedSimpArgs false in
set_option maxRecDepth 100000 in
set_option maxHeartbeats 16000000 in
theorem idxc_some {gq : Nat} {n c gE oE : Nat} {kp : Int} {l : List Mp} (w : World) (hkb : w.heap[gq]? = some (.cells #[.int .i64 kp] 3 (0, 0))) (en : Sle mpE 9 w (some ⟨gE, oE, none⟩) n c l) (hn : n ≤ 1000) {i : Nat} {x : Mp} (hx : l[i]? = some x) (hg : clrB kp x = true) (hN : ∀ j e, j < i → l[j]? = some e → clrB kp e = false) : Calls Try.prog 58 #[.slice (some ⟨gE, oE, none⟩) n c, .func (.func 43) #[] #[.pointer (some ⟨gq, 0, none⟩)]] w fun e w' => e = .returned (.int .i64 (i : Int)) ∧ Below w.heap.size w w' := by
  have HL := Lib.hid en.1
  have hn0 : (n : Int) ≤ 1000 := by omega
  have HIN : Hid (i < n) := Lib.hid (by have := (List.getElem?_eq_some_iff.1 hx).1; have h_ := en.1; omega)
  have HN := Lib.hid hN
  have HXI := Lib.hid hx
  have HGI := Lib.hid hg
  clear hN hx hg
  have bel := Below.refl w.heap.size w
  go_enter Try.func58, Try.ntmps58
  go_wp2_with fail
  go_loopg [8] (n) (fun gk s8 wr => ∃ k : Nat, gk = n - k ∧ k ≤ i ∧ s8 = .int .i64 (k : Int) ∧ wr.heap[gq]? = some (.cells #[.int .i64 kp] 3 (0, 0)) ∧ Sle mpE 9 wr (some ⟨gE, oE, none⟩) (n) (c) (l) ∧ Below w.heap.size w wr)
  case atStart => exact ⟨0, Nat.sub_zero _, Nat.zero_le _, rfl, hkb, en, bel⟩
  case round =>
    clear hkb en bel
    obtain ⟨k, HGK, hkn, rfl, hkb, en, bel⟩ := hrel
    have HGK_ := Lib.hid HGK
    clear HGK
    by_cases h : k < n
    rotate_left
    · exfalso
      have := HIN.out
      omega
    obtain ⟨e, hx⟩ : ∃ e, l[k]? = some e := ⟨_, List.getElem?_eq_getElem (by have := HL.out; omega)⟩
    have k0 : (0 : Int) ≤ k := by omega
    have k1 : (k : Int) < n := by omega
    have HX := Lib.hid hx
    clear hx
    by_cases h2 : k < i
    rotate_left
    · obtain rfl : k = i := by omega
      obtain rfl : e = x := Option.some.inj (HX.out.symm.trans HXI.out)
      have HG := HGI
      have R15 := Lib.hid (Sle.range0 en HX.out 9 [.int .i64 e.pr, .int .i64 e.o, .int .u8 (e.ad.a.toNat : Int), .int .u8 (e.ad.b.toNat : Int), .int .u8 (e.ad.c.toNat : Int), .int .u8 (e.ad.d.toNat : Int), .int .i64 e.i, .int .i64 e.k, .int .i64 e.u] rfl)
      go_wp2_with (first | ((with_reducible show wpList _ _ _ (⟨some 15, _, _, _, _, _⟩ :: _) _ _); refine wpList_load_rng 31 (.tmp 14) rfl (by kernel_rfl) _ _ rfl _ R15.out _ Try.underlying31 rfl (by kernel_rfl) ?_))
      try clear R15
      with_reducible refine (clf_c e _ hkb).mono ?_
      rintro e w1 ⟨rfl, b1⟩
      replace hkb := blk_u hkb b1
      replace en := en.below b1
      replace bel := bel.trans (b1.mono bel.size)
      clear b1
      rw [HG.out]
      go_wp2_with fail
      go_ret
      exact ⟨rfl, bel⟩
    have HG : Hid (clrB kp e = false) := Lib.hid (HN.out k e h2 HX.out)
    have R15 := Lib.hid (Sle.range0 en HX.out 9 [.int .i64 e.pr, .int .i64 e.o, .int .u8 (e.ad.a.toNat : Int), .int .u8 (e.ad.b.toNat : Int), .int .u8 (e.ad.c.toNat : Int), .int .u8 (e.ad.d.toNat : Int), .int .i64 e.i, .int .i64 e.k, .int .i64 e.u] rfl)
    go_wp2_with (first | ((with_reducible show wpList _ _ _ (⟨some 15, _, _, _, _, _⟩ :: _) _ _); refine wpList_load_rng 31 (.tmp 14) rfl (by kernel_rfl) _ _ rfl _ R15.out _ Try.underlying31 rfl (by kernel_rfl) ?_))
    try clear R15
    with_reducible refine (clf_c e _ hkb).mono ?_
    rintro e w1 ⟨rfl, b1⟩
    replace hkb := blk_u hkb b1
    replace en := en.below b1
    replace bel := bel.trans (b1.mono bel.size)
    clear b1
    rw [HG.out]
    go_wp2_with fail
    go_roundg (n - (k + 1))
    case measure => have := HGK_.out; omega
    case rel => exact ⟨k + 1, rfl, by omega, by go_num, hkb, en, bel⟩
set_option linter.unusedVariables false in
set_option linter.unusedSimpArgs false in
set_option maxRecDepth 100000 in
set_option maxHeartbeats 16000000 in
theorem idxc_nil {gq : Nat} {n c : Nat} {A2 : Option Addr} (w : World) (hn : n = 0) : Calls Try.prog 58 #[.slice A2 n c, .func (.func 43) #[] #[.pointer (some ⟨gq, 0, none⟩)]] w fun e w' => e = .returned (.int .i64 (-1)) ∧ w = w' := by
  subst hn
  skip
  go_enter Try.func58, Try.ntmps58
  go_wp2_with fail
  refine wp_loop_rounds 1 ?_
  rw [rounds_succ]
  go_wp2_with fail
  go_ret
  exact ⟨rfl, rfl⟩
theorem idxc_none {gq : Nat} {n c : Nat} {A2 : Option Addr} {kp : Int} {l : List Mp} (w : World) (hkb : w.heap[gq]? = some (.cells #[.int .i64 kp] 3 (0, 0))) (en : Sle mpE 9 w A2 n c l) (hn : n ≤ 1000) (hN : ∀ e ∈ l, clrB kp e = false) : Calls Try.prog 58 #[.slice A2 n c, .func (.func 43) #[] #[.pointer (some ⟨gq, 0, none⟩)]] w fun e w' => e = .returned (.int .i64 (-1)) ∧ Below w.heap.size w w' := by
  rcases Nat.eq_zero_or_pos n with h | h
  · refine (idxc_nil w h).mono ?_
    rintro e w' ⟨rfl, rfl⟩
    exact ⟨rfl, Below.refl _ _⟩
  · obtain ⟨g, o, rfl⟩ := en.place h
    exact idxc_none_pos w hkb en hn hN
set_option linter.unusedVariables false in
set_option linter.unusedSimpArgs false in
set_option maxRecDepth 100000 in
set_option maxHeartbeats 16000000 in
theorem delc_some {gq : Nat} {lo gE n c k : Nat} {kp : Int} {l : List Mp} {x : Mp} (w : World) (hlo : lo ≤ w.heap.size) (hkb : w.heap[gq]? = some (.cells #[.int .i64 kp] 3 (0, 0))) (hown : w.ownsRow lo 31 9 (.slice (some ⟨gE, 0, none⟩) n c) n (l.flatMap mpE)) (hn : n ≤ 1000) (hx : l[k]? = some x) (hg : clrB kp x = true) (hN : ∀ j e, j < k → l[j]? = some e → clrB kp e = false) : Calls Try.prog 45 #[.slice (some ⟨gE, 0, none⟩) n c, .func (.func 43) #[] #[.pointer (some ⟨gq, 0, none⟩)]] w fun e w' => ∃ i, e = .returned (.slice (some ⟨gE, 0, none⟩) i c) ∧ w'.ownsRow lo 31 9 (.slice (some ⟨gE, 0, none⟩) i c) i ((l.filter (fun e => !clrB kp e)).flatMap mpE) ∧ w.grownBy w' (some gE) := by
  have own := hown
  clear hown
  have off_kb := ofs_type own hkb (by decide)
  have en := (owk_sle (by decide) mpE_len own).1
  have HLL := Lib.hid (row_len (by decide) mpE_len own)
  have HCAP := Lib.hid (row_cap own)
  have HKN : Hid (k + 1 ≤ n) := Lib.hid (by have := (List.getElem?_eq_some_iff.1 hx).1; have h_ := HLL.out; omega)
  have HF0 : Hid (l.take k = (l.take (k + 1)).filter (fun e => !clrB kp e)) := Lib.hid (by rw [mfilt_skip hx (by show (!_) = _; rw [hg]; rfl)]; exact mfilt_first (fun j e h1 h2 => by show (!_) = _; rw [hN j e h1 h2]; rfl))
  have hn0 : (n : Int) ≤ 1000 := by omega
  have hne : ((k : Int) == -1) = false := beq_eq_false_iff_ne.2 (by omega)
  have k0 : (0 : Int) ≤ k := by omega
  have k1 : (k : Int) < n := by have := HKN.out; omega
  have HN := Lib.hid hn
  have HXI := Lib.hid hx
  have HGI := Lib.hid hg
  have HNI := Lib.hid hN
  have grw := World.grownBy.refl w (some gE)
  clear hn hx hg hN
  have bel := Below.refl lo w
  go_enter Try.func45, Try.ntmps45
  go_wp2_with fail
  have H1000 := HN.out
  with_reducible refine (idxc_some _ hkb en H1000 HXI.out HGI.out HNI.out).mono ?_
  rintro e w1 ⟨rfl, b1⟩
  replace hkb := blk_u hkb b1
  replace en := en.below b1
  replace own := owk_under own b1
  replace grw := grw.trans (grown_of_below b1)
  replace bel := bel.trans (b1.mono (Nat.le_trans hlo bel.size))
  clear b1
  clear H1000
  go_wp2_with fail
  go_loopg [6, 5] (n - (k + 1)) (fun gk s6 s5 wr => ∃ j : Nat, ∃ i : Nat, ∃ cur : List Mp, gk = n - j ∧ i < j ∧ j ≤ n ∧ Hid (cur.length = n) ∧ Hid (cur.take i = (l.take j).filter (fun e => !clrB kp e)) ∧ Hid (cur.drop j = l.drop j) ∧ wr.ownsRow lo 31 9 (.slice (some ⟨gE, 0, none⟩) n c) n (cur.flatMap mpE) ∧ w.grownBy wr (some gE) ∧ s6 = .int .i64 (j : Int) ∧ s5 = .int .i64 (i : Int) ∧ wr.heap[gq]? = some (.cells #[.int .i64 kp] 3 (0, 0)) ∧ Sle mpE 9 wr (some ⟨gE, 0, none⟩) (n) (c) (cur) ∧ Below lo w wr)
  case atStart => exact ⟨k + 1, k, l, rfl, Nat.lt_succ_self k, HKN.out, HLL, HF0, Lib.hid rfl, own, grw, by go_num, rfl, hkb, en, bel⟩
  case round =>
    clear own grw hkb en bel
    obtain ⟨j, i, cur, HGK, hij, hjn, HCL, HCT, HCD, own, grw, rfl, rfl, hkb, en, bel⟩ := hrel
    have HGK_ := Lib.hid HGK
    clear HGK
    by_cases h : j < n
    rotate_left
    · obtain rfl : j = n := by omega
      replace h : decide (j < j) = false := decide_eq_false (by omega)
      obtain ⟨q, hq⟩ : ∃ q, i + q = j := ⟨j - i, by omega⟩
      have HQ := Lib.hid hq
      have HQ0 : Hid (0 < q) := Lib.hid (by omega)
      have r38 := fun W => mp_back gE j c i (by omega) (by have := HCAP.out; omega) W
      rw [show j - i = q by omega] at r38
      have r41 := fun W => mp_front gE j c i (by have := HCAP.out; omega) W
      clear hq
      have R38 := r38
      go_wp2_with (first | ((with_reducible show wpList _ _ _ (⟨none, Op.call _, _, _, _, _⟩ :: _) _ _); refine wpList_clear_row rfl (.tmp 38) 37 31 rfl (.agg #[.int .i64 0, .int .i64 0, .int .u8 0, .int .u8 0, .int .u8 0, .int .u8 0, .int .i64 0, .int .i64 0, .int .i64 0]) Try.underlying37 mp_zero mp_zs mp_z1 _ HQ.out own HQ0.out _ rfl ?_; intro w90 own_ gw; replace grw := grw.trans gw; clear bel own gw hkb en; have own := own_; clear own_; have R41 := r41))
      try clear R38
      try clear R41
      go_ret
      exact ⟨i, rfl, by rw [← flat_take mpE_len, HCT.out, List.take_of_length_le (Nat.le_of_eq HLL.out)] at own; exact own, grw⟩
    have HX0 := mdrop_head HCD.out
    obtain ⟨e, hx⟩ : ∃ e, l[j]? = some e := ⟨_, List.getElem?_eq_getElem (by have := HLL.out; omega)⟩
    have HXL := Lib.hid hx
    have HX : Hid (cur[j]? = some e) := Lib.hid (HX0.trans hx)
    obtain ⟨xi, hxi⟩ : ∃ xi, cur[i]? = some xi := ⟨_, List.getElem?_eq_getElem (by have := HCL.out; omega)⟩
    have HXI2 := Lib.hid hxi
    have j0 : (0 : Int) ≤ j := by omega
    have j1 : (j : Int) < n := by omega
    have i0_ : (0 : Int) ≤ i := by omega
    have i1_ : (i : Int) < n := by omega
    clear hx HX0 hxi
    rcases hb : clrB kp e with _ | _
    rotate_left
    · have HG := Lib.hid hb
      clear hb
      have HKE : Hid ((fun e => !clrB kp e) e = false) := Lib.hid (by show (!_) = _; rw [HG.out]; rfl)
      have R25 := Lib.hid (Sle.zrange0 en HX.out 9 [.int .i64 e.pr, .int .i64 e.o, .int .u8 (e.ad.a.toNat : Int), .int .u8 (e.ad.b.toNat : Int), .int .u8 (e.ad.c.toNat : Int), .int .u8 (e.ad.d.toNat : Int), .int .i64 e.i, .int .i64 e.k, .int .i64 e.u] rfl)
      go_wp2_with (first | ((with_reducible show wpList _ _ _ (⟨some 25, _, _, _, _, _⟩ :: _) _ _); refine wpList_load_rng 31 (.tmp 24) rfl (by kernel_rfl) _ _ rfl _ R25.out _ Try.underlying31 rfl (by kernel_rfl) ?_) | ((with_reducible show wpList _ _ _ (⟨some 7, _, _, _, _, _⟩ :: _) _ _); refine wpList_new_a rfl 31 rfl #[.int .i64 0, .int .i64 0, .int .u8 0, .int .u8 0, .int .u8 0, .int .u8 0, .int .i64 0, .int .i64 0, .int .i64 0] (by kernel_rfl) ?_; intro g7 w2 ge hh bb; have d_kb_vb := ne_new (hlt hkb) ge; have av_en_vb := en.av_new ge; have ovb := Nat.le_trans (Nat.le_trans hlo bel.size) ge; have off_vb := owk_new own ge; have pv_vb := Nat.le_trans grw.size ge; replace hkb := blk_u hkb bb; replace en := en.below bb; replace own := owk_under own bb; replace grw := grw.trans (grown_of_below bb); replace bel := bel.trans (bb.mono (Nat.le_trans hlo bel.size)); have hvb := hh; clear hh ge bb) | ((with_reducible show wpList _ _ _ (⟨none, Op.store _ (.tmp 7) _, _, _, _, _⟩ :: _) _ _); refine wpList_store_blk rfl 31 (.tmp 7) (.tmp 25) rfl g7 rfl _ rfl _ 31 hvb (by rfl) (by kernel_rfl) (by kernel_rfl) ?_; intro w3 hq gr; replace en := en.away av_en_vb gr; replace hkb := blk_a hkb gr d_kb_vb; replace own := owk_off own off_vb gr; replace grw := gk_new grw pv_vb gr; replace bel := below_grown bel gr ovb (Nat.le_trans hlo bel.size); clear hvb; have hvb := hq; clear hq gr; have R27 := Lib.hid (range_lit hvb 0 9 [.int .i64 e.pr, .int .i64 e.o, .int .u8 (e.ad.a.toNat : Int), .int .u8 (e.ad.b.toNat : Int), .int .u8 (e.ad.c.toNat : Int), .int .u8 (e.ad.d.toNat : Int), .int .i64 e.i, .int .i64 e.k, .int .i64 e.u] rfl)) | ((with_reducible show wpList _ _ _ (⟨some 27, _, _, _, _, _⟩ :: _) _ _); refine wpList_load_rng 31 (.tmp 7) rfl (by kernel_rfl) _ _ rfl _ R27.out _ Try.underlying31 rfl (by kernel_rfl) ?_))
      try clear R25
      try clear R27
      with_reducible refine (clf_c e _ hkb).mono ?_
      rintro e w4 ⟨rfl, b4⟩
      replace hkb := blk_u hkb b4
      replace hvb := blk_u hvb b4
      replace en := en.below b4
      replace own := owk_under own b4
      replace grw := grw.trans (grown_of_below b4)
      replace bel := bel.trans (b4.mono (Nat.le_trans hlo bel.size))
      clear b4
      rw [HG.out]
      go_wp2_with fail
      go_roundg (n - (j + 1))
      case measure => have := HGK_.out; omega
      case rel => exact ⟨j + 1, i, cur, rfl, by omega, by omega, HCL, Lib.hid (by rw [mfilt_skip HXL.out HKE.out]; exact HCT.out), Lib.hid (mdrop_more HCD.out), own, grw, by go_num, by go_num, hkb, en, bel⟩
    have HG := Lib.hid hb
    clear hb
    have HKE : Hid ((fun e => !clrB kp e) e = true) := Lib.hid (by show (!_) = _; rw [HG.out]; rfl)
    have R25 := Lib.hid (Sle.zrange0 en HX.out 9 [.int .i64 e.pr, .int .i64 e.o, .int .u8 (e.ad.a.toNat : Int), .int .u8 (e.ad.b.toNat : Int), .int .u8 (e.ad.c.toNat : Int), .int .u8 (e.ad.d.toNat : Int), .int .i64 e.i, .int .i64 e.k, .int .i64 e.u] rfl)
    go_wp2_with (first | ((with_reducible show wpList _ _ _ (⟨some 25, _, _, _, _, _⟩ :: _) _ _); refine wpList_load_rng 31 (.tmp 24) rfl (by kernel_rfl) _ _ rfl _ R25.out _ Try.underlying31 rfl (by kernel_rfl) ?_) | ((with_reducible show wpList _ _ _ (⟨some 7, _, _, _, _, _⟩ :: _) _ _); refine wpList_new_a rfl 31 rfl #[.int .i64 0, .int .i64 0, .int .u8 0, .int .u8 0, .int .u8 0, .int .u8 0, .int .i64 0, .int .i64 0, .int .i64 0] (by kernel_rfl) ?_; intro g7 w2 ge hh bb; have d_kb_vb := ne_new (hlt hkb) ge; have av_en_vb := en.av_new ge; have ovb := Nat.le_trans (Nat.le_trans hlo bel.size) ge; have off_vb := owk_new own ge; have pv_vb := Nat.le_trans grw.size ge; replace hkb := blk_u hkb bb; replace en := en.below bb; replace own := owk_under own bb; replace grw := grw.trans (grown_of_below bb); replace bel := bel.trans (bb.mono (Nat.le_trans hlo bel.size)); have hvb := hh; clear hh ge bb) | ((with_reducible show wpList _ _ _ (⟨none, Op.store _ (.tmp 7) _, _, _, _, _⟩ :: _) _ _); refine wpList_store_blk rfl 31 (.tmp 7) (.tmp 25) rfl g7 rfl _ rfl _ 31 hvb (by rfl) (by kernel_rfl) (by kernel_rfl) ?_; intro w3 hq gr; replace en := en.away av_en_vb gr; replace hkb := blk_a hkb gr d_kb_vb; replace own := owk_off own off_vb gr; replace grw := gk_new grw pv_vb gr; replace bel := below_grown bel gr ovb (Nat.le_trans hlo bel.size); clear hvb; have hvb := hq; clear hq gr; have R27 := Lib.hid (range_lit hvb 0 9 [.int .i64 e.pr, .int .i64 e.o, .int .u8 (e.ad.a.toNat : Int), .int .u8 (e.ad.b.toNat : Int), .int .u8 (e.ad.c.toNat : Int), .int .u8 (e.ad.d.toNat : Int), .int .i64 e.i, .int .i64 e.k, .int .i64 e.u] rfl)) | ((with_reducible show wpList _ _ _ (⟨some 27, _, _, _, _, _⟩ :: _) _ _); refine wpList_load_rng 31 (.tmp 7) rfl (by kernel_rfl) _ _ rfl _ R27.out _ Try.underlying31 rfl (by kernel_rfl) ?_))
    try clear R25
    try clear R27
    with_reducible refine (clf_c e _ hkb).mono ?_
    rintro e w4 ⟨rfl, b4⟩
    replace hkb := blk_u hkb b4
    replace hvb := blk_u hvb b4
    replace en := en.below b4
    replace own := owk_under own b4
    replace grw := grw.trans (grown_of_below b4)
    replace bel := bel.trans (b4.mono (Nat.le_trans hlo bel.size))
    clear b4
    rw [HG.out]
    have R32 := Lib.hid (range_lit hvb 0 9 [.int .i64 e.pr, .int .i64 e.o, .int .u8 (e.ad.a.toNat : Int), .int .u8 (e.ad.b.toNat : Int), .int .u8 (e.ad.c.toNat : Int), .int .u8 (e.ad.d.toNat : Int), .int .i64 e.i, .int .i64 e.k, .int .i64 e.u] rfl)
    go_wp2_with (first | ((with_reducible show wpList _ _ _ (⟨some 32, _, _, _, _, _⟩ :: _) _ _); refine wpList_load_rng 31 (.tmp 7) rfl (by kernel_rfl) _ _ rfl _ R32.out _ Try.underlying31 rfl (by kernel_rfl) ?_) | ((with_reducible show wpList _ _ _ (⟨none, Op.store _ (.tmp 33) _, _, _, _, _⟩ :: _) _ _); refine wpList_store_el rfl 31 (.tmp 33) (.tmp 32) rfl gE i 0 xi e rfl [.int .i64 e.pr, .int .i64 e.o, .int .u8 (e.ad.a.toNat : Int), .int .u8 (e.ad.b.toNat : Int), .int .u8 (e.ad.c.toNat : Int), .int .u8 (e.ad.d.toNat : Int), .int .i64 e.i, .int .i64 e.k, .int .i64 e.u] rfl (by decide) mpE_len own HXI2.out (Nat.le_of_ble_eq_true rfl) rfl (by kernel_rfl) (by rfl) ?_; intro w5 own_ gw; replace bel := bel.trans (row_bel gw own (Nat.le_trans hlo bel.size)); replace hkb := blk_own (v := .slice (some ⟨gE, 0, none⟩) n c) hkb gw off_kb; replace hvb := blk_own (v := .slice (some ⟨gE, 0, none⟩) n c) hvb gw off_vb; replace grw := grw.trans gw; clear own; have own := own_; clear own_ gw; replace en := (owk_sle (by decide) mpE_len own).1))
    try clear R32
    go_roundg (n - (j + 1))
    case measure => have := HGK_.out; omega
    case rel => exact ⟨j + 1, i + 1, cur.set i e, rfl, by omega, by omega, Lib.hid (by rw [List.length_set]; exact HCL.out), Lib.hid (by rw [mtake_set_next (by have := HCL.out; omega), mfilt_keep HXL.out HKE.out, HCT.out]), Lib.hid (by rw [mdrop_set_next (by omega)]; exact mdrop_more HCD.out), own, grw, by go_num, by go_num, hkb, en, bel⟩
set_option linter.unusedVariables false in
set_option linter.unusedSimpArgs false in
set_option maxRecDepth 100000 in
set_option maxHeartbeats 16000000 in
theorem delc_none {gq : Nat} {n c : Nat} {A2 : Option Addr} {kp : Int} {l : List Mp} (w : World) (hkb : w.heap[gq]? = some (.cells #[.int .i64 kp] 3 (0, 0))) (en : Sle mpE 9 w A2 n c l) (hn : n ≤ 1000) (hN : ∀ e ∈ l, clrB kp e = false) : Calls Try.prog 45 #[.slice A2 n c, .func (.func 43) #[] #[.pointer (some ⟨gq, 0, none⟩)]] w fun e w' => e = .returned (.slice A2 n c) ∧ Below w.heap.size w w' := by
  have bel := Below.refl w.heap.size w
  go_enter Try.func45, Try.ntmps45
  go_wp2_with fail
  with_reducible refine (idxc_none _ hkb en hn hN).mono ?_
  rintro e w1 ⟨rfl, b1⟩
  replace hkb := blk_u hkb b1
  replace en := en.below b1
  replace bel := bel.trans (b1.mono bel.size)
  clear b1
  go_wp2_with fail
  go_ret
  exact ⟨rfl, bel⟩
theorem delc_any {gq : Nat} {lo n c : Nat} {A2 : Option Addr} {kp : Int} {l : List Mp} (w : World) (hlo : lo ≤ w.heap.size) (hkb : w.heap[gq]? = some (.cells #[.int .i64 kp] 3 (0, 0))) (hown : w.ownsRow lo 31 9 (.slice A2 n c) n (l.flatMap mpE)) (hn : n ≤ 1000) : Calls Try.prog 45 #[.slice A2 n c, .func (.func 43) #[] #[.pointer (some ⟨gq, 0, none⟩)]] w fun e w' => ∃ n3, e = .returned (.slice A2 n3 c) ∧ w'.ownsRow lo 31 9 (.slice A2 n3 c) n3 ((l.filter (fun e => !clrB kp e)).flatMap mpE) ∧ w.grownBy w' (Value.ownBlock (.slice A2 n c)) ∧ (∀ q, q < w.heap.size → Ofs (.slice A2 n c) q → Ofs (.slice A2 n3 c) q) := by
  rcases mfirst_of (clrB kp) l with h | ⟨k, x, h1, h2, h3⟩
  · refine (delc_none w hkb (owk_sle (by decide) mpE_len hown).1 hn h).mono ?_
    rintro e w' ⟨rfl, bel⟩
    refine ⟨n, rfl, ?_, grown_of_below bel, fun _ _ h => h⟩
    rw [show l.filter (fun e => !clrB kp e) = l from List.filter_eq_self.2 (fun e he => by show (!_) = _; rw [h e he]; rfl)]
    exact owk_under hown bel
  · obtain ⟨gE, rfl, _⟩ := row_at hown (by have := (List.getElem?_eq_some_iff.1 h1).1; have h_ := row_len (by decide) mpE_len hown; omega)
    refine (delc_some w hlo hkb hown hn h1 h2 h3).mono ?_
    rintro e w' ⟨i, rfl, h4, h5⟩
    exact ⟨i, rfl, h4, h5, fun _ _ h => h⟩
end Go.Proofs.Ytmjmjfcdblapcaa
