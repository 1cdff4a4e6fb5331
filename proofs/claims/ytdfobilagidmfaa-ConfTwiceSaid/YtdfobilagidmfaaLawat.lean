/- ConfTwice: a name that was there is refused at its second line; open may be there often. -/
import Derived.Test.YtdfobilagidmfaaCgf
namespace Go.Proofs.Ytdfobilagidmfaa
open Go.RowKit

def twLs : List (List UInt8) := [[116, 105, 109, 101, 32, 61, 32, 54, 48], [100, 110, 115, 32, 61, 32, 49, 46, 49, 46, 49, 46, 49], [108, 111, 119, 61, 51, 48, 48, 48, 48], [108, 97, 110, 32, 61, 32, 49, 57, 50, 46, 49, 54, 56, 46, 49, 46, 49, 47, 50, 52], [108, 97, 110, 109, 97, 99, 32, 61, 32, 48, 50, 58, 48, 48, 58, 48, 48, 58, 48, 48, 58, 48, 48, 58, 48, 97], [102, 105, 114, 115, 116, 32, 61, 32, 49, 57, 50, 46, 49, 54, 56, 46, 49, 46, 49, 50, 48]]
def opnL (i : Nat) : List UInt8 := [111, 112, 101, 110, 32, 61, 32, 117, 100, 112, 32] ++ decT (100 + i) ++ [32, 49, 57, 50, 46, 49, 54, 56, 46, 49, 46, 57, 32, 56, 48]
def opV (i : Nat) : Int × Int × Ad4 × Int := (17, ((100 + i : Nat) : Int), ⟨192, 168, 1, 9⟩, 80)
theorem opn_words {n : Nat} (h : n < 1000000000) : wordsL ([32, 117, 100, 112, 32] ++ decT n ++ [32, 49, 57, 50, 46, 49, 54, 56, 46, 49, 46, 57, 32, 56, 48]) = [[117, 100, 112], decT n, [49, 57, 50, 46, 49, 54, 56, 46, 49, 46, 57], [56, 48]] := by
  have hd := decT_digits 8 n (by omega)
  have hp := decT_pos n
  have hb : ∀ c ∈ decT n, isBl c = false := fun c hc => by
    have := hd c hc
    rw [← blN_u8]; unfold blN; simp only [Bool.or_eq_false_iff, beq_eq_false_iff_ne]; omega
  have e := words_free (decT n) [32, 49, 57, 50, 46, 49, 54, 56, 46, 49, 46, 57, 32, 56, 48] [] hb
  rw [List.nil_append] at e
  unfold wordsL
  rw [List.append_assoc]
  show [117, 100, 112] :: wordsGo (decT n ++ [32, 49, 57, 50, 46, 49, 54, 56, 46, 49, 46, 57, 32, 56, 48]) [] = _
  rw [e, wordsGo, if_pos (by decide), if_neg (by intro h0; rw [h0] at hp; simp at hp)]
  rfl
theorem opn_line {i : Nat} (h : 100 + i < 1000000000) (c : Cf) (ns : List (List UInt8)) : lineE ns (opnL i) = 0 ∧ lineC c (opnL i) = { c with opens := c.opens ++ [opV i] } ∧ lineN ns (opnL i) = ns := by
  obtain ⟨_, h2, h3⟩ := digits_word h
  have hsk : skipL (opnL i) = false := by unfold opnL; rw [List.append_assoc]; exact skip_name (c := 111) (s := [112, 101, 110, 32, 61, 32, 117, 100, 112, 32]) (by decide) (by decide)
  have hcut : cut1 61 (opnL i) = some ([111, 112, 101, 110, 32], [32, 117, 100, 112, 32] ++ decT (100 + i) ++ [32, 49, 57, 50, 46, 49, 54, 56, 46, 49, 46, 57, 32, 56, 48]) := by
    unfold opnL
    exact cut1_name (x := [111, 112, 101, 110, 32]) (v := [32, 117, 100, 112, 32] ++ decT (100 + i) ++ [32, 49, 57, 50, 46, 49, 54, 56, 46, 49, 46, 57, 32, 56, 48]) (by decide)
  have ho : onlyW [111, 112, 101, 110, 32] = some [111, 112, 101, 110] := by decide
  have hw := opn_words h
  have hE : openE ([32, 117, 100, 112, 32] ++ decT (100 + i) ++ [32, 49, 57, 50, 46, 49, 54, 56, 46, 49, 46, 57, 32, 56, 48]) = true := by
    unfold openE
    rw [hw]
    show ((protoK [117, 100, 112]).isSome && (decOk (decT (100 + i)) && (p4ok [49, 57, 50, 46, 49, 54, 56, 46, 49, 46, 57] && decOk [56, 48]))) = true
    rw [show decOk (decT (100 + i)) = true from h2]
    kernel_rfl
  refine ⟨?_, ?_, ?_⟩
  · unfold lineE
    rw [if_neg (by rw [hsk]; decide), hcut]
    simp only [ho]
    rw [if_neg (by decide), if_pos (by decide), hE]
    rfl
  · unfold lineC
    rw [if_neg (by rw [hsk]; decide), hcut]
    simp only [ho]
    rw [if_neg (by decide), if_pos (by decide)]
    unfold Cf.addO
    rw [hw]
    show { c with opens := c.opens ++ [((protoK [117, 100, 112]).getD 0, decV (decT (100 + i)), p4 [49, 57, 50, 46, 49, 54, 56, 46, 49, 46, 57], decV [56, 48])] } = _
    rw [h3]
    kernel_rfl
  · unfold lineN
    rw [if_neg (by rw [hsk]; decide), hcut]
    simp only [ho]
    rw [if_neg (by decide), if_pos (by decide)]
theorem run_opens {ns : List (List UInt8)} {ls : List (List UInt8)} : ∀ (is : List Nat) (c : Cf) (j : Nat), (∀ i ∈ is, 100 + i < 1000000000) → runL c ns (is.map opnL ++ ls) j = runL { c with opens := c.opens ++ is.map opV } ns ls (j + is.length)
  | [], c, j, _ => by simp
  | i :: is, c, j, h => by
    obtain ⟨h1, h2, h3⟩ := opn_line (h i (by simp)) c ns
    rw [List.map_cons, List.cons_append, runL, if_pos h1, h2, h3, run_opens is _ _ (fun x hx => h x (by simp [hx]))]
    simp only [List.map_cons, List.length_cons, List.append_assoc, List.singleton_append]
    congr 1
    omega
def ownN (b : List UInt8) : List UInt8 := ((lineN [] b).getD 0 [])
theorem tw_facts : ∀ b ∈ twLs, lineE [] b = 0 ∧ lineN [] b = [ownN b] ∧ lineE [ownN b] b = 8 ∧ (∀ X, ((lineC { usualC with opens := X } b).fill [ownN b]).opens = X) ∧ (∀ c ∈ b, c ≠ 10) ∧ b.length ≤ 40 := by
  intro b hb
  simp only [twLs, List.mem_cons, List.not_mem_nil, or_false] at hb
  rcases hb with rfl | rfl | rfl | rfl | rfl | rfl <;> exact ⟨by kernel_rfl, by kernel_rfl, by kernel_rfl, fun X => by kernel_rfl, by decide, by decide⟩
def twC (n : Nat) (b : List UInt8) : Cf := (lineC { usualC with opens := (List.range n).map opV } b).fill [ownN b]
theorem tw_check : ∀ b ∈ twLs, ∀ n < 31, (twC n b).check = true := by decide +kernel
theorem range_lt {n i : Nat} (hn : n ≤ 30) (h : i ∈ List.range n) : 100 + i < 1000000000 := by have := List.mem_range.1 h; omega
theorem opn_free {i : Nat} (h : i ≤ 30) : (∀ c ∈ opnL i, c ≠ 10) ∧ (opnL i).length ≤ 40 := by
  have hd := decT_digits 8 (100 + i) (by omega)
  have hl := decT_len 8 (100 + i) (by omega)
  unfold opnL
  refine ⟨fun c hc => ?_, by simp; omega⟩
  rcases List.mem_append.1 hc with hc | hc
  · rcases List.mem_append.1 hc with hc | hc
    · exact (by decide : ∀ c ∈ ([111, 112, 101, 110, 32, 61, 32, 117, 100, 112, 32] : List UInt8), c ≠ 10) c hc
    · intro e; have := hd c hc; rw [e] at this; simp at this
  · exact (by decide : ∀ c ∈ ([32, 49, 57, 50, 46, 49, 54, 56, 46, 49, 46, 57, 32, 56, 48] : List UInt8), c ≠ 10) c hc
theorem txt_wrap (b : List UInt8) (xs : List (List UInt8)) : txt (b :: (xs ++ [b])) = b ++ [10] ++ txt xs ++ (b ++ [10]) := by
  rw [show b :: (xs ++ [b]) = [b] ++ (xs ++ [b]) from rfl, txt_append, txt_append]
  unfold txt
  simp
theorem txt_last (b : List UInt8) (xs : List (List UInt8)) : txt (xs ++ [b]) = txt xs ++ (b ++ [10]) := by
  rw [txt_append]
  unfold txt
  simp
def opns (n : Nat) : List (List UInt8) := (List.range n).map opnL
theorem txt_opns (i : Nat) : txt (opns (i + 1)) = txt (opns i) ++ [111, 112, 101, 110, 32, 61, 32, 117, 100, 112, 32] ++ decT (100 + i) ++ [32, 49, 57, 50, 46, 49, 54, 56, 46, 49, 46, 57, 32, 56, 48, 10] := by
  unfold opns
  rw [List.range_succ, List.map_append, txt_append]
  unfold txt opnL
  simp
theorem twice_law {n : Nat} {b : List UInt8} (hb : b ∈ twLs) (hn : n ≤ 30) : parseS (txt (b :: (opns n ++ [b]))) = (zeroC, (n : Int) + 2, 8) ∧ parseS (txt (opns n ++ [b])) = (twC n b, 0, 0) ∧ (twC n b).opens.length = n := by
  obtain ⟨h1, h2, h3, h4, h5, h6⟩ := tw_facts b hb
  have hall : ∀ l ∈ opns n ++ [b], (∀ c ∈ l, c ≠ 10) ∧ l.length ≤ 40 := by
    intro l hl
    rcases List.mem_append.1 hl with h | h
    · obtain ⟨j, hj, rfl⟩ := List.mem_map.1 h
      exact opn_free (by have := List.mem_range.1 hj; omega)
    · rw [List.mem_singleton.1 h]; exact ⟨h5, h6⟩
  have hall2 : ∀ l ∈ b :: (opns n ++ [b]), (∀ c ∈ l, c ≠ 10) ∧ l.length ≤ 40 := by
    intro l hl
    rcases List.mem_cons.1 hl with rfl | h
    · exact ⟨h5, h6⟩
    · exact hall l h
  have hlen : (opns n ++ [b]).length = n + 1 := by simp [opns]
  have htl := txt_len (fun l h => (hall l h).2)
  have htl2 := txt_len (fun l h => (hall2 l h).2)
  rw [List.length_cons] at htl2
  rw [hlen] at htl htl2
  have hr1 : runL usualC [] (b :: (opns n ++ [b])) 0 = .error (n + 2, 8) := by
    rw [runL, if_pos h1, h2]
    unfold opns
    rw [run_opens _ _ _ (fun i hi => range_lt hn hi), runL, if_neg (by rw [h3]; decide), h3, List.length_range]
    congr 2
    omega
  have hr2 : runL usualC [] (opns n ++ [b]) 0 = .ok (lineC { usualC with opens := (List.range n).map opV } b, [ownN b]) := by
    unfold opns
    rw [run_opens _ _ _ (fun i hi => range_lt hn hi)]
    show runL { usualC with opens := (List.range n).map opV } [] [b] _ = _
    rw [runL, if_pos h1, h2, runL]
  have hck := tw_check b hb n (by omega)
  refine ⟨?_, ?_, ?_⟩
  · unfold parseS
    rw [if_neg (by omega), lines_txt (fun l h => (hall2 l h).1), if_neg (by rw [List.length_cons, hlen]; omega), hr1]
    simp
  · unfold parseS
    rw [if_neg (by omega), lines_txt (fun l h => (hall l h).1), if_neg (by rw [hlen]; omega), hr2]
    unfold twC at hck
    simp only [hck]
    rfl
  · unfold twC
    rw [h4]
    simp
set_option linter.unusedVariables false in
set_option linter.unusedSimpArgs false in
set_option maxRecDepth 100000 in
set_option maxHeartbeats 16000000 in
theorem confTwice_walk (a b : Int) (w : World) : Calls Try.prog 7 #[.int .i64 a, .int .i64 b] w fun e w' => e = .returned (.bool true) ∧ Below w.heap.size w w' := by
  have bel := Below.refl w.heap.size w
  go_enter Try.func7, Try.ntmps7
  go_wp2_with fail
  with_reducible refine (awake_any _).mono ?_
  rintro e w1 ⟨rfl, b1⟩
  replace bel := bel.trans (b1.mono bel.size)
  clear b1
  by_cases c0 : a < 0
  · go_wp2_with fail
    go_ret
    exact ⟨rfl, bel⟩
  · have c0_ : decide (a < 0) = false := decide_eq_false c0
    by_cases c1 : 5 < a
    · go_wp2_with fail
      go_ret
      exact ⟨rfl, bel⟩
    · have c1_ : decide (5 < a) = false := decide_eq_false c1
      by_cases c2 : b < 1
      · go_wp2_with fail
        go_ret
        exact ⟨rfl, bel⟩
      · have c2_ : decide (b < 1) = false := decide_eq_false c2
        by_cases c3 : 30 < b
        · go_wp2_with fail
          go_ret
          exact ⟨rfl, bel⟩
        · have c3_ : decide (30 < b) = false := decide_eq_false c3
          obtain ⟨r, hr⟩ : ∃ r : Nat, a = (r : Int) := ⟨a.toNat, by omega⟩
          subst hr
          have hr6 : r < 6 := by omega
          have r0 : (0 : Int) ≤ r := by omega
          have r1 : (r : Int) < 6 := by omega
          obtain ⟨n, hn⟩ : ∃ n : Nat, b = (n : Int) := ⟨b.toNat, by omega⟩
          subst hn
          obtain ⟨bd, hbd⟩ : ∃ bd, twLs[r]? = some bd := ⟨_, List.getElem?_eq_getElem hr6⟩
          have HM := Lib.hid (List.mem_of_getElem? hbd)
          have HX := Lib.hid hbd
          have hbl := (tw_facts bd HM.out).2.2.2.2.2
          obtain ⟨ld, hld⟩ : ∃ z, bd ++ [10] = z := ⟨_, rfl⟩
          have HLD := Lib.hid hld
          have BLD : Hid (bd.length + [10].length ≤ 8388608) := Lib.hid (by simp; omega)
          have hldl : ld.length ≤ 41 := by rw [← hld]; simp; omega
          clear hbd hld
          go_wp2_with (first | ((with_reducible show wpList _ _ _ (⟨some 30, _, _, _, _, _⟩ :: _) _ _); refine wpList_lit_n rfl 47 9 6 _ rfl #[.string ⟨#[116, 105, 109, 101, 32, 61, 32, 54, 48]⟩, .string ⟨#[100, 110, 115, 32, 61, 32, 49, 46, 49, 46, 49, 46, 49]⟩, .string ⟨#[108, 111, 119, 61, 51, 48, 48, 48, 48]⟩, .string ⟨#[108, 97, 110, 32, 61, 32, 49, 57, 50, 46, 49, 54, 56, 46, 49, 46, 49, 47, 50, 52]⟩, .string ⟨#[108, 97, 110, 109, 97, 99, 32, 61, 32, 48, 50, 58, 48, 48, 58, 48, 48, 58, 48, 48, 58, 48, 48, 58, 48, 97]⟩, .string ⟨#[102, 105, 114, 115, 116, 32, 61, 32, 49, 57, 50, 46, 49, 54, 56, 46, 49, 46, 49, 50, 48]⟩] (.string ⟨#[]⟩) Try.underlying47 (by kernel_rfl) 1 (by kernel_rfl) (by decide) (by kernel_rfl) ?_; intro g30 w2 ge lt hh bb; have ob30 := Nat.le_trans bel.size ge; replace bel := bel.trans (bb.mono bel.size); have hb30 := hh; clear hh lt ge bb; have l6 : Sle stf 1 w2 (some ⟨g30, 0, none⟩) (6) (6) (twLs) := sle_lit twLs (by decide) stf_len hb30 rfl (by simp [maxLen]); have R33 := (by have h_ := Sle.st (i := r) l6 HX.out; rw [Nat.zero_add] at h_; exact h_); have R34 := fun W => st_cat HLD.out BLD.out W))
          try clear R33
          try clear R34
          go_loopg [6, 7] (n + 1) (fun gk s6 s7 wr => ∃ i : Nat, ∃ tx : List UInt8, gk = n + 1 - i ∧ i ≤ n ∧ Hid (tx = txt (opns i)) ∧ tx.length ≤ 60 * i ∧ s6 = .string ⟨(tx).toArray⟩ ∧ s7 = .int .i64 (i : Int) ∧ wr.heap[g30]? = some (.cells #[.string ⟨#[116, 105, 109, 101, 32, 61, 32, 54, 48]⟩, .string ⟨#[100, 110, 115, 32, 61, 32, 49, 46, 49, 46, 49, 46, 49]⟩, .string ⟨#[108, 111, 119, 61, 51, 48, 48, 48, 48]⟩, .string ⟨#[108, 97, 110, 32, 61, 32, 49, 57, 50, 46, 49, 54, 56, 46, 49, 46, 49, 47, 50, 52]⟩, .string ⟨#[108, 97, 110, 109, 97, 99, 32, 61, 32, 48, 50, 58, 48, 48, 58, 48, 48, 58, 48, 48, 58, 48, 48, 58, 48, 97]⟩, .string ⟨#[102, 105, 114, 115, 116, 32, 61, 32, 49, 57, 50, 46, 49, 54, 56, 46, 49, 46, 49, 50, 48]⟩] 9 (0, 0)) ∧ Sle stf 1 wr (some ⟨g30, 0, none⟩) (6) (6) (twLs) ∧ Below w.heap.size w wr)
          case atStart => exact ⟨0, [], rfl, Nat.zero_le _, Lib.hid rfl, Nat.zero_le _, rfl, rfl, hb30, l6, bel⟩
          case round =>
            clear hb30 l6 bel
            obtain ⟨i, tx, HGK, hi, HT, htl, rfl, rfl, hb30, l6, bel⟩ := hrel
            have HGK_ := Lib.hid HGK
            clear HGK
            have i0 : (0 : Int) ≤ i := by omega
            have i1 : (i : Int) ≤ 30 := by omega
            by_cases hi2 : i < n
            · obtain ⟨ta, hta⟩ : ∃ z, tx ++ [111, 112, 101, 110, 32, 61, 32, 117, 100, 112, 32] = z := ⟨_, rfl⟩
              have HTA := Lib.hid hta
              have BTA : Hid (tx.length + [111, 112, 101, 110, 32, 61, 32, 117, 100, 112, 32].length ≤ 8388608) := Lib.hid (by simp; omega)
              obtain ⟨dg, hdg⟩ : ∃ z, decT (100 + i) = z := ⟨_, rfl⟩
              have HDG := Lib.hid hdg
              have hdl : dg.length ≤ 9 := by rw [← hdg]; exact decT_len 8 (100 + i) (by omega)
              have htal : ta.length ≤ 60 * i + 11 := by rw [← hta]; simp; omega
              obtain ⟨tb, htb⟩ : ∃ z, ta ++ dg = z := ⟨_, rfl⟩
              have HTB := Lib.hid htb
              have BTB : Hid (ta.length + dg.length ≤ 8388608) := Lib.hid (by omega)
              have htbl : tb.length ≤ 60 * i + 20 := by rw [← htb]; simp; omega
              obtain ⟨tc, htc⟩ : ∃ z, tb ++ [32, 49, 57, 50, 46, 49, 54, 56, 46, 49, 46, 57, 32, 56, 48, 10] = z := ⟨_, rfl⟩
              have HTC := Lib.hid htc
              have BTC : Hid (tb.length + [32, 49, 57, 50, 46, 49, 54, 56, 46, 49, 46, 57, 32, 56, 48, 10].length ≤ 8388608) := Lib.hid (by simp; omega)
              have htcl : tc.length ≤ 60 * (i + 1) := by rw [← htc]; simp; omega
              have HT2 : Hid (tc = txt (opns (i + 1))) := Lib.hid (by rw [txt_opns, ← HT.out, ← htc, ← htb, ← hta, hdg])
              have HV : Hid ((100 : Int) + (i : Int) = ((100 + i : Nat) : Int)) := Lib.hid (by omega)
              have h9 : 100 + i < 1000000000 := by omega
              clear hta htb htc hdg
              have R41 := fun W => st_cat HTA.out BTA.out W
              go_wp2_with fail
              clear R41
              with_reducible refine (rtext_v HV.out h9 _).mono ?_
              rintro e w3 ⟨rfl, b3⟩
              replace hb30 := blk_u hb30 b3
              replace l6 := l6.below b3
              replace bel := bel.trans (b3.mono bel.size)
              clear b3
              rw [HDG.out]
              have R45 := fun W => st_cat HTB.out BTB.out W
              have R46 := fun W => st_cat HTC.out BTC.out W
              go_wp2_with fail
              clear R45 R46
              go_roundg (n + 1 - (i + 1))
              case measure => have := HGK_.out; omega
              case rel => exact ⟨i + 1, tc, rfl, by omega, HT2, htcl, by go_num, by go_num, hb30, l6, bel⟩
            · have hie : i = n := by omega
              subst hie
              have hi3 : decide (i < i) = false := decide_eq_false hi2
              obtain ⟨ua, hua⟩ : ∃ z, ld ++ tx = z := ⟨_, rfl⟩
              have HUA := Lib.hid hua
              have BUA : Hid (ld.length + tx.length ≤ 8388608) := Lib.hid (by omega)
              have hual : ua.length ≤ 1900 := by rw [← hua]; simp; omega
              obtain ⟨ub, hub⟩ : ∃ z, ua ++ ld = z := ⟨_, rfl⟩
              have HUB := Lib.hid hub
              have BUB : Hid (ua.length + ld.length ≤ 8388608) := Lib.hid (by omega)
              obtain ⟨uc, huc⟩ : ∃ z, tx ++ ld = z := ⟨_, rfl⟩
              have HUC := Lib.hid huc
              have BUC : Hid (tx.length + ld.length ≤ 8388608) := Lib.hid (by omega)
              have HL := Lib.hid (twice_law HM.out (n := i) (by omega))
              have HPA : Hid (parseS ub = (zeroC, (i : Int) + 2, 8)) := Lib.hid (by rw [← HL.out.1]; congr 1; rw [← hub, ← hua, HT.out, ← HLD.out]; exact (txt_wrap _ _).symm)
              have HPB : Hid (parseS uc = (twC i bd, 0, 0)) := Lib.hid (by rw [← HL.out.2.1]; congr 1; rw [← huc, HT.out, ← HLD.out]; exact (txt_last _ _).symm)
              have HLA : Hid (ub.length ≤ 1000000) := Lib.hid (by rw [← hub]; simp; omega)
              have HLB : Hid (uc.length ≤ 1000000) := Lib.hid (by rw [← huc]; simp; omega)
              clear hua hub huc
              have R50 := fun W => st_cat HUA.out BUA.out W
              have R52 := fun W => st_cat HUB.out BUB.out W
              go_wp2_with fail
              clear R50 R52
              with_reducible refine (cparse_is HPA.out HLA.out _).mono ?_
              rintro e w3 ⟨Fx, nf, cf, Ox, nx, cx, rfl, hf, ho, frF, frO, b3⟩
              replace hb30 := blk_u hb30 b3
              replace l6 := l6.below b3
              replace bel := bel.trans (b3.mono bel.size)
              clear b3
              clear hf ho frF frO
              go_wp2_with (first | ((with_reducible show wpList _ _ _ (⟨some 8, _, _, _, _, _⟩ :: _) _ _); refine wpList_new_a rfl 32 rfl #[.int .u8 0, .int .u8 0, .int .u8 0, .int .u8 0, .int .u8 0, .int .u8 0, .int .u8 0, .int .u8 0, .int .i64 0, .int .u8 0, .int .u8 0, .int .u8 0, .int .u8 0, .int .u8 0, .int .u8 0, .int .u8 0, .int .u8 0, .int .u8 0, .int .u8 0, .int .u8 0, .int .u8 0, .int .u8 0, .int .u8 0, .int .u8 0, .int .u8 0, .int .u8 0, .int .u8 0, .int .u8 0, .int .u8 0, .int .i64 0, .int .u8 0, .int .u8 0, .int .u8 0, .int .u8 0, .int .i64 0, .int .i64 0, .int .i64 0, .int .i64 0, .slice none 0 0, .slice none 0 0] (by kernel_rfl) ?_; intro g8 w4 ge hh bb; have d_b30_ca := ne_new (hlt hb30) ge; have av_l6_ca := l6.av_new ge; have oca := Nat.le_trans bel.size ge; replace hb30 := blk_u hb30 bb; replace l6 := l6.below bb; replace bel := bel.trans (bb.mono bel.size); have hca := hh; clear hh ge bb) | ((with_reducible show wpList _ _ _ (⟨none, Op.store _ (.tmp 8) _, _, _, _, _⟩ :: _) _ _); refine wpList_store_blk rfl 32 (.tmp 8) (.tmp 54) rfl g8 rfl _ rfl _ 32 hca (by rfl) (by kernel_rfl) (by kernel_rfl) ?_; intro w5 hq gr; replace l6 := l6.away av_l6_ca gr; replace hb30 := blk_a hb30 gr d_b30_ca; replace bel := below_grown bel gr oca bel.size; clear hca; have hca := hq; clear hq gr; have R60 := fun W => st_cat HUC.out BUC.out W))
              try clear R60
              with_reducible refine (cparse_is HPB.out HLB.out _).mono ?_
              rintro e w6 ⟨Fy, ng, cg, Oy, ny, cy, rfl, hf, ho, frF, frO, b6⟩
              replace hb30 := blk_u hb30 b6
              replace hca := blk_u hca b6
              replace l6 := l6.below b6
              replace bel := bel.trans (b6.mono bel.size)
              clear b6
              obtain rfl : i = ny := by rw [← ho.1]; exact HL.out.2.2.symm
              obtain ⟨cc, hcc⟩ : ∃ z, twC i bd = z := ⟨_, rfl⟩
              rw [hcc]
              clear hf ho frF frO hcc HL HPB
              go_wp2_with (first | ((with_reducible show wpList _ _ _ (⟨some 11, _, _, _, _, _⟩ :: _) _ _); refine wpList_new_a rfl 32 rfl #[.int .u8 0, .int .u8 0, .int .u8 0, .int .u8 0, .int .u8 0, .int .u8 0, .int .u8 0, .int .u8 0, .int .i64 0, .int .u8 0, .int .u8 0, .int .u8 0, .int .u8 0, .int .u8 0, .int .u8 0, .int .u8 0, .int .u8 0, .int .u8 0, .int .u8 0, .int .u8 0, .int .u8 0, .int .u8 0, .int .u8 0, .int .u8 0, .int .u8 0, .int .u8 0, .int .u8 0, .int .u8 0, .int .u8 0, .int .i64 0, .int .u8 0, .int .u8 0, .int .u8 0, .int .u8 0, .int .i64 0, .int .i64 0, .int .i64 0, .int .i64 0, .slice none 0 0, .slice none 0 0] (by kernel_rfl) ?_; intro g11 w7 ge hh bb; have d_b30_cb := ne_new (hlt hb30) ge; have d_ca_cb := ne_new (hlt hca) ge; have av_l6_cb := l6.av_new ge; have ocb := Nat.le_trans bel.size ge; replace hb30 := blk_u hb30 bb; replace hca := blk_u hca bb; replace l6 := l6.below bb; replace bel := bel.trans (bb.mono bel.size); have hcb := hh; clear hh ge bb) | ((with_reducible show wpList _ _ _ (⟨none, Op.store _ (.tmp 11) _, _, _, _, _⟩ :: _) _ _); refine wpList_store_blk rfl 32 (.tmp 11) (.tmp 62) rfl g11 rfl _ rfl _ 32 hcb (by rfl) (by kernel_rfl) (by kernel_rfl) ?_; intro w8 hq gr; replace l6 := l6.away av_l6_cb gr; replace hb30 := blk_a hb30 gr d_b30_cb; replace hca := blk_a hca gr d_ca_cb; replace bel := below_grown bel gr ocb bel.size; clear hcb; have hcb := hq; clear hq gr; have R83 := cell_lit hcb 39 _ rfl))
              try clear R83
              go_ret
              exact ⟨rfl, bel⟩
end Go.Proofs.Ytdfobilagidmfaa
