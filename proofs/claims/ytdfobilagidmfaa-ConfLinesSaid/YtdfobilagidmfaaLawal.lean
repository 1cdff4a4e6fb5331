/- ConfLines: the first line that has no form is told, whatever stands ahead and behind. -/
import Derived.Test.YtdfobilagidmfaaLawab
namespace Go.Proofs.Ytdfobilagidmfaa
open Go.RowKit

theorem i64_and3 (n : Int) : bits .and .i64 n 3 = n % 4 := by
  have hm : (BitVec.ofInt 64 3).toNat = 2 ^ 2 - 1 := by decide
  have key : (BitVec.ofInt 64 n &&& BitVec.ofInt 64 3).toNat = (n % ((2 ^ 64 : Nat) : Int)).toNat % 2 ^ 2 := by
    rw [BitVec.toNat_and, BitVec.toNat_ofInt, hm, Nat.and_two_pow_sub_one_eq_mod]
  show IntKind.i64.wrap ((BitVec.ofInt 64 n &&& BitVec.ofInt 64 3).toNat : Nat) = n % 4
  rw [key, IntKind.wrap_i64]
  omega
/-- Lines that are skipped. -/
def blankL (j : Nat) : List UInt8 := if j % 3 = 0 then [] else if j % 3 = 1 then [35, 32, 120] else [32, 9]
def blks (i : Nat) : List (List UInt8) := (List.range i).map blankL
def blk10 (r : Nat) : List UInt8 := if r = 0 then [10] else if r = 1 then [35, 32, 120, 10] else [32, 9, 10]
theorem blk10_is (j : Nat) : blankL j ++ [10] = blk10 (j % 3) := by unfold blankL blk10; split <;> (try split) <;> rfl
theorem txt_blks (i : Nat) : txt (blks (i + 1)) = txt (blks i) ++ blk10 (i % 3) := by
  unfold blks
  rw [List.range_succ, List.map_append, txt_append, ← blk10_is]
  unfold txt
  simp
theorem blank_skip (j : Nat) : skipL (blankL j) = true ∧ (∀ c ∈ blankL j, c ≠ 10) ∧ (blankL j).length ≤ 12 := by
  unfold blankL
  split
  · decide
  · split <;> decide
theorem txt_len {k : Nat} : ∀ {ls : List (List UInt8)}, (∀ l ∈ ls, l.length ≤ k) → (txt ls).length ≤ (k + 1) * ls.length
  | [], _ => by simp [txt]
  | l :: ls, h => by
    have h1 := h l (by simp)
    have h2 := txt_len (ls := ls) (fun x hx => h x (by simp [hx]))
    have e : txt (l :: ls) = l ++ [10] ++ txt ls := by unfold txt; rw [List.flatMap_cons]
    rw [e]
    simp only [List.length_append, List.length_cons, List.length_nil]
    rw [Nat.mul_succ]
    omega
def badLs : List (List UInt8) := [[120], [116, 105, 109, 101], [116, 105, 109, 101, 32, 61, 32], [116, 105, 109, 101, 32, 61, 32, 54, 48, 32, 55, 48]]
def whatL : List UInt8 := [119, 104, 97, 116]
theorem bad_facts : ∀ b ∈ badLs, lineE [] b = 9 ∧ (∀ c ∈ b, c ≠ 10) ∧ b.length ≤ 12 := by
  intro b hb
  simp only [badLs, List.mem_cons, List.not_mem_nil, or_false] at hb
  rcases hb with rfl | rfl | rfl | rfl <;> exact ⟨by kernel_rfl, by decide, by decide⟩
theorem lines_law {n m : Nat} {b : List UInt8} (hb : b ∈ badLs) (hn : n ≤ 300) (hm : m ≤ 90) : parseS (txt (blks n ++ b :: List.replicate m whatL)) = (zeroC, (n : Int) + 1, 9) ∧ (txt (blks n ++ b :: List.replicate m whatL)).length ≤ 10000 := by
  obtain ⟨h9, h10, h12⟩ := bad_facts b hb
  have hlen : (blks n ++ b :: List.replicate m whatL).length = n + (m + 1) := by simp [blks]
  have hall : ∀ l ∈ blks n ++ b :: List.replicate m whatL, (∀ c ∈ l, c ≠ 10) ∧ l.length ≤ 12 := by
    intro l hl
    rcases List.mem_append.1 hl with h | h
    · obtain ⟨j, _, rfl⟩ := List.mem_map.1 h
      exact (blank_skip j).2
    · rcases List.mem_cons.1 h with rfl | h
      · exact ⟨h10, h12⟩
      · rw [List.eq_of_mem_replicate h]; decide
  have hl := lines_txt (fun l h => (hall l h).1)
  have htl := txt_len (fun l h => (hall l h).2)
  rw [hlen] at htl
  refine ⟨?_, by omega⟩
  unfold parseS
  rw [if_neg (by omega), hl, if_neg (by omega), run_skip (fun l h => by obtain ⟨j, _, rfl⟩ := List.mem_map.1 h; exact (blank_skip j).1), runL, if_neg (by rw [h9]; decide), h9]
  simp [blks]
set_option linter.unusedVariables false in
set_option linter.unusedSimpArgs false in
set_option maxRecDepth 100000 in
set_option maxHeartbeats 16000000 in
theorem confLines_walk (a b how : Int) (w : World) : Calls Try.prog 6 #[.int .i64 a, .int .i64 b, .int .i64 how] w fun e w' => e = .returned (.bool true) ∧ Below w.heap.size w w' := by
  have bel := Below.refl w.heap.size w
  go_enter Try.func6, Try.ntmps6
  go_wp2_with fail
  with_reducible refine (awake_any _).mono ?_
  rintro e w1 ⟨rfl, b1⟩
  replace bel := bel.trans (b1.mono bel.size)
  clear b1
  by_cases c0 : a < 0
  · go_wp2_with fail
    go_ret
    exact ⟨rfl, bel⟩
  · have c0_ : decide (a < 0) = false := decide_eq_false c0
    by_cases c1 : 300 < a
    · go_wp2_with fail
      go_ret
      exact ⟨rfl, bel⟩
    · have c1_ : decide (300 < a) = false := decide_eq_false c1
      by_cases c2 : b < 0
      · go_wp2_with fail
        go_ret
        exact ⟨rfl, bel⟩
      · have c2_ : decide (b < 0) = false := decide_eq_false c2
        by_cases c3 : 90 < b
        · go_wp2_with fail
          go_ret
          exact ⟨rfl, bel⟩
        · have c3_ : decide (90 < b) = false := decide_eq_false c3
          obtain ⟨n, hn⟩ : ∃ n : Nat, a = (n : Int) := ⟨a.toNat, by omega⟩
          obtain ⟨m, hm⟩ : ∃ m : Nat, b = (m : Int) := ⟨b.toNat, by omega⟩
          subst hn
          subst hm
          go_wp2_with fail
          go_loopg [7, 8] (n + 1) (fun gk s7 s8 wr => ∃ i : Nat, ∃ tx : List UInt8, gk = n + 1 - i ∧ i ≤ n ∧ Hid (tx = txt (blks i)) ∧ tx.length ≤ 4 * i ∧ s7 = .string ⟨(tx).toArray⟩ ∧ s8 = .int .i64 (i : Int) ∧ Below w.heap.size w wr)
          case atStart => exact ⟨0, [], rfl, Nat.zero_le _, Lib.hid rfl, Nat.zero_le _, rfl, rfl, bel⟩
          case round =>
            clear bel
            obtain ⟨i, tx, HGK, hi, HT, htl, rfl, rfl, bel⟩ := hrel
            have HGK_ := Lib.hid HGK
            clear HGK
            have i0 : (0 : Int) ≤ i := by omega
            have i1 : (i : Int) ≤ 300 := by omega
            by_cases hi2 : i < n
            · obtain ⟨r, hr⟩ : ∃ r : Nat, i % 3 = r := ⟨_, rfl⟩
              have hr3 : r < 3 := by omega
              have r0 : (0 : Int) ≤ r := by omega
              have r1 : (r : Int) < 3 := by omega
              have ht : (i : Int).tmod 3 = (r : Int) := by rw [Int.tmod_eq_emod_of_nonneg (by omega)]; omega
              obtain ⟨bd, hbd⟩ : ∃ bd, ([[10], [35, 32, 120, 10], [32, 9, 10]] : List (List UInt8))[r]? = some bd := ⟨_, List.getElem?_eq_getElem hr3⟩
              have hb10 : blk10 r = bd := by rcases (by omega : r = 0 ∨ r = 1 ∨ r = 2) with rfl | rfl | rfl <;> exact Option.some.inj hbd
              have hbl : bd.length ≤ 4 := by rw [← hb10]; rcases (by omega : r = 0 ∨ r = 1 ∨ r = 2) with rfl | rfl | rfl <;> decide
              obtain ⟨ty, hty⟩ : ∃ ty, tx ++ bd = ty := ⟨_, rfl⟩
              have HTY := Lib.hid hty
              have htyl : ty.length ≤ 4 * (i + 1) := by rw [← hty, List.length_append]; omega
              have HX := Lib.hid hbd
              have HT2 : Hid (ty = txt (blks (i + 1))) := Lib.hid (by rw [txt_blks, hr, hb10, ← HT.out, hty])
              have hcat : Hid (tx.length + bd.length ≤ 8388608) := Lib.hid (by omega)
              clear hbd hb10 hty hr
              go_wp2_with (first | ((with_reducible show wpList _ _ _ (⟨some 35, _, _, _, _, _⟩ :: _) _ _); refine wpList_lit_n rfl 47 9 3 _ rfl #[.string ⟨#[10]⟩, .string ⟨#[35, 32, 120, 10]⟩, .string ⟨#[32, 9, 10]⟩] (.string ⟨#[]⟩) Try.underlying47 (by kernel_rfl) 1 (by kernel_rfl) (by decide) (by kernel_rfl) ?_; intro g35 w2 ge lt hh bb; have ob35 := Nat.le_trans bel.size ge; replace bel := bel.trans (bb.mono bel.size); have hb35 := hh; clear hh lt ge bb; have l3 : Sle stf 1 w2 (some ⟨g35, 0, none⟩) (3) (3) ([[10], [35, 32, 120, 10], [32, 9, 10]]) := sle_lit ([[10], [35, 32, 120, 10], [32, 9, 10]]) (by decide) stf_len hb35 rfl (by simp [maxLen]); have R39 := (by have h_ := Sle.st (i := r) l3 HX.out; rw [Nat.zero_add] at h_; exact h_); have R40 := fun W => st_cat HTY.out hcat.out W))
              try clear R39
              try clear R40
              go_roundg (n + 1 - (i + 1))
              case measure => have := HGK_.out; omega
              case rel => exact ⟨i + 1, ty, rfl, by omega, HT2, htyl, by go_num, by go_num, bel⟩
            · have hie : i = n := by omega
              subst hie
              have hi3 : decide (i < i) = false := decide_eq_false hi2
              obtain ⟨r, hr⟩ : ∃ r : Nat, how % 4 = (r : Int) := ⟨(how % 4).toNat, by omega⟩
              have hr4 : r < 4 := by omega
              have r0 : (0 : Int) ≤ r := by omega
              have r1 : (r : Int) < 4 := by omega
              have ha : bits .and .i64 how 3 = (r : Int) := by rw [i64_and3, hr]
              obtain ⟨bd, hbd⟩ : ∃ bd, badLs[r]? = some bd := ⟨_, List.getElem?_eq_getElem hr4⟩
              have HM := Lib.hid (List.mem_of_getElem? hbd)
              have HX := Lib.hid hbd
              have hbl := (bad_facts bd HM.out).2.2
              obtain ⟨ty, hty⟩ : ∃ ty, tx ++ bd = ty := ⟨_, rfl⟩
              obtain ⟨tz, htz⟩ : ∃ tz, ty ++ [10] = tz := ⟨_, rfl⟩
              have HTY := Lib.hid hty
              have HTZ := Lib.hid htz
              have hcat : Hid (tx.length + bd.length ≤ 8388608) := Lib.hid (by omega)
              have hcat2 : Hid (ty.length + [10].length ≤ 8388608) := Lib.hid (by rw [← hty]; simp; omega)
              have HZ : Hid (tz = txt (blks i ++ bd :: List.replicate 0 whatL)) := Lib.hid (by rw [← htz, ← hty, HT.out, txt_append]; unfold txt; simp)
              have hzl : tz.length ≤ 1213 := by rw [← htz, ← hty]; simp; omega
              clear hr hbd hty htz
              go_wp2_with (first | ((with_reducible show wpList _ _ _ (⟨some 42, _, _, _, _, _⟩ :: _) _ _); refine wpList_lit_n rfl 47 9 4 _ rfl #[.string ⟨#[120]⟩, .string ⟨#[116, 105, 109, 101]⟩, .string ⟨#[116, 105, 109, 101, 32, 61, 32]⟩, .string ⟨#[116, 105, 109, 101, 32, 61, 32, 54, 48, 32, 55, 48]⟩] (.string ⟨#[]⟩) Try.underlying47 (by kernel_rfl) 1 (by kernel_rfl) (by decide) (by kernel_rfl) ?_; intro g42 w2 ge lt hh bb; have ob42 := Nat.le_trans bel.size ge; replace bel := bel.trans (bb.mono bel.size); have hb42 := hh; clear hh lt ge bb; have l4 : Sle stf 1 w2 (some ⟨g42, 0, none⟩) (4) (4) (badLs) := sle_lit badLs (by decide) stf_len hb42 rfl (by simp [maxLen]); have R46 := (by have h_ := Sle.st (i := r) l4 HX.out; rw [Nat.zero_add] at h_; exact h_); have R47 := fun W => st_cat HTY.out hcat.out W; have R48 := fun W => st_cat HTZ.out hcat2.out W))
              try clear R46
              try clear R47
              try clear R48
              go_loopg [7, 9] (m + 1) (fun gk s7 s9 wr => ∃ j : Nat, ∃ ta : List UInt8, gk = m + 1 - j ∧ j ≤ m ∧ Hid (ta = txt (blks i ++ bd :: List.replicate j whatL)) ∧ ta.length ≤ 1213 + 5 * j ∧ s7 = .string ⟨(ta).toArray⟩ ∧ s9 = .int .i64 (j : Int) ∧ wr.heap[g42]? = some (.cells #[.string ⟨#[120]⟩, .string ⟨#[116, 105, 109, 101]⟩, .string ⟨#[116, 105, 109, 101, 32, 61, 32]⟩, .string ⟨#[116, 105, 109, 101, 32, 61, 32, 54, 48, 32, 55, 48]⟩] 9 (0, 0)) ∧ Sle stf 1 wr (some ⟨g42, 0, none⟩) (4) (4) (badLs) ∧ Below w.heap.size w wr)
              case atStart => exact ⟨0, tz, rfl, Nat.zero_le _, HZ, hzl, rfl, rfl, hb42, l4, bel⟩
              case round =>
                clear hb42 l4 bel
                obtain ⟨j, ta, HGK, hj, HA, hal, rfl, rfl, hb42, l4, bel⟩ := hrel
                have HGK_ := Lib.hid HGK
                clear HGK
                have j0 : (0 : Int) ≤ j := by omega
                have j1 : (j : Int) ≤ 90 := by omega
                by_cases hj2 : j < m
                · obtain ⟨tb, htb⟩ : ∃ tb, ta ++ [119, 104, 97, 116, 10] = tb := ⟨_, rfl⟩
                  have HTB := Lib.hid htb
                  have hcat3 : Hid (ta.length + [119, 104, 97, 116, 10].length ≤ 8388608) := Lib.hid (by simp; omega)
                  have hbl2 : tb.length ≤ 1213 + 5 * (j + 1) := by rw [← htb]; simp; omega
                  have HB2 : Hid (tb = txt (blks i ++ bd :: List.replicate (j + 1) whatL)) := Lib.hid (by rw [← htb, HA.out, List.replicate_succ', ← List.cons_append, ← List.append_assoc, txt_append (blks i ++ bd :: List.replicate j whatL)]; rfl)
                  clear htb
                  have R55 := fun W => st_cat HTB.out hcat3.out W
                  go_wp2_with fail
                  clear R55
                  go_roundg (m + 1 - (j + 1))
                  case measure => have := HGK_.out; omega
                  case rel => exact ⟨j + 1, tb, rfl, by omega, HB2, hbl2, by go_num, by go_num, hb42, l4, bel⟩
                · have hje : j = m := by omega
                  subst hje
                  have hj3 : decide (j < j) = false := decide_eq_false hj2
                  have HL := Lib.hid (lines_law HM.out (n := i) (m := j) (by omega) (by omega))
                  have HPS : Hid (parseS ta = (zeroC, (i : Int) + 1, 9)) := Lib.hid (by rw [HA.out]; exact HL.out.1)
                  have HTL : Hid (ta.length ≤ 1000000) := Lib.hid (by omega)
                  go_wp2_with fail
                  with_reducible refine (cparse_is HPS.out HTL.out _).mono ?_
                  rintro e w3 ⟨Fx, nf, cf, Ox, nx, cx, rfl, hf, ho, frF, frO, b3⟩
                  replace hb42 := blk_u hb42 b3
                  replace l4 := l4.below b3
                  replace bel := bel.trans (b3.mono bel.size)
                  clear b3
                  clear hf ho frF frO
                  go_wp2_with (first | ((with_reducible show wpList _ _ _ (⟨some 10, _, _, _, _, _⟩ :: _) _ _); refine wpList_new_a rfl 32 rfl #[.int .u8 0, .int .u8 0, .int .u8 0, .int .u8 0, .int .u8 0, .int .u8 0, .int .u8 0, .int .u8 0, .int .i64 0, .int .u8 0, .int .u8 0, .int .u8 0, .int .u8 0, .int .u8 0, .int .u8 0, .int .u8 0, .int .u8 0, .int .u8 0, .int .u8 0, .int .u8 0, .int .u8 0, .int .u8 0, .int .u8 0, .int .u8 0, .int .u8 0, .int .u8 0, .int .u8 0, .int .u8 0, .int .u8 0, .int .i64 0, .int .u8 0, .int .u8 0, .int .u8 0, .int .u8 0, .int .i64 0, .int .i64 0, .int .i64 0, .int .i64 0, .slice none 0 0, .slice none 0 0] (by kernel_rfl) ?_; intro g10 w4 ge hh bb; have d_b42_ca := ne_new (hlt hb42) ge; have av_l4_ca := l4.av_new ge; have oca := Nat.le_trans bel.size ge; replace hb42 := blk_u hb42 bb; replace l4 := l4.below bb; replace bel := bel.trans (bb.mono bel.size); have hca := hh; clear hh ge bb) | ((with_reducible show wpList _ _ _ (⟨none, Op.store _ (.tmp 10) _, _, _, _, _⟩ :: _) _ _); refine wpList_store_blk rfl 32 (.tmp 10) (.tmp 59) rfl g10 rfl _ rfl _ 32 hca (by rfl) (by kernel_rfl) (by kernel_rfl) ?_; intro w5 hq gr; replace l4 := l4.away av_l4_ca gr; replace hb42 := blk_a hb42 gr d_b42_ca; replace bel := below_grown bel gr oca bel.size; clear hca; have hca := hq; clear hq gr))
                  go_ret
                  exact ⟨rfl, bel⟩
end Go.Proofs.Ytdfobilagidmfaa
