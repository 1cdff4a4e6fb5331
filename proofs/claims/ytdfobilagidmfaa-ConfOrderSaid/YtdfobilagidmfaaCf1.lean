/- The reference's in, has, number, known, trim, line. -/
import Derived.Test.YtdfobilagidmfaaStr
import Derived.Deep.LoopGhost
namespace Go.Proofs.Ytdfobilagidmfaa
open Go.RowKit

/-- Blanks; a text without those about it. -/
def isBl (c : UInt8) : Bool := c == 32 || c == 9
def trimF (l : List UInt8) : List UInt8 := l.dropWhile isBl
def trimB (l : List UInt8) : List UInt8 := (l.reverse.dropWhile isBl).reverse
def trimL (l : List UInt8) : List UInt8 := trimB (trimF l)
theorem trimB_snoc (l : List UInt8) (x : UInt8) : trimB (l ++ [x]) = if isBl x then trimB l else l ++ [x] := by
  unfold trimB
  rw [List.reverse_append, List.reverse_singleton, List.singleton_append, List.dropWhile_cons]
  split
  · rfl
  · rw [List.reverse_cons, List.reverse_reverse]
def inI (v lo hi : Int) : Bool := decide (lo ≤ v) && decide (v ≤ hi)
set_option maxRecDepth 100000 in
set_option maxHeartbeats 16000000 in
theorem in_any (v lo hi : Int) (w : World) : Calls Try.prog 51 #[.int .i64 v, .int .i64 lo, .int .i64 hi] w fun e w' => e = .returned (.bool (inI v lo hi)) ∧ w = w' := by
  unfold inI
  skip
  go_enter Try.func51, Try.ntmps51
  by_cases h0 : lo ≤ v
  · rw [decide_eq_true h0, Bool.true_and]
    by_cases h1 : v ≤ hi
    · rw [decide_eq_true h1]
      go_wp2_with fail
      go_ret
      exact ⟨rfl, rfl⟩
    · have h2 : decide (v ≤ hi) = false := decide_eq_false h1
      rw [h2]
      clear h1
      go_wp2_with fail
      go_ret
      exact ⟨rfl, rfl⟩
  · have h2 : decide (lo ≤ v) = false := decide_eq_false h0
    rw [h2, Bool.false_and]
    clear h0
    go_wp2_with fail
    go_ret
    exact ⟨rfl, rfl⟩
theorem has_step {ls : List (List UInt8)} {s x : List UInt8} {j : Nat} (hx : ls[j]? = some x) (h : (ls.take j).contains s = false) (he : (x == s) = false) : (ls.take (j + 1)).contains s = false := by
  rw [List.take_add_one, hx]
  simp only [List.contains_eq_mem, List.mem_append, Option.toList_some, List.mem_singleton, decide_eq_false_iff_not] at *
  rintro (h2 | h2)
  · exact h h2
  · subst h2; simp at he
set_option maxRecDepth 100000 in
set_option maxHeartbeats 16000000 in
theorem has_any (A : Option Addr) (n c : Nat) (ls : List (List UInt8)) (s : List UInt8) (w : World) (hl : Sle stf 1 w A n c ls) (hm : n ≤ 100000) : Calls Try.prog 24 #[.slice A n c, .string ⟨s.toArray⟩] w fun e w' => e = .returned (.bool (ls.contains s)) ∧ w = w' := by
  have n0 : (n : Int) ≤ 100000 := by omega
  have bel := Below.refl w.heap.size w
  go_enter Try.func24, Try.ntmps24
  go_wp2_with fail
  go_loopg [5] (n + 1) (fun gk s5 wr => ∃ j : Nat, gk = n + 1 - j ∧ j ≤ n ∧ Hid ((ls.take j).contains s = false) ∧ s5 = .int .i64 (j : Int) ∧ w = wr)
  case atStart => exact ⟨0, rfl, Nat.zero_le _, Lib.hid rfl, rfl, rfl⟩
  case round =>
    obtain ⟨j, HGK, hj, HN, rfl, rfl⟩ := hrel
    have HGK_ := Lib.hid HGK
    clear HGK
    have j0 : (0 : Int) ≤ j := by omega
    by_cases hlt : j < n
    · obtain ⟨g, o, rfl⟩ := hl.place (by omega)
      have hjl : j < ls.length := by rw [hl.1]; exact hlt
      obtain ⟨x, hx⟩ : ∃ x, ls[j]? = some x := ⟨_, List.getElem?_eq_getElem hjl⟩
      have HX := Lib.hid hx
      clear hx
      rcases (by decide : ∀ b : Bool, b = true ∨ b = false) (x == s) with he | he
      · have HC : Hid (ls.contains s = true) := Lib.hid (by rw [List.contains_iff_mem]; have := eq_of_beq he; subst this; exact List.mem_of_getElem? HX.out)
        have R15 := Sle.st (i := j) hl HX.out
        go_wp2_with fail
        clear R15
        go_ret
        exact ⟨by rw [HC.out]; rfl, rfl⟩
      · have HC : Hid ((ls.take (j + 1)).contains s = false) := Lib.hid (has_step HX.out HN.out he)
        have R15 := Sle.st (i := j) hl HX.out
        go_wp2_with fail
        clear R15
        go_roundg (n + 1 - (j + 1))
        case measure => have := HGK_.out; omega
        case rel => exact ⟨j + 1, rfl, by omega, HC, by go_num, rfl⟩
    · obtain rfl : j = n := by omega
      have HC : Hid (ls.contains s = false) := Lib.hid (by have h := HN.out; rw [List.take_of_length_le (by rw [hl.1]; exact Nat.le_refl _)] at h; exact h)
      go_wp2_with fail
      go_ret
      exact ⟨by rw [HC.out]; rfl, rfl⟩
def names5 : List (List UInt8) := [[116, 105, 109, 101], [117, 100, 112, 116, 105, 109, 101], [116, 99, 112, 116, 105, 109, 101], [105, 99, 109, 112, 116, 105, 109, 101], [108, 111, 119]]
def names8 : List (List UInt8) := [[108, 97, 110], [108, 97, 110, 109, 97, 99], [119, 97, 110, 109, 97, 99], [102, 105, 114, 115, 116], [108, 97, 115, 116], [100, 110, 115], [102, 105, 120, 101, 100], [111, 112, 101, 110]]
/-- A text's place among others; -1: it is not there. -/
def posN : List (List UInt8) → List UInt8 → Option Nat
  | [], _ => none
  | x :: l, s => if (x == s) = true then some 0 else (posN l s).map (· + 1)
def posI (ls : List (List UInt8)) (s : List UInt8) : Int := match posN ls s with
  | some i => i
  | none => -1
theorem posN_hit : ∀ {ls : List (List UInt8)} {s x : List UInt8} {j : Nat}, (ls.take j).contains s = false → ls[j]? = some x → (x == s) = true → posN ls s = some j
  | [], s, x, j, _, h, _ => by simp at h
  | y :: l, s, x, 0, _, h, he => by
    obtain rfl : y = x := by simpa using h
    rw [posN, if_pos he]
  | y :: l, s, x, j + 1, hc, h, he => by
    rw [List.take_succ_cons, List.contains_cons, Bool.or_eq_false_iff] at hc
    have hy : ¬ (y == s) = true := by
      intro h2
      have := eq_of_beq h2
      subst this
      simp at hc
    rw [posN, if_neg hy, posN_hit hc.2 (by simpa using h) he]
    rfl
theorem posN_none : ∀ {ls : List (List UInt8)} {s : List UInt8}, ls.contains s = false → posN ls s = none
  | [], _, _ => rfl
  | y :: l, s, hc => by
    rw [List.contains_cons, Bool.or_eq_false_iff] at hc
    have hy : ¬ (y == s) = true := by
      intro h2
      have := eq_of_beq h2
      subst this
      simp at hc
    rw [posN, if_neg hy, posN_none hc.2]
    rfl
theorem contains_none {ls : List (List UInt8)} {s : List UInt8} {n : Nat} (hn : ls.length ≤ n) (h : (ls.take n).contains s = false) : ls.contains s = false := by
  rwa [List.take_of_length_le hn] at h
set_option maxRecDepth 100000 in
set_option maxHeartbeats 16000000 in
theorem number_any' (s : List UInt8) (w : World) : Calls Try.prog 44 #[.string ⟨s.toArray⟩] w fun e w' => e = .returned (.int .i64 (posI names5 s)) ∧ Below w.heap.size w w' := by
  have bel := Below.refl w.heap.size w
  go_enter Try.func44, Try.ntmps44
  go_wp2_with (first | ((with_reducible show wpList _ _ _ (⟨some 5, _, _, _, _, _⟩ :: _) _ _); refine wpList_lit_n rfl 47 9 5 _ rfl #[.string ⟨#[116, 105, 109, 101]⟩, .string ⟨#[117, 100, 112, 116, 105, 109, 101]⟩, .string ⟨#[116, 99, 112, 116, 105, 109, 101]⟩, .string ⟨#[105, 99, 109, 112, 116, 105, 109, 101]⟩, .string ⟨#[108, 111, 119]⟩] (.string ⟨#[]⟩) Try.underlying47 (by kernel_rfl) 1 (by kernel_rfl) (by decide) (by kernel_rfl) ?_; intro g5 w1 ge lt hh bb; have ob5 := Nat.le_trans bel.size ge; replace bel := bel.trans (bb.mono bel.size); have hb5 := hh; clear hh lt ge bb; have hl : Sle stf 1 w1 (some ⟨g5, 0, none⟩) (5) (5) (names5) := sle_lit names5 (by decide) stf_len hb5 rfl (by simp [maxLen])))
  go_loopg [4] (6) (fun gk s4 wr => ∃ j : Nat, gk = 6 - j ∧ j ≤ 5 ∧ Hid ((names5.take j).contains s = false) ∧ s4 = .int .i64 (j : Int) ∧ w1 = wr)
  case atStart => exact ⟨0, rfl, Nat.zero_le _, Lib.hid rfl, rfl, rfl⟩
  case round =>
    obtain ⟨j, HGK, hj, HN, rfl, rfl⟩ := hrel
    have HGK_ := Lib.hid HGK
    clear HGK
    have j0 : (0 : Int) ≤ j := by omega
    by_cases hlt : j < 5
    · have j1 : (j : Int) < 5 := by omega
      obtain ⟨x, hx⟩ : ∃ x, names5[j]? = some x := ⟨_, List.getElem?_eq_getElem hlt⟩
      have HX := Lib.hid hx
      clear hx
      rcases (by decide : ∀ b : Bool, b = true ∨ b = false) (x == s) with he | he
      · have HP : Hid (posI names5 s = (j : Int)) := Lib.hid (by unfold posI; rw [posN_hit HN.out HX.out he])
        have R15 := (by have h_ := Sle.st (i := j) hl HX.out; rw [Nat.zero_add] at h_; exact h_)
        go_wp2_with fail
        clear R15
        go_ret
        exact ⟨by rw [HP.out]; rfl, bel⟩
      · have HC : Hid ((names5.take (j + 1)).contains s = false) := Lib.hid (has_step HX.out HN.out he)
        have R15 := (by have h_ := Sle.st (i := j) hl HX.out; rw [Nat.zero_add] at h_; exact h_)
        go_wp2_with fail
        clear R15
        go_roundg (6 - (j + 1))
        case measure => have := HGK_.out; omega
        case rel => exact ⟨j + 1, rfl, by omega, HC, by go_num, rfl⟩
    · obtain rfl : j = 5 := by omega
      have HC : Hid (names5.contains s = false) := Lib.hid (contains_none (n := 5) (Nat.le_refl _) HN.out)
      have HP : Hid (posI names5 s = -1) := Lib.hid (by unfold posI; rw [posN_none HC.out])
      go_wp2_with fail
      go_ret
      exact ⟨by rw [HP.out]; rfl, bel⟩
def knownB (s : List UInt8) : Bool := names8.contains s || decide (0 ≤ posI names5 s)
theorem known_hit {ls : List (List UInt8)} {s x : List UInt8} {j : Nat} (hx : ls[j]? = some x) (he : (x == s) = true) : ls.contains s = true := by
  rw [List.contains_iff_mem]
  have := eq_of_beq he
  subst this
  exact List.mem_of_getElem? hx
set_option maxRecDepth 100000 in
set_option maxHeartbeats 16000000 in
theorem known_any (s : List UInt8) (w : World) : Calls Try.prog 22 #[.string ⟨s.toArray⟩] w fun e w' => e = .returned (.bool (knownB s)) ∧ Below w.heap.size w w' := by
  have bel := Below.refl w.heap.size w
  go_enter Try.func22, Try.ntmps22
  go_wp2_with (first | ((with_reducible show wpList _ _ _ (⟨some 5, _, _, _, _, _⟩ :: _) _ _); refine wpList_lit_n rfl 47 9 8 _ rfl #[.string ⟨#[108, 97, 110]⟩, .string ⟨#[108, 97, 110, 109, 97, 99]⟩, .string ⟨#[119, 97, 110, 109, 97, 99]⟩, .string ⟨#[102, 105, 114, 115, 116]⟩, .string ⟨#[108, 97, 115, 116]⟩, .string ⟨#[100, 110, 115]⟩, .string ⟨#[102, 105, 120, 101, 100]⟩, .string ⟨#[111, 112, 101, 110]⟩] (.string ⟨#[]⟩) Try.underlying47 (by kernel_rfl) 1 (by kernel_rfl) (by decide) (by kernel_rfl) ?_; intro g5 w1 ge lt hh bb; have ob5 := Nat.le_trans bel.size ge; replace bel := bel.trans (bb.mono bel.size); have hb5 := hh; clear hh lt ge bb; have hl : Sle stf 1 w1 (some ⟨g5, 0, none⟩) (8) (8) (names8) := sle_lit names8 (by decide) stf_len hb5 rfl (by simp [maxLen])))
  go_loopg [4] (9) (fun gk s4 wr => ∃ j : Nat, gk = 9 - j ∧ j ≤ 8 ∧ Hid ((names8.take j).contains s = false) ∧ s4 = .int .i64 (j : Int) ∧ w1 = wr)
  case atStart => exact ⟨0, rfl, Nat.zero_le _, Lib.hid rfl, rfl, rfl⟩
  case round =>
    obtain ⟨j, HGK, hj, HN, rfl, rfl⟩ := hrel
    have HGK_ := Lib.hid HGK
    clear HGK
    have j0 : (0 : Int) ≤ j := by omega
    by_cases hlt : j < 8
    · have j1 : (j : Int) < 8 := by omega
      obtain ⟨x, hx⟩ : ∃ x, names8[j]? = some x := ⟨_, List.getElem?_eq_getElem hlt⟩
      have HX := Lib.hid hx
      clear hx
      rcases (by decide : ∀ b : Bool, b = true ∨ b = false) (x == s) with he | he
      · have HP : Hid (knownB s = true) := Lib.hid (by unfold knownB; rw [known_hit HX.out he]; rfl)
        have R15 := (by have h_ := Sle.st (i := j) hl HX.out; rw [Nat.zero_add] at h_; exact h_)
        go_wp2_with fail
        clear R15
        go_ret
        exact ⟨by rw [HP.out]; rfl, bel⟩
      · have HC : Hid ((names8.take (j + 1)).contains s = false) := Lib.hid (has_step HX.out HN.out he)
        have R15 := (by have h_ := Sle.st (i := j) hl HX.out; rw [Nat.zero_add] at h_; exact h_)
        go_wp2_with fail
        clear R15
        go_roundg (9 - (j + 1))
        case measure => have := HGK_.out; omega
        case rel => exact ⟨j + 1, rfl, by omega, HC, by go_num, rfl⟩
    · obtain rfl : j = 8 := by omega
      have HC : Hid (names8.contains s = false) := Lib.hid (contains_none (n := 8) (Nat.le_refl _) HN.out)
      have HP : Hid (knownB s = decide (0 ≤ posI names5 s)) := Lib.hid (by unfold knownB; rw [HC.out, Bool.false_or])
      go_wp2_with fail
      with_reducible refine (number_any' _ _).mono ?_
      rintro e w2 ⟨rfl, b2⟩
      replace hb5 := blk_u hb5 b2
      replace hl := hl.below b2
      replace bel := bel.trans (b2.mono bel.size)
      clear b2
      generalize posI names5 s = pv at *
      go_wp2_with fail
      go_ret
      exact ⟨by rw [HP.out]; rfl, bel⟩
theorem cons_cases (t : List UInt8) : t = [] ∨ ∃ x r, t = x :: r := by
  rcases t with _ | ⟨x, r⟩
  · exact .inl rfl
  · exact .inr ⟨x, r, rfl⟩
theorem snoc_cases (t : List UInt8) : t = [] ∨ ∃ q x, t = q ++ [x] := by
  rcases List.eq_nil_or_concat t with h | ⟨q, x, h⟩
  · exact .inl h
  · exact .inr ⟨q, x, by rw [h, List.concat_eq_append]⟩
set_option linter.unusedVariables false in
set_option linter.unusedSimpArgs false in
set_option maxRecDepth 100000 in
set_option maxHeartbeats 16000000 in
theorem trim_any (l : List UInt8) (w : World) (hlen : l.length ≤ 100000) : Calls Try.prog 21 #[.string ⟨l.toArray⟩] w fun e w' => e = .returned (.string ⟨(trimL l).toArray⟩) ∧ w = w' := by
  have bel := Below.refl w.heap.size w
  go_enter Try.func21, Try.ntmps21
  go_wp2_with fail
  go_loopg [0] (l.length + 1) (fun gk s0 wr => ∃ t : List UInt8, gk = t.length + 1 ∧ Hid (trimF t = trimF l) ∧ t.length ≤ 100000 ∧ s0 = .string ⟨(t).toArray⟩ ∧ w = wr)
  case atStart => exact ⟨l, rfl, Lib.hid rfl, hlen, rfl, rfl⟩
  case round =>
    obtain ⟨t, HGK, HT, ht, rfl, rfl⟩ := hrel
    have HGK_ := Lib.hid HGK
    clear HGK
    rcases cons_cases t with hn | ⟨x, r, hn⟩
    · have e0 : (t == []) = true := by rw [hn]; rfl
      replace HT : Hid (t = trimF l) := Lib.hid (by have h := HT.out; rw [hn] at h; rw [← h, hn]; rfl)
      clear hn HGK_
      go_wp2_with fail
      go_loopg [0] (t.length + 1) (fun gk s0 wr => ∃ uv : List UInt8, gk = uv.length + 1 ∧ Hid (trimB uv = trimB t) ∧ uv.length ≤ 100000 ∧ s0 = .string ⟨(uv).toArray⟩ ∧ w = wr)
      case atStart => exact ⟨t, rfl, Lib.hid rfl, ht, rfl, rfl⟩
      case round =>
        obtain ⟨uv, HGK, HU, hu, rfl, rfl⟩ := hrel
        have HGK_ := Lib.hid HGK
        clear HGK
        rcases snoc_cases uv with hn | ⟨q, x, hn⟩
        · have e0 : (uv == []) = true := by rw [hn]; rfl
          have HP : Hid (trimL l = []) := Lib.hid (by have h := HU.out; rw [hn] at h; unfold trimL; rw [← HT.out, ← h]; rfl)
          subst hn
          go_wp2_with fail
          go_ret
          exact ⟨by rw [HP.out]; rfl, rfl⟩
        · have e0 : (uv == []) = false := by rw [hn]; simp
          have HU2 := Lib.hid hn
          obtain ⟨m, hm⟩ : ∃ m, q.length = m := ⟨_, rfl⟩
          have HM : Hid (m = q.length) := Lib.hid hm.symm
          have hul : (uv.length : Int) = m + 1 := by rw [hn, ← hm]; simp
          have m0 : (0 : Int) ≤ m := by omega
          have m1 : (m : Int) ≤ 100000 := by have := hu; omega
          clear hn hm
          have v0 : (0 : Int) ≤ x.toNat := by omega
          have v1 : (x.toNat : Int) < 256 := by have := x.toNat_lt; omega
          rcases (by decide : ∀ b : Bool, b = true ∨ b = false) (x == 32) with b1 | b1
          · have hbl : isBl x = true := by unfold isBl; rw [b1]; rfl
            have e1 : ((x.toNat : Int) == 32) = true := by have := congrArg UInt8.toNat (eq_of_beq b1); simp at this; simp; omega
            have R24 := fun W => st_index (l := uv) (i := m) (x := x) (by rw [HU2.out, HM.out]; simp) W
            have R39 := fun W => (st_to (l := uv) (j := m) (by rw [HU2.out, HM.out]; simp) W).trans (by rw [show (uv).take m = q by rw [HU2.out, HM.out]; simp])
            go_wp2_with fail
            clear R24 R39
            go_roundg (q.length + 1)
            case measure => have := HGK_.out; rw [HU2.out] at this; simp at this; omega
            case rel => exact ⟨q, rfl, Lib.hid (by have h := HU.out; rw [HU2.out, trimB_snoc, if_pos hbl] at h; exact h), by have := hu; rw [HU2.out] at this; simp at this; omega, by go_num, rfl⟩
          · have e1 : ((x.toNat : Int) == 32) = false := by have h_ := b1; simp only [beq_eq_false_iff_ne, ne_eq] at h_ ⊢; intro h; apply h_; apply UInt8.toNat_inj.1; simp; omega
            rcases (by decide : ∀ b : Bool, b = true ∨ b = false) (x == 9) with b2 | b2
            · have hbl : isBl x = true := by unfold isBl; rw [b1, b2]; rfl
              have e2 : ((x.toNat : Int) == 9) = true := by have := congrArg UInt8.toNat (eq_of_beq b2); simp at this; simp; omega
              have R24 := fun W => st_index (l := uv) (i := m) (x := x) (by rw [HU2.out, HM.out]; simp) W
              have R31 := fun W => st_index (l := uv) (i := m) (x := x) (by rw [HU2.out, HM.out]; simp) W
              have R39 := fun W => (st_to (l := uv) (j := m) (by rw [HU2.out, HM.out]; simp) W).trans (by rw [show (uv).take m = q by rw [HU2.out, HM.out]; simp])
              go_wp2_with fail
              clear R24 R31 R39
              go_roundg (q.length + 1)
              case measure => have := HGK_.out; rw [HU2.out] at this; simp at this; omega
              case rel => exact ⟨q, rfl, Lib.hid (by have h := HU.out; rw [HU2.out, trimB_snoc, if_pos hbl] at h; exact h), by have := hu; rw [HU2.out] at this; simp at this; omega, by go_num, rfl⟩
            · have hbl : isBl x = false := by unfold isBl; rw [b1, b2]; rfl
              have e2 : ((x.toNat : Int) == 9) = false := by have h_ := b2; simp only [beq_eq_false_iff_ne, ne_eq] at h_ ⊢; intro h; apply h_; apply UInt8.toNat_inj.1; simp; omega
              have HP : Hid (trimL l = uv) := Lib.hid (by have h := HU.out; rw [HU2.out, trimB_snoc, hbl] at h; unfold trimL; rw [← HT.out, ← h, HU2.out]; rfl)
              have R24 := fun W => st_index (l := uv) (i := m) (x := x) (by rw [HU2.out, HM.out]; simp) W
              have R31 := fun W => st_index (l := uv) (i := m) (x := x) (by rw [HU2.out, HM.out]; simp) W
              go_wp2_with fail
              clear R24 R31
              go_ret
              exact ⟨by rw [HP.out]; rfl, rfl⟩
    · have e0 : (t == []) = false := by rw [hn]; simp
      have HT2 := Lib.hid hn
      clear hn
      have v0 : (0 : Int) ≤ x.toNat := by omega
      have v1 : (x.toNat : Int) < 256 := by have := x.toNat_lt; omega
      rcases (by decide : ∀ b : Bool, b = true ∨ b = false) (x == 32) with b1 | b1
      · have hbl : isBl x = true := by unfold isBl; rw [b1]; rfl
        have e1 : ((x.toNat : Int) == 32) = true := by have := congrArg UInt8.toNat (eq_of_beq b1); simp at this; simp; omega
        have R7 := fun W => st_index0 (l := t) (x := x) (by rw [HT2.out]; rfl) W
        have R16 := fun W => st_from1 HT2.out W
        go_wp2_with fail
        clear R7 R16
        go_roundg (r.length + 1)
        case measure => have := HGK_.out; rw [HT2.out] at this; simp at this; omega
        case rel => exact ⟨r, rfl, Lib.hid (by have h := HT.out; rw [HT2.out] at h; rw [← h]; unfold trimF; rw [List.dropWhile_cons, if_pos hbl]), by have := ht; rw [HT2.out] at this; simp at this; omega, by go_num, rfl⟩
      · have e1 : ((x.toNat : Int) == 32) = false := by have h_ := b1; simp only [beq_eq_false_iff_ne, ne_eq] at h_ ⊢; intro h; apply h_; apply UInt8.toNat_inj.1; simp; omega
        rcases (by decide : ∀ b : Bool, b = true ∨ b = false) (x == 9) with b2 | b2
        · have hbl : isBl x = true := by unfold isBl; rw [b1, b2]; rfl
          have e2 : ((x.toNat : Int) == 9) = true := by have := congrArg UInt8.toNat (eq_of_beq b2); simp at this; simp; omega
          have R7 := fun W => st_index0 (l := t) (x := x) (by rw [HT2.out]; rfl) W
          have R11 := fun W => st_index0 (l := t) (x := x) (by rw [HT2.out]; rfl) W
          have R16 := fun W => st_from1 HT2.out W
          go_wp2_with fail
          clear R7 R11 R16
          go_roundg (r.length + 1)
          case measure => have := HGK_.out; rw [HT2.out] at this; simp at this; omega
          case rel => exact ⟨r, rfl, Lib.hid (by have h := HT.out; rw [HT2.out] at h; rw [← h]; unfold trimF; rw [List.dropWhile_cons, if_pos hbl]), by have := ht; rw [HT2.out] at this; simp at this; omega, by go_num, rfl⟩
        · have hbl : ¬ isBl x = true := by unfold isBl; rw [b1, b2]; decide
          have e2 : ((x.toNat : Int) == 9) = false := by have h_ := b2; simp only [beq_eq_false_iff_ne, ne_eq] at h_ ⊢; intro h; apply h_; apply UInt8.toNat_inj.1; simp; omega
          replace HT : Hid (t = trimF l) := Lib.hid (by have h := HT.out; rw [HT2.out] at h; rw [← h, HT2.out]; unfold trimF; rw [List.dropWhile_cons, if_neg hbl])
          have R7 := fun W => st_index0 (l := t) (x := x) (by rw [HT2.out]; rfl) W
          have R11 := fun W => st_index0 (l := t) (x := x) (by rw [HT2.out]; rfl) W
          go_wp2_with fail
          clear R7 R11
          clear hbl b1 b2 v0 v1 e1 e2 HT2 HGK_ e0
          go_loopg [0] (t.length + 1) (fun gk s0 wr => ∃ uv : List UInt8, gk = uv.length + 1 ∧ Hid (trimB uv = trimB t) ∧ uv.length ≤ 100000 ∧ s0 = .string ⟨(uv).toArray⟩ ∧ w = wr)
          case atStart => exact ⟨t, rfl, Lib.hid rfl, ht, rfl, rfl⟩
          case round =>
            obtain ⟨uv, HGK, HU, hu, rfl, rfl⟩ := hrel
            have HGK_ := Lib.hid HGK
            clear HGK
            rcases snoc_cases uv with hn | ⟨q, x, hn⟩
            · have e0 : (uv == []) = true := by rw [hn]; rfl
              have HP : Hid (trimL l = []) := Lib.hid (by have h := HU.out; rw [hn] at h; unfold trimL; rw [← HT.out, ← h]; rfl)
              subst hn
              go_wp2_with fail
              go_ret
              exact ⟨by rw [HP.out]; rfl, rfl⟩
            · have e0 : (uv == []) = false := by rw [hn]; simp
              have HU2 := Lib.hid hn
              obtain ⟨m, hm⟩ : ∃ m, q.length = m := ⟨_, rfl⟩
              have HM : Hid (m = q.length) := Lib.hid hm.symm
              have hul : (uv.length : Int) = m + 1 := by rw [hn, ← hm]; simp
              have m0 : (0 : Int) ≤ m := by omega
              have m1 : (m : Int) ≤ 100000 := by have := hu; omega
              clear hn hm
              have v0 : (0 : Int) ≤ x.toNat := by omega
              have v1 : (x.toNat : Int) < 256 := by have := x.toNat_lt; omega
              rcases (by decide : ∀ b : Bool, b = true ∨ b = false) (x == 32) with b1 | b1
              · have hbl : isBl x = true := by unfold isBl; rw [b1]; rfl
                have e1 : ((x.toNat : Int) == 32) = true := by have := congrArg UInt8.toNat (eq_of_beq b1); simp at this; simp; omega
                have R24 := fun W => st_index (l := uv) (i := m) (x := x) (by rw [HU2.out, HM.out]; simp) W
                have R39 := fun W => (st_to (l := uv) (j := m) (by rw [HU2.out, HM.out]; simp) W).trans (by rw [show (uv).take m = q by rw [HU2.out, HM.out]; simp])
                go_wp2_with fail
                clear R24 R39
                go_roundg (q.length + 1)
                case measure => have := HGK_.out; rw [HU2.out] at this; simp at this; omega
                case rel => exact ⟨q, rfl, Lib.hid (by have h := HU.out; rw [HU2.out, trimB_snoc, if_pos hbl] at h; exact h), by have := hu; rw [HU2.out] at this; simp at this; omega, by go_num, rfl⟩
              · have e1 : ((x.toNat : Int) == 32) = false := by have h_ := b1; simp only [beq_eq_false_iff_ne, ne_eq] at h_ ⊢; intro h; apply h_; apply UInt8.toNat_inj.1; simp; omega
                rcases (by decide : ∀ b : Bool, b = true ∨ b = false) (x == 9) with b2 | b2
                · have hbl : isBl x = true := by unfold isBl; rw [b1, b2]; rfl
                  have e2 : ((x.toNat : Int) == 9) = true := by have := congrArg UInt8.toNat (eq_of_beq b2); simp at this; simp; omega
                  have R24 := fun W => st_index (l := uv) (i := m) (x := x) (by rw [HU2.out, HM.out]; simp) W
                  have R31 := fun W => st_index (l := uv) (i := m) (x := x) (by rw [HU2.out, HM.out]; simp) W
                  have R39 := fun W => (st_to (l := uv) (j := m) (by rw [HU2.out, HM.out]; simp) W).trans (by rw [show (uv).take m = q by rw [HU2.out, HM.out]; simp])
                  go_wp2_with fail
                  clear R24 R31 R39
                  go_roundg (q.length + 1)
                  case measure => have := HGK_.out; rw [HU2.out] at this; simp at this; omega
                  case rel => exact ⟨q, rfl, Lib.hid (by have h := HU.out; rw [HU2.out, trimB_snoc, if_pos hbl] at h; exact h), by have := hu; rw [HU2.out] at this; simp at this; omega, by go_num, rfl⟩
                · have hbl : isBl x = false := by unfold isBl; rw [b1, b2]; rfl
                  have e2 : ((x.toNat : Int) == 9) = false := by have h_ := b2; simp only [beq_eq_false_iff_ne, ne_eq] at h_ ⊢; intro h; apply h_; apply UInt8.toNat_inj.1; simp; omega
                  have HP : Hid (trimL l = uv) := Lib.hid (by have h := HU.out; rw [HU2.out, trimB_snoc, hbl] at h; unfold trimL; rw [← HT.out, ← h, HU2.out]; rfl)
                  have R24 := fun W => st_index (l := uv) (i := m) (x := x) (by rw [HU2.out, HM.out]; simp) W
                  have R31 := fun W => st_index (l := uv) (i := m) (x := x) (by rw [HU2.out, HM.out]; simp) W
                  go_wp2_with fail
                  clear R24 R31
                  go_ret
                  exact ⟨by rw [HP.out]; rfl, rfl⟩
end Go.Proofs.Ytdfobilagidmfaa
