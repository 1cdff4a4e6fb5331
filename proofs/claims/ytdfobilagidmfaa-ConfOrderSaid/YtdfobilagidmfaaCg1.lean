/- conf's isBlank, isSkipped, cut, decimal, wordsOf, onlyWord, linesOf. -/
import Derived.Test.YtdfobilagidmfaaItr
import Derived.Test.YtdfobilagidmfaaAdr1
import Derived.Deep.LoopGhost
import Derived.Deep.RegionHeld
namespace Go.Proofs.Ytdfobilagidmfaa
open Go.RowKit

/-- Is a line empty or a remark? -/
def skipL (l : List UInt8) : Bool := match l.dropWhile isBl with
  | [] => true
  | c :: _ => c == 35
theorem skip_at {l : List UInt8} {pos : Nat} {c : UInt8} (h : ∀ x ∈ l.take pos, isBl x = true) (hc : l[pos]? = some c) (hb : isBl c = false) : skipL l = (c == 35) := by
  have e : l = l.take pos ++ c :: l.drop (pos + 1) := by rw [← drop_at hc, List.take_append_drop]
  unfold skipL
  rw [e, List.dropWhile_append_of_pos h, List.dropWhile_cons, if_neg (by rw [hb]; decide)]
theorem skip_end {l : List UInt8} (h : ∀ x ∈ l.take l.length, isBl x = true) : skipL l = true := by
  have e : l.dropWhile isBl = [] := by
    rw [List.take_length] at h
    have := List.dropWhile_append_of_pos (l₂ := []) h
    rwa [List.append_nil] at this
  unfold skipL
  rw [e]
theorem take_one {p : UInt8 → Prop} {l : List UInt8} {pos : Nat} {c : UInt8} (h : ∀ x ∈ l.take pos, p x) (hc : l[pos]? = some c) (hp : p c) : ∀ x ∈ l.take (pos + 1), p x := by
  rw [List.take_add_one, hc]
  intro x hx
  rcases List.mem_append.1 hx with h1 | h1
  · exact h x h1
  · rw [Option.toList_some, List.mem_singleton] at h1; rw [h1]; exact hp
theorem take_all {p : UInt8 → Prop} {l : List UInt8} {pos k : Nat} (h : ∀ x ∈ l.take pos, p x) (hp : ∀ x ∈ (l.drop pos).take k, p x) : ∀ x ∈ l.take (pos + k), p x := by
  rw [List.take_add]
  intro x hx
  rcases List.mem_append.1 hx with h1 | h1
  · exact h x h1
  · exact hp x h1
/-- What stands ahead of the first b, and behind it. -/
def cut1 (b : UInt8) : List UInt8 → Option (List UInt8 × List UInt8)
  | [] => none
  | c :: l => if c = b then some ([], l) else (cut1 b l).map fun x => (c :: x.1, x.2)
theorem cut1_skip {b : UInt8} : ∀ (x y : List UInt8), (∀ c ∈ x, c ≠ b) → cut1 b (x ++ y) = (cut1 b y).map fun z => (x ++ z.1, z.2)
  | [], y, _ => by rw [List.nil_append]; cases cut1 b y <;> simp
  | c :: x, y, h => by
    rw [List.cons_append, cut1, if_neg (h c (by simp)), cut1_skip x y (fun d hd => h d (by simp [hd]))]
    cases cut1 b y <;> rfl
theorem cut1_at {b : UInt8} {l : List UInt8} {pos : Nat} (h : ∀ x ∈ l.take pos, x ≠ b) (hc : l[pos]? = some b) : cut1 b l = some (l.take pos, l.drop (pos + 1)) := by
  have e : l = l.take pos ++ b :: l.drop (pos + 1) := by rw [← drop_at hc, List.take_append_drop]
  conv => lhs; rw [e]
  rw [cut1_skip _ _ h, cut1, if_pos rfl]
  simp
theorem cut1_none {b : UInt8} {l : List UInt8} (h : ∀ x ∈ l.take l.length, x ≠ b) : cut1 b l = none := by
  rw [List.take_length] at h
  have := cut1_skip l [] h
  rwa [List.append_nil] at this
theorem words_free : ∀ (x y u : List UInt8), (∀ c ∈ x, isBl c = false) → wordsGo (x ++ y) u = wordsGo y (u ++ x)
  | [], y, u, _ => by simp
  | c :: x, y, u, h => by
    rw [List.cons_append, wordsGo, if_neg (by rw [h c (by simp)]; decide), words_free x y _ (fun d hd => h d (by simp [hd]))]
    simp
theorem words_skip {r ws : List (List UInt8)} {l : List UInt8} {pos k fr : Nat} (h : ws ++ wordsGo (l.drop pos) ((l.take pos).drop fr) = r) (hf : fr ≤ pos) (hk : pos + k ≤ l.length) (hb : ∀ x ∈ (l.drop pos).take k, isBl x = false) :
    ws ++ wordsGo (l.drop (pos + k)) ((l.take (pos + k)).drop fr) = r := by
  rw [take_more hf hk, ← words_free _ _ _ hb, ← List.drop_drop, List.take_append_drop]
  exact h
theorem words_blank {r ws : List (List UInt8)} {l : List UInt8} {pos fr : Nat} {c : UInt8} (h : ws ++ wordsGo (l.drop pos) ((l.take pos).drop fr) = r) (hc : l[pos]? = some c) (hb : isBl c = true) :
    (if (l.take pos).drop fr = [] then ws else ws ++ [(l.take pos).drop fr]) ++ wordsGo (l.drop (pos + 1)) ((l.take (pos + 1)).drop (pos + 1)) = r := by
  rw [show (l.take (pos + 1)).drop (pos + 1) = [] from List.drop_eq_nil_of_le (by rw [List.length_take]; omega)]
  exact words_cut h (.inr ⟨c, hc, hb⟩)
theorem words_end {r ws : List (List UInt8)} {l : List UInt8} {fr : Nat} (h : ws ++ wordsGo (l.drop l.length) ((l.take l.length).drop fr) = r) :
    (if l.drop fr = [] then ws else ws ++ [l.drop fr]) = r := by
  have := words_cut h (.inl rfl)
  rwa [show l.drop (l.length + 1) = [] from List.drop_eq_nil_of_le (by omega), wordsGo, if_pos rfl, List.append_nil, List.take_length] at this
theorem piece_nil {l : List UInt8} {pos fr : Nat} (hp : pos ≤ l.length) (h : ¬ fr < pos) : (l.take pos).drop fr = [] := List.drop_eq_nil_of_le (by rw [List.length_take]; omega)
theorem piece_some {l : List UInt8} {pos fr : Nat} (hp : pos ≤ l.length) (h : fr < pos) : (l.take pos).drop fr ≠ [] := fun e => by
  have := congrArg List.length e
  rw [List.length_drop, List.length_take] at this
  simp at this
  omega
theorem drop_some {l : List UInt8} {fr : Nat} (h : fr < l.length) : ¬ l.drop fr = [] := by rw [List.drop_eq_nil_iff]; omega
theorem drop_none {l : List UInt8} {fr : Nat} (h : ¬ fr < l.length) : l.drop fr = [] := List.drop_eq_nil_of_le (by omega)
/-- What cut answers. -/
def cutV (b : UInt8) (l : List UInt8) : Value := match cut1 b l with
  | some (x, y) => .tuple #[.string ⟨x.toArray⟩, .string ⟨y.toArray⟩, .bool true]
  | none => .tuple #[.string ⟨#[]⟩, .string ⟨#[]⟩, .bool false]
/-- The only word of a text. -/
def onlyW (l : List UInt8) : Option (List UInt8) := match wordsL l with
  | [x] => some x
  | _ => none
theorem lines_of {l : List UInt8} {ps : List (List UInt8)} {fr : Nat} (h : cutF 10 l = ps ++ [l.drop fr]) (hf : fr ≤ l.length) : linesL l = if fr < l.length then ps ++ [l.drop fr] else ps := by
  unfold linesL
  rw [h]
  simp only [List.getLast?_append, List.getLast?_singleton, Option.some_or, List.dropLast_concat]
  by_cases hpl : fr < l.length
  · rw [if_neg (by simp; omega), if_pos hpl]
  · rw [if_pos (by simp; omega), if_neg hpl]
theorem dec_end9 {l : List UInt8} {v : Nat} (h : DecInv l l.length v) (hl : 0 < l.length) (h9 : l.length ≤ 9) (most : Int) (hv : (v : Int) ≤ most) : numI l most = v := by
  have hg : numGo l 0 = some v := by rw [← h.1, List.drop_length]; rfl
  rw [numI_some most v ?_ hg, if_neg (by omega)]
  rcases h.2 with ⟨h1, _⟩ | ⟨h1, _, _⟩ | ⟨h1, h2, h3⟩
  · omega
  · omega
  · rintro (h4 | h4 | ⟨_, h4⟩)
    · omega
    · omega
    · exact h3 h4
theorem pow_le9 {n k : Nat} (h : n < 10 ^ k) (hk : k ≤ 8) : (n : Int) ≤ 99999999 := by
  have : (10 : Nat) ^ k ≤ 10 ^ 8 := Nat.pow_le_pow_right (by omega) hk
  omega
theorem pow_next {n k d : Nat} (h : n < 10 ^ k) (hd : d ≤ 9) : 10 * n + d < 10 ^ (k + 1) := by
  rw [Nat.pow_succ]; omega
set_option linter.unusedVariables false in
set_option maxRecDepth 100000 in
set_option maxHeartbeats 16000000 in
theorem isBlank_any (r : Nat) (w : World) : Calls Try.prog 62 #[.int .i32 (r : Int)] w fun e w' => e = .returned (.bool (blN r)) ∧ w = w' := by
  skip
  go_enter Try.func62, Try.ntmps62
  rcases (by decide : ∀ b : Bool, b = true ∨ b = false) ((r : Int) == 32) with h0 | h0
  · have HP : Hid (blN r = true) := Lib.hid (by unfold blN; rw [← int_beq r 32]; rw [show ((r : Int) == ((32 : Nat) : Int)) = true from h0]; rfl)
    go_wp2_with fail
    go_ret
    exact ⟨by rw [HP.out]; rfl, rfl⟩
  · rcases (by decide : ∀ b : Bool, b = true ∨ b = false) ((r : Int) == 9) with h1 | h1
    · have HP : Hid (blN r = true) := Lib.hid (by unfold blN; rw [← int_beq r 32, ← int_beq r 9]; rw [show ((r : Int) == ((32 : Nat) : Int)) = false from h0, show ((r : Int) == ((9 : Nat) : Int)) = true from h1]; rfl)
      go_wp2_with fail
      go_ret
      exact ⟨by rw [HP.out]; rfl, rfl⟩
    · have HP : Hid (blN r = false) := Lib.hid (by unfold blN; rw [← int_beq r 32, ← int_beq r 9]; rw [show ((r : Int) == ((32 : Nat) : Int)) = false from h0, show ((r : Int) == ((9 : Nat) : Int)) = false from h1]; rfl)
      go_wp2_with fail
      go_ret
      exact ⟨by rw [HP.out]; rfl, rfl⟩
set_option linter.unusedVariables false in
set_option maxRecDepth 100000 in
set_option maxHeartbeats 16000000 in
theorem isSkipped_any (l : List UInt8) (w : World) : Calls Try.prog 36 #[.string ⟨l.toArray⟩] w fun e w' => e = .returned (.bool (skipL l)) ∧ Below w.heap.size w w' := by
  have bel := Below.refl w.heap.size w
  go_enter Try.func36, Try.ntmps36
  go_wp2_with (first | ((with_reducible show wpList _ _ _ (⟨some 6, _, _, _, _, _⟩ :: _) _ _); refine wpList_range_n rfl 9 (.tmp 5) rfl (by kernel_rfl) (l) rfl ?_; intro g6 w1 ge lt hh bb; have oit := Nat.le_trans bel.size ge; replace bel := bel.trans (bb.mono bel.size); have hit := hh; clear hh lt ge bb))
  simp only [Act.put, List.setIfInBounds_toArray, List.set_cons_zero, List.set_cons_succ]
  go_loopg [] (l.length + 1) (fun gk  wr => ∃ pos : Nat, gk = l.length + 1 - pos ∧ pos ≤ l.length ∧ Hid (∀ x ∈ l.take pos, isBl x = true) ∧ wr.heap[g6]? = some (.stringIter ⟨(l).toArray⟩ (pos)) ∧ Below w.heap.size w wr)
  case atStart => exact ⟨0, rfl, Nat.zero_le _, Lib.hid (fun x hx => by simp at hx), hit, bel⟩
  case round =>
    clear hit bel
    obtain ⟨pos, HGK, hp, HB, hit, bel⟩ := hrel
    have HGK_ := Lib.hid HGK
    clear HGK
    by_cases hpl : pos < l.length
    · obtain ⟨r, k, c, hd, hc, hr, hk, hkl, hcase⟩ := rune_bl l pos hpl
      have HD := Lib.hid hd
      have HC := Lib.hid hc
      clear hd hc
      have r0 : (0 : Int) ≤ r := by omega
      have r1 : (r : Int) ≤ 1114111 := by omega
      have p0 : (0 : Int) ≤ pos := by omega
      rcases hcase with ⟨hb, hk1, hbc⟩ | ⟨hb, hbc, h35, hfree⟩
      · have HBL := Lib.hid hb
        have HBC := Lib.hid hbc
        clear hb hbc
        go_wp2_with (first | ((with_reducible show wpList _ _ _ (⟨some 7, _, _, _, _, _⟩ :: _) _ _); refine wpList_next_n rfl (.tmp 6) rfl g6 rfl (l) (pos) hit (r) (k) (HD.out) (hpl) ((pos : Int)) (rfl) ?_; intro w2 hq gr; replace bel := below_grown bel gr oit bel.size; clear hit; have hit := hq; clear hq gr))
        with_reducible refine (isBlank_any _ _).mono ?_
        rintro e _ ⟨rfl, rfl⟩
        rw [HBL.out]
        go_wp2_with fail
        go_roundg (l.length + 1 - (pos + k))
        case measure => have := HGK_.out; omega
        case rel => exact ⟨pos + k, rfl, hkl, Lib.hid (by subst hk1; exact take_one HB.out HC.out HBC.out), hit, bel⟩
      · have HBL := Lib.hid hb
        have HP : Hid (skipL l = (c == 35)) := Lib.hid (skip_at HB.out HC.out hbc)
        obtain ⟨b9, h9⟩ : ∃ b, (c == 35) = b := ⟨_, rfl⟩
        rw [h9] at h35 HP
        clear hb hbc hfree h9
        go_wp2_with (first | ((with_reducible show wpList _ _ _ (⟨some 7, _, _, _, _, _⟩ :: _) _ _); refine wpList_next_n rfl (.tmp 6) rfl g6 rfl (l) (pos) hit (r) (k) (HD.out) (hpl) ((pos : Int)) (rfl) ?_; intro w2 hq gr; replace bel := below_grown bel gr oit bel.size; clear hit; have hit := hq; clear hq gr))
        with_reducible refine (isBlank_any _ _).mono ?_
        rintro e _ ⟨rfl, rfl⟩
        rw [HBL.out]
        go_wp2_with fail
        go_ret
        exact ⟨by rw [HP.out]; rfl, bel⟩
    · have HP : Hid (skipL l = true) := Lib.hid (skip_end (by have h := HB.out; rw [show pos = l.length by omega] at h; exact h))
      have R7 := fun ty => next_end (P := Try.prog) ty hit (hpl)
      go_wp2_with fail
      clear R7
      go_ret
      exact ⟨by rw [HP.out]; rfl, bel⟩
set_option linter.unusedVariables false in
set_option maxRecDepth 100000 in
set_option maxHeartbeats 16000000 in
theorem ccut_any (b : UInt8) (B : Int) (hB : (b.toNat : Int) = B) (hb7 : b.toNat < 128) (l : List UInt8) (w : World) (hlen : l.length ≤ 100000) : Calls Try.prog 37 #[.string ⟨l.toArray⟩, .int .i32 B] w fun e w' => e = .returned (cutV b l) ∧ Below w.heap.size w w' := by
  have HBB := Lib.hid hB
  have bel := Below.refl w.heap.size w
  go_enter Try.func37, Try.ntmps37
  go_wp2_with (first | ((with_reducible show wpList _ _ _ (⟨some 10, _, _, _, _, _⟩ :: _) _ _); refine wpList_range_n rfl 9 (.tmp 9) rfl (by kernel_rfl) (l) rfl ?_; intro g10 w1 ge lt hh bb; have oit := Nat.le_trans bel.size ge; replace bel := bel.trans (bb.mono bel.size); have hit := hh; clear hh lt ge bb))
  simp only [Act.put, List.setIfInBounds_toArray, List.set_cons_zero, List.set_cons_succ]
  go_loopg [] (l.length + 1) (fun gk  wr => ∃ pos : Nat, gk = l.length + 1 - pos ∧ pos ≤ l.length ∧ Hid (∀ x ∈ l.take pos, x ≠ b) ∧ wr.heap[g10]? = some (.stringIter ⟨(l).toArray⟩ (pos)) ∧ Below w.heap.size w wr)
  case atStart => exact ⟨0, rfl, Nat.zero_le _, Lib.hid (fun x hx => by simp at hx), hit, bel⟩
  case round =>
    clear hit bel
    obtain ⟨pos, HGK, hp, HN, hit, bel⟩ := hrel
    have HGK_ := Lib.hid HGK
    clear HGK
    by_cases hpl : pos < l.length
    · obtain ⟨r, k, hd, hr, hk, hkl, hcase⟩ := rune_sep b hb7 l pos hpl
      rw [HBB.out] at hcase
      have HD := Lib.hid hd
      clear hd
      have r0 : (0 : Int) ≤ r := by omega
      have r1 : (r : Int) ≤ 1114111 := by omega
      have p0 : (0 : Int) ≤ pos := by omega
      have p1 : (pos : Int) ≤ 100000 := by omega
      rcases hcase with ⟨hq, hk1, hc⟩ | ⟨hq, hfree⟩
      · have HP : Hid (cutV b l = .tuple #[.string ⟨(l.take pos).toArray⟩, .string ⟨(l.drop (pos + 1)).toArray⟩, .bool true]) := Lib.hid (by unfold cutV; rw [cut1_at HN.out hc])
        have w1 : IntKind.i64.wrap ((pos : Int) + 1) = (pos : Int) + 1 := IntWalk.i64_in _ (by omega)
        have s20 := fun W => st_to (l := l) (j := pos) hp W
        have s24 : ∀ W, (Instr.slice 9 (.string ⟨l.toArray⟩) (some (.int .i64 ((pos : Int) + 1))) none none).run Try.prog W = .ok (.string ⟨(l.drop (pos + 1)).toArray⟩) W := fun W => st_from (l := l) (i := pos + 1) hpl W
        clear hc
        go_wp2_with (first | ((with_reducible show wpList _ _ _ (⟨some 11, _, _, _, _, _⟩ :: _) _ _); refine wpList_next_n rfl (.tmp 10) rfl g10 rfl (l) (pos) hit (r) (k) (HD.out) (hpl) ((pos : Int)) (rfl) ?_; intro w2 hq gr; replace bel := below_grown bel gr oit bel.size; clear hit; have hit := hq; clear hq gr))
        replace bel := bel.drew
        replace hit : w2.drew.heap[g10]? = _ := hit
        refine wp_region_held_drew (S := fun _ => True) (by kernel_rfl) trivial (fun hH => ?_)
        generalize w2.drew = w3 at bel hit hH ⊢
        refine wpAnyH_take (i := 0) (v := ?_) rfl (by kernel_rfl) (by kernel_rfl) (by kernel_rfl) (fun _ _ _ h => h) (Or.inl ⟨by rfl, ?_⟩) hH ?_
        rotate_left
        · ((intro W hW; clear hW; go_simp) <;> with_reducible rfl)
        simp only [Act.put, List.getElem_toArray, List.getElem_cons_zero, List.setIfInBounds_toArray, List.set_cons_zero, List.set_cons_succ]
        refine wpAnyH_take (i := 1) (v := ?_) rfl (by kernel_rfl) (by kernel_rfl) (by kernel_rfl) (fun _ _ _ h => h) (Or.inl ⟨by rfl, ?_⟩) hH ?_
        rotate_left
        · ((intro W hW; clear hW; go_simp) <;> with_reducible rfl)
        simp only [Act.put, List.getElem_toArray, List.getElem_cons_zero, List.getElem_cons_succ, List.setIfInBounds_toArray, List.set_cons_zero, List.set_cons_succ]
        refine wpAnyH_take (i := 2) (v := ?_) rfl (by kernel_rfl) (by kernel_rfl) (by kernel_rfl) (fun _ _ _ h => h) (Or.inl ⟨by rfl, ?_⟩) hH ?_
        rotate_left
        · ((intro W hW; clear hW; go_simp) <;> with_reducible rfl)
        simp only [Act.put, List.getElem_toArray, List.getElem_cons_zero, List.getElem_cons_succ, List.setIfInBounds_toArray, List.set_cons_zero, List.set_cons_succ]
        refine wpAnyH_take (i := 3) (v := ?_) rfl (by kernel_rfl) (by kernel_rfl) (by kernel_rfl) (fun _ _ _ h => h) (Or.inl ⟨by rfl, ?_⟩) hH ?_
        rotate_left
        · ((intro W hW; clear hW; go_simp) <;> with_reducible rfl)
        simp only [Act.put, List.getElem_toArray, List.getElem_cons_zero, List.getElem_cons_succ, List.setIfInBounds_toArray, List.set_cons_zero, List.set_cons_succ]
        refine wpAnyH_take (i := 4) (v := ?_) rfl (by kernel_rfl) (by kernel_rfl) (by kernel_rfl) (fun _ _ _ h => h) (Or.inl ⟨by rfl, ?_⟩) hH ?_
        rotate_left
        · ((intro W hW; clear hW; go_simp) <;> with_reducible rfl)
        simp only [Act.put, List.getElem_toArray, List.getElem_cons_zero, List.getElem_cons_succ, List.setIfInBounds_toArray, List.set_cons_zero, List.set_cons_succ]
        refine wpAnyH_take (i := 5) (v := ?_) rfl (by kernel_rfl) (by kernel_rfl) (by kernel_rfl) (fun _ _ _ h => h) (Or.inl ⟨by rfl, ?_⟩) hH ?_
        rotate_left
        · ((intro W hW; clear hW; go_simp) <;> with_reducible rfl)
        simp only [Act.put, List.getElem_toArray, List.getElem_cons_zero, List.getElem_cons_succ, List.setIfInBounds_toArray, List.set_cons_zero, List.set_cons_succ]
        refine wpAnyH_take (i := 6) (v := ?_) rfl (by kernel_rfl) (by kernel_rfl) (by kernel_rfl) (fun _ _ _ h => h) (Or.inl ⟨by rfl, ?_⟩) hH ?_
        rotate_left
        · ((intro W hW; clear hW; go_simp) <;> with_reducible rfl)
        simp only [Act.put, List.getElem_toArray, List.getElem_cons_zero, List.getElem_cons_succ, List.setIfInBounds_toArray, List.set_cons_zero, List.set_cons_succ]
        refine wpAnyH_take (i := 7) (v := ?_) rfl (by kernel_rfl) (by kernel_rfl) (by kernel_rfl) (fun _ _ _ h => h) (Or.inl ⟨by rfl, ?_⟩) hH ?_
        rotate_left
        · ((intro W hW; clear hW; go_simp) <;> with_reducible rfl)
        simp only [Act.put, List.getElem_toArray, List.getElem_cons_zero, List.getElem_cons_succ, List.setIfInBounds_toArray, List.set_cons_zero, List.set_cons_succ]
        refine wpAnyH_take (i := 8) (v := ?_) rfl (by kernel_rfl) (by kernel_rfl) (by kernel_rfl) (fun _ _ _ h => h) (Or.inl ⟨by rfl, ?_⟩) hH ?_
        rotate_left
        · ((intro W hW; clear hW; go_simp) <;> with_reducible rfl)
        simp only [Act.put, List.getElem_toArray, List.getElem_cons_zero, List.getElem_cons_succ, List.setIfInBounds_toArray, List.set_cons_zero, List.set_cons_succ]
        refine wpAnyH_take (i := 9) (v := ?_) rfl (by kernel_rfl) (by kernel_rfl) (by kernel_rfl) (fun _ _ _ h => h) (Or.inl ⟨by rfl, ?_⟩) hH ?_
        rotate_left
        · ((intro W hW; clear hW; go_simp) <;> with_reducible rfl)
        simp only [Act.put, List.getElem_toArray, List.getElem_cons_zero, List.getElem_cons_succ, List.setIfInBounds_toArray, List.set_cons_zero, List.set_cons_succ]
        refine wpAnyH_done (by kernel_rfl) ?_ _
        go_wp2_with fail
        exact bodyPost_ret (v := .tuple #[.string ⟨(l.take pos).toArray⟩, .string ⟨(l.drop (pos + 1)).toArray⟩, .bool true]) (by simp [results, Try.results37, go_sem]) rfl ⟨by rw [HP.out], bel⟩
      · have HF := Lib.hid hfree
        clear hfree
        go_wp2_with (first | ((with_reducible show wpList _ _ _ (⟨some 11, _, _, _, _, _⟩ :: _) _ _); refine wpList_next_n rfl (.tmp 10) rfl g10 rfl (l) (pos) hit (r) (k) (HD.out) (hpl) ((pos : Int)) (rfl) ?_; intro w2 hq gr; replace bel := below_grown bel gr oit bel.size; clear hit; have hit := hq; clear hq gr))
        go_roundg (l.length + 1 - (pos + k))
        case measure => have := HGK_.out; omega
        case rel => exact ⟨pos + k, rfl, hkl, Lib.hid (take_all HN.out HF.out), hit, bel⟩
    · have HP : Hid (cutV b l = .tuple #[.string ⟨#[]⟩, .string ⟨#[]⟩, .bool false]) := Lib.hid (by unfold cutV; rw [cut1_none (by have h := HN.out; rw [show pos = l.length by omega] at h; exact h)])
      have R11 := fun ty => next_end (P := Try.prog) ty hit (hpl)
      go_wp2_with fail
      clear R11
      exact bodyPost_ret (v := .tuple #[.string ⟨#[]⟩, .string ⟨#[]⟩, .bool false]) (by simp [results, Try.results37, go_sem]) rfl ⟨by rw [HP.out], bel⟩
set_option linter.unusedVariables false in
set_option maxRecDepth 100000 in
set_option maxHeartbeats 16000000 in
theorem wordsOf_any (l : List UInt8) (w : World) (hlen : l.length ≤ 100000) : Calls Try.prog 63 #[.string ⟨l.toArray⟩] w fun e w' => ∃ v, e = .returned v ∧ w'.ownsRow w.heap.size 9 1 v (wordsL l).length ((wordsL l).flatMap stf) ∧ Below w.heap.size w w' := by
  obtain ⟨is, his, his0, his1, his2⟩ := info_parts Try.info_str
  have bel := Below.refl w.heap.size w
  go_enter Try.func63, Try.ntmps63
  go_wp2_with (first | ((with_reducible show wpList _ _ _ (⟨some 8, _, _, _, _, _⟩ :: _) _ _); refine wpList_range_n rfl 9 (.tmp 7) rfl (by kernel_rfl) (l) rfl ?_; intro g8 w1 ge lt hh bb; have oit := Nat.le_trans bel.size ge; replace bel := bel.trans (bb.mono bel.size); have hit := hh; clear hh lt ge bb))
  simp only [Act.put, List.setIfInBounds_toArray, List.set_cons_zero, List.set_cons_succ]
  go_loopg [3, 4] (l.length + 1) (fun gk s3 s4 wr => ∃ pos : Nat, ∃ fr : Nat, ∃ ws : List (List UInt8), ∃ nw : Nat, ∃ (Awt : Option Addr) (cwt : Nat), gk = l.length + 1 - pos ∧ pos ≤ l.length ∧ fr ≤ pos ∧ Hid (ws ++ wordsGo (l.drop pos) ((l.take pos).drop fr) = wordsL l) ∧ nw ≤ pos ∧ s3 = .slice Awt nw cwt ∧ s4 = .int .i64 (fr : Int) ∧ wr.ownsRow (w.heap.size) 9 1 (.slice Awt (nw) cwt) (nw) ((ws : List (List UInt8)).flatMap stf) ∧ Ofs (.slice Awt (nw) cwt) g8 ∧ wr.heap[g8]? = some (.stringIter ⟨(l).toArray⟩ (pos)) ∧ Below w.heap.size w wr)
  case atStart => exact ⟨0, 0, [], 0, none, 0, rfl, Nat.zero_le _, Nat.le_refl _, Lib.hid rfl, Nat.le_refl _, rfl, rfl, owk_nil _ _ _, (fun g h => by simp [Value.ownBlock] at h), hit, bel⟩
  case round =>
    clear hit bel
    obtain ⟨pos, fr, ws, nw, Awt, cwt, HGK, hp, hf, HW, hnw, rfl, rfl, wtw, of_wt_it, hit, bel⟩ := hrel
    have HGK_ := Lib.hid HGK
    clear HGK
    have wt := (owk_sle (by decide) stf_len wtw).1
    have fr_wt := (owk_sle (by decide) stf_len wtw).2
    have lz_wt := bel.size
    have wtlo := Nat.le_refl (w.heap.size)
    have av_wt_it := owk_av wtw of_wt_it
    have p0 : (0 : Int) ≤ pos := by omega
    have p1 : (pos : Int) ≤ 100000 := by omega
    have f0 : (0 : Int) ≤ fr := by omega
    have f1 : (fr : Int) ≤ pos := by omega
    by_cases hpl : pos < l.length
    · obtain ⟨r, k, c, hd, hc, hr, hk, hkl, hcase⟩ := rune_bl l pos hpl
      have HD := Lib.hid hd
      have HC := Lib.hid hc
      clear hd hc
      have r0 : (0 : Int) ≤ r := by omega
      have r1 : (r : Int) ≤ 1114111 := by omega
      rcases hcase with ⟨hb, hk1, hbc⟩ | ⟨hb, hbc, h35, hfree⟩
      · have HBL := Lib.hid hb
        have HBC := Lib.hid hbc
        clear hb hbc
        go_wp2_with (first | ((with_reducible show wpList _ _ _ (⟨some 9, _, _, _, _, _⟩ :: _) _ _); refine wpList_next_n rfl (.tmp 8) rfl g8 rfl (l) (pos) hit (r) (k) (HD.out) (hpl) ((pos : Int)) (rfl) ?_; intro w2 hq gr; replace wt := wt.away av_wt_it gr; replace wtw := owk_off wtw of_wt_it gr; replace lz_wt := Nat.le_trans lz_wt gr.size; replace bel := below_grown bel gr oit bel.size; clear hit; have hit := hq; clear hq gr))
        with_reducible refine (isBlank_any _ _).mono ?_
        rintro e _ ⟨rfl, rfl⟩
        rw [HBL.out]
        by_cases hu : fr < pos
        · have R23 := fun W => st_mid (l := l) (i := fr) (j := pos) (by omega) (by omega) W
          go_wp2_with (first | ((with_reducible show wpList _ _ _ (⟨some 24, _, _, _, _, _⟩ :: _) _ _); refine wpList_lit_n rfl 47 9 1 _ rfl #[.string ⟨((l.take pos).drop fr).toArray⟩] (.string ⟨#[]⟩) Try.underlying47 (by kernel_rfl) 1 (by kernel_rfl) (by decide) (by kernel_rfl) ?_; intro g24 w3 ge lt hh bb; have d_it_b24 := ne_new (hlt hit) ge; have av_wt_b24 := wt.av_new ge; have of_wt_b24 := owk_new wtw ge; have ob24 := Nat.le_trans bel.size ge; replace hit := blk_u hit bb; replace wt := wt.below bb; replace wtw := owk_under wtw bb; replace lz_wt := Nat.le_trans lz_wt bb.size; replace bel := bel.trans (bb.mono bel.size); have hb24 := hh; clear hh lt ge bb; have lt : Sle stf 1 w3 (some ⟨g24, 0, none⟩) (1) (1) ([(l.take pos).drop fr]) := sle_lit ([(l.take pos).drop fr]) (by decide) stf_len hb24 rfl (by simp [maxLen])) | ((with_reducible show wpList _ _ _ (⟨some 25, _, _, _, _, _⟩ :: _) _ _); refine wpList_append_sle rfl (.tmp 19) (.tmp 24) 47 rfl (w.heap.size) 9 is (.string ⟨#[]⟩) 16 Try.underlying47 his his0 his1 his2 rfl stf_one _ (nw) (ws) rfl wtw (some ⟨g24, 0, none⟩) (1) (1) ([(l.take pos).drop fr]) rfl lt (by unfold maxLen; omega) (by omega) lz_wt ?_; intro v25 w4 own_ bb gw ofw; have of25_it := ofw _ (hlt hit) of_wt_it; have of25_b24 := ofw _ (hlt hb24) of_wt_b24; clear ofw; clear lt; replace hit := blk_own hit gw of_wt_it; replace hb24 := blk_own hb24 gw of_wt_b24; clear gw; replace bel := bel.trans (bb.mono wtlo); have lz_wz := Nat.le_trans lz_wt bb.size; clear bb; clear wt wtw lz_wt; replace own_ : w4.ownsRow (w.heap.size) 9 1 v25 (nw + 1) ((ws ++ [(l.take pos).drop fr] : List (List UInt8)).flatMap stf) := own_; obtain ⟨A25, c25, rfl⟩ := owk_val own_; have wzw := own_; have wz := (owk_sle (by decide) stf_len own_).1; have fr_wz := (owk_sle (by decide) stf_len own_).2; clear own_; have av_wz_it := owk_av wzw of25_it; have av_wz_b24 := owk_av wzw of25_b24))
          try clear R23
          go_roundg (l.length + 1 - (pos + k))
          case measure => have := HGK_.out; omega
          case rel => exact ⟨pos + k, pos + 1, ws ++ [(l.take pos).drop fr], nw + 1, A25, c25, rfl, hkl, by omega, Lib.hid (by subst hk1; have h := words_blank HW.out HC.out HBC.out; rw [if_neg (piece_some hp hu)] at h; exact h), by omega, rfl, by go_num, wzw, of25_it, hit, bel⟩
        · have hu2 : decide (fr < pos) = false := decide_eq_false hu
          go_wp2_with fail
          go_roundg (l.length + 1 - (pos + k))
          case measure => have := HGK_.out; omega
          case rel => exact ⟨pos + k, pos + 1, ws, nw, Awt, cwt, rfl, hkl, by omega, Lib.hid (by subst hk1; have h := words_blank HW.out HC.out HBC.out; rw [if_pos (piece_nil hp hu)] at h; exact h), by omega, rfl, by go_num, wtw, of_wt_it, hit, bel⟩
      · have HBL := Lib.hid hb
        have HF := Lib.hid hfree
        clear hb hbc h35 hfree
        go_wp2_with (first | ((with_reducible show wpList _ _ _ (⟨some 9, _, _, _, _, _⟩ :: _) _ _); refine wpList_next_n rfl (.tmp 8) rfl g8 rfl (l) (pos) hit (r) (k) (HD.out) (hpl) ((pos : Int)) (rfl) ?_; intro w2 hq gr; replace wt := wt.away av_wt_it gr; replace wtw := owk_off wtw of_wt_it gr; replace lz_wt := Nat.le_trans lz_wt gr.size; replace bel := below_grown bel gr oit bel.size; clear hit; have hit := hq; clear hq gr))
        with_reducible refine (isBlank_any _ _).mono ?_
        rintro e _ ⟨rfl, rfl⟩
        rw [HBL.out]
        go_wp2_with fail
        go_roundg (l.length + 1 - (pos + k))
        case measure => have := HGK_.out; omega
        case rel => exact ⟨pos + k, fr, ws, nw, Awt, cwt, rfl, hkl, by omega, Lib.hid (words_skip HW.out hf hkl HF.out), by omega, rfl, by go_num, wtw, of_wt_it, hit, bel⟩
    · have hpe : pos = l.length := by omega
      subst hpe
      have HWE := Lib.hid (words_end HW.out)
      clear HW
      by_cases hu : fr < l.length
      · have HP : Hid (ws ++ [l.drop fr] = wordsL l) := Lib.hid (by have h := HWE.out; rw [if_neg (drop_some hu)] at h; exact h)
        have R9 := fun ty => next_end (P := Try.prog) ty hit (hpl)
        have R30 := fun W => st_len l 3 W
        have R35 := fun W => st_from (l := l) (i := fr) (by omega) W
        go_wp2_with (first | ((with_reducible show wpList _ _ _ (⟨some 36, _, _, _, _, _⟩ :: _) _ _); refine wpList_lit_n rfl 47 9 1 _ rfl #[.string ⟨(l.drop fr).toArray⟩] (.string ⟨#[]⟩) Try.underlying47 (by kernel_rfl) 1 (by kernel_rfl) (by decide) (by kernel_rfl) ?_; intro g36 w2 ge lt hh bb; have d_it_b36 := ne_new (hlt hit) ge; have av_wt_b36 := wt.av_new ge; have of_wt_b36 := owk_new wtw ge; have ob36 := Nat.le_trans bel.size ge; replace hit := blk_u hit bb; replace wt := wt.below bb; replace wtw := owk_under wtw bb; replace lz_wt := Nat.le_trans lz_wt bb.size; replace bel := bel.trans (bb.mono bel.size); have hb36 := hh; clear hh lt ge bb; have lu : Sle stf 1 w2 (some ⟨g36, 0, none⟩) (1) (1) ([l.drop fr]) := sle_lit ([l.drop fr]) (by decide) stf_len hb36 rfl (by simp [maxLen])) | ((with_reducible show wpList _ _ _ (⟨some 37, _, _, _, _, _⟩ :: _) _ _); refine wpList_append_sle rfl (.tmp 32) (.tmp 36) 47 rfl (w.heap.size) 9 is (.string ⟨#[]⟩) 16 Try.underlying47 his his0 his1 his2 rfl stf_one _ (nw) (ws) rfl wtw (some ⟨g36, 0, none⟩) (1) (1) ([l.drop fr]) rfl lu (by unfold maxLen; omega) (by omega) lz_wt ?_; intro v37 w3 own_ bb gw ofw; have of37_it := ofw _ (hlt hit) of_wt_it; have of37_b36 := ofw _ (hlt hb36) of_wt_b36; clear ofw; clear lu; replace hit := blk_own hit gw of_wt_it; replace hb36 := blk_own hb36 gw of_wt_b36; clear gw; replace bel := bel.trans (bb.mono wtlo); have lz_wy := Nat.le_trans lz_wt bb.size; clear bb; clear wt wtw lz_wt; replace own_ : w3.ownsRow (w.heap.size) 9 1 v37 (nw + 1) ((ws ++ [l.drop fr] : List (List UInt8)).flatMap stf) := own_; obtain ⟨A37, c37, rfl⟩ := owk_val own_; have wyw := own_; have wy := (owk_sle (by decide) stf_len own_).1; have fr_wy := (owk_sle (by decide) stf_len own_).2; clear own_; have av_wy_it := owk_av wyw of37_it; have av_wy_b36 := owk_av wyw of37_b36))
        try clear R9
        try clear R30
        try clear R35
        go_ret
        exact ⟨_, rfl, by rw [HP.out] at wyw; have hl := wy.1; rw [HP.out] at hl; rw [hl]; exact wyw, bel⟩
      · have hu2 : decide (fr < l.length) = false := decide_eq_false hu
        have HP : Hid (ws = wordsL l) := Lib.hid (by have h := HWE.out; rw [if_pos (drop_none hu)] at h; exact h)
        have R9 := fun ty => next_end (P := Try.prog) ty hit (hpl)
        have R30 := fun W => st_len l 3 W
        go_wp2_with fail
        clear R9 R30
        go_ret
        exact ⟨_, rfl, by rw [HP.out] at wtw; have hl := wt.1; rw [HP.out] at hl; rw [hl]; exact wtw, bel⟩
set_option linter.unusedVariables false in
set_option maxRecDepth 100000 in
set_option maxHeartbeats 16000000 in
theorem linesOf_any (l : List UInt8) (w : World) (hlen : l.length ≤ 100000) : Calls Try.prog 17 #[.string ⟨l.toArray⟩] w fun e w' => ∃ v, e = .returned v ∧ w'.ownsRow w.heap.size 9 1 v (linesL l).length ((linesL l).flatMap stf) ∧ Below w.heap.size w w' := by
  obtain ⟨is, his, his0, his1, his2⟩ := info_parts Try.info_str
  have bel := Below.refl w.heap.size w
  go_enter Try.func17, Try.ntmps17
  go_wp2_with (first | ((with_reducible show wpList _ _ _ (⟨some 8, _, _, _, _, _⟩ :: _) _ _); refine wpList_range_n rfl 9 (.tmp 7) rfl (by kernel_rfl) (l) rfl ?_; intro g8 w1 ge lt hh bb; have oit := Nat.le_trans bel.size ge; replace bel := bel.trans (bb.mono bel.size); have hit := hh; clear hh lt ge bb))
  simp only [Act.put, List.setIfInBounds_toArray, List.set_cons_zero, List.set_cons_succ]
  go_loopg [3, 4] (l.length + 1) (fun gk s3 s4 wr => ∃ pos : Nat, ∃ fr : Nat, ∃ ws : List (List UInt8), ∃ nw : Nat, ∃ (Awt : Option Addr) (cwt : Nat), gk = l.length + 1 - pos ∧ Hid (CutInv 10 l pos fr ws) ∧ fr ≤ pos ∧ pos ≤ l.length ∧ nw ≤ pos ∧ s3 = .slice Awt nw cwt ∧ s4 = .int .i64 (fr : Int) ∧ wr.ownsRow (w.heap.size) 9 1 (.slice Awt (nw) cwt) (nw) ((ws : List (List UInt8)).flatMap stf) ∧ Ofs (.slice Awt (nw) cwt) g8 ∧ wr.heap[g8]? = some (.stringIter ⟨(l).toArray⟩ (pos)) ∧ Below w.heap.size w wr)
  case atStart => exact ⟨0, 0, [], 0, none, 0, rfl, Lib.hid (cutInv_start _ _), Nat.le_refl _, Nat.zero_le _, Nat.le_refl _, rfl, rfl, owk_nil _ _ _, (fun g h => by simp [Value.ownBlock] at h), hit, bel⟩
  case round =>
    clear hit bel
    obtain ⟨pos, fr, ws, nw, Awt, cwt, HGK, HI, hf, hp, hnw, rfl, rfl, wtw, of_wt_it, hit, bel⟩ := hrel
    have HGK_ := Lib.hid HGK
    clear HGK
    have wt := (owk_sle (by decide) stf_len wtw).1
    have fr_wt := (owk_sle (by decide) stf_len wtw).2
    have lz_wt := bel.size
    have wtlo := Nat.le_refl (w.heap.size)
    have av_wt_it := owk_av wtw of_wt_it
    have p0 : (0 : Int) ≤ pos := by omega
    have p1 : (pos : Int) ≤ 100000 := by omega
    have f0 : (0 : Int) ≤ fr := by omega
    have f1 : (fr : Int) ≤ pos := by omega
    by_cases hpl : pos < l.length
    · obtain ⟨r, k, hd, hr, hk, hkl, hcase⟩ := rune_sep 10 (by decide) l pos hpl
      rw [show (((10 : UInt8).toNat : Nat) : Int) = 10 from rfl] at hcase
      have HD := Lib.hid hd
      clear hd
      have r0 : (0 : Int) ≤ r := by omega
      have r1 : (r : Int) ≤ 1114111 := by omega
      rcases hcase with ⟨hq, hk1, hc⟩ | ⟨hq, hfree⟩
      · have HCC := Lib.hid hc
        clear hc
        go_wp2_with (first | ((with_reducible show wpList _ _ _ (⟨some 9, _, _, _, _, _⟩ :: _) _ _); refine wpList_next_n rfl (.tmp 8) rfl g8 rfl (l) (pos) hit (r) (k) (HD.out) (hpl) ((pos : Int)) (rfl) ?_; intro w2 hq gr; replace wt := wt.away av_wt_it gr; replace wtw := owk_off wtw of_wt_it gr; replace lz_wt := Nat.le_trans lz_wt gr.size; replace bel := below_grown bel gr oit bel.size; clear hit; have hit := hq; clear hq gr; have R19 := fun W => st_mid (l := l) (i := fr) (j := pos) (by omega) (by omega) W) | ((with_reducible show wpList _ _ _ (⟨some 20, _, _, _, _, _⟩ :: _) _ _); refine wpList_lit_n rfl 47 9 1 _ rfl #[.string ⟨((l.take pos).drop fr).toArray⟩] (.string ⟨#[]⟩) Try.underlying47 (by kernel_rfl) 1 (by kernel_rfl) (by decide) (by kernel_rfl) ?_; intro g20 w3 ge lt hh bb; have d_it_b20 := ne_new (hlt hit) ge; have av_wt_b20 := wt.av_new ge; have of_wt_b20 := owk_new wtw ge; have ob20 := Nat.le_trans bel.size ge; replace hit := blk_u hit bb; replace wt := wt.below bb; replace wtw := owk_under wtw bb; replace lz_wt := Nat.le_trans lz_wt bb.size; replace bel := bel.trans (bb.mono bel.size); have hb20 := hh; clear hh lt ge bb; have lt : Sle stf 1 w3 (some ⟨g20, 0, none⟩) (1) (1) ([(l.take pos).drop fr]) := sle_lit ([(l.take pos).drop fr]) (by decide) stf_len hb20 rfl (by simp [maxLen])) | ((with_reducible show wpList _ _ _ (⟨some 21, _, _, _, _, _⟩ :: _) _ _); refine wpList_append_sle rfl (.tmp 15) (.tmp 20) 47 rfl (w.heap.size) 9 is (.string ⟨#[]⟩) 16 Try.underlying47 his his0 his1 his2 rfl stf_one _ (nw) (ws) rfl wtw (some ⟨g20, 0, none⟩) (1) (1) ([(l.take pos).drop fr]) rfl lt (by unfold maxLen; omega) (by omega) lz_wt ?_; intro v21 w4 own_ bb gw ofw; have of21_it := ofw _ (hlt hit) of_wt_it; have of21_b20 := ofw _ (hlt hb20) of_wt_b20; clear ofw; clear lt; replace hit := blk_own hit gw of_wt_it; replace hb20 := blk_own hb20 gw of_wt_b20; clear gw; replace bel := bel.trans (bb.mono wtlo); have lz_wz := Nat.le_trans lz_wt bb.size; clear bb; clear wt wtw lz_wt; replace own_ : w4.ownsRow (w.heap.size) 9 1 v21 (nw + 1) ((ws ++ [(l.take pos).drop fr] : List (List UInt8)).flatMap stf) := own_; obtain ⟨A21, c21, rfl⟩ := owk_val own_; have wzw := own_; have wz := (owk_sle (by decide) stf_len own_).1; have fr_wz := (owk_sle (by decide) stf_len own_).2; clear own_; have av_wz_it := owk_av wzw of21_it; have av_wz_b20 := owk_av wzw of21_b20))
        try clear R19
        go_roundg (l.length + 1 - (pos + k))
        case measure => have := HGK_.out; omega
        case rel => exact ⟨pos + k, pos + 1, ws ++ [(l.take pos).drop fr], nw + 1, A21, c21, rfl, Lib.hid (by subst hk1; exact cutInv_sep HI.out HCC.out), by omega, hkl, by omega, rfl, by go_num, wzw, of21_it, hit, bel⟩
      · have HF := Lib.hid hfree
        clear hfree
        go_wp2_with (first | ((with_reducible show wpList _ _ _ (⟨some 9, _, _, _, _, _⟩ :: _) _ _); refine wpList_next_n rfl (.tmp 8) rfl g8 rfl (l) (pos) hit (r) (k) (HD.out) (hpl) ((pos : Int)) (rfl) ?_; intro w2 hq gr; replace wt := wt.away av_wt_it gr; replace wtw := owk_off wtw of_wt_it gr; replace lz_wt := Nat.le_trans lz_wt gr.size; replace bel := below_grown bel gr oit bel.size; clear hit; have hit := hq; clear hq gr))
        go_roundg (l.length + 1 - (pos + k))
        case measure => have := HGK_.out; omega
        case rel => exact ⟨pos + k, fr, ws, nw, Awt, cwt, rfl, Lib.hid (cutInv_skip HI.out k hkl (free_get hkl HF.out)), by omega, hkl, by omega, rfl, by go_num, wtw, of_wt_it, hit, bel⟩
    · have hpe : pos = l.length := by omega
      subst hpe
      have HLE := Lib.hid (lines_of (cutInv_end HI.out) (by omega))
      clear HI
      by_cases hu : fr < l.length
      · have HP : Hid (linesL l = ws ++ [l.drop fr]) := Lib.hid (by rw [HLE.out, if_pos hu])
        have R9 := fun ty => next_end (P := Try.prog) ty hit (hpl)
        have R26 := fun W => st_len l 3 W
        have R31 := fun W => st_from (l := l) (i := fr) (by omega) W
        go_wp2_with (first | ((with_reducible show wpList _ _ _ (⟨some 32, _, _, _, _, _⟩ :: _) _ _); refine wpList_lit_n rfl 47 9 1 _ rfl #[.string ⟨(l.drop fr).toArray⟩] (.string ⟨#[]⟩) Try.underlying47 (by kernel_rfl) 1 (by kernel_rfl) (by decide) (by kernel_rfl) ?_; intro g32 w2 ge lt hh bb; have d_it_b32 := ne_new (hlt hit) ge; have av_wt_b32 := wt.av_new ge; have of_wt_b32 := owk_new wtw ge; have ob32 := Nat.le_trans bel.size ge; replace hit := blk_u hit bb; replace wt := wt.below bb; replace wtw := owk_under wtw bb; replace lz_wt := Nat.le_trans lz_wt bb.size; replace bel := bel.trans (bb.mono bel.size); have hb32 := hh; clear hh lt ge bb; have lu : Sle stf 1 w2 (some ⟨g32, 0, none⟩) (1) (1) ([l.drop fr]) := sle_lit ([l.drop fr]) (by decide) stf_len hb32 rfl (by simp [maxLen])) | ((with_reducible show wpList _ _ _ (⟨some 33, _, _, _, _, _⟩ :: _) _ _); refine wpList_append_sle rfl (.tmp 28) (.tmp 32) 47 rfl (w.heap.size) 9 is (.string ⟨#[]⟩) 16 Try.underlying47 his his0 his1 his2 rfl stf_one _ (nw) (ws) rfl wtw (some ⟨g32, 0, none⟩) (1) (1) ([l.drop fr]) rfl lu (by unfold maxLen; omega) (by omega) lz_wt ?_; intro v33 w3 own_ bb gw ofw; have of33_it := ofw _ (hlt hit) of_wt_it; have of33_b32 := ofw _ (hlt hb32) of_wt_b32; clear ofw; clear lu; replace hit := blk_own hit gw of_wt_it; replace hb32 := blk_own hb32 gw of_wt_b32; clear gw; replace bel := bel.trans (bb.mono wtlo); have lz_wy := Nat.le_trans lz_wt bb.size; clear bb; clear wt wtw lz_wt; replace own_ : w3.ownsRow (w.heap.size) 9 1 v33 (nw + 1) ((ws ++ [l.drop fr] : List (List UInt8)).flatMap stf) := own_; obtain ⟨A33, c33, rfl⟩ := owk_val own_; have wyw := own_; have wy := (owk_sle (by decide) stf_len own_).1; have fr_wy := (owk_sle (by decide) stf_len own_).2; clear own_; have av_wy_it := owk_av wyw of33_it; have av_wy_b32 := owk_av wyw of33_b32))
        try clear R9
        try clear R26
        try clear R31
        go_ret
        exact ⟨_, rfl, by rw [← HP.out] at wyw; have hl := wy.1; rw [← HP.out] at hl; rw [hl]; exact wyw, bel⟩
      · have hu2 : decide (fr < l.length) = false := decide_eq_false hu
        have HP : Hid (linesL l = ws) := Lib.hid (by rw [HLE.out, if_neg hu])
        have R9 := fun ty => next_end (P := Try.prog) ty hit (hpl)
        have R26 := fun W => st_len l 3 W
        go_wp2_with fail
        clear R9 R26
        go_ret
        exact ⟨_, rfl, by rw [← HP.out] at wtw; have hl := wt.1; rw [← HP.out] at hl; rw [hl]; exact wtw, bel⟩
end Go.Proofs.Ytdfobilagidmfaa
