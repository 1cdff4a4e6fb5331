/- Texts of numbers and addresses, as lists of bytes: of no program. -/
namespace Go.Proofs.Ytdfobilagidmfaa

/-- Digits, read on from v. -/
def numGo : List UInt8 → Nat → Option Nat
  | [], v => some v
  | c :: t, v => if c.toNat < 48 ∨ 57 < c.toNat then none else numGo t (10 * v + (c.toNat - 48))
/-- A number without noughts ahead, of at most nine digits, at most so great; -1: none. -/
def numI (l : List UInt8) (most : Int) : Int :=
  if l.length < 1 ∨ 9 < l.length ∨ (1 < l.length ∧ l[0]? = some 48) then -1
  else match numGo l 0 with
    | none => -1
    | some n => if most < n then -1 else n
theorem numI_shape {l : List UInt8} (most : Int) (h : l.length < 1 ∨ 9 < l.length ∨ (1 < l.length ∧ l[0]? = some 48)) : numI l most = -1 := if_pos h
theorem numI_none {l : List UInt8} (most : Int) (h : numGo l 0 = none) : numI l most = -1 := by unfold numI; rw [h]; split <;> rfl
theorem numI_some {l : List UInt8} (most : Int) (n : Nat) (h0 : ¬ (l.length < 1 ∨ 9 < l.length ∨ (1 < l.length ∧ l[0]? = some 48))) (h : numGo l 0 = some n) : numI l most = if most < (n : Int) then -1 else (n : Int) := by
  unfold numI; rw [if_neg h0, h]
theorem numI_range (l : List UInt8) (most : Int) : numI l most = -1 ∨ (0 ≤ numI l most ∧ numI l most ≤ most) := by
  unfold numI
  split
  · exact .inl rfl
  · split
    · exact .inl rfl
    · split
      · exact .inl rfl
      · right; omega

/-- A text at each such byte: from the left, the last piece growing. -/
def cutStep (b : UInt8) (ls : List (List UInt8)) (c : UInt8) : List (List UInt8) :=
  if c = b then ls ++ [[]] else ls.dropLast ++ [ls.getLastD [] ++ [c]]
def cutF (b : UInt8) (l : List UInt8) : List (List UInt8) := l.foldl (cutStep b) [[]]
theorem cutStep_ne (b : UInt8) (ls : List (List UInt8)) (c : UInt8) : cutStep b ls c ≠ [] := by unfold cutStep; split <;> simp
theorem cutF_snoc (b : UInt8) (l : List UInt8) (c : UInt8) : cutF b (l ++ [c]) = cutStep b (cutF b l) c := by simp [cutF, List.foldl_append]
theorem cutF_ne (b : UInt8) (l : List UInt8) : cutF b l ≠ [] := by
  rcases List.eq_nil_or_concat l with h | ⟨t, c, h⟩
  · rw [h]; simp [cutF]
  · rw [h, List.concat_eq_append, cutF_snoc]; exact cutStep_ne _ _ _
theorem cutStep_len (b : UInt8) (ls : List (List UInt8)) (c : UInt8) (h : ls ≠ []) : (cutStep b ls c).length = if c = b then ls.length + 1 else ls.length := by
  unfold cutStep
  split
  · simp
  · have : 0 < ls.length := List.length_pos_iff.2 h
    simp; omega
theorem cutF_len_rev (b : UInt8) : ∀ (r : List UInt8), (cutF b r.reverse).length ≤ r.length + 1
  | [] => by simp [cutF]
  | c :: r => by
    rw [List.reverse_cons, cutF_snoc, cutStep_len b _ c (cutF_ne b _)]
    have := cutF_len_rev b r
    rw [List.length_cons]
    split <;> omega
theorem cutF_len (b : UInt8) (l : List UInt8) : (cutF b l).length ≤ l.length + 1 := by
  have := cutF_len_rev b l.reverse
  rwa [List.reverse_reverse, List.length_reverse] at this
theorem cutF_piece_rev (b : UInt8) : ∀ (r : List UInt8), ∀ x ∈ cutF b r.reverse, x.length ≤ r.length
  | [] => by simp [cutF]
  | c :: r => by
    have ih := cutF_piece_rev b r
    have hne := cutF_ne b r.reverse
    rw [List.reverse_cons, cutF_snoc]
    generalize cutF b r.reverse = ls at *
    intro x hx
    unfold cutStep at hx
    split at hx
    · rcases List.mem_append.1 hx with h | h
      · have := ih x h; rw [List.length_cons]; omega
      · rw [List.mem_singleton.1 h]; simp
    · rcases List.mem_append.1 hx with h | h
      · have := ih x (List.dropLast_subset _ h); rw [List.length_cons]; omega
      · rw [List.mem_singleton.1 h, List.length_append, List.length_cons]
        have hm : ls.getLastD [] ∈ ls := by
          obtain ⟨i, x, rfl⟩ : ∃ i x, ls = i ++ [x] := ⟨ls.dropLast, ls.getLast hne, (List.dropLast_concat_getLast hne).symm⟩
          simp
        have := ih _ hm
        rw [List.length_nil, List.length_cons]; omega
theorem cutF_piece (b : UInt8) (l : List UInt8) : ∀ x ∈ cutF b l, x.length ≤ l.length := by
  have := cutF_piece_rev b l.reverse
  rwa [List.reverse_reverse, List.length_reverse] at this
end Go.Proofs.Ytdfobilagidmfaa
