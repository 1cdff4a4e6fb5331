/- A range over a string: which bytes a step passes over; a number's text and a text that is cut, read on byte by byte: plain facts, of no program. -/
import Derived.Test.YtdfobilagidmfaaText
import Derived.Laws.RangeAny
import Derived.Lib.MapLaws
namespace Go.Proofs.Ytdfobilagidmfaa

theorem getD_at (s : ByteArray) (pos : Nat) (h : pos < s.size) : s.data.toList.getD pos 0 = s[pos]'h := by
  rw [List.getD_eq_getElem?_getD, List.getElem?_eq_getElem (by simpa using h)]; rfl
theorem get?_at (s : ByteArray) (pos : Nat) (h : pos < s.size) : s.data.toList[pos]? = some (s[pos]'h) := by
  rw [List.getElem?_eq_getElem (by simpa using h)]; rfl

/-- A rune beyond ASCII: its number, its width, and that all its bytes are beyond ASCII. -/
theorem rune_hi (s : ByteArray) (pos : Nat) (h : pos < s.size) (ha : 128 ≤ (s[pos]'h).toNat) :
    128 ≤ (Utf8.decode s pos).1 ∧ (Utf8.decode s pos).1 ≤ 1114111 ∧ 1 ≤ (Utf8.decode s pos).2 ∧ pos + (Utf8.decode s pos).2 ≤ s.size ∧
      ∀ j, j < (Utf8.decode s pos).2 → 128 ≤ (s.data.toList.getD (pos + j) 0).toNat := by
  have hl : s.data.toList.length = s.size := by simp
  have h0 : 128 ≤ (s.data.toList.getD pos 0).toNat := by rw [getD_at s pos h]; exact ha
  rw [Lib.decode_N, hl]
  have hb0 := (s.data.toList.getD pos 0).toNat_lt
  have hb1 := (s.data.toList.getD (pos + 1) 0).toNat_lt
  have hb2 := (s.data.toList.getD (pos + 2) 0).toNat_lt
  have hb3 := (s.data.toList.getD (pos + 3) 0).toNat_lt
  rcases Lib.decodeN_shape (s.size - pos) (s.data.toList.getD pos 0).toNat (s.data.toList.getD (pos + 1) 0).toNat (s.data.toList.getD (pos + 2) 0).toNat (s.data.toList.getD (pos + 3) 0).toNat with ⟨h1, _⟩ | ⟨h1, h2, h3, h4, e⟩ | ⟨h1, h2, h3, h4, h5, h6, e⟩ | ⟨h1, h2, h3, h4, h5, h6, h7, e⟩ | e
  · omega
  · rw [e]
    refine ⟨h4, by simp only; omega, by simp, by simp only; omega, fun j hj => ?_⟩
    simp only at hj
    rcases (by omega : j = 0 ∨ j = 1) with rfl | rfl
    · exact h0
    · omega
  · rw [e]
    refine ⟨by simp only; omega, by simp only; omega, by simp, by simp only; omega, fun j hj => ?_⟩
    simp only at hj
    rcases (by omega : j = 0 ∨ j = 1 ∨ j = 2) with rfl | rfl | rfl
    · exact h0
    · omega
    · omega
  · rw [e]
    refine ⟨by simp only; omega, by simp only; omega, by simp, by simp only; omega, fun j hj => ?_⟩
    simp only at hj
    rcases (by omega : j = 0 ∨ j = 1 ∨ j = 2 ∨ j = 3) with rfl | rfl | rfl | rfl
    · exact h0
    · omega
    · omega
    · omega
  · rw [e]
    refine ⟨by simp, by simp, by simp, by simp only; omega, fun j hj => ?_⟩
    simp only at hj
    obtain rfl : j = 0 := by omega
    exact h0

/-! ### A number's text -/
theorem numGo_le : ∀ (l : List UInt8) (v n : Nat), numGo l v = some n → v ≤ n
  | [], v, n, h => by simp [numGo] at h; omega
  | c :: t, v, n, h => by
    rw [numGo] at h
    split at h
    · cases h
    · have := numGo_le t _ n h; omega

/-- Behind k bytes, all of them digits, no nought ahead. -/
def DecInv (l : List UInt8) (k v : Nat) : Prop :=
  numGo (l.drop k) v = numGo l 0 ∧ ((k = 0 ∧ v = 0) ∨ (k = 1 ∧ v = 0 ∧ l[0]? = some 48) ∨ (1 ≤ k ∧ 10 ^ (k - 1) ≤ v ∧ l[0]? ≠ some 48))
theorem dec_start (l : List UInt8) : DecInv l 0 0 := ⟨by rw [List.drop_zero], .inl ⟨rfl, rfl⟩⟩
theorem drop_at {l : List UInt8} {k : Nat} {c : UInt8} (h : l[k]? = some c) : l.drop k = c :: l.drop (k + 1) := by
  obtain ⟨hk, e⟩ := List.getElem?_eq_some_iff.1 h
  rw [List.drop_eq_getElem_cons hk, e]
theorem dec_bad {l : List UInt8} {k v : Nat} {c : UInt8} (h : DecInv l k v) (hc : l[k]? = some c) (hd : c.toNat < 48 ∨ 57 < c.toNat) (most : Int) : numI l most = -1 := by
  refine numI_none most ?_
  rw [← h.1, drop_at hc, numGo, if_pos hd]
theorem dec_zero {l : List UInt8} {k : Nat} {c : UInt8} (h : DecInv l k 0) (hk : 0 < k) (hc : l[k]? = some c) (most : Int) : numI l most = -1 := by
  have hkl := (List.getElem?_eq_some_iff.1 hc).1
  rcases h.2 with ⟨h1, _⟩ | ⟨h1, _, h2⟩ | ⟨_, h1, _⟩
  · omega
  · exact numI_shape most (.inr (.inr ⟨by omega, h2⟩))
  · have := Nat.pow_pos (n := k - 1) (show 0 < 10 by omega)
    omega
theorem dec_next {l : List UInt8} {k v : Nat} {c : UInt8} (h : DecInv l k v) (hc : l[k]? = some c) (h0 : 48 ≤ c.toNat) (h1 : c.toNat ≤ 57) : numGo (l.drop (k + 1)) (10 * v + (c.toNat - 48)) = numGo l 0 := by
  rw [← h.1, drop_at hc, numGo, if_neg (by omega)]
theorem dec_big {l : List UInt8} {k v : Nat} {c : UInt8} (h : DecInv l k v) (hc : l[k]? = some c) (h0 : 48 ≤ c.toNat) (h1 : c.toNat ≤ 57) (most : Int) (hm : most < ((10 * v + (c.toNat - 48) : Nat) : Int)) : numI l most = -1 := by
  have hn := dec_next h hc h0 h1
  by_cases hs : l.length < 1 ∨ 9 < l.length ∨ (1 < l.length ∧ l[0]? = some 48)
  · exact numI_shape most hs
  · match hg : numGo l 0 with
    | none => exact numI_none most hg
    | some n =>
      rw [numI_some most n hs hg]
      rw [hg] at hn
      have := numGo_le _ _ _ hn
      rw [if_pos (by omega)]
theorem dec_step {l : List UInt8} {k v : Nat} {c : UInt8} (h : DecInv l k v) (hc : l[k]? = some c) (h0 : 48 ≤ c.toNat) (h1 : c.toNat ≤ 57) (hz : ¬ (0 < k ∧ v = 0)) : DecInv l (k + 1) (10 * v + (c.toNat - 48)) := by
  refine ⟨dec_next h hc h0 h1, ?_⟩
  rcases h.2 with ⟨rfl, rfl⟩ | ⟨h2, h3, _⟩ | ⟨h2, h3, h4⟩
  · by_cases h48 : c.toNat = 48
    · right; left
      refine ⟨rfl, by omega, ?_⟩
      rw [hc]; congr 1; exact UInt8.toNat_inj.1 h48
    · right; right
      refine ⟨by omega, by simp; omega, ?_⟩
      rw [hc]
      intro e
      have := Option.some.inj e
      rw [this] at h48
      exact h48 rfl
  · omega
  · right; right
    refine ⟨by omega, ?_, h4⟩
    have : (10 : Nat) ^ (k + 1 - 1) = 10 * 10 ^ (k - 1) := by
      rw [show k + 1 - 1 = (k - 1) + 1 by omega, Nat.pow_succ]; omega
    omega
theorem dec_none (most : Int) : numI [] most = -1 := numI_shape most (.inl (by simp))
theorem dec_end {l : List UInt8} {v : Nat} (h : DecInv l l.length v) (hl : 0 < l.length) (most : Int) (hv : (v : Int) ≤ most) (hm : most < 1000) : numI l most = v := by
  have hg : numGo l 0 = some v := by rw [← h.1, List.drop_length]; rfl
  rw [numI_some most v ?_ hg, if_neg (by omega)]
  rcases h.2 with ⟨h1, _⟩ | ⟨h1, _, _⟩ | ⟨h1, h2, h3⟩
  · omega
  · omega
  · rintro (h4 | h4 | ⟨_, h4⟩)
    · omega
    · have : (10 : Nat) ^ 9 ≤ 10 ^ (l.length - 1) := Nat.pow_le_pow_right (by omega) (by omega)
      omega
    · exact h3 h4

/-! ### A text that is cut -/
/-- Behind pos bytes: the pieces that are done, and where the last one begins. -/
def CutInv (b : UInt8) (l : List UInt8) (pos start : Nat) (ps : List (List UInt8)) : Prop :=
  start ≤ pos ∧ pos ≤ l.length ∧ cutF b (l.take pos) = ps ++ [(l.take pos).drop start]
theorem cutInv_start (b : UInt8) (l : List UInt8) : CutInv b l 0 0 [] := ⟨Nat.le_refl _, Nat.zero_le _, by simp [cutF]⟩
theorem cutF_app (b : UInt8) (l t : List UInt8) : cutF b (l ++ t) = t.foldl (cutStep b) (cutF b l) := by simp [cutF, List.foldl_append]
theorem fold_free (b : UInt8) : ∀ (t : List UInt8) (ls : List (List UInt8)) (x : List UInt8), (∀ c ∈ t, c ≠ b) → t.foldl (cutStep b) (ls ++ [x]) = ls ++ [x ++ t]
  | [], ls, x, _ => by simp
  | c :: t, ls, x, h => by
    rw [List.foldl_cons]
    have hc : cutStep b (ls ++ [x]) c = ls ++ [x ++ [c]] := by
      unfold cutStep; rw [if_neg (h c (by simp))]; simp
    rw [hc, fold_free b t ls (x ++ [c]) (fun y hy => h y (by simp [hy]))]
    simp
theorem fold_len (b : UInt8) : ∀ (t : List UInt8) (ls : List (List UInt8)), ls ≠ [] → ls.length ≤ (t.foldl (cutStep b) ls).length
  | [], _, _ => Nat.le_refl _
  | c :: t, ls, h => by
    rw [List.foldl_cons]
    have h1 := cutStep_len b ls c h
    have h2 := fold_len b t (cutStep b ls c) (cutStep_ne b ls c)
    split at h1 <;> omega
theorem cutInv_skip {b : UInt8} {l : List UInt8} {pos start : Nat} {ps : List (List UInt8)} (h : CutInv b l pos start ps) (k : Nat) (hk : pos + k ≤ l.length) (hb : ∀ j, j < k → l.getD (pos + j) 0 ≠ b) : CutInv b l (pos + k) start ps := by
  obtain ⟨h1, h2, h3⟩ := h
  refine ⟨by omega, hk, ?_⟩
  have e : l.take (pos + k) = l.take pos ++ (l.drop pos).take k := by rw [List.take_add]
  rw [e, cutF_app, h3, fold_free, ← List.drop_append_of_le_length (by rw [List.length_take]; omega)]
  intro c hc
  obtain ⟨j, hj, rfl⟩ := List.mem_iff_getElem.1 hc
  have hj' : j < k := by rw [List.length_take] at hj; omega
  have := hb j hj'
  rw [List.getD_eq_getElem?_getD] at this
  rw [List.getElem_take, List.getElem_drop]
  rw [List.getElem?_eq_getElem (by omega)] at this
  exact this
theorem cutInv_sep {b : UInt8} {l : List UInt8} {pos start : Nat} {ps : List (List UInt8)} (h : CutInv b l pos start ps) (hb : l[pos]? = some b) : CutInv b l (pos + 1) (pos + 1) (ps ++ [(l.take pos).drop start]) := by
  obtain ⟨h1, h2, h3⟩ := h
  have hl := (List.getElem?_eq_some_iff.1 hb).1
  refine ⟨Nat.le_refl _, by omega, ?_⟩
  have e : l.take (pos + 1) = l.take pos ++ [b] := by
    rw [List.take_add_one, hb]; rfl
  have e2 : (l.take (pos + 1)).drop (pos + 1) = [] := List.drop_of_length_le (by rw [List.length_take]; omega)
  rw [e2, e, cutF_app, h3]
  show cutStep b _ b = _
  unfold cutStep
  rw [if_pos rfl]
theorem cutInv_many {b : UInt8} {l : List UInt8} {pos start : Nat} {ps : List (List UInt8)} (h : CutInv b l pos start ps) (hb : l[pos]? = some b) : ps.length + 2 ≤ (cutF b l).length := by
  have h' := cutInv_sep h hb
  have e : l = l.take (pos + 1) ++ l.drop (pos + 1) := (List.take_append_drop _ _).symm
  rw [e, cutF_app, h'.2.2]
  have := fold_len b (l.drop (pos + 1)) (ps ++ [(l.take pos).drop start] ++ [(l.take (pos + 1)).drop (pos + 1)]) (by simp)
  simp only [List.length_append, List.length_singleton] at this
  omega
theorem cutInv_end {b : UInt8} {l : List UInt8} {start : Nat} {ps : List (List UInt8)} (h : CutInv b l l.length start ps) : cutF b l = ps ++ [l.drop start] := by
  have := h.2.2
  rwa [List.take_length] at this

theorem extract_str (s : ByteArray) (i j : Nat) : s.extract i j = ⟨((s.data.toList.take j).drop i).toArray⟩ := by
  apply ByteArray.ext
  rw [ByteArray.data_extract]
  apply Array.ext'
  simp only [Array.toList_extract, List.extract_eq_take_drop]
  rw [List.drop_take]
theorem extract_end (s : ByteArray) (i : Nat) : s.extract i s.size = ⟨(s.data.toList.drop i).toArray⟩ := by
  rw [extract_str, List.take_of_length_le (by simp)]
end Go.Proofs.Ytdfobilagidmfaa
