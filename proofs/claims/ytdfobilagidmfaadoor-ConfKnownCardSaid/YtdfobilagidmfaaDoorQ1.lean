/- Texts put together: Text, Scan, Mem, Memz, Walks, Rdb, Rdf, App, Blk, Stp, Vst, Vfr, Vfs, Vap, Sle, Str, Cf1, Ref3, Cf2. -/
import Derived.Laws.RangeAny
import Derived.Lib.MapLaws
import Derived.WalkKit
import Derived.Laws.BytesArg
import Derived.Laws.IdiomStrings
import Derived.Maps.AppendAt
import Derived.Lib.AppendZerosOnto
import Derived.Lib.Hide
import Derived.Test.YtdfobilagidmfaaDoorRows
import Derived.WalkSpells
import Derived.WalkLawsBesides
import Derived.Laws.CopyOwn
import Derived.Deep.MidRow
import Derived.Laws.ResultCell
import Derived.DeepKeys
import Derived.Stop.BytesEq
import Derived.Laws.StructEq
import Derived.Laws.Tables
import Derived.Laws.Concat
import Derived.Laws.Strings3
import Derived.Deep.LoopGhost
import Derived.BigRegion
import Derived.Laws.OwnMore
namespace Go.Proofs.YtdfobilagidmfaaDoor
/-- Digits, read on from v. -/
def numGo : List UInt8 → Nat → Option Nat
  | [], v => some v
  | c :: t, v => if c.toNat < 48 ∨ 57 < c.toNat then none else numGo t (10 * v + (c.toNat - 48))
/-- A number without noughts ahead, of at most nine digits, at most so great; -1: none. -/
def numI (l : List UInt8) (most : Int) : Int :=
  if l.length < 1 ∨ 9 < l.length ∨ (1 < l.length ∧ l[0]? = some 48) then -1
  else match numGo l 0 with
    | none => -1
    | some n => if most < n then -1 else n
theorem numI_shape {l : List UInt8} (most : Int) (h : l.length < 1 ∨ 9 < l.length ∨ (1 < l.length ∧ l[0]? = some 48)) : numI l most = -1 := if_pos h
theorem numI_none {l : List UInt8} (most : Int) (h : numGo l 0 = none) : numI l most = -1 := by unfold numI; rw [h]; split <;> rfl
theorem numI_some {l : List UInt8} (most : Int) (n : Nat) (h0 : ¬ (l.length < 1 ∨ 9 < l.length ∨ (1 < l.length ∧ l[0]? = some 48))) (h : numGo l 0 = some n) : numI l most = if most < (n : Int) then -1 else (n : Int) := by
  unfold numI; rw [if_neg h0, h]
theorem numI_range (l : List UInt8) (most : Int) : numI l most = -1 ∨ (0 ≤ numI l most ∧ numI l most ≤ most) := by
  unfold numI
  split
  · exact .inl rfl
  · split
    · exact .inl rfl
    · split
      · exact .inl rfl
      · right; omega

/-- A text at each such byte: from the left, the last piece growing. -/
def cutStep (b : UInt8) (ls : List (List UInt8)) (c : UInt8) : List (List UInt8) :=
  if c = b then ls ++ [[]] else ls.dropLast ++ [ls.getLastD [] ++ [c]]
def cutF (b : UInt8) (l : List UInt8) : List (List UInt8) := l.foldl (cutStep b) [[]]
theorem cutStep_ne (b : UInt8) (ls : List (List UInt8)) (c : UInt8) : cutStep b ls c ≠ [] := by unfold cutStep; split <;> simp
theorem cutF_snoc (b : UInt8) (l : List UInt8) (c : UInt8) : cutF b (l ++ [c]) = cutStep b (cutF b l) c := by simp [cutF, List.foldl_append]
theorem cutF_ne (b : UInt8) (l : List UInt8) : cutF b l ≠ [] := by
  rcases List.eq_nil_or_concat l with h | ⟨t, c, h⟩
  · rw [h]; simp [cutF]
  · rw [h, List.concat_eq_append, cutF_snoc]; exact cutStep_ne _ _ _
theorem cutStep_len (b : UInt8) (ls : List (List UInt8)) (c : UInt8) (h : ls ≠ []) : (cutStep b ls c).length = if c = b then ls.length + 1 else ls.length := by
  unfold cutStep
  split
  · simp
  · have : 0 < ls.length := List.length_pos_iff.2 h
    simp; omega
theorem cutF_piece_rev (b : UInt8) : ∀ (r : List UInt8), ∀ x ∈ cutF b r.reverse, x.length ≤ r.length
  | [] => by simp [cutF]
  | c :: r => by
    have ih := cutF_piece_rev b r
    have hne := cutF_ne b r.reverse
    rw [List.reverse_cons, cutF_snoc]
    generalize cutF b r.reverse = ls at *
    intro x hx
    unfold cutStep at hx
    split at hx
    · rcases List.mem_append.1 hx with h | h
      · have := ih x h; rw [List.length_cons]; omega
      · rw [List.mem_singleton.1 h]; simp
    · rcases List.mem_append.1 hx with h | h
      · have := ih x (List.dropLast_subset _ h); rw [List.length_cons]; omega
      · rw [List.mem_singleton.1 h, List.length_append, List.length_cons]
        have hm : ls.getLastD [] ∈ ls := by
          obtain ⟨i, x, rfl⟩ : ∃ i x, ls = i ++ [x] := ⟨ls.dropLast, ls.getLast hne, (List.dropLast_concat_getLast hne).symm⟩
          simp
        have := ih _ hm
        rw [List.length_nil, List.length_cons]; omega
theorem cutF_piece (b : UInt8) (l : List UInt8) : ∀ x ∈ cutF b l, x.length ≤ l.length := by
  have := cutF_piece_rev b l.reverse
  rwa [List.reverse_reverse, List.length_reverse] at this
theorem getD_at (s : ByteArray) (pos : Nat) (h : pos < s.size) : s.data.toList.getD pos 0 = s[pos]'h := by
  rw [List.getD_eq_getElem?_getD, List.getElem?_eq_getElem (by simpa using h)]; rfl
theorem get?_at (s : ByteArray) (pos : Nat) (h : pos < s.size) : s.data.toList[pos]? = some (s[pos]'h) := by
  rw [List.getElem?_eq_getElem (by simpa using h)]; rfl

/-- A rune beyond ASCII: its number, its width, and that all its bytes are beyond ASCII. -/
theorem rune_hi (s : ByteArray) (pos : Nat) (h : pos < s.size) (ha : 128 ≤ (s[pos]'h).toNat) :
    128 ≤ (Utf8.decode s pos).1 ∧ (Utf8.decode s pos).1 ≤ 1114111 ∧ 1 ≤ (Utf8.decode s pos).2 ∧ pos + (Utf8.decode s pos).2 ≤ s.size ∧
      ∀ j, j < (Utf8.decode s pos).2 → 128 ≤ (s.data.toList.getD (pos + j) 0).toNat := by
  have hl : s.data.toList.length = s.size := by simp
  have h0 : 128 ≤ (s.data.toList.getD pos 0).toNat := by rw [getD_at s pos h]; exact ha
  rw [Lib.decode_N, hl]
  have hb0 := (s.data.toList.getD pos 0).toNat_lt
  have hb1 := (s.data.toList.getD (pos + 1) 0).toNat_lt
  have hb2 := (s.data.toList.getD (pos + 2) 0).toNat_lt
  have hb3 := (s.data.toList.getD (pos + 3) 0).toNat_lt
  rcases Lib.decodeN_shape (s.size - pos) (s.data.toList.getD pos 0).toNat (s.data.toList.getD (pos + 1) 0).toNat (s.data.toList.getD (pos + 2) 0).toNat (s.data.toList.getD (pos + 3) 0).toNat with ⟨h1, _⟩ | ⟨h1, h2, h3, h4, e⟩ | ⟨h1, h2, h3, h4, h5, h6, e⟩ | ⟨h1, h2, h3, h4, h5, h6, h7, e⟩ | e
  · omega
  · rw [e]
    refine ⟨h4, by simp only; omega, by simp, by simp only; omega, fun j hj => ?_⟩
    simp only at hj
    rcases (by omega : j = 0 ∨ j = 1) with rfl | rfl
    · exact h0
    · omega
  · rw [e]
    refine ⟨by simp only; omega, by simp only; omega, by simp, by simp only; omega, fun j hj => ?_⟩
    simp only at hj
    rcases (by omega : j = 0 ∨ j = 1 ∨ j = 2) with rfl | rfl | rfl
    · exact h0
    · omega
    · omega
  · rw [e]
    refine ⟨by simp only; omega, by simp only; omega, by simp, by simp only; omega, fun j hj => ?_⟩
    simp only at hj
    rcases (by omega : j = 0 ∨ j = 1 ∨ j = 2 ∨ j = 3) with rfl | rfl | rfl | rfl
    · exact h0
    · omega
    · omega
    · omega
  · rw [e]
    refine ⟨by simp, by simp, by simp, by simp only; omega, fun j hj => ?_⟩
    simp only at hj
    obtain rfl : j = 0 := by omega
    exact h0

/-! ### A number's text -/
theorem numGo_le : ∀ (l : List UInt8) (v n : Nat), numGo l v = some n → v ≤ n
  | [], v, n, h => by simp [numGo] at h; omega
  | c :: t, v, n, h => by
    rw [numGo] at h
    split at h
    · cases h
    · have := numGo_le t _ n h; omega

/-- Behind k bytes, all of them digits, no nought ahead. -/
def DecInv (l : List UInt8) (k v : Nat) : Prop :=
  numGo (l.drop k) v = numGo l 0 ∧ ((k = 0 ∧ v = 0) ∨ (k = 1 ∧ v = 0 ∧ l[0]? = some 48) ∨ (1 ≤ k ∧ 10 ^ (k - 1) ≤ v ∧ l[0]? ≠ some 48))
theorem dec_start (l : List UInt8) : DecInv l 0 0 := ⟨by rw [List.drop_zero], .inl ⟨rfl, rfl⟩⟩
theorem drop_at {l : List UInt8} {k : Nat} {c : UInt8} (h : l[k]? = some c) : l.drop k = c :: l.drop (k + 1) := by
  obtain ⟨hk, e⟩ := List.getElem?_eq_some_iff.1 h
  rw [List.drop_eq_getElem_cons hk, e]
theorem dec_bad {l : List UInt8} {k v : Nat} {c : UInt8} (h : DecInv l k v) (hc : l[k]? = some c) (hd : c.toNat < 48 ∨ 57 < c.toNat) (most : Int) : numI l most = -1 := by
  refine numI_none most ?_
  rw [← h.1, drop_at hc, numGo, if_pos hd]
theorem dec_zero {l : List UInt8} {k : Nat} {c : UInt8} (h : DecInv l k 0) (hk : 0 < k) (hc : l[k]? = some c) (most : Int) : numI l most = -1 := by
  have hkl := (List.getElem?_eq_some_iff.1 hc).1
  rcases h.2 with ⟨h1, _⟩ | ⟨h1, _, h2⟩ | ⟨_, h1, _⟩
  · omega
  · exact numI_shape most (.inr (.inr ⟨by omega, h2⟩))
  · have := Nat.pow_pos (n := k - 1) (show 0 < 10 by omega)
    omega
theorem dec_next {l : List UInt8} {k v : Nat} {c : UInt8} (h : DecInv l k v) (hc : l[k]? = some c) (h0 : 48 ≤ c.toNat) (h1 : c.toNat ≤ 57) : numGo (l.drop (k + 1)) (10 * v + (c.toNat - 48)) = numGo l 0 := by
  rw [← h.1, drop_at hc, numGo, if_neg (by omega)]
theorem dec_big {l : List UInt8} {k v : Nat} {c : UInt8} (h : DecInv l k v) (hc : l[k]? = some c) (h0 : 48 ≤ c.toNat) (h1 : c.toNat ≤ 57) (most : Int) (hm : most < ((10 * v + (c.toNat - 48) : Nat) : Int)) : numI l most = -1 := by
  have hn := dec_next h hc h0 h1
  by_cases hs : l.length < 1 ∨ 9 < l.length ∨ (1 < l.length ∧ l[0]? = some 48)
  · exact numI_shape most hs
  · match hg : numGo l 0 with
    | none => exact numI_none most hg
    | some n =>
      rw [numI_some most n hs hg]
      rw [hg] at hn
      have := numGo_le _ _ _ hn
      rw [if_pos (by omega)]
theorem dec_step {l : List UInt8} {k v : Nat} {c : UInt8} (h : DecInv l k v) (hc : l[k]? = some c) (h0 : 48 ≤ c.toNat) (h1 : c.toNat ≤ 57) (hz : ¬ (0 < k ∧ v = 0)) : DecInv l (k + 1) (10 * v + (c.toNat - 48)) := by
  refine ⟨dec_next h hc h0 h1, ?_⟩
  rcases h.2 with ⟨rfl, rfl⟩ | ⟨h2, h3, _⟩ | ⟨h2, h3, h4⟩
  · by_cases h48 : c.toNat = 48
    · right; left
      refine ⟨rfl, by omega, ?_⟩
      rw [hc]; congr 1; exact UInt8.toNat_inj.1 h48
    · right; right
      refine ⟨by omega, by simp; omega, ?_⟩
      rw [hc]
      intro e
      have := Option.some.inj e
      rw [this] at h48
      exact h48 rfl
  · omega
  · right; right
    refine ⟨by omega, ?_, h4⟩
    have : (10 : Nat) ^ (k + 1 - 1) = 10 * 10 ^ (k - 1) := by
      rw [show k + 1 - 1 = (k - 1) + 1 by omega, Nat.pow_succ]; omega
    omega
theorem dec_none (most : Int) : numI [] most = -1 := numI_shape most (.inl (by simp))
theorem dec_end {l : List UInt8} {v : Nat} (h : DecInv l l.length v) (hl : 0 < l.length) (most : Int) (hv : (v : Int) ≤ most) (hm : most < 1000) : numI l most = v := by
  have hg : numGo l 0 = some v := by rw [← h.1, List.drop_length]; rfl
  rw [numI_some most v ?_ hg, if_neg (by omega)]
  rcases h.2 with ⟨h1, _⟩ | ⟨h1, _, _⟩ | ⟨h1, h2, h3⟩
  · omega
  · omega
  · rintro (h4 | h4 | ⟨_, h4⟩)
    · omega
    · have : (10 : Nat) ^ 9 ≤ 10 ^ (l.length - 1) := Nat.pow_le_pow_right (by omega) (by omega)
      omega
    · exact h3 h4

/-! ### A text that is cut -/
/-- Behind pos bytes: the pieces that are done, and where the last one begins. -/
def CutInv (b : UInt8) (l : List UInt8) (pos start : Nat) (ps : List (List UInt8)) : Prop :=
  start ≤ pos ∧ pos ≤ l.length ∧ cutF b (l.take pos) = ps ++ [(l.take pos).drop start]
theorem cutInv_start (b : UInt8) (l : List UInt8) : CutInv b l 0 0 [] := ⟨Nat.le_refl _, Nat.zero_le _, by simp [cutF]⟩
theorem cutF_app (b : UInt8) (l t : List UInt8) : cutF b (l ++ t) = t.foldl (cutStep b) (cutF b l) := by simp [cutF, List.foldl_append]
theorem fold_free (b : UInt8) : ∀ (t : List UInt8) (ls : List (List UInt8)) (x : List UInt8), (∀ c ∈ t, c ≠ b) → t.foldl (cutStep b) (ls ++ [x]) = ls ++ [x ++ t]
  | [], ls, x, _ => by simp
  | c :: t, ls, x, h => by
    rw [List.foldl_cons]
    have hc : cutStep b (ls ++ [x]) c = ls ++ [x ++ [c]] := by
      unfold cutStep; rw [if_neg (h c (by simp))]; simp
    rw [hc, fold_free b t ls (x ++ [c]) (fun y hy => h y (by simp [hy]))]
    simp
theorem fold_len (b : UInt8) : ∀ (t : List UInt8) (ls : List (List UInt8)), ls ≠ [] → ls.length ≤ (t.foldl (cutStep b) ls).length
  | [], _, _ => Nat.le_refl _
  | c :: t, ls, h => by
    rw [List.foldl_cons]
    have h1 := cutStep_len b ls c h
    have h2 := fold_len b t (cutStep b ls c) (cutStep_ne b ls c)
    split at h1 <;> omega
theorem cutInv_skip {b : UInt8} {l : List UInt8} {pos start : Nat} {ps : List (List UInt8)} (h : CutInv b l pos start ps) (k : Nat) (hk : pos + k ≤ l.length) (hb : ∀ j, j < k → l.getD (pos + j) 0 ≠ b) : CutInv b l (pos + k) start ps := by
  obtain ⟨h1, h2, h3⟩ := h
  refine ⟨by omega, hk, ?_⟩
  have e : l.take (pos + k) = l.take pos ++ (l.drop pos).take k := by rw [List.take_add]
  rw [e, cutF_app, h3, fold_free, ← List.drop_append_of_le_length (by rw [List.length_take]; omega)]
  intro c hc
  obtain ⟨j, hj, rfl⟩ := List.mem_iff_getElem.1 hc
  have hj' : j < k := by rw [List.length_take] at hj; omega
  have := hb j hj'
  rw [List.getD_eq_getElem?_getD] at this
  rw [List.getElem_take, List.getElem_drop]
  rw [List.getElem?_eq_getElem (by omega)] at this
  exact this
theorem cutInv_sep {b : UInt8} {l : List UInt8} {pos start : Nat} {ps : List (List UInt8)} (h : CutInv b l pos start ps) (hb : l[pos]? = some b) : CutInv b l (pos + 1) (pos + 1) (ps ++ [(l.take pos).drop start]) := by
  obtain ⟨h1, h2, h3⟩ := h
  have hl := (List.getElem?_eq_some_iff.1 hb).1
  refine ⟨Nat.le_refl _, by omega, ?_⟩
  have e : l.take (pos + 1) = l.take pos ++ [b] := by
    rw [List.take_add_one, hb]; rfl
  have e2 : (l.take (pos + 1)).drop (pos + 1) = [] := List.drop_of_length_le (by rw [List.length_take]; omega)
  rw [e2, e, cutF_app, h3]
  show cutStep b _ b = _
  unfold cutStep
  rw [if_pos rfl]
theorem cutInv_many {b : UInt8} {l : List UInt8} {pos start : Nat} {ps : List (List UInt8)} (h : CutInv b l pos start ps) (hb : l[pos]? = some b) : ps.length + 2 ≤ (cutF b l).length := by
  have h' := cutInv_sep h hb
  have e : l = l.take (pos + 1) ++ l.drop (pos + 1) := (List.take_append_drop _ _).symm
  rw [e, cutF_app, h'.2.2]
  have := fold_len b (l.drop (pos + 1)) (ps ++ [(l.take pos).drop start] ++ [(l.take (pos + 1)).drop (pos + 1)]) (by simp)
  simp only [List.length_append, List.length_singleton] at this
  omega
theorem cutInv_end {b : UInt8} {l : List UInt8} {start : Nat} {ps : List (List UInt8)} (h : CutInv b l l.length start ps) : cutF b l = ps ++ [l.drop start] := by
  have := h.2.2
  rwa [List.take_length] at this

theorem extract_str (s : ByteArray) (i j : Nat) : s.extract i j = ⟨((s.data.toList.take j).drop i).toArray⟩ := by
  apply ByteArray.ext
  rw [ByteArray.data_extract]
  apply Array.ext'
  simp only [Array.toList_extract, List.extract_eq_take_drop]
  rw [List.drop_take]
theorem extract_end (s : ByteArray) (i : Nat) : s.extract i s.size = ⟨(s.data.toList.drop i).toArray⟩ := by
  rw [extract_str, List.take_of_length_le (by simp)]
open Go.RowKit

/-- A byte as a cell's value. -/
def u8v (b : UInt8) : Value := .int .u8 (b.toNat : Int)

/-- The slice with address A, length n, capacity c reads as the bytes l. -/
def Sl (w : World) (A : Option Addr) (n c : Nat) (l : List UInt8) : Prop :=
  l.length = n ∧ n ≤ c ∧ c ≤ maxLen ∧ (0 < n → ∃ g o, A = some ⟨g, o, none⟩ ∧ ∀ j b, l[j]? = some b → w.cell? ⟨g, o + j, none⟩ = some (u8v b))

theorem cell_lt {w : World} {a : Addr} {v : Value} (h : w.cell? a = some v) : a.block < w.heap.size := by
  rcases Nat.lt_or_ge a.block w.heap.size with hlt | hge
  · exact hlt
  · simp [World.cell?, Array.getElem?_eq_none hge] at h

theorem Sl.nil (w : World) : Sl w none 0 0 [] := ⟨rfl, Nat.le_refl _, Nat.zero_le _, fun h => absurd h (by omega)⟩

theorem Sl.keep {w w' : World} {A : Option Addr} {n c : Nat} {l : List UInt8} (h : Sl w A n c l)
    (hk : ∀ g o b, w.cell? ⟨g, o, none⟩ = some (u8v b) → w'.cell? ⟨g, o, none⟩ = some (u8v b)) : Sl w' A n c l :=
  ⟨h.1, h.2.1, h.2.2.1, fun hn => by
    obtain ⟨g, o, e, hc⟩ := h.2.2.2 hn
    exact ⟨g, o, e, fun j b hj => hk _ _ _ (hc j b hj)⟩⟩

theorem Sl.below {w w' : World} {A : Option Addr} {n c : Nat} {l : List UInt8} (h : Sl w A n c l) (hb : Below w.heap.size w w') : Sl w' A n c l :=
  h.keep fun _ _ _ hc => (hb.cell (cell_lt hc)).trans hc

/-- A Reader at block g: its rest reads as l; is it short? -/
def Rd (w : World) (T : TypeId) (g : Nat) (l : List UInt8) (s : Bool) : Prop :=
  ∃ A n c, w.heap[g]? = some (.cells #[.slice A n c, .bool s] T (0, 0)) ∧ Sl w A n c l

theorem cell_of_rd {w : World} {T : TypeId} {g : Nat} {A : Option Addr} {n c : Nat} {s : Bool} (h : w.heap[g]? = some (.cells #[.slice A n c, .bool s] T (0, 0))) :
    w.cell? ⟨g, 0, none⟩ = some (.slice A n c) ∧ w.cell? ⟨g, 1, none⟩ = some (.bool s) := by
  simp [World.cell?, h]

/-- A slice's bytes lie in no Reader's block. -/
theorem byte_not_rd {w : World} {T : TypeId} {g o : Nat} {A : Option Addr} {n c : Nat} {s : Bool} {b : UInt8} {g' : Nat} (h : w.heap[g]? = some (.cells #[.slice A n c, .bool s] T (0, 0)))
    (hc : w.cell? ⟨g', o, none⟩ = some (u8v b)) : g' ≠ g := by
  rintro rfl
  simp [World.cell?, h, u8v] at hc
  match o, hc with
  | 0, hc => simp at hc
  | 1, hc => simp at hc
  | o + 2, hc => simp at hc

theorem Sl.far {w w' : World} {A : Option Addr} {n c : Nat} {l : List UInt8} (h : Sl w A n c l) {T : TypeId} {g : Nat} {l' : List UInt8} {s : Bool} (hr : Rd w T g l' s) (hg : w.grownBy w' (some g)) : Sl w' A n c l := by
  obtain ⟨A', n', c', hb, _⟩ := hr
  refine h.keep fun g' o b hc => ?_
  have hne := byte_not_rd hb hc
  exact (World.cell?_of_block (w := w) (hg.block g' (cell_lt hc) (fun e => hne (by injection e)))).trans hc

theorem Rd.lt {w : World} {T : TypeId} {g : Nat} {l : List UInt8} {s : Bool} (h : Rd w T g l s) : g < w.heap.size := by
  obtain ⟨A, n, c, hb, _⟩ := h
  exact cell_lt (a := ⟨g, 0, none⟩) (cell_of_rd hb).1

theorem Rd.below {w w' : World} {T : TypeId} {g : Nat} {l : List UInt8} {s : Bool} (h : Rd w T g l s) (hb : Below w.heap.size w w') : Rd w' T g l s := by
  have hlt := h.lt
  obtain ⟨A, n, c, h1, h2⟩ := h
  exact ⟨A, n, c, (hb.block g hlt).trans h1, h2.below hb⟩

theorem Sl.take {w : World} {A : Option Addr} {n c k : Nat} {l : List UInt8} (h : Sl w A n c l) (hk : k ≤ n) : Sl w A k c (l.take k) := by
  obtain ⟨h1, h2, h3, h4⟩ := h
  refine ⟨by rw [List.length_take]; omega, by omega, h3, fun hn => ?_⟩
  obtain ⟨g, o, e, hc⟩ := h4 (by omega)
  refine ⟨g, o, e, fun j b hj => hc j b ?_⟩
  rw [List.getElem?_take] at hj
  split at hj
  · exact hj
  · cases hj

theorem Sl.drop {w : World} {A : Option Addr} {n c k : Nat} {l : List UInt8} (h : Sl w A n c l) (hk : k ≤ n) :
    Sl w (if c = k then A else A.map (·.add (k * 1))) (n - k) (c - k) (l.drop k) := by
  obtain ⟨h1, h2, h3, h4⟩ := h
  refine ⟨by rw [List.length_drop]; omega, by omega, by omega, fun hn => ?_⟩
  obtain ⟨g, o, rfl, hc⟩ := h4 (by omega)
  rw [if_neg (by omega)]
  refine ⟨g, o + k, ?_, fun j b hj => ?_⟩
  · by_cases h0 : k = 0
    · subst h0; simp [Addr.add]
    · simp [Addr.add, h0]
  · rw [List.getElem?_drop] at hj
    rw [Nat.add_assoc]
    exact hc _ _ hj

/-- 'string(b)'. -/
theorem Sl.str {P : Program} {w : World} {A : Option Addr} {n c : Nat} {l : List UInt8} (h : Sl w A n c l) (src e dst : TypeId) (hs : P.underlying src = some (.slice e)) (he : P.underlying e = some (.int .u8)) (hd : P.underlying dst = some .string) :
    (convert src dst (.slice A n c)).run P w = .ok (.string ⟨l.toArray⟩) w := by
  obtain ⟨h1, h2, h3, h4⟩ := h
  rcases Nat.eq_zero_or_pos n with h0 | h0
  · subst h0
    obtain rfl := List.eq_nil_of_length_eq_zero h1
    rcases A with _ | ad
    · exact run_convert_bytes_nil w src e hs he _ _ dst hd
    · exact run_convert_bytes_back w src dst e ad c [] hs he hd (fun j hj => absurd hj (by simp))
  · obtain ⟨g, o, rfl, hc⟩ := h4 h0
    rw [← h1]
    refine run_convert_bytes_back w src dst e ⟨g, o, none⟩ c l hs he hd (fun j hj => ?_)
    rw [Addr.add_lit]
    exact hc j _ (List.getElem?_eq_getElem hj)

/-- What owns a row of bytes reads as these bytes. -/
theorem Sl.of_own {w : World} {base : Nat} {e : TypeId} {v : Value} {l : List UInt8} {n : Nat} (h : w.ownsRow base e 1 v n (l.map u8v)) : ∃ A c, v = .slice A n c ∧ Sl w A n c l := by
  have hl : l.length = n := by simpa using h.1
  rcases h.2 with ⟨rfl, rfl⟩ | ⟨g, cap, cur, rfl, _, hh, hn, hm, hs, ht⟩
  · exact ⟨none, 0, rfl, hl, Nat.le_refl _, Nat.zero_le _, fun h => absurd h (by omega)⟩
  · refine ⟨_, _, rfl, hl, hn, hm, fun _ => ⟨g, 0, rfl, fun j b hj => ?_⟩⟩
    have hjl : j < l.length := (List.getElem?_eq_some_iff.1 hj).1
    have e1 : cur.toList[j]? = some (u8v b) := by
      have : (cur.toList.take (n * 1))[j]? = some (u8v b) := by rw [ht]; simp [hj]
      rw [List.getElem?_take] at this
      split at this
      · exact this
      · cases this
    simp [World.cell?, hh]
    simpa using e1

/-- The cells of a slice, as the laws on append ask for them. -/
theorem Sl.cells {w : World} {A : Option Addr} {n c : Nat} {l : List UInt8} (h : Sl w A n c l) : ∀ ad, A = some ad → ∀ j u, (l.map u8v)[j]? = some u → w.cell? (ad.add j) = some u := by
  intro ad hA j u hu
  have hj : j < l.length := by
    have := (List.getElem?_eq_some_iff.1 hu).1
    simpa using this
  obtain ⟨g, o, e, hc⟩ := h.2.2.2 (by have := h.1; omega)
  rw [hA] at e
  obtain rfl := Option.some.inj e
  rw [Addr.add_lit, hc j _ (List.getElem?_eq_getElem hj)]
  simpa [List.getElem?_eq_getElem hj] using hu

theorem oneCell_u8 (l : List UInt8) : ∀ u ∈ l.map u8v, u.oneCell' = true := by
  intro u hu
  obtain ⟨_, _, rfl⟩ := List.mem_map.1 hu
  rfl

/-- append of bytes onto a row of the call's own, whatever the source. -/
theorem run_append_bytes {P : Program} (w : World) (base : Nat) (t ty e : TypeId) (i : TypeInfo) (z : Value) (ht : P.underlying t = some (.slice e)) (hi : P.info? e = some i) (hz : i.zero = some z)
    (hsize : i.size = 1) (hby : i.bytes = 1) (hzs : z.cells.size = 1)
    (v : Value) (n : Nat) (l : List UInt8) (hown : w.ownsRow base e 1 v n (l.map u8v))
    (A : Option Addr) (m c : Nat) (l2 : List UInt8) (hr : Sl w A m c l2)
    (h63 : n + m ≤ 140737488355328) (hbase : base ≤ w.heap.size) :
    ∃ v' w', (Builtin.append_ #[t, t] ty #[v, .slice A m c]).run P w = .ok v' w' ∧ w'.ownsRow base e 1 v' (n + m) ((l ++ l2).map u8v) ∧ w.grownBy w' v.ownBlock ∧
      (v'.ownBlock = v.ownBlock ∨ v'.ownBlock = some w.heap.size) := by
  have hlen : (l2.map u8v).length = m * 1 := by rw [List.length_map, hr.1]; omega
  rw [List.map_append]
  rcases A with _ | ad
  · have hm : m = 0 := by
      rcases Nat.eq_zero_or_pos m with h0 | h0
      · exact h0
      · obtain ⟨g, o, h, _⟩ := hr.2.2.2 h0
        cases h
    subst hm
    have hn : l2 = [] := List.eq_nil_of_length_eq_zero hr.1
    subst hn
    refine ⟨v, w, ?_, by simpa using hown, World.grownBy.refl w _, .inl rfl⟩
    rcases hown.2 with ⟨rfl, rfl⟩ | ⟨g, cap, cur, rfl, _, _, hnc, _⟩
    · simp [Builtin.append_, run_underlying ht, sizeOf, typeInfo, hi, Builtin.lenOf, Builtin.firstCells]
    · simp [Builtin.append_, run_underlying ht, sizeOf, typeInfo, hi, Builtin.lenOf, Builtin.firstCells, hnc, storeCells]
  · obtain ⟨v', w', h1, h2, h3, _, h5⟩ := run_append_own_at (P := P) w base t ty e i z 1 1 ht hi hz hsize hby hzs (by omega) v n (l.map u8v) hown ad m c (l2.map u8v) hlen (hr.cells ad rfl) (oneCell_u8 l2)
      (by unfold maxLen; omega) (by omega) hbase
    exact ⟨v', w', h1, h2, h3, h5⟩

/-- The same at the operation, for the walk. -/
theorem wpList_append_bytes {P : Program} (w : World) {ops : Array Oper} {rest : List Oper} {o : Oper} {a : Act} {Q : Exit → Act → World → Prop} (hgd : o.guard = none) (s x : Operand) (t : TypeId)
    (ho : o.op = .call { callee := .builtin .append, args := #[s, x], argTypes := #[t, t] })
    (base : Nat) (e : TypeId) (i : TypeInfo) (z : Value) (ht : P.underlying t = some (.slice e)) (hi : P.info? e = some i) (hz : i.zero = some z)
    (hsize : i.size = 1) (hby : i.bytes = 1) (hzs : z.cells.size = 1)
    (v : Value) (n : Nat) (l : List UInt8) (hs : a.eval s = v) (hown : w.ownsRow base e 1 v n (l.map u8v))
    (A : Option Addr) (m c : Nat) (l2 : List UInt8) (hx : a.eval x = .slice A m c) (hr : Sl w A m c l2)
    (h63 : n + m ≤ 140737488355328) (hbase : base ≤ w.heap.size)
    (h : ∀ v' w', w'.ownsRow base e 1 v' (n + m) ((l ++ l2).map u8v) → w.grownBy w' v.ownBlock → (v'.ownBlock = v.ownBlock ∨ v'.ownBlock = some w.heap.size) → wpList P ops Q rest (a.put o.dst v') w') :
    wpList P ops Q (o :: rest) a w := by
  refine wpList_plain hgd fun K hK => ?_
  obtain ⟨v', w', hr, h2, h3, h5⟩ := run_append_bytes (P := P) w base t o.type e i z ht hi hz hsize hby hzs v n l hown A m c l2 hr h63 hbase
  unfold Oper.wp execOp
  simp only [ho, resolve, invoke, builtin, Sem.run_bind, Sem.run_pure, Result.andThen_ok, List.map_toArray, List.map_cons, List.map_nil, hs, hx, hr]
  exact hK _ _ (h v' w' h2 h3 h5)

theorem grown_set {a w : World} {g : Nat} (h : a.grownBy w (some g)) (i : Nat) (u : Value) : a.grownBy (w.setCell ⟨g, i, none⟩ u) (some g) :=
  ⟨h.os, h.tape, h.output, by simpa [World.setCell] using h.size, fun k hk hne => (Below.heap_setCell w ⟨g, i, none⟩ u k (fun e => hne (by rw [e]))).trans (h.block k hk hne)⟩
/-- A Reader that has been written anew: its rest a piece of what it was. -/
theorem Rd.set {w w' : World} {T : TypeId} {g : Nat} {l l' : List UInt8} {s s' : Bool} {A : Option Addr} {n c : Nat} (hr : Rd w T g l s) (hg : w.grownBy w' (some g)) (hb : w'.heap[g]? = some (.cells #[.slice A n c, .bool s'] T (0, 0)))
    (hs : Sl w A n c l') : Rd w' T g l' s' := ⟨A, n, c, hb, hs.far hr hg⟩

/-- The number that bytes spell, the first byte the greatest. -/
def be (l : List UInt8) : Nat := l.foldl (fun v b => v * 256 + b.toNat) 0
theorem be_snoc (l : List UInt8) (b : UInt8) : be (l ++ [b]) = be l * 256 + b.toNat := by simp [be, List.foldl_append]
theorem be_lt : ∀ (n : Nat) (l : List UInt8), l.length = n → be l < 256 ^ n := by
  intro n
  induction n with
  | zero => intro l hl; obtain rfl := List.eq_nil_of_length_eq_zero hl; simp [be]
  | succ n ih =>
    intro l hl
    have hne : l ≠ [] := by rintro rfl; simp at hl
    rw [← List.dropLast_concat_getLast hne, be_snoc]
    have h1 := ih l.dropLast (by simp; omega)
    have h2 := (l.getLast hne).toNat_lt
    rw [Nat.pow_succ]; omega

theorem or_u32 (v u : Nat) (hv : v < 16777216) (hu : u < 256) : bits .or .u32 ((v : Int) * 256) (u : Int) = ((v * 256 + u : Nat) : Int) := by
  have e1 : (v : Int) * 256 = ((v * 256 : Nat) : Int) := by omega
  rw [e1]
  show IntKind.u32.wrap ((BitVec.ofInt 32 ((v * 256 : Nat) : Int) ||| BitVec.ofInt 32 (u : Int)).toNat : Int) = _
  rw [BitVec.toNat_or, BitVec.ofInt_natCast, BitVec.ofInt_natCast, BitVec.toNat_ofNat, BitVec.toNat_ofNat, Nat.mod_eq_of_lt (by omega), Nat.mod_eq_of_lt (by omega)]
  have e2 : v * 256 ||| u = v * 256 + u := by
    have := Nat.two_pow_add_eq_or_of_lt (i := 8) (b := u) (by omega) v
    rw [Nat.mul_comm] at this
    exact this.symm
  rw [e2]
  simp [IntKind.wrap, IntKind.signed, IntKind.bits]
  omega

/-- A new block of bytes. -/
theorem Sl.made (w : World) (T : TypeId) (l : List UInt8) (h : l.length ≤ maxLen) : Sl (w.alloc (.cells (l.map u8v).toArray T)) (some ⟨w.heap.size, 0, none⟩) l.length l.length l := by
  refine ⟨rfl, Nat.le_refl _, h, fun _ => ⟨_, _, rfl, fun j b hj => ?_⟩⟩
  have h1 := heap_alloc_new w (.cells (l.map u8v).toArray T)
  simp only [World.cell?, h1]
  simp [hj]

/-- The byte of a number. -/
def byteOf (v : Int) : UInt8 := UInt8.ofNat (v % 256).toNat
theorem byteOf_val (v : Int) : ((byteOf v).toNat : Int) = v % 256 := by
  have h1 : 0 ≤ v % 256 := Int.emod_nonneg _ (by omega)
  have h2 : v % 256 < 256 := Int.emod_lt_of_pos _ (by omega)
  unfold byteOf
  rw [UInt8.toNat_ofNat']
  omega
/-- A number in two bytes, in four. -/
def two (v : Int) : List UInt8 := [byteOf (v / 256), byteOf v]
def four (v : Int) : List UInt8 := [byteOf (v / 16777216), byteOf (v / 65536), byteOf (v / 256), byteOf v]

theorem be_two (a b : UInt8) : be [a, b] = a.toNat * 256 + b.toNat := by simp [be]
theorem be_from (t : List UInt8) : ∀ a : Nat, t.foldl (fun v b => v * 256 + b.toNat) a = a * 256 ^ t.length + be t := by
  unfold be
  induction t with
  | nil => intro a; simp
  | cons b t ih =>
    intro a
    rw [List.foldl_cons, ih, List.foldl_cons, ih (0 * 256 + b.toNat), List.length_cons, Nat.pow_succ, Nat.add_mul, Nat.zero_mul, Nat.zero_add, Nat.mul_assoc, Nat.mul_comm 256, Nat.add_assoc]
theorem be_append (l t : List UInt8) : be (l ++ t) = be l * 256 ^ t.length + be t := by
  show (l ++ t).foldl _ 0 = _
  rw [List.foldl_append, be_from]
  rfl
theorem or_i64 (x y : Nat) (hx : x < 256) (hy : y < 256) : bits .or .i64 ((x : Int) * 256) (y : Int) = ((x * 256 + y : Nat) : Int) := by
  have e1 : (x : Int) * 256 = ((x * 256 : Nat) : Int) := by omega
  rw [e1]
  show IntKind.i64.wrap ((BitVec.ofInt 64 ((x * 256 : Nat) : Int) ||| BitVec.ofInt 64 (y : Int)).toNat : Int) = _
  rw [BitVec.toNat_or, BitVec.ofInt_natCast, BitVec.ofInt_natCast, BitVec.toNat_ofNat, BitVec.toNat_ofNat, Nat.mod_eq_of_lt (by omega), Nat.mod_eq_of_lt (by omega), nat_join 8 _ _ (by omega) (by omega), IntKind.wrap_i64]
  omega
theorem or_u32_16 (x y : Nat) (hx : x < 65536) (hy : y < 65536) : bits .or .u32 ((x : Int) * 65536) (y : Int) = ((x * 65536 + y : Nat) : Int) := by
  have e1 : (x : Int) * 65536 = ((x * 65536 : Nat) : Int) := by omega
  rw [e1, u32_or_nat _ _ (by omega) (by omega), nat_join 16 _ _ (by omega) (by omega)]

/-- A Reader stays as it is while another one reads. -/
theorem Rd.far {w w' : World} {T : TypeId} {g s : Nat} {l l' : List UInt8} {b b' : Bool} (h : Rd w T g l b) (hs : Rd w T s l' b') (hne : g ≠ s) (hg : w.grownBy w' (some s)) : Rd w' T g l b := by
  have hlt := h.lt
  obtain ⟨A, n, c, h1, h2⟩ := h
  exact ⟨A, n, c, (hg.block g hlt (fun e => hne (by injection e))).trans h1, h2.far hs hg⟩

open Go.RowKit

/-- An operation under a guard that holds. -/
theorem wpList_wanted {P : Program} {ops : Array Oper} {Q : Exit → Act → World → Prop} {a : Act} {w : World} {rest : List Oper} {o : Oper} (hw : Region.wanted o (yielded ops a.tmps) = true)
    (h : ∀ K : Act → World → Prop, (∀ a w, wpList P ops Q rest a w → K a w) → o.wp P a w K Q) : wpList P ops Q (o :: rest) a w :=
  wpList_step fun K hK => by rw [if_pos hw]; exact h K hK

/-- A block of the call's own whose first bytes read as l. -/
def Ow (T : TypeId) (w : World) (g c : Nat) (l : List UInt8) : Prop :=
  l.length ≤ c ∧ c ≤ maxLen ∧ ∃ cur : Array Value, w.heap[g]? = some (.cells cur T (0, 0)) ∧ ∀ (j : Nat) (b : UInt8), l[j]? = some b → cur[j]? = some (u8v b)
theorem Ow.of_own {T : TypeId} {w : World} {base : Nat} {v : Value} {l : List UInt8} {n : Nat} (h : w.ownsRow base T 1 v n (l.map u8v)) (hn : 0 < n) :
    ∃ g c, v = .slice (some ⟨g, 0, none⟩) n c ∧ Ow T w g c l ∧ base ≤ g ∧ n = l.length := by
  have hl : l.length = n := by simpa using h.1
  rcases h.2 with ⟨rfl, rfl⟩ | ⟨g, cap, cur, rfl, hb, hh, hnc, hm, hs, ht⟩
  · omega
  · refine ⟨g, cap, rfl, ⟨by rw [hl]; exact hnc, hm, cur, hh, fun j b hj => ?_⟩, hb, hl.symm⟩
    have hjl : j < l.length := (List.getElem?_eq_some_iff.1 hj).1
    have e1 : (cur.toList.take (n * 1))[j]? = some (u8v b) := by rw [ht]; simp [hj]
    rw [List.getElem?_take] at e1
    split at e1
    · simpa using e1
    · cases e1
theorem Ow.lt {T : TypeId} {w : World} {g c : Nat} {l : List UInt8} (h : Ow T w g c l) : g < w.heap.size := by
  obtain ⟨_, _, cur, hh, _⟩ := h
  exact (Array.getElem?_eq_some_iff.1 hh).1
theorem Ow.cell {T : TypeId} {w : World} {g c : Nat} {l : List UInt8} (h : Ow T w g c l) (j : Nat) (hj : j < l.length) : w.cell? ⟨g, j, none⟩ = some (.int .u8 (l[j].toNat : Int)) ∧ w.frozen? ⟨g, j, none⟩ = false := by
  obtain ⟨h1, h2, cur, hh, hc⟩ := h
  have := hc j _ (List.getElem?_eq_getElem hj)
  exact ⟨by simp [World.cell?, hh, this, u8v], by simp [World.frozen?, hh]⟩
theorem Ow.at_ {T : TypeId} {w : World} {g c : Nat} {l : List UInt8} (h : Ow T w g c l) (j : Nat) (hj : j < l.length) : ∃ x : UInt8, Hid (l[j]? = some x) ∧ w.cell? ⟨g, j, none⟩ = some (.int .u8 (x.toNat : Int)) ∧ w.frozen? ⟨g, j, none⟩ = false :=
  ⟨l[j], Lib.hid (List.getElem?_eq_getElem hj), h.cell j hj⟩
theorem Ow.set {T : TypeId} {w : World} {g c : Nat} {l : List UInt8} (h : Ow T w g c l) (j : Nat) (b : UInt8) : Ow T (w.setCell ⟨g, j, none⟩ (u8v b)) g c (l.set j b) := by
  obtain ⟨h1, h2, cur, hh, hc⟩ := h
  refine ⟨by simpa using h1, h2, cur.setIfInBounds j (u8v b), by simp [World.setCell, Array.getElem?_modify, hh], fun i x hi => ?_⟩
  rw [List.getElem?_set] at hi
  rw [Array.getElem?_setIfInBounds]
  by_cases hij : j = i
  · subst hij
    rw [if_pos rfl] at hi ⊢
    split at hi
    · rename_i hjl
      have hj := hc j _ (List.getElem?_eq_getElem hjl)
      have hjs : j < cur.size := (Array.getElem?_eq_some_iff.1 hj).1
      simp at hi
      rw [if_pos hjs, hi]
    · cases hi
  · rw [if_neg hij] at hi ⊢
    exact hc i x hi
theorem Ow.below {T : TypeId} {w w' : World} {g c : Nat} {l : List UInt8} (h : Ow T w g c l) (hb : Below w.heap.size w w') : Ow T w' g c l := by
  have hlt := h.lt
  obtain ⟨h1, h2, cur, hh, hc⟩ := h
  exact ⟨h1, h2, cur, (hb.block g hlt).trans hh, hc⟩


/-- append of bytes as one step of a region that draws its order ('rw [if_pos (by rfl)]' ahead of it). -/
theorem wp_append_bytes {P : Program} {o : Oper} {a : Act} {w : World} {K : Act → World → Prop} {Q : Exit → Act → World → Prop} (s x : Operand) (t : TypeId)
    (ho : o.op = .call { callee := .builtin .append, args := #[s, x], argTypes := #[t, t] })
    (base : Nat) (e : TypeId) (i : TypeInfo) (z : Value) (ht : P.underlying t = some (.slice e)) (hi : P.info? e = some i) (hz : i.zero = some z)
    (hsize : i.size = 1) (hby : i.bytes = 1) (hzs : z.cells.size = 1)
    (v : Value) (n : Nat) (l : List UInt8) (hs : a.eval s = v) (hown : w.ownsRow base e 1 v n (l.map u8v))
    (A : Option Addr) (m c : Nat) (l2 : List UInt8) (hx : a.eval x = .slice A m c) (hr : Sl w A m c l2)
    (h63 : n + m ≤ 140737488355328) (hbase : base ≤ w.heap.size)
    (h : ∀ v' w', w'.ownsRow base e 1 v' (n + m) ((l ++ l2).map u8v) → w.grownBy w' v.ownBlock → (v'.ownBlock = v.ownBlock ∨ v'.ownBlock = some w.heap.size) → K (a.put o.dst v') w') :
    Oper.wp P o a w K Q := by
  obtain ⟨v', w', hr, h2, h3, h5⟩ := run_append_bytes (P := P) w base t o.type e i z ht hi hz hsize hby hzs v n l hown A m c l2 hr h63 hbase
  unfold Oper.wp execOp
  simp only [ho, resolve, invoke, builtin, Sem.run_bind, Sem.run_pure, Result.andThen_ok, List.map_toArray, List.map_cons, List.map_nil, hs, hx, hr]
  exact h v' w' h2 h3 h5

/-- What follows an append of the call's own: still below, and whose block it is. -/
theorem own_grown {B : Nat} {w0 w w' : World} {v v' : Value} (bel : Below B w0 w) (hB : B ≤ w.heap.size) (hv : ∀ k, v.ownBlock = some k → B ≤ k) (hg : w.grownBy w' v.ownBlock) (hat : v'.ownBlock = v.ownBlock ∨ v'.ownBlock = some w.heap.size) :
    Below B w0 w' ∧ B ≤ w'.heap.size ∧ ∀ k, v'.ownBlock = some k → B ≤ k := by
  refine ⟨bel.grown hg hB hv, Nat.le_trans hB hg.size, fun k hk => ?_⟩
  rcases hat with h | h
  · rw [h] at hk; exact hv k hk
  · rw [h] at hk; simp at hk; omega


/-- A block of four cells, cell by cell. -/
theorem cells4 {w : World} {k : Nat} {a b c d : Value} {T : TypeId} (h : w.heap[k]? = some (.cells #[a, b, c, d] T (0, 0))) :
    (w.cell? ⟨k, 0, none⟩ = some a ∧ w.cell? ⟨k, 1, none⟩ = some b ∧ w.cell? ⟨k, 2, none⟩ = some c ∧ w.cell? ⟨k, 3, none⟩ = some d) ∧
    (w.frozen? ⟨k, 0, none⟩ = false ∧ w.frozen? ⟨k, 1, none⟩ = false ∧ w.frozen? ⟨k, 2, none⟩ = false ∧ w.frozen? ⟨k, 3, none⟩ = false) := by
  simp [World.cell?, World.frozen?, h]

theorem put4 {w : World} {k : Nat} {a b c d x y z u : Value} {T : TypeId} (h : w.heap[k]? = some (.cells #[a, b, c, d] T (0, 0))) :
    ((((w.setCell ⟨k, 0, none⟩ x).setCell ⟨k, 1, none⟩ y).setCell ⟨k, 2, none⟩ z).setCell ⟨k, 3, none⟩ u).heap[k]? = some (.cells #[x, y, z, u] T (0, 0)) := by
  simp [World.setCell, Array.getElem?_modify, h]
open Go.RowKit

open Go.RowKit

/-- A Reader at block g whose rest, where it is not empty, lies in a block below B. -/
def Rb (w : World) (T : TypeId) (g B : Nat) (l : List UInt8) (s : Bool) : Prop :=
  ∃ A n c, w.heap[g]? = some (.cells #[.slice A n c, .bool s] T (0, 0)) ∧ Sl w A n c l ∧ (0 < n → ∃ a o, A = some ⟨a, o, none⟩ ∧ a < B)
theorem Rb.rd {w : World} {T : TypeId} {g B : Nat} {l : List UInt8} {s : Bool} (h : Rb w T g B l s) : Rd w T g l s := by
  obtain ⟨A, n, c, h1, h2, _⟩ := h
  exact ⟨A, n, c, h1, h2⟩
theorem Rb.below {w w' : World} {T : TypeId} {g B : Nat} {l : List UInt8} {s : Bool} (h : Rb w T g B l s) (hb : Below w.heap.size w w') : Rb w' T g B l s := by
  have hlt := h.rd.lt
  obtain ⟨A, n, c, h1, h2, h3⟩ := h
  exact ⟨A, n, c, (hb.block g hlt).trans h1, h2.below hb, h3⟩
/-- A store into a block that is neither the Reader's nor below the bound. -/
theorem Rb.setCell {w : World} {T : TypeId} {g B q : Nat} {l : List UInt8} {s : Bool} (h : Rb w T g B l s) (hq : B ≤ q) (hne : q ≠ g) (i : Nat) (u : Value) : Rb (w.setCell ⟨q, i, none⟩ u) T g B l s := by
  obtain ⟨A, n, c, h1, h2, h3⟩ := h
  have other : ∀ k, k ≠ q → (w.setCell ⟨q, i, none⟩ u).heap[k]? = w.heap[k]? := fun k hk => Below.heap_setCell w ⟨q, i, none⟩ u k (fun e => hk (by rw [e]))
  refine ⟨A, n, c, (other g (Ne.symm hne)).trans h1, ⟨h2.1, h2.2.1, h2.2.2.1, fun hn => ?_⟩, h3⟩
  obtain ⟨a, o, e, hc⟩ := h2.2.2.2 hn
  obtain ⟨a', o', e', hlt⟩ := h3 hn
  rw [e] at e'
  obtain ⟨rfl, rfl⟩ : a = a' ∧ o = o' := by injection e' with e'; injection e' with e1 e2; exact ⟨e1, e2⟩
  refine ⟨a, o, e, fun j b hj => ?_⟩
  exact (World.cell?_of_block (w := w) (other a (by omega))).trans (hc j b hj)
theorem Rb.set {w w' : World} {T : TypeId} {g B : Nat} {l l' : List UInt8} {s s' : Bool} {A : Option Addr} {n c : Nat} (hr : Rb w T g B l s) (hg : w.grownBy w' (some g)) (hb : w'.heap[g]? = some (.cells #[.slice A n c, .bool s'] T (0, 0)))
    (hs : Sl w A n c l') (hB : 0 < n → ∃ a o, A = some ⟨a, o, none⟩ ∧ a < B) : Rb w' T g B l' s' := ⟨A, n, c, hb, hs.far hr.rd hg, hB⟩
open Go.RowKit

/-- What is not empty lies in a block from B on. -/
def Fr (B : Nat) (A : Option Addr) (n : Nat) : Prop := 0 < n → ∃ a o, A = some ⟨a, o, none⟩ ∧ B ≤ a
theorem Fr.mono {B C : Nat} {A : Option Addr} {n : Nat} (h : Fr B A n) (hc : C ≤ B) : Fr C A n := fun hn => by
  obtain ⟨a, o, e, hb⟩ := h hn
  exact ⟨a, o, e, Nat.le_trans hc hb⟩
/-- A store elsewhere. -/
theorem Sl.setCell {w : World} {A : Option Addr} {n c : Nat} {l : List UInt8} {B k : Nat} (h : Sl w A n c l) (hf : Fr B A n) (hk : k < B) (i : Nat) (u : Value) : Sl (w.setCell ⟨k, i, none⟩ u) A n c l := by
  refine ⟨h.1, h.2.1, h.2.2.1, fun hn => ?_⟩
  obtain ⟨a, o, e, hc⟩ := h.2.2.2 hn
  obtain ⟨a', o', e', hlt⟩ := hf hn
  rw [e] at e'
  obtain ⟨rfl, rfl⟩ : a = a' ∧ o = o' := by injection e' with e'; injection e' with e1 e2; exact ⟨e1, e2⟩
  refine ⟨a, o, e, fun j b hj => ?_⟩
  exact (World.cell?_of_block (w := w) (Below.heap_setCell w ⟨k, i, none⟩ u a (by show a ≠ k; omega))).trans (hc j b hj)
theorem Sl.grown {w w' : World} {A : Option Addr} {n c : Nat} {l : List UInt8} {B g : Nat} (h : Sl w A n c l) (hf : Fr B A n) (hg : w.grownBy w' (some g)) (hk : g < B) : Sl w' A n c l := by
  refine ⟨h.1, h.2.1, h.2.2.1, fun hn => ?_⟩
  obtain ⟨a, o, e, hc⟩ := h.2.2.2 hn
  obtain ⟨a', o', e', hlt⟩ := hf hn
  rw [e] at e'
  obtain ⟨rfl, rfl⟩ : a = a' ∧ o = o' := by injection e' with e'; injection e' with e1 e2; exact ⟨e1, e2⟩
  refine ⟨a, o, e, fun j b hj => ?_⟩
  have hne : (some a : Option Nat) ≠ some g := fun h => by injection h with h; omega
  exact (World.cell?_of_block (w := w) (hg.block a (cell_lt (hc j b hj)) hne)).trans (hc j b hj)
open Go.RowKit

theorem Rb.grown {w w' : World} {T : TypeId} {g B q : Nat} {l : List UInt8} {s : Bool} (h : Rb w T g B l s) (hg : w.grownBy w' (some q)) (hq : B ≤ q) (hne : q ≠ g) : Rb w' T g B l s := by
  have hlt := h.rd.lt
  obtain ⟨A, n, c, h1, h2, h3⟩ := h
  refine ⟨A, n, c, (hg.block g hlt (fun e => hne (by injection e with e; exact e.symm))).trans h1, ⟨h2.1, h2.2.1, h2.2.2.1, fun hn => ?_⟩, h3⟩
  obtain ⟨a, o, e, hc⟩ := h2.2.2.2 hn
  obtain ⟨a', o', e', hlt'⟩ := h3 hn
  rw [e] at e'
  obtain ⟨rfl, rfl⟩ : a = a' ∧ o = o' := by injection e' with e'; injection e' with e1 e2; exact ⟨e1, e2⟩
  refine ⟨a, o, e, fun j b hj => ?_⟩
  have hc' := hc j b hj
  exact (World.cell?_of_block (w := w) (hg.block a (cell_lt hc') (fun e => by injection e with e; omega))).trans hc'
theorem Rb.drew {w : World} {T : TypeId} {g B : Nat} {l : List UInt8} {s : Bool} (h : Rb w T g B l s) : Rb w.drew T g B l s := by
  obtain ⟨A, n, c, h1, h2, h3⟩ := h
  exact ⟨A, n, c, h1, h2.keep fun _ _ _ h => h, h3⟩
theorem Sl.drew {w : World} {A : Option Addr} {n c : Nat} {l : List UInt8} (h : Sl w A n c l) : Sl w.drew A n c l := h.keep fun _ _ _ h => h
open Go.RowKit

theorem grown_setRow {w : World} (b : Nat) (cs : Array Value) : w.grownBy (w.setRow b cs) (some b) :=
  ⟨rfl, rfl, rfl, by simp [World.setRow], fun k _ hk => setRow_other w b k cs (fun e => hk (by rw [e]))⟩
/-- A whole struct or array goes into a block of its own. -/
theorem wp_store_blk {P : Program} {o : Oper} {a : Act} {w : World} {K : Act → World → Prop} {Q : Exit → Act → World → Prop} (ty : TypeId) (x y : Operand) (ho : o.op = .store ty x y)
    (b : Nat) (hx : a.eval x = .pointer (some ⟨b, 0, none⟩)) (cells : Array Value) (hy : a.eval y = .agg cells) (C : Array Value) (T : TypeId) (hb : w.heap[b]? = some (.cells C T (0, 0)))
    (hs : C.size = cells.size) (hi : (P.info? ty).map (·.size) = some cells.size) (h1 : cells.all (·.oneCell') = true)
    (h : ∀ w', w'.heap[b]? = some (.cells cells T (0, 0)) → w.grownBy w' (some b) → K (a.put o.dst undef) w') : Oper.wp P o a w K Q := by
  have hr := run_storeVar_row (P := P) w b T ty C cells hb hi hs h1
  unfold Oper.wp execOp
  simp only [ho, hx, hy, Instr.storeAt, Instr.sureAddr, Sem.run_bind, Sem.run_pure, Result.andThen_ok, hr]
  exact h _ (setRow_heap w b _ _ T _ hb) (grown_setRow b cells)
theorem wpList_store_blk {P : Program} {ops : Array Oper} {rest : List Oper} {o : Oper} {a : Act} {w : World} {Q : Exit → Act → World → Prop} (hgd : o.guard = none) (ty : TypeId) (x y : Operand) (ho : o.op = .store ty x y)
    (b : Nat) (hx : a.eval x = .pointer (some ⟨b, 0, none⟩)) (cells : Array Value) (hy : a.eval y = .agg cells) (C : Array Value) (T : TypeId) (hb : w.heap[b]? = some (.cells C T (0, 0)))
    (hs : C.size = cells.size) (hi : (P.info? ty).map (·.size) = some cells.size) (h1 : cells.all (·.oneCell') = true)
    (h : ∀ w', w'.heap[b]? = some (.cells cells T (0, 0)) → w.grownBy w' (some b) → wpList P ops Q rest (a.put o.dst undef) w') : wpList P ops Q (o :: rest) a w :=
  wpList_plain hgd fun _ hK => wp_store_blk ty x y ho b hx cells hy C T hb hs hi h1 (fun w' h1 h2 => hK _ _ (h w' h1 h2))
/-- A piece of a block, read by value. -/
theorem range_lit {w : World} {b : Nat} {L : List Value} {T : TypeId} {fr : Nat × Nat} (hb : w.heap[b]? = some (.cells L.toArray T fr)) (o n : Nat) (cs : List Value) (hcs : (L.drop o).take n = cs) : w.rangeAt b o cs := by
  intro j v hv
  rw [cell_of_row w b (o + j) _ T fr hb]
  rw [← hcs, List.getElem?_take] at hv
  split at hv
  · rw [List.getElem?_drop] at hv
    simpa using hv
  · cases hv
theorem yieldsIf_load_part {P : Program} {ops : Array Oper} {S : World → Prop} {o : Oper} {a : Act} (hw : Region.wanted o (yielded ops a.tmps) = true) (ty : TypeId) (x : Operand) (ho : o.op = .load ty x)
    (b i n : Nat) (hx : a.eval x = .pointer (some ⟨b, i, none⟩)) (L : List Value) (T : TypeId) (fr : Nat × Nat) (hS : ∀ w, S w → w.heap[b]? = some (.cells L.toArray T fr)) (cs : List Value) (hcs : (L.drop i).take n = cs)
    (d : TypeDesc) (hu : P.underlying ty = some d) (hd : d.isRow = true) (hi : (P.info? ty).map (·.size) = some cs.length) : YieldsIf P ops S o (.agg cs.toArray) a :=
  yieldsIf_load_mid hw ty x ho b i hx cs d (fun w h => range_lit (hS w h) i n cs hcs) hu hd hi
theorem wpList_load_rng {P : Program} {ops : Array Oper} {rest : List Oper} {o : Oper} {a : Act} {w : World} {Q : Exit → Act → World → Prop} (ty : TypeId) (x : Operand) (ho : o.op = .load ty x) (hgd : Region.wanted o (yielded ops a.tmps) = true)
    (b i : Nat) (hx : a.eval x = .pointer (some ⟨b, i, none⟩)) (cs : List Value) (hc : w.rangeAt b i cs) (d : TypeDesc) (hu : P.underlying ty = some d) (hd : d.isRow = true) (hi : (P.info? ty).map (·.size) = some cs.length)
    (h : wpList P ops Q rest (a.put o.dst (.agg cs.toArray)) w) : wpList P ops Q (o :: rest) a w :=
  wpList_wanted hgd fun _ hK => wp_load_mid ty x ho b i hx cs d hc hu hd hi (hK _ _ h)
/-- One cell, read where its type is none of many cells. -/
theorem cell_lit {w : World} {b : Nat} {C : Array Value} {T : TypeId} {fr : Nat × Nat} (hb : w.heap[b]? = some (.cells C T fr)) (i : Nat) (v : Value) (hv : C[i]? = some v) : w.cell? ⟨b, i, none⟩ = some v := by
  rw [cell_of_row w b i C T fr hb, hv]
/-- What a function with a struct and a number in its results answers. -/
theorem results_cell_tmp_row {P : Program} {fn : Func} {p u : Tmp} {ty : TypeId} (h : fn.results = #[.cell p ty, .tmp u]) (tmps : Array Value) (w : World) (g : Nat) (T : TypeId) (cs : Array Value) (fr : Nat × Nat) (d : TypeDesc)
    (hp : tmps.getD p undef = .pointer (some ⟨g, 0, none⟩)) (hg : w.heap[g]? = some (.cells cs T fr)) (hu : P.underlying ty = some d) (hd : d.isRow = true) (hi : (P.info? ty).map (·.size) = some cs.size) (v : Value) (hv : tmps.getD u undef = v) :
    (results fn tmps).run P w = .ok (.tuple #[.agg cs, v]) w := by
  rw [results_cell_tmp h, hp, hv]
  have hr := run_loadVar_row (P := P) w g T ty cs fr d hg hu (by cases d <;> simp_all) hi
  simp [asAddr, Result.andThen, hr]
theorem results_cell_row' {P : Program} {fn : Func} {p : Tmp} {ty : TypeId} (h : fn.results = #[.cell p ty]) (tmps : Array Value) (w : World) (g : Nat) (T : TypeId) (cs : Array Value) (fr : Nat × Nat) (d : TypeDesc)
    (hp : tmps.getD p undef = .pointer (some ⟨g, 0, none⟩)) (hg : w.heap[g]? = some (.cells cs T fr)) (hu : P.underlying ty = some d) (hd : d.isRow = true) (hi : (P.info? ty).map (·.size) = some cs.size) :
    (results fn tmps).run P w = .ok (.agg cs) w :=
  results_cell_row h tmps w g T cs fr d hp hg hu (by cases d <;> simp_all) hi
/-- A call that writes into a block from the bound on, or into none. -/
theorem below_grown {B : Nat} {w0 w w' : World} {b : Nat} (h : Below B w0 w) (hg : w.grownBy w' (some b)) (hb : B ≤ b) (hB : B ≤ w.heap.size) : Below B w0 w' := h.grown hg hB (fun k e => by cases e; exact hb)
open Go.RowKit

theorem setCell_heap {w : World} {b : Nat} {L : List Value} {T : TypeId} {fr : Nat × Nat} (h : w.heap[b]? = some (.cells L.toArray T fr)) (o : Nat) (v : Value) : (w.setCell ⟨b, o, none⟩ v).heap[b]? = some (.cells (L.set o v).toArray T fr) := by
  simp [World.setCell, Array.getElem?_modify, h]
theorem setCells_heap {b : Nat} {T : TypeId} {fr : Nat × Nat} : ∀ (vs : List Value) (o : Nat) (w : World) (L : List Value), w.heap[b]? = some (.cells L.toArray T fr) → o + vs.length ≤ L.length →
    (w.setCells b o vs).heap[b]? = some (.cells (L.take o ++ vs ++ L.drop (o + vs.length)).toArray T fr)
  | [], o, w, L, h, _ => by
    show w.heap[b]? = _
    rw [h]; simp
  | v :: r, o, w, L, h, hn => by
    rw [List.length_cons] at hn
    rw [World.setCells, setCells_heap r (o + 1) _ _ (setCell_heap h o v) (by rw [List.length_set]; omega)]
    have e1 : (L.set o v).take (o + 1) = L.take o ++ [v] := by
      rw [List.take_add_one, List.take_set_of_le (Nat.le_refl _), List.getElem?_set_self (by omega)]
      rfl
    have e2 : (L.set o v).drop (o + 1 + r.length) = L.drop (o + (r.length + 1)) := by
      rw [List.drop_set_of_lt (by omega)]
      congr 1
      omega
    rw [e1, e2, List.length_cons]
    simp
theorem setCells_grown {b : Nat} : ∀ (vs : List Value) (o : Nat) (w : World), w.grownBy (w.setCells b o vs) (some b)
  | [], _, w => World.grownBy.refl w _
  | v :: r, o, w => by
    have h1 : w.grownBy (w.setCell ⟨b, o, none⟩ v) (some b) := grown_set (World.grownBy.refl w _) o v
    exact h1.trans (setCells_grown r (o + 1) _)
theorem run_storeAt_part {P : Program} (w : World) (b i : Nat) (ty : TypeId) (y : Value) (cs : List Value) (hy : y.cells = cs.toArray) (L : List Value) (T : TypeId) (hb : w.heap[b]? = some (.cells L.toArray T (0, 0))) (hn : i + cs.length ≤ L.length)
    (hi : (P.info? ty).map (·.size) = some cs.length) (h1 : cs.all (·.oneCell') = true) : (Instr.storeAt ty (.pointer (some ⟨b, i, none⟩)) y).run P w = .ok () (w.setCells b i cs) := by
  have hc : ∀ j, j < cs.length → (w.cell? ⟨b, i + 0 + j, none⟩).isSome = true := by
    intro j hj
    rw [cell_of_row w b (i + 0 + j) _ T (0, 0) hb]
    simp; omega
  have hf : ∀ j, j < cs.length → w.frozen? ⟨b, i + 0 + j, none⟩ = false := by
    intro j hj
    simp [World.frozen?, hb]
  have := run_storeCells_cells (P := P) b i cs 0 w hc hf (fun v hv => List.all_eq_true.1 h1 v hv)
  simp only [Nat.add_zero] at this
  cases hq : P.info? ty with
  | none => simp [hq] at hi
  | some x =>
    have hs : x.size = cs.length := by simpa [hq] using hi
    simp [Instr.storeAt, Instr.sureAddr, Sem.run_bind, Sem.run_pure, storeVar, sizeOf, typeInfo, hq, hy, hs, this]
theorem wp_store_part {P : Program} {o : Oper} {a : Act} {w : World} {K : Act → World → Prop} {Q : Exit → Act → World → Prop} (ty : TypeId) (x y : Operand) (ho : o.op = .store ty x y)
    (b i : Nat) (hx : a.eval x = .pointer (some ⟨b, i, none⟩)) (cs : List Value) (hy : (a.eval y).cells = cs.toArray) (L : List Value) (T : TypeId) (hb : w.heap[b]? = some (.cells L.toArray T (0, 0))) (hn : i + cs.length ≤ L.length)
    (L' : List Value) (hL : L.take i ++ cs ++ L.drop (i + cs.length) = L') (hi : (P.info? ty).map (·.size) = some cs.length) (h1 : cs.all (·.oneCell') = true)
    (h : ∀ w', w'.heap[b]? = some (.cells L'.toArray T (0, 0)) → w.grownBy w' (some b) → K (a.put o.dst undef) w') : Oper.wp P o a w K Q := by
  have hr := run_storeAt_part (P := P) w b i ty _ cs hy L T hb hn hi h1
  unfold Oper.wp execOp
  simp only [ho, hx, Sem.run_bind, Sem.run_pure, Result.andThen_ok, hr]
  exact h _ (hL ▸ setCells_heap cs i w L hb hn) (setCells_grown cs i w)
theorem wpList_store_part {P : Program} {ops : Array Oper} {rest : List Oper} {o : Oper} {a : Act} {w : World} {Q : Exit → Act → World → Prop} (hgd : o.guard = none) (ty : TypeId) (x y : Operand) (ho : o.op = .store ty x y)
    (b i : Nat) (hx : a.eval x = .pointer (some ⟨b, i, none⟩)) (cs : List Value) (hy : (a.eval y).cells = cs.toArray) (L : List Value) (T : TypeId) (hb : w.heap[b]? = some (.cells L.toArray T (0, 0))) (hn : i + cs.length ≤ L.length)
    (L' : List Value) (hL : L.take i ++ cs ++ L.drop (i + cs.length) = L') (hi : (P.info? ty).map (·.size) = some cs.length) (h1 : cs.all (·.oneCell') = true)
    (h : ∀ w', w'.heap[b]? = some (.cells L'.toArray T (0, 0)) → w.grownBy w' (some b) → wpList P ops Q rest (a.put o.dst undef) w') : wpList P ops Q (o :: rest) a w :=
  wpList_plain hgd fun _ hK => wp_store_part ty x y ho b i hx cs hy L T hb hn L' hL hi h1 (fun w' h1 h2 => hK _ _ (h w' h1 h2))
open Go.RowKit

theorem below_new (w : World) (o : Obj) : Below w.heap.size w (w.alloc o) := (Below.refl _ _).alloc (Nat.le_refl _) o
theorem size_new (w : World) (o : Obj) : w.heap.size < (w.alloc o).heap.size := by simp
theorem wp_box_n {P : Program} {o : Oper} {a : Act} {w : World} {K : Act → World → Prop} {Q : Exit → Act → World → Prop} (e : TypeId) (x : Operand) (ho : o.op = .box e x) (cs : Array Value) (hx : (a.eval x).cells = cs)
    (h : ∀ g w', w.heap.size ≤ g → g < w'.heap.size → w'.heap[g]? = some (.cells cs e (0, 0)) → Below w.heap.size w w' → K (a.put o.dst (.pointer (some ⟨g, 0, none⟩))) w') : Oper.wp P o a w K Q := by
  have hr : (Instr.box e (a.eval x)).run P w = .ok (.pointer (some ⟨w.heap.size, 0, none⟩)) (w.alloc (.cells cs e)) := by
    simp [Instr.box, newVar, newRow, hx]
  unfold Oper.wp execOp
  simp only [ho, Sem.run_bind, hr, Result.andThen_ok]
  exact h _ _ (Nat.le_refl _) (size_new w _) (heap_alloc_new w _) (below_new w _)
theorem wpList_box_n {P : Program} {ops : Array Oper} {rest : List Oper} {o : Oper} {a : Act} {w : World} {Q : Exit → Act → World → Prop} (hgd : o.guard = none) (e : TypeId) (x : Operand) (ho : o.op = .box e x) (cs : Array Value) (hx : (a.eval x).cells = cs)
    (h : ∀ g w', w.heap.size ≤ g → g < w'.heap.size → w'.heap[g]? = some (.cells cs e (0, 0)) → Below w.heap.size w w' → wpList P ops Q rest (a.put o.dst (.pointer (some ⟨g, 0, none⟩))) w') : wpList P ops Q (o :: rest) a w :=
  wpList_plain hgd fun _ hK => wp_box_n e x ho cs hx fun g w' h1 h2 h3 h4 => hK _ _ (h g w' h1 h2 h3 h4)
theorem wp_new_i {P : Program} {o : Oper} {a : Act} {w : World} {K : Act → World → Prop} {Q : Exit → Act → World → Prop} (e : TypeId) (ho : o.op = .alloc e) (i : TypeInfo) (z : Value) (hi : P.info? e = some i) (hz : i.zero = some z) (cs : Array Value) (hx : z.cells = cs)
    (h : ∀ g w', w.heap.size ≤ g → g < w'.heap.size → w'.heap[g]? = some (.cells cs e (0, 0)) → Below w.heap.size w w' → K (a.put o.dst (.pointer (some ⟨g, 0, none⟩))) w') : Oper.wp P o a w K Q := by
  have hr : (Instr.alloc e true (.tuple #[])).run P w = .ok (.pointer (some ⟨w.heap.size, 0, none⟩)) (w.alloc (.cells cs e)) := by
    simp [Instr.alloc, newVar, newRow, zeroValue, typeInfo, hi, hz, hx]
  unfold Oper.wp execOp
  simp only [ho, Sem.run_bind, hr, Result.andThen_ok]
  exact h _ _ (Nat.le_refl _) (size_new w _) (heap_alloc_new w _) (below_new w _)
theorem info_zero {P : Program} {e : TypeId} {z : Value} (h : (P.info? e).bind (·.zero) = some z) : ∃ i, P.info? e = some i ∧ i.zero = some z := by
  cases hi : P.info? e with
  | none => simp [hi] at h
  | some i => exact ⟨i, rfl, by simpa [hi] using h⟩
theorem wpList_new_n {P : Program} {ops : Array Oper} {rest : List Oper} {o : Oper} {a : Act} {w : World} {Q : Exit → Act → World → Prop} (hgd : o.guard = none) (e : TypeId) (ho : o.op = .alloc e) (z : Value) (hi : (P.info? e).bind (·.zero) = some z) (cs : Array Value) (hx : z.cells = cs)
    (h : ∀ g w', w.heap.size ≤ g → g < w'.heap.size → w'.heap[g]? = some (.cells cs e (0, 0)) → Below w.heap.size w w' → wpList P ops Q rest (a.put o.dst (.pointer (some ⟨g, 0, none⟩))) w') : wpList P ops Q (o :: rest) a w := by
  obtain ⟨i, h1, h2⟩ := info_zero hi
  exact wpList_plain hgd fun _ hK => wp_new_i e ho i z h1 h2 cs hx fun g w' h1 h2 h3 h4 => hK _ _ (h g w' h1 h2 h3 h4)
theorem run_lit_n {P : Program} (w : World) (t e : TypeId) (len : Nat) (parts : Array (Nat × Value))
    (cells : Array Value) (ie : TypeInfo) (z : Value) (hu : P.underlying t = some (.slice e)) (hie : P.info? e = some ie) (hz : ie.zero = some z) (hsmall : ¬ len * ie.size > 2 ^ 24)
    (hf : Instr.fill (fun i => some (i * ie.size, ie.size)) ((Array.range (len * ie.size)).map (z.cells[· % z.cells.size]!)) parts.toList = some cells) :
    (Instr.buildSlice t len parts).run P w = .ok (.slice (some ⟨w.heap.size, 0, none⟩) len len) (w.alloc (.cells cells e)) := by
  by_cases h0 : len * ie.size = 0
  · rw [h0] at hf
    have e0 : ∀ f : Nat → Value, (Array.range 0).map f = (#[] : Array Value) := fun f => by simp
    rw [e0] at hf
    simp [Instr.buildSlice, run_underlying hu, sizeOf, typeInfo, hie, h0, newRow]
    rw [e0, hf]
    simp
  · simp [Instr.buildSlice, run_underlying hu, sizeOf, typeInfo, zeroValue, hie, hz, hsmall, h0, hf, newRow]
theorem wp_lit_n {P : Program} {o : Oper} {a : Act} {w : World} {K : Act → World → Prop} {Q : Exit → Act → World → Prop} (t e : TypeId) (len : Nat) (parts : Array (Nat × Operand)) (ho : o.op = .buildSlice t len parts)
    (cells : Array Value) (z : Value) (hu : P.underlying t = some (.slice e)) (hz : (P.info? e).bind (·.zero) = some z) (n : Nat) (hn : (P.info? e).map (·.size) = some n) (hsmall : ¬ len * n > 2 ^ 24)
    (hf : Instr.fill (fun i => some (i * n, n)) ((Array.range (len * n)).map (z.cells[· % z.cells.size]!)) (parts.map fun (i, x) => (i, a.eval x)).toList = some cells)
    (h : ∀ g w', w.heap.size ≤ g → g < w'.heap.size → w'.heap[g]? = some (.cells cells e (0, 0)) → Below w.heap.size w w' → K (a.put o.dst (.slice (some ⟨g, 0, none⟩) len len)) w') : Oper.wp P o a w K Q := by
  obtain ⟨ie, hie, hz⟩ := info_zero hz
  have hn' : ie.size = n := by simpa [hie] using hn
  subst hn'
  unfold Oper.wp execOp
  simp only [ho, Sem.run_bind, run_lit_n w t e len _ cells ie z hu hie hz hsmall hf, Result.andThen_ok]
  exact h _ _ (Nat.le_refl _) (size_new w _) (heap_alloc_new w _) (below_new w _)
theorem wpList_lit_n {P : Program} {ops : Array Oper} {rest : List Oper} {o : Oper} {a : Act} {w : World} {Q : Exit → Act → World → Prop} (hgd : o.guard = none) (t e : TypeId) (len : Nat) (parts : Array (Nat × Operand)) (ho : o.op = .buildSlice t len parts)
    (cells : Array Value) (z : Value) (hu : P.underlying t = some (.slice e)) (hz : (P.info? e).bind (·.zero) = some z) (n : Nat) (hn : (P.info? e).map (·.size) = some n) (hsmall : ¬ len * n > 2 ^ 24)
    (hf : Instr.fill (fun i => some (i * n, n)) ((Array.range (len * n)).map (z.cells[· % z.cells.size]!)) (parts.map fun (i, x) => (i, a.eval x)).toList = some cells)
    (h : ∀ g w', w.heap.size ≤ g → g < w'.heap.size → w'.heap[g]? = some (.cells cells e (0, 0)) → Below w.heap.size w w' → wpList P ops Q rest (a.put o.dst (.slice (some ⟨g, 0, none⟩) len len)) w') : wpList P ops Q (o :: rest) a w :=
  wpList_plain hgd fun _ hK => wp_lit_n t e len parts ho cells z hu hz n hn hsmall hf fun g w' h1 h2 h3 h4 => hK _ _ (h g w' h1 h2 h3 h4)
open Go.RowKit

/-- No byte of the slice lies in block g; all of them lie below lo; the one slice lies where the other does. -/
def Av (A : Option Addr) (n g : Nat) : Prop := 0 < n → ∀ a o p, A = some ⟨a, o, p⟩ → a ≠ g
def Bl (A : Option Addr) (n lo : Nat) : Prop := 0 < n → ∀ a o p, A = some ⟨a, o, p⟩ → a < lo
def Sub (A' : Option Addr) (k : Nat) (A : Option Addr) (n : Nat) : Prop := 0 < k → 0 < n ∧ ∀ a o p, A' = some ⟨a, o, p⟩ → ∃ o' p', A = some ⟨a, o', p'⟩
theorem Sl.away {w w' : World} {A : Option Addr} {n c g : Nat} {l : List UInt8} (h : Sl w A n c l) (v : Av A n g) (hg : w.grownBy w' (some g)) : Sl w' A n c l := by
  refine ⟨h.1, h.2.1, h.2.2.1, fun hn => ?_⟩
  obtain ⟨a, o, e, hc⟩ := h.2.2.2 hn
  have hne := v hn a o none e
  exact ⟨a, o, e, fun j b hj => (World.cell?_of_block (w := w) (hg.block a (cell_lt (hc j b hj)) (fun e2 => hne (by injection e2)))).trans (hc j b hj)⟩
theorem Sl.under {w w' : World} {A : Option Addr} {n c lo : Nat} {l : List UInt8} (h : Sl w A n c l) (v : Bl A n lo) (hb : Below lo w w') : Sl w' A n c l := by
  refine ⟨h.1, h.2.1, h.2.2.1, fun hn => ?_⟩
  obtain ⟨a, o, e, hc⟩ := h.2.2.2 hn
  exact ⟨a, o, e, fun j b hj => (hb.cell (p := ⟨a, o + j, none⟩) (v hn a o none e)).trans (hc j b hj)⟩
theorem Sl.at0 {w : World} {A : Option Addr} {n c : Nat} {l : List UInt8} (h : Sl w A n c l) (hn : 0 < n) {a o : Nat} {p : Option Nat} (e : A = some ⟨a, o, p⟩) : a < w.heap.size := by
  obtain ⟨a', o', e', hc⟩ := h.2.2.2 hn
  rw [e] at e'
  injection e' with e'
  injection e' with e1 e2
  subst e1
  have hl : 0 < l.length := by have := h.1; omega
  exact cell_lt (hc 0 _ (List.getElem?_eq_getElem hl))
theorem Sl.av_new {w : World} {A : Option Addr} {n c g : Nat} {l : List UInt8} (h : Sl w A n c l) (hg : w.heap.size ≤ g) : Av A n g := fun hn _ _ _ e => Nat.ne_of_lt (Nat.lt_of_lt_of_le (h.at0 hn e) hg)
theorem Sl.bl_new {w : World} {A : Option Addr} {n c : Nat} {l : List UInt8} (h : Sl w A n c l) : Bl A n w.heap.size := fun hn _ _ _ e => h.at0 hn e
theorem Bl.mono {A : Option Addr} {n lo lo' : Nat} (h : Bl A n lo) (hl : lo ≤ lo') : Bl A n lo' := fun hn a o p e => Nat.lt_of_lt_of_le (h hn a o p e) hl
theorem Bl.av {A : Option Addr} {n lo g : Nat} (h : Bl A n lo) (hl : lo ≤ g) : Av A n g := fun hn a o p e => Nat.ne_of_lt (Nat.lt_of_lt_of_le (h hn a o p e) hl)
theorem Fr.av {B : Nat} {A : Option Addr} {n g : Nat} (f : Fr B A n) (hg : g < B) : Av A n g := fun hn a o p e => by
  obtain ⟨a', o', e', h⟩ := f hn
  rw [e] at e'
  injection e' with e'
  injection e' with e1 e2
  omega
theorem Av.sub {A A' : Option Addr} {n k g : Nat} (h : Av A n g) (hs : Sub A' k A n) : Av A' k g := fun hk a o p e => by
  obtain ⟨hn, h2⟩ := hs hk
  obtain ⟨o', p', e'⟩ := h2 a o p e
  exact h hn a o' p' e'
theorem Bl.sub {A A' : Option Addr} {n k lo : Nat} (h : Bl A n lo) (hs : Sub A' k A n) : Bl A' k lo := fun hk a o p e => by
  obtain ⟨hn, h2⟩ := hs hk
  obtain ⟨o', p', e'⟩ := h2 a o p e
  exact h hn a o' p' e'
/-- A row of the call's own lies not in block q. -/
def Ofs (v : Value) (q : Nat) : Prop := ∀ g, v.ownBlock = some g → g ≠ q
theorem own_under {w w' : World} {B : Nat} {e : TypeId} {v : Value} {n : Nat} {xs : List Value} (h : w.ownsRow B e 1 v n xs) (hb : Below w.heap.size w w') : w'.ownsRow B e 1 v n xs := by
  refine ⟨h.1, ?_⟩
  rcases h.2 with h | ⟨g, cap, cur, e, hg, hh, h⟩
  · exact .inl h
  · exact .inr ⟨g, cap, cur, e, hg, (hb.block g (Array.getElem?_eq_some_iff.1 hh).1).trans hh, h⟩
/-- Blocks. -/
theorem blk_under {w w' : World} {g B : Nat} {x : Option Obj} (h : w.heap[g]? = x) (hb : Below B w w') (hg : g < B) : w'.heap[g]? = x := (hb.block g hg).trans h
theorem ne_new {g q n : Nat} (hz : g < n) (hq : n ≤ q) : Hid (g ≠ q) := Lib.hid (Nat.ne_of_lt (Nat.lt_of_lt_of_le hz hq))
theorem ne_symm {g q : Nat} (h : Hid (g ≠ q)) : Hid (q ≠ g) := Lib.hid (Ne.symm h.out)
open Go.RowKit

theorem hlt {w : World} {g : Nat} {x : Obj} (h : w.heap[g]? = some x) : g < w.heap.size := (Array.getElem?_eq_some_iff.1 h).1
theorem blk_u {w w' : World} {g : Nat} {x : Obj} (h : w.heap[g]? = some x) (hb : Below w.heap.size w w') : w'.heap[g]? = some x := (hb.block g (hlt h)).trans h
theorem blk_a {w w' : World} {g q : Nat} {x : Obj} (h : w.heap[g]? = some x) (hg : w.grownBy w' (some q)) (d : Hid (g ≠ q)) : w'.heap[g]? = some x := (hg.block g (hlt h) (fun e => d.out (by injection e))).trans h
theorem wpList_new_a {P : Program} {ops : Array Oper} {rest : List Oper} {o : Oper} {a : Act} {w : World} {Q : Exit → Act → World → Prop} (hgd : o.guard = none) (e : TypeId) (ho : o.op = .alloc e) (cs : Array Value) (hi : (P.info? e).bind (·.zero) = some (.agg cs))
    (h : ∀ g w', w.heap.size ≤ g → w'.heap[g]? = some (.cells cs e (0, 0)) → Below w.heap.size w w' → wpList P ops Q rest (a.put o.dst (.pointer (some ⟨g, 0, none⟩))) w') : wpList P ops Q (o :: rest) a w :=
  wpList_new_n hgd e ho (.agg cs) hi cs rfl fun g w' h1 _ h3 h4 => h g w' h1 h3 h4
open Go.RowKit

theorem blk_own {w w' : World} {g : Nat} {x : Obj} {v : Value} (h : w.heap[g]? = some x) (hg : w.grownBy w' v.ownBlock) (o : Ofs v g) : w'.heap[g]? = some x := (hg.block g (hlt h) (fun e => o g e.symm rfl)).trans h
theorem ofs_of {v v' : Value} {n : Nat} (h : v'.ownBlock = v.ownBlock ∨ v'.ownBlock = some n) : ∀ g, g < n → Ofs v g → Ofs v' g := fun g hg o g' e => by
  rcases h with h | h
  · exact o g' (h ▸ e)
  · rw [h] at e
    injection e with e
    omega
open Go.RowKit

def Sle {α : Type} (f : α → List Value) (k : Nat) (w : World) (A : Option Addr) (n c : Nat) (l : List α) : Prop :=
  l.length = n ∧ n ≤ c ∧ c ≤ maxLen ∧ (0 < n → ∃ g o, A = some ⟨g, o, none⟩ ∧ ∀ j v, (l.flatMap f)[j]? = some v → w.cell? ⟨g, o + j, none⟩ = some v) ∧ 0 < k ∧ ∀ x, (f x).length = k
section
variable {α : Type} {f : α → List Value} {k : Nat} {w w' : World} {A : Option Addr} {n c : Nat} {l : List α}
theorem flat_len (hf : ∀ x, (f x).length = k) (l : List α) : (l.flatMap f).length = l.length * k := by
  induction l with
  | nil => simp
  | cons x l ih => rw [List.flatMap_cons, List.length_append, ih, hf, List.length_cons, Nat.succ_mul]; omega
theorem flat_at (hf : ∀ x, (f x).length = k) : ∀ (l : List α) (i j : Nat) (x : α), l[i]? = some x → j < k → (l.flatMap f)[i * k + j]? = (f x)[j]?
  | [], i, j, x, h, _ => by simp at h
  | y :: l, 0, j, x, h, hj => by
    obtain rfl : y = x := by simpa using h
    rw [List.flatMap_cons, List.getElem?_append_left (by rw [hf]; omega), Nat.zero_mul, Nat.zero_add]
  | y :: l, i + 1, j, x, h, hj => by
    rw [List.flatMap_cons, List.getElem?_append_right (by rw [hf, Nat.succ_mul]; omega), hf, show (i + 1) * k + j - k = i * k + j by rw [Nat.succ_mul]; omega]
    exact flat_at hf l i j x (by simpa using h) hj
theorem Sle.nil (hk : 0 < k) (hf : ∀ x, (f x).length = k) (w : World) : Sle f k w none 0 0 [] := ⟨rfl, Nat.le_refl _, Nat.zero_le _, fun h => absurd h (by omega), hk, hf⟩
theorem Sle.keep (h : Sle f k w A n c l) (hk : ∀ g o v, w.cell? ⟨g, o, none⟩ = some v → A = some ⟨g, o, none⟩ ∨ True → (∃ o', A = some ⟨g, o', none⟩) → w'.cell? ⟨g, o, none⟩ = some v) : Sle f k w' A n c l :=
  ⟨h.1, h.2.1, h.2.2.1, fun hn => by
    obtain ⟨g, o, e, hc⟩ := h.2.2.2.1 hn
    exact ⟨g, o, e, fun j b hj => hk _ _ _ (hc j b hj) (.inr trivial) ⟨o, e⟩⟩, h.2.2.2.2⟩
theorem Sle.below (h : Sle f k w A n c l) (hb : Below w.heap.size w w') : Sle f k w' A n c l :=
  h.keep fun _ _ _ hc _ _ => (hb.cell (cell_lt hc)).trans hc
theorem Sle.drew (h : Sle f k w A n c l) : Sle f k w.drew A n c l := h.keep fun _ _ _ hc _ _ => hc
theorem Sle.away {g : Nat} (h : Sle f k w A n c l) (v : Av A n g) (hg : w.grownBy w' (some g)) : Sle f k w' A n c l := by
  refine ⟨h.1, h.2.1, h.2.2.1, fun hn => ?_, h.2.2.2.2⟩
  obtain ⟨a, o, e, hc⟩ := h.2.2.2.1 hn
  have hne := v hn a o none e
  exact ⟨a, o, e, fun j b hj => (World.cell?_of_block (w := w) (hg.block a (cell_lt (hc j b hj)) (fun e2 => hne (by injection e2)))).trans (hc j b hj)⟩
theorem Sle.under {lo : Nat} (h : Sle f k w A n c l) (v : Bl A n lo) (hb : Below lo w w') : Sle f k w' A n c l := by
  refine ⟨h.1, h.2.1, h.2.2.1, fun hn => ?_, h.2.2.2.2⟩
  obtain ⟨a, o, e, hc⟩ := h.2.2.2.1 hn
  exact ⟨a, o, e, fun j b hj => (hb.cell (p := ⟨a, o + j, none⟩) (v hn a o none e)).trans (hc j b hj)⟩
theorem Sle.pos (h : Sle f k w A n c l) (hn : 0 < n) : ∃ v, (l.flatMap f)[0]? = some v := by
  have hl := flat_len h.2.2.2.2.2 l
  have : 0 < (l.flatMap f).length := by rw [hl, h.1]; exact Nat.mul_pos hn h.2.2.2.2.1
  exact ⟨_, List.getElem?_eq_getElem this⟩
theorem Sle.at0 (h : Sle f k w A n c l) (hn : 0 < n) {a o : Nat} {p : Option Nat} (e : A = some ⟨a, o, p⟩) : a < w.heap.size := by
  obtain ⟨a', o', e', hc⟩ := h.2.2.2.1 hn
  rw [e] at e'
  injection e' with e'
  injection e' with e1 e2
  subst e1
  obtain ⟨v, hv⟩ := h.pos hn
  exact cell_lt (hc 0 v hv)
theorem Sle.av_new {g : Nat} (h : Sle f k w A n c l) (hg : w.heap.size ≤ g) : Av A n g := fun hn _ _ _ e => Nat.ne_of_lt (Nat.lt_of_lt_of_le (h.at0 hn e) hg)
theorem Sle.bl_new (h : Sle f k w A n c l) : Bl A n w.heap.size := fun hn _ _ _ e => h.at0 hn e
theorem Sle.place (h : Sle f k w A n c l) (hn : 0 < n) : ∃ g o, A = some ⟨g, o, none⟩ := by
  obtain ⟨g, o, e, _⟩ := h.2.2.2.1 hn
  exact ⟨g, o, e⟩
/-- A cell of an element. -/
theorem Sle.cell {g o i j : Nat} {x : α} {v : Value} (h : Sle f k w (some ⟨g, o, none⟩) n c l) (hx : l[i]? = some x) (hv : (f x)[j]? = some v) : w.cell? ⟨g, o + (i * k + j), none⟩ = some v := by
  obtain ⟨_, _, _, h4, h5, h6⟩ := h
  have hi : i < l.length := (List.getElem?_eq_some_iff.1 hx).1
  have hj : j < k := by rw [← h6 x]; exact (List.getElem?_eq_some_iff.1 hv).1
  obtain ⟨g', o', e, hc⟩ := h4 (by omega)
  injection e with e
  injection e with e1 e2
  subst e1
  subst e2
  exact hc _ _ ((flat_at h6 l i j x hx hj).trans hv)
/-- Pieces. -/
theorem Sle.take {m : Nat} (h : Sle f k w A n c l) (hm : m ≤ n) : Sle f k w A m c (l.take m) := by
  obtain ⟨h1, h2, h3, h4, h5, h6⟩ := h
  refine ⟨by rw [List.length_take]; omega, by omega, h3, fun hn => ?_, h5, h6⟩
  obtain ⟨g, o, e, hc⟩ := h4 (by omega)
  refine ⟨g, o, e, fun j b hj => hc j b ?_⟩
  have e2 : l.flatMap f = (l.take m).flatMap f ++ (l.drop m).flatMap f := by rw [← List.flatMap_append, List.take_append_drop]
  rw [e2, List.getElem?_append_left (List.getElem?_eq_some_iff.1 hj).1]
  exact hj
/-- A new block of elements. -/
theorem sle_lit {g : Nat} {T : TypeId} {fr : Nat × Nat} (l : List α) (hk : 0 < k) (hf : ∀ x, (f x).length = k) (h : w.heap[g]? = some (.cells (l.flatMap f).toArray T fr)) (hn : l.length = n) (hm : n ≤ maxLen) : Sle f k w (some ⟨g, 0, none⟩) n n l :=
  ⟨hn, Nat.le_refl _, hm, fun _ => ⟨_, _, rfl, fun j b hj => by simp only [World.cell?, h]; simpa using hj⟩, hk, hf⟩
/-- What is owned. -/
theorem owk_sle {B : Nat} {T : TypeId} {m : Nat} (hk : 0 < k) (hf : ∀ x, (f x).length = k) (h : w.ownsRow B T k (.slice A m c) n (l.flatMap f)) : Sle f k w A n c l ∧ Fr B A n := by
  have hl : l.length = n := by
    have h1 := h.1
    rw [flat_len hf] at h1
    exact Nat.eq_of_mul_eq_mul_right hk h1
  rcases h.2 with ⟨e, rfl⟩ | ⟨g, cap, cur, e, hb, hh, hn, hm, hs, ht⟩
  · injection e with e1 e2 e3
    subst e1
    subst e3
    exact ⟨⟨hl, Nat.le_refl _, Nat.zero_le _, fun h => absurd h (by omega), hk, hf⟩, fun h => absurd h (by omega)⟩
  · injection e with e1 e2 e3
    subst e1
    subst e3
    refine ⟨⟨hl, hn, hm, fun _ => ⟨g, 0, rfl, fun j b hj => ?_⟩, hk, hf⟩, fun _ => ⟨g, 0, rfl, hb⟩⟩
    have e1 : cur.toList[j]? = some b := by
      have : (cur.toList.take (n * k))[j]? = some b := by rw [ht]; exact hj
      rw [List.getElem?_take] at this
      split at this
      · exact this
      · cases this
    simp only [World.cell?, hh]
    simpa using e1
theorem owk_val {B : Nat} {T : TypeId} {v : Value} {xs : List Value} (h : w.ownsRow B T k v n xs) : ∃ A c, v = .slice A n c := by
  rcases h.2 with ⟨e, rfl⟩ | ⟨g, cap, cur, e, _⟩
  · exact ⟨none, 0, e⟩
  · exact ⟨_, _, e⟩
theorem owk_under {B : Nat} {e : TypeId} {v : Value} {xs : List Value} (h : w.ownsRow B e k v n xs) (hb : Below w.heap.size w w') : w'.ownsRow B e k v n xs := by
  refine ⟨h.1, ?_⟩
  rcases h.2 with h | ⟨g, cap, cur, e, hg, hh, h⟩
  · exact .inl h
  · exact .inr ⟨g, cap, cur, e, hg, (hb.block g (Array.getElem?_eq_some_iff.1 hh).1).trans hh, h⟩
theorem owk_off {B q : Nat} {e : TypeId} {v : Value} {xs : List Value} (h : w.ownsRow B e k v n xs) (hv : Ofs v q) (hg : w.grownBy w' (some q)) : w'.ownsRow B e k v n xs := by
  refine ⟨h.1, ?_⟩
  rcases h.2 with h | ⟨g, cap, cur, e, hb, hh, h⟩
  · exact .inl h
  · have hne := hv g (by rw [e]; rfl)
    exact .inr ⟨g, cap, cur, e, hb, (hg.block g (Array.getElem?_eq_some_iff.1 hh).1 (fun e2 => hne (by injection e2))).trans hh, h⟩
theorem owk_new {B q : Nat} {e : TypeId} {v : Value} {xs : List Value} (h : w.ownsRow B e k v n xs) (hq : w.heap.size ≤ q) : Ofs v q := fun g hg => by
  rcases h.2 with ⟨h, _⟩ | ⟨g', cap, cur, e, hb, hh, h⟩
  · rw [h] at hg; simp [Value.ownBlock] at hg
  · have hl := (Array.getElem?_eq_some_iff.1 hh).1
    rw [e] at hg
    simp only [Value.ownBlock, Option.some.injEq] at hg
    omega
theorem owk_nil (B : Nat) (T : TypeId) (w : World) : w.ownsRow B T k (.slice none 0 0) 0 (([] : List α).flatMap f) := World.ownsRow_nil _ _ _ _
theorem Sle.cells (h : Sle f k w A n c l) : ∀ ad, A = some ad → ∀ j u, (l.flatMap f)[j]? = some u → w.cell? (ad.add j) = some u := by
  intro ad hA j u hu
  have hj := (List.getElem?_eq_some_iff.1 hu).1
  rw [flat_len h.2.2.2.2.2, h.1] at hj
  have hn : 0 < n := by
    rcases Nat.eq_zero_or_pos n with h0 | h0
    · subst h0; omega
    · exact h0
  obtain ⟨g, o, e, hc⟩ := h.2.2.2.1 hn
  rw [hA] at e
  obtain rfl := Option.some.inj e
  rw [Addr.add_lit]
  exact hc j u hu
end
/-- Texts as elements. -/
def stf (l : List UInt8) : List Value := [.string ⟨l.toArray⟩]
theorem stf_len (x : List UInt8) : (stf x).length = 1 := rfl
theorem stf_one (x : List UInt8) : ∀ u ∈ stf x, u.oneCell' = true := by
  intro u hu
  obtain rfl : u = .string ⟨x.toArray⟩ := by simpa [stf] using hu
  rfl
/-- append onto a row of the call's own, whatever the source. -/
theorem run_append_sle {P : Program} {α : Type} {f : α → List Value} {k : Nat} (w : World) (base : Nat) (t ty e : TypeId) (i : TypeInfo) (z : Value) (bytes : Nat) (ht : P.underlying t = some (.slice e)) (hi : P.info? e = some i) (hz : i.zero = some z)
    (hsize : i.size = k) (hby : i.bytes = bytes) (hzs : z.cells.size = k) (h1 : ∀ x, ∀ u ∈ f x, u.oneCell' = true)
    (v : Value) (n : Nat) (l : List α) (hown : w.ownsRow base e k v n (l.flatMap f))
    (A : Option Addr) (m c : Nat) (l2 : List α) (hr : Sle f k w A m c l2)
    (h63 : n + m ≤ maxLen) (hb47 : (n + m) * bytes ≤ 140737488355328) (hbase : base ≤ w.heap.size) :
    ∃ v' w', (Builtin.append_ #[t, t] ty #[v, .slice A m c]).run P w = .ok v' w' ∧ w'.ownsRow base e k v' (n + m) ((l ++ l2).flatMap f) ∧ w.grownBy w' v.ownBlock ∧
      (v'.ownBlock = v.ownBlock ∨ v'.ownBlock = some w.heap.size) := by
  have hlen : (l2.flatMap f).length = m * k := by rw [flat_len hr.2.2.2.2.2, hr.1]
  rw [List.flatMap_append]
  rcases A with _ | ad
  · have hm : m = 0 := by
      rcases Nat.eq_zero_or_pos m with h0 | h0
      · exact h0
      · obtain ⟨g, o, h, _⟩ := hr.2.2.2.1 h0
        cases h
    subst hm
    have hn : l2 = [] := List.eq_nil_of_length_eq_zero hr.1
    subst hn
    refine ⟨v, w, ?_, by simpa using hown, World.grownBy.refl w _, .inl rfl⟩
    rcases hown.2 with ⟨rfl, rfl⟩ | ⟨g, cap, cur, rfl, _, _, hnc, _⟩
    · simp [Builtin.append_, run_underlying ht, sizeOf, typeInfo, hi, Builtin.lenOf, Builtin.firstCells]
    · simp [Builtin.append_, run_underlying ht, sizeOf, typeInfo, hi, Builtin.lenOf, Builtin.firstCells, hnc, storeCells]
  · obtain ⟨v', w', h1, h2, h3, _, h5⟩ := run_append_own_at (P := P) w base t ty e i z k bytes ht hi hz hsize hby hzs hr.2.2.2.2.1 v n (l.flatMap f) hown ad m c (l2.flatMap f) hlen (hr.cells ad rfl) (fun u hu => by obtain ⟨x, _, hx⟩ := List.mem_flatMap.1 hu; exact h1 x u hx)
      h63 hb47 hbase
    exact ⟨v', w', h1, h2, h3, h5⟩
theorem wp_append_sle {P : Program} {α : Type} {f : α → List Value} {k : Nat} {o : Oper} {a : Act} {w : World} {K : Act → World → Prop} {Q : Exit → Act → World → Prop} (s x : Operand) (t : TypeId)
    (ho : o.op = .call { callee := .builtin .append, args := #[s, x], argTypes := #[t, t] })
    (base : Nat) (e : TypeId) (i : TypeInfo) (z : Value) (bytes : Nat) (ht : P.underlying t = some (.slice e)) (hi : P.info? e = some i) (hz : i.zero = some z)
    (hsize : i.size = k) (hby : i.bytes = bytes) (hzs : z.cells.size = k) (h1 : ∀ x, ∀ u ∈ f x, u.oneCell' = true)
    (v : Value) (n : Nat) (l : List α) (hs : a.eval s = v) (hown : w.ownsRow base e k v n (l.flatMap f))
    (A : Option Addr) (m c : Nat) (l2 : List α) (hx : a.eval x = .slice A m c) (hr : Sle f k w A m c l2)
    (h63 : n + m ≤ maxLen) (hb47 : (n + m) * bytes ≤ 140737488355328) (hbase : base ≤ w.heap.size)
    (h : ∀ v' w', w'.ownsRow base e k v' (n + m) ((l ++ l2).flatMap f) → Below base w w' → w.grownBy w' v.ownBlock → (∀ g, g < w.heap.size → Ofs v g → Ofs v' g) → K (a.put o.dst v') w') : Oper.wp P o a w K Q := by
  obtain ⟨v', w', hr, h2, h3, h5⟩ := run_append_sle (P := P) w base t o.type e i z bytes ht hi hz hsize hby hzs h1 v n l hown A m c l2 hr h63 hb47 hbase
  unfold Oper.wp execOp
  simp only [ho, resolve, invoke, builtin, Sem.run_bind, Sem.run_pure, Result.andThen_ok, List.map_toArray, List.map_cons, List.map_nil, hs, hx, hr]
  exact h v' w' h2 ((Below.refl base w).grown h3 hbase (fun k hk => (hown.lt k hk).1)) h3 (ofs_of h5)
theorem wpList_append_sle {P : Program} {α : Type} {f : α → List Value} {k : Nat} {ops : Array Oper} {rest : List Oper} {o : Oper} {a : Act} {w : World} {Q : Exit → Act → World → Prop} (hgd : o.guard = none) (s x : Operand) (t : TypeId)
    (ho : o.op = .call { callee := .builtin .append, args := #[s, x], argTypes := #[t, t] })
    (base : Nat) (e : TypeId) (i : TypeInfo) (z : Value) (bytes : Nat) (ht : P.underlying t = some (.slice e)) (hi : P.info? e = some i) (hz : i.zero = some z)
    (hsize : i.size = k) (hby : i.bytes = bytes) (hzs : z.cells.size = k) (h1 : ∀ x, ∀ u ∈ f x, u.oneCell' = true)
    (v : Value) (n : Nat) (l : List α) (hs : a.eval s = v) (hown : w.ownsRow base e k v n (l.flatMap f))
    (A : Option Addr) (m c : Nat) (l2 : List α) (hx : a.eval x = .slice A m c) (hr : Sle f k w A m c l2)
    (h63 : n + m ≤ maxLen) (hb47 : (n + m) * bytes ≤ 140737488355328) (hbase : base ≤ w.heap.size)
    (h : ∀ v' w', w'.ownsRow base e k v' (n + m) ((l ++ l2).flatMap f) → Below base w w' → w.grownBy w' v.ownBlock → (∀ g, g < w.heap.size → Ofs v g → Ofs v' g) → wpList P ops Q rest (a.put o.dst v') w') : wpList P ops Q (o :: rest) a w :=
  wpList_plain hgd fun _ hK => wp_append_sle s x t ho base e i z bytes ht hi hz hsize hby hzs h1 v n l hs hown A m c l2 hx hr h63 hb47 hbase fun v' w' h1 h2 h3 h4 => hK _ _ (h v' w' h1 h2 h3 h4)
theorem owk_av {w : World} {B k : Nat} {e : TypeId} {A : Option Addr} {m c n g : Nat} {xs : List Value} (h : w.ownsRow B e k (.slice A m c) n xs) (o : Ofs (.slice A m c) g) : Av A n g := fun hn a p q e1 => by
  rcases h.2 with ⟨_, rfl⟩ | ⟨g', cap, cur, e2, _⟩
  · omega
  · injection e2 with e3 e4 e5
    rw [e3] at e1
    injection e1 with e1
    injection e1 with e6 e7 e8
    subst e6
    exact o g' (by rw [e3]; rfl)
/-- A piece of an element. -/
theorem Sle.range {α : Type} {f : α → List Value} {k : Nat} {w : World} {g o n c i : Nat} {l : List α} {x : α} (h : Sle f k w (some ⟨g, o, none⟩) n c l) (hx : l[i]? = some x) (a m : Nat) (cs : List Value) (hcs : ((f x).drop a).take m = cs) : w.rangeAt g (o + i * k + a) cs := by
  intro j v hv
  rw [← hcs, List.getElem?_take] at hv
  split at hv
  · rw [List.getElem?_drop] at hv
    have := h.cell hx hv
    rw [show o + i * k + a + j = o + (i * k + (a + j)) by omega]
    exact this
  · cases hv
theorem Sle.cellk {α : Type} {f : α → List Value} {k : Nat} {w : World} {g o n c i : Nat} {l : List α} {x : α} (h : Sle f k w (some ⟨g, o, none⟩) n c l) (hx : l[i]? = some x) (a : Nat) (v : Value) (hv : (f x)[a]? = some v) : w.cell? ⟨g, o + i * k + a, none⟩ = some v := by
  have := h.cell hx hv
  rw [← Nat.add_assoc] at this
  exact this
theorem Sle.cellk0 {α : Type} {f : α → List Value} {k : Nat} {w : World} {g o n c i : Nat} {l : List α} {x : α} (h : Sle f k w (some ⟨g, o, none⟩) n c l) (hx : l[i]? = some x) (v : Value) (hv : (f x)[0]? = some v) : w.cell? ⟨g, o + i * k, none⟩ = some v := h.cellk hx 0 v hv
theorem Sle.range0 {α : Type} {f : α → List Value} {k : Nat} {w : World} {g o n c i : Nat} {l : List α} {x : α} (h : Sle f k w (some ⟨g, o, none⟩) n c l) (hx : l[i]? = some x) (m : Nat) (cs : List Value) (hcs : (f x).take m = cs) : w.rangeAt g (o + i * k) cs := h.range hx 0 m cs hcs
/-- A text out of a row of texts. -/
theorem Sle.st {w : World} {g o n c i : Nat} {l : List (List UInt8)} {x : List UInt8} (h : Sle stf 1 w (some ⟨g, o, none⟩) n c l) (hx : l[i]? = some x) : w.cell? ⟨g, o + i, none⟩ = some (.string ⟨x.toArray⟩) := by
  have := Sle.cell (j := 0) h hx rfl
  rw [Nat.mul_one, Nat.add_zero] at this
  exact this
open Go.RowKit

theorem st_size (l : List UInt8) : (⟨l.toArray⟩ : ByteArray).size = l.length := by simp [ByteArray.size]
theorem st_extract (l : List UInt8) (i j : Nat) : (⟨l.toArray⟩ : ByteArray).extract i j = ⟨((l.take j).drop i).toArray⟩ := by
  apply ByteArray.ext
  rw [ByteArray.data_extract]
  apply Array.ext'
  simp [List.extract_eq_take_drop, List.drop_take]
theorem st_from {l : List UInt8} {i : Nat} (h : i ≤ l.length) (W : World) : (Instr.slice 9 (.string ⟨l.toArray⟩) (some (.int .i64 (i : Int))) none none).run Tryd.prog W = .ok (.string ⟨(l.drop i).toArray⟩) W := by
  rw [run_slice_string_from_if W 9 _ .i64 _ (by kernel_rfl), if_pos ⟨by omega, by rw [st_size]; omega⟩, st_extract, st_size, List.take_length]
  rfl
theorem st_to {l : List UInt8} {j : Nat} (h : j ≤ l.length) (W : World) : (Instr.slice 9 (.string ⟨l.toArray⟩) none (some (.int .i64 (j : Int))) none).run Tryd.prog W = .ok (.string ⟨(l.take j).toArray⟩) W := by
  rw [run_slice_string_to_if W 9 _ .i64 _ (by kernel_rfl), if_pos ⟨by omega, by rw [st_size]; omega⟩, st_extract]
  rfl
theorem st_mid {l : List UInt8} {i j : Nat} (h : i ≤ j) (hj : j ≤ l.length) (W : World) : (Instr.slice 9 (.string ⟨l.toArray⟩) (some (.int .i64 (i : Int))) (some (.int .i64 (j : Int))) none).run Tryd.prog W = .ok (.string ⟨((l.take j).drop i).toArray⟩) W := by
  rw [run_slice_string W 9 _ .i64 .i64 _ _ (by kernel_rfl) (by omega) (by omega) (by rw [st_size]; omega), st_extract]
  rfl
theorem st_add {x y : List UInt8} (h : x.length + y.length ≤ 8388608) (W : World) : (Op.stringOp .add ⟨x.toArray⟩ ⟨y.toArray⟩).run Tryd.prog W = .ok (.string ⟨(x ++ y).toArray⟩) W :=
  run_string_add_lists W x y (by omega) (by omega)
theorem st_len (l : List UInt8) (ty : TypeId) (W : World) : (Builtin.len_ #[9] ty #[.string ⟨l.toArray⟩]).run Tryd.prog W = .ok (.int .i64 (l.length : Int)) W := by
  rw [run_len_string W 9 ty _ (by kernel_rfl), st_size]
  rfl
open Go.RowKit

/-- Blanks; a text without those about it. -/
def isBl (c : UInt8) : Bool := c == 32 || c == 9
def trimF (l : List UInt8) : List UInt8 := l.dropWhile isBl
def trimB (l : List UInt8) : List UInt8 := (l.reverse.dropWhile isBl).reverse
def trimL (l : List UInt8) : List UInt8 := trimB (trimF l)
def inI (v lo hi : Int) : Bool := decide (lo ≤ v) && decide (v ≤ hi)
set_option maxRecDepth 100000 in
set_option maxHeartbeats 16000000 in
theorem in_any (v lo hi : Int) (w : World) : Calls Tryd.prog 38 #[.int .i64 v, .int .i64 lo, .int .i64 hi] w fun e w' => e = .returned (.bool (inI v lo hi)) ∧ w = w' := by
  unfold inI
  skip
  go_enter Tryd.func38, Tryd.ntmps38
  by_cases h0 : lo ≤ v
  · rw [decide_eq_true h0, Bool.true_and]
    by_cases h1 : v ≤ hi
    · rw [decide_eq_true h1]
      go_wp2_with fail
      go_ret
      exact ⟨rfl, rfl⟩
    · have h2 : decide (v ≤ hi) = false := decide_eq_false h1
      rw [h2]
      clear h1
      go_wp2_with fail
      go_ret
      exact ⟨rfl, rfl⟩
  · have h2 : decide (lo ≤ v) = false := decide_eq_false h0
    rw [h2, Bool.false_and]
    clear h0
    go_wp2_with fail
    go_ret
    exact ⟨rfl, rfl⟩
theorem has_step {ls : List (List UInt8)} {s x : List UInt8} {j : Nat} (hx : ls[j]? = some x) (h : (ls.take j).contains s = false) (he : (x == s) = false) : (ls.take (j + 1)).contains s = false := by
  rw [List.take_add_one, hx]
  simp only [List.contains_eq_mem, List.mem_append, Option.toList_some, List.mem_singleton, decide_eq_false_iff_not] at *
  rintro (h2 | h2)
  · exact h h2
  · subst h2; simp at he
def names5 : List (List UInt8) := [[116, 105, 109, 101], [117, 100, 112, 116, 105, 109, 101], [116, 99, 112, 116, 105, 109, 101], [105, 99, 109, 112, 116, 105, 109, 101], [108, 111, 119]]
def names8 : List (List UInt8) := [[108, 97, 110], [108, 97, 110, 109, 97, 99], [119, 97, 110, 109, 97, 99], [102, 105, 114, 115, 116], [108, 97, 115, 116], [100, 110, 115], [102, 105, 120, 101, 100], [111, 112, 101, 110]]
/-- A text's place among others; -1: it is not there. -/
def posN : List (List UInt8) → List UInt8 → Option Nat
  | [], _ => none
  | x :: l, s => if (x == s) = true then some 0 else (posN l s).map (· + 1)
def posI (ls : List (List UInt8)) (s : List UInt8) : Int := match posN ls s with
  | some i => i
  | none => -1
theorem posN_hit : ∀ {ls : List (List UInt8)} {s x : List UInt8} {j : Nat}, (ls.take j).contains s = false → ls[j]? = some x → (x == s) = true → posN ls s = some j
  | [], s, x, j, _, h, _ => by simp at h
  | y :: l, s, x, 0, _, h, he => by
    obtain rfl : y = x := by simpa using h
    rw [posN, if_pos he]
  | y :: l, s, x, j + 1, hc, h, he => by
    rw [List.take_succ_cons, List.contains_cons, Bool.or_eq_false_iff] at hc
    have hy : ¬ (y == s) = true := by
      intro h2
      have := eq_of_beq h2
      subst this
      simp at hc
    rw [posN, if_neg hy, posN_hit hc.2 (by simpa using h) he]
    rfl
theorem posN_none : ∀ {ls : List (List UInt8)} {s : List UInt8}, ls.contains s = false → posN ls s = none
  | [], _, _ => rfl
  | y :: l, s, hc => by
    rw [List.contains_cons, Bool.or_eq_false_iff] at hc
    have hy : ¬ (y == s) = true := by
      intro h2
      have := eq_of_beq h2
      subst this
      simp at hc
    rw [posN, if_neg hy, posN_none hc.2]
    rfl
theorem contains_none {ls : List (List UInt8)} {s : List UInt8} {n : Nat} (hn : ls.length ≤ n) (h : (ls.take n).contains s = false) : ls.contains s = false := by
  rwa [List.take_of_length_le hn] at h
def knownB (s : List UInt8) : Bool := names8.contains s || decide (0 ≤ posI names5 s)
set_option maxRecDepth 100000 in
set_option maxHeartbeats 16000000 in
theorem line_any (x y : List UInt8) (w : World) (hx : x.length ≤ 100000) (hy : y.length ≤ 100000) : Calls Tryd.prog 43 #[.string ⟨x.toArray⟩, .string ⟨y.toArray⟩] w fun e w' => e = .returned (.string ⟨(x ++ [32, 61, 32] ++ y ++ [10]).toArray⟩) ∧ w = w' := by
  skip
  go_enter Tryd.func43, Tryd.ntmps43
  have R6 := fun W => st_add (x := x) (y := [32, 61, 32]) (by (try simp only [List.length_append]); (try simp only [List.length_cons, List.length_nil]); omega) W
  have R8 := fun W => st_add (x := (x ++ [32, 61, 32])) (y := y) (by (try simp only [List.length_append]); (try simp only [List.length_cons, List.length_nil]); omega) W
  have R9 := fun W => st_add (x := (x ++ 32 :: 61 :: 32 :: y)) (y := [10]) (by (try simp only [List.length_append]); (try simp only [List.length_cons, List.length_nil]); omega) W
  go_wp2_with fail
  clear R6 R8 R9
  go_ret
  exact ⟨by simp, rfl⟩
open Go.RowKit

/-- Bytes as a string's value. -/
def strv (l : List UInt8) : Value := .string ⟨l.toArray⟩
theorem Tryd.info_str : (Tryd.prog.info? 9).map (fun i => (i.zero, i.size, i.bytes)) = some (some (.string ⟨#[]⟩), 1, 16) := by kernel_rfl

/-- A hexadecimal digit's value; -1: none. -/
def hexI (c : UInt8) : Int := if 48 ≤ c.toNat ∧ c.toNat ≤ 57 then (c.toNat : Int) - 48 else if 97 ≤ c.toNat ∧ c.toNat ≤ 102 then (c.toNat : Int) - 97 + 10 else if 65 ≤ c.toNat ∧ c.toNat ≤ 70 then (c.toNat : Int) - 65 + 10 else -1
theorem hexI_range (c : UInt8) : hexI c = -1 ∨ (0 ≤ hexI c ∧ hexI c ≤ 15) := by
  unfold hexI
  split
  · right; omega
  · split
    · right; omega
    · split
      · right; omega
      · left; rfl
open Go.RowKit

/-- The words of a text: 'wordsGo rest word'. -/
def wordsGo : List UInt8 → List UInt8 → List (List UInt8)
  | [], u => if u = [] then [] else [u]
  | c :: t, u => if isBl c = true then (if u = [] then wordsGo t [] else u :: wordsGo t []) else wordsGo t (u ++ [c])
def wordsL (l : List UInt8) : List (List UInt8) := wordsGo l []
theorem words_cut {l ws : List (List UInt8)} {t u : List UInt8} {k : Nat} (h : ws ++ wordsGo (t.drop k) u = l) (hb : k = t.length ∨ ∃ c, t[k]? = some c ∧ isBl c = true) : (if u = [] then ws else ws ++ [u]) ++ wordsGo (t.drop (k + 1)) [] = l := by
  rcases hb with rfl | ⟨c, hc, hb⟩
  · rw [List.drop_eq_nil_of_le (Nat.le_refl _), wordsGo] at h
    rw [List.drop_eq_nil_of_le (by omega), wordsGo, if_pos rfl, List.append_nil, ← h]
    split
    · simp
    · rfl
  · obtain ⟨hk, hx⟩ := List.getElem?_eq_some_iff.1 hc
    rw [List.drop_eq_getElem_cons hk, hx, wordsGo, if_pos hb] at h
    rw [← h]
    split
    · rfl
    · rw [List.append_assoc]; rfl
/-- The lines of a text. -/
def linesL (l : List UInt8) : List (List UInt8) := if (cutF 10 l).getLast? = some [] then (cutF 10 l).dropLast else cutF 10 l
end Go.Proofs.YtdfobilagidmfaaDoor
