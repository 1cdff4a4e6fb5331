/- Options as lists, no program: what is found, what is joined, which bytes they become. -/
import Derived.Test.YtjfboofnffghjaaNr0
namespace Go.Proofs.Ytjfboofnffghjaa
open Go.RowKit

/-- An option: its Code, the place of its Body. -/
structure Oh where
  c : Int
  A : Option Addr
  (n cp : Nat)
def opE (o : Oh) : List Value := [.int .i64 o.c, .slice o.A o.n o.cp]
theorem opE_len (o : Oh) : (opE o).length = 2 := rfl
theorem opE_one (o : Oh) : ∀ u ∈ opE o, u.oneCell' = true := by
  intro u hu
  simp only [opE, List.mem_cons, List.not_mem_nil, or_false] at hu
  rcases hu with h | h <;> rw [h] <;> rfl
abbrev OptL := List (Int × List UInt8)
/-- The options read as these. -/
def Bd (w : World) (hs : List Oh) (L : OptL) : Prop := hs.length = L.length ∧ ∀ (i : Nat) (h : Oh) (p : Int × List UInt8), hs[i]? = some h → L[i]? = some p → h.c = p.1 ∧ Sl w h.A h.n h.cp p.2
theorem Bd.below {w w' : World} {hs : List Oh} {L : OptL} (h : Bd w hs L) (b : Below w.heap.size w w') : Bd w' hs L := ⟨h.1, fun i x p hx hp => ⟨(h.2 i x p hx hp).1, (h.2 i x p hx hp).2.below b⟩⟩
theorem Bd.drew {w : World} {hs : List Oh} {L : OptL} (h : Bd w hs L) : Bd w.drew hs L := h
theorem Bd.at {w : World} {hs : List Oh} {L : OptL} (h : Bd w hs L) {i : Nat} {x : Oh} (hx : hs[i]? = some x) : ∃ l, L[i]? = some (x.c, l) ∧ Sl w x.A x.n x.cp l := by
  have hi := (List.getElem?_eq_some_iff.1 hx).1
  have hl : i < L.length := h.1 ▸ hi
  obtain ⟨h1, h2⟩ := h.2 i x _ hx (List.getElem?_eq_getElem hl)
  exact ⟨L[i].2, by rw [List.getElem?_eq_getElem hl, h1], h2⟩
theorem Bd.nil (w : World) : Bd w [] [] := ⟨rfl, fun i h p hx => by simp at hx⟩

/-- What is found. -/
def findL (L : OptL) (c : Int) : Option (List UInt8) := (L.find? (fun p => p.1 == c)).map (·.2)
theorem find_here {L : OptL} {k : Nat} {p : Int × List UInt8} {c : Int} (h : L[k]? = some p) (hc : p.1 = c) : findL (L.drop k) c = some p.2 := by
  obtain ⟨hk, e⟩ := List.getElem?_eq_some_iff.1 h
  rw [List.drop_eq_getElem_cons hk, e]
  simp [findL, hc]
theorem find_next {L : OptL} {k : Nat} {p : Int × List UInt8} {c : Int} (h : L[k]? = some p) (hc : ¬ p.1 = c) : findL (L.drop k) c = findL (L.drop (k + 1)) c := by
  obtain ⟨hk, e⟩ := List.getElem?_eq_some_iff.1 h
  rw [List.drop_eq_getElem_cons hk, e]
  simp [findL, hc]
theorem find_end {L : OptL} {k : Nat} {c : Int} (h : L.length ≤ k) : findL (L.drop k) c = none := by
  rw [List.drop_eq_nil_of_le h]; rfl
/-- Four bytes and whether there are four. -/
def fourL (x : Option (List UInt8)) : List UInt8 × Bool := if (x.getD []).length = 4 then (x.getD [], true) else ([0, 0, 0, 0], false)
theorem fourL_len (x : Option (List UInt8)) : (fourL x).1.length = 4 := by
  unfold fourL
  split
  · assumption
  · rfl

/-- May the Codes be? -/
def okC (c : Int) : Bool := decide (1 ≤ c) && decide (c ≤ 254)
def distinctB (L : OptL) : Bool := L.all (fun p => okC p.1) && decide ((L.map (·.1)).Nodup)
/-- The pieces of a Body. -/
def piecesL (c : UInt8) (b : List UInt8) : List UInt8 :=
  if _h : 255 < b.length then [c, 255] ++ b.take 255 ++ piecesL c (b.drop 255) else [c, byteOf (b.length : Int)] ++ b
termination_by b.length
decreasing_by simp; omega
theorem pieces_long {c : UInt8} {b : List UInt8} (h : 255 < b.length) : piecesL c b = [c, 255] ++ b.take 255 ++ piecesL c (b.drop 255) := by
  rw [piecesL, dif_pos h]
theorem pieces_last {c : UInt8} {b : List UInt8} (h : b.length ≤ 255) : piecesL c b = [c, byteOf (b.length : Int)] ++ b := by
  rw [piecesL, dif_neg (by omega)]
/-- How many bytes they are. -/
def sizeN (n : Nat) : Nat := (max 1 ((n + 254) / 255)) * 2 + n
theorem pieces_len : ∀ (n : Nat) (c : UInt8) (b : List UInt8), b.length = n → (piecesL c b).length = sizeN n := by
  intro n
  induction n using Nat.strongRecOn with
  | ind n ih =>
    intro c b hb
    by_cases h : 255 < b.length
    · rw [pieces_long h, List.length_append, List.length_append, ih (n - 255) (by omega) c (b.drop 255) (by simp; omega), List.length_take]
      simp only [List.length_cons, List.length_nil, sizeN]
      omega
    · rw [pieces_last (by omega)]
      simp only [List.length_append, List.length_cons, List.length_nil, sizeN]
      omega
def allL (L : OptL) : List UInt8 := L.flatMap (fun p => piecesL (byteOf p.1) p.2)
/-- What Put answers: the bytes, the error. -/
def putL (L : OptL) : List UInt8 × Int :=
  if distinctB L = true then (if (allL L).length ≤ 1199 then (allL L ++ [255], 0) else ([], 2)) else ([], 1)

/-- A piece joined to what there is. -/
def joinL (acc : OptL) (c : Int) (x : List UInt8) : OptL := if acc.any (fun p => p.1 == c) = true then acc.map (fun p => if p.1 = c then (p.1, p.2 ++ x) else p) else acc ++ [(c, x)]
/-- The options that bytes are. -/
def getL : List UInt8 → OptL → Option OptL
  | [], _ => none
  | c :: r, acc =>
    if c = 255 then some acc else
    if c = 0 then getL r acc else
    match r with
    | [] => none
    | n :: r2 => if n.toNat ≤ r2.length then getL (r2.drop n.toNat) (joinL acc (c.toNat : Int) (r2.take n.toNat)) else none
termination_by l => l.length
decreasing_by
  all_goals simp_wf
  all_goals omega
theorem get_none (acc : OptL) : getL [] acc = none := by rw [getL]
theorem get_end (r : List UInt8) (acc : OptL) : getL (255 :: r) acc = some acc := by rw [getL.eq_def]; rfl
theorem get_pad (r : List UInt8) (acc : OptL) : getL (0 :: r) acc = getL r acc := by 
  conv => lhs; rw [getL.eq_def]
  simp
theorem get_cut {c : UInt8} {acc : OptL} (h1 : ¬ c = 255) (h2 : ¬ c = 0) : getL [c] acc = none := by rw [getL, if_neg h1, if_neg h2]
theorem get_short {c n : UInt8} {r : List UInt8} {acc : OptL} (h1 : ¬ c = 255) (h2 : ¬ c = 0) (h : ¬ n.toNat ≤ r.length) : getL (c :: n :: r) acc = none := by
  rw [getL, if_neg h1, if_neg h2]; simp only [if_neg h]
theorem get_one {c n : UInt8} {r : List UInt8} {acc : OptL} (h1 : ¬ c = 255) (h2 : ¬ c = 0) (h : n.toNat ≤ r.length) : getL (c :: n :: r) acc = getL (r.drop n.toNat) (joinL acc (c.toNat : Int) (r.take n.toNat)) := by
  rw [getL, if_neg h1, if_neg h2]; simp only [if_pos h]
end Go.Proofs.Ytjfboofnffghjaa
