/- Slices of structs that came in, opened. Of no program. -/
import Derived.Test.YtholgadifhjmgaaDoorOpens
import Derived.Test.YtholgadifhjmgaaDoorSle
import Derived.Deep.Slices
namespace Go.Proofs.YtholgadifhjmgaaDoor
open Go.RowKit Go.ChangeShapes Go.WideShapes

theorem list_of {α : Type} {p : Nat → α → Prop} : ∀ {n : Nat}, (∀ i, i < n → ∃ x, p i x) → ∃ l : List α, l.length = n ∧ ∀ i x, l[i]? = some x → p i x
  | 0, _ => ⟨[], rfl, fun i x h => by simp at h⟩
  | n + 1, h => by
    obtain ⟨l, hl, hp⟩ := list_of (n := n) fun i hi => h i (by omega)
    obtain ⟨x, hx⟩ := h n (by omega)
    refine ⟨l ++ [x], by simp [hl], fun i y hy => ?_⟩
    by_cases hi : i < l.length
    · rw [List.getElem?_append_left hi] at hy
      exact hp i y hy
    · rw [List.getElem?_append_right (by omega)] at hy
      have h0 := (List.getElem?_eq_some_iff.1 hy).1
      have e : i = n := by simp at h0; omega
      subst e
      rw [hl, Nat.sub_self] at hy
      obtain rfl : x = y := by simpa using hy
      exact hx
theorem fld_sle {H α : Type} {enc : TypeId × Value → H} {P : Program} {w : World} {base : Nat} {sp : Nat → Bool} {held : Bool} {fuel k : Nat} {t e : TypeId} {cs : List Value} {x : DataW H × List MemPlace} {f : α → List Value}
    (ht : P.underlying t = some (.slice e)) (hc : P.cellsOf e = k) (hk : 0 < k) (hf : ∀ x, (f x).length = k)
    (elem : ∀ n cs' y, DataW.trod enc P w base sp held n e cs' = some y → ∃ x : α, cs' = f x) (h : DataW.trod enc P w base sp held fuel t cs = some x) :
    ∃ (A : Option Addr) (n c : Nat) (l : List α), cs = [.slice A n c] ∧ Sle f k w A n c l := by
  rcases Go.Deep.open_slice ht h with ⟨rfl, _⟩ | ⟨a, len, cap, m, n, D, Pl, rfl, hb, hl, hm, hmm, _, hx⟩
  · exact ⟨none, 0, 0, [], rfl, Sle.nil hk hf w⟩
  have hlm : len ≤ m := by rw [hmm]; split <;> omega
  obtain ⟨l, hll, hp⟩ := list_of (p := fun i (x : α) => w.cells? base (a.add (i * k)) k = some (f x)) (n := len) fun i hi => by
    obtain ⟨cs', h1, h2⟩ := hx i (by omega)
    rw [hc] at h1
    obtain ⟨x, rfl⟩ := elem _ _ _ h2
    exact ⟨x, h1⟩
  refine ⟨some a, len, cap, l, rfl, hll, hl, hm, fun hn => ?_, hk, hf⟩
  have cellat : ∀ i j v, i < len → j < k → (l.flatMap f)[i * k + j]? = some v → w.cell? (a.add (i * k + j)) = some v := fun i j v hi hj hv => by
    have hx' := hp i _ (List.getElem?_eq_getElem (by omega))
    rw [flat_at hf l i j _ (List.getElem?_eq_getElem (by omega)) hj] at hv
    have h3 := (World.cells?_some hx').2.2 j hj
    rw [Addr.add_add] at h3
    rw [h3, hv]
  have hlen := flat_len hf l
  obtain ⟨g, o, spot⟩ := a
  have h0 : spot = none := by
    obtain ⟨v, hv⟩ : ∃ v, (l.flatMap f)[0 * k + 0]? = some v := ⟨_, List.getElem?_eq_getElem (by rw [hlen, hll]; have := Nat.mul_pos hn hk; omega)⟩
    simpa [Addr.add] using World.cell?_spot (cellat 0 0 v hn hk hv)
  subst h0
  refine ⟨g, o, rfl, fun j v hj => ?_⟩
  have hjl := (List.getElem?_eq_some_iff.1 hj).1
  rw [hlen, hll] at hjl
  have hd : j / k < len := Nat.div_lt_of_lt_mul (by rw [Nat.mul_comm]; exact hjl)
  have hr := Nat.mod_lt j hk
  have e : j / k * k + j % k = j := by rw [Nat.mul_comm]; exact Nat.div_add_mod j k
  have := cellat (j / k) (j % k) v hd hr (by rw [e]; exact hj)
  rw [e, Addr.add_lit] at this
  exact this
end Go.Proofs.YtholgadifhjmgaaDoor
