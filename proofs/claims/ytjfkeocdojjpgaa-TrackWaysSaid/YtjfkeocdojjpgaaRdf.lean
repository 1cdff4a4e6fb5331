/- What octet makes is new memory: the contracts of join, Read and Bytes once more, with the place of what they make. -/
import Derived.Test.YtjfkeocdojjpgaaWalks
import Derived.Test.YtjfkeocdojjpgaaRdb
namespace Go.Proofs.Ytjfkeocdojjpgaa
open Go.RowKit

/-- What is not empty lies in a block from B on. -/
def Fr (B : Nat) (A : Option Addr) (n : Nat) : Prop := 0 < n → ∃ a o, A = some ⟨a, o, none⟩ ∧ B ≤ a
theorem Fr.mono {B C : Nat} {A : Option Addr} {n : Nat} (h : Fr B A n) (hc : C ≤ B) : Fr C A n := fun hn => by
  obtain ⟨a, o, e, hb⟩ := h hn
  exact ⟨a, o, e, Nat.le_trans hc hb⟩
theorem Sl.of_own_f {w : World} {base : Nat} {e : TypeId} {v : Value} {l : List UInt8} {n : Nat} (h : w.ownsRow base e 1 v n (l.map u8v)) : ∃ A c, v = .slice A n c ∧ Sl w A n c l ∧ Fr base A n := by
  obtain ⟨A, c, rfl, hs⟩ := Sl.of_own h
  refine ⟨A, c, rfl, hs, fun hn => ?_⟩
  rcases h.2 with ⟨e1, rfl⟩ | ⟨g, cap, cur, e1, hb, _⟩
  · omega
  · injection e1 with e2
    exact ⟨g, 0, e2, hb⟩
/-- A store elsewhere. -/
theorem Sl.setCell {w : World} {A : Option Addr} {n c : Nat} {l : List UInt8} {B k : Nat} (h : Sl w A n c l) (hf : Fr B A n) (hk : k < B) (i : Nat) (u : Value) : Sl (w.setCell ⟨k, i, none⟩ u) A n c l := by
  refine ⟨h.1, h.2.1, h.2.2.1, fun hn => ?_⟩
  obtain ⟨a, o, e, hc⟩ := h.2.2.2 hn
  obtain ⟨a', o', e', hlt⟩ := hf hn
  rw [e] at e'
  obtain ⟨rfl, rfl⟩ : a = a' ∧ o = o' := by injection e' with e'; injection e' with e1 e2; exact ⟨e1, e2⟩
  refine ⟨a, o, e, fun j b hj => ?_⟩
  exact (World.cell?_of_block (w := w) (Below.heap_setCell w ⟨k, i, none⟩ u a (by show a ≠ k; omega))).trans (hc j b hj)
theorem Sl.grown {w w' : World} {A : Option Addr} {n c : Nat} {l : List UInt8} {B g : Nat} (h : Sl w A n c l) (hf : Fr B A n) (hg : w.grownBy w' (some g)) (hk : g < B) : Sl w' A n c l := by
  refine ⟨h.1, h.2.1, h.2.2.1, fun hn => ?_⟩
  obtain ⟨a, o, e, hc⟩ := h.2.2.2 hn
  obtain ⟨a', o', e', hlt⟩ := hf hn
  rw [e] at e'
  obtain ⟨rfl, rfl⟩ : a = a' ∧ o = o' := by injection e' with e'; injection e' with e1 e2; exact ⟨e1, e2⟩
  refine ⟨a, o, e, fun j b hj => ?_⟩
  have hne : (some a : Option Nat) ≠ some g := fun h => by injection h with h; omega
  exact (World.cell?_of_block (w := w) (hg.block a (cell_lt (hc j b hj)) hne)).trans (hc j b hj)

end Go.Proofs.Ytjfkeocdojjpgaa
