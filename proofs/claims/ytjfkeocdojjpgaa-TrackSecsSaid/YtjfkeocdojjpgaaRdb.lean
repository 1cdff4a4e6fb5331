/- The Reader's contracts with a bound on where its rest lies: for callers that write into blocks of their own between two calls. -/
import Derived.Test.YtjfkeocdojjpgaaWalks
namespace Go.Proofs.Ytjfkeocdojjpgaa
open Go.RowKit

/-- A Reader at block g whose rest, where it is not empty, lies in a block below B. -/
def Rb (w : World) (T : TypeId) (g B : Nat) (l : List UInt8) (s : Bool) : Prop :=
  ∃ A n c, w.heap[g]? = some (.cells #[.slice A n c, .bool s] T (0, 0)) ∧ Sl w A n c l ∧ (0 < n → ∃ a o, A = some ⟨a, o, none⟩ ∧ a < B)
theorem Rb.rd {w : World} {T : TypeId} {g B : Nat} {l : List UInt8} {s : Bool} (h : Rb w T g B l s) : Rd w T g l s := by
  obtain ⟨A, n, c, h1, h2, _⟩ := h
  exact ⟨A, n, c, h1, h2⟩
theorem Rd.rb {w : World} {T : TypeId} {g : Nat} {l : List UInt8} {s : Bool} (h : Rd w T g l s) : Rb w T g w.heap.size l s := by
  obtain ⟨A, n, c, h1, h2⟩ := h
  refine ⟨A, n, c, h1, h2, fun hn => ?_⟩
  obtain ⟨a, o, e, hc⟩ := h2.2.2.2 hn
  have h0 : 0 < l.length := by have := h2.1; omega
  exact ⟨a, o, e, cell_lt (hc 0 _ (List.getElem?_eq_getElem h0))⟩
theorem Rb.below {w w' : World} {T : TypeId} {g B : Nat} {l : List UInt8} {s : Bool} (h : Rb w T g B l s) (hb : Below w.heap.size w w') : Rb w' T g B l s := by
  have hlt := h.rd.lt
  obtain ⟨A, n, c, h1, h2, h3⟩ := h
  exact ⟨A, n, c, (hb.block g hlt).trans h1, h2.below hb, h3⟩
/-- A store into a block that is neither the Reader's nor below the bound. -/
theorem Rb.setCell {w : World} {T : TypeId} {g B q : Nat} {l : List UInt8} {s : Bool} (h : Rb w T g B l s) (hq : B ≤ q) (hne : q ≠ g) (i : Nat) (u : Value) : Rb (w.setCell ⟨q, i, none⟩ u) T g B l s := by
  obtain ⟨A, n, c, h1, h2, h3⟩ := h
  have other : ∀ k, k ≠ q → (w.setCell ⟨q, i, none⟩ u).heap[k]? = w.heap[k]? := fun k hk => Below.heap_setCell w ⟨q, i, none⟩ u k (fun e => hk (by rw [e]))
  refine ⟨A, n, c, (other g (Ne.symm hne)).trans h1, ⟨h2.1, h2.2.1, h2.2.2.1, fun hn => ?_⟩, h3⟩
  obtain ⟨a, o, e, hc⟩ := h2.2.2.2 hn
  obtain ⟨a', o', e', hlt⟩ := h3 hn
  rw [e] at e'
  obtain ⟨rfl, rfl⟩ : a = a' ∧ o = o' := by injection e' with e'; injection e' with e1 e2; exact ⟨e1, e2⟩
  refine ⟨a, o, e, fun j b hj => ?_⟩
  exact (World.cell?_of_block (w := w) (other a (by omega))).trans (hc j b hj)
theorem Rb.set {w w' : World} {T : TypeId} {g B : Nat} {l l' : List UInt8} {s s' : Bool} {A : Option Addr} {n c : Nat} (hr : Rb w T g B l s) (hg : w.grownBy w' (some g)) (hb : w'.heap[g]? = some (.cells #[.slice A n c, .bool s'] T (0, 0)))
    (hs : Sl w A n c l') (hB : 0 < n → ∃ a o, A = some ⟨a, o, none⟩ ∧ a < B) : Rb w' T g B l' s' := ⟨A, n, c, hb, hs.far hr.rd hg, hB⟩
/-- Stores into new blocks, and calls that write a Reader alone. -/
theorem grown_setCell {a w : World} {row : Option Nat} (h : a.grownBy w row) {k : Nat} (hk : a.heap.size ≤ k) (i : Nat) (u : Value) : a.grownBy (w.setCell ⟨k, i, none⟩ u) row :=
  ⟨h.os, h.tape, h.output, by simpa [World.setCell] using h.size, fun j hj hne => (Below.heap_setCell w ⟨k, i, none⟩ u j (fun e => by have h2 : j = k := e; omega)).trans (h.block j hj hne)⟩

end Go.Proofs.Ytjfkeocdojjpgaa
