/- A byte read out of a slice. Of no program. -/
import Derived.Test.YtholgadifhjmgaaDoorMem
namespace Go.Proofs.YtholgadifhjmgaaDoor
open Go.RowKit

theorem sl_at {w : World} {g o n c j : Nat} {l : List UInt8} {x : UInt8} (h : Sl w (some ⟨g, o, none⟩) n c l) (hx : l[j]? = some x) : w.cell? ⟨g, o + j, none⟩ = some (.int .u8 (x.toNat : Int)) := by
  obtain ⟨h1, h2, h3, h4⟩ := h
  have hj : j < l.length := by
    rcases Nat.lt_or_ge j l.length with h | h
    · exact h
    · rw [List.getElem?_eq_none h] at hx
      exact absurd hx (by simp)
  obtain ⟨g', o', e, hc⟩ := h4 (by omega)
  injection e with e
  injection e with e1 e2
  subst e1
  subst e2
  exact hc j x hx
theorem sl_some {w : World} {A : Option Addr} {n c : Nat} {l : List UInt8} (h : Sl w A n c l) (hn : 0 < n) : ∃ g o, A = some ⟨g, o, none⟩ := by
  obtain ⟨g, o, e, _⟩ := h.2.2.2 hn
  exact ⟨g, o, e⟩
end Go.Proofs.YtholgadifhjmgaaDoor
