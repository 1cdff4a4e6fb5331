/- Texts put together: Sli. -/
import Derived.Test.YtbdaejodbcjmfaaGreatQ1
namespace Go.Proofs.YtbdaejodbcjmfaaGreat
open Go.RowKit

def inf (v : Int) : List Value := [.int .i64 v]
theorem inf_len (x : Int) : (inf x).length = 1 := rfl
theorem Sle.inc {w : World} {g o n c i : Nat} {l : List Int} {x : Int} (h : Sle inf 1 w (some ⟨g, o, none⟩) n c l) (hx : l[i]? = some x) : w.cell? ⟨g, o + i, none⟩ = some (.int .i64 x) := by
  have := Sle.cell (j := 0) h hx rfl
  rw [Nat.mul_one, Nat.add_zero] at this
  exact this
theorem sli_of_row {w : World} {a : Option Addr} {len cap : Nat} {zs : List Int}
    (h : (a = none ∧ len = 0 ∧ cap = 0 ∧ zs = []) ∨ ∃ x, a = some x ∧ len ≤ cap ∧ cap ≤ maxLen ∧ zs.length = cap ∧ (∀ i, i < zs.length → w.cell? (x.add i) = some (.int .i64 (zs.getD i 0))) ∧ ∀ n ∈ zs, (Lit.int .i64 n).wf = true) :
    ∃ l, Sle inf 1 w a len cap l := by
  rcases h with ⟨rfl, rfl, rfl, rfl⟩ | ⟨x, rfl, hl, hm, hz, hcell, hwz⟩
  · exact ⟨[], Sle.nil (by decide) inf_len w⟩
  · refine ⟨zs.take len, by simp; omega, hl, hm, fun hn => ?_, by decide, inf_len⟩
    obtain ⟨b, off, spot⟩ := x
    have h0 := hcell 0 (by omega)
    have hspot : spot = none := by simpa [Addr.add] using World.cell?_spot h0
    subst hspot
    have e : (zs.take len).flatMap inf = (zs.take len).map (fun v => Value.int .i64 v) := by
      induction zs.take len with
      | nil => rfl
      | cons x l ih => rw [List.flatMap_cons, ih]; rfl
    refine ⟨b, off, rfl, fun j u hj => ?_⟩
    rw [e] at hj
    have hjl : j < zs.length := by
      have := (List.getElem?_eq_some_iff.1 hj).1
      simp at this; omega
    have hc := hcell j hjl
    rw [Addr.add_lit] at hc
    rw [hc]
    rw [List.getElem?_map, List.getElem?_take] at hj
    split at hj
    · rw [List.getElem?_eq_getElem hjl] at hj
      simp only [Option.map_some, Option.some.injEq] at hj
      subst hj
      simp [List.getD, List.getElem?_eq_getElem hjl]
    · simp at hj
end Go.Proofs.YtbdaejodbcjmfaaGreat
