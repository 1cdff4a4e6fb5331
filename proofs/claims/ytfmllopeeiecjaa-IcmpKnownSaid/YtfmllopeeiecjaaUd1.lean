/- Layer 7: udp's isPort, fits, write, Put. -/
import Derived.Test.YtfmllopeeiecjaaUdl
import Derived.Test.YtfmllopeeiecjaaRd2
import Derived.Test.YtfmllopeeiecjaaIpe
import Derived.Test.YtfmllopeeiecjaaIpf
import Derived.Deep.RegionHeld3
namespace Go.Proofs.Ytfmllopeeiecjaa
open Go.RowKit

theorem Sls.three {w : World} {A B D : Option Addr} {n c m d k q g : Nat} {l t u : List UInt8} {T : TypeId} (h : Sl w A n c l) (h2 : Sl w B m d t) (h3 : Sl w D k q u) (hg : w.heap[g]? = some (.cells #[.slice A n c, .slice B m d, .slice D k q] T (0, 0))) : Sls w (some ⟨g, 0, none⟩) 3 [l, t, u] := by
  refine ⟨rfl, fun _ => ⟨_, _, rfl, fun j x hj => ?_⟩⟩
  match j, hj with
  | 0, hj =>
    obtain rfl : l = x := by simpa using hj
    exact ⟨A, n, c, by simp only [World.cell?, hg]; simp, h⟩
  | 1, hj =>
    obtain rfl : t = x := by simpa using hj
    exact ⟨B, m, d, by simp only [World.cell?, hg]; simp, h2⟩
  | 2, hj =>
    obtain rfl : u = x := by simpa using hj
    exact ⟨D, k, q, by simp only [World.cell?, hg]; simp, h3⟩
  | j + 3, hj => simp at hj
theorem fitsd (A : Option Addr) (n c : Nat) (l : List UInt8) (w : World) (hl : Sl w A n c l) : Calls Try.prog 39 #[.slice A n c] w fun e w' => e = .returned (.bool (decide (ck l = 0))) ∧ Below w.heap.size w w' := by
  by_cases h : ck l = 0
  · rw [decide_eq_true h]
    exact fits_yes A n c l w hl h
  · rw [decide_eq_false h]
    exact fits_no A n c l w hl h
end Go.Proofs.Ytfmllopeeiecjaa
