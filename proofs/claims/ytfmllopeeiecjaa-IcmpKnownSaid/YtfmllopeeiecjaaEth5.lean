/- The reference's copied and mac. -/
import Derived.Test.YtfmllopeeiecjaaRdf
import Derived.Test.YtfmllopeeiecjaaEth1
namespace Go.Proofs.Ytfmllopeeiecjaa
open Go.RowKit

theorem rcopied_o (A : Option Addr) (n c : Nat) (l : List UInt8) (w : World) (hl : Sl w A n c l) (hs : n ≤ 140737488355328) :
    Calls Try.prog 46 #[.slice A n c] w fun e w' => ∃ v, e = .returned v ∧ w'.ownsRow w.heap.size 5 1 v n (l.map u8v) ∧ Below w.heap.size w w' := by
  obtain ⟨i, hi, hz0, hz1, hz2⟩ := info_parts Try.info5
  have hown := own_empty w
  have bel1 : Below w.heap.size w (w.alloc (.cells #[] 5)) := (Below.refl _ _).alloc (Nat.le_refl _) _
  have hl1 := hl.below bel1
  go_enter Try.func46, Try.ntmps46
  go_wp2_with (at_builtin; refine wpList_append_bytes _ rfl (.tmp 3) (.tmp 4) 25 rfl w.heap.size 5 i (.int .u8 0) Try.underlying25 hi hz0 hz1 hz2 rfl _ 0 [] rfl hown A n c l rfl hl1 ?c1 ?c2 ?_)
  case c1 => omega
  case c2 => exact bel1.size
  intro v2 w2 hown2 hg2 hat2
  obtain ⟨bel2, _, _⟩ := own_grown bel1 bel1.size (fun k h => by simp [Value.ownBlock] at h; omega) hg2 (by simpa using hat2)
  clear hat2 hg2 hown hl1
  go_wp2
  go_ret
  exact ⟨v2, rfl, hown2, bel2⟩
theorem rcopied_any (A : Option Addr) (n c : Nat) (l : List UInt8) (w : World) (hl : Sl w A n c l) (hs : n ≤ 140737488355328) :
    Calls Try.prog 46 #[.slice A n c] w fun e w' => ∃ A' c', e = .returned (.slice A' n c') ∧ Sl w' A' n c' l ∧ Below w.heap.size w w' ∧ Fr w.heap.size A' n := by
  refine (rcopied_o A n c l w hl hs).mono ?_
  rintro e w1 ⟨v, rfl, hown, bel⟩
  obtain ⟨A', c', rfl, hsl, hf⟩ := Sl.of_own_f hown
  exact ⟨A', c', rfl, hsl, bel, hf⟩

end Go.Proofs.Ytfmllopeeiecjaa
