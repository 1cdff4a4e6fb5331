/- The reference's copied and mac. -/
import Derived.Test.YtgaobeoddlmnjaaRdf
import Derived.Test.YtgaobeoddlmnjaaEth1
namespace Go.Proofs.Ytgaobeoddlmnjaa
open Go.RowKit

theorem rcopied_o (A : Option Addr) (n c : Nat) (l : List UInt8) (w : World) (hl : Sl w A n c l) (hs : n ≤ 140737488355328) :
    Calls Try.prog 28 #[.slice A n c] w fun e w' => ∃ v, e = .returned v ∧ w'.ownsRow w.heap.size 5 1 v n (l.map u8v) ∧ Below w.heap.size w w' := by
  obtain ⟨i, hi, hz0, hz1, hz2⟩ := info_parts Try.info5
  have hown := own_empty w
  have bel1 : Below w.heap.size w (w.alloc (.cells #[] 5)) := (Below.refl _ _).alloc (Nat.le_refl _) _
  have hl1 := hl.below bel1
  go_enter Try.func28, Try.ntmps28
  go_wp2_with (at_builtin; refine wpList_append_bytes _ rfl (.tmp 3) (.tmp 4) 25 rfl w.heap.size 5 i (.int .u8 0) Try.underlying25 hi hz0 hz1 hz2 rfl _ 0 [] rfl hown A n c l rfl hl1 ?c1 ?c2 ?_)
  case c1 => omega
  case c2 => exact bel1.size
  intro v2 w2 hown2 hg2 hat2
  obtain ⟨bel2, _, _⟩ := own_grown bel1 bel1.size (fun k h => by simp [Value.ownBlock] at h; omega) hg2 (by simpa using hat2)
  clear hat2 hg2 hown hl1
  go_wp2
  go_ret
  exact ⟨v2, rfl, hown2, bel2⟩
theorem rcopied_any (A : Option Addr) (n c : Nat) (l : List UInt8) (w : World) (hl : Sl w A n c l) (hs : n ≤ 140737488355328) :
    Calls Try.prog 28 #[.slice A n c] w fun e w' => ∃ A' c', e = .returned (.slice A' n c') ∧ Sl w' A' n c' l ∧ Below w.heap.size w w' ∧ Fr w.heap.size A' n := by
  refine (rcopied_o A n c l w hl hs).mono ?_
  rintro e w1 ⟨v, rfl, hown, bel⟩
  obtain ⟨A', c', rfl, hsl, hf⟩ := Sl.of_own_f hown
  exact ⟨A', c', rfl, hsl, bel, hf⟩

set_option maxRecDepth 100000 in
set_option maxHeartbeats 4000000 in
theorem rmac_any (A : Option Addr) (n c : Nat) (a0 a1 a2 a3 a4 a5 : UInt8) (r : List UInt8) (w : World) (hl : Sl w A n c (a0 :: a1 :: a2 :: a3 :: a4 :: a5 :: r)) (hn : n ≤ 100000) :
    Calls Try.prog 26 #[.slice A n c] w fun e w' => e = .returned (.agg #[.int .u8 (a0.toNat : Int), .int .u8 (a1.toNat : Int), .int .u8 (a2.toNat : Int), .int .u8 (a3.toNat : Int), .int .u8 (a4.toNat : Int), .int .u8 (a5.toNat : Int)]) ∧ Below w.heap.size w w' := by
  have hlen : n = 6 + r.length := by have := hl.1; simp at this; omega
  have bel := (Below.refl w.heap.size w).alloc (Nat.le_refl _) (.cells #[.int .u8 0, .int .u8 0, .int .u8 0, .int .u8 0, .int .u8 0, .int .u8 0] 24)
  have hl1 := hl.below bel
  obtain ⟨d, o, rfl, hc⟩ := hl1.2.2.2 (by omega)
  have c0 := hc 0 a0 rfl
  have c1 := hc 1 a1 rfl
  have c2 := hc 2 a2 rfl
  have c3 := hc 3 a3 rfl
  have c4 := hc 4 a4 rfl
  have c5 := hc 5 a5 rfl
  unfold u8v at c0 c1 c2 c3 c4 c5
  rw [Nat.add_zero] at c0
  have n6 : (6 : Int) ≤ n := by omega
  have n7 : (n : Int) ≤ 100000 := by omega
  have hp : (w.alloc (.cells #[.int .u8 (a0.toNat : Int), .int .u8 (a1.toNat : Int), .int .u8 (a2.toNat : Int), .int .u8 (a3.toNat : Int), .int .u8 (a4.toNat : Int), .int .u8 (a5.toNat : Int)] 24)).drew.heap[w.heap.size]? = some (.cells #[.int .u8 (a0.toNat : Int), .int .u8 (a1.toNat : Int), .int .u8 (a2.toNat : Int), .int .u8 (a3.toNat : Int), .int .u8 (a4.toNat : Int), .int .u8 (a5.toNat : Int)] 24 (0, 0)) := heap_alloc_new w (.cells #[.int .u8 (a0.toNat : Int), .int .u8 (a1.toNat : Int), .int .u8 (a2.toNat : Int), .int .u8 (a3.toNat : Int), .int .u8 (a4.toNat : Int), .int .u8 (a5.toNat : Int)] 24)
  have belE := ((Below.refl w.heap.size w).alloc (Nat.le_refl _) (.cells #[.int .u8 (a0.toNat : Int), .int .u8 (a1.toNat : Int), .int .u8 (a2.toNat : Int), .int .u8 (a3.toNat : Int), .int .u8 (a4.toNat : Int), .int .u8 (a5.toNat : Int)] 24)).drew
  obtain ⟨⟨k0, k1, k2, k3, k4, k5⟩, _⟩ := cells6 hp
  clear hc hl hl1 hlen hn
  go_enter Try.func26, Try.ntmps26
  go_wp2_with fail
  go_region
  clear c0 c1 c2 c3 c4 c5
  go_wp2
  exact bodyPost_ret (v := .agg #[.int .u8 (a0.toNat : Int), .int .u8 (a1.toNat : Int), .int .u8 (a2.toNat : Int), .int .u8 (a3.toNat : Int), .int .u8 (a4.toNat : Int), .int .u8 (a5.toNat : Int)]) (by simp [results, Try.results26, go_sem, k0, k1, k2, k3, k4, k5]) rfl ⟨rfl, belE⟩
end Go.Proofs.Ytgaobeoddlmnjaa
