/- The reference's copied and mac. -/
import Derived.Test.YtekjjknpifpkiaaRdf
import Derived.Test.YtekjjknpifpkiaaEth1
namespace Go.Proofs.Ytekjjknpifpkiaa
open Go.RowKit

set_option maxRecDepth 100000 in
set_option maxHeartbeats 4000000 in
theorem rmac_any (A : Option Addr) (n c : Nat) (a0 a1 a2 a3 a4 a5 : UInt8) (r : List UInt8) (w : World) (hl : Sl w A n c (a0 :: a1 :: a2 :: a3 :: a4 :: a5 :: r)) (hn : n ≤ 100000) :
    Calls Try.prog 27 #[.slice A n c] w fun e w' => e = .returned (.agg #[.int .u8 (a0.toNat : Int), .int .u8 (a1.toNat : Int), .int .u8 (a2.toNat : Int), .int .u8 (a3.toNat : Int), .int .u8 (a4.toNat : Int), .int .u8 (a5.toNat : Int)]) ∧ Below w.heap.size w w' := by
  have hlen : n = 6 + r.length := by have := hl.1; simp at this; omega
  have bel := (Below.refl w.heap.size w).alloc (Nat.le_refl _) (.cells #[.int .u8 0, .int .u8 0, .int .u8 0, .int .u8 0, .int .u8 0, .int .u8 0] 24)
  have hl1 := hl.below bel
  obtain ⟨d, o, rfl, hc⟩ := hl1.2.2.2 (by omega)
  have c0 := hc 0 a0 rfl
  have c1 := hc 1 a1 rfl
  have c2 := hc 2 a2 rfl
  have c3 := hc 3 a3 rfl
  have c4 := hc 4 a4 rfl
  have c5 := hc 5 a5 rfl
  unfold u8v at c0 c1 c2 c3 c4 c5
  rw [Nat.add_zero] at c0
  have n6 : (6 : Int) ≤ n := by omega
  have n7 : (n : Int) ≤ 100000 := by omega
  have hp : (w.alloc (.cells #[.int .u8 (a0.toNat : Int), .int .u8 (a1.toNat : Int), .int .u8 (a2.toNat : Int), .int .u8 (a3.toNat : Int), .int .u8 (a4.toNat : Int), .int .u8 (a5.toNat : Int)] 24)).drew.heap[w.heap.size]? = some (.cells #[.int .u8 (a0.toNat : Int), .int .u8 (a1.toNat : Int), .int .u8 (a2.toNat : Int), .int .u8 (a3.toNat : Int), .int .u8 (a4.toNat : Int), .int .u8 (a5.toNat : Int)] 24 (0, 0)) := heap_alloc_new w (.cells #[.int .u8 (a0.toNat : Int), .int .u8 (a1.toNat : Int), .int .u8 (a2.toNat : Int), .int .u8 (a3.toNat : Int), .int .u8 (a4.toNat : Int), .int .u8 (a5.toNat : Int)] 24)
  have belE := ((Below.refl w.heap.size w).alloc (Nat.le_refl _) (.cells #[.int .u8 (a0.toNat : Int), .int .u8 (a1.toNat : Int), .int .u8 (a2.toNat : Int), .int .u8 (a3.toNat : Int), .int .u8 (a4.toNat : Int), .int .u8 (a5.toNat : Int)] 24)).drew
  obtain ⟨⟨k0, k1, k2, k3, k4, k5⟩, _⟩ := cells6 hp
  clear hc hl hl1 hlen hn
  go_enter Try.func27, Try.ntmps27
  go_wp2_with fail
  go_region
  clear c0 c1 c2 c3 c4 c5
  go_wp2
  exact bodyPost_ret (v := .agg #[.int .u8 (a0.toNat : Int), .int .u8 (a1.toNat : Int), .int .u8 (a2.toNat : Int), .int .u8 (a3.toNat : Int), .int .u8 (a4.toNat : Int), .int .u8 (a5.toNat : Int)]) (by simp [results, Try.results27, go_sem, k0, k1, k2, k3, k4, k5]) rfl ⟨rfl, belE⟩
end Go.Proofs.Ytekjjknpifpkiaa
