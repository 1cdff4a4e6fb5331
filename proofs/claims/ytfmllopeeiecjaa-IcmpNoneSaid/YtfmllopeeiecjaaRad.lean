/- The reference's addr, for seats without layer 5. -/
import Derived.Test.YtfmllopeeiecjaaRdf
import Derived.Test.YtfmllopeeiecjaaEth1
namespace Go.Proofs.Ytfmllopeeiecjaa
open Go.RowKit

set_option maxRecDepth 100000 in
set_option maxHeartbeats 4000000 in
theorem raddr_any (A : Option Addr) (n c : Nat) (p0 p1 p2 p3 : UInt8) (r : List UInt8) (w : World) (hl : Sl w A n c (p0 :: p1 :: p2 :: p3 :: r)) (hn : n ≤ 100000) :
    Calls Try.prog 66 #[.slice A n c] w fun e w' => e = .returned (.agg #[.int .u8 (p0.toNat : Int), .int .u8 (p1.toNat : Int), .int .u8 (p2.toNat : Int), .int .u8 (p3.toNat : Int)]) ∧ Below w.heap.size w w' := by
  have hlen : n = 4 + r.length := by have := hl.1; simp at this; omega
  have bel := (Below.refl w.heap.size w).alloc (Nat.le_refl _) (.cells #[.int .u8 0, .int .u8 0, .int .u8 0, .int .u8 0] 24)
  have hl1 := hl.below bel
  obtain ⟨d, o, rfl, hc⟩ := hl1.2.2.2 (by omega)
  have c0 := hc 0 p0 rfl
  have c1 := hc 1 p1 rfl
  have c2 := hc 2 p2 rfl
  have c3 := hc 3 p3 rfl
  unfold u8v at c0 c1 c2 c3
  rw [Nat.add_zero] at c0
  have n6 : (4 : Int) ≤ n := by omega
  have n7 : (n : Int) ≤ 100000 := by omega
  have hp : (w.alloc (.cells #[.int .u8 (p0.toNat : Int), .int .u8 (p1.toNat : Int), .int .u8 (p2.toNat : Int), .int .u8 (p3.toNat : Int)] 24)).drew.heap[w.heap.size]? = some (.cells #[.int .u8 (p0.toNat : Int), .int .u8 (p1.toNat : Int), .int .u8 (p2.toNat : Int), .int .u8 (p3.toNat : Int)] 24 (0, 0)) := heap_alloc_new w (.cells #[.int .u8 (p0.toNat : Int), .int .u8 (p1.toNat : Int), .int .u8 (p2.toNat : Int), .int .u8 (p3.toNat : Int)] 24)
  have belE := ((Below.refl w.heap.size w).alloc (Nat.le_refl _) (.cells #[.int .u8 (p0.toNat : Int), .int .u8 (p1.toNat : Int), .int .u8 (p2.toNat : Int), .int .u8 (p3.toNat : Int)] 24)).drew
  obtain ⟨⟨k0, k1, k2, k3⟩, _⟩ := cells4 hp
  clear hc hl hl1 hlen hn
  go_enter Try.func66, Try.ntmps66
  go_wp2_with fail
  go_region
  clear c0 c1 c2 c3
  go_wp2
  exact bodyPost_ret (v := .agg #[.int .u8 (p0.toNat : Int), .int .u8 (p1.toNat : Int), .int .u8 (p2.toNat : Int), .int .u8 (p3.toNat : Int)]) (by simp [results, Try.results66, go_sem, k0, k1, k2, k3]) rfl ⟨rfl, belE⟩
end Go.Proofs.Ytfmllopeeiecjaa
