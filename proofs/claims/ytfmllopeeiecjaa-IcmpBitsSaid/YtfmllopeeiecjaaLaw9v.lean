/- Layer 9: walks as the frames want them. -/
import Derived.Test.YtfmllopeeiecjaaLaw9c
import Derived.OpenShut
namespace Go.Proofs.Ytfmllopeeiecjaa
open Go.RowKit

theorem icmpBitsF_walk (ty cd re : Int) (D : Option Addr) (nd qd : Nat) (ld : List UInt8) (bit : Int) (w : World) (wr : (Lit.int .u32 re).wf = true) (hd : Sl w D nd qd ld) : Calls Try.prog 8 #[.agg #[.int .i64 ty, .int .i64 cd, .int .u32 re, .slice D nd qd], .int .i64 bit] w fun e w' => e = .returned (.bool true) ∧ Below w.heap.size w w' := by
  have b1 := Go.bounds_u32 wr
  exact icmpBits_walk ty cd re D nd qd ld bit w hd b1.1 (by omega)
end Go.Proofs.Ytfmllopeeiecjaa
