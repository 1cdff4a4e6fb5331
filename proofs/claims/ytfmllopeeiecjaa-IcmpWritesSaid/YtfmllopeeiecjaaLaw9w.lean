/- Layer 9: walks as the frames want them. -/
import Derived.Test.YtfmllopeeiecjaaLaw9
import Derived.OpenShut
namespace Go.Proofs.Ytfmllopeeiecjaa
open Go.RowKit

theorem icmpWritesF_walk (tos id fl pt ttl pr : Int) (a0 a1 a2 a3 a4 a5 a6 a7 : UInt8) (So : Option Addr) (no co : Nat) (lo : List UInt8) (Sb : Option Addr) (nb cb : Nat) (lb : List UInt8) (ty cd re : Int) (D : Option Addr) (nd qd : Nat) (ld : List UInt8) (w : World) (ho : Sl w So no co lo) (hb : Sl w Sb nb cb lb) (wr : (Lit.int .u32 re).wf = true) (hd : Sl w D nd qd ld) : Calls Try.prog 5 #[.agg #[.int .i64 tos, .int .i64 id, .int .i64 fl, .int .i64 pt, .int .i64 ttl, .int .i64 pr, .int .u8 (a0.toNat : Int), .int .u8 (a1.toNat : Int), .int .u8 (a2.toNat : Int), .int .u8 (a3.toNat : Int), .int .u8 (a4.toNat : Int), .int .u8 (a5.toNat : Int), .int .u8 (a6.toNat : Int), .int .u8 (a7.toNat : Int), .slice So no co, .slice Sb nb cb], .agg #[.int .i64 ty, .int .i64 cd, .int .u32 re, .slice D nd qd]] w fun e w' => e = .returned (.bool true) ∧ Below w.heap.size w w' := by
  have b1 := Go.bounds_u32 wr
  exact icmpWrites_walk tos id fl pt ttl pr a0 a1 a2 a3 a4 a5 a6 a7 So no co lo Sb nb cb lb ty cd re D nd qd ld w ho hb hd b1.1 (by omega)
set_option linter.unusedVariables false in
theorem icmpKindsF_walk (ty cd re : Int) (D : Option Addr) (nd qd : Nat) (ld : List UInt8) (w : World) (wr : (Lit.int .u32 re).wf = true) (hd : Sl w D nd qd ld) : Calls Try.prog 9 #[.agg #[.int .i64 ty, .int .i64 cd, .int .u32 re, .slice D nd qd]] w fun e w' => e = .returned (.bool true) ∧ Below w.heap.size w w' := by
  have b1 := Go.bounds_u32 wr
  exact icmpKinds_walk ty cd re D nd qd w b1.1 (by omega)
end Go.Proofs.Ytfmllopeeiecjaa
