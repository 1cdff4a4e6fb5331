/- Layer 8: the walks as the frames want them. -/
import Derived.Test.YtkmihoijnjdbnaaLaw8b
import Derived.Test.YtkmihoijnjdbnaaLaw8c
import Derived.OpenShut
namespace Go.Proofs.Ytkmihoijnjdbnaa
open Go.RowKit

theorem tcpWritesF_walk (tos id fl pt ttl pr : Int) (a0 a1 a2 a3 a4 a5 a6 a7 : UInt8) (So : Option Addr) (no co : Nat) (lo : List UInt8) (Sb : Option Addr) (nb cb : Nat) (lb : List UInt8) (sf st se ak fg wn ug : Int) (Q : Option Addr) (nq cq : Nat) (lq : List UInt8) (D : Option Addr) (nd cd : Nat) (ld : List UInt8) (w : World) (ho : Sl w So no co lo) (hb : Sl w Sb nb cb lb) (ws : (Lit.int .u32 se).wf = true) (wk : (Lit.int .u32 ak).wf = true) (hq : Sl w Q nq cq lq) (hd : Sl w D nd cd ld) : Calls Try.prog 5 #[.agg #[.int .i64 tos, .int .i64 id, .int .i64 fl, .int .i64 pt, .int .i64 ttl, .int .i64 pr, .int .u8 (a0.toNat : Int), .int .u8 (a1.toNat : Int), .int .u8 (a2.toNat : Int), .int .u8 (a3.toNat : Int), .int .u8 (a4.toNat : Int), .int .u8 (a5.toNat : Int), .int .u8 (a6.toNat : Int), .int .u8 (a7.toNat : Int), .slice So no co, .slice Sb nb cb], .agg #[.int .i64 sf, .int .i64 st, .int .u32 se, .int .u32 ak, .int .i64 fg, .int .i64 wn, .int .i64 ug, .slice Q nq cq, .slice D nd cd]] w fun e w' => e = .returned (.bool true) ∧ Below w.heap.size w w' := by
  have b1 := Go.bounds_u32 ws
  have b2 := Go.bounds_u32 wk
  exact tcpWrites_walk tos id fl pt ttl pr a0 a1 a2 a3 a4 a5 a6 a7 So no co lo Sb nb cb lb sf st se ak fg wn ug Q nq cq lq D nd cd ld w ho hb hq hd b1.1 (by omega) b2.1 (by omega)
theorem tcpBitsF_walk (sf st se ak fg wn ug : Int) (Q : Option Addr) (nq cq : Nat) (lq : List UInt8) (D : Option Addr) (nd cd : Nat) (ld : List UInt8) (bit : Int) (w : World) (ws : (Lit.int .u32 se).wf = true) (wk : (Lit.int .u32 ak).wf = true) (hq : Sl w Q nq cq lq) (hd : Sl w D nd cd ld) : Calls Try.prog 6 #[.agg #[.int .i64 sf, .int .i64 st, .int .u32 se, .int .u32 ak, .int .i64 fg, .int .i64 wn, .int .i64 ug, .slice Q nq cq, .slice D nd cd], .int .i64 bit] w fun e w' => e = .returned (.bool true) ∧ Below w.heap.size w w' := by
  have b1 := Go.bounds_u32 ws
  have b2 := Go.bounds_u32 wk
  exact tcpBits_walk sf st se ak fg wn ug Q nq cq D nd cd lq ld bit w hq hd b1.1 (by omega) b2.1 (by omega)
end Go.Proofs.Ytkmihoijnjdbnaa
