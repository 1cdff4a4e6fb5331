/- Six cells and fourteen; ether's Broad, Group, Mine, and the reference's. -/
import Derived.Test.YtdfobilagidmfaaWalkw
import Derived.Test.YtdfobilagidmfaaMemz
import Derived.BigRegion
import Derived.Stop.BytesEq
namespace Go.Proofs.Ytdfobilagidmfaa
open Go.RowKit

theorem cells6 {w : World} {k : Nat} {x0 x1 x2 x3 x4 x5 : Value} {T : TypeId} (h : w.heap[k]? = some (.cells #[x0, x1, x2, x3, x4, x5] T (0, 0))) :
    (w.cell? ⟨k, 0, none⟩ = some x0 ∧ w.cell? ⟨k, 1, none⟩ = some x1 ∧ w.cell? ⟨k, 2, none⟩ = some x2 ∧ w.cell? ⟨k, 3, none⟩ = some x3 ∧ w.cell? ⟨k, 4, none⟩ = some x4 ∧ w.cell? ⟨k, 5, none⟩ = some x5) ∧
    (w.frozen? ⟨k, 0, none⟩ = false ∧ w.frozen? ⟨k, 1, none⟩ = false ∧ w.frozen? ⟨k, 2, none⟩ = false ∧ w.frozen? ⟨k, 3, none⟩ = false ∧ w.frozen? ⟨k, 4, none⟩ = false ∧ w.frozen? ⟨k, 5, none⟩ = false) := by
  simp [World.cell?, World.frozen?, h]
theorem put6 {w : World} {k : Nat} {x0 x1 x2 x3 x4 x5 y0 y1 y2 y3 y4 y5 : Value} {T : TypeId} (h : w.heap[k]? = some (.cells #[x0, x1, x2, x3, x4, x5] T (0, 0))) :
    ((((((w.setCell ⟨k, 0, none⟩ y0).setCell ⟨k, 1, none⟩ y1).setCell ⟨k, 2, none⟩ y2).setCell ⟨k, 3, none⟩ y3).setCell ⟨k, 4, none⟩ y4).setCell ⟨k, 5, none⟩ y5).heap[k]? = some (.cells #[y0, y1, y2, y3, y4, y5] T (0, 0)) := by
  simp [World.setCell, Array.getElem?_modify, h]
theorem bel6 {B : Nat} {w0 w : World} {k : Nat} (y0 y1 y2 y3 y4 y5 : Value) (h : Below B w0 w) (hk : B ≤ k) : Below B w0 ((((((w.setCell ⟨k, 0, none⟩ y0).setCell ⟨k, 1, none⟩ y1).setCell ⟨k, 2, none⟩ y2).setCell ⟨k, 3, none⟩ y3).setCell ⟨k, 4, none⟩ y4).setCell ⟨k, 5, none⟩ y5) :=
  ((((((h.setCell hk _).setCell hk _).setCell hk _).setCell hk _).setCell hk _).setCell hk _)
set_option maxRecDepth 100000 in
theorem cells14 {w : World} {k : Nat} {x0 x1 x2 x3 x4 x5 x6 x7 x8 x9 x10 x11 x12 x13 : Value} {T : TypeId} (h : w.heap[k]? = some (.cells #[x0, x1, x2, x3, x4, x5, x6, x7, x8, x9, x10, x11, x12, x13] T (0, 0))) :
    (w.cell? ⟨k, 0, none⟩ = some x0 ∧ w.cell? ⟨k, 1, none⟩ = some x1 ∧ w.cell? ⟨k, 2, none⟩ = some x2 ∧ w.cell? ⟨k, 3, none⟩ = some x3 ∧ w.cell? ⟨k, 4, none⟩ = some x4 ∧ w.cell? ⟨k, 5, none⟩ = some x5 ∧ w.cell? ⟨k, 6, none⟩ = some x6 ∧ w.cell? ⟨k, 7, none⟩ = some x7 ∧ w.cell? ⟨k, 8, none⟩ = some x8 ∧ w.cell? ⟨k, 9, none⟩ = some x9 ∧ w.cell? ⟨k, 10, none⟩ = some x10 ∧ w.cell? ⟨k, 11, none⟩ = some x11 ∧ w.cell? ⟨k, 12, none⟩ = some x12 ∧ w.cell? ⟨k, 13, none⟩ = some x13) ∧
    (w.frozen? ⟨k, 0, none⟩ = false ∧ w.frozen? ⟨k, 1, none⟩ = false ∧ w.frozen? ⟨k, 2, none⟩ = false ∧ w.frozen? ⟨k, 3, none⟩ = false ∧ w.frozen? ⟨k, 4, none⟩ = false ∧ w.frozen? ⟨k, 5, none⟩ = false ∧ w.frozen? ⟨k, 6, none⟩ = false ∧ w.frozen? ⟨k, 7, none⟩ = false ∧ w.frozen? ⟨k, 8, none⟩ = false ∧ w.frozen? ⟨k, 9, none⟩ = false ∧ w.frozen? ⟨k, 10, none⟩ = false ∧ w.frozen? ⟨k, 11, none⟩ = false ∧ w.frozen? ⟨k, 12, none⟩ = false ∧ w.frozen? ⟨k, 13, none⟩ = false) := by
  simp [World.cell?, World.frozen?, h]
set_option maxRecDepth 100000 in
theorem put14 {w : World} {k : Nat} {x0 x1 x2 x3 x4 x5 x6 x7 x8 x9 x10 x11 x12 x13 y0 y1 y2 y3 y4 y5 y6 y7 y8 y9 y10 y11 y12 y13 : Value} {T : TypeId} (h : w.heap[k]? = some (.cells #[x0, x1, x2, x3, x4, x5, x6, x7, x8, x9, x10, x11, x12, x13] T (0, 0))) :
    ((((((((((((((w.setCell ⟨k, 0, none⟩ y0).setCell ⟨k, 1, none⟩ y1).setCell ⟨k, 2, none⟩ y2).setCell ⟨k, 3, none⟩ y3).setCell ⟨k, 4, none⟩ y4).setCell ⟨k, 5, none⟩ y5).setCell ⟨k, 6, none⟩ y6).setCell ⟨k, 7, none⟩ y7).setCell ⟨k, 8, none⟩ y8).setCell ⟨k, 9, none⟩ y9).setCell ⟨k, 10, none⟩ y10).setCell ⟨k, 11, none⟩ y11).setCell ⟨k, 12, none⟩ y12).setCell ⟨k, 13, none⟩ y13).heap[k]? = some (.cells #[y0, y1, y2, y3, y4, y5, y6, y7, y8, y9, y10, y11, y12, y13] T (0, 0)) := by
  simp [World.setCell, Array.getElem?_modify, h]
theorem bel14 {B : Nat} {w0 w : World} {k : Nat} (y0 y1 y2 y3 y4 y5 y6 y7 y8 y9 y10 y11 y12 y13 : Value) (h : Below B w0 w) (hk : B ≤ k) : Below B w0 ((((((((((((((w.setCell ⟨k, 0, none⟩ y0).setCell ⟨k, 1, none⟩ y1).setCell ⟨k, 2, none⟩ y2).setCell ⟨k, 3, none⟩ y3).setCell ⟨k, 4, none⟩ y4).setCell ⟨k, 5, none⟩ y5).setCell ⟨k, 6, none⟩ y6).setCell ⟨k, 7, none⟩ y7).setCell ⟨k, 8, none⟩ y8).setCell ⟨k, 9, none⟩ y9).setCell ⟨k, 10, none⟩ y10).setCell ⟨k, 11, none⟩ y11).setCell ⟨k, 12, none⟩ y12).setCell ⟨k, 13, none⟩ y13) :=
  ((((((((((((((h.setCell hk _).setCell hk _).setCell hk _).setCell hk _).setCell hk _).setCell hk _).setCell hk _).setCell hk _).setCell hk _).setCell hk _).setCell hk _).setCell hk _).setCell hk _).setCell hk _)

theorem eql6 (x y : List UInt8) (hx : x.length = 6) (hy : y.length = 6) (W : World) : (binOp .eql 28 (.agg (x.map u8v).toArray) (.agg (y.map u8v).toArray)).run Try.prog W = .ok (.bool (x == y)) W :=
  run_eql_bytes (P := Try.prog) W 28 5 6 (by kernel_rfl) (by kernel_rfl) (fun w => by kernel_rfl) x y hx hy
theorem guard6 (op : BinOp) (x y : Operand) (a b : Array Value) (W : World) : (eqGuard op 28 x y (.agg a) (.agg b)).run Try.prog W = .ok () W := run_eqGuard_agg W op 28 x y _ _ (by kernel_rfl)
/-- A group's address: its first byte is odd. -/
def isGroup (l : List UInt8) : Bool := decide (((l.getD 0 0).toNat : Int) % 2 = 1)

set_option maxRecDepth 100000 in
theorem rgroup_any (a0 a1 a2 a3 a4 a5 : UInt8) (w : World) : Calls Try.prog 53 #[.agg #[.int .u8 (a0.toNat : Int), .int .u8 (a1.toNat : Int), .int .u8 (a2.toNat : Int), .int .u8 (a3.toNat : Int), .int .u8 (a4.toNat : Int), .int .u8 (a5.toNat : Int)]] w fun e w' => e = .returned (.bool (isGroup [a0, a1, a2, a3, a4, a5])) ∧ Below w.heap.size w w' := by
  have bel := (Below.refl w.heap.size w).alloc (Nat.le_refl _) (.cells #[.int .u8 (a0.toNat : Int), .int .u8 (a1.toNat : Int), .int .u8 (a2.toNat : Int), .int .u8 (a3.toNat : Int), .int .u8 (a4.toNat : Int), .int .u8 (a5.toNat : Int)] 28)
  have h1 := a0.toNat_lt
  have c0 : (0 : Int) ≤ a0.toNat := by omega
  have c1 : (a0.toNat : Int) < 256 := by omega
  clear h1
  go_enter Try.func53, Try.ntmps53
  go_wp2
  go_ret
  exact ⟨by rfl, bel⟩

end Go.Proofs.Ytdfobilagidmfaa
