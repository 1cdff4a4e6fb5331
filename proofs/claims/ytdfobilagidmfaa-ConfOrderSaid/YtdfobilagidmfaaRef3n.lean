/- The reference's ParseNet. -/
import Derived.Test.YtdfobilagidmfaaRef3s
import Derived.Test.YtdfobilagidmfaaAdrEq
import Derived.Deep.RegionHeld3
namespace Go.Proofs.Ytdfobilagidmfaa
open Go.RowKit

/-- A net as a value. -/
def netV (a b c d : UInt8) (n : Int) : Value := .agg #[.int .u8 (a.toNat : Int), .int .u8 (b.toNat : Int), .int .u8 (c.toNat : Int), .int .u8 (d.toNat : Int), .int .i64 n]
/-- The result's block, behind a call: five cells. -/
theorem old_net {w w1 : World} (h : Below (w.alloc (.cells #[.int .u8 0, .int .u8 0, .int .u8 0, .int .u8 0, .int .i64 0] 36)).heap.size (w.alloc (.cells #[.int .u8 0, .int .u8 0, .int .u8 0, .int .u8 0, .int .i64 0] 36)) w1) :
    w1.heap[w.heap.size]? = some (.cells #[.int .u8 0, .int .u8 0, .int .u8 0, .int .u8 0, .int .i64 0] 36 (0, 0)) ∧ w.heap.size < w1.heap.size := by
  have hs := h.size
  simp at hs
  exact ⟨(h.block _ (by simp)).trans (heap_alloc_new w _), by omega⟩
theorem cells5 {w : World} {k : Nat} {a b c d e : Value} {T : TypeId} (h : w.heap[k]? = some (.cells #[a, b, c, d, e] T (0, 0))) :
    (w.cell? ⟨k, 0, none⟩ = some a ∧ w.cell? ⟨k, 1, none⟩ = some b ∧ w.cell? ⟨k, 2, none⟩ = some c ∧ w.cell? ⟨k, 3, none⟩ = some d ∧ w.cell? ⟨k, 4, none⟩ = some e) ∧
    (w.frozen? ⟨k, 0, none⟩ = false ∧ w.frozen? ⟨k, 1, none⟩ = false ∧ w.frozen? ⟨k, 2, none⟩ = false ∧ w.frozen? ⟨k, 3, none⟩ = false ∧ w.frozen? ⟨k, 4, none⟩ = false) := by
  simp [World.cell?, World.frozen?, h]
theorem put5 {w : World} {k : Nat} {a b c d e x y z u v : Value} {T : TypeId} (h : w.heap[k]? = some (.cells #[a, b, c, d, e] T (0, 0))) :
    (((((w.setCell ⟨k, 0, none⟩ x).setCell ⟨k, 1, none⟩ y).setCell ⟨k, 2, none⟩ z).setCell ⟨k, 3, none⟩ u).setCell ⟨k, 4, none⟩ v).heap[k]? = some (.cells #[x, y, z, u, v] T (0, 0)) := by
  simp [World.setCell, Array.getElem?_modify, h]

/-- What ParseNet answers. -/
def netE (l : List UInt8) : Int :=
  if splitOk l = false then 9 else if firstN (be [(splitA l).1, (splitA l).2.1, (splitA l).2.2.1, (splitA l).2.2.2]) (clamp (splitN l)) = be [(splitA l).1, (splitA l).2.1, (splitA l).2.2.1, (splitA l).2.2.2] then 0 else 1
def netA (l : List UInt8) : UInt8 × UInt8 × UInt8 × UInt8 := if netE l = 0 then splitA l else (0, 0, 0, 0)
def netN (l : List UInt8) : Int := if netE l = 0 then splitN l else 0
end Go.Proofs.Ytdfobilagidmfaa
