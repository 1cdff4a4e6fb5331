/- The contracts of the sums' Turn, whatever comes in, for seats without layer 2's statements; the reference's Of, Turn, At16 with 'Below'. -/
import Derived.Test.YtfmllopeeiecjaaSumr
import Derived.Test.YtfmllopeeiecjaaSumw
import Derived.Test.YtfmllopeeiecjaaWalkw
namespace Go.Proofs.Ytfmllopeeiecjaa
open Go.RowKit

theorem belowN {B : Nat} {a w : World} (h : Below B a w) (q : Nat) : Below B a (w.drewN q) := ⟨h.os, h.tape, h.output, h.size, h.block⟩

theorem rof_b (A : Option Addr) (n c : Nat) (l : List UInt8) (w : World) (hl : Sl w A n c l) (hn : n ≤ 100000) :
    Calls Try.prog 44 #[.slice A n c] w fun e w' => e = .returned (.int .i64 (ck l)) ∧ Below w.heap.size w w' := by
  refine (rof_any A n c l w hl hn).mono ?_
  rintro e w1 ⟨rfl, rfl⟩
  exact ⟨rfl, Below.refl _ _⟩
theorem at16_b (A : Option Addr) (n c k : Nat) (l : List UInt8) (w : World) (hl : Sl w A n c l) (hk : k + 2 ≤ n) (hm : k + 2 ≤ 100000) :
    Calls Try.prog 64 #[.slice A n c, .int .i64 k] w fun e w' => e = .returned (.int .i64 (be ((l.drop k).take 2))) ∧ Below w.heap.size w w' := by
  refine (at16_any A n c k l w hl hk hm).mono ?_
  rintro e w1 ⟨rfl, q, rfl⟩
  exact ⟨rfl, belowN (Below.refl _ _) q⟩
theorem at16_0 (A : Option Addr) (n c : Nat) (l : List UInt8) (w : World) (hl : Sl w A n c l) (hk : 2 ≤ n) :
    Calls Try.prog 64 #[.slice A n c, .int .i64 0] w fun e w' => e = .returned (.int .i64 (be ((l.drop 0).take 2))) ∧ Below w.heap.size w w' :=
  at16_b A n c 0 l w hl hk (by omega)
theorem at16_2 (A : Option Addr) (n c : Nat) (l : List UInt8) (w : World) (hl : Sl w A n c l) (hk : 4 ≤ n) :
    Calls Try.prog 64 #[.slice A n c, .int .i64 2] w fun e w' => e = .returned (.int .i64 (be ((l.drop 2).take 2))) ∧ Below w.heap.size w w' :=
  at16_b A n c 2 l w hl hk (by omega)
theorem at16_4 (A : Option Addr) (n c : Nat) (l : List UInt8) (w : World) (hl : Sl w A n c l) (hk : 6 ≤ n) :
    Calls Try.prog 64 #[.slice A n c, .int .i64 4] w fun e w' => e = .returned (.int .i64 (be ((l.drop 4).take 2))) ∧ Below w.heap.size w w' :=
  at16_b A n c 4 l w hl hk (by omega)
theorem at16_6 (A : Option Addr) (n c : Nat) (l : List UInt8) (w : World) (hl : Sl w A n c l) (hk : 8 ≤ n) :
    Calls Try.prog 64 #[.slice A n c, .int .i64 6] w fun e w' => e = .returned (.int .i64 (be ((l.drop 6).take 2))) ∧ Below w.heap.size w w' :=
  at16_b A n c 6 l w hl hk (by omega)
theorem at16_10 (A : Option Addr) (n c : Nat) (l : List UInt8) (w : World) (hl : Sl w A n c l) (hk : 12 ≤ n) :
    Calls Try.prog 64 #[.slice A n c, .int .i64 10] w fun e w' => e = .returned (.int .i64 (be ((l.drop 10).take 2))) ∧ Below w.heap.size w w' :=
  at16_b A n c 10 l w hl hk (by omega)
theorem at16_14 (A : Option Addr) (n c : Nat) (l : List UInt8) (w : World) (hl : Sl w A n c l) (hk : 16 ≤ n) :
    Calls Try.prog 64 #[.slice A n c, .int .i64 14] w fun e w' => e = .returned (.int .i64 (be ((l.drop 14).take 2))) ∧ Below w.heap.size w w' :=
  at16_b A n c 14 l w hl hk (by omega)
theorem at16_16 (A : Option Addr) (n c : Nat) (l : List UInt8) (w : World) (hl : Sl w A n c l) (hk : 18 ≤ n) :
    Calls Try.prog 64 #[.slice A n c, .int .i64 16] w fun e w' => e = .returned (.int .i64 (be ((l.drop 16).take 2))) ∧ Below w.heap.size w w' :=
  at16_b A n c 16 l w hl hk (by omega)
end Go.Proofs.Ytfmllopeeiecjaa
