/- The reference's Split and ParseNet. -/
import Derived.Test.YtdfobilagidmfaaRef3p
import Derived.Test.YtdfobilagidmfaaRefn
namespace Go.Proofs.Ytdfobilagidmfaa
open Go.RowKit

/-- An address and bits, as the reference reads them. -/
def splitA (l : List UInt8) : UInt8 × UInt8 × UInt8 × UInt8 :=
  if 18 < l.length then (0, 0, 0, 0) else match cutF 47 l with
  | [x, _] => (parse4 x).getD (0, 0, 0, 0)
  | _ => (0, 0, 0, 0)
def splitN (l : List UInt8) : Int :=
  if 18 < l.length then 0 else match cutF 47 l with
  | [_, y] => numI y 32
  | _ => 0
def splitOk (l : List UInt8) : Bool :=
  if 18 < l.length then false else match cutF 47 l with
  | [x, y] => (parse4 x).isSome && decide (0 ≤ numI y 32)
  | _ => false
/-- What Split answers. -/
def SplitPost (l : List UInt8) (w : World) (e : Ending) (w' : World) : Prop :=
  e = .returned (.tuple #[addrV (splitA l).1 (splitA l).2.1 (splitA l).2.2.1 (splitA l).2.2.2, .int .i64 (splitN l), .bool (splitOk l)]) ∧ Below w.heap.size w w'

/-- Parse, its answer by its parts. -/
theorem parse_parts (s : ByteArray) (w : World) (hs : s.size ≤ 1000) : Calls Try.prog 45 #[.string s] w fun e w' =>
    e = .returned (.tuple #[addrV ((parse4 s.data.toList).getD (0, 0, 0, 0)).1 ((parse4 s.data.toList).getD (0, 0, 0, 0)).2.1 ((parse4 s.data.toList).getD (0, 0, 0, 0)).2.2.1 ((parse4 s.data.toList).getD (0, 0, 0, 0)).2.2.2, .bool (parse4 s.data.toList).isSome]) ∧ Below w.heap.size w w' := by
  refine (parse_any s w (by omega)).mono fun e w' h => ?_
  unfold ParsePost at h
  match hp : parse4 s.data.toList with
  | none => rw [hp] at h; exact h
  | some (a, b, c, d) => rw [hp] at h; exact h

end Go.Proofs.Ytdfobilagidmfaa
