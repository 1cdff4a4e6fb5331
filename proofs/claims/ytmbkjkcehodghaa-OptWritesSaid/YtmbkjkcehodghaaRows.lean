/-
  No cell of these rows narrows 'for every input' (looked for: loops, veiled, ifaces, maps, wideKeys, modest, calm, conditions, laid).
  DERIVED. THE GIVEN ROWS OF THIS SEAT. 4 by the template 'for every input the law returns true; each argument reads behind the call as it read before'; 0 by the template 'total and deterministic' (their statements: YtmbkjkcehodghaaTotals.lean).
  GIVEN WITH THE SEED: the statements are not yours to turn. If you find one false, say at which input.
  Laid BY PROGRAM, IN A SANDBOX (cutbox-rows.mjs): the forced cells as the released guide's own fill.sh prints them over the translation ca5b61de8748e7d2… (all of the seat's roots in one cut). By AI agents, Wed Nov 11 2026. No macro, syntax, notation, axiom, sorry.
-/
import Derived.Test.YtmbkjkcehodghaaChecked
import GoSem.Claim
import GoSem.ClaimJoined
import GoSem.ClaimMapViews
import Derived.JoinedTies
import Derived.KernelRfl
namespace Go.Proofs.Ytmbkjkcehodghaa
/- THE CELL 'sum', in the pinned program and in every row, IS THE sha256 OF THE DUMP (.gsa) THAT YtmbkjkcehodghaaProg.lean LOADS. Nothing in Lean hashes anything: it is a label: what it is worth is what the hold of that sum in a sandbox is worth. -/
noncomputable def Try.pinned : Pinned := { name := "ytmbkjkcehodghaa", sum := "ca5b61de8748e7d244c73953ebf5f388ef55a6acfd780a842a1f893062706dad", checked := Try.checked }
namespace Rows
def none {H : Type} : Left H := { results := [], args := [] }

/-- 'gatehouselaw12.OptKnown': WHATEVER THE INPUT: true; the input reads as it did. -/
def optKnownSpec : ChangeSpec := { name := "optKnown", fn := fun _ => fun
  | [] => { results := [.lit (.bool true)], args := [] }
  | _ => none }
def optKnownRow : OpenClaim := { program := "ytmbkjkcehodghaa", sum := "ca5b61de8748e7d244c73953ebf5f388ef55a6acfd780a842a1f893062706dad", func := "gatehouse/gatehouselaw12.OptKnown", spec := "optKnown", apart := false }
def OptKnownSaid : Prop := optKnownRow.holds Try.pinned (OpenSpec.ofChange optKnownSpec)

/-- ITS FALSE NEIGHBOUR: 'it returns false'. Refute it at one input. -/
def optKnownWrong : ChangeSpec := { name := "optKnown", fn := fun _ => fun
  | [] => { results := [.lit (.bool false)], args := [] }
  | _ => none }
def OptKnownWrongFalsely : Prop := optKnownRow.holds Try.pinned (OpenSpec.ofChange optKnownWrong)

/-- 'gatehouselaw12.OptReads': WHATEVER THE INPUT: true; the input reads as it did. -/
def optReadsSpec : ChangeSpec := { name := "optReads", fn := fun _ => fun
  | [d1, d2] => { results := [.lit (.bool true)], args := [d1, d2] }
  | _ => none }
def optReadsRow : OpenClaim := { program := "ytmbkjkcehodghaa", sum := "ca5b61de8748e7d244c73953ebf5f388ef55a6acfd780a842a1f893062706dad", func := "gatehouse/gatehouselaw12.OptReads", spec := "optReads", apart := false }
def OptReadsSaid : Prop := optReadsRow.holds Try.pinned (OpenSpec.ofChange optReadsSpec)

/-- ITS FALSE NEIGHBOUR: 'it returns false'. Refute it at one input. -/
def optReadsWrong : ChangeSpec := { name := "optReads", fn := fun _ => fun
  | [d1, d2] => { results := [.lit (.bool false)], args := [d1, d2] }
  | _ => none }
def OptReadsWrongFalsely : Prop := optReadsRow.holds Try.pinned (OpenSpec.ofChange optReadsWrong)

/-- 'gatehouselaw12.OptWrites': WHATEVER THE INPUT: true; the input reads as it did. -/
def optWritesSpec : ChangeSpec := { name := "optWrites", fn := fun _ => fun
  | [d] => { results := [.lit (.bool true)], args := [d] }
  | _ => none }
def optWritesRow : OpenClaim := { program := "ytmbkjkcehodghaa", sum := "ca5b61de8748e7d244c73953ebf5f388ef55a6acfd780a842a1f893062706dad", func := "gatehouse/gatehouselaw12.OptWrites", spec := "optWrites", apart := false }
def OptWritesSaid : Prop := optWritesRow.holds Try.pinned (OpenSpec.ofChange optWritesSpec)

/-- ITS FALSE NEIGHBOUR: 'it returns false'. Refute it at one input. -/
def optWritesWrong : ChangeSpec := { name := "optWrites", fn := fun _ => fun
  | [d] => { results := [.lit (.bool false)], args := [d] }
  | _ => none }
def OptWritesWrongFalsely : Prop := optWritesRow.holds Try.pinned (OpenSpec.ofChange optWritesWrong)

/-- 'gatehouselaw12.OptJoins': WHATEVER THE INPUT: true; the input reads as it did. -/
def optJoinsSpec : ChangeSpec := { name := "optJoins", fn := fun _ => fun
  | [d1, d2, d3] => { results := [.lit (.bool true)], args := [d1, d2, d3] }
  | _ => none }
def optJoinsRow : OpenClaim := { program := "ytmbkjkcehodghaa", sum := "ca5b61de8748e7d244c73953ebf5f388ef55a6acfd780a842a1f893062706dad", func := "gatehouse/gatehouselaw12.OptJoins", spec := "optJoins", apart := false }
def OptJoinsSaid : Prop := optJoinsRow.holds Try.pinned (OpenSpec.ofChange optJoinsSpec)

/-- ITS FALSE NEIGHBOUR: 'it returns false'. Refute it at one input. -/
def optJoinsWrong : ChangeSpec := { name := "optJoins", fn := fun _ => fun
  | [d1, d2, d3] => { results := [.lit (.bool false)], args := [d1, d2, d3] }
  | _ => none }
def OptJoinsWrongFalsely : Prop := optJoinsRow.holds Try.pinned (OpenSpec.ofChange optJoinsWrong)

/- THE SECOND FORM. 'bulk': how many values and letters a reading holds, each counted each time it is reached (what is shared counts as often as it is met; a slice's spare places count too). A statement '..UptoSaid' is the law's where the arguments, and the package variables that the reading takes, are together of bulk at most 1048576: NARROWER than '..Said'. Prove '..Said' where nothing that the law and all that it calls make is longer than what came in: it says more and counts as full. Else prove '..UptoSaid'. A law counts once. -/
mutual
def uptoBulk {H : Type} : DataW H → Nat
  | .lit (.string bytes) => bytes.length + 1
  | .lit _ => 1
  | .nil => 1
  | .ptr d => uptoBulk d + 1
  | .slice elems spare => uptoBulkAll elems + uptoBulkAll spare + 1
  | .agg parts => uptoBulkAll parts + 1
  | .iface _ d => uptoBulk d + 1
  | .map entries => uptoBulkEntries entries + 1
  | .held _ => 1
def uptoBulkAll {H : Type} : List (DataW H) → Nat
  | [] => 0
  | d :: r => uptoBulk d + uptoBulkAll r
def uptoBulkEntries {H : Type} : List (Lit × DataW H) → Nat
  | [] => 0
  | x :: r => uptoBulkEntry x + uptoBulkEntries r
def uptoBulkEntry {H : Type} : Lit × DataW H → Nat
  | (.string bytes, d) => bytes.length + uptoBulk d + 1
  | (_, d) => uptoBulk d + 1
 end
def uptoSmall : (H : Type) → List (DataW H) → Bool := fun _ ds => decide (uptoBulkAll ds ≤ 1048576)
def OpenSpec.upto (s : _root_.Go.ChangeSpec) : _root_.Go.OpenSpec := { _root_.Go.OpenSpec.ofChange s with cond := some uptoSmall }

/-- 'gatehouselaw12.OptKnown', WHERE WHAT IT READS IS OF BULK AT MOST 1048576: true; the input reads as it did. -/
def optKnownUptoRow : OpenClaim := { program := "ytmbkjkcehodghaa", sum := "ca5b61de8748e7d244c73953ebf5f388ef55a6acfd780a842a1f893062706dad", func := "gatehouse/gatehouselaw12.OptKnown", spec := "optKnown", apart := false, narrowed := true }
def OptKnownUptoSaid : Prop := optKnownUptoRow.holds Try.pinned (OpenSpec.upto optKnownSpec)

/-- 'gatehouselaw12.OptReads', WHERE WHAT IT READS IS OF BULK AT MOST 1048576: true; the input reads as it did. -/
def optReadsUptoRow : OpenClaim := { program := "ytmbkjkcehodghaa", sum := "ca5b61de8748e7d244c73953ebf5f388ef55a6acfd780a842a1f893062706dad", func := "gatehouse/gatehouselaw12.OptReads", spec := "optReads", apart := false, narrowed := true }
def OptReadsUptoSaid : Prop := optReadsUptoRow.holds Try.pinned (OpenSpec.upto optReadsSpec)

/-- 'gatehouselaw12.OptWrites', WHERE WHAT IT READS IS OF BULK AT MOST 1048576: true; the input reads as it did. -/
def optWritesUptoRow : OpenClaim := { program := "ytmbkjkcehodghaa", sum := "ca5b61de8748e7d244c73953ebf5f388ef55a6acfd780a842a1f893062706dad", func := "gatehouse/gatehouselaw12.OptWrites", spec := "optWrites", apart := false, narrowed := true }
def OptWritesUptoSaid : Prop := optWritesUptoRow.holds Try.pinned (OpenSpec.upto optWritesSpec)

/-- 'gatehouselaw12.OptJoins', WHERE WHAT IT READS IS OF BULK AT MOST 1048576: true; the input reads as it did. -/
def optJoinsUptoRow : OpenClaim := { program := "ytmbkjkcehodghaa", sum := "ca5b61de8748e7d244c73953ebf5f388ef55a6acfd780a842a1f893062706dad", func := "gatehouse/gatehouselaw12.OptJoins", spec := "optJoins", apart := false, narrowed := true }
def OptJoinsUptoSaid : Prop := optJoinsUptoRow.holds Try.pinned (OpenSpec.upto optJoinsSpec)

end Rows
end Go.Proofs.Ytmbkjkcehodghaa
