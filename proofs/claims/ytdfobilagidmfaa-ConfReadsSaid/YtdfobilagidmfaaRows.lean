/-
  No cell of these rows narrows 'for every input' (looked for: loops, veiled, ifaces, maps, wideKeys, modest, calm, conditions, laid).
  DERIVED. THE GIVEN ROWS OF THIS SEAT. 5 by the template 'for every input the law returns true; each argument reads behind the call as it read before'; 0 by the template 'total and deterministic' (their statements: YtdfobilagidmfaaTotals.lean).
  GIVEN WITH THE SEED: the statements are not yours to turn. If you find one false, say at which input.
  Laid BY PROGRAM, IN A SANDBOX (cutbox-rows.mjs): the forced cells as the released guide's own fill.sh prints them over the translation 963f8e4b211dcc3c… (all of the seat's roots in one cut). By AI agents, Wed Nov 11 2026. No macro, syntax, notation, axiom, sorry.
-/
import Derived.Test.YtdfobilagidmfaaChecked
import GoSem.Claim
import GoSem.ClaimJoined
import GoSem.ClaimMapViews
import Derived.JoinedTies
import Derived.KernelRfl
namespace Go.Proofs.Ytdfobilagidmfaa
/- THE CELL 'sum', in the pinned program and in every row, IS THE sha256 OF THE DUMP (.gsa) THAT YtdfobilagidmfaaProg.lean LOADS. Nothing in Lean hashes anything: it is a label: what it is worth is what the hold of that sum in a sandbox is worth. -/
noncomputable def Try.pinned : Pinned := { name := "ytdfobilagidmfaa", sum := "963f8e4b211dcc3ccb841a677ea915b95e4a0a9a805bd4a636c5afa10ed304ff", checked := Try.checked }
namespace Rows
def none {H : Type} : Left H := { results := [], args := [] }

/-- 'gatehouselaw10.ConfReads': WHATEVER THE INPUT: true; the input reads as it did. -/
def confReadsSpec : ChangeSpec := { name := "confReads", fn := fun _ => fun
  | [d] => { results := [.lit (.bool true)], args := [d] }
  | _ => none }
def confReadsRow : OpenClaim := { program := "ytdfobilagidmfaa", sum := "963f8e4b211dcc3ccb841a677ea915b95e4a0a9a805bd4a636c5afa10ed304ff", func := "gatehouse/gatehouselaw10.ConfReads", spec := "confReads", apart := false }
def ConfReadsSaid : Prop := confReadsRow.holds Try.pinned (OpenSpec.ofChange confReadsSpec)

/-- ITS FALSE NEIGHBOUR: 'it returns false'. Refute it at one input. -/
def confReadsWrong : ChangeSpec := { name := "confReads", fn := fun _ => fun
  | [d] => { results := [.lit (.bool false)], args := [d] }
  | _ => none }
def ConfReadsWrongFalsely : Prop := confReadsRow.holds Try.pinned (OpenSpec.ofChange confReadsWrong)

/-- 'gatehouselaw10.ConfOrder': WHATEVER THE INPUT: true; the input reads as it did. -/
def confOrderSpec : ChangeSpec := { name := "confOrder", fn := fun _ => fun
  | [d] => { results := [.lit (.bool true)], args := [d] }
  | _ => none }
def confOrderRow : OpenClaim := { program := "ytdfobilagidmfaa", sum := "963f8e4b211dcc3ccb841a677ea915b95e4a0a9a805bd4a636c5afa10ed304ff", func := "gatehouse/gatehouselaw10.ConfOrder", spec := "confOrder", apart := false }
def ConfOrderSaid : Prop := confOrderRow.holds Try.pinned (OpenSpec.ofChange confOrderSpec)

/-- ITS FALSE NEIGHBOUR: 'it returns false'. Refute it at one input. -/
def confOrderWrong : ChangeSpec := { name := "confOrder", fn := fun _ => fun
  | [d] => { results := [.lit (.bool false)], args := [d] }
  | _ => none }
def ConfOrderWrongFalsely : Prop := confOrderRow.holds Try.pinned (OpenSpec.ofChange confOrderWrong)

/-- 'gatehouselaw10.ConfBounds': WHATEVER THE INPUT: true; the input reads as it did. -/
def confBoundsSpec : ChangeSpec := { name := "confBounds", fn := fun _ => fun
  | [d1, d2] => { results := [.lit (.bool true)], args := [d1, d2] }
  | _ => none }
def confBoundsRow : OpenClaim := { program := "ytdfobilagidmfaa", sum := "963f8e4b211dcc3ccb841a677ea915b95e4a0a9a805bd4a636c5afa10ed304ff", func := "gatehouse/gatehouselaw10.ConfBounds", spec := "confBounds", recurses := true, apart := false }
def ConfBoundsSaid : Prop := confBoundsRow.holds Try.pinned (OpenSpec.ofChange confBoundsSpec)

/-- ITS FALSE NEIGHBOUR: 'it returns false'. Refute it at one input. -/
def confBoundsWrong : ChangeSpec := { name := "confBounds", fn := fun _ => fun
  | [d1, d2] => { results := [.lit (.bool false)], args := [d1, d2] }
  | _ => none }
def ConfBoundsWrongFalsely : Prop := confBoundsRow.holds Try.pinned (OpenSpec.ofChange confBoundsWrong)

/-- 'gatehouselaw10.ConfLines': WHATEVER THE INPUT: true; the input reads as it did. -/
def confLinesSpec : ChangeSpec := { name := "confLines", fn := fun _ => fun
  | [d1, d2, d3] => { results := [.lit (.bool true)], args := [d1, d2, d3] }
  | _ => none }
def confLinesRow : OpenClaim := { program := "ytdfobilagidmfaa", sum := "963f8e4b211dcc3ccb841a677ea915b95e4a0a9a805bd4a636c5afa10ed304ff", func := "gatehouse/gatehouselaw10.ConfLines", spec := "confLines", apart := false }
def ConfLinesSaid : Prop := confLinesRow.holds Try.pinned (OpenSpec.ofChange confLinesSpec)

/-- ITS FALSE NEIGHBOUR: 'it returns false'. Refute it at one input. -/
def confLinesWrong : ChangeSpec := { name := "confLines", fn := fun _ => fun
  | [d1, d2, d3] => { results := [.lit (.bool false)], args := [d1, d2, d3] }
  | _ => none }
def ConfLinesWrongFalsely : Prop := confLinesRow.holds Try.pinned (OpenSpec.ofChange confLinesWrong)

/-- 'gatehouselaw10.ConfTwice': WHATEVER THE INPUT: true; the input reads as it did. -/
def confTwiceSpec : ChangeSpec := { name := "confTwice", fn := fun _ => fun
  | [d1, d2] => { results := [.lit (.bool true)], args := [d1, d2] }
  | _ => none }
def confTwiceRow : OpenClaim := { program := "ytdfobilagidmfaa", sum := "963f8e4b211dcc3ccb841a677ea915b95e4a0a9a805bd4a636c5afa10ed304ff", func := "gatehouse/gatehouselaw10.ConfTwice", spec := "confTwice", recurses := true, apart := false }
def ConfTwiceSaid : Prop := confTwiceRow.holds Try.pinned (OpenSpec.ofChange confTwiceSpec)

/-- ITS FALSE NEIGHBOUR: 'it returns false'. Refute it at one input. -/
def confTwiceWrong : ChangeSpec := { name := "confTwice", fn := fun _ => fun
  | [d1, d2] => { results := [.lit (.bool false)], args := [d1, d2] }
  | _ => none }
def ConfTwiceWrongFalsely : Prop := confTwiceRow.holds Try.pinned (OpenSpec.ofChange confTwiceWrong)

/- THE SECOND FORM. 'bulk': how many values and letters a reading holds, each counted each time it is reached (what is shared counts as often as it is met; a slice's spare places count too). A statement '..UptoSaid' is the law's where the arguments, and the package variables that the reading takes, are together of bulk at most 1048576: NARROWER than '..Said'. Prove '..Said' where nothing that the law and all that it calls make is longer than what came in: it says more and counts as full. Else prove '..UptoSaid'. A law counts once. -/
mutual
def uptoBulk {H : Type} : DataW H → Nat
  | .lit (.string bytes) => bytes.length + 1
  | .lit _ => 1
  | .nil => 1
  | .ptr d => uptoBulk d + 1
  | .slice elems spare => uptoBulkAll elems + uptoBulkAll spare + 1
  | .agg parts => uptoBulkAll parts + 1
  | .iface _ d => uptoBulk d + 1
  | .map entries => uptoBulkEntries entries + 1
  | .held _ => 1
def uptoBulkAll {H : Type} : List (DataW H) → Nat
  | [] => 0
  | d :: r => uptoBulk d + uptoBulkAll r
def uptoBulkEntries {H : Type} : List (Lit × DataW H) → Nat
  | [] => 0
  | x :: r => uptoBulkEntry x + uptoBulkEntries r
def uptoBulkEntry {H : Type} : Lit × DataW H → Nat
  | (.string bytes, d) => bytes.length + uptoBulk d + 1
  | (_, d) => uptoBulk d + 1
 end
def uptoSmall : (H : Type) → List (DataW H) → Bool := fun _ ds => decide (uptoBulkAll ds ≤ 1048576)
def OpenSpec.upto (s : _root_.Go.ChangeSpec) : _root_.Go.OpenSpec := { _root_.Go.OpenSpec.ofChange s with cond := some uptoSmall }

/-- 'gatehouselaw10.ConfReads', WHERE WHAT IT READS IS OF BULK AT MOST 1048576: true; the input reads as it did. -/
def confReadsUptoRow : OpenClaim := { program := "ytdfobilagidmfaa", sum := "963f8e4b211dcc3ccb841a677ea915b95e4a0a9a805bd4a636c5afa10ed304ff", func := "gatehouse/gatehouselaw10.ConfReads", spec := "confReads", apart := false, narrowed := true }
def ConfReadsUptoSaid : Prop := confReadsUptoRow.holds Try.pinned (OpenSpec.upto confReadsSpec)

/-- 'gatehouselaw10.ConfOrder', WHERE WHAT IT READS IS OF BULK AT MOST 1048576: true; the input reads as it did. -/
def confOrderUptoRow : OpenClaim := { program := "ytdfobilagidmfaa", sum := "963f8e4b211dcc3ccb841a677ea915b95e4a0a9a805bd4a636c5afa10ed304ff", func := "gatehouse/gatehouselaw10.ConfOrder", spec := "confOrder", apart := false, narrowed := true }
def ConfOrderUptoSaid : Prop := confOrderUptoRow.holds Try.pinned (OpenSpec.upto confOrderSpec)

/-- 'gatehouselaw10.ConfBounds', WHERE WHAT IT READS IS OF BULK AT MOST 1048576: true; the input reads as it did. -/
def confBoundsUptoRow : OpenClaim := { program := "ytdfobilagidmfaa", sum := "963f8e4b211dcc3ccb841a677ea915b95e4a0a9a805bd4a636c5afa10ed304ff", func := "gatehouse/gatehouselaw10.ConfBounds", spec := "confBounds", recurses := true, apart := false, narrowed := true }
def ConfBoundsUptoSaid : Prop := confBoundsUptoRow.holds Try.pinned (OpenSpec.upto confBoundsSpec)

/-- 'gatehouselaw10.ConfLines', WHERE WHAT IT READS IS OF BULK AT MOST 1048576: true; the input reads as it did. -/
def confLinesUptoRow : OpenClaim := { program := "ytdfobilagidmfaa", sum := "963f8e4b211dcc3ccb841a677ea915b95e4a0a9a805bd4a636c5afa10ed304ff", func := "gatehouse/gatehouselaw10.ConfLines", spec := "confLines", apart := false, narrowed := true }
def ConfLinesUptoSaid : Prop := confLinesUptoRow.holds Try.pinned (OpenSpec.upto confLinesSpec)

/-- 'gatehouselaw10.ConfTwice', WHERE WHAT IT READS IS OF BULK AT MOST 1048576: true; the input reads as it did. -/
def confTwiceUptoRow : OpenClaim := { program := "ytdfobilagidmfaa", sum := "963f8e4b211dcc3ccb841a677ea915b95e4a0a9a805bd4a636c5afa10ed304ff", func := "gatehouse/gatehouselaw10.ConfTwice", spec := "confTwice", recurses := true, apart := false, narrowed := true }
def ConfTwiceUptoSaid : Prop := confTwiceUptoRow.holds Try.pinned (OpenSpec.upto confTwiceSpec)

end Rows
end Go.Proofs.Ytdfobilagidmfaa
