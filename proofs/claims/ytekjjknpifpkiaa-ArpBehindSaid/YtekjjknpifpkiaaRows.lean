/-
  No cell of these rows narrows 'for every input' (looked for: loops, veiled, ifaces, maps, wideKeys, modest, calm, conditions, laid).
  DERIVED. THE GIVEN ROWS OF THIS SEAT. 4 by the template 'for every input the law returns true; each argument reads behind the call as it read before'; 0 by the template 'total and deterministic' (their statements: YtekjjknpifpkiaaTotals.lean).
  GIVEN WITH THE SEED: the statements are not yours to turn. If you find one false, say at which input.
  Laid BY PROGRAM, IN A SANDBOX (cutbox-rows.mjs): the forced cells as the released guide's own fill.sh prints them over the translation be208242377e7697… (all of the seat's roots in one cut). By AI agents, Wed Nov 11 2026. No macro, syntax, notation, axiom, sorry.
-/
import Derived.Test.YtekjjknpifpkiaaChecked
import GoSem.Claim
import GoSem.ClaimJoined
import GoSem.ClaimMapViews
import Derived.JoinedTies
import Derived.KernelRfl
namespace Go.Proofs.Ytekjjknpifpkiaa
/- THE CELL 'sum', in the pinned program and in every row, IS THE sha256 OF THE DUMP (.gsa) THAT YtekjjknpifpkiaaProg.lean LOADS. Nothing in Lean hashes anything: it is a label: what it is worth is what the hold of that sum in a sandbox is worth. -/
noncomputable def Try.pinned : Pinned := { name := "ytekjjknpifpkiaa", sum := "be208242377e7697b43526d67d0bca7fddd6367118877cdc2904b839d6b6b5e7", checked := Try.checked }
namespace Rows
def none {H : Type} : Left H := { results := [], args := [] }

/-- 'gatehouselaw5.ArpKnown': WHATEVER THE INPUT: true; the input reads as it did. -/
def arpKnownSpec : ChangeSpec := { name := "arpKnown", fn := fun _ => fun
  | [] => { results := [.lit (.bool true)], args := [] }
  | _ => none }
def arpKnownRow : OpenClaim := { program := "ytekjjknpifpkiaa", sum := "be208242377e7697b43526d67d0bca7fddd6367118877cdc2904b839d6b6b5e7", func := "gatehouse/gatehouselaw5.ArpKnown", spec := "arpKnown", apart := false }
def ArpKnownSaid : Prop := arpKnownRow.holds Try.pinned (OpenSpec.ofChange arpKnownSpec)

/-- ITS FALSE NEIGHBOUR: 'it returns false'. Refute it at one input. -/
def arpKnownWrong : ChangeSpec := { name := "arpKnown", fn := fun _ => fun
  | [] => { results := [.lit (.bool false)], args := [] }
  | _ => none }
def ArpKnownWrongFalsely : Prop := arpKnownRow.holds Try.pinned (OpenSpec.ofChange arpKnownWrong)

/-- 'gatehouselaw5.ArpSays': WHATEVER THE INPUT: true; the input reads as it did. -/
def arpSaysSpec : ChangeSpec := { name := "arpSays", fn := fun _ => fun
  | [d1, d2, d3] => { results := [.lit (.bool true)], args := [d1, d2, d3] }
  | _ => none }
def arpSaysRow : OpenClaim := { program := "ytekjjknpifpkiaa", sum := "be208242377e7697b43526d67d0bca7fddd6367118877cdc2904b839d6b6b5e7", func := "gatehouse/gatehouselaw5.ArpSays", spec := "arpSays", apart := false }
def ArpSaysSaid : Prop := arpSaysRow.holds Try.pinned (OpenSpec.ofChange arpSaysSpec)

/-- ITS FALSE NEIGHBOUR: 'it returns false'. Refute it at one input. -/
def arpSaysWrong : ChangeSpec := { name := "arpSays", fn := fun _ => fun
  | [d1, d2, d3] => { results := [.lit (.bool false)], args := [d1, d2, d3] }
  | _ => none }
def ArpSaysWrongFalsely : Prop := arpSaysRow.holds Try.pinned (OpenSpec.ofChange arpSaysWrong)

/-- 'gatehouselaw5.ArpTalks': WHATEVER THE INPUT: true; the input reads as it did. -/
def arpTalksSpec : ChangeSpec := { name := "arpTalks", fn := fun _ => fun
  | [d1, d2, d3, d4] => { results := [.lit (.bool true)], args := [d1, d2, d3, d4] }
  | _ => none }
def arpTalksRow : OpenClaim := { program := "ytekjjknpifpkiaa", sum := "be208242377e7697b43526d67d0bca7fddd6367118877cdc2904b839d6b6b5e7", func := "gatehouse/gatehouselaw5.ArpTalks", spec := "arpTalks", apart := false }
def ArpTalksSaid : Prop := arpTalksRow.holds Try.pinned (OpenSpec.ofChange arpTalksSpec)

/-- ITS FALSE NEIGHBOUR: 'it returns false'. Refute it at one input. -/
def arpTalksWrong : ChangeSpec := { name := "arpTalks", fn := fun _ => fun
  | [d1, d2, d3, d4] => { results := [.lit (.bool false)], args := [d1, d2, d3, d4] }
  | _ => none }
def ArpTalksWrongFalsely : Prop := arpTalksRow.holds Try.pinned (OpenSpec.ofChange arpTalksWrong)

/-- 'gatehouselaw5.ArpBehind': WHATEVER THE INPUT: true; the input reads as it did. -/
def arpBehindSpec : ChangeSpec := { name := "arpBehind", fn := fun _ => fun
  | [d1, d2, d3] => { results := [.lit (.bool true)], args := [d1, d2, d3] }
  | _ => none }
def arpBehindRow : OpenClaim := { program := "ytekjjknpifpkiaa", sum := "be208242377e7697b43526d67d0bca7fddd6367118877cdc2904b839d6b6b5e7", func := "gatehouse/gatehouselaw5.ArpBehind", spec := "arpBehind", apart := false }
def ArpBehindSaid : Prop := arpBehindRow.holds Try.pinned (OpenSpec.ofChange arpBehindSpec)

/-- ITS FALSE NEIGHBOUR: 'it returns false'. Refute it at one input. -/
def arpBehindWrong : ChangeSpec := { name := "arpBehind", fn := fun _ => fun
  | [d1, d2, d3] => { results := [.lit (.bool false)], args := [d1, d2, d3] }
  | _ => none }
def ArpBehindWrongFalsely : Prop := arpBehindRow.holds Try.pinned (OpenSpec.ofChange arpBehindWrong)

/- THE SECOND FORM. 'bulk': how many values and letters a reading holds, each counted each time it is reached (what is shared counts as often as it is met; a slice's spare places count too). A statement '..UptoSaid' is the law's where the arguments, and the package variables that the reading takes, are together of bulk at most 1048576: NARROWER than '..Said'. Prove '..Said' where nothing that the law and all that it calls make is longer than what came in: it says more and counts as full. Else prove '..UptoSaid'. A law counts once. -/
mutual
def uptoBulk {H : Type} : DataW H → Nat
  | .lit (.string bytes) => bytes.length + 1
  | .lit _ => 1
  | .nil => 1
  | .ptr d => uptoBulk d + 1
  | .slice elems spare => uptoBulkAll elems + uptoBulkAll spare + 1
  | .agg parts => uptoBulkAll parts + 1
  | .iface _ d => uptoBulk d + 1
  | .map entries => uptoBulkEntries entries + 1
  | .held _ => 1
def uptoBulkAll {H : Type} : List (DataW H) → Nat
  | [] => 0
  | d :: r => uptoBulk d + uptoBulkAll r
def uptoBulkEntries {H : Type} : List (Lit × DataW H) → Nat
  | [] => 0
  | x :: r => uptoBulkEntry x + uptoBulkEntries r
def uptoBulkEntry {H : Type} : Lit × DataW H → Nat
  | (.string bytes, d) => bytes.length + uptoBulk d + 1
  | (_, d) => uptoBulk d + 1
 end
def uptoSmall : (H : Type) → List (DataW H) → Bool := fun _ ds => decide (uptoBulkAll ds ≤ 1048576)
def OpenSpec.upto (s : _root_.Go.ChangeSpec) : _root_.Go.OpenSpec := { _root_.Go.OpenSpec.ofChange s with cond := some uptoSmall }

/-- 'gatehouselaw5.ArpKnown', WHERE WHAT IT READS IS OF BULK AT MOST 1048576: true; the input reads as it did. -/
def arpKnownUptoRow : OpenClaim := { program := "ytekjjknpifpkiaa", sum := "be208242377e7697b43526d67d0bca7fddd6367118877cdc2904b839d6b6b5e7", func := "gatehouse/gatehouselaw5.ArpKnown", spec := "arpKnown", apart := false, narrowed := true }
def ArpKnownUptoSaid : Prop := arpKnownUptoRow.holds Try.pinned (OpenSpec.upto arpKnownSpec)

/-- 'gatehouselaw5.ArpSays', WHERE WHAT IT READS IS OF BULK AT MOST 1048576: true; the input reads as it did. -/
def arpSaysUptoRow : OpenClaim := { program := "ytekjjknpifpkiaa", sum := "be208242377e7697b43526d67d0bca7fddd6367118877cdc2904b839d6b6b5e7", func := "gatehouse/gatehouselaw5.ArpSays", spec := "arpSays", apart := false, narrowed := true }
def ArpSaysUptoSaid : Prop := arpSaysUptoRow.holds Try.pinned (OpenSpec.upto arpSaysSpec)

/-- 'gatehouselaw5.ArpTalks', WHERE WHAT IT READS IS OF BULK AT MOST 1048576: true; the input reads as it did. -/
def arpTalksUptoRow : OpenClaim := { program := "ytekjjknpifpkiaa", sum := "be208242377e7697b43526d67d0bca7fddd6367118877cdc2904b839d6b6b5e7", func := "gatehouse/gatehouselaw5.ArpTalks", spec := "arpTalks", apart := false, narrowed := true }
def ArpTalksUptoSaid : Prop := arpTalksUptoRow.holds Try.pinned (OpenSpec.upto arpTalksSpec)

/-- 'gatehouselaw5.ArpBehind', WHERE WHAT IT READS IS OF BULK AT MOST 1048576: true; the input reads as it did. -/
def arpBehindUptoRow : OpenClaim := { program := "ytekjjknpifpkiaa", sum := "be208242377e7697b43526d67d0bca7fddd6367118877cdc2904b839d6b6b5e7", func := "gatehouse/gatehouselaw5.ArpBehind", spec := "arpBehind", apart := false, narrowed := true }
def ArpBehindUptoSaid : Prop := arpBehindUptoRow.holds Try.pinned (OpenSpec.upto arpBehindSpec)

end Rows
end Go.Proofs.Ytekjjknpifpkiaa
