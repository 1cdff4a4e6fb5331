/-
  No cell of these rows narrows 'for every input' (looked for: loops, veiled, ifaces, maps, wideKeys, modest, calm, conditions, laid).
  DERIVED. THE GIVEN ROWS OF THIS SEAT. 5 by the template 'for every input the law returns true; each argument reads behind the call as it read before'; 0 by the template 'total and deterministic' (their statements: YthikedajhocdkaaTotals.lean).
  GIVEN WITH THE SEED: the statements are not yours to turn. If you find one false, say at which input.
  Laid BY PROGRAM, IN A SANDBOX (cutbox-rows.mjs): the forced cells as the released guide's own fill.sh prints them over the translation 25f691e9a53f8d20… (all of the seat's roots in one cut). By AI agents, Wed Nov 11 2026. No macro, syntax, notation, axiom, sorry.
-/
import Derived.Test.YthikedajhocdkaaChecked
import GoSem.Claim
import GoSem.ClaimJoined
import GoSem.ClaimMapViews
import Derived.JoinedTies
import Derived.KernelRfl
namespace Go.Proofs.Ythikedajhocdkaa
/- THE CELL 'sum', in the pinned program and in every row, IS THE sha256 OF THE DUMP (.gsa) THAT YthikedajhocdkaaProg.lean LOADS. Nothing in Lean hashes anything: it is a label: what it is worth is what the hold of that sum in a sandbox is worth. -/
noncomputable def Try.pinned : Pinned := { name := "ythikedajhocdkaa", sum := "25f691e9a53f8d20ae919685cffa357e568a82b28ffeef1dec86787cfe68d810", checked := Try.checked }
namespace Rows
def none {H : Type} : Left H := { results := [], args := [] }

/-- 'gatehouselaw7.UdpKnown': WHATEVER THE INPUT: true; the input reads as it did. -/
def udpKnownSpec : ChangeSpec := { name := "udpKnown", fn := fun _ => fun
  | [] => { results := [.lit (.bool true)], args := [] }
  | _ => none }
def udpKnownRow : OpenClaim := { program := "ythikedajhocdkaa", sum := "25f691e9a53f8d20ae919685cffa357e568a82b28ffeef1dec86787cfe68d810", func := "gatehouse/gatehouselaw7.UdpKnown", spec := "udpKnown", apart := false }
def UdpKnownSaid : Prop := udpKnownRow.holds Try.pinned (OpenSpec.ofChange udpKnownSpec)

/-- ITS FALSE NEIGHBOUR: 'it returns false'. Refute it at one input. -/
def udpKnownWrong : ChangeSpec := { name := "udpKnown", fn := fun _ => fun
  | [] => { results := [.lit (.bool false)], args := [] }
  | _ => none }
def UdpKnownWrongFalsely : Prop := udpKnownRow.holds Try.pinned (OpenSpec.ofChange udpKnownWrong)

/-- 'gatehouselaw7.UdpReads': WHATEVER THE INPUT: true; the input reads as it did. -/
def udpReadsSpec : ChangeSpec := { name := "udpReads", fn := fun _ => fun
  | [d] => { results := [.lit (.bool true)], args := [d] }
  | _ => none }
def udpReadsRow : OpenClaim := { program := "ythikedajhocdkaa", sum := "25f691e9a53f8d20ae919685cffa357e568a82b28ffeef1dec86787cfe68d810", func := "gatehouse/gatehouselaw7.UdpReads", spec := "udpReads", apart := false }
def UdpReadsSaid : Prop := udpReadsRow.holds Try.pinned (OpenSpec.ofChange udpReadsSpec)

/-- ITS FALSE NEIGHBOUR: 'it returns false'. Refute it at one input. -/
def udpReadsWrong : ChangeSpec := { name := "udpReads", fn := fun _ => fun
  | [d] => { results := [.lit (.bool false)], args := [d] }
  | _ => none }
def UdpReadsWrongFalsely : Prop := udpReadsRow.holds Try.pinned (OpenSpec.ofChange udpReadsWrong)

/-- 'gatehouselaw7.UdpWrites': WHATEVER THE INPUT: true; the input reads as it did. -/
def udpWritesSpec : ChangeSpec := { name := "udpWrites", fn := fun _ => fun
  | [d1, d2] => { results := [.lit (.bool true)], args := [d1, d2] }
  | _ => none }
def udpWritesRow : OpenClaim := { program := "ythikedajhocdkaa", sum := "25f691e9a53f8d20ae919685cffa357e568a82b28ffeef1dec86787cfe68d810", func := "gatehouse/gatehouselaw7.UdpWrites", spec := "udpWrites", apart := false }
def UdpWritesSaid : Prop := udpWritesRow.holds Try.pinned (OpenSpec.ofChange udpWritesSpec)

/-- ITS FALSE NEIGHBOUR: 'it returns false'. Refute it at one input. -/
def udpWritesWrong : ChangeSpec := { name := "udpWrites", fn := fun _ => fun
  | [d1, d2] => { results := [.lit (.bool false)], args := [d1, d2] }
  | _ => none }
def UdpWritesWrongFalsely : Prop := udpWritesRow.holds Try.pinned (OpenSpec.ofChange udpWritesWrong)

/-- 'gatehouselaw7.UdpSpoilt': WHATEVER THE INPUT: true; the input reads as it did. -/
def udpSpoiltSpec : ChangeSpec := { name := "udpSpoilt", fn := fun _ => fun
  | [d1, d2] => { results := [.lit (.bool true)], args := [d1, d2] }
  | _ => none }
def udpSpoiltRow : OpenClaim := { program := "ythikedajhocdkaa", sum := "25f691e9a53f8d20ae919685cffa357e568a82b28ffeef1dec86787cfe68d810", func := "gatehouse/gatehouselaw7.UdpSpoilt", spec := "udpSpoilt", apart := false }
def UdpSpoiltSaid : Prop := udpSpoiltRow.holds Try.pinned (OpenSpec.ofChange udpSpoiltSpec)

/-- ITS FALSE NEIGHBOUR: 'it returns false'. Refute it at one input. -/
def udpSpoiltWrong : ChangeSpec := { name := "udpSpoilt", fn := fun _ => fun
  | [d1, d2] => { results := [.lit (.bool false)], args := [d1, d2] }
  | _ => none }
def UdpSpoiltWrongFalsely : Prop := udpSpoiltRow.holds Try.pinned (OpenSpec.ofChange udpSpoiltWrong)

/-- 'gatehouselaw7.UdpNone': WHATEVER THE INPUT: true; the input reads as it did. -/
def udpNoneSpec : ChangeSpec := { name := "udpNone", fn := fun _ => fun
  | [d1, d2, d3] => { results := [.lit (.bool true)], args := [d1, d2, d3] }
  | _ => none }
def udpNoneRow : OpenClaim := { program := "ythikedajhocdkaa", sum := "25f691e9a53f8d20ae919685cffa357e568a82b28ffeef1dec86787cfe68d810", func := "gatehouse/gatehouselaw7.UdpNone", spec := "udpNone", apart := false }
def UdpNoneSaid : Prop := udpNoneRow.holds Try.pinned (OpenSpec.ofChange udpNoneSpec)

/-- ITS FALSE NEIGHBOUR: 'it returns false'. Refute it at one input. -/
def udpNoneWrong : ChangeSpec := { name := "udpNone", fn := fun _ => fun
  | [d1, d2, d3] => { results := [.lit (.bool false)], args := [d1, d2, d3] }
  | _ => none }
def UdpNoneWrongFalsely : Prop := udpNoneRow.holds Try.pinned (OpenSpec.ofChange udpNoneWrong)

/- THE SECOND FORM. 'bulk': how many values and letters a reading holds, each counted each time it is reached (what is shared counts as often as it is met; a slice's spare places count too). A statement '..UptoSaid' is the law's where the arguments, and the package variables that the reading takes, are together of bulk at most 1048576: NARROWER than '..Said'. Prove '..Said' where nothing that the law and all that it calls make is longer than what came in: it says more and counts as full. Else prove '..UptoSaid'. A law counts once. -/
mutual
def uptoBulk {H : Type} : DataW H → Nat
  | .lit (.string bytes) => bytes.length + 1
  | .lit _ => 1
  | .nil => 1
  | .ptr d => uptoBulk d + 1
  | .slice elems spare => uptoBulkAll elems + uptoBulkAll spare + 1
  | .agg parts => uptoBulkAll parts + 1
  | .iface _ d => uptoBulk d + 1
  | .map entries => uptoBulkEntries entries + 1
  | .held _ => 1
def uptoBulkAll {H : Type} : List (DataW H) → Nat
  | [] => 0
  | d :: r => uptoBulk d + uptoBulkAll r
def uptoBulkEntries {H : Type} : List (Lit × DataW H) → Nat
  | [] => 0
  | x :: r => uptoBulkEntry x + uptoBulkEntries r
def uptoBulkEntry {H : Type} : Lit × DataW H → Nat
  | (.string bytes, d) => bytes.length + uptoBulk d + 1
  | (_, d) => uptoBulk d + 1
 end
def uptoSmall : (H : Type) → List (DataW H) → Bool := fun _ ds => decide (uptoBulkAll ds ≤ 1048576)
def OpenSpec.upto (s : _root_.Go.ChangeSpec) : _root_.Go.OpenSpec := { _root_.Go.OpenSpec.ofChange s with cond := some uptoSmall }

/-- 'gatehouselaw7.UdpKnown', WHERE WHAT IT READS IS OF BULK AT MOST 1048576: true; the input reads as it did. -/
def udpKnownUptoRow : OpenClaim := { program := "ythikedajhocdkaa", sum := "25f691e9a53f8d20ae919685cffa357e568a82b28ffeef1dec86787cfe68d810", func := "gatehouse/gatehouselaw7.UdpKnown", spec := "udpKnown", apart := false, narrowed := true }
def UdpKnownUptoSaid : Prop := udpKnownUptoRow.holds Try.pinned (OpenSpec.upto udpKnownSpec)

/-- 'gatehouselaw7.UdpReads', WHERE WHAT IT READS IS OF BULK AT MOST 1048576: true; the input reads as it did. -/
def udpReadsUptoRow : OpenClaim := { program := "ythikedajhocdkaa", sum := "25f691e9a53f8d20ae919685cffa357e568a82b28ffeef1dec86787cfe68d810", func := "gatehouse/gatehouselaw7.UdpReads", spec := "udpReads", apart := false, narrowed := true }
def UdpReadsUptoSaid : Prop := udpReadsUptoRow.holds Try.pinned (OpenSpec.upto udpReadsSpec)

/-- 'gatehouselaw7.UdpWrites', WHERE WHAT IT READS IS OF BULK AT MOST 1048576: true; the input reads as it did. -/
def udpWritesUptoRow : OpenClaim := { program := "ythikedajhocdkaa", sum := "25f691e9a53f8d20ae919685cffa357e568a82b28ffeef1dec86787cfe68d810", func := "gatehouse/gatehouselaw7.UdpWrites", spec := "udpWrites", apart := false, narrowed := true }
def UdpWritesUptoSaid : Prop := udpWritesUptoRow.holds Try.pinned (OpenSpec.upto udpWritesSpec)

/-- 'gatehouselaw7.UdpSpoilt', WHERE WHAT IT READS IS OF BULK AT MOST 1048576: true; the input reads as it did. -/
def udpSpoiltUptoRow : OpenClaim := { program := "ythikedajhocdkaa", sum := "25f691e9a53f8d20ae919685cffa357e568a82b28ffeef1dec86787cfe68d810", func := "gatehouse/gatehouselaw7.UdpSpoilt", spec := "udpSpoilt", apart := false, narrowed := true }
def UdpSpoiltUptoSaid : Prop := udpSpoiltUptoRow.holds Try.pinned (OpenSpec.upto udpSpoiltSpec)

/-- 'gatehouselaw7.UdpNone', WHERE WHAT IT READS IS OF BULK AT MOST 1048576: true; the input reads as it did. -/
def udpNoneUptoRow : OpenClaim := { program := "ythikedajhocdkaa", sum := "25f691e9a53f8d20ae919685cffa357e568a82b28ffeef1dec86787cfe68d810", func := "gatehouse/gatehouselaw7.UdpNone", spec := "udpNone", apart := false, narrowed := true }
def UdpNoneUptoSaid : Prop := udpNoneUptoRow.holds Try.pinned (OpenSpec.upto udpNoneSpec)

end Rows
end Go.Proofs.Ythikedajhocdkaa
