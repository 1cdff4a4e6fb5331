/-
  No cell of these rows narrows 'for every input' (looked for: loops, veiled, ifaces, maps, wideKeys, modest, calm, conditions, laid).
  DERIVED. THE GIVEN ROWS OF THIS SEAT. 7 by the template 'for every input the law returns true; each argument reads behind the call as it read before'; 0 by the template 'total and deterministic' (their statements: YtfmllopeeiecjaaTotals.lean).
  GIVEN WITH THE SEED: the statements are not yours to turn. If you find one false, say at which input.
  Laid BY PROGRAM, IN A SANDBOX (cutbox-rows.mjs): the forced cells as the released guide's own fill.sh prints them over the translation 8f8be86a2891af76… (all of the seat's roots in one cut). By AI agents, Wed Nov 11 2026. No macro, syntax, notation, axiom, sorry.
-/
import Derived.Test.YtfmllopeeiecjaaChecked
import GoSem.Claim
import GoSem.ClaimJoined
import GoSem.ClaimMapViews
import Derived.JoinedTies
import Derived.KernelRfl
namespace Go.Proofs.Ytfmllopeeiecjaa
/- THE CELL 'sum', in the pinned program and in every row, IS THE sha256 OF THE DUMP (.gsa) THAT YtfmllopeeiecjaaProg.lean LOADS. Nothing in Lean hashes anything: it is a label: what it is worth is what the hold of that sum in a sandbox is worth. -/
noncomputable def Try.pinned : Pinned := { name := "ytfmllopeeiecjaa", sum := "8f8be86a2891af76ca1396863d702c0c6629be359cae5ea014ef5c78a4836e4d", checked := Try.checked }
namespace Rows
def none {H : Type} : Left H := { results := [], args := [] }

/-- 'gatehouselaw9.IcmpKnown': WHATEVER THE INPUT: true; the input reads as it did. -/
def icmpKnownSpec : ChangeSpec := { name := "icmpKnown", fn := fun _ => fun
  | [] => { results := [.lit (.bool true)], args := [] }
  | _ => none }
def icmpKnownRow : OpenClaim := { program := "ytfmllopeeiecjaa", sum := "8f8be86a2891af76ca1396863d702c0c6629be359cae5ea014ef5c78a4836e4d", func := "gatehouse/gatehouselaw9.IcmpKnown", spec := "icmpKnown", apart := false }
def IcmpKnownSaid : Prop := icmpKnownRow.holds Try.pinned (OpenSpec.ofChange icmpKnownSpec)

/-- ITS FALSE NEIGHBOUR: 'it returns false'. Refute it at one input. -/
def icmpKnownWrong : ChangeSpec := { name := "icmpKnown", fn := fun _ => fun
  | [] => { results := [.lit (.bool false)], args := [] }
  | _ => none }
def IcmpKnownWrongFalsely : Prop := icmpKnownRow.holds Try.pinned (OpenSpec.ofChange icmpKnownWrong)

/-- 'gatehouselaw9.IcmpReads': WHATEVER THE INPUT: true; the input reads as it did. -/
def icmpReadsSpec : ChangeSpec := { name := "icmpReads", fn := fun _ => fun
  | [d] => { results := [.lit (.bool true)], args := [d] }
  | _ => none }
def icmpReadsRow : OpenClaim := { program := "ytfmllopeeiecjaa", sum := "8f8be86a2891af76ca1396863d702c0c6629be359cae5ea014ef5c78a4836e4d", func := "gatehouse/gatehouselaw9.IcmpReads", spec := "icmpReads", apart := false }
def IcmpReadsSaid : Prop := icmpReadsRow.holds Try.pinned (OpenSpec.ofChange icmpReadsSpec)

/-- ITS FALSE NEIGHBOUR: 'it returns false'. Refute it at one input. -/
def icmpReadsWrong : ChangeSpec := { name := "icmpReads", fn := fun _ => fun
  | [d] => { results := [.lit (.bool false)], args := [d] }
  | _ => none }
def IcmpReadsWrongFalsely : Prop := icmpReadsRow.holds Try.pinned (OpenSpec.ofChange icmpReadsWrong)

/-- 'gatehouselaw9.IcmpWrites': WHATEVER THE INPUT: true; the input reads as it did. -/
def icmpWritesSpec : ChangeSpec := { name := "icmpWrites", fn := fun _ => fun
  | [d1, d2] => { results := [.lit (.bool true)], args := [d1, d2] }
  | _ => none }
def icmpWritesRow : OpenClaim := { program := "ytfmllopeeiecjaa", sum := "8f8be86a2891af76ca1396863d702c0c6629be359cae5ea014ef5c78a4836e4d", func := "gatehouse/gatehouselaw9.IcmpWrites", spec := "icmpWrites", apart := false }
def IcmpWritesSaid : Prop := icmpWritesRow.holds Try.pinned (OpenSpec.ofChange icmpWritesSpec)

/-- ITS FALSE NEIGHBOUR: 'it returns false'. Refute it at one input. -/
def icmpWritesWrong : ChangeSpec := { name := "icmpWrites", fn := fun _ => fun
  | [d1, d2] => { results := [.lit (.bool false)], args := [d1, d2] }
  | _ => none }
def IcmpWritesWrongFalsely : Prop := icmpWritesRow.holds Try.pinned (OpenSpec.ofChange icmpWritesWrong)

/-- 'gatehouselaw9.IcmpAbouts': WHATEVER THE INPUT: true; the input reads as it did. -/
def icmpAboutsSpec : ChangeSpec := { name := "icmpAbouts", fn := fun _ => fun
  | [d1, d2, d3, d4] => { results := [.lit (.bool true)], args := [d1, d2, d3, d4] }
  | _ => none }
def icmpAboutsRow : OpenClaim := { program := "ytfmllopeeiecjaa", sum := "8f8be86a2891af76ca1396863d702c0c6629be359cae5ea014ef5c78a4836e4d", func := "gatehouse/gatehouselaw9.IcmpAbouts", spec := "icmpAbouts", apart := false }
def IcmpAboutsSaid : Prop := icmpAboutsRow.holds Try.pinned (OpenSpec.ofChange icmpAboutsSpec)

/-- ITS FALSE NEIGHBOUR: 'it returns false'. Refute it at one input. -/
def icmpAboutsWrong : ChangeSpec := { name := "icmpAbouts", fn := fun _ => fun
  | [d1, d2, d3, d4] => { results := [.lit (.bool false)], args := [d1, d2, d3, d4] }
  | _ => none }
def IcmpAboutsWrongFalsely : Prop := icmpAboutsRow.holds Try.pinned (OpenSpec.ofChange icmpAboutsWrong)

/-- 'gatehouselaw9.IcmpNone': WHATEVER THE INPUT: true; the input reads as it did. -/
def icmpNoneSpec : ChangeSpec := { name := "icmpNone", fn := fun _ => fun
  | [d1, d2, d3] => { results := [.lit (.bool true)], args := [d1, d2, d3] }
  | _ => none }
def icmpNoneRow : OpenClaim := { program := "ytfmllopeeiecjaa", sum := "8f8be86a2891af76ca1396863d702c0c6629be359cae5ea014ef5c78a4836e4d", func := "gatehouse/gatehouselaw9.IcmpNone", spec := "icmpNone", apart := false }
def IcmpNoneSaid : Prop := icmpNoneRow.holds Try.pinned (OpenSpec.ofChange icmpNoneSpec)

/-- ITS FALSE NEIGHBOUR: 'it returns false'. Refute it at one input. -/
def icmpNoneWrong : ChangeSpec := { name := "icmpNone", fn := fun _ => fun
  | [d1, d2, d3] => { results := [.lit (.bool false)], args := [d1, d2, d3] }
  | _ => none }
def IcmpNoneWrongFalsely : Prop := icmpNoneRow.holds Try.pinned (OpenSpec.ofChange icmpNoneWrong)

/-- 'gatehouselaw9.IcmpBits': WHATEVER THE INPUT: true; the input reads as it did. -/
def icmpBitsSpec : ChangeSpec := { name := "icmpBits", fn := fun _ => fun
  | [d1, d2] => { results := [.lit (.bool true)], args := [d1, d2] }
  | _ => none }
def icmpBitsRow : OpenClaim := { program := "ytfmllopeeiecjaa", sum := "8f8be86a2891af76ca1396863d702c0c6629be359cae5ea014ef5c78a4836e4d", func := "gatehouse/gatehouselaw9.IcmpBits", spec := "icmpBits", apart := false }
def IcmpBitsSaid : Prop := icmpBitsRow.holds Try.pinned (OpenSpec.ofChange icmpBitsSpec)

/-- ITS FALSE NEIGHBOUR: 'it returns false'. Refute it at one input. -/
def icmpBitsWrong : ChangeSpec := { name := "icmpBits", fn := fun _ => fun
  | [d1, d2] => { results := [.lit (.bool false)], args := [d1, d2] }
  | _ => none }
def IcmpBitsWrongFalsely : Prop := icmpBitsRow.holds Try.pinned (OpenSpec.ofChange icmpBitsWrong)

/-- 'gatehouselaw9.IcmpKinds': WHATEVER THE INPUT: true; the input reads as it did. -/
def icmpKindsSpec : ChangeSpec := { name := "icmpKinds", fn := fun _ => fun
  | [d] => { results := [.lit (.bool true)], args := [d] }
  | _ => none }
def icmpKindsRow : OpenClaim := { program := "ytfmllopeeiecjaa", sum := "8f8be86a2891af76ca1396863d702c0c6629be359cae5ea014ef5c78a4836e4d", func := "gatehouse/gatehouselaw9.IcmpKinds", spec := "icmpKinds", apart := false }
def IcmpKindsSaid : Prop := icmpKindsRow.holds Try.pinned (OpenSpec.ofChange icmpKindsSpec)

/-- ITS FALSE NEIGHBOUR: 'it returns false'. Refute it at one input. -/
def icmpKindsWrong : ChangeSpec := { name := "icmpKinds", fn := fun _ => fun
  | [d] => { results := [.lit (.bool false)], args := [d] }
  | _ => none }
def IcmpKindsWrongFalsely : Prop := icmpKindsRow.holds Try.pinned (OpenSpec.ofChange icmpKindsWrong)

/- THE SECOND FORM. 'bulk': how many values and letters a reading holds, each counted each time it is reached (what is shared counts as often as it is met; a slice's spare places count too). A statement '..UptoSaid' is the law's where the arguments, and the package variables that the reading takes, are together of bulk at most 1048576: NARROWER than '..Said'. Prove '..Said' where nothing that the law and all that it calls make is longer than what came in: it says more and counts as full. Else prove '..UptoSaid'. A law counts once. -/
mutual
def uptoBulk {H : Type} : DataW H → Nat
  | .lit (.string bytes) => bytes.length + 1
  | .lit _ => 1
  | .nil => 1
  | .ptr d => uptoBulk d + 1
  | .slice elems spare => uptoBulkAll elems + uptoBulkAll spare + 1
  | .agg parts => uptoBulkAll parts + 1
  | .iface _ d => uptoBulk d + 1
  | .map entries => uptoBulkEntries entries + 1
  | .held _ => 1
def uptoBulkAll {H : Type} : List (DataW H) → Nat
  | [] => 0
  | d :: r => uptoBulk d + uptoBulkAll r
def uptoBulkEntries {H : Type} : List (Lit × DataW H) → Nat
  | [] => 0
  | x :: r => uptoBulkEntry x + uptoBulkEntries r
def uptoBulkEntry {H : Type} : Lit × DataW H → Nat
  | (.string bytes, d) => bytes.length + uptoBulk d + 1
  | (_, d) => uptoBulk d + 1
 end
def uptoSmall : (H : Type) → List (DataW H) → Bool := fun _ ds => decide (uptoBulkAll ds ≤ 1048576)
def OpenSpec.upto (s : _root_.Go.ChangeSpec) : _root_.Go.OpenSpec := { _root_.Go.OpenSpec.ofChange s with cond := some uptoSmall }

/-- 'gatehouselaw9.IcmpKnown', WHERE WHAT IT READS IS OF BULK AT MOST 1048576: true; the input reads as it did. -/
def icmpKnownUptoRow : OpenClaim := { program := "ytfmllopeeiecjaa", sum := "8f8be86a2891af76ca1396863d702c0c6629be359cae5ea014ef5c78a4836e4d", func := "gatehouse/gatehouselaw9.IcmpKnown", spec := "icmpKnown", apart := false, narrowed := true }
def IcmpKnownUptoSaid : Prop := icmpKnownUptoRow.holds Try.pinned (OpenSpec.upto icmpKnownSpec)

/-- 'gatehouselaw9.IcmpReads', WHERE WHAT IT READS IS OF BULK AT MOST 1048576: true; the input reads as it did. -/
def icmpReadsUptoRow : OpenClaim := { program := "ytfmllopeeiecjaa", sum := "8f8be86a2891af76ca1396863d702c0c6629be359cae5ea014ef5c78a4836e4d", func := "gatehouse/gatehouselaw9.IcmpReads", spec := "icmpReads", apart := false, narrowed := true }
def IcmpReadsUptoSaid : Prop := icmpReadsUptoRow.holds Try.pinned (OpenSpec.upto icmpReadsSpec)

/-- 'gatehouselaw9.IcmpWrites', WHERE WHAT IT READS IS OF BULK AT MOST 1048576: true; the input reads as it did. -/
def icmpWritesUptoRow : OpenClaim := { program := "ytfmllopeeiecjaa", sum := "8f8be86a2891af76ca1396863d702c0c6629be359cae5ea014ef5c78a4836e4d", func := "gatehouse/gatehouselaw9.IcmpWrites", spec := "icmpWrites", apart := false, narrowed := true }
def IcmpWritesUptoSaid : Prop := icmpWritesUptoRow.holds Try.pinned (OpenSpec.upto icmpWritesSpec)

/-- 'gatehouselaw9.IcmpAbouts', WHERE WHAT IT READS IS OF BULK AT MOST 1048576: true; the input reads as it did. -/
def icmpAboutsUptoRow : OpenClaim := { program := "ytfmllopeeiecjaa", sum := "8f8be86a2891af76ca1396863d702c0c6629be359cae5ea014ef5c78a4836e4d", func := "gatehouse/gatehouselaw9.IcmpAbouts", spec := "icmpAbouts", apart := false, narrowed := true }
def IcmpAboutsUptoSaid : Prop := icmpAboutsUptoRow.holds Try.pinned (OpenSpec.upto icmpAboutsSpec)

/-- 'gatehouselaw9.IcmpNone', WHERE WHAT IT READS IS OF BULK AT MOST 1048576: true; the input reads as it did. -/
def icmpNoneUptoRow : OpenClaim := { program := "ytfmllopeeiecjaa", sum := "8f8be86a2891af76ca1396863d702c0c6629be359cae5ea014ef5c78a4836e4d", func := "gatehouse/gatehouselaw9.IcmpNone", spec := "icmpNone", apart := false, narrowed := true }
def IcmpNoneUptoSaid : Prop := icmpNoneUptoRow.holds Try.pinned (OpenSpec.upto icmpNoneSpec)

/-- 'gatehouselaw9.IcmpBits', WHERE WHAT IT READS IS OF BULK AT MOST 1048576: true; the input reads as it did. -/
def icmpBitsUptoRow : OpenClaim := { program := "ytfmllopeeiecjaa", sum := "8f8be86a2891af76ca1396863d702c0c6629be359cae5ea014ef5c78a4836e4d", func := "gatehouse/gatehouselaw9.IcmpBits", spec := "icmpBits", apart := false, narrowed := true }
def IcmpBitsUptoSaid : Prop := icmpBitsUptoRow.holds Try.pinned (OpenSpec.upto icmpBitsSpec)

/-- 'gatehouselaw9.IcmpKinds', WHERE WHAT IT READS IS OF BULK AT MOST 1048576: true; the input reads as it did. -/
def icmpKindsUptoRow : OpenClaim := { program := "ytfmllopeeiecjaa", sum := "8f8be86a2891af76ca1396863d702c0c6629be359cae5ea014ef5c78a4836e4d", func := "gatehouse/gatehouselaw9.IcmpKinds", spec := "icmpKinds", apart := false, narrowed := true }
def IcmpKindsUptoSaid : Prop := icmpKindsUptoRow.holds Try.pinned (OpenSpec.upto icmpKindsSpec)

end Rows
end Go.Proofs.Ytfmllopeeiecjaa
