/-
  No cell of these rows narrows 'for every input' (looked for: loops, veiled, ifaces, maps, wideKeys, modest, calm, conditions, laid).
  DERIVED. THE GIVEN ROWS OF THIS SEAT. 6 by the template 'for every input the law returns true; each argument reads behind the call as it read before'; 0 by the template 'total and deterministic' (their statements: YtmjmjfcdblapcaaTotals.lean).
  GIVEN WITH THE SEED: the statements are not yours to turn. If you find one false, say at which input.
  Laid BY PROGRAM, IN A SANDBOX (cutbox-rows.mjs): the forced cells as the released guide's own fill.sh prints them over the translation 78c4e98d3026613c… (all of the seat's roots in one cut). By AI agents, Wed Nov 11 2026. No macro, syntax, notation, axiom, sorry.
-/
import Derived.Test.YtmjmjfcdblapcaaChecked
import GoSem.Claim
import GoSem.ClaimJoined
import GoSem.ClaimMapViews
import Derived.JoinedTies
import Derived.KernelRfl
namespace Go.Proofs.Ytmjmjfcdblapcaa
/- THE CELL 'sum', in the pinned program and in every row, IS THE sha256 OF THE DUMP (.gsa) THAT YtmjmjfcdblapcaaProg.lean LOADS. Nothing in Lean hashes anything: it is a label: what it is worth is what the hold of that sum in a sandbox is worth. -/
noncomputable def Try.pinned : Pinned := { name := "ytmjmjfcdblapcaa", sum := "78c4e98d3026613c1ce5a53943aaff06a01d0f46a538707a999374536364c706", checked := Try.checked }
namespace Rows
def none {H : Type} : Left H := { results := [], args := [] }

/-- 'gatehouselaw17.PortsKnown': WHATEVER THE INPUT: true; the input reads as it did. -/
def portsKnownSpec : ChangeSpec := { name := "portsKnown", fn := fun _ => fun
  | [] => { results := [.lit (.bool true)], args := [] }
  | _ => none }
def portsKnownRow : OpenClaim := { program := "ytmjmjfcdblapcaa", sum := "78c4e98d3026613c1ce5a53943aaff06a01d0f46a538707a999374536364c706", func := "gatehouse/gatehouselaw17.PortsKnown", spec := "portsKnown", inPlace := ["slices.overlaps[gatehouse/ports.Map]"], unfollowed := true, recurses := true, plainKeys := false, apart := false }
def PortsKnownSaid : Prop := portsKnownRow.holds Try.pinned (OpenSpec.ofChange portsKnownSpec)

/-- ITS FALSE NEIGHBOUR: 'it returns false'. Refute it at one input. -/
def portsKnownWrong : ChangeSpec := { name := "portsKnown", fn := fun _ => fun
  | [] => { results := [.lit (.bool false)], args := [] }
  | _ => none }
def PortsKnownWrongFalsely : Prop := portsKnownRow.holds Try.pinned (OpenSpec.ofChange portsKnownWrong)

/-- 'gatehouselaw17.PortsApart': WHATEVER THE INPUT: true; the input reads as it did. -/
def portsApartSpec : ChangeSpec := { name := "portsApart", fn := fun _ => fun
  | [d] => { results := [.lit (.bool true)], args := [d] }
  | _ => none }
def portsApartRow : OpenClaim := { program := "ytmjmjfcdblapcaa", sum := "78c4e98d3026613c1ce5a53943aaff06a01d0f46a538707a999374536364c706", func := "gatehouse/gatehouselaw17.PortsApart", spec := "portsApart", inPlace := ["slices.overlaps[gatehouse/ports.Map]"], unfollowed := true, recurses := true, plainKeys := false, apart := false }
def PortsApartSaid : Prop := portsApartRow.holds Try.pinned (OpenSpec.ofChange portsApartSpec)

/-- ITS FALSE NEIGHBOUR: 'it returns false'. Refute it at one input. -/
def portsApartWrong : ChangeSpec := { name := "portsApart", fn := fun _ => fun
  | [d] => { results := [.lit (.bool false)], args := [d] }
  | _ => none }
def PortsApartWrongFalsely : Prop := portsApartRow.holds Try.pinned (OpenSpec.ofChange portsApartWrong)

/-- 'gatehouselaw17.PortsMany': WHATEVER THE INPUT: true; the input reads as it did. -/
def portsManySpec : ChangeSpec := { name := "portsMany", fn := fun _ => fun
  | [d1, d2] => { results := [.lit (.bool true)], args := [d1, d2] }
  | _ => none }
def portsManyRow : OpenClaim := { program := "ytmjmjfcdblapcaa", sum := "78c4e98d3026613c1ce5a53943aaff06a01d0f46a538707a999374536364c706", func := "gatehouse/gatehouselaw17.PortsMany", spec := "portsMany", inPlace := ["slices.overlaps[gatehouse/ports.Map]"], unfollowed := true, recurses := true, plainKeys := false, apart := false }
def PortsManySaid : Prop := portsManyRow.holds Try.pinned (OpenSpec.ofChange portsManySpec)

/-- ITS FALSE NEIGHBOUR: 'it returns false'. Refute it at one input. -/
def portsManyWrong : ChangeSpec := { name := "portsMany", fn := fun _ => fun
  | [d1, d2] => { results := [.lit (.bool false)], args := [d1, d2] }
  | _ => none }
def PortsManyWrongFalsely : Prop := portsManyRow.holds Try.pinned (OpenSpec.ofChange portsManyWrong)

/-- 'gatehouselaw17.PortsTimes': WHATEVER THE INPUT: true; the input reads as it did. -/
def portsTimesSpec : ChangeSpec := { name := "portsTimes", fn := fun _ => fun
  | [d1, d2, d3] => { results := [.lit (.bool true)], args := [d1, d2, d3] }
  | _ => none }
def portsTimesRow : OpenClaim := { program := "ytmjmjfcdblapcaa", sum := "78c4e98d3026613c1ce5a53943aaff06a01d0f46a538707a999374536364c706", func := "gatehouse/gatehouselaw17.PortsTimes", spec := "portsTimes", inPlace := ["slices.overlaps[gatehouse/ports.Map]"], unfollowed := true, recurses := true, plainKeys := false, apart := false }
def PortsTimesSaid : Prop := portsTimesRow.holds Try.pinned (OpenSpec.ofChange portsTimesSpec)

/-- ITS FALSE NEIGHBOUR: 'it returns false'. Refute it at one input. -/
def portsTimesWrong : ChangeSpec := { name := "portsTimes", fn := fun _ => fun
  | [d1, d2, d3] => { results := [.lit (.bool false)], args := [d1, d2, d3] }
  | _ => none }
def PortsTimesWrongFalsely : Prop := portsTimesRow.holds Try.pinned (OpenSpec.ofChange portsTimesWrong)

/-- 'gatehouselaw17.PortsTaken': WHATEVER THE INPUT: true; the input reads as it did. -/
def portsTakenSpec : ChangeSpec := { name := "portsTaken", fn := fun _ => fun
  | [d1, d2, d3, d4, d5] => { results := [.lit (.bool true)], args := [d1, d2, d3, d4, d5] }
  | _ => none }
def portsTakenRow : OpenClaim := { program := "ytmjmjfcdblapcaa", sum := "78c4e98d3026613c1ce5a53943aaff06a01d0f46a538707a999374536364c706", func := "gatehouse/gatehouselaw17.PortsTaken", spec := "portsTaken", inPlace := ["slices.overlaps[gatehouse/ports.Map]"], unfollowed := true, recurses := true, plainKeys := false, apart := false }
def PortsTakenSaid : Prop := portsTakenRow.holds Try.pinned (OpenSpec.ofChange portsTakenSpec)

/-- ITS FALSE NEIGHBOUR: 'it returns false'. Refute it at one input. -/
def portsTakenWrong : ChangeSpec := { name := "portsTaken", fn := fun _ => fun
  | [d1, d2, d3, d4, d5] => { results := [.lit (.bool false)], args := [d1, d2, d3, d4, d5] }
  | _ => none }
def PortsTakenWrongFalsely : Prop := portsTakenRow.holds Try.pinned (OpenSpec.ofChange portsTakenWrong)

/-- 'gatehouselaw17.PortsGone': WHATEVER THE INPUT: true; the input reads as it did. -/
def portsGoneSpec : ChangeSpec := { name := "portsGone", fn := fun _ => fun
  | [d1, d2, d3] => { results := [.lit (.bool true)], args := [d1, d2, d3] }
  | _ => none }
def portsGoneRow : OpenClaim := { program := "ytmjmjfcdblapcaa", sum := "78c4e98d3026613c1ce5a53943aaff06a01d0f46a538707a999374536364c706", func := "gatehouse/gatehouselaw17.PortsGone", spec := "portsGone", inPlace := ["slices.overlaps[gatehouse/ports.Map]"], unfollowed := true, recurses := true, plainKeys := false, apart := false }
def PortsGoneSaid : Prop := portsGoneRow.holds Try.pinned (OpenSpec.ofChange portsGoneSpec)

/-- ITS FALSE NEIGHBOUR: 'it returns false'. Refute it at one input. -/
def portsGoneWrong : ChangeSpec := { name := "portsGone", fn := fun _ => fun
  | [d1, d2, d3] => { results := [.lit (.bool false)], args := [d1, d2, d3] }
  | _ => none }
def PortsGoneWrongFalsely : Prop := portsGoneRow.holds Try.pinned (OpenSpec.ofChange portsGoneWrong)

/- THE SECOND FORM. 'bulk': how many values and letters a reading holds, each counted each time it is reached (what is shared counts as often as it is met; a slice's spare places count too). A statement '..UptoSaid' is the law's where the arguments, and the package variables that the reading takes, are together of bulk at most 1048576: NARROWER than '..Said'. Prove '..Said' where nothing that the law and all that it calls make is longer than what came in: it says more and counts as full. Else prove '..UptoSaid'. A law counts once. -/
mutual
def uptoBulk {H : Type} : DataW H → Nat
  | .lit (.string bytes) => bytes.length + 1
  | .lit _ => 1
  | .nil => 1
  | .ptr d => uptoBulk d + 1
  | .slice elems spare => uptoBulkAll elems + uptoBulkAll spare + 1
  | .agg parts => uptoBulkAll parts + 1
  | .iface _ d => uptoBulk d + 1
  | .map entries => uptoBulkEntries entries + 1
  | .held _ => 1
def uptoBulkAll {H : Type} : List (DataW H) → Nat
  | [] => 0
  | d :: r => uptoBulk d + uptoBulkAll r
def uptoBulkEntries {H : Type} : List (Lit × DataW H) → Nat
  | [] => 0
  | x :: r => uptoBulkEntry x + uptoBulkEntries r
def uptoBulkEntry {H : Type} : Lit × DataW H → Nat
  | (.string bytes, d) => bytes.length + uptoBulk d + 1
  | (_, d) => uptoBulk d + 1
 end
def uptoSmall : (H : Type) → List (DataW H) → Bool := fun _ ds => decide (uptoBulkAll ds ≤ 1048576)
def OpenSpec.upto (s : _root_.Go.ChangeSpec) : _root_.Go.OpenSpec := { _root_.Go.OpenSpec.ofChange s with cond := some uptoSmall }

/-- 'gatehouselaw17.PortsKnown', WHERE WHAT IT READS IS OF BULK AT MOST 1048576: true; the input reads as it did. -/
def portsKnownUptoRow : OpenClaim := { program := "ytmjmjfcdblapcaa", sum := "78c4e98d3026613c1ce5a53943aaff06a01d0f46a538707a999374536364c706", func := "gatehouse/gatehouselaw17.PortsKnown", spec := "portsKnown", inPlace := ["slices.overlaps[gatehouse/ports.Map]"], unfollowed := true, recurses := true, plainKeys := false, apart := false, narrowed := true }
def PortsKnownUptoSaid : Prop := portsKnownUptoRow.holds Try.pinned (OpenSpec.upto portsKnownSpec)

/-- 'gatehouselaw17.PortsApart', WHERE WHAT IT READS IS OF BULK AT MOST 1048576: true; the input reads as it did. -/
def portsApartUptoRow : OpenClaim := { program := "ytmjmjfcdblapcaa", sum := "78c4e98d3026613c1ce5a53943aaff06a01d0f46a538707a999374536364c706", func := "gatehouse/gatehouselaw17.PortsApart", spec := "portsApart", inPlace := ["slices.overlaps[gatehouse/ports.Map]"], unfollowed := true, recurses := true, plainKeys := false, apart := false, narrowed := true }
def PortsApartUptoSaid : Prop := portsApartUptoRow.holds Try.pinned (OpenSpec.upto portsApartSpec)

/-- 'gatehouselaw17.PortsMany', WHERE WHAT IT READS IS OF BULK AT MOST 1048576: true; the input reads as it did. -/
def portsManyUptoRow : OpenClaim := { program := "ytmjmjfcdblapcaa", sum := "78c4e98d3026613c1ce5a53943aaff06a01d0f46a538707a999374536364c706", func := "gatehouse/gatehouselaw17.PortsMany", spec := "portsMany", inPlace := ["slices.overlaps[gatehouse/ports.Map]"], unfollowed := true, recurses := true, plainKeys := false, apart := false, narrowed := true }
def PortsManyUptoSaid : Prop := portsManyUptoRow.holds Try.pinned (OpenSpec.upto portsManySpec)

/-- 'gatehouselaw17.PortsTimes', WHERE WHAT IT READS IS OF BULK AT MOST 1048576: true; the input reads as it did. -/
def portsTimesUptoRow : OpenClaim := { program := "ytmjmjfcdblapcaa", sum := "78c4e98d3026613c1ce5a53943aaff06a01d0f46a538707a999374536364c706", func := "gatehouse/gatehouselaw17.PortsTimes", spec := "portsTimes", inPlace := ["slices.overlaps[gatehouse/ports.Map]"], unfollowed := true, recurses := true, plainKeys := false, apart := false, narrowed := true }
def PortsTimesUptoSaid : Prop := portsTimesUptoRow.holds Try.pinned (OpenSpec.upto portsTimesSpec)

/-- 'gatehouselaw17.PortsTaken', WHERE WHAT IT READS IS OF BULK AT MOST 1048576: true; the input reads as it did. -/
def portsTakenUptoRow : OpenClaim := { program := "ytmjmjfcdblapcaa", sum := "78c4e98d3026613c1ce5a53943aaff06a01d0f46a538707a999374536364c706", func := "gatehouse/gatehouselaw17.PortsTaken", spec := "portsTaken", inPlace := ["slices.overlaps[gatehouse/ports.Map]"], unfollowed := true, recurses := true, plainKeys := false, apart := false, narrowed := true }
def PortsTakenUptoSaid : Prop := portsTakenUptoRow.holds Try.pinned (OpenSpec.upto portsTakenSpec)

/-- 'gatehouselaw17.PortsGone', WHERE WHAT IT READS IS OF BULK AT MOST 1048576: true; the input reads as it did. -/
def portsGoneUptoRow : OpenClaim := { program := "ytmjmjfcdblapcaa", sum := "78c4e98d3026613c1ce5a53943aaff06a01d0f46a538707a999374536364c706", func := "gatehouse/gatehouselaw17.PortsGone", spec := "portsGone", inPlace := ["slices.overlaps[gatehouse/ports.Map]"], unfollowed := true, recurses := true, plainKeys := false, apart := false, narrowed := true }
def PortsGoneUptoSaid : Prop := portsGoneUptoRow.holds Try.pinned (OpenSpec.upto portsGoneSpec)

end Rows
end Go.Proofs.Ytmjmjfcdblapcaa
