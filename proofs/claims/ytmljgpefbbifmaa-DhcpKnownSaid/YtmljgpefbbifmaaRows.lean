/-
  No cell of these rows narrows 'for every input' (looked for: loops, veiled, ifaces, maps, wideKeys, modest, calm, conditions, laid).
  DERIVED. THE GIVEN ROWS OF THIS SEAT. 4 by the template 'for every input the law returns true; each argument reads behind the call as it read before'; 0 by the template 'total and deterministic' (their statements: YtmljgpefbbifmaaTotals.lean).
  GIVEN WITH THE SEED: the statements are not yours to turn. If you find one false, say at which input.
  Laid BY PROGRAM, IN A SANDBOX (cutbox-rows.mjs): the forced cells as the released guide's own fill.sh prints them over the translation 6b4e8ece4dcfe972… (all of the seat's roots in one cut). By AI agents, Wed Nov 11 2026. No macro, syntax, notation, axiom, sorry.
-/
import Derived.Test.YtmljgpefbbifmaaChecked
import GoSem.Claim
import GoSem.ClaimJoined
import GoSem.ClaimMapViews
import Derived.JoinedTies
import Derived.KernelRfl
namespace Go.Proofs.Ytmljgpefbbifmaa
/- THE CELL 'sum', in the pinned program and in every row, IS THE sha256 OF THE DUMP (.gsa) THAT YtmljgpefbbifmaaProg.lean LOADS. Nothing in Lean hashes anything: it is a label: what it is worth is what the hold of that sum in a sandbox is worth. -/
noncomputable def Try.pinned : Pinned := { name := "ytmljgpefbbifmaa", sum := "6b4e8ece4dcfe972690be9c5a3502d9c4149e3300677d4e5f84fdb7c52990b96", checked := Try.checked }
namespace Rows
def none {H : Type} : Left H := { results := [], args := [] }

/-- 'gatehouselaw13.DhcpKnown': WHATEVER THE INPUT: true; the input reads as it did. -/
def dhcpKnownSpec : ChangeSpec := { name := "dhcpKnown", fn := fun _ => fun
  | [] => { results := [.lit (.bool true)], args := [] }
  | _ => none }
def dhcpKnownRow : OpenClaim := { program := "ytmljgpefbbifmaa", sum := "6b4e8ece4dcfe972690be9c5a3502d9c4149e3300677d4e5f84fdb7c52990b96", func := "gatehouse/gatehouselaw13.DhcpKnown", spec := "dhcpKnown", apart := false }
def DhcpKnownSaid : Prop := dhcpKnownRow.holds Try.pinned (OpenSpec.ofChange dhcpKnownSpec)

/-- ITS FALSE NEIGHBOUR: 'it returns false'. Refute it at one input. -/
def dhcpKnownWrong : ChangeSpec := { name := "dhcpKnown", fn := fun _ => fun
  | [] => { results := [.lit (.bool false)], args := [] }
  | _ => none }
def DhcpKnownWrongFalsely : Prop := dhcpKnownRow.holds Try.pinned (OpenSpec.ofChange dhcpKnownWrong)

/-- 'gatehouselaw13.DhcpReads': WHATEVER THE INPUT: true; the input reads as it did. -/
def dhcpReadsSpec : ChangeSpec := { name := "dhcpReads", fn := fun _ => fun
  | [d] => { results := [.lit (.bool true)], args := [d] }
  | _ => none }
def dhcpReadsRow : OpenClaim := { program := "ytmljgpefbbifmaa", sum := "6b4e8ece4dcfe972690be9c5a3502d9c4149e3300677d4e5f84fdb7c52990b96", func := "gatehouse/gatehouselaw13.DhcpReads", spec := "dhcpReads", apart := false }
def DhcpReadsSaid : Prop := dhcpReadsRow.holds Try.pinned (OpenSpec.ofChange dhcpReadsSpec)

/-- ITS FALSE NEIGHBOUR: 'it returns false'. Refute it at one input. -/
def dhcpReadsWrong : ChangeSpec := { name := "dhcpReads", fn := fun _ => fun
  | [d] => { results := [.lit (.bool false)], args := [d] }
  | _ => none }
def DhcpReadsWrongFalsely : Prop := dhcpReadsRow.holds Try.pinned (OpenSpec.ofChange dhcpReadsWrong)

/-- 'gatehouselaw13.DhcpWrites': WHATEVER THE INPUT: true; the input reads as it did. -/
def dhcpWritesSpec : ChangeSpec := { name := "dhcpWrites", fn := fun _ => fun
  | [d] => { results := [.lit (.bool true)], args := [d] }
  | _ => none }
def dhcpWritesRow : OpenClaim := { program := "ytmljgpefbbifmaa", sum := "6b4e8ece4dcfe972690be9c5a3502d9c4149e3300677d4e5f84fdb7c52990b96", func := "gatehouse/gatehouselaw13.DhcpWrites", spec := "dhcpWrites", apart := false }
def DhcpWritesSaid : Prop := dhcpWritesRow.holds Try.pinned (OpenSpec.ofChange dhcpWritesSpec)

/-- ITS FALSE NEIGHBOUR: 'it returns false'. Refute it at one input. -/
def dhcpWritesWrong : ChangeSpec := { name := "dhcpWrites", fn := fun _ => fun
  | [d] => { results := [.lit (.bool false)], args := [d] }
  | _ => none }
def DhcpWritesWrongFalsely : Prop := dhcpWritesRow.holds Try.pinned (OpenSpec.ofChange dhcpWritesWrong)

/-- 'gatehouselaw13.DhcpTypes': WHATEVER THE INPUT: true; the input reads as it did. -/
def dhcpTypesSpec : ChangeSpec := { name := "dhcpTypes", fn := fun _ => fun
  | [d] => { results := [.lit (.bool true)], args := [d] }
  | _ => none }
def dhcpTypesRow : OpenClaim := { program := "ytmljgpefbbifmaa", sum := "6b4e8ece4dcfe972690be9c5a3502d9c4149e3300677d4e5f84fdb7c52990b96", func := "gatehouse/gatehouselaw13.DhcpTypes", spec := "dhcpTypes", apart := false }
def DhcpTypesSaid : Prop := dhcpTypesRow.holds Try.pinned (OpenSpec.ofChange dhcpTypesSpec)

/-- ITS FALSE NEIGHBOUR: 'it returns false'. Refute it at one input. -/
def dhcpTypesWrong : ChangeSpec := { name := "dhcpTypes", fn := fun _ => fun
  | [d] => { results := [.lit (.bool false)], args := [d] }
  | _ => none }
def DhcpTypesWrongFalsely : Prop := dhcpTypesRow.holds Try.pinned (OpenSpec.ofChange dhcpTypesWrong)

/- THE SECOND FORM. 'bulk': how many values and letters a reading holds, each counted each time it is reached (what is shared counts as often as it is met; a slice's spare places count too). A statement '..UptoSaid' is the law's where the arguments, and the package variables that the reading takes, are together of bulk at most 1048576: NARROWER than '..Said'. Prove '..Said' where nothing that the law and all that it calls make is longer than what came in: it says more and counts as full. Else prove '..UptoSaid'. A law counts once. -/
mutual
def uptoBulk {H : Type} : DataW H → Nat
  | .lit (.string bytes) => bytes.length + 1
  | .lit _ => 1
  | .nil => 1
  | .ptr d => uptoBulk d + 1
  | .slice elems spare => uptoBulkAll elems + uptoBulkAll spare + 1
  | .agg parts => uptoBulkAll parts + 1
  | .iface _ d => uptoBulk d + 1
  | .map entries => uptoBulkEntries entries + 1
  | .held _ => 1
def uptoBulkAll {H : Type} : List (DataW H) → Nat
  | [] => 0
  | d :: r => uptoBulk d + uptoBulkAll r
def uptoBulkEntries {H : Type} : List (Lit × DataW H) → Nat
  | [] => 0
  | x :: r => uptoBulkEntry x + uptoBulkEntries r
def uptoBulkEntry {H : Type} : Lit × DataW H → Nat
  | (.string bytes, d) => bytes.length + uptoBulk d + 1
  | (_, d) => uptoBulk d + 1
 end
def uptoSmall : (H : Type) → List (DataW H) → Bool := fun _ ds => decide (uptoBulkAll ds ≤ 1048576)
def OpenSpec.upto (s : _root_.Go.ChangeSpec) : _root_.Go.OpenSpec := { _root_.Go.OpenSpec.ofChange s with cond := some uptoSmall }

/-- 'gatehouselaw13.DhcpKnown', WHERE WHAT IT READS IS OF BULK AT MOST 1048576: true; the input reads as it did. -/
def dhcpKnownUptoRow : OpenClaim := { program := "ytmljgpefbbifmaa", sum := "6b4e8ece4dcfe972690be9c5a3502d9c4149e3300677d4e5f84fdb7c52990b96", func := "gatehouse/gatehouselaw13.DhcpKnown", spec := "dhcpKnown", apart := false, narrowed := true }
def DhcpKnownUptoSaid : Prop := dhcpKnownUptoRow.holds Try.pinned (OpenSpec.upto dhcpKnownSpec)

/-- 'gatehouselaw13.DhcpReads', WHERE WHAT IT READS IS OF BULK AT MOST 1048576: true; the input reads as it did. -/
def dhcpReadsUptoRow : OpenClaim := { program := "ytmljgpefbbifmaa", sum := "6b4e8ece4dcfe972690be9c5a3502d9c4149e3300677d4e5f84fdb7c52990b96", func := "gatehouse/gatehouselaw13.DhcpReads", spec := "dhcpReads", apart := false, narrowed := true }
def DhcpReadsUptoSaid : Prop := dhcpReadsUptoRow.holds Try.pinned (OpenSpec.upto dhcpReadsSpec)

/-- 'gatehouselaw13.DhcpWrites', WHERE WHAT IT READS IS OF BULK AT MOST 1048576: true; the input reads as it did. -/
def dhcpWritesUptoRow : OpenClaim := { program := "ytmljgpefbbifmaa", sum := "6b4e8ece4dcfe972690be9c5a3502d9c4149e3300677d4e5f84fdb7c52990b96", func := "gatehouse/gatehouselaw13.DhcpWrites", spec := "dhcpWrites", apart := false, narrowed := true }
def DhcpWritesUptoSaid : Prop := dhcpWritesUptoRow.holds Try.pinned (OpenSpec.upto dhcpWritesSpec)

/-- 'gatehouselaw13.DhcpTypes', WHERE WHAT IT READS IS OF BULK AT MOST 1048576: true; the input reads as it did. -/
def dhcpTypesUptoRow : OpenClaim := { program := "ytmljgpefbbifmaa", sum := "6b4e8ece4dcfe972690be9c5a3502d9c4149e3300677d4e5f84fdb7c52990b96", func := "gatehouse/gatehouselaw13.DhcpTypes", spec := "dhcpTypes", apart := false, narrowed := true }
def DhcpTypesUptoSaid : Prop := dhcpTypesUptoRow.holds Try.pinned (OpenSpec.upto dhcpTypesSpec)

end Rows
end Go.Proofs.Ytmljgpefbbifmaa
