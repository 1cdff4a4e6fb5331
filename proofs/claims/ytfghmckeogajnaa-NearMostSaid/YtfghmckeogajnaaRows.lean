/-
  No cell of these rows narrows 'for every input' (looked for: loops, veiled, ifaces, maps, wideKeys, modest, calm, conditions, laid).
  DERIVED. THE GIVEN ROWS OF THIS SEAT. 5 by the template 'for every input the law returns true; each argument reads behind the call as it read before'; 0 by the template 'total and deterministic' (their statements: YtfghmckeogajnaaTotals.lean).
  GIVEN WITH THE SEED: the statements are not yours to turn. If you find one false, say at which input.
  Laid BY PROGRAM, IN A SANDBOX (cutbox-rows.mjs): the forced cells as the released guide's own fill.sh prints them over the translation 828abdc1f4bf4d07… (all of the seat's roots in one cut). By AI agents, Wed Nov 11 2026. No macro, syntax, notation, axiom, sorry.
-/
import Derived.Test.YtfghmckeogajnaaChecked
import GoSem.Claim
import GoSem.ClaimJoined
import GoSem.ClaimMapViews
import Derived.JoinedTies
import Derived.KernelRfl
namespace Go.Proofs.Ytfghmckeogajnaa
/- THE CELL 'sum', in the pinned program and in every row, IS THE sha256 OF THE DUMP (.gsa) THAT YtfghmckeogajnaaProg.lean LOADS. Nothing in Lean hashes anything: it is a label: what it is worth is what the hold of that sum in a sandbox is worth. -/
noncomputable def Try.pinned : Pinned := { name := "ytfghmckeogajnaa", sum := "828abdc1f4bf4d07577bba32647b1fd34f5bbc1cb2866d120e63e907f95829cd", checked := Try.checked }
namespace Rows
def none {H : Type} : Left H := { results := [], args := [] }

/-- 'gatehouselaw11.NearKnown': WHATEVER THE INPUT: true; the input reads as it did. -/
def nearKnownSpec : ChangeSpec := { name := "nearKnown", fn := fun _ => fun
  | [] => { results := [.lit (.bool true)], args := [] }
  | _ => none }
def nearKnownRow : OpenClaim := { program := "ytfghmckeogajnaa", sum := "828abdc1f4bf4d07577bba32647b1fd34f5bbc1cb2866d120e63e907f95829cd", func := "gatehouse/gatehouselaw11.NearKnown", spec := "nearKnown", inPlace := ["slices.overlaps[gatehouse/near.entry]"], unfollowed := true, recurses := true, apart := false }
def NearKnownSaid : Prop := nearKnownRow.holds Try.pinned (OpenSpec.ofChange nearKnownSpec)

/-- ITS FALSE NEIGHBOUR: 'it returns false'. Refute it at one input. -/
def nearKnownWrong : ChangeSpec := { name := "nearKnown", fn := fun _ => fun
  | [] => { results := [.lit (.bool false)], args := [] }
  | _ => none }
def NearKnownWrongFalsely : Prop := nearKnownRow.holds Try.pinned (OpenSpec.ofChange nearKnownWrong)

/-- 'gatehouselaw11.NearWaits': WHATEVER THE INPUT: true; the input reads as it did. -/
def nearWaitsSpec : ChangeSpec := { name := "nearWaits", fn := fun _ => fun
  | [d1, d2] => { results := [.lit (.bool true)], args := [d1, d2] }
  | _ => none }
def nearWaitsRow : OpenClaim := { program := "ytfghmckeogajnaa", sum := "828abdc1f4bf4d07577bba32647b1fd34f5bbc1cb2866d120e63e907f95829cd", func := "gatehouse/gatehouselaw11.NearWaits", spec := "nearWaits", inPlace := ["slices.overlaps[gatehouse/near.entry]"], unfollowed := true, recurses := true, apart := false }
def NearWaitsSaid : Prop := nearWaitsRow.holds Try.pinned (OpenSpec.ofChange nearWaitsSpec)

/-- ITS FALSE NEIGHBOUR: 'it returns false'. Refute it at one input. -/
def nearWaitsWrong : ChangeSpec := { name := "nearWaits", fn := fun _ => fun
  | [d1, d2] => { results := [.lit (.bool false)], args := [d1, d2] }
  | _ => none }
def NearWaitsWrongFalsely : Prop := nearWaitsRow.holds Try.pinned (OpenSpec.ofChange nearWaitsWrong)

/-- 'gatehouselaw11.NearMost': WHATEVER THE INPUT: true; the input reads as it did. -/
def nearMostSpec : ChangeSpec := { name := "nearMost", fn := fun _ => fun
  | [d1, d2] => { results := [.lit (.bool true)], args := [d1, d2] }
  | _ => none }
def nearMostRow : OpenClaim := { program := "ytfghmckeogajnaa", sum := "828abdc1f4bf4d07577bba32647b1fd34f5bbc1cb2866d120e63e907f95829cd", func := "gatehouse/gatehouselaw11.NearMost", spec := "nearMost", inPlace := ["slices.overlaps[gatehouse/near.entry]"], unfollowed := true, recurses := true, apart := false }
def NearMostSaid : Prop := nearMostRow.holds Try.pinned (OpenSpec.ofChange nearMostSpec)

/-- ITS FALSE NEIGHBOUR: 'it returns false'. Refute it at one input. -/
def nearMostWrong : ChangeSpec := { name := "nearMost", fn := fun _ => fun
  | [d1, d2] => { results := [.lit (.bool false)], args := [d1, d2] }
  | _ => none }
def NearMostWrongFalsely : Prop := nearMostRow.holds Try.pinned (OpenSpec.ofChange nearMostWrong)

/-- 'gatehouselaw11.NearAges': WHATEVER THE INPUT: true; the input reads as it did. -/
def nearAgesSpec : ChangeSpec := { name := "nearAges", fn := fun _ => fun
  | [d1, d2, d3, d4] => { results := [.lit (.bool true)], args := [d1, d2, d3, d4] }
  | _ => none }
def nearAgesRow : OpenClaim := { program := "ytfghmckeogajnaa", sum := "828abdc1f4bf4d07577bba32647b1fd34f5bbc1cb2866d120e63e907f95829cd", func := "gatehouse/gatehouselaw11.NearAges", spec := "nearAges", inPlace := ["slices.overlaps[gatehouse/near.entry]"], unfollowed := true, recurses := true, apart := false }
def NearAgesSaid : Prop := nearAgesRow.holds Try.pinned (OpenSpec.ofChange nearAgesSpec)

/-- ITS FALSE NEIGHBOUR: 'it returns false'. Refute it at one input. -/
def nearAgesWrong : ChangeSpec := { name := "nearAges", fn := fun _ => fun
  | [d1, d2, d3, d4] => { results := [.lit (.bool false)], args := [d1, d2, d3, d4] }
  | _ => none }
def NearAgesWrongFalsely : Prop := nearAgesRow.holds Try.pinned (OpenSpec.ofChange nearAgesWrong)

/-- 'gatehouselaw11.NearAsks': WHATEVER THE INPUT: true; the input reads as it did. -/
def nearAsksSpec : ChangeSpec := { name := "nearAsks", fn := fun _ => fun
  | [d] => { results := [.lit (.bool true)], args := [d] }
  | _ => none }
def nearAsksRow : OpenClaim := { program := "ytfghmckeogajnaa", sum := "828abdc1f4bf4d07577bba32647b1fd34f5bbc1cb2866d120e63e907f95829cd", func := "gatehouse/gatehouselaw11.NearAsks", spec := "nearAsks", inPlace := ["slices.overlaps[gatehouse/near.entry]"], unfollowed := true, recurses := true, apart := false }
def NearAsksSaid : Prop := nearAsksRow.holds Try.pinned (OpenSpec.ofChange nearAsksSpec)

/-- ITS FALSE NEIGHBOUR: 'it returns false'. Refute it at one input. -/
def nearAsksWrong : ChangeSpec := { name := "nearAsks", fn := fun _ => fun
  | [d] => { results := [.lit (.bool false)], args := [d] }
  | _ => none }
def NearAsksWrongFalsely : Prop := nearAsksRow.holds Try.pinned (OpenSpec.ofChange nearAsksWrong)

/- THE SECOND FORM. 'bulk': how many values and letters a reading holds, each counted each time it is reached (what is shared counts as often as it is met; a slice's spare places count too). A statement '..UptoSaid' is the law's where the arguments, and the package variables that the reading takes, are together of bulk at most 1048576: NARROWER than '..Said'. Prove '..Said' where nothing that the law and all that it calls make is longer than what came in: it says more and counts as full. Else prove '..UptoSaid'. A law counts once. -/
mutual
def uptoBulk {H : Type} : DataW H → Nat
  | .lit (.string bytes) => bytes.length + 1
  | .lit _ => 1
  | .nil => 1
  | .ptr d => uptoBulk d + 1
  | .slice elems spare => uptoBulkAll elems + uptoBulkAll spare + 1
  | .agg parts => uptoBulkAll parts + 1
  | .iface _ d => uptoBulk d + 1
  | .map entries => uptoBulkEntries entries + 1
  | .held _ => 1
def uptoBulkAll {H : Type} : List (DataW H) → Nat
  | [] => 0
  | d :: r => uptoBulk d + uptoBulkAll r
def uptoBulkEntries {H : Type} : List (Lit × DataW H) → Nat
  | [] => 0
  | x :: r => uptoBulkEntry x + uptoBulkEntries r
def uptoBulkEntry {H : Type} : Lit × DataW H → Nat
  | (.string bytes, d) => bytes.length + uptoBulk d + 1
  | (_, d) => uptoBulk d + 1
 end
def uptoSmall : (H : Type) → List (DataW H) → Bool := fun _ ds => decide (uptoBulkAll ds ≤ 1048576)
def OpenSpec.upto (s : _root_.Go.ChangeSpec) : _root_.Go.OpenSpec := { _root_.Go.OpenSpec.ofChange s with cond := some uptoSmall }

/-- 'gatehouselaw11.NearKnown', WHERE WHAT IT READS IS OF BULK AT MOST 1048576: true; the input reads as it did. -/
def nearKnownUptoRow : OpenClaim := { program := "ytfghmckeogajnaa", sum := "828abdc1f4bf4d07577bba32647b1fd34f5bbc1cb2866d120e63e907f95829cd", func := "gatehouse/gatehouselaw11.NearKnown", spec := "nearKnown", inPlace := ["slices.overlaps[gatehouse/near.entry]"], unfollowed := true, recurses := true, apart := false, narrowed := true }
def NearKnownUptoSaid : Prop := nearKnownUptoRow.holds Try.pinned (OpenSpec.upto nearKnownSpec)

/-- 'gatehouselaw11.NearWaits', WHERE WHAT IT READS IS OF BULK AT MOST 1048576: true; the input reads as it did. -/
def nearWaitsUptoRow : OpenClaim := { program := "ytfghmckeogajnaa", sum := "828abdc1f4bf4d07577bba32647b1fd34f5bbc1cb2866d120e63e907f95829cd", func := "gatehouse/gatehouselaw11.NearWaits", spec := "nearWaits", inPlace := ["slices.overlaps[gatehouse/near.entry]"], unfollowed := true, recurses := true, apart := false, narrowed := true }
def NearWaitsUptoSaid : Prop := nearWaitsUptoRow.holds Try.pinned (OpenSpec.upto nearWaitsSpec)

/-- 'gatehouselaw11.NearMost', WHERE WHAT IT READS IS OF BULK AT MOST 1048576: true; the input reads as it did. -/
def nearMostUptoRow : OpenClaim := { program := "ytfghmckeogajnaa", sum := "828abdc1f4bf4d07577bba32647b1fd34f5bbc1cb2866d120e63e907f95829cd", func := "gatehouse/gatehouselaw11.NearMost", spec := "nearMost", inPlace := ["slices.overlaps[gatehouse/near.entry]"], unfollowed := true, recurses := true, apart := false, narrowed := true }
def NearMostUptoSaid : Prop := nearMostUptoRow.holds Try.pinned (OpenSpec.upto nearMostSpec)

/-- 'gatehouselaw11.NearAges', WHERE WHAT IT READS IS OF BULK AT MOST 1048576: true; the input reads as it did. -/
def nearAgesUptoRow : OpenClaim := { program := "ytfghmckeogajnaa", sum := "828abdc1f4bf4d07577bba32647b1fd34f5bbc1cb2866d120e63e907f95829cd", func := "gatehouse/gatehouselaw11.NearAges", spec := "nearAges", inPlace := ["slices.overlaps[gatehouse/near.entry]"], unfollowed := true, recurses := true, apart := false, narrowed := true }
def NearAgesUptoSaid : Prop := nearAgesUptoRow.holds Try.pinned (OpenSpec.upto nearAgesSpec)

/-- 'gatehouselaw11.NearAsks', WHERE WHAT IT READS IS OF BULK AT MOST 1048576: true; the input reads as it did. -/
def nearAsksUptoRow : OpenClaim := { program := "ytfghmckeogajnaa", sum := "828abdc1f4bf4d07577bba32647b1fd34f5bbc1cb2866d120e63e907f95829cd", func := "gatehouse/gatehouselaw11.NearAsks", spec := "nearAsks", inPlace := ["slices.overlaps[gatehouse/near.entry]"], unfollowed := true, recurses := true, apart := false, narrowed := true }
def NearAsksUptoSaid : Prop := nearAsksUptoRow.holds Try.pinned (OpenSpec.upto nearAsksSpec)

end Rows
end Go.Proofs.Ytfghmckeogajnaa
