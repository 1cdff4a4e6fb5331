/-
  No cell of these rows narrows 'for every input' (looked for: loops, veiled, ifaces, maps, wideKeys, modest, calm, conditions, laid).
  DERIVED. THE GIVEN ROWS OF THIS SEAT. 7 by the template 'for every input the law returns true; each argument reads behind the call as it read before'; 0 by the template 'total and deterministic' (their statements: YtbdaejodbcjmfaaGreatTotals.lean).
  GIVEN WITH THE SEED: the statements are not yours to turn. If you find one false, say at which input.
  Laid BY PROGRAM, IN A SANDBOX (cutbox-rows.mjs): the forced cells as the released guide's own fill.sh prints them over the translation cfa083a98d4fbd96… (all of the seat's roots in one cut). By AI agents, Wed Nov 11 2026. No macro, syntax, notation, axiom, sorry.
-/
import Derived.Test.YtbdaejodbcjmfaaGreatChecked
import GoSem.Claim
import GoSem.ClaimJoined
import GoSem.ClaimMapViews
import Derived.JoinedTies
import Derived.KernelRfl
namespace Go.Proofs.YtbdaejodbcjmfaaGreat
/- THE CELL 'sum', in the pinned program and in every row, IS THE sha256 OF THE DUMP (.gsa) THAT YtbdaejodbcjmfaaGreatProg.lean LOADS. Nothing in Lean hashes anything: it is a label: what it is worth is what the hold of that sum in a sandbox is worth. -/
noncomputable def Tryz.pinned : Pinned := { name := "ytbdaejodbcjmfaagreat", sum := "cfa083a98d4fbd96fb9b29108a5680bae8e05c21a1692f1d92cedb1a4c184cea", checked := Tryz.checked }
namespace Rows
def none {H : Type} : Left H := { results := [], args := [] }

/-- 'gatehouselaw19.NatKnown': WHATEVER THE INPUT: true; the input reads as it did. -/
def natKnownSpec : ChangeSpec := { name := "natKnown", fn := fun _ => fun
  | [] => { results := [.lit (.bool true)], args := [] }
  | _ => none }
def natKnownRow : OpenClaim := { program := "ytbdaejodbcjmfaagreat", sum := "cfa083a98d4fbd96fb9b29108a5680bae8e05c21a1692f1d92cedb1a4c184cea", func := "gatehouse/gatehouselaw19.NatKnown", spec := "natKnown", inPlace := ["slices.overlaps[gatehouse/ports.Map]"], unfollowed := true, recurses := true, plainKeys := false, apart := false }
def NatKnownSaid : Prop := natKnownRow.holds Tryz.pinned (OpenSpec.ofChange natKnownSpec)

/-- ITS FALSE NEIGHBOUR: 'it returns false'. Refute it at one input. -/
def natKnownWrong : ChangeSpec := { name := "natKnown", fn := fun _ => fun
  | [] => { results := [.lit (.bool false)], args := [] }
  | _ => none }
def NatKnownWrongFalsely : Prop := natKnownRow.holds Tryz.pinned (OpenSpec.ofChange natKnownWrong)

/-- 'gatehouselaw19.NatBack': WHATEVER THE INPUT: true; the input reads as it did. -/
def natBackSpec : ChangeSpec := { name := "natBack", fn := fun _ => fun
  | [d1, d2, d3, d4, d5] => { results := [.lit (.bool true)], args := [d1, d2, d3, d4, d5] }
  | _ => none }
def natBackRow : OpenClaim := { program := "ytbdaejodbcjmfaagreat", sum := "cfa083a98d4fbd96fb9b29108a5680bae8e05c21a1692f1d92cedb1a4c184cea", func := "gatehouse/gatehouselaw19.NatBack", spec := "natBack", inPlace := ["slices.overlaps[gatehouse/ports.Map]"], unfollowed := true, recurses := true, plainKeys := false, apart := false }
def NatBackSaid : Prop := natBackRow.holds Tryz.pinned (OpenSpec.ofChange natBackSpec)

/-- ITS FALSE NEIGHBOUR: 'it returns false'. Refute it at one input. -/
def natBackWrong : ChangeSpec := { name := "natBack", fn := fun _ => fun
  | [d1, d2, d3, d4, d5] => { results := [.lit (.bool false)], args := [d1, d2, d3, d4, d5] }
  | _ => none }
def NatBackWrongFalsely : Prop := natBackRow.holds Tryz.pinned (OpenSpec.ofChange natBackWrong)

/-- 'gatehouselaw19.NatShut': WHATEVER THE INPUT: true; the input reads as it did. -/
def natShutSpec : ChangeSpec := { name := "natShut", fn := fun _ => fun
  | [d1, d2] => { results := [.lit (.bool true)], args := [d1, d2] }
  | _ => none }
def natShutRow : OpenClaim := { program := "ytbdaejodbcjmfaagreat", sum := "cfa083a98d4fbd96fb9b29108a5680bae8e05c21a1692f1d92cedb1a4c184cea", func := "gatehouse/gatehouselaw19.NatShut", spec := "natShut", inPlace := ["slices.overlaps[gatehouse/ports.Map]"], unfollowed := true, recurses := true, plainKeys := false, apart := false }
def NatShutSaid : Prop := natShutRow.holds Tryz.pinned (OpenSpec.ofChange natShutSpec)

/-- ITS FALSE NEIGHBOUR: 'it returns false'. Refute it at one input. -/
def natShutWrong : ChangeSpec := { name := "natShut", fn := fun _ => fun
  | [d1, d2] => { results := [.lit (.bool false)], args := [d1, d2] }
  | _ => none }
def NatShutWrongFalsely : Prop := natShutRow.holds Tryz.pinned (OpenSpec.ofChange natShutWrong)

/-- 'gatehouselaw19.NatEnds': WHATEVER THE INPUT: true; the input reads as it did. -/
def natEndsSpec : ChangeSpec := { name := "natEnds", fn := fun _ => fun
  | [d1, d2, d3, d4] => { results := [.lit (.bool true)], args := [d1, d2, d3, d4] }
  | _ => none }
def natEndsRow : OpenClaim := { program := "ytbdaejodbcjmfaagreat", sum := "cfa083a98d4fbd96fb9b29108a5680bae8e05c21a1692f1d92cedb1a4c184cea", func := "gatehouse/gatehouselaw19.NatEnds", spec := "natEnds", inPlace := ["slices.overlaps[gatehouse/ports.Map]"], unfollowed := true, recurses := true, plainKeys := false, apart := false }
def NatEndsSaid : Prop := natEndsRow.holds Tryz.pinned (OpenSpec.ofChange natEndsSpec)

/-- ITS FALSE NEIGHBOUR: 'it returns false'. Refute it at one input. -/
def natEndsWrong : ChangeSpec := { name := "natEnds", fn := fun _ => fun
  | [d1, d2, d3, d4] => { results := [.lit (.bool false)], args := [d1, d2, d3, d4] }
  | _ => none }
def NatEndsWrongFalsely : Prop := natEndsRow.holds Tryz.pinned (OpenSpec.ofChange natEndsWrong)

/-- 'gatehouselaw19.NatStatics': WHATEVER THE INPUT: true; the input reads as it did. -/
def natStaticsSpec : ChangeSpec := { name := "natStatics", fn := fun _ => fun
  | [d1, d2, d3, d4, d5] => { results := [.lit (.bool true)], args := [d1, d2, d3, d4, d5] }
  | _ => none }
def natStaticsRow : OpenClaim := { program := "ytbdaejodbcjmfaagreat", sum := "cfa083a98d4fbd96fb9b29108a5680bae8e05c21a1692f1d92cedb1a4c184cea", func := "gatehouse/gatehouselaw19.NatStatics", spec := "natStatics", inPlace := ["slices.overlaps[gatehouse/ports.Map]"], unfollowed := true, recurses := true, plainKeys := false, apart := false }
def NatStaticsSaid : Prop := natStaticsRow.holds Tryz.pinned (OpenSpec.ofChange natStaticsSpec)

/-- ITS FALSE NEIGHBOUR: 'it returns false'. Refute it at one input. -/
def natStaticsWrong : ChangeSpec := { name := "natStatics", fn := fun _ => fun
  | [d1, d2, d3, d4, d5] => { results := [.lit (.bool false)], args := [d1, d2, d3, d4, d5] }
  | _ => none }
def NatStaticsWrongFalsely : Prop := natStaticsRow.holds Tryz.pinned (OpenSpec.ofChange natStaticsWrong)

/-- 'gatehouselaw19.NatLives': WHATEVER THE INPUT: true; the input reads as it did. -/
def natLivesSpec : ChangeSpec := { name := "natLives", fn := fun _ => fun
  | [d1, d2] => { results := [.lit (.bool true)], args := [d1, d2] }
  | _ => none }
def natLivesRow : OpenClaim := { program := "ytbdaejodbcjmfaagreat", sum := "cfa083a98d4fbd96fb9b29108a5680bae8e05c21a1692f1d92cedb1a4c184cea", func := "gatehouse/gatehouselaw19.NatLives", spec := "natLives", inPlace := ["slices.overlaps[gatehouse/ports.Map]"], unfollowed := true, recurses := true, plainKeys := false, apart := false }
def NatLivesSaid : Prop := natLivesRow.holds Tryz.pinned (OpenSpec.ofChange natLivesSpec)

/-- ITS FALSE NEIGHBOUR: 'it returns false'. Refute it at one input. -/
def natLivesWrong : ChangeSpec := { name := "natLives", fn := fun _ => fun
  | [d1, d2] => { results := [.lit (.bool false)], args := [d1, d2] }
  | _ => none }
def NatLivesWrongFalsely : Prop := natLivesRow.holds Tryz.pinned (OpenSpec.ofChange natLivesWrong)

/-- 'gatehouselaw19.NatPasses': WHATEVER THE INPUT: true; the input reads as it did. -/
def natPassesSpec : ChangeSpec := { name := "natPasses", fn := fun _ => fun
  | [d1, d2] => { results := [.lit (.bool true)], args := [d1, d2] }
  | _ => none }
def natPassesRow : OpenClaim := { program := "ytbdaejodbcjmfaagreat", sum := "cfa083a98d4fbd96fb9b29108a5680bae8e05c21a1692f1d92cedb1a4c184cea", func := "gatehouse/gatehouselaw19.NatPasses", spec := "natPasses", inPlace := ["slices.overlaps[gatehouse/ports.Map]"], unfollowed := true, recurses := true, plainKeys := false, apart := false }
def NatPassesSaid : Prop := natPassesRow.holds Tryz.pinned (OpenSpec.ofChange natPassesSpec)

/-- ITS FALSE NEIGHBOUR: 'it returns false'. Refute it at one input. -/
def natPassesWrong : ChangeSpec := { name := "natPasses", fn := fun _ => fun
  | [d1, d2] => { results := [.lit (.bool false)], args := [d1, d2] }
  | _ => none }
def NatPassesWrongFalsely : Prop := natPassesRow.holds Tryz.pinned (OpenSpec.ofChange natPassesWrong)

/- THE SECOND FORM. 'bulk': how many values and letters a reading holds, each counted each time it is reached (what is shared counts as often as it is met; a slice's spare places count too). A statement '..UptoSaid' is the law's where the arguments, and the package variables that the reading takes, are together of bulk at most 1048576: NARROWER than '..Said'. Prove '..Said' where nothing that the law and all that it calls make is longer than what came in: it says more and counts as full. Else prove '..UptoSaid'. A law counts once. -/
mutual
def uptoBulk {H : Type} : DataW H → Nat
  | .lit (.string bytes) => bytes.length + 1
  | .lit _ => 1
  | .nil => 1
  | .ptr d => uptoBulk d + 1
  | .slice elems spare => uptoBulkAll elems + uptoBulkAll spare + 1
  | .agg parts => uptoBulkAll parts + 1
  | .iface _ d => uptoBulk d + 1
  | .map entries => uptoBulkEntries entries + 1
  | .held _ => 1
def uptoBulkAll {H : Type} : List (DataW H) → Nat
  | [] => 0
  | d :: r => uptoBulk d + uptoBulkAll r
def uptoBulkEntries {H : Type} : List (Lit × DataW H) → Nat
  | [] => 0
  | x :: r => uptoBulkEntry x + uptoBulkEntries r
def uptoBulkEntry {H : Type} : Lit × DataW H → Nat
  | (.string bytes, d) => bytes.length + uptoBulk d + 1
  | (_, d) => uptoBulk d + 1
 end
def uptoSmall : (H : Type) → List (DataW H) → Bool := fun _ ds => decide (uptoBulkAll ds ≤ 1048576)
def OpenSpec.upto (s : _root_.Go.ChangeSpec) : _root_.Go.OpenSpec := { _root_.Go.OpenSpec.ofChange s with cond := some uptoSmall }

/-- 'gatehouselaw19.NatKnown', WHERE WHAT IT READS IS OF BULK AT MOST 1048576: true; the input reads as it did. -/
def natKnownUptoRow : OpenClaim := { program := "ytbdaejodbcjmfaagreat", sum := "cfa083a98d4fbd96fb9b29108a5680bae8e05c21a1692f1d92cedb1a4c184cea", func := "gatehouse/gatehouselaw19.NatKnown", spec := "natKnown", inPlace := ["slices.overlaps[gatehouse/ports.Map]"], unfollowed := true, recurses := true, plainKeys := false, apart := false, narrowed := true }
def NatKnownUptoSaid : Prop := natKnownUptoRow.holds Tryz.pinned (OpenSpec.upto natKnownSpec)

/-- 'gatehouselaw19.NatBack', WHERE WHAT IT READS IS OF BULK AT MOST 1048576: true; the input reads as it did. -/
def natBackUptoRow : OpenClaim := { program := "ytbdaejodbcjmfaagreat", sum := "cfa083a98d4fbd96fb9b29108a5680bae8e05c21a1692f1d92cedb1a4c184cea", func := "gatehouse/gatehouselaw19.NatBack", spec := "natBack", inPlace := ["slices.overlaps[gatehouse/ports.Map]"], unfollowed := true, recurses := true, plainKeys := false, apart := false, narrowed := true }
def NatBackUptoSaid : Prop := natBackUptoRow.holds Tryz.pinned (OpenSpec.upto natBackSpec)

/-- 'gatehouselaw19.NatShut', WHERE WHAT IT READS IS OF BULK AT MOST 1048576: true; the input reads as it did. -/
def natShutUptoRow : OpenClaim := { program := "ytbdaejodbcjmfaagreat", sum := "cfa083a98d4fbd96fb9b29108a5680bae8e05c21a1692f1d92cedb1a4c184cea", func := "gatehouse/gatehouselaw19.NatShut", spec := "natShut", inPlace := ["slices.overlaps[gatehouse/ports.Map]"], unfollowed := true, recurses := true, plainKeys := false, apart := false, narrowed := true }
def NatShutUptoSaid : Prop := natShutUptoRow.holds Tryz.pinned (OpenSpec.upto natShutSpec)

/-- 'gatehouselaw19.NatEnds', WHERE WHAT IT READS IS OF BULK AT MOST 1048576: true; the input reads as it did. -/
def natEndsUptoRow : OpenClaim := { program := "ytbdaejodbcjmfaagreat", sum := "cfa083a98d4fbd96fb9b29108a5680bae8e05c21a1692f1d92cedb1a4c184cea", func := "gatehouse/gatehouselaw19.NatEnds", spec := "natEnds", inPlace := ["slices.overlaps[gatehouse/ports.Map]"], unfollowed := true, recurses := true, plainKeys := false, apart := false, narrowed := true }
def NatEndsUptoSaid : Prop := natEndsUptoRow.holds Tryz.pinned (OpenSpec.upto natEndsSpec)

/-- 'gatehouselaw19.NatStatics', WHERE WHAT IT READS IS OF BULK AT MOST 1048576: true; the input reads as it did. -/
def natStaticsUptoRow : OpenClaim := { program := "ytbdaejodbcjmfaagreat", sum := "cfa083a98d4fbd96fb9b29108a5680bae8e05c21a1692f1d92cedb1a4c184cea", func := "gatehouse/gatehouselaw19.NatStatics", spec := "natStatics", inPlace := ["slices.overlaps[gatehouse/ports.Map]"], unfollowed := true, recurses := true, plainKeys := false, apart := false, narrowed := true }
def NatStaticsUptoSaid : Prop := natStaticsUptoRow.holds Tryz.pinned (OpenSpec.upto natStaticsSpec)

/-- 'gatehouselaw19.NatLives', WHERE WHAT IT READS IS OF BULK AT MOST 1048576: true; the input reads as it did. -/
def natLivesUptoRow : OpenClaim := { program := "ytbdaejodbcjmfaagreat", sum := "cfa083a98d4fbd96fb9b29108a5680bae8e05c21a1692f1d92cedb1a4c184cea", func := "gatehouse/gatehouselaw19.NatLives", spec := "natLives", inPlace := ["slices.overlaps[gatehouse/ports.Map]"], unfollowed := true, recurses := true, plainKeys := false, apart := false, narrowed := true }
def NatLivesUptoSaid : Prop := natLivesUptoRow.holds Tryz.pinned (OpenSpec.upto natLivesSpec)

/-- 'gatehouselaw19.NatPasses', WHERE WHAT IT READS IS OF BULK AT MOST 1048576: true; the input reads as it did. -/
def natPassesUptoRow : OpenClaim := { program := "ytbdaejodbcjmfaagreat", sum := "cfa083a98d4fbd96fb9b29108a5680bae8e05c21a1692f1d92cedb1a4c184cea", func := "gatehouse/gatehouselaw19.NatPasses", spec := "natPasses", inPlace := ["slices.overlaps[gatehouse/ports.Map]"], unfollowed := true, recurses := true, plainKeys := false, apart := false, narrowed := true }
def NatPassesUptoSaid : Prop := natPassesUptoRow.holds Tryz.pinned (OpenSpec.upto natPassesSpec)

end Rows
end Go.Proofs.YtbdaejodbcjmfaaGreat
