/-
  No cell of these rows narrows 'for every input' (looked for: loops, veiled, ifaces, maps, wideKeys, modest, calm, conditions, laid).
  DERIVED. THE GIVEN ROWS OF THIS SEAT. 6 by the template 'for every input the law returns true; each argument reads behind the call as it read before'; 0 by the template 'total and deterministic' (their statements: YthcjepafcemmnaaTotals.lean).
  GIVEN WITH THE SEED: the statements are not yours to turn. If you find one false, say at which input.
  Laid BY PROGRAM, IN A SANDBOX (cutbox-rows.mjs): the forced cells as the released guide's own fill.sh prints them over the translation b95b4b3740be59ca… (all of the seat's roots in one cut). By AI agents, Wed Nov 11 2026. No macro, syntax, notation, axiom, sorry.
-/
import Derived.Test.YthcjepafcemmnaaChecked
import GoSem.Claim
import GoSem.ClaimJoined
import GoSem.ClaimMapViews
import Derived.JoinedTies
import Derived.KernelRfl
namespace Go.Proofs.Ythcjepafcemmnaa
/- THE CELL 'sum', in the pinned program and in every row, IS THE sha256 OF THE DUMP (.gsa) THAT YthcjepafcemmnaaProg.lean LOADS. Nothing in Lean hashes anything: it is a label: what it is worth is what the hold of that sum in a sandbox is worth. -/
noncomputable def Try.pinned : Pinned := { name := "ythcjepafcemmnaa", sum := "b95b4b3740be59ca900d79ac09f85c9022471833c1b7142f39f0c1789950c8a5", checked := Try.checked }
namespace Rows
def none {H : Type} : Left H := { results := [], args := [] }

/-- 'gatehouselaw14.PoolKnown': WHATEVER THE INPUT: true; the input reads as it did. -/
def poolKnownSpec : ChangeSpec := { name := "poolKnown", fn := fun _ => fun
  | [] => { results := [.lit (.bool true)], args := [] }
  | _ => none }
def poolKnownRow : OpenClaim := { program := "ythcjepafcemmnaa", sum := "b95b4b3740be59ca900d79ac09f85c9022471833c1b7142f39f0c1789950c8a5", func := "gatehouse/gatehouselaw14.PoolKnown", spec := "poolKnown", inPlace := ["slices.overlaps[gatehouse/pool.slot]"], unfollowed := true, recurses := true, plainKeys := false, apart := false }
def PoolKnownSaid : Prop := poolKnownRow.holds Try.pinned (OpenSpec.ofChange poolKnownSpec)

/-- ITS FALSE NEIGHBOUR: 'it returns false'. Refute it at one input. -/
def poolKnownWrong : ChangeSpec := { name := "poolKnown", fn := fun _ => fun
  | [] => { results := [.lit (.bool false)], args := [] }
  | _ => none }
def PoolKnownWrongFalsely : Prop := poolKnownRow.holds Try.pinned (OpenSpec.ofChange poolKnownWrong)

/-- 'gatehouselaw14.PoolApart': WHATEVER THE INPUT: true; the input reads as it did. -/
def poolApartSpec : ChangeSpec := { name := "poolApart", fn := fun _ => fun
  | [d] => { results := [.lit (.bool true)], args := [d] }
  | _ => none }
def poolApartRow : OpenClaim := { program := "ythcjepafcemmnaa", sum := "b95b4b3740be59ca900d79ac09f85c9022471833c1b7142f39f0c1789950c8a5", func := "gatehouse/gatehouselaw14.PoolApart", spec := "poolApart", inPlace := ["slices.overlaps[gatehouse/pool.slot]"], unfollowed := true, recurses := true, plainKeys := false, apart := false }
def PoolApartSaid : Prop := poolApartRow.holds Try.pinned (OpenSpec.ofChange poolApartSpec)

/-- ITS FALSE NEIGHBOUR: 'it returns false'. Refute it at one input. -/
def poolApartWrong : ChangeSpec := { name := "poolApart", fn := fun _ => fun
  | [d] => { results := [.lit (.bool false)], args := [d] }
  | _ => none }
def PoolApartWrongFalsely : Prop := poolApartRow.holds Try.pinned (OpenSpec.ofChange poolApartWrong)

/-- 'gatehouselaw14.PoolAll': WHATEVER THE INPUT: true; the input reads as it did. -/
def poolAllSpec : ChangeSpec := { name := "poolAll", fn := fun _ => fun
  | [d1, d2] => { results := [.lit (.bool true)], args := [d1, d2] }
  | _ => none }
def poolAllRow : OpenClaim := { program := "ythcjepafcemmnaa", sum := "b95b4b3740be59ca900d79ac09f85c9022471833c1b7142f39f0c1789950c8a5", func := "gatehouse/gatehouselaw14.PoolAll", spec := "poolAll", inPlace := ["slices.overlaps[gatehouse/pool.slot]"], unfollowed := true, recurses := true, plainKeys := false, apart := false }
def PoolAllSaid : Prop := poolAllRow.holds Try.pinned (OpenSpec.ofChange poolAllSpec)

/-- ITS FALSE NEIGHBOUR: 'it returns false'. Refute it at one input. -/
def poolAllWrong : ChangeSpec := { name := "poolAll", fn := fun _ => fun
  | [d1, d2] => { results := [.lit (.bool false)], args := [d1, d2] }
  | _ => none }
def PoolAllWrongFalsely : Prop := poolAllRow.holds Try.pinned (OpenSpec.ofChange poolAllWrong)

/-- 'gatehouselaw14.PoolKeeps': WHATEVER THE INPUT: true; the input reads as it did. -/
def poolKeepsSpec : ChangeSpec := { name := "poolKeeps", fn := fun _ => fun
  | [d1, d2, d3, d4] => { results := [.lit (.bool true)], args := [d1, d2, d3, d4] }
  | _ => none }
def poolKeepsRow : OpenClaim := { program := "ythcjepafcemmnaa", sum := "b95b4b3740be59ca900d79ac09f85c9022471833c1b7142f39f0c1789950c8a5", func := "gatehouse/gatehouselaw14.PoolKeeps", spec := "poolKeeps", inPlace := ["slices.overlaps[gatehouse/pool.slot]"], unfollowed := true, recurses := true, plainKeys := false, apart := false }
def PoolKeepsSaid : Prop := poolKeepsRow.holds Try.pinned (OpenSpec.ofChange poolKeepsSpec)

/-- ITS FALSE NEIGHBOUR: 'it returns false'. Refute it at one input. -/
def poolKeepsWrong : ChangeSpec := { name := "poolKeeps", fn := fun _ => fun
  | [d1, d2, d3, d4] => { results := [.lit (.bool false)], args := [d1, d2, d3, d4] }
  | _ => none }
def PoolKeepsWrongFalsely : Prop := poolKeepsRow.holds Try.pinned (OpenSpec.ofChange poolKeepsWrong)

/-- 'gatehouselaw14.PoolBars': WHATEVER THE INPUT: true; the input reads as it did. -/
def poolBarsSpec : ChangeSpec := { name := "poolBars", fn := fun _ => fun
  | [d1, d2] => { results := [.lit (.bool true)], args := [d1, d2] }
  | _ => none }
def poolBarsRow : OpenClaim := { program := "ythcjepafcemmnaa", sum := "b95b4b3740be59ca900d79ac09f85c9022471833c1b7142f39f0c1789950c8a5", func := "gatehouse/gatehouselaw14.PoolBars", spec := "poolBars", inPlace := ["slices.overlaps[gatehouse/pool.slot]"], unfollowed := true, recurses := true, plainKeys := false, apart := false }
def PoolBarsSaid : Prop := poolBarsRow.holds Try.pinned (OpenSpec.ofChange poolBarsSpec)

/-- ITS FALSE NEIGHBOUR: 'it returns false'. Refute it at one input. -/
def poolBarsWrong : ChangeSpec := { name := "poolBars", fn := fun _ => fun
  | [d1, d2] => { results := [.lit (.bool false)], args := [d1, d2] }
  | _ => none }
def PoolBarsWrongFalsely : Prop := poolBarsRow.holds Try.pinned (OpenSpec.ofChange poolBarsWrong)

/-- 'gatehouselaw14.PoolTells': WHATEVER THE INPUT: true; the input reads as it did. -/
def poolTellsSpec : ChangeSpec := { name := "poolTells", fn := fun _ => fun
  | [d1, d2] => { results := [.lit (.bool true)], args := [d1, d2] }
  | _ => none }
def poolTellsRow : OpenClaim := { program := "ythcjepafcemmnaa", sum := "b95b4b3740be59ca900d79ac09f85c9022471833c1b7142f39f0c1789950c8a5", func := "gatehouse/gatehouselaw14.PoolTells", spec := "poolTells", inPlace := ["slices.overlaps[gatehouse/pool.slot]"], unfollowed := true, recurses := true, plainKeys := false, apart := false }
def PoolTellsSaid : Prop := poolTellsRow.holds Try.pinned (OpenSpec.ofChange poolTellsSpec)

/-- ITS FALSE NEIGHBOUR: 'it returns false'. Refute it at one input. -/
def poolTellsWrong : ChangeSpec := { name := "poolTells", fn := fun _ => fun
  | [d1, d2] => { results := [.lit (.bool false)], args := [d1, d2] }
  | _ => none }
def PoolTellsWrongFalsely : Prop := poolTellsRow.holds Try.pinned (OpenSpec.ofChange poolTellsWrong)

/- THE SECOND FORM. 'bulk': how many values and letters a reading holds, each counted each time it is reached (what is shared counts as often as it is met; a slice's spare places count too). A statement '..UptoSaid' is the law's where the arguments, and the package variables that the reading takes, are together of bulk at most 1048576: NARROWER than '..Said'. Prove '..Said' where nothing that the law and all that it calls make is longer than what came in: it says more and counts as full. Else prove '..UptoSaid'. A law counts once. -/
mutual
def uptoBulk {H : Type} : DataW H → Nat
  | .lit (.string bytes) => bytes.length + 1
  | .lit _ => 1
  | .nil => 1
  | .ptr d => uptoBulk d + 1
  | .slice elems spare => uptoBulkAll elems + uptoBulkAll spare + 1
  | .agg parts => uptoBulkAll parts + 1
  | .iface _ d => uptoBulk d + 1
  | .map entries => uptoBulkEntries entries + 1
  | .held _ => 1
def uptoBulkAll {H : Type} : List (DataW H) → Nat
  | [] => 0
  | d :: r => uptoBulk d + uptoBulkAll r
def uptoBulkEntries {H : Type} : List (Lit × DataW H) → Nat
  | [] => 0
  | x :: r => uptoBulkEntry x + uptoBulkEntries r
def uptoBulkEntry {H : Type} : Lit × DataW H → Nat
  | (.string bytes, d) => bytes.length + uptoBulk d + 1
  | (_, d) => uptoBulk d + 1
 end
def uptoSmall : (H : Type) → List (DataW H) → Bool := fun _ ds => decide (uptoBulkAll ds ≤ 1048576)
def OpenSpec.upto (s : _root_.Go.ChangeSpec) : _root_.Go.OpenSpec := { _root_.Go.OpenSpec.ofChange s with cond := some uptoSmall }

/-- 'gatehouselaw14.PoolKnown', WHERE WHAT IT READS IS OF BULK AT MOST 1048576: true; the input reads as it did. -/
def poolKnownUptoRow : OpenClaim := { program := "ythcjepafcemmnaa", sum := "b95b4b3740be59ca900d79ac09f85c9022471833c1b7142f39f0c1789950c8a5", func := "gatehouse/gatehouselaw14.PoolKnown", spec := "poolKnown", inPlace := ["slices.overlaps[gatehouse/pool.slot]"], unfollowed := true, recurses := true, plainKeys := false, apart := false, narrowed := true }
def PoolKnownUptoSaid : Prop := poolKnownUptoRow.holds Try.pinned (OpenSpec.upto poolKnownSpec)

/-- 'gatehouselaw14.PoolApart', WHERE WHAT IT READS IS OF BULK AT MOST 1048576: true; the input reads as it did. -/
def poolApartUptoRow : OpenClaim := { program := "ythcjepafcemmnaa", sum := "b95b4b3740be59ca900d79ac09f85c9022471833c1b7142f39f0c1789950c8a5", func := "gatehouse/gatehouselaw14.PoolApart", spec := "poolApart", inPlace := ["slices.overlaps[gatehouse/pool.slot]"], unfollowed := true, recurses := true, plainKeys := false, apart := false, narrowed := true }
def PoolApartUptoSaid : Prop := poolApartUptoRow.holds Try.pinned (OpenSpec.upto poolApartSpec)

/-- 'gatehouselaw14.PoolAll', WHERE WHAT IT READS IS OF BULK AT MOST 1048576: true; the input reads as it did. -/
def poolAllUptoRow : OpenClaim := { program := "ythcjepafcemmnaa", sum := "b95b4b3740be59ca900d79ac09f85c9022471833c1b7142f39f0c1789950c8a5", func := "gatehouse/gatehouselaw14.PoolAll", spec := "poolAll", inPlace := ["slices.overlaps[gatehouse/pool.slot]"], unfollowed := true, recurses := true, plainKeys := false, apart := false, narrowed := true }
def PoolAllUptoSaid : Prop := poolAllUptoRow.holds Try.pinned (OpenSpec.upto poolAllSpec)

/-- 'gatehouselaw14.PoolKeeps', WHERE WHAT IT READS IS OF BULK AT MOST 1048576: true; the input reads as it did. -/
def poolKeepsUptoRow : OpenClaim := { program := "ythcjepafcemmnaa", sum := "b95b4b3740be59ca900d79ac09f85c9022471833c1b7142f39f0c1789950c8a5", func := "gatehouse/gatehouselaw14.PoolKeeps", spec := "poolKeeps", inPlace := ["slices.overlaps[gatehouse/pool.slot]"], unfollowed := true, recurses := true, plainKeys := false, apart := false, narrowed := true }
def PoolKeepsUptoSaid : Prop := poolKeepsUptoRow.holds Try.pinned (OpenSpec.upto poolKeepsSpec)

/-- 'gatehouselaw14.PoolBars', WHERE WHAT IT READS IS OF BULK AT MOST 1048576: true; the input reads as it did. -/
def poolBarsUptoRow : OpenClaim := { program := "ythcjepafcemmnaa", sum := "b95b4b3740be59ca900d79ac09f85c9022471833c1b7142f39f0c1789950c8a5", func := "gatehouse/gatehouselaw14.PoolBars", spec := "poolBars", inPlace := ["slices.overlaps[gatehouse/pool.slot]"], unfollowed := true, recurses := true, plainKeys := false, apart := false, narrowed := true }
def PoolBarsUptoSaid : Prop := poolBarsUptoRow.holds Try.pinned (OpenSpec.upto poolBarsSpec)

/-- 'gatehouselaw14.PoolTells', WHERE WHAT IT READS IS OF BULK AT MOST 1048576: true; the input reads as it did. -/
def poolTellsUptoRow : OpenClaim := { program := "ythcjepafcemmnaa", sum := "b95b4b3740be59ca900d79ac09f85c9022471833c1b7142f39f0c1789950c8a5", func := "gatehouse/gatehouselaw14.PoolTells", spec := "poolTells", inPlace := ["slices.overlaps[gatehouse/pool.slot]"], unfollowed := true, recurses := true, plainKeys := false, apart := false, narrowed := true }
def PoolTellsUptoSaid : Prop := poolTellsUptoRow.holds Try.pinned (OpenSpec.upto poolTellsSpec)

end Rows
end Go.Proofs.Ythcjepafcemmnaa
