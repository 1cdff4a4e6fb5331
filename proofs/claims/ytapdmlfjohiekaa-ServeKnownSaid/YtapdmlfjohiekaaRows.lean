/-
  No cell of these rows narrows 'for every input' (looked for: loops, veiled, ifaces, maps, wideKeys, modest, calm, conditions, laid).
  DERIVED. THE GIVEN ROWS OF THIS SEAT. 4 by the template 'for every input the law returns true; each argument reads behind the call as it read before'; 0 by the template 'total and deterministic' (their statements: YtapdmlfjohiekaaTotals.lean).
  GIVEN WITH THE SEED: the statements are not yours to turn. If you find one false, say at which input.
  Laid BY PROGRAM, IN A SANDBOX (cutbox-rows.mjs): the forced cells as the released guide's own fill.sh prints them over the translation dd3cd4229479a41e… (all of the seat's roots in one cut). By AI agents, Wed Nov 11 2026. No macro, syntax, notation, axiom, sorry.
-/
import Derived.Test.YtapdmlfjohiekaaChecked
import GoSem.Claim
import GoSem.ClaimJoined
import GoSem.ClaimMapViews
import Derived.JoinedTies
import Derived.KernelRfl
namespace Go.Proofs.Ytapdmlfjohiekaa
/- THE CELL 'sum', in the pinned program and in every row, IS THE sha256 OF THE DUMP (.gsa) THAT YtapdmlfjohiekaaProg.lean LOADS. Nothing in Lean hashes anything: it is a label: what it is worth is what the hold of that sum in a sandbox is worth. -/
noncomputable def Try.pinned : Pinned := { name := "ytapdmlfjohiekaa", sum := "dd3cd4229479a41ef275ccc09914a0e6fddb8607ad41de66ed78db14c763c23b", checked := Try.checked }
namespace Rows
def none {H : Type} : Left H := { results := [], args := [] }

/-- 'gatehouselaw15.ServeKnown': WHATEVER THE INPUT: true; the input reads as it did. -/
def serveKnownSpec : ChangeSpec := { name := "serveKnown", fn := fun _ => fun
  | [] => { results := [.lit (.bool true)], args := [] }
  | _ => none }
def serveKnownRow : OpenClaim := { program := "ytapdmlfjohiekaa", sum := "dd3cd4229479a41ef275ccc09914a0e6fddb8607ad41de66ed78db14c763c23b", func := "gatehouse/gatehouselaw15.ServeKnown", spec := "serveKnown", inPlace := ["slices.overlaps[gatehouse/pool.slot]"], unfollowed := true, recurses := true, plainKeys := false, apart := false }
def ServeKnownSaid : Prop := serveKnownRow.holds Try.pinned (OpenSpec.ofChange serveKnownSpec)

/-- ITS FALSE NEIGHBOUR: 'it returns false'. Refute it at one input. -/
def serveKnownWrong : ChangeSpec := { name := "serveKnown", fn := fun _ => fun
  | [] => { results := [.lit (.bool false)], args := [] }
  | _ => none }
def ServeKnownWrongFalsely : Prop := serveKnownRow.holds Try.pinned (OpenSpec.ofChange serveKnownWrong)

/-- 'gatehouselaw15.ServeTalks': WHATEVER THE INPUT: true; the input reads as it did. -/
def serveTalksSpec : ChangeSpec := { name := "serveTalks", fn := fun _ => fun
  | [d1, d2] => { results := [.lit (.bool true)], args := [d1, d2] }
  | _ => none }
def serveTalksRow : OpenClaim := { program := "ytapdmlfjohiekaa", sum := "dd3cd4229479a41ef275ccc09914a0e6fddb8607ad41de66ed78db14c763c23b", func := "gatehouse/gatehouselaw15.ServeTalks", spec := "serveTalks", inPlace := ["slices.overlaps[gatehouse/pool.slot]"], unfollowed := true, recurses := true, plainKeys := false, apart := false }
def ServeTalksSaid : Prop := serveTalksRow.holds Try.pinned (OpenSpec.ofChange serveTalksSpec)

/-- ITS FALSE NEIGHBOUR: 'it returns false'. Refute it at one input. -/
def serveTalksWrong : ChangeSpec := { name := "serveTalks", fn := fun _ => fun
  | [d1, d2] => { results := [.lit (.bool false)], args := [d1, d2] }
  | _ => none }
def ServeTalksWrongFalsely : Prop := serveTalksRow.holds Try.pinned (OpenSpec.ofChange serveTalksWrong)

/-- 'gatehouselaw15.ServeRenews': WHATEVER THE INPUT: true; the input reads as it did. -/
def serveRenewsSpec : ChangeSpec := { name := "serveRenews", fn := fun _ => fun
  | [d1, d2] => { results := [.lit (.bool true)], args := [d1, d2] }
  | _ => none }
def serveRenewsRow : OpenClaim := { program := "ytapdmlfjohiekaa", sum := "dd3cd4229479a41ef275ccc09914a0e6fddb8607ad41de66ed78db14c763c23b", func := "gatehouse/gatehouselaw15.ServeRenews", spec := "serveRenews", inPlace := ["slices.overlaps[gatehouse/pool.slot]"], unfollowed := true, recurses := true, plainKeys := false, apart := false }
def ServeRenewsSaid : Prop := serveRenewsRow.holds Try.pinned (OpenSpec.ofChange serveRenewsSpec)

/-- ITS FALSE NEIGHBOUR: 'it returns false'. Refute it at one input. -/
def serveRenewsWrong : ChangeSpec := { name := "serveRenews", fn := fun _ => fun
  | [d1, d2] => { results := [.lit (.bool false)], args := [d1, d2] }
  | _ => none }
def ServeRenewsWrongFalsely : Prop := serveRenewsRow.holds Try.pinned (OpenSpec.ofChange serveRenewsWrong)

/-- 'gatehouselaw15.ServeBars': WHATEVER THE INPUT: true; the input reads as it did. -/
def serveBarsSpec : ChangeSpec := { name := "serveBars", fn := fun _ => fun
  | [d] => { results := [.lit (.bool true)], args := [d] }
  | _ => none }
def serveBarsRow : OpenClaim := { program := "ytapdmlfjohiekaa", sum := "dd3cd4229479a41ef275ccc09914a0e6fddb8607ad41de66ed78db14c763c23b", func := "gatehouse/gatehouselaw15.ServeBars", spec := "serveBars", inPlace := ["slices.overlaps[gatehouse/pool.slot]"], unfollowed := true, recurses := true, plainKeys := false, apart := false }
def ServeBarsSaid : Prop := serveBarsRow.holds Try.pinned (OpenSpec.ofChange serveBarsSpec)

/-- ITS FALSE NEIGHBOUR: 'it returns false'. Refute it at one input. -/
def serveBarsWrong : ChangeSpec := { name := "serveBars", fn := fun _ => fun
  | [d] => { results := [.lit (.bool false)], args := [d] }
  | _ => none }
def ServeBarsWrongFalsely : Prop := serveBarsRow.holds Try.pinned (OpenSpec.ofChange serveBarsWrong)

/- THE SECOND FORM. 'bulk': how many values and letters a reading holds, each counted each time it is reached (what is shared counts as often as it is met; a slice's spare places count too). A statement '..UptoSaid' is the law's where the arguments, and the package variables that the reading takes, are together of bulk at most 1048576: NARROWER than '..Said'. Prove '..Said' where nothing that the law and all that it calls make is longer than what came in: it says more and counts as full. Else prove '..UptoSaid'. A law counts once. -/
mutual
def uptoBulk {H : Type} : DataW H → Nat
  | .lit (.string bytes) => bytes.length + 1
  | .lit _ => 1
  | .nil => 1
  | .ptr d => uptoBulk d + 1
  | .slice elems spare => uptoBulkAll elems + uptoBulkAll spare + 1
  | .agg parts => uptoBulkAll parts + 1
  | .iface _ d => uptoBulk d + 1
  | .map entries => uptoBulkEntries entries + 1
  | .held _ => 1
def uptoBulkAll {H : Type} : List (DataW H) → Nat
  | [] => 0
  | d :: r => uptoBulk d + uptoBulkAll r
def uptoBulkEntries {H : Type} : List (Lit × DataW H) → Nat
  | [] => 0
  | x :: r => uptoBulkEntry x + uptoBulkEntries r
def uptoBulkEntry {H : Type} : Lit × DataW H → Nat
  | (.string bytes, d) => bytes.length + uptoBulk d + 1
  | (_, d) => uptoBulk d + 1
 end
def uptoSmall : (H : Type) → List (DataW H) → Bool := fun _ ds => decide (uptoBulkAll ds ≤ 1048576)
def OpenSpec.upto (s : _root_.Go.ChangeSpec) : _root_.Go.OpenSpec := { _root_.Go.OpenSpec.ofChange s with cond := some uptoSmall }

/-- 'gatehouselaw15.ServeKnown', WHERE WHAT IT READS IS OF BULK AT MOST 1048576: true; the input reads as it did. -/
def serveKnownUptoRow : OpenClaim := { program := "ytapdmlfjohiekaa", sum := "dd3cd4229479a41ef275ccc09914a0e6fddb8607ad41de66ed78db14c763c23b", func := "gatehouse/gatehouselaw15.ServeKnown", spec := "serveKnown", inPlace := ["slices.overlaps[gatehouse/pool.slot]"], unfollowed := true, recurses := true, plainKeys := false, apart := false, narrowed := true }
def ServeKnownUptoSaid : Prop := serveKnownUptoRow.holds Try.pinned (OpenSpec.upto serveKnownSpec)

/-- 'gatehouselaw15.ServeTalks', WHERE WHAT IT READS IS OF BULK AT MOST 1048576: true; the input reads as it did. -/
def serveTalksUptoRow : OpenClaim := { program := "ytapdmlfjohiekaa", sum := "dd3cd4229479a41ef275ccc09914a0e6fddb8607ad41de66ed78db14c763c23b", func := "gatehouse/gatehouselaw15.ServeTalks", spec := "serveTalks", inPlace := ["slices.overlaps[gatehouse/pool.slot]"], unfollowed := true, recurses := true, plainKeys := false, apart := false, narrowed := true }
def ServeTalksUptoSaid : Prop := serveTalksUptoRow.holds Try.pinned (OpenSpec.upto serveTalksSpec)

/-- 'gatehouselaw15.ServeRenews', WHERE WHAT IT READS IS OF BULK AT MOST 1048576: true; the input reads as it did. -/
def serveRenewsUptoRow : OpenClaim := { program := "ytapdmlfjohiekaa", sum := "dd3cd4229479a41ef275ccc09914a0e6fddb8607ad41de66ed78db14c763c23b", func := "gatehouse/gatehouselaw15.ServeRenews", spec := "serveRenews", inPlace := ["slices.overlaps[gatehouse/pool.slot]"], unfollowed := true, recurses := true, plainKeys := false, apart := false, narrowed := true }
def ServeRenewsUptoSaid : Prop := serveRenewsUptoRow.holds Try.pinned (OpenSpec.upto serveRenewsSpec)

/-- 'gatehouselaw15.ServeBars', WHERE WHAT IT READS IS OF BULK AT MOST 1048576: true; the input reads as it did. -/
def serveBarsUptoRow : OpenClaim := { program := "ytapdmlfjohiekaa", sum := "dd3cd4229479a41ef275ccc09914a0e6fddb8607ad41de66ed78db14c763c23b", func := "gatehouse/gatehouselaw15.ServeBars", spec := "serveBars", inPlace := ["slices.overlaps[gatehouse/pool.slot]"], unfollowed := true, recurses := true, plainKeys := false, apart := false, narrowed := true }
def ServeBarsUptoSaid : Prop := serveBarsUptoRow.holds Try.pinned (OpenSpec.upto serveBarsSpec)

end Rows
end Go.Proofs.Ytapdmlfjohiekaa
