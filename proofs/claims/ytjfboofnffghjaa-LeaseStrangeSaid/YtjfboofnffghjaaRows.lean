/-
  No cell of these rows narrows 'for every input' (looked for: loops, veiled, ifaces, maps, wideKeys, modest, calm, conditions, laid).
  DERIVED. THE GIVEN ROWS OF THIS SEAT. 6 by the template 'for every input the law returns true; each argument reads behind the call as it read before'; 0 by the template 'total and deterministic' (their statements: YtjfboofnffghjaaTotals.lean).
  GIVEN WITH THE SEED: the statements are not yours to turn. If you find one false, say at which input.
  Laid BY PROGRAM, IN A SANDBOX (cutbox-rows.mjs): the forced cells as the released guide's own fill.sh prints them over the translation 974191011bb9c68b… (all of the seat's roots in one cut). By AI agents, Wed Nov 11 2026. No macro, syntax, notation, axiom, sorry.
-/
import Derived.Test.YtjfboofnffghjaaChecked
import GoSem.Claim
import GoSem.ClaimJoined
import GoSem.ClaimMapViews
import Derived.JoinedTies
import Derived.KernelRfl
namespace Go.Proofs.Ytjfboofnffghjaa
/- THE CELL 'sum', in the pinned program and in every row, IS THE sha256 OF THE DUMP (.gsa) THAT YtjfboofnffghjaaProg.lean LOADS. Nothing in Lean hashes anything: it is a label: what it is worth is what the hold of that sum in a sandbox is worth. -/
noncomputable def Try.pinned : Pinned := { name := "ytjfboofnffghjaa", sum := "974191011bb9c68b157ed6d0bee6e91cea859bce3b08d2df8e48394eb74ca3d7", checked := Try.checked }
namespace Rows
def none {H : Type} : Left H := { results := [], args := [] }

/-- 'gatehouselaw16.LeaseKnown': WHATEVER THE INPUT: true; the input reads as it did. -/
def leaseKnownSpec : ChangeSpec := { name := "leaseKnown", fn := fun _ => fun
  | [] => { results := [.lit (.bool true)], args := [] }
  | _ => none }
def leaseKnownRow : OpenClaim := { program := "ytjfboofnffghjaa", sum := "974191011bb9c68b157ed6d0bee6e91cea859bce3b08d2df8e48394eb74ca3d7", func := "gatehouse/gatehouselaw16.LeaseKnown", spec := "leaseKnown", apart := false }
def LeaseKnownSaid : Prop := leaseKnownRow.holds Try.pinned (OpenSpec.ofChange leaseKnownSpec)

/-- ITS FALSE NEIGHBOUR: 'it returns false'. Refute it at one input. -/
def leaseKnownWrong : ChangeSpec := { name := "leaseKnown", fn := fun _ => fun
  | [] => { results := [.lit (.bool false)], args := [] }
  | _ => none }
def LeaseKnownWrongFalsely : Prop := leaseKnownRow.holds Try.pinned (OpenSpec.ofChange leaseKnownWrong)

/-- 'gatehouselaw16.LeaseEnds': WHATEVER THE INPUT: true; the input reads as it did. -/
def leaseEndsSpec : ChangeSpec := { name := "leaseEnds", fn := fun _ => fun
  | [d1, d2] => { results := [.lit (.bool true)], args := [d1, d2] }
  | _ => none }
def leaseEndsRow : OpenClaim := { program := "ytjfboofnffghjaa", sum := "974191011bb9c68b157ed6d0bee6e91cea859bce3b08d2df8e48394eb74ca3d7", func := "gatehouse/gatehouselaw16.LeaseEnds", spec := "leaseEnds", apart := false }
def LeaseEndsSaid : Prop := leaseEndsRow.holds Try.pinned (OpenSpec.ofChange leaseEndsSpec)

/-- ITS FALSE NEIGHBOUR: 'it returns false'. Refute it at one input. -/
def leaseEndsWrong : ChangeSpec := { name := "leaseEnds", fn := fun _ => fun
  | [d1, d2] => { results := [.lit (.bool false)], args := [d1, d2] }
  | _ => none }
def LeaseEndsWrongFalsely : Prop := leaseEndsRow.holds Try.pinned (OpenSpec.ofChange leaseEndsWrong)

/-- 'gatehouselaw16.LeaseStrange': WHATEVER THE INPUT: true; the input reads as it did. -/
def leaseStrangeSpec : ChangeSpec := { name := "leaseStrange", fn := fun _ => fun
  | [d1, d2] => { results := [.lit (.bool true)], args := [d1, d2] }
  | _ => none }
def leaseStrangeRow : OpenClaim := { program := "ytjfboofnffghjaa", sum := "974191011bb9c68b157ed6d0bee6e91cea859bce3b08d2df8e48394eb74ca3d7", func := "gatehouse/gatehouselaw16.LeaseStrange", spec := "leaseStrange", apart := false }
def LeaseStrangeSaid : Prop := leaseStrangeRow.holds Try.pinned (OpenSpec.ofChange leaseStrangeSpec)

/-- ITS FALSE NEIGHBOUR: 'it returns false'. Refute it at one input. -/
def leaseStrangeWrong : ChangeSpec := { name := "leaseStrange", fn := fun _ => fun
  | [d1, d2] => { results := [.lit (.bool false)], args := [d1, d2] }
  | _ => none }
def LeaseStrangeWrongFalsely : Prop := leaseStrangeRow.holds Try.pinned (OpenSpec.ofChange leaseStrangeWrong)

/-- 'gatehouselaw16.LeaseWaits': WHATEVER THE INPUT: true; the input reads as it did. -/
def leaseWaitsSpec : ChangeSpec := { name := "leaseWaits", fn := fun _ => fun
  | [d1, d2] => { results := [.lit (.bool true)], args := [d1, d2] }
  | _ => none }
def leaseWaitsRow : OpenClaim := { program := "ytjfboofnffghjaa", sum := "974191011bb9c68b157ed6d0bee6e91cea859bce3b08d2df8e48394eb74ca3d7", func := "gatehouse/gatehouselaw16.LeaseWaits", spec := "leaseWaits", apart := false }
def LeaseWaitsSaid : Prop := leaseWaitsRow.holds Try.pinned (OpenSpec.ofChange leaseWaitsSpec)

/-- ITS FALSE NEIGHBOUR: 'it returns false'. Refute it at one input. -/
def leaseWaitsWrong : ChangeSpec := { name := "leaseWaits", fn := fun _ => fun
  | [d1, d2] => { results := [.lit (.bool false)], args := [d1, d2] }
  | _ => none }
def LeaseWaitsWrongFalsely : Prop := leaseWaitsRow.holds Try.pinned (OpenSpec.ofChange leaseWaitsWrong)

/-- 'gatehouselaw16.LeaseRenews': WHATEVER THE INPUT: true; the input reads as it did. -/
def leaseRenewsSpec : ChangeSpec := { name := "leaseRenews", fn := fun _ => fun
  | [d1, d2, d3] => { results := [.lit (.bool true)], args := [d1, d2, d3] }
  | _ => none }
def leaseRenewsRow : OpenClaim := { program := "ytjfboofnffghjaa", sum := "974191011bb9c68b157ed6d0bee6e91cea859bce3b08d2df8e48394eb74ca3d7", func := "gatehouse/gatehouselaw16.LeaseRenews", spec := "leaseRenews", apart := false }
def LeaseRenewsSaid : Prop := leaseRenewsRow.holds Try.pinned (OpenSpec.ofChange leaseRenewsSpec)

/-- ITS FALSE NEIGHBOUR: 'it returns false'. Refute it at one input. -/
def leaseRenewsWrong : ChangeSpec := { name := "leaseRenews", fn := fun _ => fun
  | [d1, d2, d3] => { results := [.lit (.bool false)], args := [d1, d2, d3] }
  | _ => none }
def LeaseRenewsWrongFalsely : Prop := leaseRenewsRow.holds Try.pinned (OpenSpec.ofChange leaseRenewsWrong)

/-- 'gatehouselaw16.LeaseNaks': WHATEVER THE INPUT: true; the input reads as it did. -/
def leaseNaksSpec : ChangeSpec := { name := "leaseNaks", fn := fun _ => fun
  | [d1, d2] => { results := [.lit (.bool true)], args := [d1, d2] }
  | _ => none }
def leaseNaksRow : OpenClaim := { program := "ytjfboofnffghjaa", sum := "974191011bb9c68b157ed6d0bee6e91cea859bce3b08d2df8e48394eb74ca3d7", func := "gatehouse/gatehouselaw16.LeaseNaks", spec := "leaseNaks", apart := false }
def LeaseNaksSaid : Prop := leaseNaksRow.holds Try.pinned (OpenSpec.ofChange leaseNaksSpec)

/-- ITS FALSE NEIGHBOUR: 'it returns false'. Refute it at one input. -/
def leaseNaksWrong : ChangeSpec := { name := "leaseNaks", fn := fun _ => fun
  | [d1, d2] => { results := [.lit (.bool false)], args := [d1, d2] }
  | _ => none }
def LeaseNaksWrongFalsely : Prop := leaseNaksRow.holds Try.pinned (OpenSpec.ofChange leaseNaksWrong)

/- THE SECOND FORM. 'bulk': how many values and letters a reading holds, each counted each time it is reached (what is shared counts as often as it is met; a slice's spare places count too). A statement '..UptoSaid' is the law's where the arguments, and the package variables that the reading takes, are together of bulk at most 1048576: NARROWER than '..Said'. Prove '..Said' where nothing that the law and all that it calls make is longer than what came in: it says more and counts as full. Else prove '..UptoSaid'. A law counts once. -/
mutual
def uptoBulk {H : Type} : DataW H → Nat
  | .lit (.string bytes) => bytes.length + 1
  | .lit _ => 1
  | .nil => 1
  | .ptr d => uptoBulk d + 1
  | .slice elems spare => uptoBulkAll elems + uptoBulkAll spare + 1
  | .agg parts => uptoBulkAll parts + 1
  | .iface _ d => uptoBulk d + 1
  | .map entries => uptoBulkEntries entries + 1
  | .held _ => 1
def uptoBulkAll {H : Type} : List (DataW H) → Nat
  | [] => 0
  | d :: r => uptoBulk d + uptoBulkAll r
def uptoBulkEntries {H : Type} : List (Lit × DataW H) → Nat
  | [] => 0
  | x :: r => uptoBulkEntry x + uptoBulkEntries r
def uptoBulkEntry {H : Type} : Lit × DataW H → Nat
  | (.string bytes, d) => bytes.length + uptoBulk d + 1
  | (_, d) => uptoBulk d + 1
 end
def uptoSmall : (H : Type) → List (DataW H) → Bool := fun _ ds => decide (uptoBulkAll ds ≤ 1048576)
def OpenSpec.upto (s : _root_.Go.ChangeSpec) : _root_.Go.OpenSpec := { _root_.Go.OpenSpec.ofChange s with cond := some uptoSmall }

/-- 'gatehouselaw16.LeaseKnown', WHERE WHAT IT READS IS OF BULK AT MOST 1048576: true; the input reads as it did. -/
def leaseKnownUptoRow : OpenClaim := { program := "ytjfboofnffghjaa", sum := "974191011bb9c68b157ed6d0bee6e91cea859bce3b08d2df8e48394eb74ca3d7", func := "gatehouse/gatehouselaw16.LeaseKnown", spec := "leaseKnown", apart := false, narrowed := true }
def LeaseKnownUptoSaid : Prop := leaseKnownUptoRow.holds Try.pinned (OpenSpec.upto leaseKnownSpec)

/-- 'gatehouselaw16.LeaseEnds', WHERE WHAT IT READS IS OF BULK AT MOST 1048576: true; the input reads as it did. -/
def leaseEndsUptoRow : OpenClaim := { program := "ytjfboofnffghjaa", sum := "974191011bb9c68b157ed6d0bee6e91cea859bce3b08d2df8e48394eb74ca3d7", func := "gatehouse/gatehouselaw16.LeaseEnds", spec := "leaseEnds", apart := false, narrowed := true }
def LeaseEndsUptoSaid : Prop := leaseEndsUptoRow.holds Try.pinned (OpenSpec.upto leaseEndsSpec)

/-- 'gatehouselaw16.LeaseStrange', WHERE WHAT IT READS IS OF BULK AT MOST 1048576: true; the input reads as it did. -/
def leaseStrangeUptoRow : OpenClaim := { program := "ytjfboofnffghjaa", sum := "974191011bb9c68b157ed6d0bee6e91cea859bce3b08d2df8e48394eb74ca3d7", func := "gatehouse/gatehouselaw16.LeaseStrange", spec := "leaseStrange", apart := false, narrowed := true }
def LeaseStrangeUptoSaid : Prop := leaseStrangeUptoRow.holds Try.pinned (OpenSpec.upto leaseStrangeSpec)

/-- 'gatehouselaw16.LeaseWaits', WHERE WHAT IT READS IS OF BULK AT MOST 1048576: true; the input reads as it did. -/
def leaseWaitsUptoRow : OpenClaim := { program := "ytjfboofnffghjaa", sum := "974191011bb9c68b157ed6d0bee6e91cea859bce3b08d2df8e48394eb74ca3d7", func := "gatehouse/gatehouselaw16.LeaseWaits", spec := "leaseWaits", apart := false, narrowed := true }
def LeaseWaitsUptoSaid : Prop := leaseWaitsUptoRow.holds Try.pinned (OpenSpec.upto leaseWaitsSpec)

/-- 'gatehouselaw16.LeaseRenews', WHERE WHAT IT READS IS OF BULK AT MOST 1048576: true; the input reads as it did. -/
def leaseRenewsUptoRow : OpenClaim := { program := "ytjfboofnffghjaa", sum := "974191011bb9c68b157ed6d0bee6e91cea859bce3b08d2df8e48394eb74ca3d7", func := "gatehouse/gatehouselaw16.LeaseRenews", spec := "leaseRenews", apart := false, narrowed := true }
def LeaseRenewsUptoSaid : Prop := leaseRenewsUptoRow.holds Try.pinned (OpenSpec.upto leaseRenewsSpec)

/-- 'gatehouselaw16.LeaseNaks', WHERE WHAT IT READS IS OF BULK AT MOST 1048576: true; the input reads as it did. -/
def leaseNaksUptoRow : OpenClaim := { program := "ytjfboofnffghjaa", sum := "974191011bb9c68b157ed6d0bee6e91cea859bce3b08d2df8e48394eb74ca3d7", func := "gatehouse/gatehouselaw16.LeaseNaks", spec := "leaseNaks", apart := false, narrowed := true }
def LeaseNaksUptoSaid : Prop := leaseNaksUptoRow.holds Try.pinned (OpenSpec.upto leaseNaksSpec)

end Rows
end Go.Proofs.Ytjfboofnffghjaa
