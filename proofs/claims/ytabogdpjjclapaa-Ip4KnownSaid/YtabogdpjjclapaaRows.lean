/-
  No cell of these rows narrows 'for every input' (looked for: loops, veiled, ifaces, maps, wideKeys, modest, calm, conditions, laid).
  DERIVED. THE GIVEN ROWS OF THIS SEAT. 6 by the template 'for every input the law returns true; each argument reads behind the call as it read before'; 0 by the template 'total and deterministic' (their statements: YtabogdpjjclapaaTotals.lean).
  GIVEN WITH THE SEED: the statements are not yours to turn. If you find one false, say at which input.
  Laid BY PROGRAM, IN A SANDBOX (cutbox-rows.mjs): the forced cells as the released guide's own fill.sh prints them over the translation adca3553ab610e9c… (all of the seat's roots in one cut). By AI agents, Wed Nov 11 2026. No macro, syntax, notation, axiom, sorry.
-/
import Derived.Test.YtabogdpjjclapaaChecked
import GoSem.Claim
import GoSem.ClaimJoined
import GoSem.ClaimMapViews
import Derived.JoinedTies
import Derived.KernelRfl
namespace Go.Proofs.Ytabogdpjjclapaa
/- THE CELL 'sum', in the pinned program and in every row, IS THE sha256 OF THE DUMP (.gsa) THAT YtabogdpjjclapaaProg.lean LOADS. Nothing in Lean hashes anything: it is a label: what it is worth is what the hold of that sum in a sandbox is worth. -/
noncomputable def Try.pinned : Pinned := { name := "ytabogdpjjclapaa", sum := "adca3553ab610e9c95e5f71951d924c482895e85f8988c1d609da3923ab17f7b", checked := Try.checked }
namespace Rows
def none {H : Type} : Left H := { results := [], args := [] }

/-- 'gatehouselaw6.Ip4Known': WHATEVER THE INPUT: true; the input reads as it did. -/
def ip4KnownSpec : ChangeSpec := { name := "ip4Known", fn := fun _ => fun
  | [] => { results := [.lit (.bool true)], args := [] }
  | _ => none }
def ip4KnownRow : OpenClaim := { program := "ytabogdpjjclapaa", sum := "adca3553ab610e9c95e5f71951d924c482895e85f8988c1d609da3923ab17f7b", func := "gatehouse/gatehouselaw6.Ip4Known", spec := "ip4Known", apart := false }
def Ip4KnownSaid : Prop := ip4KnownRow.holds Try.pinned (OpenSpec.ofChange ip4KnownSpec)

/-- ITS FALSE NEIGHBOUR: 'it returns false'. Refute it at one input. -/
def ip4KnownWrong : ChangeSpec := { name := "ip4Known", fn := fun _ => fun
  | [] => { results := [.lit (.bool false)], args := [] }
  | _ => none }
def Ip4KnownWrongFalsely : Prop := ip4KnownRow.holds Try.pinned (OpenSpec.ofChange ip4KnownWrong)

/-- 'gatehouselaw6.Ip4Reads': WHATEVER THE INPUT: true; the input reads as it did. -/
def ip4ReadsSpec : ChangeSpec := { name := "ip4Reads", fn := fun _ => fun
  | [d] => { results := [.lit (.bool true)], args := [d] }
  | _ => none }
def ip4ReadsRow : OpenClaim := { program := "ytabogdpjjclapaa", sum := "adca3553ab610e9c95e5f71951d924c482895e85f8988c1d609da3923ab17f7b", func := "gatehouse/gatehouselaw6.Ip4Reads", spec := "ip4Reads", apart := false }
def Ip4ReadsSaid : Prop := ip4ReadsRow.holds Try.pinned (OpenSpec.ofChange ip4ReadsSpec)

/-- ITS FALSE NEIGHBOUR: 'it returns false'. Refute it at one input. -/
def ip4ReadsWrong : ChangeSpec := { name := "ip4Reads", fn := fun _ => fun
  | [d] => { results := [.lit (.bool false)], args := [d] }
  | _ => none }
def Ip4ReadsWrongFalsely : Prop := ip4ReadsRow.holds Try.pinned (OpenSpec.ofChange ip4ReadsWrong)

/-- 'gatehouselaw6.Ip4Hops': WHATEVER THE INPUT: true; the input reads as it did. -/
def ip4HopsSpec : ChangeSpec := { name := "ip4Hops", fn := fun _ => fun
  | [d1, d2] => { results := [.lit (.bool true)], args := [d1, d2] }
  | _ => none }
def ip4HopsRow : OpenClaim := { program := "ytabogdpjjclapaa", sum := "adca3553ab610e9c95e5f71951d924c482895e85f8988c1d609da3923ab17f7b", func := "gatehouse/gatehouselaw6.Ip4Hops", spec := "ip4Hops", apart := false }
def Ip4HopsSaid : Prop := ip4HopsRow.holds Try.pinned (OpenSpec.ofChange ip4HopsSpec)

/-- ITS FALSE NEIGHBOUR: 'it returns false'. Refute it at one input. -/
def ip4HopsWrong : ChangeSpec := { name := "ip4Hops", fn := fun _ => fun
  | [d1, d2] => { results := [.lit (.bool false)], args := [d1, d2] }
  | _ => none }
def Ip4HopsWrongFalsely : Prop := ip4HopsRow.holds Try.pinned (OpenSpec.ofChange ip4HopsWrong)

/-- 'gatehouselaw6.Ip4Behind': WHATEVER THE INPUT: true; the input reads as it did. -/
def ip4BehindSpec : ChangeSpec := { name := "ip4Behind", fn := fun _ => fun
  | [d1, d2, d3] => { results := [.lit (.bool true)], args := [d1, d2, d3] }
  | _ => none }
def ip4BehindRow : OpenClaim := { program := "ytabogdpjjclapaa", sum := "adca3553ab610e9c95e5f71951d924c482895e85f8988c1d609da3923ab17f7b", func := "gatehouse/gatehouselaw6.Ip4Behind", spec := "ip4Behind", apart := false }
def Ip4BehindSaid : Prop := ip4BehindRow.holds Try.pinned (OpenSpec.ofChange ip4BehindSpec)

/-- ITS FALSE NEIGHBOUR: 'it returns false'. Refute it at one input. -/
def ip4BehindWrong : ChangeSpec := { name := "ip4Behind", fn := fun _ => fun
  | [d1, d2, d3] => { results := [.lit (.bool false)], args := [d1, d2, d3] }
  | _ => none }
def Ip4BehindWrongFalsely : Prop := ip4BehindRow.holds Try.pinned (OpenSpec.ofChange ip4BehindWrong)

/-- 'gatehouselaw6.Ip4Bits': WHATEVER THE INPUT: true; the input reads as it did. -/
def ip4BitsSpec : ChangeSpec := { name := "ip4Bits", fn := fun _ => fun
  | [d1, d2] => { results := [.lit (.bool true)], args := [d1, d2] }
  | _ => none }
def ip4BitsRow : OpenClaim := { program := "ytabogdpjjclapaa", sum := "adca3553ab610e9c95e5f71951d924c482895e85f8988c1d609da3923ab17f7b", func := "gatehouse/gatehouselaw6.Ip4Bits", spec := "ip4Bits", apart := false }
def Ip4BitsSaid : Prop := ip4BitsRow.holds Try.pinned (OpenSpec.ofChange ip4BitsSpec)

/-- ITS FALSE NEIGHBOUR: 'it returns false'. Refute it at one input. -/
def ip4BitsWrong : ChangeSpec := { name := "ip4Bits", fn := fun _ => fun
  | [d1, d2] => { results := [.lit (.bool false)], args := [d1, d2] }
  | _ => none }
def Ip4BitsWrongFalsely : Prop := ip4BitsRow.holds Try.pinned (OpenSpec.ofChange ip4BitsWrong)

/-- 'gatehouselaw6.Ip4Sizes': WHATEVER THE INPUT: true; the input reads as it did. -/
def ip4SizesSpec : ChangeSpec := { name := "ip4Sizes", fn := fun _ => fun
  | [d1, d2] => { results := [.lit (.bool true)], args := [d1, d2] }
  | _ => none }
def ip4SizesRow : OpenClaim := { program := "ytabogdpjjclapaa", sum := "adca3553ab610e9c95e5f71951d924c482895e85f8988c1d609da3923ab17f7b", func := "gatehouse/gatehouselaw6.Ip4Sizes", spec := "ip4Sizes", apart := false }
def Ip4SizesSaid : Prop := ip4SizesRow.holds Try.pinned (OpenSpec.ofChange ip4SizesSpec)

/-- ITS FALSE NEIGHBOUR: 'it returns false'. Refute it at one input. -/
def ip4SizesWrong : ChangeSpec := { name := "ip4Sizes", fn := fun _ => fun
  | [d1, d2] => { results := [.lit (.bool false)], args := [d1, d2] }
  | _ => none }
def Ip4SizesWrongFalsely : Prop := ip4SizesRow.holds Try.pinned (OpenSpec.ofChange ip4SizesWrong)

/- THE SECOND FORM. 'bulk': how many values and letters a reading holds, each counted each time it is reached (what is shared counts as often as it is met; a slice's spare places count too). A statement '..UptoSaid' is the law's where the arguments, and the package variables that the reading takes, are together of bulk at most 1048576: NARROWER than '..Said'. Prove '..Said' where nothing that the law and all that it calls make is longer than what came in: it says more and counts as full. Else prove '..UptoSaid'. A law counts once. -/
mutual
def uptoBulk {H : Type} : DataW H → Nat
  | .lit (.string bytes) => bytes.length + 1
  | .lit _ => 1
  | .nil => 1
  | .ptr d => uptoBulk d + 1
  | .slice elems spare => uptoBulkAll elems + uptoBulkAll spare + 1
  | .agg parts => uptoBulkAll parts + 1
  | .iface _ d => uptoBulk d + 1
  | .map entries => uptoBulkEntries entries + 1
  | .held _ => 1
def uptoBulkAll {H : Type} : List (DataW H) → Nat
  | [] => 0
  | d :: r => uptoBulk d + uptoBulkAll r
def uptoBulkEntries {H : Type} : List (Lit × DataW H) → Nat
  | [] => 0
  | x :: r => uptoBulkEntry x + uptoBulkEntries r
def uptoBulkEntry {H : Type} : Lit × DataW H → Nat
  | (.string bytes, d) => bytes.length + uptoBulk d + 1
  | (_, d) => uptoBulk d + 1
 end
def uptoSmall : (H : Type) → List (DataW H) → Bool := fun _ ds => decide (uptoBulkAll ds ≤ 1048576)
def OpenSpec.upto (s : _root_.Go.ChangeSpec) : _root_.Go.OpenSpec := { _root_.Go.OpenSpec.ofChange s with cond := some uptoSmall }

/-- 'gatehouselaw6.Ip4Known', WHERE WHAT IT READS IS OF BULK AT MOST 1048576: true; the input reads as it did. -/
def ip4KnownUptoRow : OpenClaim := { program := "ytabogdpjjclapaa", sum := "adca3553ab610e9c95e5f71951d924c482895e85f8988c1d609da3923ab17f7b", func := "gatehouse/gatehouselaw6.Ip4Known", spec := "ip4Known", apart := false, narrowed := true }
def Ip4KnownUptoSaid : Prop := ip4KnownUptoRow.holds Try.pinned (OpenSpec.upto ip4KnownSpec)

/-- 'gatehouselaw6.Ip4Reads', WHERE WHAT IT READS IS OF BULK AT MOST 1048576: true; the input reads as it did. -/
def ip4ReadsUptoRow : OpenClaim := { program := "ytabogdpjjclapaa", sum := "adca3553ab610e9c95e5f71951d924c482895e85f8988c1d609da3923ab17f7b", func := "gatehouse/gatehouselaw6.Ip4Reads", spec := "ip4Reads", apart := false, narrowed := true }
def Ip4ReadsUptoSaid : Prop := ip4ReadsUptoRow.holds Try.pinned (OpenSpec.upto ip4ReadsSpec)

/-- 'gatehouselaw6.Ip4Hops', WHERE WHAT IT READS IS OF BULK AT MOST 1048576: true; the input reads as it did. -/
def ip4HopsUptoRow : OpenClaim := { program := "ytabogdpjjclapaa", sum := "adca3553ab610e9c95e5f71951d924c482895e85f8988c1d609da3923ab17f7b", func := "gatehouse/gatehouselaw6.Ip4Hops", spec := "ip4Hops", apart := false, narrowed := true }
def Ip4HopsUptoSaid : Prop := ip4HopsUptoRow.holds Try.pinned (OpenSpec.upto ip4HopsSpec)

/-- 'gatehouselaw6.Ip4Behind', WHERE WHAT IT READS IS OF BULK AT MOST 1048576: true; the input reads as it did. -/
def ip4BehindUptoRow : OpenClaim := { program := "ytabogdpjjclapaa", sum := "adca3553ab610e9c95e5f71951d924c482895e85f8988c1d609da3923ab17f7b", func := "gatehouse/gatehouselaw6.Ip4Behind", spec := "ip4Behind", apart := false, narrowed := true }
def Ip4BehindUptoSaid : Prop := ip4BehindUptoRow.holds Try.pinned (OpenSpec.upto ip4BehindSpec)

/-- 'gatehouselaw6.Ip4Bits', WHERE WHAT IT READS IS OF BULK AT MOST 1048576: true; the input reads as it did. -/
def ip4BitsUptoRow : OpenClaim := { program := "ytabogdpjjclapaa", sum := "adca3553ab610e9c95e5f71951d924c482895e85f8988c1d609da3923ab17f7b", func := "gatehouse/gatehouselaw6.Ip4Bits", spec := "ip4Bits", apart := false, narrowed := true }
def Ip4BitsUptoSaid : Prop := ip4BitsUptoRow.holds Try.pinned (OpenSpec.upto ip4BitsSpec)

/-- 'gatehouselaw6.Ip4Sizes', WHERE WHAT IT READS IS OF BULK AT MOST 1048576: true; the input reads as it did. -/
def ip4SizesUptoRow : OpenClaim := { program := "ytabogdpjjclapaa", sum := "adca3553ab610e9c95e5f71951d924c482895e85f8988c1d609da3923ab17f7b", func := "gatehouse/gatehouselaw6.Ip4Sizes", spec := "ip4Sizes", apart := false, narrowed := true }
def Ip4SizesUptoSaid : Prop := ip4SizesUptoRow.holds Try.pinned (OpenSpec.upto ip4SizesSpec)

end Rows
end Go.Proofs.Ytabogdpjjclapaa
