/-
  No cell of these rows narrows 'for every input' (looked for: loops, veiled, ifaces, maps, wideKeys, modest, calm, conditions, laid).
  DERIVED. THE GIVEN ROWS OF THIS SEAT. 5 by the template 'for every input the law returns true; each argument reads behind the call as it read before'; 0 by the template 'total and deterministic' (their statements: YtgaobeoddlmnjaaTotals.lean).
  GIVEN WITH THE SEED: the statements are not yours to turn. If you find one false, say at which input.
  Laid BY PROGRAM, IN A SANDBOX (cutbox-rows.mjs): the forced cells as the released guide's own fill.sh prints them over the translation b656e680605d61c7… (all of the seat's roots in one cut). By AI agents, Wed Nov 11 2026. No macro, syntax, notation, axiom, sorry.
-/
import Derived.Test.YtgaobeoddlmnjaaChecked
import GoSem.Claim
import GoSem.ClaimJoined
import GoSem.ClaimMapViews
import Derived.JoinedTies
import Derived.KernelRfl
namespace Go.Proofs.Ytgaobeoddlmnjaa
/- THE CELL 'sum', in the pinned program and in every row, IS THE sha256 OF THE DUMP (.gsa) THAT YtgaobeoddlmnjaaProg.lean LOADS. Nothing in Lean hashes anything: it is a label: what it is worth is what the hold of that sum in a sandbox is worth. -/
noncomputable def Try.pinned : Pinned := { name := "ytgaobeoddlmnjaa", sum := "b656e680605d61c75fb6ed6c8d61cb1778aa8474ecfb5d5923bfb299b98628a2", checked := Try.checked }
namespace Rows
def none {H : Type} : Left H := { results := [], args := [] }

/-- 'gatehouselaw4.EtherKnown': WHATEVER THE INPUT: true; the input reads as it did. -/
def etherKnownSpec : ChangeSpec := { name := "etherKnown", fn := fun _ => fun
  | [] => { results := [.lit (.bool true)], args := [] }
  | _ => none }
def etherKnownRow : OpenClaim := { program := "ytgaobeoddlmnjaa", sum := "b656e680605d61c75fb6ed6c8d61cb1778aa8474ecfb5d5923bfb299b98628a2", func := "gatehouse/gatehouselaw4.EtherKnown", spec := "etherKnown", apart := false }
def EtherKnownSaid : Prop := etherKnownRow.holds Try.pinned (OpenSpec.ofChange etherKnownSpec)

/-- ITS FALSE NEIGHBOUR: 'it returns false'. Refute it at one input. -/
def etherKnownWrong : ChangeSpec := { name := "etherKnown", fn := fun _ => fun
  | [] => { results := [.lit (.bool false)], args := [] }
  | _ => none }
def EtherKnownWrongFalsely : Prop := etherKnownRow.holds Try.pinned (OpenSpec.ofChange etherKnownWrong)

/-- 'gatehouselaw4.EtherSays': WHATEVER THE INPUT: true; the input reads as it did. -/
def etherSaysSpec : ChangeSpec := { name := "etherSays", fn := fun _ => fun
  | [d1, d2, d3] => { results := [.lit (.bool true)], args := [d1, d2, d3] }
  | _ => none }
def etherSaysRow : OpenClaim := { program := "ytgaobeoddlmnjaa", sum := "b656e680605d61c75fb6ed6c8d61cb1778aa8474ecfb5d5923bfb299b98628a2", func := "gatehouse/gatehouselaw4.EtherSays", spec := "etherSays", apart := false }
def EtherSaysSaid : Prop := etherSaysRow.holds Try.pinned (OpenSpec.ofChange etherSaysSpec)

/-- ITS FALSE NEIGHBOUR: 'it returns false'. Refute it at one input. -/
def etherSaysWrong : ChangeSpec := { name := "etherSays", fn := fun _ => fun
  | [d1, d2, d3] => { results := [.lit (.bool false)], args := [d1, d2, d3] }
  | _ => none }
def EtherSaysWrongFalsely : Prop := etherSaysRow.holds Try.pinned (OpenSpec.ofChange etherSaysWrong)

/-- 'gatehouselaw4.EtherBack': WHATEVER THE INPUT: true; the input reads as it did. -/
def etherBackSpec : ChangeSpec := { name := "etherBack", fn := fun _ => fun
  | [d] => { results := [.lit (.bool true)], args := [d] }
  | _ => none }
def etherBackRow : OpenClaim := { program := "ytgaobeoddlmnjaa", sum := "b656e680605d61c75fb6ed6c8d61cb1778aa8474ecfb5d5923bfb299b98628a2", func := "gatehouse/gatehouselaw4.EtherBack", spec := "etherBack", apart := false }
def EtherBackSaid : Prop := etherBackRow.holds Try.pinned (OpenSpec.ofChange etherBackSpec)

/-- ITS FALSE NEIGHBOUR: 'it returns false'. Refute it at one input. -/
def etherBackWrong : ChangeSpec := { name := "etherBack", fn := fun _ => fun
  | [d] => { results := [.lit (.bool false)], args := [d] }
  | _ => none }
def EtherBackWrongFalsely : Prop := etherBackRow.holds Try.pinned (OpenSpec.ofChange etherBackWrong)

/-- 'gatehouselaw4.EtherSizes': WHATEVER THE INPUT: true; the input reads as it did. -/
def etherSizesSpec : ChangeSpec := { name := "etherSizes", fn := fun _ => fun
  | [d] => { results := [.lit (.bool true)], args := [d] }
  | _ => none }
def etherSizesRow : OpenClaim := { program := "ytgaobeoddlmnjaa", sum := "b656e680605d61c75fb6ed6c8d61cb1778aa8474ecfb5d5923bfb299b98628a2", func := "gatehouse/gatehouselaw4.EtherSizes", spec := "etherSizes", apart := false }
def EtherSizesSaid : Prop := etherSizesRow.holds Try.pinned (OpenSpec.ofChange etherSizesSpec)

/-- ITS FALSE NEIGHBOUR: 'it returns false'. Refute it at one input. -/
def etherSizesWrong : ChangeSpec := { name := "etherSizes", fn := fun _ => fun
  | [d] => { results := [.lit (.bool false)], args := [d] }
  | _ => none }
def EtherSizesWrongFalsely : Prop := etherSizesRow.holds Try.pinned (OpenSpec.ofChange etherSizesWrong)

/-- 'gatehouselaw4.EtherMine': WHATEVER THE INPUT: true; the input reads as it did. -/
def etherMineSpec : ChangeSpec := { name := "etherMine", fn := fun _ => fun
  | [d1, d2] => { results := [.lit (.bool true)], args := [d1, d2] }
  | _ => none }
def etherMineRow : OpenClaim := { program := "ytgaobeoddlmnjaa", sum := "b656e680605d61c75fb6ed6c8d61cb1778aa8474ecfb5d5923bfb299b98628a2", func := "gatehouse/gatehouselaw4.EtherMine", spec := "etherMine", apart := false }
def EtherMineSaid : Prop := etherMineRow.holds Try.pinned (OpenSpec.ofChange etherMineSpec)

/-- ITS FALSE NEIGHBOUR: 'it returns false'. Refute it at one input. -/
def etherMineWrong : ChangeSpec := { name := "etherMine", fn := fun _ => fun
  | [d1, d2] => { results := [.lit (.bool false)], args := [d1, d2] }
  | _ => none }
def EtherMineWrongFalsely : Prop := etherMineRow.holds Try.pinned (OpenSpec.ofChange etherMineWrong)

/- THE SECOND FORM. 'bulk': how many values and letters a reading holds, each counted each time it is reached (what is shared counts as often as it is met; a slice's spare places count too). A statement '..UptoSaid' is the law's where the arguments, and the package variables that the reading takes, are together of bulk at most 1048576: NARROWER than '..Said'. Prove '..Said' where nothing that the law and all that it calls make is longer than what came in: it says more and counts as full. Else prove '..UptoSaid'. A law counts once. -/
mutual
def uptoBulk {H : Type} : DataW H → Nat
  | .lit (.string bytes) => bytes.length + 1
  | .lit _ => 1
  | .nil => 1
  | .ptr d => uptoBulk d + 1
  | .slice elems spare => uptoBulkAll elems + uptoBulkAll spare + 1
  | .agg parts => uptoBulkAll parts + 1
  | .iface _ d => uptoBulk d + 1
  | .map entries => uptoBulkEntries entries + 1
  | .held _ => 1
def uptoBulkAll {H : Type} : List (DataW H) → Nat
  | [] => 0
  | d :: r => uptoBulk d + uptoBulkAll r
def uptoBulkEntries {H : Type} : List (Lit × DataW H) → Nat
  | [] => 0
  | x :: r => uptoBulkEntry x + uptoBulkEntries r
def uptoBulkEntry {H : Type} : Lit × DataW H → Nat
  | (.string bytes, d) => bytes.length + uptoBulk d + 1
  | (_, d) => uptoBulk d + 1
 end
def uptoSmall : (H : Type) → List (DataW H) → Bool := fun _ ds => decide (uptoBulkAll ds ≤ 1048576)
def OpenSpec.upto (s : _root_.Go.ChangeSpec) : _root_.Go.OpenSpec := { _root_.Go.OpenSpec.ofChange s with cond := some uptoSmall }

/-- 'gatehouselaw4.EtherKnown', WHERE WHAT IT READS IS OF BULK AT MOST 1048576: true; the input reads as it did. -/
def etherKnownUptoRow : OpenClaim := { program := "ytgaobeoddlmnjaa", sum := "b656e680605d61c75fb6ed6c8d61cb1778aa8474ecfb5d5923bfb299b98628a2", func := "gatehouse/gatehouselaw4.EtherKnown", spec := "etherKnown", apart := false, narrowed := true }
def EtherKnownUptoSaid : Prop := etherKnownUptoRow.holds Try.pinned (OpenSpec.upto etherKnownSpec)

/-- 'gatehouselaw4.EtherSays', WHERE WHAT IT READS IS OF BULK AT MOST 1048576: true; the input reads as it did. -/
def etherSaysUptoRow : OpenClaim := { program := "ytgaobeoddlmnjaa", sum := "b656e680605d61c75fb6ed6c8d61cb1778aa8474ecfb5d5923bfb299b98628a2", func := "gatehouse/gatehouselaw4.EtherSays", spec := "etherSays", apart := false, narrowed := true }
def EtherSaysUptoSaid : Prop := etherSaysUptoRow.holds Try.pinned (OpenSpec.upto etherSaysSpec)

/-- 'gatehouselaw4.EtherBack', WHERE WHAT IT READS IS OF BULK AT MOST 1048576: true; the input reads as it did. -/
def etherBackUptoRow : OpenClaim := { program := "ytgaobeoddlmnjaa", sum := "b656e680605d61c75fb6ed6c8d61cb1778aa8474ecfb5d5923bfb299b98628a2", func := "gatehouse/gatehouselaw4.EtherBack", spec := "etherBack", apart := false, narrowed := true }
def EtherBackUptoSaid : Prop := etherBackUptoRow.holds Try.pinned (OpenSpec.upto etherBackSpec)

/-- 'gatehouselaw4.EtherSizes', WHERE WHAT IT READS IS OF BULK AT MOST 1048576: true; the input reads as it did. -/
def etherSizesUptoRow : OpenClaim := { program := "ytgaobeoddlmnjaa", sum := "b656e680605d61c75fb6ed6c8d61cb1778aa8474ecfb5d5923bfb299b98628a2", func := "gatehouse/gatehouselaw4.EtherSizes", spec := "etherSizes", apart := false, narrowed := true }
def EtherSizesUptoSaid : Prop := etherSizesUptoRow.holds Try.pinned (OpenSpec.upto etherSizesSpec)

/-- 'gatehouselaw4.EtherMine', WHERE WHAT IT READS IS OF BULK AT MOST 1048576: true; the input reads as it did. -/
def etherMineUptoRow : OpenClaim := { program := "ytgaobeoddlmnjaa", sum := "b656e680605d61c75fb6ed6c8d61cb1778aa8474ecfb5d5923bfb299b98628a2", func := "gatehouse/gatehouselaw4.EtherMine", spec := "etherMine", apart := false, narrowed := true }
def EtherMineUptoSaid : Prop := etherMineUptoRow.holds Try.pinned (OpenSpec.upto etherMineSpec)

end Rows
end Go.Proofs.Ytgaobeoddlmnjaa
