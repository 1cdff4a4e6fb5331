/-
  No cell of these rows narrows 'for every input' (looked for: loops, veiled, ifaces, maps, wideKeys, modest, calm, conditions, laid).
  DERIVED. THE GIVEN ROWS OF THIS SEAT. 5 by the template 'for every input the law returns true; each argument reads behind the call as it read before'; 0 by the template 'total and deterministic' (their statements: YtjedknjlpeccbaaTotals.lean).
  GIVEN WITH THE SEED: the statements are not yours to turn. If you find one false, say at which input.
  Laid BY PROGRAM, IN A SANDBOX (cutbox-rows.mjs): the forced cells as the released guide's own fill.sh prints them over the translation 7345ef3a23b4f317… (all of the seat's roots in one cut). By AI agents, Wed Nov 11 2026. No macro, syntax, notation, axiom, sorry.
-/
import Derived.Test.YtjedknjlpeccbaaChecked
import GoSem.Claim
import GoSem.ClaimJoined
import GoSem.ClaimMapViews
import Derived.JoinedTies
import Derived.KernelRfl
namespace Go.Proofs.Ytjedknjlpeccbaa
/- THE CELL 'sum', in the pinned program and in every row, IS THE sha256 OF THE DUMP (.gsa) THAT YtjedknjlpeccbaaProg.lean LOADS. Nothing in Lean hashes anything: it is a label: what it is worth is what the hold of that sum in a sandbox is worth. -/
noncomputable def Try.pinned : Pinned := { name := "ytjedknjlpeccbaa", sum := "7345ef3a23b4f3178dc2f8a392195785c7b281d69541a486bcc1e98fe1cd1c81", checked := Try.checked }
namespace Rows
def none {H : Type} : Left H := { results := [], args := [] }

/-- 'gatehouselaw21.DnsKnown': WHATEVER THE INPUT: true; the input reads as it did. -/
def dnsKnownSpec : ChangeSpec := { name := "dnsKnown", fn := fun _ => fun
  | [] => { results := [.lit (.bool true)], args := [] }
  | _ => none }
def dnsKnownRow : OpenClaim := { program := "ytjedknjlpeccbaa", sum := "7345ef3a23b4f3178dc2f8a392195785c7b281d69541a486bcc1e98fe1cd1c81", func := "gatehouse/gatehouselaw21.DnsKnown", spec := "dnsKnown", unfollowed := true, recurses := true, apart := false }
def DnsKnownSaid : Prop := dnsKnownRow.holds Try.pinned (OpenSpec.ofChange dnsKnownSpec)

/-- ITS FALSE NEIGHBOUR: 'it returns false'. Refute it at one input. -/
def dnsKnownWrong : ChangeSpec := { name := "dnsKnown", fn := fun _ => fun
  | [] => { results := [.lit (.bool false)], args := [] }
  | _ => none }
def DnsKnownWrongFalsely : Prop := dnsKnownRow.holds Try.pinned (OpenSpec.ofChange dnsKnownWrong)

/-- 'gatehouselaw21.DnsReads': WHATEVER THE INPUT: true; the input reads as it did. -/
def dnsReadsSpec : ChangeSpec := { name := "dnsReads", fn := fun _ => fun
  | [d] => { results := [.lit (.bool true)], args := [d] }
  | _ => none }
def dnsReadsRow : OpenClaim := { program := "ytjedknjlpeccbaa", sum := "7345ef3a23b4f3178dc2f8a392195785c7b281d69541a486bcc1e98fe1cd1c81", func := "gatehouse/gatehouselaw21.DnsReads", spec := "dnsReads", unfollowed := true, recurses := true, apart := false }
def DnsReadsSaid : Prop := dnsReadsRow.holds Try.pinned (OpenSpec.ofChange dnsReadsSpec)

/-- ITS FALSE NEIGHBOUR: 'it returns false'. Refute it at one input. -/
def dnsReadsWrong : ChangeSpec := { name := "dnsReads", fn := fun _ => fun
  | [d] => { results := [.lit (.bool false)], args := [d] }
  | _ => none }
def DnsReadsWrongFalsely : Prop := dnsReadsRow.holds Try.pinned (OpenSpec.ofChange dnsReadsWrong)

/-- 'gatehouselaw21.DnsWrites': WHATEVER THE INPUT: true; the input reads as it did. -/
def dnsWritesSpec : ChangeSpec := { name := "dnsWrites", fn := fun _ => fun
  | [d1, d2] => { results := [.lit (.bool true)], args := [d1, d2] }
  | _ => none }
def dnsWritesRow : OpenClaim := { program := "ytjedknjlpeccbaa", sum := "7345ef3a23b4f3178dc2f8a392195785c7b281d69541a486bcc1e98fe1cd1c81", func := "gatehouse/gatehouselaw21.DnsWrites", spec := "dnsWrites", unfollowed := true, recurses := true, apart := false }
def DnsWritesSaid : Prop := dnsWritesRow.holds Try.pinned (OpenSpec.ofChange dnsWritesSpec)

/-- ITS FALSE NEIGHBOUR: 'it returns false'. Refute it at one input. -/
def dnsWritesWrong : ChangeSpec := { name := "dnsWrites", fn := fun _ => fun
  | [d1, d2] => { results := [.lit (.bool false)], args := [d1, d2] }
  | _ => none }
def DnsWritesWrongFalsely : Prop := dnsWritesRow.holds Try.pinned (OpenSpec.ofChange dnsWritesWrong)

/-- 'gatehouselaw21.DnsBack': WHATEVER THE INPUT: true; the input reads as it did. -/
def dnsBackSpec : ChangeSpec := { name := "dnsBack", fn := fun _ => fun
  | [d] => { results := [.lit (.bool true)], args := [d] }
  | _ => none }
def dnsBackRow : OpenClaim := { program := "ytjedknjlpeccbaa", sum := "7345ef3a23b4f3178dc2f8a392195785c7b281d69541a486bcc1e98fe1cd1c81", func := "gatehouse/gatehouselaw21.DnsBack", spec := "dnsBack", unfollowed := true, recurses := true, apart := false }
def DnsBackSaid : Prop := dnsBackRow.holds Try.pinned (OpenSpec.ofChange dnsBackSpec)

/-- ITS FALSE NEIGHBOUR: 'it returns false'. Refute it at one input. -/
def dnsBackWrong : ChangeSpec := { name := "dnsBack", fn := fun _ => fun
  | [d] => { results := [.lit (.bool false)], args := [d] }
  | _ => none }
def DnsBackWrongFalsely : Prop := dnsBackRow.holds Try.pinned (OpenSpec.ofChange dnsBackWrong)

/-- 'gatehouselaw21.DnsRefuses': WHATEVER THE INPUT: true; the input reads as it did. -/
def dnsRefusesSpec : ChangeSpec := { name := "dnsRefuses", fn := fun _ => fun
  | [d1, d2] => { results := [.lit (.bool true)], args := [d1, d2] }
  | _ => none }
def dnsRefusesRow : OpenClaim := { program := "ytjedknjlpeccbaa", sum := "7345ef3a23b4f3178dc2f8a392195785c7b281d69541a486bcc1e98fe1cd1c81", func := "gatehouse/gatehouselaw21.DnsRefuses", spec := "dnsRefuses", unfollowed := true, recurses := true, apart := false }
def DnsRefusesSaid : Prop := dnsRefusesRow.holds Try.pinned (OpenSpec.ofChange dnsRefusesSpec)

/-- ITS FALSE NEIGHBOUR: 'it returns false'. Refute it at one input. -/
def dnsRefusesWrong : ChangeSpec := { name := "dnsRefuses", fn := fun _ => fun
  | [d1, d2] => { results := [.lit (.bool false)], args := [d1, d2] }
  | _ => none }
def DnsRefusesWrongFalsely : Prop := dnsRefusesRow.holds Try.pinned (OpenSpec.ofChange dnsRefusesWrong)

/- THE SECOND FORM. 'bulk': how many values and letters a reading holds, each counted each time it is reached (what is shared counts as often as it is met; a slice's spare places count too). A statement '..UptoSaid' is the law's where the arguments, and the package variables that the reading takes, are together of bulk at most 1048576: NARROWER than '..Said'. Prove '..Said' where nothing that the law and all that it calls make is longer than what came in: it says more and counts as full. Else prove '..UptoSaid'. A law counts once. -/
mutual
def uptoBulk {H : Type} : DataW H → Nat
  | .lit (.string bytes) => bytes.length + 1
  | .lit _ => 1
  | .nil => 1
  | .ptr d => uptoBulk d + 1
  | .slice elems spare => uptoBulkAll elems + uptoBulkAll spare + 1
  | .agg parts => uptoBulkAll parts + 1
  | .iface _ d => uptoBulk d + 1
  | .map entries => uptoBulkEntries entries + 1
  | .held _ => 1
def uptoBulkAll {H : Type} : List (DataW H) → Nat
  | [] => 0
  | d :: r => uptoBulk d + uptoBulkAll r
def uptoBulkEntries {H : Type} : List (Lit × DataW H) → Nat
  | [] => 0
  | x :: r => uptoBulkEntry x + uptoBulkEntries r
def uptoBulkEntry {H : Type} : Lit × DataW H → Nat
  | (.string bytes, d) => bytes.length + uptoBulk d + 1
  | (_, d) => uptoBulk d + 1
 end
def uptoSmall : (H : Type) → List (DataW H) → Bool := fun _ ds => decide (uptoBulkAll ds ≤ 1048576)
def OpenSpec.upto (s : _root_.Go.ChangeSpec) : _root_.Go.OpenSpec := { _root_.Go.OpenSpec.ofChange s with cond := some uptoSmall }

/-- 'gatehouselaw21.DnsKnown', WHERE WHAT IT READS IS OF BULK AT MOST 1048576: true; the input reads as it did. -/
def dnsKnownUptoRow : OpenClaim := { program := "ytjedknjlpeccbaa", sum := "7345ef3a23b4f3178dc2f8a392195785c7b281d69541a486bcc1e98fe1cd1c81", func := "gatehouse/gatehouselaw21.DnsKnown", spec := "dnsKnown", unfollowed := true, recurses := true, apart := false, narrowed := true }
def DnsKnownUptoSaid : Prop := dnsKnownUptoRow.holds Try.pinned (OpenSpec.upto dnsKnownSpec)

/-- 'gatehouselaw21.DnsReads', WHERE WHAT IT READS IS OF BULK AT MOST 1048576: true; the input reads as it did. -/
def dnsReadsUptoRow : OpenClaim := { program := "ytjedknjlpeccbaa", sum := "7345ef3a23b4f3178dc2f8a392195785c7b281d69541a486bcc1e98fe1cd1c81", func := "gatehouse/gatehouselaw21.DnsReads", spec := "dnsReads", unfollowed := true, recurses := true, apart := false, narrowed := true }
def DnsReadsUptoSaid : Prop := dnsReadsUptoRow.holds Try.pinned (OpenSpec.upto dnsReadsSpec)

/-- 'gatehouselaw21.DnsWrites', WHERE WHAT IT READS IS OF BULK AT MOST 1048576: true; the input reads as it did. -/
def dnsWritesUptoRow : OpenClaim := { program := "ytjedknjlpeccbaa", sum := "7345ef3a23b4f3178dc2f8a392195785c7b281d69541a486bcc1e98fe1cd1c81", func := "gatehouse/gatehouselaw21.DnsWrites", spec := "dnsWrites", unfollowed := true, recurses := true, apart := false, narrowed := true }
def DnsWritesUptoSaid : Prop := dnsWritesUptoRow.holds Try.pinned (OpenSpec.upto dnsWritesSpec)

/-- 'gatehouselaw21.DnsBack', WHERE WHAT IT READS IS OF BULK AT MOST 1048576: true; the input reads as it did. -/
def dnsBackUptoRow : OpenClaim := { program := "ytjedknjlpeccbaa", sum := "7345ef3a23b4f3178dc2f8a392195785c7b281d69541a486bcc1e98fe1cd1c81", func := "gatehouse/gatehouselaw21.DnsBack", spec := "dnsBack", unfollowed := true, recurses := true, apart := false, narrowed := true }
def DnsBackUptoSaid : Prop := dnsBackUptoRow.holds Try.pinned (OpenSpec.upto dnsBackSpec)

/-- 'gatehouselaw21.DnsRefuses', WHERE WHAT IT READS IS OF BULK AT MOST 1048576: true; the input reads as it did. -/
def dnsRefusesUptoRow : OpenClaim := { program := "ytjedknjlpeccbaa", sum := "7345ef3a23b4f3178dc2f8a392195785c7b281d69541a486bcc1e98fe1cd1c81", func := "gatehouse/gatehouselaw21.DnsRefuses", spec := "dnsRefuses", unfollowed := true, recurses := true, apart := false, narrowed := true }
def DnsRefusesUptoSaid : Prop := dnsRefusesUptoRow.holds Try.pinned (OpenSpec.upto dnsRefusesSpec)

end Rows
end Go.Proofs.Ytjedknjlpeccbaa
