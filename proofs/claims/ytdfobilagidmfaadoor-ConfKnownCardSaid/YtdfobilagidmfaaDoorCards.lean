/-
  DERIVED. GIVEN WITH THE SEED: THE CARDS: each row of YtdfobilagidmfaaDoorRows.lean that lists a variable, with what it lists TIED to the program's text (the seventh form; the later family's looks); each row that meets fmt, with fmt's text TOLD by the authors' own Lean function (tested against real Go, not proved from fmt's source: count such statements apart). THE CARD IS WHAT COUNTS. Prove the row's statement (the work); the ties are given (YtdfobilagidmfaaDoorTie.lean); close each card by the builder's one call (the guide's Derived/Test/ToyasCard.lean, 'card_holds'). Laid BY PROGRAM, IN A SANDBOX (cutbox-door.mjs). By AI agents, Wed Nov 11 2026. No macro, syntax, notation, axiom, sorry.
-/
import Derived.Test.YtdfobilagidmfaaDoorRows
import GoSem.ClaimSeven
namespace Go.Proofs.YtdfobilagidmfaaDoor
namespace Rows

/-- THE TIED CARD OF 'gatehouselaw10.ConfKnown'. -/
def confKnownCard : Claim7 := { stood := { row := confKnownRow, standIns := [], harness := (true, "c19f5b5e830d83ea13f98d6c7f4658dbb549bd2449335fafa72636c0e4b6ec53"), looks := true }, kinds := [], alts := [], laidByText := true, laidKinds := [.data, .data, .data], laidTests := true, laidLooks := .later }
def ConfKnownCardSaid : Prop := Claim7.holds Tryd.pinned (.plain (OpenSpec.ofChange confKnownSpec)) confKnownCard

/-- THE TIED CARD OF 'gatehouselaw10.ConfChecks'. -/
def confChecksCard : Claim7 := { stood := { row := confChecksRow, standIns := [], harness := (true, "c19f5b5e830d83ea13f98d6c7f4658dbb549bd2449335fafa72636c0e4b6ec53"), looks := true }, kinds := [], alts := [], laidByText := true, laidKinds := [.data, .data, .data], laidTests := true, laidLooks := .later }
def ConfChecksCardSaid : Prop := Claim7.holds Tryd.pinned (.plain (OpenSpec.ofChange confChecksSpec)) confChecksCard

/-- THE TIED CARD OF 'gatehouselaw10.ConfBack'. -/
def confBackCard : Claim7 := { stood := { row := confBackRow, standIns := [], harness := (true, "c19f5b5e830d83ea13f98d6c7f4658dbb549bd2449335fafa72636c0e4b6ec53"), looks := true }, kinds := [], alts := [], laidByText := true, laidKinds := [.data, .data, .data], laidTests := true, laidLooks := .later }
def ConfBackCardSaid : Prop := Claim7.holds Tryd.pinned (.plain (OpenSpec.ofChange confBackSpec)) confBackCard

/-- THE TIED CARD OF 'gatehouselaw10.ConfNets'. -/
def confNetsCard : Claim7 := { stood := { row := confNetsRow, standIns := [], harness := (true, "c19f5b5e830d83ea13f98d6c7f4658dbb549bd2449335fafa72636c0e4b6ec53"), looks := true }, kinds := [], alts := [], laidByText := true, laidKinds := [.data, .data, .data], laidTests := true, laidLooks := .later }
def ConfNetsCardSaid : Prop := Claim7.holds Tryd.pinned (.plain (OpenSpec.ofChange confNetsSpec)) confNetsCard

/-- THE SECOND FORM's CARD OF 'gatehouselaw10.ConfKnown'. -/
def confKnownUptoCard : Claim7 := { stood := { row := confKnownUptoRow, standIns := [], harness := (true, "c19f5b5e830d83ea13f98d6c7f4658dbb549bd2449335fafa72636c0e4b6ec53"), looks := true }, kinds := [], alts := [], laidByText := true, laidKinds := [.data, .data, .data], laidTests := true, laidLooks := .later }
def ConfKnownUptoCardSaid : Prop := Claim7.holds Tryd.pinned (.plain (OpenSpec.upto confKnownSpec)) confKnownUptoCard

/-- THE SECOND FORM's CARD OF 'gatehouselaw10.ConfChecks'. -/
def confChecksUptoCard : Claim7 := { stood := { row := confChecksUptoRow, standIns := [], harness := (true, "c19f5b5e830d83ea13f98d6c7f4658dbb549bd2449335fafa72636c0e4b6ec53"), looks := true }, kinds := [], alts := [], laidByText := true, laidKinds := [.data, .data, .data], laidTests := true, laidLooks := .later }
def ConfChecksUptoCardSaid : Prop := Claim7.holds Tryd.pinned (.plain (OpenSpec.upto confChecksSpec)) confChecksUptoCard

/-- THE SECOND FORM's CARD OF 'gatehouselaw10.ConfBack'. -/
def confBackUptoCard : Claim7 := { stood := { row := confBackUptoRow, standIns := [], harness := (true, "c19f5b5e830d83ea13f98d6c7f4658dbb549bd2449335fafa72636c0e4b6ec53"), looks := true }, kinds := [], alts := [], laidByText := true, laidKinds := [.data, .data, .data], laidTests := true, laidLooks := .later }
def ConfBackUptoCardSaid : Prop := Claim7.holds Tryd.pinned (.plain (OpenSpec.upto confBackSpec)) confBackUptoCard

/-- THE SECOND FORM's CARD OF 'gatehouselaw10.ConfNets'. -/
def confNetsUptoCard : Claim7 := { stood := { row := confNetsUptoRow, standIns := [], harness := (true, "c19f5b5e830d83ea13f98d6c7f4658dbb549bd2449335fafa72636c0e4b6ec53"), looks := true }, kinds := [], alts := [], laidByText := true, laidKinds := [.data, .data, .data], laidTests := true, laidLooks := .later }
def ConfNetsUptoCardSaid : Prop := Claim7.holds Tryd.pinned (.plain (OpenSpec.upto confNetsSpec)) confNetsUptoCard
end Rows
end Go.Proofs.YtdfobilagidmfaaDoor
