/-
  DERIVED. GIVEN WITH THE SEED: THE CARDS: each row of YtholgadifhjmgaaDoorRows.lean that lists a variable, with what it lists TIED to the program's text (the seventh form; the later family's looks); each row that meets fmt, with fmt's text TOLD by the authors' own Lean function (tested against real Go, not proved from fmt's source: count such statements apart). THE CARD IS WHAT COUNTS. Prove the row's statement (the work); the ties are given (YtholgadifhjmgaaDoorTie.lean); close each card by the builder's one call (the guide's Derived/Test/ToyasCard.lean, 'card_holds'). Laid BY PROGRAM, IN A SANDBOX (cutbox-door.mjs). By AI agents, Wed Nov 11 2026. No macro, syntax, notation, axiom, sorry.
-/
import Derived.Test.YtholgadifhjmgaaDoorRows
import GoSem.ClaimSeven
namespace Go.Proofs.YtholgadifhjmgaaDoor
namespace Rows

/-- THE TIED CARD OF 'gatehouselaw20.NameKnown'. -/
def nameKnownCard : Claim7 := { stood := { row := nameKnownRow, standIns := [], harness := (true, "62e9ccde194f5768540716cd90e5d50bb0addeab5fd341286e9d76594bfe64cd"), looks := false }, kinds := [], alts := [], laidByText := true, laidKinds := [.data, .pinned], laidTests := true, laidLooks := .later }
def NameKnownCardSaid : Prop := Claim7.holds Tryd.pinned (.plain (OpenSpec.ofChange nameKnownSpec)) nameKnownCard

/-- THE TIED CARD OF 'gatehouselaw20.NameReads'. -/
def nameReadsCard : Claim7 := { stood := { row := nameReadsRow, standIns := [], harness := (true, "62e9ccde194f5768540716cd90e5d50bb0addeab5fd341286e9d76594bfe64cd"), looks := false }, kinds := [], alts := [], laidByText := true, laidKinds := [.data, .pinned], laidTests := true, laidLooks := .later }
def NameReadsCardSaid : Prop := Claim7.holds Tryd.pinned (.plain (OpenSpec.ofChange nameReadsSpec)) nameReadsCard

/-- THE TIED CARD OF 'gatehouselaw20.NameWrites'. -/
def nameWritesCard : Claim7 := { stood := { row := nameWritesRow, standIns := [], harness := (true, "62e9ccde194f5768540716cd90e5d50bb0addeab5fd341286e9d76594bfe64cd"), looks := false }, kinds := [], alts := [], laidByText := true, laidKinds := [.data, .pinned], laidTests := true, laidLooks := .later }
def NameWritesCardSaid : Prop := Claim7.holds Tryd.pinned (.plain (OpenSpec.ofChange nameWritesSpec)) nameWritesCard

/-- THE TIED CARD OF 'gatehouselaw20.NameTexts'. -/
def nameTextsCard : Claim7 := { stood := { row := nameTextsRow, standIns := [], harness := (true, "62e9ccde194f5768540716cd90e5d50bb0addeab5fd341286e9d76594bfe64cd"), looks := false }, kinds := [], alts := [], laidByText := true, laidKinds := [.data, .pinned], laidTests := true, laidLooks := .later }
def NameTextsCardSaid : Prop := Claim7.holds Tryd.pinned (.plain (OpenSpec.ofChange nameTextsSpec)) nameTextsCard

/-- THE TIED CARD OF 'gatehouselaw20.NameBack'. -/
def nameBackCard : Claim7 := { stood := { row := nameBackRow, standIns := [], harness := (true, "62e9ccde194f5768540716cd90e5d50bb0addeab5fd341286e9d76594bfe64cd"), looks := false }, kinds := [], alts := [], laidByText := true, laidKinds := [.data, .pinned], laidTests := true, laidLooks := .later }
def NameBackCardSaid : Prop := Claim7.holds Tryd.pinned (.plain (OpenSpec.ofChange nameBackSpec)) nameBackCard

/-- THE TIED CARD OF 'gatehouselaw20.NameLeads'. -/
def nameLeadsCard : Claim7 := { stood := { row := nameLeadsRow, standIns := [], harness := (true, "62e9ccde194f5768540716cd90e5d50bb0addeab5fd341286e9d76594bfe64cd"), looks := false }, kinds := [], alts := [], laidByText := true, laidKinds := [.data, .pinned], laidTests := true, laidLooks := .later }
def NameLeadsCardSaid : Prop := Claim7.holds Tryd.pinned (.plain (OpenSpec.ofChange nameLeadsSpec)) nameLeadsCard

/-- THE TIED CARD OF 'gatehouselaw20.NameCases'. -/
def nameCasesCard : Claim7 := { stood := { row := nameCasesRow, standIns := [], harness := (true, "62e9ccde194f5768540716cd90e5d50bb0addeab5fd341286e9d76594bfe64cd"), looks := false }, kinds := [], alts := [], laidByText := true, laidKinds := [.data, .pinned], laidTests := true, laidLooks := .later }
def NameCasesCardSaid : Prop := Claim7.holds Tryd.pinned (.plain (OpenSpec.ofChange nameCasesSpec)) nameCasesCard

/-- THE SECOND FORM's CARD OF 'gatehouselaw20.NameKnown'. -/
def nameKnownUptoCard : Claim7 := { stood := { row := nameKnownUptoRow, standIns := [], harness := (true, "62e9ccde194f5768540716cd90e5d50bb0addeab5fd341286e9d76594bfe64cd"), looks := false }, kinds := [], alts := [], laidByText := true, laidKinds := [.data, .pinned], laidTests := true, laidLooks := .later }
def NameKnownUptoCardSaid : Prop := Claim7.holds Tryd.pinned (.plain (OpenSpec.upto nameKnownSpec)) nameKnownUptoCard

/-- THE SECOND FORM's CARD OF 'gatehouselaw20.NameReads'. -/
def nameReadsUptoCard : Claim7 := { stood := { row := nameReadsUptoRow, standIns := [], harness := (true, "62e9ccde194f5768540716cd90e5d50bb0addeab5fd341286e9d76594bfe64cd"), looks := false }, kinds := [], alts := [], laidByText := true, laidKinds := [.data, .pinned], laidTests := true, laidLooks := .later }
def NameReadsUptoCardSaid : Prop := Claim7.holds Tryd.pinned (.plain (OpenSpec.upto nameReadsSpec)) nameReadsUptoCard

/-- THE SECOND FORM's CARD OF 'gatehouselaw20.NameWrites'. -/
def nameWritesUptoCard : Claim7 := { stood := { row := nameWritesUptoRow, standIns := [], harness := (true, "62e9ccde194f5768540716cd90e5d50bb0addeab5fd341286e9d76594bfe64cd"), looks := false }, kinds := [], alts := [], laidByText := true, laidKinds := [.data, .pinned], laidTests := true, laidLooks := .later }
def NameWritesUptoCardSaid : Prop := Claim7.holds Tryd.pinned (.plain (OpenSpec.upto nameWritesSpec)) nameWritesUptoCard

/-- THE SECOND FORM's CARD OF 'gatehouselaw20.NameTexts'. -/
def nameTextsUptoCard : Claim7 := { stood := { row := nameTextsUptoRow, standIns := [], harness := (true, "62e9ccde194f5768540716cd90e5d50bb0addeab5fd341286e9d76594bfe64cd"), looks := false }, kinds := [], alts := [], laidByText := true, laidKinds := [.data, .pinned], laidTests := true, laidLooks := .later }
def NameTextsUptoCardSaid : Prop := Claim7.holds Tryd.pinned (.plain (OpenSpec.upto nameTextsSpec)) nameTextsUptoCard

/-- THE SECOND FORM's CARD OF 'gatehouselaw20.NameBack'. -/
def nameBackUptoCard : Claim7 := { stood := { row := nameBackUptoRow, standIns := [], harness := (true, "62e9ccde194f5768540716cd90e5d50bb0addeab5fd341286e9d76594bfe64cd"), looks := false }, kinds := [], alts := [], laidByText := true, laidKinds := [.data, .pinned], laidTests := true, laidLooks := .later }
def NameBackUptoCardSaid : Prop := Claim7.holds Tryd.pinned (.plain (OpenSpec.upto nameBackSpec)) nameBackUptoCard

/-- THE SECOND FORM's CARD OF 'gatehouselaw20.NameLeads'. -/
def nameLeadsUptoCard : Claim7 := { stood := { row := nameLeadsUptoRow, standIns := [], harness := (true, "62e9ccde194f5768540716cd90e5d50bb0addeab5fd341286e9d76594bfe64cd"), looks := false }, kinds := [], alts := [], laidByText := true, laidKinds := [.data, .pinned], laidTests := true, laidLooks := .later }
def NameLeadsUptoCardSaid : Prop := Claim7.holds Tryd.pinned (.plain (OpenSpec.upto nameLeadsSpec)) nameLeadsUptoCard

/-- THE SECOND FORM's CARD OF 'gatehouselaw20.NameCases'. -/
def nameCasesUptoCard : Claim7 := { stood := { row := nameCasesUptoRow, standIns := [], harness := (true, "62e9ccde194f5768540716cd90e5d50bb0addeab5fd341286e9d76594bfe64cd"), looks := false }, kinds := [], alts := [], laidByText := true, laidKinds := [.data, .pinned], laidTests := true, laidLooks := .later }
def NameCasesUptoCardSaid : Prop := Claim7.holds Tryd.pinned (.plain (OpenSpec.upto nameCasesSpec)) nameCasesUptoCard
end Rows
end Go.Proofs.YtholgadifhjmgaaDoor
