/-
  DERIVED. GIVEN WITH THE SEED: THE CARDS: each row of YthdclafkcondmaaGreatDoorRows.lean that lists a variable, with what it lists TIED to the program's text (the seventh form; the later family's looks); each row that meets fmt, with fmt's text TOLD by the authors' own Lean function (tested against real Go, not proved from fmt's source: count such statements apart). THE CARD IS WHAT COUNTS. Prove the row's statement (the work); the ties are given (YthdclafkcondmaaGreatDoorTie.lean); close each card by the builder's one call (the guide's Derived/Test/ToyasCard.lean, 'card_holds'). Laid BY PROGRAM, IN A SANDBOX (cutbox-door.mjs). By AI agents, Wed Nov 11 2026. No macro, syntax, notation, axiom, sorry.
-/
import Derived.Test.YthdclafkcondmaaGreatDoorRows
import GoSem.ClaimSeven
namespace Go.Proofs.YthdclafkcondmaaGreatDoor
namespace Rows

/-- THE TIED CARD OF 'laws.FnFormulaTexts'. -/
def fnFormulaTextsCard : Claim7 := { stood := { row := fnFormulaTextsRow, standIns := [], harness := (true, "f35d96a16e053c756f82396ce5d59f2a160db2d316472e5e4f00c6ee9fc3a603"), looks := true }, kinds := [], alts := [], laidByText := true, laidKinds := [.data, .data, .data, .data, .sentinel, .sentinel, .data, .wider, .pinned], laidTests := true, laidLooks := .later }
def FnFormulaTextsCardSaid : Prop := Claim7.holds Tryz.pinned (.plain (OpenSpec.ofChange fnFormulaTextsSpec)) fnFormulaTextsCard

/-- THE TIED CARD OF 'laws.FnReadFormula'. -/
def fnReadFormulaCard : Claim7 := { stood := { row := fnReadFormulaRow, standIns := [], harness := (true, "f35d96a16e053c756f82396ce5d59f2a160db2d316472e5e4f00c6ee9fc3a603"), looks := true }, kinds := [], alts := [], laidByText := true, laidKinds := [.data, .data, .data, .data, .sentinel, .sentinel, .data, .wider, .pinned], laidTests := true, laidLooks := .later }
def FnReadFormulaCardSaid : Prop := Claim7.holds Tryz.pinned (.plain (OpenSpec.ofChange fnReadFormulaSpec)) fnReadFormulaCard

/-- THE TIED CARD OF 'laws.FnOpenedClosed'. -/
def fnOpenedClosedCard : Claim7 := { stood := { row := fnOpenedClosedRow, standIns := [], harness := (true, "f35d96a16e053c756f82396ce5d59f2a160db2d316472e5e4f00c6ee9fc3a603"), looks := true }, kinds := [], alts := [], laidByText := true, laidKinds := [.wider], laidTests := true, laidLooks := .later }
def FnOpenedClosedCardSaid : Prop := Claim7.holds Tryz.pinned (.plain (OpenSpec.ofChange fnOpenedClosedSpec)) fnOpenedClosedCard

/-- THE TIED CARD OF 'laws.FnInputs'. -/
def fnInputsCard : Claim7 := { stood := { row := fnInputsRow, standIns := [], harness := (true, "f35d96a16e053c756f82396ce5d59f2a160db2d316472e5e4f00c6ee9fc3a603"), looks := true }, kinds := [], alts := [], laidByText := true, laidKinds := [.data, .data, .data, .data, .sentinel, .sentinel, .data, .wider, .pinned], laidTests := true, laidLooks := .later }
def FnInputsCardSaid : Prop := Claim7.holds Tryz.pinned (.plain (OpenSpec.ofChange fnInputsSpec)) fnInputsCard

/-- THE SECOND FORM's CARD OF 'laws.FnFormulaTexts'. -/
def fnFormulaTextsUptoCard : Claim7 := { stood := { row := fnFormulaTextsUptoRow, standIns := [], harness := (true, "f35d96a16e053c756f82396ce5d59f2a160db2d316472e5e4f00c6ee9fc3a603"), looks := true }, kinds := [], alts := [], laidByText := true, laidKinds := [.data, .data, .data, .data, .sentinel, .sentinel, .data, .wider, .pinned], laidTests := true, laidLooks := .later }
def FnFormulaTextsUptoCardSaid : Prop := Claim7.holds Tryz.pinned (.plain (OpenSpec.upto fnFormulaTextsSpec)) fnFormulaTextsUptoCard

/-- THE SECOND FORM's CARD OF 'laws.FnReadFormula'. -/
def fnReadFormulaUptoCard : Claim7 := { stood := { row := fnReadFormulaUptoRow, standIns := [], harness := (true, "f35d96a16e053c756f82396ce5d59f2a160db2d316472e5e4f00c6ee9fc3a603"), looks := true }, kinds := [], alts := [], laidByText := true, laidKinds := [.data, .data, .data, .data, .sentinel, .sentinel, .data, .wider, .pinned], laidTests := true, laidLooks := .later }
def FnReadFormulaUptoCardSaid : Prop := Claim7.holds Tryz.pinned (.plain (OpenSpec.upto fnReadFormulaSpec)) fnReadFormulaUptoCard

/-- THE SECOND FORM's CARD OF 'laws.FnOpenedClosed'. -/
def fnOpenedClosedUptoCard : Claim7 := { stood := { row := fnOpenedClosedUptoRow, standIns := [], harness := (true, "f35d96a16e053c756f82396ce5d59f2a160db2d316472e5e4f00c6ee9fc3a603"), looks := true }, kinds := [], alts := [], laidByText := true, laidKinds := [.wider], laidTests := true, laidLooks := .later }
def FnOpenedClosedUptoCardSaid : Prop := Claim7.holds Tryz.pinned (.plain (OpenSpec.upto fnOpenedClosedSpec)) fnOpenedClosedUptoCard

/-- THE SECOND FORM's CARD OF 'laws.FnInputs'. -/
def fnInputsUptoCard : Claim7 := { stood := { row := fnInputsUptoRow, standIns := [], harness := (true, "f35d96a16e053c756f82396ce5d59f2a160db2d316472e5e4f00c6ee9fc3a603"), looks := true }, kinds := [], alts := [], laidByText := true, laidKinds := [.data, .data, .data, .data, .sentinel, .sentinel, .data, .wider, .pinned], laidTests := true, laidLooks := .later }
def FnInputsUptoCardSaid : Prop := Claim7.holds Tryz.pinned (.plain (OpenSpec.upto fnInputsSpec)) fnInputsUptoCard
end Rows
end Go.Proofs.YthdclafkcondmaaGreatDoor
