/-
  DERIVED. GIVEN WITH THE SEED: THE CARDS: each row of YthjpfkpcemgefaaGreatDoorRows.lean that lists a variable, with what it lists TIED to the program's text (the seventh form; the later family's looks); each row that meets fmt, with fmt's text TOLD by the authors' own Lean function (tested against real Go, not proved from fmt's source: count such statements apart). THE CARD IS WHAT COUNTS. Prove the row's statement (the work); the ties are given (YthjpfkpcemgefaaGreatDoorTie.lean); close each card by the builder's one call (the guide's Derived/Test/ToyasCard.lean, 'card_holds'). Laid BY PROGRAM, IN A SANDBOX (cutbox-door.mjs). By AI agents, Wed Nov 11 2026. No macro, syntax, notation, axiom, sorry.
-/
import Derived.Test.YthjpfkpcemgefaaGreatDoorRows
import GoSem.ClaimSeven
namespace Go.Proofs.YthjpfkpcemgefaaGreatDoor
namespace Rows

/-- THE TIED CARD OF 'laws.FnFormulaTexts'. -/
def fnFormulaTextsCard : Claim7 := { stood := { row := fnFormulaTextsRow, standIns := [], harness := (true, "b24930acded97420cd7c3e3c8df27a7795d8e447f7af0234b929b429abc4b6b5"), looks := true }, kinds := [], alts := [], laidByText := true, laidKinds := [.data, .data, .data, .data, .sentinel, .sentinel, .data, .wider, .pinned], laidTests := true, laidLooks := .later }
def FnFormulaTextsCardSaid : Prop := Claim7.holds Tryz.pinned (.plain (OpenSpec.ofChange fnFormulaTextsSpec)) fnFormulaTextsCard

/-- THE TIED CARD OF 'laws.FnReadFormula'. -/
def fnReadFormulaCard : Claim7 := { stood := { row := fnReadFormulaRow, standIns := [], harness := (true, "b24930acded97420cd7c3e3c8df27a7795d8e447f7af0234b929b429abc4b6b5"), looks := true }, kinds := [], alts := [], laidByText := true, laidKinds := [.data, .data, .data, .data, .sentinel, .sentinel, .data, .wider, .pinned], laidTests := true, laidLooks := .later }
def FnReadFormulaCardSaid : Prop := Claim7.holds Tryz.pinned (.plain (OpenSpec.ofChange fnReadFormulaSpec)) fnReadFormulaCard

/-- THE SECOND FORM's CARD OF 'laws.FnFormulaTexts'. -/
def fnFormulaTextsUptoCard : Claim7 := { stood := { row := fnFormulaTextsUptoRow, standIns := [], harness := (true, "b24930acded97420cd7c3e3c8df27a7795d8e447f7af0234b929b429abc4b6b5"), looks := true }, kinds := [], alts := [], laidByText := true, laidKinds := [.data, .data, .data, .data, .sentinel, .sentinel, .data, .wider, .pinned], laidTests := true, laidLooks := .later }
def FnFormulaTextsUptoCardSaid : Prop := Claim7.holds Tryz.pinned (.plain (OpenSpec.upto fnFormulaTextsSpec)) fnFormulaTextsUptoCard

/-- THE SECOND FORM's CARD OF 'laws.FnReadFormula'. -/
def fnReadFormulaUptoCard : Claim7 := { stood := { row := fnReadFormulaUptoRow, standIns := [], harness := (true, "b24930acded97420cd7c3e3c8df27a7795d8e447f7af0234b929b429abc4b6b5"), looks := true }, kinds := [], alts := [], laidByText := true, laidKinds := [.data, .data, .data, .data, .sentinel, .sentinel, .data, .wider, .pinned], laidTests := true, laidLooks := .later }
def FnReadFormulaUptoCardSaid : Prop := Claim7.holds Tryz.pinned (.plain (OpenSpec.upto fnReadFormulaSpec)) fnReadFormulaUptoCard
end Rows
end Go.Proofs.YthjpfkpcemgefaaGreatDoor
