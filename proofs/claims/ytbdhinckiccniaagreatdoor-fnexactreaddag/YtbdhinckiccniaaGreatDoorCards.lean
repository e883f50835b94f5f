/-
  DERIVED. GIVEN WITH THE SEED: THE CARDS: each row of YtbdhinckiccniaaGreatDoorRows.lean that lists a variable, with what it lists TIED to the program's text (the seventh form; the later family's looks); each row that meets fmt, with fmt's text TOLD by the authors' own Lean function (tested against real Go, not proved from fmt's source: count such statements apart). THE CARD IS WHAT COUNTS. Prove the row's statement (the work); the ties are given (YtbdhinckiccniaaGreatDoorTie.lean); close each card by the builder's one call (the guide's Derived/Test/ToyasCard.lean, 'card_holds'). Laid BY PROGRAM, IN A SANDBOX (cutbox-door.mjs). By AI agents, Wed Nov 11 2026. No macro, syntax, notation, axiom, sorry.
-/
import Derived.Test.YtbdhinckiccniaaGreatDoorRows
import GoSem.ClaimSeven
namespace Go.Proofs.YtbdhinckiccniaaGreatDoor
namespace Rows

/-- THE TIED CARD OF 'laws.FnCleared'. -/
def fnClearedCard : Claim7 := { stood := { row := fnClearedRow, standIns := [], harness := (true, "7988ed57ad8a84d7e1485e7d113005353ac6b26295f9980d1fc7e9609650f541"), looks := true }, kinds := [], alts := [], laidByText := true, laidKinds := [.data, .data, .data, .data, .sentinel, .sentinel, .data, .wider, .pinned], laidTests := true, laidLooks := .later }
def FnClearedCardSaid : Prop := Claim7.holds Tryz.pinned (.plain (OpenSpec.ofChange fnClearedSpec)) fnClearedCard

/-- THE TIED CARD OF 'laws.FnExactReadDag'. -/
def fnExactReadDagCard : Claim7 := { stood := { row := fnExactReadDagRow, standIns := [], harness := (true, "7988ed57ad8a84d7e1485e7d113005353ac6b26295f9980d1fc7e9609650f541"), looks := true }, kinds := [], alts := [], laidByText := true, laidKinds := [.data, .data, .data, .data, .sentinel, .sentinel, .data, .wider, .pinned], laidTests := true, laidLooks := .later }
def FnExactReadDagCardSaid : Prop := Claim7.holds Tryz.pinned (.plain (OpenSpec.ofChange fnExactReadDagSpec)) fnExactReadDagCard

/-- THE SECOND FORM's CARD OF 'laws.FnCleared'. -/
def fnClearedUptoCard : Claim7 := { stood := { row := fnClearedUptoRow, standIns := [], harness := (true, "7988ed57ad8a84d7e1485e7d113005353ac6b26295f9980d1fc7e9609650f541"), looks := true }, kinds := [], alts := [], laidByText := true, laidKinds := [.data, .data, .data, .data, .sentinel, .sentinel, .data, .wider, .pinned], laidTests := true, laidLooks := .later }
def FnClearedUptoCardSaid : Prop := Claim7.holds Tryz.pinned (.plain (OpenSpec.upto fnClearedSpec)) fnClearedUptoCard

/-- THE SECOND FORM's CARD OF 'laws.FnExactReadDag'. -/
def fnExactReadDagUptoCard : Claim7 := { stood := { row := fnExactReadDagUptoRow, standIns := [], harness := (true, "7988ed57ad8a84d7e1485e7d113005353ac6b26295f9980d1fc7e9609650f541"), looks := true }, kinds := [], alts := [], laidByText := true, laidKinds := [.data, .data, .data, .data, .sentinel, .sentinel, .data, .wider, .pinned], laidTests := true, laidLooks := .later }
def FnExactReadDagUptoCardSaid : Prop := Claim7.holds Tryz.pinned (.plain (OpenSpec.upto fnExactReadDagSpec)) fnExactReadDagUptoCard
end Rows
end Go.Proofs.YtbdhinckiccniaaGreatDoor
