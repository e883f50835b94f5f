/-
  DERIVED. GIVEN WITH THE SEED: THE CARDS: each row of YtdcokcbolecanaaGreatDoorRows.lean that lists a variable, with what it lists TIED to the program's text (the seventh form; the later family's looks); each row that meets fmt, with fmt's text TOLD by the authors' own Lean function (tested against real Go, not proved from fmt's source: count such statements apart). THE CARD IS WHAT COUNTS. Prove the row's statement (the work); the ties are given (YtdcokcbolecanaaGreatDoorTie.lean); close each card by the builder's one call (the guide's Derived/Test/ToyasCard.lean, 'card_holds'). Laid BY PROGRAM, IN A SANDBOX (cutbox-door.mjs). By AI agents, Wed Nov 11 2026. No macro, syntax, notation, axiom, sorry.
-/
import Derived.Test.YtdcokcbolecanaaGreatDoorRows
import GoSem.ClaimSeven
namespace Go.Proofs.YtdcokcbolecanaaGreatDoor
namespace Rows

/-- THE TIED CARD OF 'laws.FnExactDagText'. -/
def fnExactDagTextCard : Claim7 := { stood := { row := fnExactDagTextRow, standIns := [], harness := (true, "f583795ac58a283f3a707ddda5680798a3d2e43440dedbdc687901014be0b61b"), looks := true }, kinds := [], alts := [], laidByText := true, laidKinds := [.data, .data, .data, .data, .sentinel, .sentinel, .data, .wider, .pinned], laidTests := true, laidLooks := .later }
def FnExactDagTextCardSaid : Prop := Claim7.holds Tryz.pinned (.plain (OpenSpec.ofChange fnExactDagTextSpec)) fnExactDagTextCard

/-- THE SECOND FORM's CARD OF 'laws.FnExactDagText'. -/
def fnExactDagTextUptoCard : Claim7 := { stood := { row := fnExactDagTextUptoRow, standIns := [], harness := (true, "f583795ac58a283f3a707ddda5680798a3d2e43440dedbdc687901014be0b61b"), looks := true }, kinds := [], alts := [], laidByText := true, laidKinds := [.data, .data, .data, .data, .sentinel, .sentinel, .data, .wider, .pinned], laidTests := true, laidLooks := .later }
def FnExactDagTextUptoCardSaid : Prop := Claim7.holds Tryz.pinned (.plain (OpenSpec.upto fnExactDagTextSpec)) fnExactDagTextUptoCard
end Rows
end Go.Proofs.YtdcokcbolecanaaGreatDoor
