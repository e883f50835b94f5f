/-
  DERIVED. GIVEN WITH THE SEED: THE CARDS: each row of YthpmmfmanaefgaaGreatDoorRows.lean that lists a variable, with what it lists TIED to the program's text (the seventh form; the later family's looks); each row that meets fmt, with fmt's text TOLD by the authors' own Lean function (tested against real Go, not proved from fmt's source: count such statements apart). THE CARD IS WHAT COUNTS. Prove the row's statement (the work); the ties are given (YthpmmfmanaefgaaGreatDoorTie.lean); close each card by the builder's one call (the guide's Derived/Test/ToyasCard.lean, 'card_holds'). Laid BY PROGRAM, IN A SANDBOX (cutbox-door.mjs). By AI agents, Wed Nov 11 2026. No macro, syntax, notation, axiom, sorry.
-/
import Derived.Test.YthpmmfmanaefgaaGreatDoorRows
import GoSem.ClaimSeven
namespace Go.Proofs.YthpmmfmanaefgaaGreatDoor
namespace Rows

/-- THE TIED CARD OF 'laws.FnEntered'. -/
def fnEnteredCard : Claim7 := { stood := { row := fnEnteredRow, standIns := [], harness := (true, "63b6c6e6bc3edca2938ff70cd3a1102023d9a97b66f93317f5a9bb3593ea03b6"), looks := true }, kinds := [], alts := [], laidByText := true, laidKinds := [.data, .data, .data, .data, .sentinel, .sentinel, .data, .wider, .pinned], laidTests := true, laidLooks := .later }
def FnEnteredCardSaid : Prop := Claim7.holds Tryz.pinned (.plain (OpenSpec.ofChange fnEnteredSpec)) fnEnteredCard

/-- THE SECOND FORM's CARD OF 'laws.FnEntered'. -/
def fnEnteredUptoCard : Claim7 := { stood := { row := fnEnteredUptoRow, standIns := [], harness := (true, "63b6c6e6bc3edca2938ff70cd3a1102023d9a97b66f93317f5a9bb3593ea03b6"), looks := true }, kinds := [], alts := [], laidByText := true, laidKinds := [.data, .data, .data, .data, .sentinel, .sentinel, .data, .wider, .pinned], laidTests := true, laidLooks := .later }
def FnEnteredUptoCardSaid : Prop := Claim7.holds Tryz.pinned (.plain (OpenSpec.upto fnEnteredSpec)) fnEnteredUptoCard
end Rows
end Go.Proofs.YthpmmfmanaefgaaGreatDoor
