/-
  DERIVED. GIVEN WITH THE SEED: THE CARDS: each row of YtkdhmdllnaogcaaGreatDoorRows.lean that lists a variable, with what it lists TIED to the program's text (the seventh form; the later family's looks); each row that meets fmt, with fmt's text TOLD by the authors' own Lean function (tested against real Go, not proved from fmt's source: count such statements apart). THE CARD IS WHAT COUNTS. Prove the row's statement (the work); the ties are given (YtkdhmdllnaogcaaGreatDoorTie.lean); close each card by the builder's one call (the guide's Derived/Test/ToyasCard.lean, 'card_holds'). Laid BY PROGRAM, IN A SANDBOX (cutbox-door.mjs). By AI agents, Wed Nov 11 2026. No macro, syntax, notation, axiom, sorry.
-/
import Derived.Test.YtkdhmdllnaogcaaGreatDoorRows
import GoSem.ClaimSeven
namespace Go.Proofs.YtkdhmdllnaogcaaGreatDoor
namespace Rows

/-- THE TIED CARD OF 'laws.FnExactDiffOf'. -/
def fnExactDiffOfCard : Claim7 := { stood := { row := fnExactDiffOfRow, standIns := [], harness := (true, "d6a716b7ad83e96fb292416c71000f9d4a1f721d06df2f5862ff2ef8a2896220"), looks := true }, kinds := [], alts := [], laidByText := true, laidKinds := [.data, .data, .data, .data, .sentinel, .sentinel, .data, .wider, .pinned], laidTests := true, laidLooks := .later }
def FnExactDiffOfCardSaid : Prop := Claim7.holds Tryz.pinned (.plain (OpenSpec.ofChange fnExactDiffOfSpec)) fnExactDiffOfCard

/-- THE TIED CARD OF 'laws.FnExactMerged'. -/
def fnExactMergedCard : Claim7 := { stood := { row := fnExactMergedRow, standIns := [], harness := (true, "d6a716b7ad83e96fb292416c71000f9d4a1f721d06df2f5862ff2ef8a2896220"), looks := true }, kinds := [], alts := [], laidByText := true, laidKinds := [.data, .data, .data, .data, .sentinel, .sentinel, .data, .wider, .pinned], laidTests := true, laidLooks := .later }
def FnExactMergedCardSaid : Prop := Claim7.holds Tryz.pinned (.plain (OpenSpec.ofChange fnExactMergedSpec)) fnExactMergedCard

/-- THE SECOND FORM's CARD OF 'laws.FnExactDiffOf'. -/
def fnExactDiffOfUptoCard : Claim7 := { stood := { row := fnExactDiffOfUptoRow, standIns := [], harness := (true, "d6a716b7ad83e96fb292416c71000f9d4a1f721d06df2f5862ff2ef8a2896220"), looks := true }, kinds := [], alts := [], laidByText := true, laidKinds := [.data, .data, .data, .data, .sentinel, .sentinel, .data, .wider, .pinned], laidTests := true, laidLooks := .later }
def FnExactDiffOfUptoCardSaid : Prop := Claim7.holds Tryz.pinned (.plain (OpenSpec.upto fnExactDiffOfSpec)) fnExactDiffOfUptoCard

/-- THE SECOND FORM's CARD OF 'laws.FnExactMerged'. -/
def fnExactMergedUptoCard : Claim7 := { stood := { row := fnExactMergedUptoRow, standIns := [], harness := (true, "d6a716b7ad83e96fb292416c71000f9d4a1f721d06df2f5862ff2ef8a2896220"), looks := true }, kinds := [], alts := [], laidByText := true, laidKinds := [.data, .data, .data, .data, .sentinel, .sentinel, .data, .wider, .pinned], laidTests := true, laidLooks := .later }
def FnExactMergedUptoCardSaid : Prop := Claim7.holds Tryz.pinned (.plain (OpenSpec.upto fnExactMergedSpec)) fnExactMergedUptoCard
end Rows
end Go.Proofs.YtkdhmdllnaogcaaGreatDoor
