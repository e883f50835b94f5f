/-
  DERIVED. GIVEN WITH THE SEED: THE CARDS: each row of YthjldgbfgapbcaaGreatDoorRows.lean that lists a variable, with what it lists TIED to the program's text (the seventh form; the later family's looks); each row that meets fmt, with fmt's text TOLD by the authors' own Lean function (tested against real Go, not proved from fmt's source: count such statements apart). THE CARD IS WHAT COUNTS. Prove the row's statement (the work); the ties are given (YthjldgbfgapbcaaGreatDoorTie.lean); close each card by the builder's one call (the guide's Derived/Test/ToyasCard.lean, 'card_holds'). Laid BY PROGRAM, IN A SANDBOX (cutbox-door.mjs). By AI agents, Wed Nov 11 2026. No macro, syntax, notation, axiom, sorry.
-/
import Derived.Test.YthjldgbfgapbcaaGreatDoorRows
import GoSem.ClaimSeven
namespace Go.Proofs.YthjldgbfgapbcaaGreatDoor
namespace Rows

/-- THE TIED CARD OF 'laws.FnPatched'. -/
def fnPatchedCard : Claim7 := { stood := { row := fnPatchedRow, standIns := [], harness := (true, "b78c8a1ddfa0963ab17892b620bc0e3b0e072364a579b693715c5f2f429e05a9"), looks := true }, kinds := [], alts := [], laidByText := true, laidKinds := [.data, .data, .data, .data, .sentinel, .sentinel, .data, .wider, .pinned], laidTests := true, laidLooks := .later }
def FnPatchedCardSaid : Prop := Claim7.holds Tryz.pinned (.plain (OpenSpec.ofChange fnPatchedSpec)) fnPatchedCard

/-- THE TIED CARD OF 'laws.FnPatchesRefused'. -/
def fnPatchesRefusedCard : Claim7 := { stood := { row := fnPatchesRefusedRow, standIns := [], harness := (true, "b78c8a1ddfa0963ab17892b620bc0e3b0e072364a579b693715c5f2f429e05a9"), looks := true }, kinds := [], alts := [], laidByText := true, laidKinds := [.data, .data, .data, .data, .sentinel, .sentinel, .data, .wider, .pinned], laidTests := true, laidLooks := .later }
def FnPatchesRefusedCardSaid : Prop := Claim7.holds Tryz.pinned (.plain (OpenSpec.ofChange fnPatchesRefusedSpec)) fnPatchesRefusedCard

/-- THE TIED CARD OF 'laws.FnMerged'. -/
def fnMergedCard : Claim7 := { stood := { row := fnMergedRow, standIns := [], harness := (true, "b78c8a1ddfa0963ab17892b620bc0e3b0e072364a579b693715c5f2f429e05a9"), looks := true }, kinds := [], alts := [], laidByText := true, laidKinds := [.data, .data, .data, .data, .sentinel, .sentinel, .data, .wider, .pinned], laidTests := true, laidLooks := .later }
def FnMergedCardSaid : Prop := Claim7.holds Tryz.pinned (.plain (OpenSpec.ofChange fnMergedSpec)) fnMergedCard

/-- THE SECOND FORM's CARD OF 'laws.FnPatched'. -/
def fnPatchedUptoCard : Claim7 := { stood := { row := fnPatchedUptoRow, standIns := [], harness := (true, "b78c8a1ddfa0963ab17892b620bc0e3b0e072364a579b693715c5f2f429e05a9"), looks := true }, kinds := [], alts := [], laidByText := true, laidKinds := [.data, .data, .data, .data, .sentinel, .sentinel, .data, .wider, .pinned], laidTests := true, laidLooks := .later }
def FnPatchedUptoCardSaid : Prop := Claim7.holds Tryz.pinned (.plain (OpenSpec.upto fnPatchedSpec)) fnPatchedUptoCard

/-- THE SECOND FORM's CARD OF 'laws.FnPatchesRefused'. -/
def fnPatchesRefusedUptoCard : Claim7 := { stood := { row := fnPatchesRefusedUptoRow, standIns := [], harness := (true, "b78c8a1ddfa0963ab17892b620bc0e3b0e072364a579b693715c5f2f429e05a9"), looks := true }, kinds := [], alts := [], laidByText := true, laidKinds := [.data, .data, .data, .data, .sentinel, .sentinel, .data, .wider, .pinned], laidTests := true, laidLooks := .later }
def FnPatchesRefusedUptoCardSaid : Prop := Claim7.holds Tryz.pinned (.plain (OpenSpec.upto fnPatchesRefusedSpec)) fnPatchesRefusedUptoCard

/-- THE SECOND FORM's CARD OF 'laws.FnMerged'. -/
def fnMergedUptoCard : Claim7 := { stood := { row := fnMergedUptoRow, standIns := [], harness := (true, "b78c8a1ddfa0963ab17892b620bc0e3b0e072364a579b693715c5f2f429e05a9"), looks := true }, kinds := [], alts := [], laidByText := true, laidKinds := [.data, .data, .data, .data, .sentinel, .sentinel, .data, .wider, .pinned], laidTests := true, laidLooks := .later }
def FnMergedUptoCardSaid : Prop := Claim7.holds Tryz.pinned (.plain (OpenSpec.upto fnMergedSpec)) fnMergedUptoCard
end Rows
end Go.Proofs.YthjldgbfgapbcaaGreatDoor
