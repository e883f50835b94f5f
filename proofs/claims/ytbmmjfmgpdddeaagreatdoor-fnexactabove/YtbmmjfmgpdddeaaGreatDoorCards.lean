/-
  DERIVED. GIVEN WITH THE SEED: THE CARDS: each row of YtbmmjfmgpdddeaaGreatDoorRows.lean that lists a variable, with what it lists TIED to the program's text (the seventh form; the later family's looks); each row that meets fmt, with fmt's text TOLD by the authors' own Lean function (tested against real Go, not proved from fmt's source: count such statements apart). THE CARD IS WHAT COUNTS. Prove the row's statement (the work); the ties are given (YtbmmjfmgpdddeaaGreatDoorTie.lean); close each card by the builder's one call (the guide's Derived/Test/ToyasCard.lean, 'card_holds'). Laid BY PROGRAM, IN A SANDBOX (cutbox-door.mjs). By AI agents, Wed Nov 11 2026. No macro, syntax, notation, axiom, sorry.
-/
import Derived.Test.YtbmmjfmgpdddeaaGreatDoorRows
import GoSem.ClaimSeven
namespace Go.Proofs.YtbmmjfmgpdddeaaGreatDoor
namespace Rows

/-- THE TIED CARD OF 'laws.FnExactDagOk'. -/
def fnExactDagOkCard : Claim7 := { stood := { row := fnExactDagOkRow, standIns := [], harness := (true, "b0b9ca8baf746bd0eaeeacf919c8c6e788e0d2060583585b280b6d9c0f49b81e"), looks := true }, kinds := [], alts := [], laidByText := true, laidKinds := [.data, .data, .data, .data, .sentinel, .sentinel, .data, .wider, .pinned], laidTests := true, laidLooks := .later }
def FnExactDagOkCardSaid : Prop := Claim7.holds Tryz.pinned (.plain (OpenSpec.ofChange fnExactDagOkSpec)) fnExactDagOkCard

/-- THE TIED CARD OF 'laws.FnExactSheetAt'. -/
def fnExactSheetAtCard : Claim7 := { stood := { row := fnExactSheetAtRow, standIns := [], harness := (true, "b0b9ca8baf746bd0eaeeacf919c8c6e788e0d2060583585b280b6d9c0f49b81e"), looks := true }, kinds := [], alts := [], laidByText := true, laidKinds := [.data, .data, .data, .data, .sentinel, .sentinel, .data, .wider, .pinned], laidTests := true, laidLooks := .later }
def FnExactSheetAtCardSaid : Prop := Claim7.holds Tryz.pinned (.plain (OpenSpec.ofChange fnExactSheetAtSpec)) fnExactSheetAtCard

/-- THE TIED CARD OF 'laws.FnExactHeadOf'. -/
def fnExactHeadOfCard : Claim7 := { stood := { row := fnExactHeadOfRow, standIns := [], harness := (true, "b0b9ca8baf746bd0eaeeacf919c8c6e788e0d2060583585b280b6d9c0f49b81e"), looks := true }, kinds := [], alts := [], laidByText := true, laidKinds := [.data, .data, .data, .data, .sentinel, .sentinel, .data, .wider, .pinned], laidTests := true, laidLooks := .later }
def FnExactHeadOfCardSaid : Prop := Claim7.holds Tryz.pinned (.plain (OpenSpec.ofChange fnExactHeadOfSpec)) fnExactHeadOfCard

/-- THE TIED CARD OF 'laws.FnExactAbove'. -/
def fnExactAboveCard : Claim7 := { stood := { row := fnExactAboveRow, standIns := [], harness := (true, "b0b9ca8baf746bd0eaeeacf919c8c6e788e0d2060583585b280b6d9c0f49b81e"), looks := true }, kinds := [], alts := [], laidByText := true, laidKinds := [.data, .data, .data, .data, .sentinel, .sentinel, .data, .wider, .pinned], laidTests := true, laidLooks := .later }
def FnExactAboveCardSaid : Prop := Claim7.holds Tryz.pinned (.plain (OpenSpec.ofChange fnExactAboveSpec)) fnExactAboveCard

/-- THE TIED CARD OF 'laws.FnExactLca'. -/
def fnExactLcaCard : Claim7 := { stood := { row := fnExactLcaRow, standIns := [], harness := (true, "b0b9ca8baf746bd0eaeeacf919c8c6e788e0d2060583585b280b6d9c0f49b81e"), looks := true }, kinds := [], alts := [], laidByText := true, laidKinds := [.data, .data, .data, .data, .sentinel, .sentinel, .data, .wider, .pinned], laidTests := true, laidLooks := .later }
def FnExactLcaCardSaid : Prop := Claim7.holds Tryz.pinned (.plain (OpenSpec.ofChange fnExactLcaSpec)) fnExactLcaCard

/-- THE SECOND FORM's CARD OF 'laws.FnExactDagOk'. -/
def fnExactDagOkUptoCard : Claim7 := { stood := { row := fnExactDagOkUptoRow, standIns := [], harness := (true, "b0b9ca8baf746bd0eaeeacf919c8c6e788e0d2060583585b280b6d9c0f49b81e"), looks := true }, kinds := [], alts := [], laidByText := true, laidKinds := [.data, .data, .data, .data, .sentinel, .sentinel, .data, .wider, .pinned], laidTests := true, laidLooks := .later }
def FnExactDagOkUptoCardSaid : Prop := Claim7.holds Tryz.pinned (.plain (OpenSpec.upto fnExactDagOkSpec)) fnExactDagOkUptoCard

/-- THE SECOND FORM's CARD OF 'laws.FnExactSheetAt'. -/
def fnExactSheetAtUptoCard : Claim7 := { stood := { row := fnExactSheetAtUptoRow, standIns := [], harness := (true, "b0b9ca8baf746bd0eaeeacf919c8c6e788e0d2060583585b280b6d9c0f49b81e"), looks := true }, kinds := [], alts := [], laidByText := true, laidKinds := [.data, .data, .data, .data, .sentinel, .sentinel, .data, .wider, .pinned], laidTests := true, laidLooks := .later }
def FnExactSheetAtUptoCardSaid : Prop := Claim7.holds Tryz.pinned (.plain (OpenSpec.upto fnExactSheetAtSpec)) fnExactSheetAtUptoCard

/-- THE SECOND FORM's CARD OF 'laws.FnExactHeadOf'. -/
def fnExactHeadOfUptoCard : Claim7 := { stood := { row := fnExactHeadOfUptoRow, standIns := [], harness := (true, "b0b9ca8baf746bd0eaeeacf919c8c6e788e0d2060583585b280b6d9c0f49b81e"), looks := true }, kinds := [], alts := [], laidByText := true, laidKinds := [.data, .data, .data, .data, .sentinel, .sentinel, .data, .wider, .pinned], laidTests := true, laidLooks := .later }
def FnExactHeadOfUptoCardSaid : Prop := Claim7.holds Tryz.pinned (.plain (OpenSpec.upto fnExactHeadOfSpec)) fnExactHeadOfUptoCard

/-- THE SECOND FORM's CARD OF 'laws.FnExactAbove'. -/
def fnExactAboveUptoCard : Claim7 := { stood := { row := fnExactAboveUptoRow, standIns := [], harness := (true, "b0b9ca8baf746bd0eaeeacf919c8c6e788e0d2060583585b280b6d9c0f49b81e"), looks := true }, kinds := [], alts := [], laidByText := true, laidKinds := [.data, .data, .data, .data, .sentinel, .sentinel, .data, .wider, .pinned], laidTests := true, laidLooks := .later }
def FnExactAboveUptoCardSaid : Prop := Claim7.holds Tryz.pinned (.plain (OpenSpec.upto fnExactAboveSpec)) fnExactAboveUptoCard

/-- THE SECOND FORM's CARD OF 'laws.FnExactLca'. -/
def fnExactLcaUptoCard : Claim7 := { stood := { row := fnExactLcaUptoRow, standIns := [], harness := (true, "b0b9ca8baf746bd0eaeeacf919c8c6e788e0d2060583585b280b6d9c0f49b81e"), looks := true }, kinds := [], alts := [], laidByText := true, laidKinds := [.data, .data, .data, .data, .sentinel, .sentinel, .data, .wider, .pinned], laidTests := true, laidLooks := .later }
def FnExactLcaUptoCardSaid : Prop := Claim7.holds Tryz.pinned (.plain (OpenSpec.upto fnExactLcaSpec)) fnExactLcaUptoCard
end Rows
end Go.Proofs.YtbmmjfmgpdddeaaGreatDoor
