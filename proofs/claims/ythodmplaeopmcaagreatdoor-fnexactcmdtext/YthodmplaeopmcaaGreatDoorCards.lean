/-
  DERIVED. GIVEN WITH THE SEED: THE CARDS: each row of YthodmplaeopmcaaGreatDoorRows.lean that lists a variable, with what it lists TIED to the program's text (the seventh form; the later family's looks); each row that meets fmt, with fmt's text TOLD by the authors' own Lean function (tested against real Go, not proved from fmt's source: count such statements apart). THE CARD IS WHAT COUNTS. Prove the row's statement (the work); the ties are given (YthodmplaeopmcaaGreatDoorTie.lean); close each card by the builder's one call (the guide's Derived/Test/ToyasCard.lean, 'card_holds'). Laid BY PROGRAM, IN A SANDBOX (cutbox-door.mjs). By AI agents, Wed Nov 11 2026. No macro, syntax, notation, axiom, sorry.
-/
import Derived.Test.YthodmplaeopmcaaGreatDoorRows
import GoSem.ClaimSeven
namespace Go.Proofs.YthodmplaeopmcaaGreatDoor
namespace Rows

/-- THE TIED CARD OF 'laws.FnExactEnter'. -/
def fnExactEnterCard : Claim7 := { stood := { row := fnExactEnterRow, standIns := [], harness := (true, "eee2086b27a3a97738de1e567401893a02393ae25fdccd2fc395d131af2c80e5"), looks := true }, kinds := [], alts := [], laidByText := true, laidKinds := [.data, .data, .data, .data, .sentinel, .sentinel, .data, .wider, .pinned], laidTests := true, laidLooks := .later }
def FnExactEnterCardSaid : Prop := Claim7.holds Tryz.pinned (.plain (OpenSpec.ofChange fnExactEnterSpec)) fnExactEnterCard

/-- THE TIED CARD OF 'laws.FnExactDagOk'. -/
def fnExactDagOkCard : Claim7 := { stood := { row := fnExactDagOkRow, standIns := [], harness := (true, "eee2086b27a3a97738de1e567401893a02393ae25fdccd2fc395d131af2c80e5"), looks := true }, kinds := [], alts := [], laidByText := true, laidKinds := [.data, .data, .data, .data, .sentinel, .sentinel, .data, .wider, .pinned], laidTests := true, laidLooks := .later }
def FnExactDagOkCardSaid : Prop := Claim7.holds Tryz.pinned (.plain (OpenSpec.ofChange fnExactDagOkSpec)) fnExactDagOkCard

/-- THE TIED CARD OF 'laws.FnExactSheetAt'. -/
def fnExactSheetAtCard : Claim7 := { stood := { row := fnExactSheetAtRow, standIns := [], harness := (true, "eee2086b27a3a97738de1e567401893a02393ae25fdccd2fc395d131af2c80e5"), looks := true }, kinds := [], alts := [], laidByText := true, laidKinds := [.data, .data, .data, .data, .sentinel, .sentinel, .data, .wider, .pinned], laidTests := true, laidLooks := .later }
def FnExactSheetAtCardSaid : Prop := Claim7.holds Tryz.pinned (.plain (OpenSpec.ofChange fnExactSheetAtSpec)) fnExactSheetAtCard

/-- THE TIED CARD OF 'laws.FnExactHeadOf'. -/
def fnExactHeadOfCard : Claim7 := { stood := { row := fnExactHeadOfRow, standIns := [], harness := (true, "eee2086b27a3a97738de1e567401893a02393ae25fdccd2fc395d131af2c80e5"), looks := true }, kinds := [], alts := [], laidByText := true, laidKinds := [.data, .data, .data, .data, .sentinel, .sentinel, .data, .wider, .pinned], laidTests := true, laidLooks := .later }
def FnExactHeadOfCardSaid : Prop := Claim7.holds Tryz.pinned (.plain (OpenSpec.ofChange fnExactHeadOfSpec)) fnExactHeadOfCard

/-- THE TIED CARD OF 'laws.FnExactAbove'. -/
def fnExactAboveCard : Claim7 := { stood := { row := fnExactAboveRow, standIns := [], harness := (true, "eee2086b27a3a97738de1e567401893a02393ae25fdccd2fc395d131af2c80e5"), looks := true }, kinds := [], alts := [], laidByText := true, laidKinds := [.data, .data, .data, .data, .sentinel, .sentinel, .data, .wider, .pinned], laidTests := true, laidLooks := .later }
def FnExactAboveCardSaid : Prop := Claim7.holds Tryz.pinned (.plain (OpenSpec.ofChange fnExactAboveSpec)) fnExactAboveCard

/-- THE TIED CARD OF 'laws.FnExactLca'. -/
def fnExactLcaCard : Claim7 := { stood := { row := fnExactLcaRow, standIns := [], harness := (true, "eee2086b27a3a97738de1e567401893a02393ae25fdccd2fc395d131af2c80e5"), looks := true }, kinds := [], alts := [], laidByText := true, laidKinds := [.data, .data, .data, .data, .sentinel, .sentinel, .data, .wider, .pinned], laidTests := true, laidLooks := .later }
def FnExactLcaCardSaid : Prop := Claim7.holds Tryz.pinned (.plain (OpenSpec.ofChange fnExactLcaSpec)) fnExactLcaCard

/-- THE TIED CARD OF 'laws.FnExactCommitted'. -/
def fnExactCommittedCard : Claim7 := { stood := { row := fnExactCommittedRow, standIns := [], harness := (true, "eee2086b27a3a97738de1e567401893a02393ae25fdccd2fc395d131af2c80e5"), looks := true }, kinds := [], alts := [], laidByText := true, laidKinds := [.data, .data, .data, .data, .sentinel, .sentinel, .data, .wider, .pinned], laidTests := true, laidLooks := .later }
def FnExactCommittedCardSaid : Prop := Claim7.holds Tryz.pinned (.plain (OpenSpec.ofChange fnExactCommittedSpec)) fnExactCommittedCard

/-- THE TIED CARD OF 'laws.FnExactBranched'. -/
def fnExactBranchedCard : Claim7 := { stood := { row := fnExactBranchedRow, standIns := [], harness := (true, "eee2086b27a3a97738de1e567401893a02393ae25fdccd2fc395d131af2c80e5"), looks := true }, kinds := [], alts := [], laidByText := true, laidKinds := [.data, .data, .data, .data, .sentinel, .sentinel, .data, .wider, .pinned], laidTests := true, laidLooks := .later }
def FnExactBranchedCardSaid : Prop := Claim7.holds Tryz.pinned (.plain (OpenSpec.ofChange fnExactBranchedSpec)) fnExactBranchedCard

/-- THE TIED CARD OF 'laws.FnExactSwept'. -/
def fnExactSweptCard : Claim7 := { stood := { row := fnExactSweptRow, standIns := [], harness := (true, "eee2086b27a3a97738de1e567401893a02393ae25fdccd2fc395d131af2c80e5"), looks := true }, kinds := [], alts := [], laidByText := true, laidKinds := [.data, .data, .data, .data, .sentinel, .sentinel, .data, .wider, .pinned], laidTests := true, laidLooks := .later }
def FnExactSweptCardSaid : Prop := Claim7.holds Tryz.pinned (.plain (OpenSpec.ofChange fnExactSweptSpec)) fnExactSweptCard

/-- THE TIED CARD OF 'laws.FnExactReadMacro'. -/
def fnExactReadMacroCard : Claim7 := { stood := { row := fnExactReadMacroRow, standIns := [], harness := (true, "eee2086b27a3a97738de1e567401893a02393ae25fdccd2fc395d131af2c80e5"), looks := true }, kinds := [], alts := [], laidByText := true, laidKinds := [.data, .data, .data, .data, .sentinel, .sentinel, .data, .wider, .data, .pinned], laidTests := true, laidLooks := .later }
def FnExactReadMacroCardSaid : Prop := Claim7.holds Tryz.pinned (.plain (OpenSpec.ofChange fnExactReadMacroSpec)) fnExactReadMacroCard

/-- THE TIED CARD OF 'laws.FnExactCmdText'. -/
def fnExactCmdTextCard : Claim7 := { stood := { row := fnExactCmdTextRow, standIns := [], harness := (true, "eee2086b27a3a97738de1e567401893a02393ae25fdccd2fc395d131af2c80e5"), looks := true }, kinds := [], alts := [], laidByText := true, laidKinds := [.data, .data, .data, .data, .sentinel, .sentinel, .data, .wider, .data, .pinned], laidTests := true, laidLooks := .later }
def FnExactCmdTextCardSaid : Prop := Claim7.holds Tryz.pinned (.plain (OpenSpec.ofChange fnExactCmdTextSpec)) fnExactCmdTextCard

/-- THE TIED CARD OF 'laws.FnExactReadCmd'. -/
def fnExactReadCmdCard : Claim7 := { stood := { row := fnExactReadCmdRow, standIns := [], harness := (true, "eee2086b27a3a97738de1e567401893a02393ae25fdccd2fc395d131af2c80e5"), looks := true }, kinds := [], alts := [], laidByText := true, laidKinds := [.data, .data, .data, .data, .sentinel, .sentinel, .data, .wider, .data, .pinned], laidTests := true, laidLooks := .later }
def FnExactReadCmdCardSaid : Prop := Claim7.holds Tryz.pinned (.plain (OpenSpec.ofChange fnExactReadCmdSpec)) fnExactReadCmdCard

/-- THE SECOND FORM's CARD OF 'laws.FnExactEnter'. -/
def fnExactEnterUptoCard : Claim7 := { stood := { row := fnExactEnterUptoRow, standIns := [], harness := (true, "eee2086b27a3a97738de1e567401893a02393ae25fdccd2fc395d131af2c80e5"), looks := true }, kinds := [], alts := [], laidByText := true, laidKinds := [.data, .data, .data, .data, .sentinel, .sentinel, .data, .wider, .pinned], laidTests := true, laidLooks := .later }
def FnExactEnterUptoCardSaid : Prop := Claim7.holds Tryz.pinned (.plain (OpenSpec.upto fnExactEnterSpec)) fnExactEnterUptoCard

/-- THE SECOND FORM's CARD OF 'laws.FnExactDagOk'. -/
def fnExactDagOkUptoCard : Claim7 := { stood := { row := fnExactDagOkUptoRow, standIns := [], harness := (true, "eee2086b27a3a97738de1e567401893a02393ae25fdccd2fc395d131af2c80e5"), looks := true }, kinds := [], alts := [], laidByText := true, laidKinds := [.data, .data, .data, .data, .sentinel, .sentinel, .data, .wider, .pinned], laidTests := true, laidLooks := .later }
def FnExactDagOkUptoCardSaid : Prop := Claim7.holds Tryz.pinned (.plain (OpenSpec.upto fnExactDagOkSpec)) fnExactDagOkUptoCard

/-- THE SECOND FORM's CARD OF 'laws.FnExactSheetAt'. -/
def fnExactSheetAtUptoCard : Claim7 := { stood := { row := fnExactSheetAtUptoRow, standIns := [], harness := (true, "eee2086b27a3a97738de1e567401893a02393ae25fdccd2fc395d131af2c80e5"), looks := true }, kinds := [], alts := [], laidByText := true, laidKinds := [.data, .data, .data, .data, .sentinel, .sentinel, .data, .wider, .pinned], laidTests := true, laidLooks := .later }
def FnExactSheetAtUptoCardSaid : Prop := Claim7.holds Tryz.pinned (.plain (OpenSpec.upto fnExactSheetAtSpec)) fnExactSheetAtUptoCard

/-- THE SECOND FORM's CARD OF 'laws.FnExactHeadOf'. -/
def fnExactHeadOfUptoCard : Claim7 := { stood := { row := fnExactHeadOfUptoRow, standIns := [], harness := (true, "eee2086b27a3a97738de1e567401893a02393ae25fdccd2fc395d131af2c80e5"), looks := true }, kinds := [], alts := [], laidByText := true, laidKinds := [.data, .data, .data, .data, .sentinel, .sentinel, .data, .wider, .pinned], laidTests := true, laidLooks := .later }
def FnExactHeadOfUptoCardSaid : Prop := Claim7.holds Tryz.pinned (.plain (OpenSpec.upto fnExactHeadOfSpec)) fnExactHeadOfUptoCard

/-- THE SECOND FORM's CARD OF 'laws.FnExactAbove'. -/
def fnExactAboveUptoCard : Claim7 := { stood := { row := fnExactAboveUptoRow, standIns := [], harness := (true, "eee2086b27a3a97738de1e567401893a02393ae25fdccd2fc395d131af2c80e5"), looks := true }, kinds := [], alts := [], laidByText := true, laidKinds := [.data, .data, .data, .data, .sentinel, .sentinel, .data, .wider, .pinned], laidTests := true, laidLooks := .later }
def FnExactAboveUptoCardSaid : Prop := Claim7.holds Tryz.pinned (.plain (OpenSpec.upto fnExactAboveSpec)) fnExactAboveUptoCard

/-- THE SECOND FORM's CARD OF 'laws.FnExactLca'. -/
def fnExactLcaUptoCard : Claim7 := { stood := { row := fnExactLcaUptoRow, standIns := [], harness := (true, "eee2086b27a3a97738de1e567401893a02393ae25fdccd2fc395d131af2c80e5"), looks := true }, kinds := [], alts := [], laidByText := true, laidKinds := [.data, .data, .data, .data, .sentinel, .sentinel, .data, .wider, .pinned], laidTests := true, laidLooks := .later }
def FnExactLcaUptoCardSaid : Prop := Claim7.holds Tryz.pinned (.plain (OpenSpec.upto fnExactLcaSpec)) fnExactLcaUptoCard

/-- THE SECOND FORM's CARD OF 'laws.FnExactCommitted'. -/
def fnExactCommittedUptoCard : Claim7 := { stood := { row := fnExactCommittedUptoRow, standIns := [], harness := (true, "eee2086b27a3a97738de1e567401893a02393ae25fdccd2fc395d131af2c80e5"), looks := true }, kinds := [], alts := [], laidByText := true, laidKinds := [.data, .data, .data, .data, .sentinel, .sentinel, .data, .wider, .pinned], laidTests := true, laidLooks := .later }
def FnExactCommittedUptoCardSaid : Prop := Claim7.holds Tryz.pinned (.plain (OpenSpec.upto fnExactCommittedSpec)) fnExactCommittedUptoCard

/-- THE SECOND FORM's CARD OF 'laws.FnExactBranched'. -/
def fnExactBranchedUptoCard : Claim7 := { stood := { row := fnExactBranchedUptoRow, standIns := [], harness := (true, "eee2086b27a3a97738de1e567401893a02393ae25fdccd2fc395d131af2c80e5"), looks := true }, kinds := [], alts := [], laidByText := true, laidKinds := [.data, .data, .data, .data, .sentinel, .sentinel, .data, .wider, .pinned], laidTests := true, laidLooks := .later }
def FnExactBranchedUptoCardSaid : Prop := Claim7.holds Tryz.pinned (.plain (OpenSpec.upto fnExactBranchedSpec)) fnExactBranchedUptoCard

/-- THE SECOND FORM's CARD OF 'laws.FnExactSwept'. -/
def fnExactSweptUptoCard : Claim7 := { stood := { row := fnExactSweptUptoRow, standIns := [], harness := (true, "eee2086b27a3a97738de1e567401893a02393ae25fdccd2fc395d131af2c80e5"), looks := true }, kinds := [], alts := [], laidByText := true, laidKinds := [.data, .data, .data, .data, .sentinel, .sentinel, .data, .wider, .pinned], laidTests := true, laidLooks := .later }
def FnExactSweptUptoCardSaid : Prop := Claim7.holds Tryz.pinned (.plain (OpenSpec.upto fnExactSweptSpec)) fnExactSweptUptoCard

/-- THE SECOND FORM's CARD OF 'laws.FnExactReadMacro'. -/
def fnExactReadMacroUptoCard : Claim7 := { stood := { row := fnExactReadMacroUptoRow, standIns := [], harness := (true, "eee2086b27a3a97738de1e567401893a02393ae25fdccd2fc395d131af2c80e5"), looks := true }, kinds := [], alts := [], laidByText := true, laidKinds := [.data, .data, .data, .data, .sentinel, .sentinel, .data, .wider, .data, .pinned], laidTests := true, laidLooks := .later }
def FnExactReadMacroUptoCardSaid : Prop := Claim7.holds Tryz.pinned (.plain (OpenSpec.upto fnExactReadMacroSpec)) fnExactReadMacroUptoCard

/-- THE SECOND FORM's CARD OF 'laws.FnExactCmdText'. -/
def fnExactCmdTextUptoCard : Claim7 := { stood := { row := fnExactCmdTextUptoRow, standIns := [], harness := (true, "eee2086b27a3a97738de1e567401893a02393ae25fdccd2fc395d131af2c80e5"), looks := true }, kinds := [], alts := [], laidByText := true, laidKinds := [.data, .data, .data, .data, .sentinel, .sentinel, .data, .wider, .data, .pinned], laidTests := true, laidLooks := .later }
def FnExactCmdTextUptoCardSaid : Prop := Claim7.holds Tryz.pinned (.plain (OpenSpec.upto fnExactCmdTextSpec)) fnExactCmdTextUptoCard

/-- THE SECOND FORM's CARD OF 'laws.FnExactReadCmd'. -/
def fnExactReadCmdUptoCard : Claim7 := { stood := { row := fnExactReadCmdUptoRow, standIns := [], harness := (true, "eee2086b27a3a97738de1e567401893a02393ae25fdccd2fc395d131af2c80e5"), looks := true }, kinds := [], alts := [], laidByText := true, laidKinds := [.data, .data, .data, .data, .sentinel, .sentinel, .data, .wider, .data, .pinned], laidTests := true, laidLooks := .later }
def FnExactReadCmdUptoCardSaid : Prop := Claim7.holds Tryz.pinned (.plain (OpenSpec.upto fnExactReadCmdSpec)) fnExactReadCmdUptoCard
end Rows
end Go.Proofs.YthodmplaeopmcaaGreatDoor
