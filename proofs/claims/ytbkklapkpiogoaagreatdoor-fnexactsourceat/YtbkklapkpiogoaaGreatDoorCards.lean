/-
  DERIVED. GIVEN WITH THE SEED: THE CARDS: each row of YtbkklapkpiogoaaGreatDoorRows.lean that lists a variable, with what it lists TIED to the program's text (the seventh form; the later family's looks); each row that meets fmt, with fmt's text TOLD by the authors' own Lean function (tested against real Go, not proved from fmt's source: count such statements apart). THE CARD IS WHAT COUNTS. Prove the row's statement (the work); the ties are given (YtbkklapkpiogoaaGreatDoorTie.lean); close each card by the builder's one call (the guide's Derived/Test/ToyasCard.lean, 'card_holds'). Laid BY PROGRAM, IN A SANDBOX (cutbox-door.mjs). By AI agents, Wed Nov 11 2026. No macro, syntax, notation, axiom, sorry.
-/
import Derived.Test.YtbkklapkpiogoaaGreatDoorRows
import GoSem.ClaimSeven
namespace Go.Proofs.YtbkklapkpiogoaaGreatDoor
namespace Rows

/-- THE TIED CARD OF 'laws.FnInputs'. -/
def fnInputsCard : Claim7 := { stood := { row := fnInputsRow, standIns := [], harness := (true, "808423511b0cca64aa8bcab98da7317a756b44befc083c45121b3f4f58eddf05"), looks := true }, kinds := [], alts := [], laidByText := true, laidKinds := [.data, .data, .data, .data, .sentinel, .sentinel, .data, .wider, .pinned], laidTests := true, laidLooks := .later }
def FnInputsCardSaid : Prop := Claim7.holds Tryz.pinned (.plain (OpenSpec.ofChange fnInputsSpec)) fnInputsCard

/-- THE TIED CARD OF 'laws.FnExactSheetOk'. -/
def fnExactSheetOkCard : Claim7 := { stood := { row := fnExactSheetOkRow, standIns := [], harness := (true, "808423511b0cca64aa8bcab98da7317a756b44befc083c45121b3f4f58eddf05"), looks := true }, kinds := [], alts := [], laidByText := true, laidKinds := [.data, .data, .data, .data, .sentinel, .sentinel, .data, .wider, .pinned], laidTests := true, laidLooks := .later }
def FnExactSheetOkCardSaid : Prop := Claim7.holds Tryz.pinned (.plain (OpenSpec.ofChange fnExactSheetOkSpec)) fnExactSheetOkCard

/-- THE TIED CARD OF 'laws.FnExactEnter'. -/
def fnExactEnterCard : Claim7 := { stood := { row := fnExactEnterRow, standIns := [], harness := (true, "808423511b0cca64aa8bcab98da7317a756b44befc083c45121b3f4f58eddf05"), looks := true }, kinds := [], alts := [], laidByText := true, laidKinds := [.data, .data, .data, .data, .sentinel, .sentinel, .data, .wider, .pinned], laidTests := true, laidLooks := .later }
def FnExactEnterCardSaid : Prop := Claim7.holds Tryz.pinned (.plain (OpenSpec.ofChange fnExactEnterSpec)) fnExactEnterCard

/-- THE TIED CARD OF 'laws.FnExactSourceAt'. -/
def fnExactSourceAtCard : Claim7 := { stood := { row := fnExactSourceAtRow, standIns := [], harness := (true, "808423511b0cca64aa8bcab98da7317a756b44befc083c45121b3f4f58eddf05"), looks := true }, kinds := [], alts := [], laidByText := true, laidKinds := [.data, .data, .data, .data, .sentinel, .sentinel, .data, .wider, .pinned], laidTests := true, laidLooks := .later }
def FnExactSourceAtCardSaid : Prop := Claim7.holds Tryz.pinned (.plain (OpenSpec.ofChange fnExactSourceAtSpec)) fnExactSourceAtCard

/-- THE TIED CARD OF 'laws.FnExactMacroOk'. -/
def fnExactMacroOkCard : Claim7 := { stood := { row := fnExactMacroOkRow, standIns := [], harness := (true, "808423511b0cca64aa8bcab98da7317a756b44befc083c45121b3f4f58eddf05"), looks := true }, kinds := [], alts := [], laidByText := true, laidKinds := [.data, .data, .data, .data, .sentinel, .sentinel, .data, .wider, .pinned], laidTests := true, laidLooks := .later }
def FnExactMacroOkCardSaid : Prop := Claim7.holds Tryz.pinned (.plain (OpenSpec.ofChange fnExactMacroOkSpec)) fnExactMacroOkCard

/-- THE TIED CARD OF 'laws.FnExactMacroText'. -/
def fnExactMacroTextCard : Claim7 := { stood := { row := fnExactMacroTextRow, standIns := [], harness := (true, "808423511b0cca64aa8bcab98da7317a756b44befc083c45121b3f4f58eddf05"), looks := true }, kinds := [], alts := [], laidByText := true, laidKinds := [.data, .data, .data, .data, .sentinel, .sentinel, .data, .wider, .data, .pinned], laidTests := true, laidLooks := .later }
def FnExactMacroTextCardSaid : Prop := Claim7.holds Tryz.pinned (.plain (OpenSpec.ofChange fnExactMacroTextSpec)) fnExactMacroTextCard

/-- THE SECOND FORM's CARD OF 'laws.FnInputs'. -/
def fnInputsUptoCard : Claim7 := { stood := { row := fnInputsUptoRow, standIns := [], harness := (true, "808423511b0cca64aa8bcab98da7317a756b44befc083c45121b3f4f58eddf05"), looks := true }, kinds := [], alts := [], laidByText := true, laidKinds := [.data, .data, .data, .data, .sentinel, .sentinel, .data, .wider, .pinned], laidTests := true, laidLooks := .later }
def FnInputsUptoCardSaid : Prop := Claim7.holds Tryz.pinned (.plain (OpenSpec.upto fnInputsSpec)) fnInputsUptoCard

/-- THE SECOND FORM's CARD OF 'laws.FnExactSheetOk'. -/
def fnExactSheetOkUptoCard : Claim7 := { stood := { row := fnExactSheetOkUptoRow, standIns := [], harness := (true, "808423511b0cca64aa8bcab98da7317a756b44befc083c45121b3f4f58eddf05"), looks := true }, kinds := [], alts := [], laidByText := true, laidKinds := [.data, .data, .data, .data, .sentinel, .sentinel, .data, .wider, .pinned], laidTests := true, laidLooks := .later }
def FnExactSheetOkUptoCardSaid : Prop := Claim7.holds Tryz.pinned (.plain (OpenSpec.upto fnExactSheetOkSpec)) fnExactSheetOkUptoCard

/-- THE SECOND FORM's CARD OF 'laws.FnExactEnter'. -/
def fnExactEnterUptoCard : Claim7 := { stood := { row := fnExactEnterUptoRow, standIns := [], harness := (true, "808423511b0cca64aa8bcab98da7317a756b44befc083c45121b3f4f58eddf05"), looks := true }, kinds := [], alts := [], laidByText := true, laidKinds := [.data, .data, .data, .data, .sentinel, .sentinel, .data, .wider, .pinned], laidTests := true, laidLooks := .later }
def FnExactEnterUptoCardSaid : Prop := Claim7.holds Tryz.pinned (.plain (OpenSpec.upto fnExactEnterSpec)) fnExactEnterUptoCard

/-- THE SECOND FORM's CARD OF 'laws.FnExactSourceAt'. -/
def fnExactSourceAtUptoCard : Claim7 := { stood := { row := fnExactSourceAtUptoRow, standIns := [], harness := (true, "808423511b0cca64aa8bcab98da7317a756b44befc083c45121b3f4f58eddf05"), looks := true }, kinds := [], alts := [], laidByText := true, laidKinds := [.data, .data, .data, .data, .sentinel, .sentinel, .data, .wider, .pinned], laidTests := true, laidLooks := .later }
def FnExactSourceAtUptoCardSaid : Prop := Claim7.holds Tryz.pinned (.plain (OpenSpec.upto fnExactSourceAtSpec)) fnExactSourceAtUptoCard

/-- THE SECOND FORM's CARD OF 'laws.FnExactMacroOk'. -/
def fnExactMacroOkUptoCard : Claim7 := { stood := { row := fnExactMacroOkUptoRow, standIns := [], harness := (true, "808423511b0cca64aa8bcab98da7317a756b44befc083c45121b3f4f58eddf05"), looks := true }, kinds := [], alts := [], laidByText := true, laidKinds := [.data, .data, .data, .data, .sentinel, .sentinel, .data, .wider, .pinned], laidTests := true, laidLooks := .later }
def FnExactMacroOkUptoCardSaid : Prop := Claim7.holds Tryz.pinned (.plain (OpenSpec.upto fnExactMacroOkSpec)) fnExactMacroOkUptoCard

/-- THE SECOND FORM's CARD OF 'laws.FnExactMacroText'. -/
def fnExactMacroTextUptoCard : Claim7 := { stood := { row := fnExactMacroTextUptoRow, standIns := [], harness := (true, "808423511b0cca64aa8bcab98da7317a756b44befc083c45121b3f4f58eddf05"), looks := true }, kinds := [], alts := [], laidByText := true, laidKinds := [.data, .data, .data, .data, .sentinel, .sentinel, .data, .wider, .data, .pinned], laidTests := true, laidLooks := .later }
def FnExactMacroTextUptoCardSaid : Prop := Claim7.holds Tryz.pinned (.plain (OpenSpec.upto fnExactMacroTextSpec)) fnExactMacroTextUptoCard
end Rows
end Go.Proofs.YtbkklapkpiogoaaGreatDoor
