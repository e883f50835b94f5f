/-
  DERIVED. GIVEN WITH THE SEED: THE CARDS: each row of YtejbnnacghbhoaaGreatDoorRows.lean that lists a variable, with what it lists TIED to the program's text (the seventh form; the later family's looks); each row that meets fmt, with fmt's text TOLD by the authors' own Lean function (tested against real Go, not proved from fmt's source: count such statements apart). THE CARD IS WHAT COUNTS. Prove the row's statement (the work); the ties are given (YtejbnnacghbhoaaGreatDoorTie.lean); close each card by the builder's one call (the guide's Derived/Test/ToyasCard.lean, 'card_holds'). Laid BY PROGRAM, IN A SANDBOX (cutbox-door.mjs). By AI agents, Wed Nov 11 2026. No macro, syntax, notation, axiom, sorry.
-/
import Derived.Test.YtejbnnacghbhoaaGreatDoorRows
import GoSem.ClaimSeven
namespace Go.Proofs.YtejbnnacghbhoaaGreatDoor
namespace Rows

/-- THE TIED CARD OF 'laws.FnCircles'. -/
def fnCirclesCard : Claim7 := { stood := { row := fnCirclesRow, standIns := [], harness := (true, "952075bfc5f348d8f982ff6aa5c6d67dec9bd63042061de845d73d65ff0b80f8"), looks := true }, kinds := [], alts := [], laidByText := true, laidKinds := [.data, .data, .data, .data, .sentinel, .sentinel, .data, .wider, .pinned], laidTests := true, laidLooks := .later }
def FnCirclesCardSaid : Prop := Claim7.holds Tryz.pinned (.plain (OpenSpec.ofChange fnCirclesSpec)) fnCirclesCard

/-- THE TIED CARD OF 'laws.FnMacroTexts'. -/
def fnMacroTextsCard : Claim7 := { stood := { row := fnMacroTextsRow, standIns := [], harness := (true, "952075bfc5f348d8f982ff6aa5c6d67dec9bd63042061de845d73d65ff0b80f8"), looks := true }, kinds := [], alts := [], laidByText := true, laidKinds := [.data, .data, .data, .data, .sentinel, .sentinel, .data, .wider, .data, .pinned], laidTests := true, laidLooks := .later }
def FnMacroTextsCardSaid : Prop := Claim7.holds Tryz.pinned (.plain (OpenSpec.ofChange fnMacroTextsSpec)) fnMacroTextsCard

/-- THE TIED CARD OF 'laws.FnExactReadMacro'. -/
def fnExactReadMacroCard : Claim7 := { stood := { row := fnExactReadMacroRow, standIns := [], harness := (true, "952075bfc5f348d8f982ff6aa5c6d67dec9bd63042061de845d73d65ff0b80f8"), looks := true }, kinds := [], alts := [], laidByText := true, laidKinds := [.data, .data, .data, .data, .sentinel, .sentinel, .data, .wider, .data, .pinned], laidTests := true, laidLooks := .later }
def FnExactReadMacroCardSaid : Prop := Claim7.holds Tryz.pinned (.plain (OpenSpec.ofChange fnExactReadMacroSpec)) fnExactReadMacroCard

/-- THE TIED CARD OF 'laws.FnExactReadCmd'. -/
def fnExactReadCmdCard : Claim7 := { stood := { row := fnExactReadCmdRow, standIns := [], harness := (true, "952075bfc5f348d8f982ff6aa5c6d67dec9bd63042061de845d73d65ff0b80f8"), looks := true }, kinds := [], alts := [], laidByText := true, laidKinds := [.data, .data, .data, .data, .sentinel, .sentinel, .data, .wider, .data, .pinned], laidTests := true, laidLooks := .later }
def FnExactReadCmdCardSaid : Prop := Claim7.holds Tryz.pinned (.plain (OpenSpec.ofChange fnExactReadCmdSpec)) fnExactReadCmdCard

/-- THE SECOND FORM's CARD OF 'laws.FnCircles'. -/
def fnCirclesUptoCard : Claim7 := { stood := { row := fnCirclesUptoRow, standIns := [], harness := (true, "952075bfc5f348d8f982ff6aa5c6d67dec9bd63042061de845d73d65ff0b80f8"), looks := true }, kinds := [], alts := [], laidByText := true, laidKinds := [.data, .data, .data, .data, .sentinel, .sentinel, .data, .wider, .pinned], laidTests := true, laidLooks := .later }
def FnCirclesUptoCardSaid : Prop := Claim7.holds Tryz.pinned (.plain (OpenSpec.upto fnCirclesSpec)) fnCirclesUptoCard

/-- THE SECOND FORM's CARD OF 'laws.FnMacroTexts'. -/
def fnMacroTextsUptoCard : Claim7 := { stood := { row := fnMacroTextsUptoRow, standIns := [], harness := (true, "952075bfc5f348d8f982ff6aa5c6d67dec9bd63042061de845d73d65ff0b80f8"), looks := true }, kinds := [], alts := [], laidByText := true, laidKinds := [.data, .data, .data, .data, .sentinel, .sentinel, .data, .wider, .data, .pinned], laidTests := true, laidLooks := .later }
def FnMacroTextsUptoCardSaid : Prop := Claim7.holds Tryz.pinned (.plain (OpenSpec.upto fnMacroTextsSpec)) fnMacroTextsUptoCard

/-- THE SECOND FORM's CARD OF 'laws.FnExactReadMacro'. -/
def fnExactReadMacroUptoCard : Claim7 := { stood := { row := fnExactReadMacroUptoRow, standIns := [], harness := (true, "952075bfc5f348d8f982ff6aa5c6d67dec9bd63042061de845d73d65ff0b80f8"), looks := true }, kinds := [], alts := [], laidByText := true, laidKinds := [.data, .data, .data, .data, .sentinel, .sentinel, .data, .wider, .data, .pinned], laidTests := true, laidLooks := .later }
def FnExactReadMacroUptoCardSaid : Prop := Claim7.holds Tryz.pinned (.plain (OpenSpec.upto fnExactReadMacroSpec)) fnExactReadMacroUptoCard

/-- THE SECOND FORM's CARD OF 'laws.FnExactReadCmd'. -/
def fnExactReadCmdUptoCard : Claim7 := { stood := { row := fnExactReadCmdUptoRow, standIns := [], harness := (true, "952075bfc5f348d8f982ff6aa5c6d67dec9bd63042061de845d73d65ff0b80f8"), looks := true }, kinds := [], alts := [], laidByText := true, laidKinds := [.data, .data, .data, .data, .sentinel, .sentinel, .data, .wider, .data, .pinned], laidTests := true, laidLooks := .later }
def FnExactReadCmdUptoCardSaid : Prop := Claim7.holds Tryz.pinned (.plain (OpenSpec.upto fnExactReadCmdSpec)) fnExactReadCmdUptoCard
end Rows
end Go.Proofs.YtejbnnacghbhoaaGreatDoor
