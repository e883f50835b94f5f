/-
  DERIVED. GIVEN WITH THE SEED: THE CARDS: each row of YtfkklffdkpbibaaDoorRows.lean that lists a variable, with what it lists TIED to the program's text (the seventh form; the later family's looks); each row that meets fmt, with fmt's text TOLD by the authors' own Lean function (tested against real Go, not proved from fmt's source: count such statements apart). THE CARD IS WHAT COUNTS. Prove the row's statement (the work); the ties are given (YtfkklffdkpbibaaDoorTie.lean); close each card by the builder's one call (the guide's Derived/Test/ToyasCard.lean, 'card_holds'). Laid BY PROGRAM, IN A SANDBOX (cutbox-door.mjs). By AI agents, Wed Nov 11 2026. No macro, syntax, notation, axiom, sorry.
-/
import Derived.Test.YtfkklffdkpbibaaDoorRows
import GoSem.ClaimSeven
namespace Go.Proofs.YtfkklffdkpbibaaDoor
namespace Rows

/-- THE TIED CARD OF 'laws.FnExactFormulaOk'. -/
def fnExactFormulaOkCard : Claim7 := { stood := { row := fnExactFormulaOkRow, standIns := [], harness := (true, "c15ea9dafa54a316dc9852ba3df6edbab9fedd50c90d84c5832ac5ba3f3c7383"), looks := false }, kinds := [], alts := [], laidByText := true, laidKinds := [.wider], laidTests := true, laidLooks := .later }
def FnExactFormulaOkCardSaid : Prop := Claim7.holds Tryd.pinned (.plain (OpenSpec.ofChange fnExactFormulaOkSpec)) fnExactFormulaOkCard

/-- THE TIED CARD OF 'laws.FnExactAreasOf'. -/
def fnExactAreasOfCard : Claim7 := { stood := { row := fnExactAreasOfRow, standIns := [], harness := (true, "c15ea9dafa54a316dc9852ba3df6edbab9fedd50c90d84c5832ac5ba3f3c7383"), looks := false }, kinds := [], alts := [], laidByText := true, laidKinds := [.wider], laidTests := true, laidLooks := .later }
def FnExactAreasOfCardSaid : Prop := Claim7.holds Tryd.pinned (.plain (OpenSpec.ofChange fnExactAreasOfSpec)) fnExactAreasOfCard

/-- THE TIED CARD OF 'laws.FnExactMovedBy'. -/
def fnExactMovedByCard : Claim7 := { stood := { row := fnExactMovedByRow, standIns := [], harness := (true, "c15ea9dafa54a316dc9852ba3df6edbab9fedd50c90d84c5832ac5ba3f3c7383"), looks := false }, kinds := [], alts := [], laidByText := true, laidKinds := [.wider], laidTests := true, laidLooks := .later }
def FnExactMovedByCardSaid : Prop := Claim7.holds Tryd.pinned (.plain (OpenSpec.ofChange fnExactMovedBySpec)) fnExactMovedByCard

/-- THE TIED CARD OF 'laws.FnExactOpened'. -/
def fnExactOpenedCard : Claim7 := { stood := { row := fnExactOpenedRow, standIns := [], harness := (true, "c15ea9dafa54a316dc9852ba3df6edbab9fedd50c90d84c5832ac5ba3f3c7383"), looks := false }, kinds := [], alts := [], laidByText := true, laidKinds := [.wider], laidTests := true, laidLooks := .later }
def FnExactOpenedCardSaid : Prop := Claim7.holds Tryd.pinned (.plain (OpenSpec.ofChange fnExactOpenedSpec)) fnExactOpenedCard

/-- THE TIED CARD OF 'laws.FnExactClosed'. -/
def fnExactClosedCard : Claim7 := { stood := { row := fnExactClosedRow, standIns := [], harness := (true, "c15ea9dafa54a316dc9852ba3df6edbab9fedd50c90d84c5832ac5ba3f3c7383"), looks := false }, kinds := [], alts := [], laidByText := true, laidKinds := [.wider], laidTests := true, laidLooks := .later }
def FnExactClosedCardSaid : Prop := Claim7.holds Tryd.pinned (.plain (OpenSpec.ofChange fnExactClosedSpec)) fnExactClosedCard

/-- THE SECOND FORM's CARD OF 'laws.FnExactFormulaOk'. -/
def fnExactFormulaOkUptoCard : Claim7 := { stood := { row := fnExactFormulaOkUptoRow, standIns := [], harness := (true, "c15ea9dafa54a316dc9852ba3df6edbab9fedd50c90d84c5832ac5ba3f3c7383"), looks := false }, kinds := [], alts := [], laidByText := true, laidKinds := [.wider], laidTests := true, laidLooks := .later }
def FnExactFormulaOkUptoCardSaid : Prop := Claim7.holds Tryd.pinned (.plain (OpenSpec.upto fnExactFormulaOkSpec)) fnExactFormulaOkUptoCard

/-- THE SECOND FORM's CARD OF 'laws.FnExactAreasOf'. -/
def fnExactAreasOfUptoCard : Claim7 := { stood := { row := fnExactAreasOfUptoRow, standIns := [], harness := (true, "c15ea9dafa54a316dc9852ba3df6edbab9fedd50c90d84c5832ac5ba3f3c7383"), looks := false }, kinds := [], alts := [], laidByText := true, laidKinds := [.wider], laidTests := true, laidLooks := .later }
def FnExactAreasOfUptoCardSaid : Prop := Claim7.holds Tryd.pinned (.plain (OpenSpec.upto fnExactAreasOfSpec)) fnExactAreasOfUptoCard

/-- THE SECOND FORM's CARD OF 'laws.FnExactMovedBy'. -/
def fnExactMovedByUptoCard : Claim7 := { stood := { row := fnExactMovedByUptoRow, standIns := [], harness := (true, "c15ea9dafa54a316dc9852ba3df6edbab9fedd50c90d84c5832ac5ba3f3c7383"), looks := false }, kinds := [], alts := [], laidByText := true, laidKinds := [.wider], laidTests := true, laidLooks := .later }
def FnExactMovedByUptoCardSaid : Prop := Claim7.holds Tryd.pinned (.plain (OpenSpec.upto fnExactMovedBySpec)) fnExactMovedByUptoCard

/-- THE SECOND FORM's CARD OF 'laws.FnExactOpened'. -/
def fnExactOpenedUptoCard : Claim7 := { stood := { row := fnExactOpenedUptoRow, standIns := [], harness := (true, "c15ea9dafa54a316dc9852ba3df6edbab9fedd50c90d84c5832ac5ba3f3c7383"), looks := false }, kinds := [], alts := [], laidByText := true, laidKinds := [.wider], laidTests := true, laidLooks := .later }
def FnExactOpenedUptoCardSaid : Prop := Claim7.holds Tryd.pinned (.plain (OpenSpec.upto fnExactOpenedSpec)) fnExactOpenedUptoCard

/-- THE SECOND FORM's CARD OF 'laws.FnExactClosed'. -/
def fnExactClosedUptoCard : Claim7 := { stood := { row := fnExactClosedUptoRow, standIns := [], harness := (true, "c15ea9dafa54a316dc9852ba3df6edbab9fedd50c90d84c5832ac5ba3f3c7383"), looks := false }, kinds := [], alts := [], laidByText := true, laidKinds := [.wider], laidTests := true, laidLooks := .later }
def FnExactClosedUptoCardSaid : Prop := Claim7.holds Tryd.pinned (.plain (OpenSpec.upto fnExactClosedSpec)) fnExactClosedUptoCard
end Rows
end Go.Proofs.YtfkklffdkpbibaaDoor
