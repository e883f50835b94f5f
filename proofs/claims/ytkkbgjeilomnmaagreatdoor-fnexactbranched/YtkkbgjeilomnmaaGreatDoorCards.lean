/-
  DERIVED. GIVEN WITH THE SEED: THE CARDS: each row of YtkkbgjeilomnmaaGreatDoorRows.lean that lists a variable, with what it lists TIED to the program's text (the seventh form; the later family's looks); each row that meets fmt, with fmt's text TOLD by the authors' own Lean function (tested against real Go, not proved from fmt's source: count such statements apart). THE CARD IS WHAT COUNTS. Prove the row's statement (the work); the ties are given (YtkkbgjeilomnmaaGreatDoorTie.lean); close each card by the builder's one call (the guide's Derived/Test/ToyasCard.lean, 'card_holds'). Laid BY PROGRAM, IN A SANDBOX (cutbox-door.mjs). By AI agents, Wed Nov 11 2026. No macro, syntax, notation, axiom, sorry.
-/
import Derived.Test.YtkkbgjeilomnmaaGreatDoorRows
import GoSem.ClaimSeven
namespace Go.Proofs.YtkkbgjeilomnmaaGreatDoor
namespace Rows

/-- THE TIED CARD OF 'laws.FnExactCommitted'. -/
def fnExactCommittedCard : Claim7 := { stood := { row := fnExactCommittedRow, standIns := [], harness := (true, "27ab009759d2d63491e9679f90d073a003869e0dadfd69701e186055d9462f50"), looks := true }, kinds := [], alts := [], laidByText := true, laidKinds := [.data, .data, .data, .data, .sentinel, .sentinel, .data, .wider, .pinned], laidTests := true, laidLooks := .later }
def FnExactCommittedCardSaid : Prop := Claim7.holds Tryz.pinned (.plain (OpenSpec.ofChange fnExactCommittedSpec)) fnExactCommittedCard

/-- THE TIED CARD OF 'laws.FnExactBranched'. -/
def fnExactBranchedCard : Claim7 := { stood := { row := fnExactBranchedRow, standIns := [], harness := (true, "27ab009759d2d63491e9679f90d073a003869e0dadfd69701e186055d9462f50"), looks := true }, kinds := [], alts := [], laidByText := true, laidKinds := [.data, .data, .data, .data, .sentinel, .sentinel, .data, .wider, .pinned], laidTests := true, laidLooks := .later }
def FnExactBranchedCardSaid : Prop := Claim7.holds Tryz.pinned (.plain (OpenSpec.ofChange fnExactBranchedSpec)) fnExactBranchedCard

/-- THE TIED CARD OF 'laws.FnExactSwept'. -/
def fnExactSweptCard : Claim7 := { stood := { row := fnExactSweptRow, standIns := [], harness := (true, "27ab009759d2d63491e9679f90d073a003869e0dadfd69701e186055d9462f50"), looks := true }, kinds := [], alts := [], laidByText := true, laidKinds := [.data, .data, .data, .data, .sentinel, .sentinel, .data, .wider, .pinned], laidTests := true, laidLooks := .later }
def FnExactSweptCardSaid : Prop := Claim7.holds Tryz.pinned (.plain (OpenSpec.ofChange fnExactSweptSpec)) fnExactSweptCard

/-- THE SECOND FORM's CARD OF 'laws.FnExactCommitted'. -/
def fnExactCommittedUptoCard : Claim7 := { stood := { row := fnExactCommittedUptoRow, standIns := [], harness := (true, "27ab009759d2d63491e9679f90d073a003869e0dadfd69701e186055d9462f50"), looks := true }, kinds := [], alts := [], laidByText := true, laidKinds := [.data, .data, .data, .data, .sentinel, .sentinel, .data, .wider, .pinned], laidTests := true, laidLooks := .later }
def FnExactCommittedUptoCardSaid : Prop := Claim7.holds Tryz.pinned (.plain (OpenSpec.upto fnExactCommittedSpec)) fnExactCommittedUptoCard

/-- THE SECOND FORM's CARD OF 'laws.FnExactBranched'. -/
def fnExactBranchedUptoCard : Claim7 := { stood := { row := fnExactBranchedUptoRow, standIns := [], harness := (true, "27ab009759d2d63491e9679f90d073a003869e0dadfd69701e186055d9462f50"), looks := true }, kinds := [], alts := [], laidByText := true, laidKinds := [.data, .data, .data, .data, .sentinel, .sentinel, .data, .wider, .pinned], laidTests := true, laidLooks := .later }
def FnExactBranchedUptoCardSaid : Prop := Claim7.holds Tryz.pinned (.plain (OpenSpec.upto fnExactBranchedSpec)) fnExactBranchedUptoCard

/-- THE SECOND FORM's CARD OF 'laws.FnExactSwept'. -/
def fnExactSweptUptoCard : Claim7 := { stood := { row := fnExactSweptUptoRow, standIns := [], harness := (true, "27ab009759d2d63491e9679f90d073a003869e0dadfd69701e186055d9462f50"), looks := true }, kinds := [], alts := [], laidByText := true, laidKinds := [.data, .data, .data, .data, .sentinel, .sentinel, .data, .wider, .pinned], laidTests := true, laidLooks := .later }
def FnExactSweptUptoCardSaid : Prop := Claim7.holds Tryz.pinned (.plain (OpenSpec.upto fnExactSweptSpec)) fnExactSweptUptoCard
end Rows
end Go.Proofs.YtkkbgjeilomnmaaGreatDoor
