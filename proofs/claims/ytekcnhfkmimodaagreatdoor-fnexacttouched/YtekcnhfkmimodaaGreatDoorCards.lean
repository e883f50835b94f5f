/-
  DERIVED. GIVEN WITH THE SEED: THE CARDS: each row of YtekcnhfkmimodaaGreatDoorRows.lean that lists a variable, with what it lists TIED to the program's text (the seventh form; the later family's looks); each row that meets fmt, with fmt's text TOLD by the authors' own Lean function (tested against real Go, not proved from fmt's source: count such statements apart). THE CARD IS WHAT COUNTS. Prove the row's statement (the work); the ties are given (YtekcnhfkmimodaaGreatDoorTie.lean); close each card by the builder's one call (the guide's Derived/Test/ToyasCard.lean, 'card_holds'). Laid BY PROGRAM, IN A SANDBOX (cutbox-door.mjs). By AI agents, Wed Nov 11 2026. No macro, syntax, notation, axiom, sorry.
-/
import Derived.Test.YtekcnhfkmimodaaGreatDoorRows
import GoSem.ClaimSeven
namespace Go.Proofs.YtekcnhfkmimodaaGreatDoor
namespace Rows

/-- THE TIED CARD OF 'laws.FnExactLeansOn'. -/
def fnExactLeansOnCard : Claim7 := { stood := { row := fnExactLeansOnRow, standIns := [], harness := (true, "2a596abbac79fa3c0863ac0bb32fcf6ae03cddda5f80207d4a01afa941717c0a"), looks := true }, kinds := [], alts := [], laidByText := true, laidKinds := [.data, .data, .data, .data, .sentinel, .sentinel, .data, .wider, .pinned], laidTests := true, laidLooks := .later }
def FnExactLeansOnCardSaid : Prop := Claim7.holds Tryz.pinned (.plain (OpenSpec.ofChange fnExactLeansOnSpec)) fnExactLeansOnCard

/-- THE TIED CARD OF 'laws.FnExactInCircle'. -/
def fnExactInCircleCard : Claim7 := { stood := { row := fnExactInCircleRow, standIns := [], harness := (true, "2a596abbac79fa3c0863ac0bb32fcf6ae03cddda5f80207d4a01afa941717c0a"), looks := true }, kinds := [], alts := [], laidByText := true, laidKinds := [.data, .data, .data, .data, .sentinel, .sentinel, .data, .wider, .pinned], laidTests := true, laidLooks := .later }
def FnExactInCircleCardSaid : Prop := Claim7.holds Tryz.pinned (.plain (OpenSpec.ofChange fnExactInCircleSpec)) fnExactInCircleCard

/-- THE TIED CARD OF 'laws.FnExactTouched'. -/
def fnExactTouchedCard : Claim7 := { stood := { row := fnExactTouchedRow, standIns := [], harness := (true, "2a596abbac79fa3c0863ac0bb32fcf6ae03cddda5f80207d4a01afa941717c0a"), looks := true }, kinds := [], alts := [], laidByText := true, laidKinds := [.data, .data, .data, .data, .sentinel, .sentinel, .data, .wider, .pinned], laidTests := true, laidLooks := .later }
def FnExactTouchedCardSaid : Prop := Claim7.holds Tryz.pinned (.plain (OpenSpec.ofChange fnExactTouchedSpec)) fnExactTouchedCard

/-- THE SECOND FORM's CARD OF 'laws.FnExactLeansOn'. -/
def fnExactLeansOnUptoCard : Claim7 := { stood := { row := fnExactLeansOnUptoRow, standIns := [], harness := (true, "2a596abbac79fa3c0863ac0bb32fcf6ae03cddda5f80207d4a01afa941717c0a"), looks := true }, kinds := [], alts := [], laidByText := true, laidKinds := [.data, .data, .data, .data, .sentinel, .sentinel, .data, .wider, .pinned], laidTests := true, laidLooks := .later }
def FnExactLeansOnUptoCardSaid : Prop := Claim7.holds Tryz.pinned (.plain (OpenSpec.upto fnExactLeansOnSpec)) fnExactLeansOnUptoCard

/-- THE SECOND FORM's CARD OF 'laws.FnExactInCircle'. -/
def fnExactInCircleUptoCard : Claim7 := { stood := { row := fnExactInCircleUptoRow, standIns := [], harness := (true, "2a596abbac79fa3c0863ac0bb32fcf6ae03cddda5f80207d4a01afa941717c0a"), looks := true }, kinds := [], alts := [], laidByText := true, laidKinds := [.data, .data, .data, .data, .sentinel, .sentinel, .data, .wider, .pinned], laidTests := true, laidLooks := .later }
def FnExactInCircleUptoCardSaid : Prop := Claim7.holds Tryz.pinned (.plain (OpenSpec.upto fnExactInCircleSpec)) fnExactInCircleUptoCard

/-- THE SECOND FORM's CARD OF 'laws.FnExactTouched'. -/
def fnExactTouchedUptoCard : Claim7 := { stood := { row := fnExactTouchedUptoRow, standIns := [], harness := (true, "2a596abbac79fa3c0863ac0bb32fcf6ae03cddda5f80207d4a01afa941717c0a"), looks := true }, kinds := [], alts := [], laidByText := true, laidKinds := [.data, .data, .data, .data, .sentinel, .sentinel, .data, .wider, .pinned], laidTests := true, laidLooks := .later }
def FnExactTouchedUptoCardSaid : Prop := Claim7.holds Tryz.pinned (.plain (OpenSpec.upto fnExactTouchedSpec)) fnExactTouchedUptoCard
end Rows
end Go.Proofs.YtekcnhfkmimodaaGreatDoor
