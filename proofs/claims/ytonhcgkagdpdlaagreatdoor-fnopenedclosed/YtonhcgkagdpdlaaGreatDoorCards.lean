/-
  DERIVED. GIVEN WITH THE SEED: THE CARDS: each row of YtonhcgkagdpdlaaGreatDoorRows.lean that lists a variable, with what it lists TIED to the program's text (the seventh form; the later family's looks); each row that meets fmt, with fmt's text TOLD by the authors' own Lean function (tested against real Go, not proved from fmt's source: count such statements apart). THE CARD IS WHAT COUNTS. Prove the row's statement (the work); the ties are given (YtonhcgkagdpdlaaGreatDoorTie.lean); close each card by the builder's one call (the guide's Derived/Test/ToyasCard.lean, 'card_holds'). Laid BY PROGRAM, IN A SANDBOX (cutbox-door.mjs). By AI agents, Wed Nov 11 2026. No macro, syntax, notation, axiom, sorry.
-/
import Derived.Test.YtonhcgkagdpdlaaGreatDoorRows
import GoSem.ClaimSeven
namespace Go.Proofs.YtonhcgkagdpdlaaGreatDoor
namespace Rows

/-- THE TIED CARD OF 'laws.FnOpenedClosed'. -/
def fnOpenedClosedCard : Claim7 := { stood := { row := fnOpenedClosedRow, standIns := [], harness := (true, "7f51ed57cdf8a483c3b2136a9d268738c6701238a1152e90294580f0638b8fb4"), looks := false }, kinds := [], alts := [], laidByText := true, laidKinds := [.wider], laidTests := true, laidLooks := .later }
def FnOpenedClosedCardSaid : Prop := Claim7.holds Tryz.pinned (.plain (OpenSpec.ofChange fnOpenedClosedSpec)) fnOpenedClosedCard

/-- THE SECOND FORM's CARD OF 'laws.FnOpenedClosed'. -/
def fnOpenedClosedUptoCard : Claim7 := { stood := { row := fnOpenedClosedUptoRow, standIns := [], harness := (true, "7f51ed57cdf8a483c3b2136a9d268738c6701238a1152e90294580f0638b8fb4"), looks := false }, kinds := [], alts := [], laidByText := true, laidKinds := [.wider], laidTests := true, laidLooks := .later }
def FnOpenedClosedUptoCardSaid : Prop := Claim7.holds Tryz.pinned (.plain (OpenSpec.upto fnOpenedClosedSpec)) fnOpenedClosedUptoCard
end Rows
end Go.Proofs.YtonhcgkagdpdlaaGreatDoor
