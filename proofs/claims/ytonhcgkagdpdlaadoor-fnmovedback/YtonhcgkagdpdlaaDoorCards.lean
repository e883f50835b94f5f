/-
  DERIVED. GIVEN WITH THE SEED: THE CARDS: each row of YtonhcgkagdpdlaaDoorRows.lean that lists a variable, with what it lists TIED to the program's text (the seventh form; the later family's looks); each row that meets fmt, with fmt's text TOLD by the authors' own Lean function (tested against real Go, not proved from fmt's source: count such statements apart). THE CARD IS WHAT COUNTS. Prove the row's statement (the work); the ties are given (YtonhcgkagdpdlaaDoorTie.lean); close each card by the builder's one call (the guide's Derived/Test/ToyasCard.lean, 'card_holds'). Laid BY PROGRAM, IN A SANDBOX (cutbox-door.mjs). By AI agents, Wed Nov 11 2026. No macro, syntax, notation, axiom, sorry.
-/
import Derived.Test.YtonhcgkagdpdlaaDoorRows
import GoSem.ClaimSeven
namespace Go.Proofs.YtonhcgkagdpdlaaDoor
namespace Rows

/-- THE TIED CARD OF 'laws.FnMovedBack'. -/
def fnMovedBackCard : Claim7 := { stood := { row := fnMovedBackRow, standIns := [], harness := (true, "c9b958d5d48a3edc418406c9bbe1dc6d4815f26684ae103af6cd3ddeaace06f7"), looks := false }, kinds := [], alts := [], laidByText := true, laidKinds := [.wider], laidTests := true, laidLooks := .later }
def FnMovedBackCardSaid : Prop := Claim7.holds Tryd.pinned (.plain (OpenSpec.ofChange fnMovedBackSpec)) fnMovedBackCard

/-- THE SECOND FORM's CARD OF 'laws.FnMovedBack'. -/
def fnMovedBackUptoCard : Claim7 := { stood := { row := fnMovedBackUptoRow, standIns := [], harness := (true, "c9b958d5d48a3edc418406c9bbe1dc6d4815f26684ae103af6cd3ddeaace06f7"), looks := false }, kinds := [], alts := [], laidByText := true, laidKinds := [.wider], laidTests := true, laidLooks := .later }
def FnMovedBackUptoCardSaid : Prop := Claim7.holds Tryd.pinned (.plain (OpenSpec.upto fnMovedBackSpec)) fnMovedBackUptoCard
end Rows
end Go.Proofs.YtonhcgkagdpdlaaDoor
