/-
  NARROWER THAN 'FOR EVERY INPUT', by the rows' own cells (each row's printed sentence says how): FnOpenedClosed: laid.
  DERIVED. THE GIVEN ROWS OF THIS SEAT. 1 by the template 'for every input the law returns true; each argument reads behind the call as it read before'; 0 by the template 'total and deterministic' (their statements: YtonhcgkagdpdlaaGreatDoorTotals.lean).
  GIVEN WITH THE SEED: the statements are not yours to turn. If you find one false, say at which input.
  Laid BY PROGRAM, IN A SANDBOX (cutbox-rows.mjs): the forced cells as the released guide's own fill.sh prints them over the translation cc1b6f7f1a8764e1… (all of the seat's roots in one cut). By AI agents, Wed Nov 11 2026. No macro, syntax, notation, axiom, sorry.
-/
import Derived.Test.YtonhcgkagdpdlaaGreatDoorChecked
import GoSem.Claim
import GoSem.ClaimJoined
import GoSem.ClaimMapViews
import Derived.JoinedTies
import Derived.KernelRfl
namespace Go.Proofs.YtonhcgkagdpdlaaGreatDoor
/- THE CELL 'sum', in the pinned program and in every row, IS THE sha256 OF THE DUMP (.gsa) THAT YtonhcgkagdpdlaaGreatDoorProg.lean LOADS. Nothing in Lean hashes anything: it is a label: what it is worth is what the hold of that sum in a sandbox is worth. -/
noncomputable def Tryz.pinned : Pinned := { name := "ytonhcgkagdpdlaagreatdoor", sum := "cc1b6f7f1a8764e158cbc55e8610d09720808a1e373a325f277fcc48f6137c90", checked := Tryz.checked }
namespace Rows
def none {H : Type} : Left H := { results := [], args := [] }

/- WHAT THE LISTED PACKAGE-LEVEL VARIABLES READ AS WHEN THE CALL BEGINS. Each datum BY PROGRAM (the guide's laid-datum.mjs) off the statement by which the dump's own 'gosem.cut.vars' lays the variable. In a bare row this is a premise. The card (YtonhcgkagdpdlaaGreatDoorCards.lean) ties it to the program's text. -/
def laid_loop_example_g00267_impl_functions {H : Type} : DataW H := .agg [.agg [.lit (.string []), .lit (.int .i64 0), .lit (.int .i64 0)], .agg [.lit (.string [83, 85, 77]), .lit (.int .i64 1), .lit (.int .i64 10)], .agg [.lit (.string [77, 73, 78]), .lit (.int .i64 1), .lit (.int .i64 10)], .agg [.lit (.string [77, 65, 88]), .lit (.int .i64 1), .lit (.int .i64 10)], .agg [.lit (.string [67, 79, 85, 78, 84]), .lit (.int .i64 1), .lit (.int .i64 10)], .agg [.lit (.string [73, 70]), .lit (.int .i64 2), .lit (.int .i64 3)], .agg [.lit (.string [65, 78, 68]), .lit (.int .i64 1), .lit (.int .i64 10)], .agg [.lit (.string [79, 82]), .lit (.int .i64 1), .lit (.int .i64 10)], .agg [.lit (.string [78, 79, 84]), .lit (.int .i64 1), .lit (.int .i64 1)], .agg [.lit (.string [65, 66, 83]), .lit (.int .i64 1), .lit (.int .i64 1)], .agg [.lit (.string [76, 69, 78]), .lit (.int .i64 1), .lit (.int .i64 1)]]

/-- 'laws.FnOpenedClosed': WHATEVER THE INPUT: true; the input reads as it did. -/
def fnOpenedClosedSpec : ChangeSpec := { name := "fnOpenedClosed", vars := ["loop.example/g00267/impl.functions"], fn := fun _ => fun
  | [d, g1] => { results := [.lit (.bool true)], args := [d], vars := [g1] }
  | _ => none }
def fnOpenedClosedRow : OpenClaim := { program := "ytonhcgkagdpdlaagreatdoor", sum := "cc1b6f7f1a8764e158cbc55e8610d09720808a1e373a325f277fcc48f6137c90", func := "loop.example/g00267/laws.FnOpenedClosed", spec := "fnOpenedClosed", unfollowed := true, recurses := true, named := ["loop.example/g00267/impl.functions"], apart := false, laid := [("loop.example/g00267/impl.functions", laid_loop_example_g00267_impl_functions)] }
def FnOpenedClosedSaid : Prop := fnOpenedClosedRow.holds Tryz.pinned (OpenSpec.ofChange fnOpenedClosedSpec)

/-- ITS FALSE NEIGHBOUR: 'it returns false'. Refute it at one input. -/
def fnOpenedClosedWrong : ChangeSpec := { name := "fnOpenedClosed", vars := ["loop.example/g00267/impl.functions"], fn := fun _ => fun
  | [d, g1] => { results := [.lit (.bool false)], args := [d], vars := [g1] }
  | _ => none }
def FnOpenedClosedWrongFalsely : Prop := fnOpenedClosedRow.holds Tryz.pinned (OpenSpec.ofChange fnOpenedClosedWrong)

/- THE SECOND FORM. 'bulk': how many values and letters a reading holds, each counted each time it is reached (what is shared counts as often as it is met; a slice's spare places count too). A statement '..UptoSaid' is the law's where the arguments, and the package variables that the reading takes, are together of bulk at most 1048576: NARROWER than '..Said'. Prove '..Said' where nothing that the law and all that it calls make is longer than what came in: it says more and counts as full. Else prove '..UptoSaid'. A law counts once. -/
mutual
def uptoBulk {H : Type} : DataW H → Nat
  | .lit (.string bytes) => bytes.length + 1
  | .lit _ => 1
  | .nil => 1
  | .ptr d => uptoBulk d + 1
  | .slice elems spare => uptoBulkAll elems + uptoBulkAll spare + 1
  | .agg parts => uptoBulkAll parts + 1
  | .iface _ d => uptoBulk d + 1
  | .map entries => uptoBulkEntries entries + 1
  | .held _ => 1
def uptoBulkAll {H : Type} : List (DataW H) → Nat
  | [] => 0
  | d :: r => uptoBulk d + uptoBulkAll r
def uptoBulkEntries {H : Type} : List (Lit × DataW H) → Nat
  | [] => 0
  | x :: r => uptoBulkEntry x + uptoBulkEntries r
def uptoBulkEntry {H : Type} : Lit × DataW H → Nat
  | (.string bytes, d) => bytes.length + uptoBulk d + 1
  | (_, d) => uptoBulk d + 1
 end
def uptoSmall : (H : Type) → List (DataW H) → Bool := fun _ ds => decide (uptoBulkAll ds ≤ 1048576)
def OpenSpec.upto (s : _root_.Go.ChangeSpec) : _root_.Go.OpenSpec := { _root_.Go.OpenSpec.ofChange s with cond := some uptoSmall }

/-- 'laws.FnOpenedClosed', WHERE WHAT IT READS IS OF BULK AT MOST 1048576: true; the input reads as it did. -/
def fnOpenedClosedUptoRow : OpenClaim := { program := "ytonhcgkagdpdlaagreatdoor", sum := "cc1b6f7f1a8764e158cbc55e8610d09720808a1e373a325f277fcc48f6137c90", func := "loop.example/g00267/laws.FnOpenedClosed", spec := "fnOpenedClosed", unfollowed := true, recurses := true, named := ["loop.example/g00267/impl.functions"], apart := false, laid := [("loop.example/g00267/impl.functions", laid_loop_example_g00267_impl_functions)], narrowed := true }
def FnOpenedClosedUptoSaid : Prop := fnOpenedClosedUptoRow.holds Tryz.pinned (OpenSpec.upto fnOpenedClosedSpec)

end Rows
end Go.Proofs.YtonhcgkagdpdlaaGreatDoor
