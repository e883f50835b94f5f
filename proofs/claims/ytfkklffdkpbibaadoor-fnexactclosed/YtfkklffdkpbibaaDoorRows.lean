/-
  NARROWER THAN 'FOR EVERY INPUT', by the rows' own cells (each row's printed sentence says how): FnExactFormulaOk: laid · FnExactAreasOf: laid · FnExactMovedBy: laid · FnExactOpened: laid · FnExactClosed: laid.
  DERIVED. THE GIVEN ROWS OF THIS SEAT. 5 by the template 'for every input the law returns true; each argument reads behind the call as it read before'; 0 by the template 'total and deterministic' (their statements: YtfkklffdkpbibaaDoorTotals.lean).
  GIVEN WITH THE SEED: the statements are not yours to turn. If you find one false, say at which input.
  Laid BY PROGRAM, IN A SANDBOX (cutbox-rows.mjs): the forced cells as the released guide's own fill.sh prints them over the translation 54f989d2db9fdb78… (all of the seat's roots in one cut). By AI agents, Wed Nov 11 2026. No macro, syntax, notation, axiom, sorry.
-/
import Derived.Test.YtfkklffdkpbibaaDoorChecked
import GoSem.Claim
import GoSem.ClaimJoined
import GoSem.ClaimMapViews
import Derived.JoinedTies
import Derived.KernelRfl
namespace Go.Proofs.YtfkklffdkpbibaaDoor
/- THE CELL 'sum', in the pinned program and in every row, IS THE sha256 OF THE DUMP (.gsa) THAT YtfkklffdkpbibaaDoorProg.lean LOADS. Nothing in Lean hashes anything: it is a label: what it is worth is what the hold of that sum in a sandbox is worth. -/
noncomputable def Tryd.pinned : Pinned := { name := "ytfkklffdkpbibaadoor", sum := "54f989d2db9fdb78878db2907c13db7ef82cbae87af09e1ee757afb4651aa775", checked := Tryd.checked }
namespace Rows
def none {H : Type} : Left H := { results := [], args := [] }

/- WHAT THE LISTED PACKAGE-LEVEL VARIABLES READ AS WHEN THE CALL BEGINS. Each datum BY PROGRAM (the guide's laid-datum.mjs) off the statement by which the dump's own 'gosem.cut.vars' lays the variable. In a bare row this is a premise. The card (YtfkklffdkpbibaaDoorCards.lean) ties it to the program's text. -/
def laid_loop_example_g00267_impl_functions {H : Type} : DataW H := .agg [.agg [.lit (.string []), .lit (.int .i64 0), .lit (.int .i64 0)], .agg [.lit (.string [83, 85, 77]), .lit (.int .i64 1), .lit (.int .i64 10)], .agg [.lit (.string [77, 73, 78]), .lit (.int .i64 1), .lit (.int .i64 10)], .agg [.lit (.string [77, 65, 88]), .lit (.int .i64 1), .lit (.int .i64 10)], .agg [.lit (.string [67, 79, 85, 78, 84]), .lit (.int .i64 1), .lit (.int .i64 10)], .agg [.lit (.string [73, 70]), .lit (.int .i64 2), .lit (.int .i64 3)], .agg [.lit (.string [65, 78, 68]), .lit (.int .i64 1), .lit (.int .i64 10)], .agg [.lit (.string [79, 82]), .lit (.int .i64 1), .lit (.int .i64 10)], .agg [.lit (.string [78, 79, 84]), .lit (.int .i64 1), .lit (.int .i64 1)], .agg [.lit (.string [65, 66, 83]), .lit (.int .i64 1), .lit (.int .i64 1)], .agg [.lit (.string [76, 69, 78]), .lit (.int .i64 1), .lit (.int .i64 1)]]

/-- 'laws.FnExactFormulaOk': WHATEVER THE INPUT: true; the input reads as it did. -/
def fnExactFormulaOkSpec : ChangeSpec := { name := "fnExactFormulaOk", vars := ["loop.example/g00267/impl.functions"], fn := fun _ => fun
  | [d, g1] => { results := [.lit (.bool true)], args := [d], vars := [g1] }
  | _ => none }
def fnExactFormulaOkRow : OpenClaim := { program := "ytfkklffdkpbibaadoor", sum := "54f989d2db9fdb78878db2907c13db7ef82cbae87af09e1ee757afb4651aa775", func := "loop.example/g00267/laws.FnExactFormulaOk", spec := "fnExactFormulaOk", unfollowed := true, recurses := true, named := ["loop.example/g00267/impl.functions"], apart := false, laid := [("loop.example/g00267/impl.functions", laid_loop_example_g00267_impl_functions)] }
def FnExactFormulaOkSaid : Prop := fnExactFormulaOkRow.holds Tryd.pinned (OpenSpec.ofChange fnExactFormulaOkSpec)

/-- ITS FALSE NEIGHBOUR: 'it returns false'. Refute it at one input. -/
def fnExactFormulaOkWrong : ChangeSpec := { name := "fnExactFormulaOk", vars := ["loop.example/g00267/impl.functions"], fn := fun _ => fun
  | [d, g1] => { results := [.lit (.bool false)], args := [d], vars := [g1] }
  | _ => none }
def FnExactFormulaOkWrongFalsely : Prop := fnExactFormulaOkRow.holds Tryd.pinned (OpenSpec.ofChange fnExactFormulaOkWrong)

/-- 'laws.FnExactAreasOf': WHATEVER THE INPUT: true; the input reads as it did. -/
def fnExactAreasOfSpec : ChangeSpec := { name := "fnExactAreasOf", vars := ["loop.example/g00267/impl.functions"], fn := fun _ => fun
  | [d, g1] => { results := [.lit (.bool true)], args := [d], vars := [g1] }
  | _ => none }
def fnExactAreasOfRow : OpenClaim := { program := "ytfkklffdkpbibaadoor", sum := "54f989d2db9fdb78878db2907c13db7ef82cbae87af09e1ee757afb4651aa775", func := "loop.example/g00267/laws.FnExactAreasOf", spec := "fnExactAreasOf", unfollowed := true, recurses := true, named := ["loop.example/g00267/impl.functions"], apart := false, laid := [("loop.example/g00267/impl.functions", laid_loop_example_g00267_impl_functions)] }
def FnExactAreasOfSaid : Prop := fnExactAreasOfRow.holds Tryd.pinned (OpenSpec.ofChange fnExactAreasOfSpec)

/-- ITS FALSE NEIGHBOUR: 'it returns false'. Refute it at one input. -/
def fnExactAreasOfWrong : ChangeSpec := { name := "fnExactAreasOf", vars := ["loop.example/g00267/impl.functions"], fn := fun _ => fun
  | [d, g1] => { results := [.lit (.bool false)], args := [d], vars := [g1] }
  | _ => none }
def FnExactAreasOfWrongFalsely : Prop := fnExactAreasOfRow.holds Tryd.pinned (OpenSpec.ofChange fnExactAreasOfWrong)

/-- 'laws.FnExactMovedBy': WHATEVER THE INPUT: true; the input reads as it did. -/
def fnExactMovedBySpec : ChangeSpec := { name := "fnExactMovedBy", vars := ["loop.example/g00267/impl.functions"], fn := fun _ => fun
  | [d1, d2, d3, g1] => { results := [.lit (.bool true)], args := [d1, d2, d3], vars := [g1] }
  | _ => none }
def fnExactMovedByRow : OpenClaim := { program := "ytfkklffdkpbibaadoor", sum := "54f989d2db9fdb78878db2907c13db7ef82cbae87af09e1ee757afb4651aa775", func := "loop.example/g00267/laws.FnExactMovedBy", spec := "fnExactMovedBy", unfollowed := true, recurses := true, named := ["loop.example/g00267/impl.functions"], apart := false, laid := [("loop.example/g00267/impl.functions", laid_loop_example_g00267_impl_functions)] }
def FnExactMovedBySaid : Prop := fnExactMovedByRow.holds Tryd.pinned (OpenSpec.ofChange fnExactMovedBySpec)

/-- ITS FALSE NEIGHBOUR: 'it returns false'. Refute it at one input. -/
def fnExactMovedByWrong : ChangeSpec := { name := "fnExactMovedBy", vars := ["loop.example/g00267/impl.functions"], fn := fun _ => fun
  | [d1, d2, d3, g1] => { results := [.lit (.bool false)], args := [d1, d2, d3], vars := [g1] }
  | _ => none }
def FnExactMovedByWrongFalsely : Prop := fnExactMovedByRow.holds Tryd.pinned (OpenSpec.ofChange fnExactMovedByWrong)

/-- 'laws.FnExactOpened': WHATEVER THE INPUT: true; the input reads as it did. -/
def fnExactOpenedSpec : ChangeSpec := { name := "fnExactOpened", vars := ["loop.example/g00267/impl.functions"], fn := fun _ => fun
  | [d1, d2, d3, g1] => { results := [.lit (.bool true)], args := [d1, d2, d3], vars := [g1] }
  | _ => none }
def fnExactOpenedRow : OpenClaim := { program := "ytfkklffdkpbibaadoor", sum := "54f989d2db9fdb78878db2907c13db7ef82cbae87af09e1ee757afb4651aa775", func := "loop.example/g00267/laws.FnExactOpened", spec := "fnExactOpened", unfollowed := true, recurses := true, named := ["loop.example/g00267/impl.functions"], apart := false, laid := [("loop.example/g00267/impl.functions", laid_loop_example_g00267_impl_functions)] }
def FnExactOpenedSaid : Prop := fnExactOpenedRow.holds Tryd.pinned (OpenSpec.ofChange fnExactOpenedSpec)

/-- ITS FALSE NEIGHBOUR: 'it returns false'. Refute it at one input. -/
def fnExactOpenedWrong : ChangeSpec := { name := "fnExactOpened", vars := ["loop.example/g00267/impl.functions"], fn := fun _ => fun
  | [d1, d2, d3, g1] => { results := [.lit (.bool false)], args := [d1, d2, d3], vars := [g1] }
  | _ => none }
def FnExactOpenedWrongFalsely : Prop := fnExactOpenedRow.holds Tryd.pinned (OpenSpec.ofChange fnExactOpenedWrong)

/-- 'laws.FnExactClosed': WHATEVER THE INPUT: true; the input reads as it did. -/
def fnExactClosedSpec : ChangeSpec := { name := "fnExactClosed", vars := ["loop.example/g00267/impl.functions"], fn := fun _ => fun
  | [d1, d2, d3, g1] => { results := [.lit (.bool true)], args := [d1, d2, d3], vars := [g1] }
  | _ => none }
def fnExactClosedRow : OpenClaim := { program := "ytfkklffdkpbibaadoor", sum := "54f989d2db9fdb78878db2907c13db7ef82cbae87af09e1ee757afb4651aa775", func := "loop.example/g00267/laws.FnExactClosed", spec := "fnExactClosed", unfollowed := true, recurses := true, named := ["loop.example/g00267/impl.functions"], apart := false, laid := [("loop.example/g00267/impl.functions", laid_loop_example_g00267_impl_functions)] }
def FnExactClosedSaid : Prop := fnExactClosedRow.holds Tryd.pinned (OpenSpec.ofChange fnExactClosedSpec)

/-- ITS FALSE NEIGHBOUR: 'it returns false'. Refute it at one input. -/
def fnExactClosedWrong : ChangeSpec := { name := "fnExactClosed", vars := ["loop.example/g00267/impl.functions"], fn := fun _ => fun
  | [d1, d2, d3, g1] => { results := [.lit (.bool false)], args := [d1, d2, d3], vars := [g1] }
  | _ => none }
def FnExactClosedWrongFalsely : Prop := fnExactClosedRow.holds Tryd.pinned (OpenSpec.ofChange fnExactClosedWrong)

/- THE SECOND FORM. 'bulk': how many values and letters a reading holds, each counted each time it is reached (what is shared counts as often as it is met; a slice's spare places count too). A statement '..UptoSaid' is the law's where the arguments, and the package variables that the reading takes, are together of bulk at most 1048576: NARROWER than '..Said'. Prove '..Said' where nothing that the law and all that it calls make is longer than what came in: it says more and counts as full. Else prove '..UptoSaid'. A law counts once. -/
mutual
def uptoBulk {H : Type} : DataW H → Nat
  | .lit (.string bytes) => bytes.length + 1
  | .lit _ => 1
  | .nil => 1
  | .ptr d => uptoBulk d + 1
  | .slice elems spare => uptoBulkAll elems + uptoBulkAll spare + 1
  | .agg parts => uptoBulkAll parts + 1
  | .iface _ d => uptoBulk d + 1
  | .map entries => uptoBulkEntries entries + 1
  | .held _ => 1
def uptoBulkAll {H : Type} : List (DataW H) → Nat
  | [] => 0
  | d :: r => uptoBulk d + uptoBulkAll r
def uptoBulkEntries {H : Type} : List (Lit × DataW H) → Nat
  | [] => 0
  | x :: r => uptoBulkEntry x + uptoBulkEntries r
def uptoBulkEntry {H : Type} : Lit × DataW H → Nat
  | (.string bytes, d) => bytes.length + uptoBulk d + 1
  | (_, d) => uptoBulk d + 1
 end
def uptoSmall : (H : Type) → List (DataW H) → Bool := fun _ ds => decide (uptoBulkAll ds ≤ 1048576)
def OpenSpec.upto (s : _root_.Go.ChangeSpec) : _root_.Go.OpenSpec := { _root_.Go.OpenSpec.ofChange s with cond := some uptoSmall }

/-- 'laws.FnExactFormulaOk', WHERE WHAT IT READS IS OF BULK AT MOST 1048576: true; the input reads as it did. -/
def fnExactFormulaOkUptoRow : OpenClaim := { program := "ytfkklffdkpbibaadoor", sum := "54f989d2db9fdb78878db2907c13db7ef82cbae87af09e1ee757afb4651aa775", func := "loop.example/g00267/laws.FnExactFormulaOk", spec := "fnExactFormulaOk", unfollowed := true, recurses := true, named := ["loop.example/g00267/impl.functions"], apart := false, laid := [("loop.example/g00267/impl.functions", laid_loop_example_g00267_impl_functions)], narrowed := true }
def FnExactFormulaOkUptoSaid : Prop := fnExactFormulaOkUptoRow.holds Tryd.pinned (OpenSpec.upto fnExactFormulaOkSpec)

/-- 'laws.FnExactAreasOf', WHERE WHAT IT READS IS OF BULK AT MOST 1048576: true; the input reads as it did. -/
def fnExactAreasOfUptoRow : OpenClaim := { program := "ytfkklffdkpbibaadoor", sum := "54f989d2db9fdb78878db2907c13db7ef82cbae87af09e1ee757afb4651aa775", func := "loop.example/g00267/laws.FnExactAreasOf", spec := "fnExactAreasOf", unfollowed := true, recurses := true, named := ["loop.example/g00267/impl.functions"], apart := false, laid := [("loop.example/g00267/impl.functions", laid_loop_example_g00267_impl_functions)], narrowed := true }
def FnExactAreasOfUptoSaid : Prop := fnExactAreasOfUptoRow.holds Tryd.pinned (OpenSpec.upto fnExactAreasOfSpec)

/-- 'laws.FnExactMovedBy', WHERE WHAT IT READS IS OF BULK AT MOST 1048576: true; the input reads as it did. -/
def fnExactMovedByUptoRow : OpenClaim := { program := "ytfkklffdkpbibaadoor", sum := "54f989d2db9fdb78878db2907c13db7ef82cbae87af09e1ee757afb4651aa775", func := "loop.example/g00267/laws.FnExactMovedBy", spec := "fnExactMovedBy", unfollowed := true, recurses := true, named := ["loop.example/g00267/impl.functions"], apart := false, laid := [("loop.example/g00267/impl.functions", laid_loop_example_g00267_impl_functions)], narrowed := true }
def FnExactMovedByUptoSaid : Prop := fnExactMovedByUptoRow.holds Tryd.pinned (OpenSpec.upto fnExactMovedBySpec)

/-- 'laws.FnExactOpened', WHERE WHAT IT READS IS OF BULK AT MOST 1048576: true; the input reads as it did. -/
def fnExactOpenedUptoRow : OpenClaim := { program := "ytfkklffdkpbibaadoor", sum := "54f989d2db9fdb78878db2907c13db7ef82cbae87af09e1ee757afb4651aa775", func := "loop.example/g00267/laws.FnExactOpened", spec := "fnExactOpened", unfollowed := true, recurses := true, named := ["loop.example/g00267/impl.functions"], apart := false, laid := [("loop.example/g00267/impl.functions", laid_loop_example_g00267_impl_functions)], narrowed := true }
def FnExactOpenedUptoSaid : Prop := fnExactOpenedUptoRow.holds Tryd.pinned (OpenSpec.upto fnExactOpenedSpec)

/-- 'laws.FnExactClosed', WHERE WHAT IT READS IS OF BULK AT MOST 1048576: true; the input reads as it did. -/
def fnExactClosedUptoRow : OpenClaim := { program := "ytfkklffdkpbibaadoor", sum := "54f989d2db9fdb78878db2907c13db7ef82cbae87af09e1ee757afb4651aa775", func := "loop.example/g00267/laws.FnExactClosed", spec := "fnExactClosed", unfollowed := true, recurses := true, named := ["loop.example/g00267/impl.functions"], apart := false, laid := [("loop.example/g00267/impl.functions", laid_loop_example_g00267_impl_functions)], narrowed := true }
def FnExactClosedUptoSaid : Prop := fnExactClosedUptoRow.holds Tryd.pinned (OpenSpec.upto fnExactClosedSpec)

end Rows
end Go.Proofs.YtfkklffdkpbibaaDoor
