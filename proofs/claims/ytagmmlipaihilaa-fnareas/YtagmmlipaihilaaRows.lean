/-
  No cell of these rows narrows 'for every input' (looked for: loops, veiled, ifaces, maps, wideKeys, modest, calm, conditions, laid).
  DERIVED. THE GIVEN ROWS OF THIS SEAT. 7 by the template 'for every input the law returns true; each argument reads behind the call as it read before'; 0 by the template 'total and deterministic' (their statements: YtagmmlipaihilaaTotals.lean).
  GIVEN WITH THE SEED: the statements are not yours to turn. If you find one false, say at which input.
  Laid BY PROGRAM, IN A SANDBOX (cutbox-rows.mjs): the forced cells as the released guide's own fill.sh prints them over the translation 9f13547f76a36177… (all of the seat's roots in one cut). By AI agents, Wed Nov 11 2026. No macro, syntax, notation, axiom, sorry.
-/
import Derived.Test.YtagmmlipaihilaaChecked
import GoSem.Claim
import GoSem.ClaimJoined
import GoSem.ClaimMapViews
import Derived.JoinedTies
import Derived.KernelRfl
namespace Go.Proofs.Ytagmmlipaihilaa
/- THE CELL 'sum', in the pinned program and in every row, IS THE sha256 OF THE DUMP (.gsa) THAT YtagmmlipaihilaaProg.lean LOADS. Nothing in Lean hashes anything: it is a label: what it is worth is what the hold of that sum in a sandbox is worth. -/
noncomputable def Try.pinned : Pinned := { name := "ytagmmlipaihilaa", sum := "9f13547f76a36177401cf3786d08fb4fab82cc466a485446c70910a895247dbf", checked := Try.checked }
namespace Rows
def none {H : Type} : Left H := { results := [], args := [] }

/-- 'laws.FnAreas': WHATEVER THE INPUT: true; the input reads as it did. -/
def fnAreasSpec : ChangeSpec := { name := "fnAreas", fn := fun _ => fun
  | [d] => { results := [.lit (.bool true)], args := [d] }
  | _ => none }
def fnAreasRow : OpenClaim := { program := "ytagmmlipaihilaa", sum := "9f13547f76a36177401cf3786d08fb4fab82cc466a485446c70910a895247dbf", func := "loop.example/g00267/laws.FnAreas", spec := "fnAreas", apart := false }
def FnAreasSaid : Prop := fnAreasRow.holds Try.pinned (OpenSpec.ofChange fnAreasSpec)

/-- ITS FALSE NEIGHBOUR: 'it returns false'. Refute it at one input. -/
def fnAreasWrong : ChangeSpec := { name := "fnAreas", fn := fun _ => fun
  | [d] => { results := [.lit (.bool false)], args := [d] }
  | _ => none }
def FnAreasWrongFalsely : Prop := fnAreasRow.holds Try.pinned (OpenSpec.ofChange fnAreasWrong)

/-- 'laws.FnExactColText': WHATEVER THE INPUT: true; the input reads as it did. -/
def fnExactColTextSpec : ChangeSpec := { name := "fnExactColText", fn := fun _ => fun
  | [d] => { results := [.lit (.bool true)], args := [d] }
  | _ => none }
def fnExactColTextRow : OpenClaim := { program := "ytagmmlipaihilaa", sum := "9f13547f76a36177401cf3786d08fb4fab82cc466a485446c70910a895247dbf", func := "loop.example/g00267/laws.FnExactColText", spec := "fnExactColText", apart := false }
def FnExactColTextSaid : Prop := fnExactColTextRow.holds Try.pinned (OpenSpec.ofChange fnExactColTextSpec)

/-- ITS FALSE NEIGHBOUR: 'it returns false'. Refute it at one input. -/
def fnExactColTextWrong : ChangeSpec := { name := "fnExactColText", fn := fun _ => fun
  | [d] => { results := [.lit (.bool false)], args := [d] }
  | _ => none }
def FnExactColTextWrongFalsely : Prop := fnExactColTextRow.holds Try.pinned (OpenSpec.ofChange fnExactColTextWrong)

/-- 'laws.FnExactReadCol': WHATEVER THE INPUT: true; the input reads as it did. -/
def fnExactReadColSpec : ChangeSpec := { name := "fnExactReadCol", fn := fun _ => fun
  | [d] => { results := [.lit (.bool true)], args := [d] }
  | _ => none }
def fnExactReadColRow : OpenClaim := { program := "ytagmmlipaihilaa", sum := "9f13547f76a36177401cf3786d08fb4fab82cc466a485446c70910a895247dbf", func := "loop.example/g00267/laws.FnExactReadCol", spec := "fnExactReadCol", apart := false }
def FnExactReadColSaid : Prop := fnExactReadColRow.holds Try.pinned (OpenSpec.ofChange fnExactReadColSpec)

/-- ITS FALSE NEIGHBOUR: 'it returns false'. Refute it at one input. -/
def fnExactReadColWrong : ChangeSpec := { name := "fnExactReadCol", fn := fun _ => fun
  | [d] => { results := [.lit (.bool false)], args := [d] }
  | _ => none }
def FnExactReadColWrongFalsely : Prop := fnExactReadColRow.holds Try.pinned (OpenSpec.ofChange fnExactReadColWrong)

/-- 'laws.FnExactRefOk': WHATEVER THE INPUT: true; the input reads as it did. -/
def fnExactRefOkSpec : ChangeSpec := { name := "fnExactRefOk", fn := fun _ => fun
  | [d] => { results := [.lit (.bool true)], args := [d] }
  | _ => none }
def fnExactRefOkRow : OpenClaim := { program := "ytagmmlipaihilaa", sum := "9f13547f76a36177401cf3786d08fb4fab82cc466a485446c70910a895247dbf", func := "loop.example/g00267/laws.FnExactRefOk", spec := "fnExactRefOk", apart := false }
def FnExactRefOkSaid : Prop := fnExactRefOkRow.holds Try.pinned (OpenSpec.ofChange fnExactRefOkSpec)

/-- ITS FALSE NEIGHBOUR: 'it returns false'. Refute it at one input. -/
def fnExactRefOkWrong : ChangeSpec := { name := "fnExactRefOk", fn := fun _ => fun
  | [d] => { results := [.lit (.bool false)], args := [d] }
  | _ => none }
def FnExactRefOkWrongFalsely : Prop := fnExactRefOkRow.holds Try.pinned (OpenSpec.ofChange fnExactRefOkWrong)

/-- 'laws.FnExactAreaOk': WHATEVER THE INPUT: true; the input reads as it did. -/
def fnExactAreaOkSpec : ChangeSpec := { name := "fnExactAreaOk", fn := fun _ => fun
  | [d] => { results := [.lit (.bool true)], args := [d] }
  | _ => none }
def fnExactAreaOkRow : OpenClaim := { program := "ytagmmlipaihilaa", sum := "9f13547f76a36177401cf3786d08fb4fab82cc466a485446c70910a895247dbf", func := "loop.example/g00267/laws.FnExactAreaOk", spec := "fnExactAreaOk", apart := false }
def FnExactAreaOkSaid : Prop := fnExactAreaOkRow.holds Try.pinned (OpenSpec.ofChange fnExactAreaOkSpec)

/-- ITS FALSE NEIGHBOUR: 'it returns false'. Refute it at one input. -/
def fnExactAreaOkWrong : ChangeSpec := { name := "fnExactAreaOk", fn := fun _ => fun
  | [d] => { results := [.lit (.bool false)], args := [d] }
  | _ => none }
def FnExactAreaOkWrongFalsely : Prop := fnExactAreaOkRow.holds Try.pinned (OpenSpec.ofChange fnExactAreaOkWrong)

/-- 'laws.FnExactCellsOf': WHATEVER THE INPUT: true; the input reads as it did. -/
def fnExactCellsOfSpec : ChangeSpec := { name := "fnExactCellsOf", fn := fun _ => fun
  | [d] => { results := [.lit (.bool true)], args := [d] }
  | _ => none }
def fnExactCellsOfRow : OpenClaim := { program := "ytagmmlipaihilaa", sum := "9f13547f76a36177401cf3786d08fb4fab82cc466a485446c70910a895247dbf", func := "loop.example/g00267/laws.FnExactCellsOf", spec := "fnExactCellsOf", apart := false }
def FnExactCellsOfSaid : Prop := fnExactCellsOfRow.holds Try.pinned (OpenSpec.ofChange fnExactCellsOfSpec)

/-- ITS FALSE NEIGHBOUR: 'it returns false'. Refute it at one input. -/
def fnExactCellsOfWrong : ChangeSpec := { name := "fnExactCellsOf", fn := fun _ => fun
  | [d] => { results := [.lit (.bool false)], args := [d] }
  | _ => none }
def FnExactCellsOfWrongFalsely : Prop := fnExactCellsOfRow.holds Try.pinned (OpenSpec.ofChange fnExactCellsOfWrong)

/-- 'laws.FnExactCommon': WHATEVER THE INPUT: true; the input reads as it did. -/
def fnExactCommonSpec : ChangeSpec := { name := "fnExactCommon", fn := fun _ => fun
  | [d1, d2] => { results := [.lit (.bool true)], args := [d1, d2] }
  | _ => none }
def fnExactCommonRow : OpenClaim := { program := "ytagmmlipaihilaa", sum := "9f13547f76a36177401cf3786d08fb4fab82cc466a485446c70910a895247dbf", func := "loop.example/g00267/laws.FnExactCommon", spec := "fnExactCommon", apart := false }
def FnExactCommonSaid : Prop := fnExactCommonRow.holds Try.pinned (OpenSpec.ofChange fnExactCommonSpec)

/-- ITS FALSE NEIGHBOUR: 'it returns false'. Refute it at one input. -/
def fnExactCommonWrong : ChangeSpec := { name := "fnExactCommon", fn := fun _ => fun
  | [d1, d2] => { results := [.lit (.bool false)], args := [d1, d2] }
  | _ => none }
def FnExactCommonWrongFalsely : Prop := fnExactCommonRow.holds Try.pinned (OpenSpec.ofChange fnExactCommonWrong)

/- THE SECOND FORM. 'bulk': how many values and letters a reading holds, each counted each time it is reached (what is shared counts as often as it is met; a slice's spare places count too). A statement '..UptoSaid' is the law's where the arguments, and the package variables that the reading takes, are together of bulk at most 1048576: NARROWER than '..Said'. Prove '..Said' where nothing that the law and all that it calls make is longer than what came in: it says more and counts as full. Else prove '..UptoSaid'. A law counts once. -/
mutual
def uptoBulk {H : Type} : DataW H → Nat
  | .lit (.string bytes) => bytes.length + 1
  | .lit _ => 1
  | .nil => 1
  | .ptr d => uptoBulk d + 1
  | .slice elems spare => uptoBulkAll elems + uptoBulkAll spare + 1
  | .agg parts => uptoBulkAll parts + 1
  | .iface _ d => uptoBulk d + 1
  | .map entries => uptoBulkEntries entries + 1
  | .held _ => 1
def uptoBulkAll {H : Type} : List (DataW H) → Nat
  | [] => 0
  | d :: r => uptoBulk d + uptoBulkAll r
def uptoBulkEntries {H : Type} : List (Lit × DataW H) → Nat
  | [] => 0
  | x :: r => uptoBulkEntry x + uptoBulkEntries r
def uptoBulkEntry {H : Type} : Lit × DataW H → Nat
  | (.string bytes, d) => bytes.length + uptoBulk d + 1
  | (_, d) => uptoBulk d + 1
 end
def uptoSmall : (H : Type) → List (DataW H) → Bool := fun _ ds => decide (uptoBulkAll ds ≤ 1048576)
def OpenSpec.upto (s : _root_.Go.ChangeSpec) : _root_.Go.OpenSpec := { _root_.Go.OpenSpec.ofChange s with cond := some uptoSmall }

/-- 'laws.FnAreas', WHERE WHAT IT READS IS OF BULK AT MOST 1048576: true; the input reads as it did. -/
def fnAreasUptoRow : OpenClaim := { program := "ytagmmlipaihilaa", sum := "9f13547f76a36177401cf3786d08fb4fab82cc466a485446c70910a895247dbf", func := "loop.example/g00267/laws.FnAreas", spec := "fnAreas", apart := false, narrowed := true }
def FnAreasUptoSaid : Prop := fnAreasUptoRow.holds Try.pinned (OpenSpec.upto fnAreasSpec)

/-- 'laws.FnExactColText', WHERE WHAT IT READS IS OF BULK AT MOST 1048576: true; the input reads as it did. -/
def fnExactColTextUptoRow : OpenClaim := { program := "ytagmmlipaihilaa", sum := "9f13547f76a36177401cf3786d08fb4fab82cc466a485446c70910a895247dbf", func := "loop.example/g00267/laws.FnExactColText", spec := "fnExactColText", apart := false, narrowed := true }
def FnExactColTextUptoSaid : Prop := fnExactColTextUptoRow.holds Try.pinned (OpenSpec.upto fnExactColTextSpec)

/-- 'laws.FnExactReadCol', WHERE WHAT IT READS IS OF BULK AT MOST 1048576: true; the input reads as it did. -/
def fnExactReadColUptoRow : OpenClaim := { program := "ytagmmlipaihilaa", sum := "9f13547f76a36177401cf3786d08fb4fab82cc466a485446c70910a895247dbf", func := "loop.example/g00267/laws.FnExactReadCol", spec := "fnExactReadCol", apart := false, narrowed := true }
def FnExactReadColUptoSaid : Prop := fnExactReadColUptoRow.holds Try.pinned (OpenSpec.upto fnExactReadColSpec)

/-- 'laws.FnExactRefOk', WHERE WHAT IT READS IS OF BULK AT MOST 1048576: true; the input reads as it did. -/
def fnExactRefOkUptoRow : OpenClaim := { program := "ytagmmlipaihilaa", sum := "9f13547f76a36177401cf3786d08fb4fab82cc466a485446c70910a895247dbf", func := "loop.example/g00267/laws.FnExactRefOk", spec := "fnExactRefOk", apart := false, narrowed := true }
def FnExactRefOkUptoSaid : Prop := fnExactRefOkUptoRow.holds Try.pinned (OpenSpec.upto fnExactRefOkSpec)

/-- 'laws.FnExactAreaOk', WHERE WHAT IT READS IS OF BULK AT MOST 1048576: true; the input reads as it did. -/
def fnExactAreaOkUptoRow : OpenClaim := { program := "ytagmmlipaihilaa", sum := "9f13547f76a36177401cf3786d08fb4fab82cc466a485446c70910a895247dbf", func := "loop.example/g00267/laws.FnExactAreaOk", spec := "fnExactAreaOk", apart := false, narrowed := true }
def FnExactAreaOkUptoSaid : Prop := fnExactAreaOkUptoRow.holds Try.pinned (OpenSpec.upto fnExactAreaOkSpec)

/-- 'laws.FnExactCellsOf', WHERE WHAT IT READS IS OF BULK AT MOST 1048576: true; the input reads as it did. -/
def fnExactCellsOfUptoRow : OpenClaim := { program := "ytagmmlipaihilaa", sum := "9f13547f76a36177401cf3786d08fb4fab82cc466a485446c70910a895247dbf", func := "loop.example/g00267/laws.FnExactCellsOf", spec := "fnExactCellsOf", apart := false, narrowed := true }
def FnExactCellsOfUptoSaid : Prop := fnExactCellsOfUptoRow.holds Try.pinned (OpenSpec.upto fnExactCellsOfSpec)

/-- 'laws.FnExactCommon', WHERE WHAT IT READS IS OF BULK AT MOST 1048576: true; the input reads as it did. -/
def fnExactCommonUptoRow : OpenClaim := { program := "ytagmmlipaihilaa", sum := "9f13547f76a36177401cf3786d08fb4fab82cc466a485446c70910a895247dbf", func := "loop.example/g00267/laws.FnExactCommon", spec := "fnExactCommon", apart := false, narrowed := true }
def FnExactCommonUptoSaid : Prop := fnExactCommonUptoRow.holds Try.pinned (OpenSpec.upto fnExactCommonSpec)

end Rows
end Go.Proofs.Ytagmmlipaihilaa
