/-
  NARROWER THAN 'FOR EVERY INPUT', by the rows' own cells (each row's printed sentence says how): FnExactDagOk: laid · FnExactSheetAt: laid · FnExactHeadOf: laid · FnExactAbove: laid · FnExactLca: laid.
  DERIVED. THE GIVEN ROWS OF THIS SEAT. 5 by the template 'for every input the law returns true; each argument reads behind the call as it read before'; 0 by the template 'total and deterministic' (their statements: YtbmmjfmgpdddeaaGreatDoorTotals.lean).
  GIVEN WITH THE SEED: the statements are not yours to turn. If you find one false, say at which input.
  Laid BY PROGRAM, IN A SANDBOX (cutbox-rows.mjs): the forced cells as the released guide's own fill.sh prints them over the translation 4a2ae177975bba1a… (all of the seat's roots in one cut). By AI agents, Wed Nov 11 2026. No macro, syntax, notation, axiom, sorry.
-/
import Derived.Test.YtbmmjfmgpdddeaaGreatDoorChecked
import GoSem.PinnedTables
import GoSem.Claim
import GoSem.ClaimJoined
import GoSem.ClaimMapViews
import Derived.JoinedTies
import Derived.KernelRfl
namespace Go.Proofs.YtbmmjfmgpdddeaaGreatDoor
/- THE CELL 'sum', in the pinned program and in every row, IS THE sha256 OF THE DUMP (.gsa) THAT YtbmmjfmgpdddeaaGreatDoorProg.lean LOADS. Nothing in Lean hashes anything: it is a label: what it is worth is what the hold of that sum in a sandbox is worth. -/
noncomputable def Tryz.pinned : Pinned := { name := "ytbmmjfmgpdddeaagreatdoor", sum := "4a2ae177975bba1ad0f0ce578439e2886f2c56f0b096d381c3e03e7da5dad9a5", checked := Tryz.checked }
namespace Rows
def none {H : Type} : Left H := { results := [], args := [] }

/- WHAT THE LISTED PACKAGE-LEVEL VARIABLES READ AS WHEN THE CALL BEGINS. Each datum BY PROGRAM (the guide's laid-datum.mjs) off the statement by which the dump's own 'gosem.cut.vars' lays the variable. In a bare row this is a premise. The card (YtbmmjfmgpdddeaaGreatDoorCards.lean) ties it to the program's text. -/
def laid_math_bits_deBruijn32tab {H : Type} : DataW H := .agg [.lit (.int .u8 0), .lit (.int .u8 1), .lit (.int .u8 28), .lit (.int .u8 2), .lit (.int .u8 29), .lit (.int .u8 14), .lit (.int .u8 24), .lit (.int .u8 3), .lit (.int .u8 30), .lit (.int .u8 22), .lit (.int .u8 20), .lit (.int .u8 15), .lit (.int .u8 25), .lit (.int .u8 17), .lit (.int .u8 4), .lit (.int .u8 8), .lit (.int .u8 31), .lit (.int .u8 27), .lit (.int .u8 13), .lit (.int .u8 23), .lit (.int .u8 21), .lit (.int .u8 19), .lit (.int .u8 16), .lit (.int .u8 7), .lit (.int .u8 26), .lit (.int .u8 12), .lit (.int .u8 18), .lit (.int .u8 6), .lit (.int .u8 11), .lit (.int .u8 5), .lit (.int .u8 10), .lit (.int .u8 9)]
def laid_math_bits_deBruijn64tab {H : Type} : DataW H := .agg [.lit (.int .u8 0), .lit (.int .u8 1), .lit (.int .u8 56), .lit (.int .u8 2), .lit (.int .u8 57), .lit (.int .u8 49), .lit (.int .u8 28), .lit (.int .u8 3), .lit (.int .u8 61), .lit (.int .u8 58), .lit (.int .u8 42), .lit (.int .u8 50), .lit (.int .u8 38), .lit (.int .u8 29), .lit (.int .u8 17), .lit (.int .u8 4), .lit (.int .u8 62), .lit (.int .u8 47), .lit (.int .u8 59), .lit (.int .u8 36), .lit (.int .u8 45), .lit (.int .u8 43), .lit (.int .u8 51), .lit (.int .u8 22), .lit (.int .u8 53), .lit (.int .u8 39), .lit (.int .u8 33), .lit (.int .u8 30), .lit (.int .u8 24), .lit (.int .u8 18), .lit (.int .u8 12), .lit (.int .u8 5), .lit (.int .u8 63), .lit (.int .u8 55), .lit (.int .u8 48), .lit (.int .u8 27), .lit (.int .u8 60), .lit (.int .u8 41), .lit (.int .u8 37), .lit (.int .u8 16), .lit (.int .u8 46), .lit (.int .u8 35), .lit (.int .u8 44), .lit (.int .u8 21), .lit (.int .u8 52), .lit (.int .u8 32), .lit (.int .u8 23), .lit (.int .u8 11), .lit (.int .u8 54), .lit (.int .u8 26), .lit (.int .u8 40), .lit (.int .u8 15), .lit (.int .u8 34), .lit (.int .u8 20), .lit (.int .u8 31), .lit (.int .u8 10), .lit (.int .u8 25), .lit (.int .u8 14), .lit (.int .u8 19), .lit (.int .u8 9), .lit (.int .u8 13), .lit (.int .u8 8), .lit (.int .u8 7), .lit (.int .u8 6)]
def laid_internal_strconv_uint64pow10 {H : Type} : DataW H := .agg [.lit (.int .u64 1), .lit (.int .u64 10), .lit (.int .u64 100), .lit (.int .u64 1000), .lit (.int .u64 10000), .lit (.int .u64 100000), .lit (.int .u64 1000000), .lit (.int .u64 10000000), .lit (.int .u64 100000000), .lit (.int .u64 1000000000), .lit (.int .u64 10000000000), .lit (.int .u64 100000000000), .lit (.int .u64 1000000000000), .lit (.int .u64 10000000000000), .lit (.int .u64 100000000000000), .lit (.int .u64 1000000000000000), .lit (.int .u64 10000000000000000), .lit (.int .u64 100000000000000000), .lit (.int .u64 1000000000000000000), .lit (.int .u64 10000000000000000000)]
def laid_unicode_utf8_acceptRanges {H : Type} : DataW H := .agg [.agg [.lit (.int .u8 128), .lit (.int .u8 191)], .agg [.lit (.int .u8 160), .lit (.int .u8 191)], .agg [.lit (.int .u8 128), .lit (.int .u8 159)], .agg [.lit (.int .u8 144), .lit (.int .u8 191)], .agg [.lit (.int .u8 128), .lit (.int .u8 143)], .agg [.lit (.int .u8 0), .lit (.int .u8 0)], .agg [.lit (.int .u8 0), .lit (.int .u8 0)], .agg [.lit (.int .u8 0), .lit (.int .u8 0)], .agg [.lit (.int .u8 0), .lit (.int .u8 0)], .agg [.lit (.int .u8 0), .lit (.int .u8 0)], .agg [.lit (.int .u8 0), .lit (.int .u8 0)], .agg [.lit (.int .u8 0), .lit (.int .u8 0)], .agg [.lit (.int .u8 0), .lit (.int .u8 0)], .agg [.lit (.int .u8 0), .lit (.int .u8 0)], .agg [.lit (.int .u8 0), .lit (.int .u8 0)], .agg [.lit (.int .u8 0), .lit (.int .u8 0)]]
def laid_strconv_ErrRange {H : Type} : DataW H := .iface "*errors.errorString" (.ptr (.agg [.lit (.string [118, 97, 108, 117, 101, 32, 111, 117, 116, 32, 111, 102, 32, 114, 97, 110, 103, 101])]))
def laid_strconv_ErrSyntax {H : Type} : DataW H := .iface "*errors.errorString" (.ptr (.agg [.lit (.string [105, 110, 118, 97, 108, 105, 100, 32, 115, 121, 110, 116, 97, 120])]))
def laid_loop_example_g00267_impl_operators {H : Type} : DataW H := .agg [.agg [.lit (.string []), .lit (.int .i64 0)], .agg [.lit (.string [43]), .lit (.int .i64 3)], .agg [.lit (.string [45]), .lit (.int .i64 3)], .agg [.lit (.string [42]), .lit (.int .i64 4)], .agg [.lit (.string [47]), .lit (.int .i64 4)], .agg [.lit (.string [38]), .lit (.int .i64 2)], .agg [.lit (.string [61]), .lit (.int .i64 1)], .agg [.lit (.string [60, 62]), .lit (.int .i64 1)], .agg [.lit (.string [60]), .lit (.int .i64 1)], .agg [.lit (.string [60, 61]), .lit (.int .i64 1)], .agg [.lit (.string [62]), .lit (.int .i64 1)], .agg [.lit (.string [62, 61]), .lit (.int .i64 1)]]
def laid_loop_example_g00267_impl_functions {H : Type} : DataW H := .agg [.agg [.lit (.string []), .lit (.int .i64 0), .lit (.int .i64 0)], .agg [.lit (.string [83, 85, 77]), .lit (.int .i64 1), .lit (.int .i64 10)], .agg [.lit (.string [77, 73, 78]), .lit (.int .i64 1), .lit (.int .i64 10)], .agg [.lit (.string [77, 65, 88]), .lit (.int .i64 1), .lit (.int .i64 10)], .agg [.lit (.string [67, 79, 85, 78, 84]), .lit (.int .i64 1), .lit (.int .i64 10)], .agg [.lit (.string [73, 70]), .lit (.int .i64 2), .lit (.int .i64 3)], .agg [.lit (.string [65, 78, 68]), .lit (.int .i64 1), .lit (.int .i64 10)], .agg [.lit (.string [79, 82]), .lit (.int .i64 1), .lit (.int .i64 10)], .agg [.lit (.string [78, 79, 84]), .lit (.int .i64 1), .lit (.int .i64 1)], .agg [.lit (.string [65, 66, 83]), .lit (.int .i64 1), .lit (.int .i64 1)], .agg [.lit (.string [76, 69, 78]), .lit (.int .i64 1), .lit (.int .i64 1)]]
/-- One of Go's own tables, pinned by name: the form's constant. -/
def laid_unicode_utf8_first : DataW Unit := Go.Pinned.utf8First

/-- 'laws.FnExactDagOk': WHATEVER THE INPUT: true; the input reads as it did. -/
def fnExactDagOkSpec : ChangeSpec := { name := "fnExactDagOk", vars := ["loop.example/g00267/impl.operators", "loop.example/g00267/impl.functions"], fn := fun _ => fun
  | [d, g1, g2] => { results := [.lit (.bool true)], args := [d], vars := [g1, g2] }
  | _ => none }
def fnExactDagOkRow : OpenClaim := { program := "ytbmmjfmgpdddeaagreatdoor", sum := "4a2ae177975bba1ad0f0ce578439e2886f2c56f0b096d381c3e03e7da5dad9a5", func := "loop.example/g00267/laws.FnExactDagOk", spec := "fnExactDagOk", inPlace := ["internal/bytealg.IndexByteString", "internal/bytealg.IndexString", "internal/bytealg.CountString", "internal/abi.NoEscape", "internal/bytealg.MakeNoZero"], unfollowed := true, recurses := true, named := ["unicode/utf8.first", "unicode/utf8.acceptRanges", "loop.example/g00267/impl.operators", "internal/bytealg.MaxLen", "loop.example/g00267/impl.functions", "strconv.ErrSyntax", "strconv.ErrRange", "internal/strconv.uint64pow10", "math/bits.deBruijn32tab", "math/bits.deBruijn64tab"], apart := false, laid := [("math/bits.deBruijn32tab", laid_math_bits_deBruijn32tab), ("math/bits.deBruijn64tab", laid_math_bits_deBruijn64tab), ("internal/strconv.uint64pow10", laid_internal_strconv_uint64pow10), ("unicode/utf8.acceptRanges", laid_unicode_utf8_acceptRanges), ("strconv.ErrRange", laid_strconv_ErrRange), ("strconv.ErrSyntax", laid_strconv_ErrSyntax), ("loop.example/g00267/impl.operators", laid_loop_example_g00267_impl_operators), ("loop.example/g00267/impl.functions", laid_loop_example_g00267_impl_functions), ("unicode/utf8.first", laid_unicode_utf8_first)] }
def FnExactDagOkSaid : Prop := fnExactDagOkRow.holds Tryz.pinned (OpenSpec.ofChange fnExactDagOkSpec)

/-- ITS FALSE NEIGHBOUR: 'it returns false'. Refute it at one input. -/
def fnExactDagOkWrong : ChangeSpec := { name := "fnExactDagOk", vars := ["loop.example/g00267/impl.operators", "loop.example/g00267/impl.functions"], fn := fun _ => fun
  | [d, g1, g2] => { results := [.lit (.bool false)], args := [d], vars := [g1, g2] }
  | _ => none }
def FnExactDagOkWrongFalsely : Prop := fnExactDagOkRow.holds Tryz.pinned (OpenSpec.ofChange fnExactDagOkWrong)

/-- 'laws.FnExactSheetAt': WHATEVER THE INPUT: true; the input reads as it did. -/
def fnExactSheetAtSpec : ChangeSpec := { name := "fnExactSheetAt", vars := ["loop.example/g00267/impl.operators", "loop.example/g00267/impl.functions"], fn := fun _ => fun
  | [d1, d2, g1, g2] => { results := [.lit (.bool true)], args := [d1, d2], vars := [g1, g2] }
  | _ => none }
def fnExactSheetAtRow : OpenClaim := { program := "ytbmmjfmgpdddeaagreatdoor", sum := "4a2ae177975bba1ad0f0ce578439e2886f2c56f0b096d381c3e03e7da5dad9a5", func := "loop.example/g00267/laws.FnExactSheetAt", spec := "fnExactSheetAt", inPlace := ["internal/bytealg.IndexByteString", "internal/bytealg.IndexString", "internal/bytealg.CountString", "internal/abi.NoEscape", "internal/bytealg.MakeNoZero"], unfollowed := true, recurses := true, named := ["unicode/utf8.first", "unicode/utf8.acceptRanges", "loop.example/g00267/impl.operators", "internal/bytealg.MaxLen", "loop.example/g00267/impl.functions", "strconv.ErrSyntax", "strconv.ErrRange", "internal/strconv.uint64pow10", "math/bits.deBruijn32tab", "math/bits.deBruijn64tab"], apart := false, laid := [("math/bits.deBruijn32tab", laid_math_bits_deBruijn32tab), ("math/bits.deBruijn64tab", laid_math_bits_deBruijn64tab), ("internal/strconv.uint64pow10", laid_internal_strconv_uint64pow10), ("unicode/utf8.acceptRanges", laid_unicode_utf8_acceptRanges), ("strconv.ErrRange", laid_strconv_ErrRange), ("strconv.ErrSyntax", laid_strconv_ErrSyntax), ("loop.example/g00267/impl.operators", laid_loop_example_g00267_impl_operators), ("loop.example/g00267/impl.functions", laid_loop_example_g00267_impl_functions), ("unicode/utf8.first", laid_unicode_utf8_first)] }
def FnExactSheetAtSaid : Prop := fnExactSheetAtRow.holds Tryz.pinned (OpenSpec.ofChange fnExactSheetAtSpec)

/-- ITS FALSE NEIGHBOUR: 'it returns false'. Refute it at one input. -/
def fnExactSheetAtWrong : ChangeSpec := { name := "fnExactSheetAt", vars := ["loop.example/g00267/impl.operators", "loop.example/g00267/impl.functions"], fn := fun _ => fun
  | [d1, d2, g1, g2] => { results := [.lit (.bool false)], args := [d1, d2], vars := [g1, g2] }
  | _ => none }
def FnExactSheetAtWrongFalsely : Prop := fnExactSheetAtRow.holds Tryz.pinned (OpenSpec.ofChange fnExactSheetAtWrong)

/-- 'laws.FnExactHeadOf': WHATEVER THE INPUT: true; the input reads as it did. -/
def fnExactHeadOfSpec : ChangeSpec := { name := "fnExactHeadOf", vars := ["loop.example/g00267/impl.operators", "loop.example/g00267/impl.functions"], fn := fun _ => fun
  | [d1, d2, g1, g2] => { results := [.lit (.bool true)], args := [d1, d2], vars := [g1, g2] }
  | _ => none }
def fnExactHeadOfRow : OpenClaim := { program := "ytbmmjfmgpdddeaagreatdoor", sum := "4a2ae177975bba1ad0f0ce578439e2886f2c56f0b096d381c3e03e7da5dad9a5", func := "loop.example/g00267/laws.FnExactHeadOf", spec := "fnExactHeadOf", inPlace := ["internal/bytealg.IndexByteString", "internal/bytealg.IndexString", "internal/bytealg.CountString", "internal/abi.NoEscape", "internal/bytealg.MakeNoZero"], unfollowed := true, recurses := true, named := ["unicode/utf8.first", "unicode/utf8.acceptRanges", "loop.example/g00267/impl.operators", "internal/bytealg.MaxLen", "loop.example/g00267/impl.functions", "strconv.ErrSyntax", "strconv.ErrRange", "internal/strconv.uint64pow10", "math/bits.deBruijn32tab", "math/bits.deBruijn64tab"], apart := false, laid := [("math/bits.deBruijn32tab", laid_math_bits_deBruijn32tab), ("math/bits.deBruijn64tab", laid_math_bits_deBruijn64tab), ("internal/strconv.uint64pow10", laid_internal_strconv_uint64pow10), ("unicode/utf8.acceptRanges", laid_unicode_utf8_acceptRanges), ("strconv.ErrRange", laid_strconv_ErrRange), ("strconv.ErrSyntax", laid_strconv_ErrSyntax), ("loop.example/g00267/impl.operators", laid_loop_example_g00267_impl_operators), ("loop.example/g00267/impl.functions", laid_loop_example_g00267_impl_functions), ("unicode/utf8.first", laid_unicode_utf8_first)] }
def FnExactHeadOfSaid : Prop := fnExactHeadOfRow.holds Tryz.pinned (OpenSpec.ofChange fnExactHeadOfSpec)

/-- ITS FALSE NEIGHBOUR: 'it returns false'. Refute it at one input. -/
def fnExactHeadOfWrong : ChangeSpec := { name := "fnExactHeadOf", vars := ["loop.example/g00267/impl.operators", "loop.example/g00267/impl.functions"], fn := fun _ => fun
  | [d1, d2, g1, g2] => { results := [.lit (.bool false)], args := [d1, d2], vars := [g1, g2] }
  | _ => none }
def FnExactHeadOfWrongFalsely : Prop := fnExactHeadOfRow.holds Tryz.pinned (OpenSpec.ofChange fnExactHeadOfWrong)

/-- 'laws.FnExactAbove': WHATEVER THE INPUT: true; the input reads as it did. -/
def fnExactAboveSpec : ChangeSpec := { name := "fnExactAbove", vars := ["loop.example/g00267/impl.operators", "loop.example/g00267/impl.functions"], fn := fun _ => fun
  | [d1, d2, g1, g2] => { results := [.lit (.bool true)], args := [d1, d2], vars := [g1, g2] }
  | _ => none }
def fnExactAboveRow : OpenClaim := { program := "ytbmmjfmgpdddeaagreatdoor", sum := "4a2ae177975bba1ad0f0ce578439e2886f2c56f0b096d381c3e03e7da5dad9a5", func := "loop.example/g00267/laws.FnExactAbove", spec := "fnExactAbove", inPlace := ["internal/bytealg.IndexByteString", "internal/bytealg.IndexString", "internal/bytealg.CountString", "internal/abi.NoEscape", "internal/bytealg.MakeNoZero"], unfollowed := true, recurses := true, named := ["unicode/utf8.first", "unicode/utf8.acceptRanges", "loop.example/g00267/impl.operators", "internal/bytealg.MaxLen", "loop.example/g00267/impl.functions", "strconv.ErrSyntax", "strconv.ErrRange", "internal/strconv.uint64pow10", "math/bits.deBruijn32tab", "math/bits.deBruijn64tab"], apart := false, laid := [("math/bits.deBruijn32tab", laid_math_bits_deBruijn32tab), ("math/bits.deBruijn64tab", laid_math_bits_deBruijn64tab), ("internal/strconv.uint64pow10", laid_internal_strconv_uint64pow10), ("unicode/utf8.acceptRanges", laid_unicode_utf8_acceptRanges), ("strconv.ErrRange", laid_strconv_ErrRange), ("strconv.ErrSyntax", laid_strconv_ErrSyntax), ("loop.example/g00267/impl.operators", laid_loop_example_g00267_impl_operators), ("loop.example/g00267/impl.functions", laid_loop_example_g00267_impl_functions), ("unicode/utf8.first", laid_unicode_utf8_first)] }
def FnExactAboveSaid : Prop := fnExactAboveRow.holds Tryz.pinned (OpenSpec.ofChange fnExactAboveSpec)

/-- ITS FALSE NEIGHBOUR: 'it returns false'. Refute it at one input. -/
def fnExactAboveWrong : ChangeSpec := { name := "fnExactAbove", vars := ["loop.example/g00267/impl.operators", "loop.example/g00267/impl.functions"], fn := fun _ => fun
  | [d1, d2, g1, g2] => { results := [.lit (.bool false)], args := [d1, d2], vars := [g1, g2] }
  | _ => none }
def FnExactAboveWrongFalsely : Prop := fnExactAboveRow.holds Tryz.pinned (OpenSpec.ofChange fnExactAboveWrong)

/-- 'laws.FnExactLca': WHATEVER THE INPUT: true; the input reads as it did. -/
def fnExactLcaSpec : ChangeSpec := { name := "fnExactLca", vars := ["loop.example/g00267/impl.operators", "loop.example/g00267/impl.functions"], fn := fun _ => fun
  | [d1, d2, d3, g1, g2] => { results := [.lit (.bool true)], args := [d1, d2, d3], vars := [g1, g2] }
  | _ => none }
def fnExactLcaRow : OpenClaim := { program := "ytbmmjfmgpdddeaagreatdoor", sum := "4a2ae177975bba1ad0f0ce578439e2886f2c56f0b096d381c3e03e7da5dad9a5", func := "loop.example/g00267/laws.FnExactLca", spec := "fnExactLca", inPlace := ["internal/bytealg.IndexByteString", "internal/bytealg.IndexString", "internal/bytealg.CountString", "internal/abi.NoEscape", "internal/bytealg.MakeNoZero"], unfollowed := true, recurses := true, named := ["unicode/utf8.first", "unicode/utf8.acceptRanges", "loop.example/g00267/impl.operators", "internal/bytealg.MaxLen", "loop.example/g00267/impl.functions", "strconv.ErrSyntax", "strconv.ErrRange", "internal/strconv.uint64pow10", "math/bits.deBruijn32tab", "math/bits.deBruijn64tab"], apart := false, laid := [("math/bits.deBruijn32tab", laid_math_bits_deBruijn32tab), ("math/bits.deBruijn64tab", laid_math_bits_deBruijn64tab), ("internal/strconv.uint64pow10", laid_internal_strconv_uint64pow10), ("unicode/utf8.acceptRanges", laid_unicode_utf8_acceptRanges), ("strconv.ErrRange", laid_strconv_ErrRange), ("strconv.ErrSyntax", laid_strconv_ErrSyntax), ("loop.example/g00267/impl.operators", laid_loop_example_g00267_impl_operators), ("loop.example/g00267/impl.functions", laid_loop_example_g00267_impl_functions), ("unicode/utf8.first", laid_unicode_utf8_first)] }
def FnExactLcaSaid : Prop := fnExactLcaRow.holds Tryz.pinned (OpenSpec.ofChange fnExactLcaSpec)

/-- ITS FALSE NEIGHBOUR: 'it returns false'. Refute it at one input. -/
def fnExactLcaWrong : ChangeSpec := { name := "fnExactLca", vars := ["loop.example/g00267/impl.operators", "loop.example/g00267/impl.functions"], fn := fun _ => fun
  | [d1, d2, d3, g1, g2] => { results := [.lit (.bool false)], args := [d1, d2, d3], vars := [g1, g2] }
  | _ => none }
def FnExactLcaWrongFalsely : Prop := fnExactLcaRow.holds Tryz.pinned (OpenSpec.ofChange fnExactLcaWrong)

/- THE SECOND FORM. 'bulk': how many values and letters a reading holds, each counted each time it is reached (what is shared counts as often as it is met; a slice's spare places count too). A statement '..UptoSaid' is the law's where the arguments, and the package variables that the reading takes, are together of bulk at most 1048576: NARROWER than '..Said'. Prove '..Said' where nothing that the law and all that it calls make is longer than what came in: it says more and counts as full. Else prove '..UptoSaid'. A law counts once. -/
mutual
def uptoBulk {H : Type} : DataW H → Nat
  | .lit (.string bytes) => bytes.length + 1
  | .lit _ => 1
  | .nil => 1
  | .ptr d => uptoBulk d + 1
  | .slice elems spare => uptoBulkAll elems + uptoBulkAll spare + 1
  | .agg parts => uptoBulkAll parts + 1
  | .iface _ d => uptoBulk d + 1
  | .map entries => uptoBulkEntries entries + 1
  | .held _ => 1
def uptoBulkAll {H : Type} : List (DataW H) → Nat
  | [] => 0
  | d :: r => uptoBulk d + uptoBulkAll r
def uptoBulkEntries {H : Type} : List (Lit × DataW H) → Nat
  | [] => 0
  | x :: r => uptoBulkEntry x + uptoBulkEntries r
def uptoBulkEntry {H : Type} : Lit × DataW H → Nat
  | (.string bytes, d) => bytes.length + uptoBulk d + 1
  | (_, d) => uptoBulk d + 1
 end
def uptoSmall : (H : Type) → List (DataW H) → Bool := fun _ ds => decide (uptoBulkAll ds ≤ 1048576)
def OpenSpec.upto (s : _root_.Go.ChangeSpec) : _root_.Go.OpenSpec := { _root_.Go.OpenSpec.ofChange s with cond := some uptoSmall }

/-- 'laws.FnExactDagOk', WHERE WHAT IT READS IS OF BULK AT MOST 1048576: true; the input reads as it did. -/
def fnExactDagOkUptoRow : OpenClaim := { program := "ytbmmjfmgpdddeaagreatdoor", sum := "4a2ae177975bba1ad0f0ce578439e2886f2c56f0b096d381c3e03e7da5dad9a5", func := "loop.example/g00267/laws.FnExactDagOk", spec := "fnExactDagOk", inPlace := ["internal/bytealg.IndexByteString", "internal/bytealg.IndexString", "internal/bytealg.CountString", "internal/abi.NoEscape", "internal/bytealg.MakeNoZero"], unfollowed := true, recurses := true, named := ["unicode/utf8.first", "unicode/utf8.acceptRanges", "loop.example/g00267/impl.operators", "internal/bytealg.MaxLen", "loop.example/g00267/impl.functions", "strconv.ErrSyntax", "strconv.ErrRange", "internal/strconv.uint64pow10", "math/bits.deBruijn32tab", "math/bits.deBruijn64tab"], apart := false, laid := [("math/bits.deBruijn32tab", laid_math_bits_deBruijn32tab), ("math/bits.deBruijn64tab", laid_math_bits_deBruijn64tab), ("internal/strconv.uint64pow10", laid_internal_strconv_uint64pow10), ("unicode/utf8.acceptRanges", laid_unicode_utf8_acceptRanges), ("strconv.ErrRange", laid_strconv_ErrRange), ("strconv.ErrSyntax", laid_strconv_ErrSyntax), ("loop.example/g00267/impl.operators", laid_loop_example_g00267_impl_operators), ("loop.example/g00267/impl.functions", laid_loop_example_g00267_impl_functions), ("unicode/utf8.first", laid_unicode_utf8_first)], narrowed := true }
def FnExactDagOkUptoSaid : Prop := fnExactDagOkUptoRow.holds Tryz.pinned (OpenSpec.upto fnExactDagOkSpec)

/-- 'laws.FnExactSheetAt', WHERE WHAT IT READS IS OF BULK AT MOST 1048576: true; the input reads as it did. -/
def fnExactSheetAtUptoRow : OpenClaim := { program := "ytbmmjfmgpdddeaagreatdoor", sum := "4a2ae177975bba1ad0f0ce578439e2886f2c56f0b096d381c3e03e7da5dad9a5", func := "loop.example/g00267/laws.FnExactSheetAt", spec := "fnExactSheetAt", inPlace := ["internal/bytealg.IndexByteString", "internal/bytealg.IndexString", "internal/bytealg.CountString", "internal/abi.NoEscape", "internal/bytealg.MakeNoZero"], unfollowed := true, recurses := true, named := ["unicode/utf8.first", "unicode/utf8.acceptRanges", "loop.example/g00267/impl.operators", "internal/bytealg.MaxLen", "loop.example/g00267/impl.functions", "strconv.ErrSyntax", "strconv.ErrRange", "internal/strconv.uint64pow10", "math/bits.deBruijn32tab", "math/bits.deBruijn64tab"], apart := false, laid := [("math/bits.deBruijn32tab", laid_math_bits_deBruijn32tab), ("math/bits.deBruijn64tab", laid_math_bits_deBruijn64tab), ("internal/strconv.uint64pow10", laid_internal_strconv_uint64pow10), ("unicode/utf8.acceptRanges", laid_unicode_utf8_acceptRanges), ("strconv.ErrRange", laid_strconv_ErrRange), ("strconv.ErrSyntax", laid_strconv_ErrSyntax), ("loop.example/g00267/impl.operators", laid_loop_example_g00267_impl_operators), ("loop.example/g00267/impl.functions", laid_loop_example_g00267_impl_functions), ("unicode/utf8.first", laid_unicode_utf8_first)], narrowed := true }
def FnExactSheetAtUptoSaid : Prop := fnExactSheetAtUptoRow.holds Tryz.pinned (OpenSpec.upto fnExactSheetAtSpec)

/-- 'laws.FnExactHeadOf', WHERE WHAT IT READS IS OF BULK AT MOST 1048576: true; the input reads as it did. -/
def fnExactHeadOfUptoRow : OpenClaim := { program := "ytbmmjfmgpdddeaagreatdoor", sum := "4a2ae177975bba1ad0f0ce578439e2886f2c56f0b096d381c3e03e7da5dad9a5", func := "loop.example/g00267/laws.FnExactHeadOf", spec := "fnExactHeadOf", inPlace := ["internal/bytealg.IndexByteString", "internal/bytealg.IndexString", "internal/bytealg.CountString", "internal/abi.NoEscape", "internal/bytealg.MakeNoZero"], unfollowed := true, recurses := true, named := ["unicode/utf8.first", "unicode/utf8.acceptRanges", "loop.example/g00267/impl.operators", "internal/bytealg.MaxLen", "loop.example/g00267/impl.functions", "strconv.ErrSyntax", "strconv.ErrRange", "internal/strconv.uint64pow10", "math/bits.deBruijn32tab", "math/bits.deBruijn64tab"], apart := false, laid := [("math/bits.deBruijn32tab", laid_math_bits_deBruijn32tab), ("math/bits.deBruijn64tab", laid_math_bits_deBruijn64tab), ("internal/strconv.uint64pow10", laid_internal_strconv_uint64pow10), ("unicode/utf8.acceptRanges", laid_unicode_utf8_acceptRanges), ("strconv.ErrRange", laid_strconv_ErrRange), ("strconv.ErrSyntax", laid_strconv_ErrSyntax), ("loop.example/g00267/impl.operators", laid_loop_example_g00267_impl_operators), ("loop.example/g00267/impl.functions", laid_loop_example_g00267_impl_functions), ("unicode/utf8.first", laid_unicode_utf8_first)], narrowed := true }
def FnExactHeadOfUptoSaid : Prop := fnExactHeadOfUptoRow.holds Tryz.pinned (OpenSpec.upto fnExactHeadOfSpec)

/-- 'laws.FnExactAbove', WHERE WHAT IT READS IS OF BULK AT MOST 1048576: true; the input reads as it did. -/
def fnExactAboveUptoRow : OpenClaim := { program := "ytbmmjfmgpdddeaagreatdoor", sum := "4a2ae177975bba1ad0f0ce578439e2886f2c56f0b096d381c3e03e7da5dad9a5", func := "loop.example/g00267/laws.FnExactAbove", spec := "fnExactAbove", inPlace := ["internal/bytealg.IndexByteString", "internal/bytealg.IndexString", "internal/bytealg.CountString", "internal/abi.NoEscape", "internal/bytealg.MakeNoZero"], unfollowed := true, recurses := true, named := ["unicode/utf8.first", "unicode/utf8.acceptRanges", "loop.example/g00267/impl.operators", "internal/bytealg.MaxLen", "loop.example/g00267/impl.functions", "strconv.ErrSyntax", "strconv.ErrRange", "internal/strconv.uint64pow10", "math/bits.deBruijn32tab", "math/bits.deBruijn64tab"], apart := false, laid := [("math/bits.deBruijn32tab", laid_math_bits_deBruijn32tab), ("math/bits.deBruijn64tab", laid_math_bits_deBruijn64tab), ("internal/strconv.uint64pow10", laid_internal_strconv_uint64pow10), ("unicode/utf8.acceptRanges", laid_unicode_utf8_acceptRanges), ("strconv.ErrRange", laid_strconv_ErrRange), ("strconv.ErrSyntax", laid_strconv_ErrSyntax), ("loop.example/g00267/impl.operators", laid_loop_example_g00267_impl_operators), ("loop.example/g00267/impl.functions", laid_loop_example_g00267_impl_functions), ("unicode/utf8.first", laid_unicode_utf8_first)], narrowed := true }
def FnExactAboveUptoSaid : Prop := fnExactAboveUptoRow.holds Tryz.pinned (OpenSpec.upto fnExactAboveSpec)

/-- 'laws.FnExactLca', WHERE WHAT IT READS IS OF BULK AT MOST 1048576: true; the input reads as it did. -/
def fnExactLcaUptoRow : OpenClaim := { program := "ytbmmjfmgpdddeaagreatdoor", sum := "4a2ae177975bba1ad0f0ce578439e2886f2c56f0b096d381c3e03e7da5dad9a5", func := "loop.example/g00267/laws.FnExactLca", spec := "fnExactLca", inPlace := ["internal/bytealg.IndexByteString", "internal/bytealg.IndexString", "internal/bytealg.CountString", "internal/abi.NoEscape", "internal/bytealg.MakeNoZero"], unfollowed := true, recurses := true, named := ["unicode/utf8.first", "unicode/utf8.acceptRanges", "loop.example/g00267/impl.operators", "internal/bytealg.MaxLen", "loop.example/g00267/impl.functions", "strconv.ErrSyntax", "strconv.ErrRange", "internal/strconv.uint64pow10", "math/bits.deBruijn32tab", "math/bits.deBruijn64tab"], apart := false, laid := [("math/bits.deBruijn32tab", laid_math_bits_deBruijn32tab), ("math/bits.deBruijn64tab", laid_math_bits_deBruijn64tab), ("internal/strconv.uint64pow10", laid_internal_strconv_uint64pow10), ("unicode/utf8.acceptRanges", laid_unicode_utf8_acceptRanges), ("strconv.ErrRange", laid_strconv_ErrRange), ("strconv.ErrSyntax", laid_strconv_ErrSyntax), ("loop.example/g00267/impl.operators", laid_loop_example_g00267_impl_operators), ("loop.example/g00267/impl.functions", laid_loop_example_g00267_impl_functions), ("unicode/utf8.first", laid_unicode_utf8_first)], narrowed := true }
def FnExactLcaUptoSaid : Prop := fnExactLcaUptoRow.holds Tryz.pinned (OpenSpec.upto fnExactLcaSpec)

end Rows
end Go.Proofs.YtbmmjfmgpdddeaaGreatDoor
