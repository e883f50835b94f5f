import Derived.Test.YtidmajdiidfceaaDoorDecR
import Derived.MakeChecks
import Derived.Stop.LaidErr
import Derived.Lib.LaidTab
namespace Go.Proofs.YtidmajdiidfceaaDoor
open Go.RowKit

theorem gPow : Tryd.prog.globalNamed "internal/strconv.uint64pow10" = some 0 := by kernel_rfl
theorem gSyn : Tryd.prog.globalNamed "strconv.ErrSyntax" = some 1 := by kernel_rfl
theorem gRan : Tryd.prog.globalNamed "strconv.ErrRange" = some 2 := by kernel_rfl
theorem tPow : (Tryd.prog.globals[0]?).map (·.type) = some 108 := by kernel_rfl
theorem tSyn : (Tryd.prog.globals[1]?).map (·.type) = some 85 := by kernel_rfl
theorem tRan : (Tryd.prog.globals[2]?).map (·.type) = some 85 := by kernel_rfl
theorem cE : Tryd.prog.cellsOf 128 = 1 := by kernel_rfl
theorem cS9 : Tryd.prog.cellsOf 9 = 1 := by kernel_rfl
theorem cU : Tryd.prog.cellsOf 97 = 1 := by kernel_rfl
theorem cA : Tryd.prog.cellsOf 108 = 20 := by kernel_rfl
theorem star : "*" ++ "errors.errorString" = "*errors.errorString" := by decide
theorem rowES (u : TypeId) (h : Tryd.prog.typeName? 3 u = some "*errors.errorString") : u = 126 :=
  typeName_ptr_named (nm := "errors.errorString") (by rw [star]; kernel_rfl) (by kernel_rfl) (by decide) u (by rw [star]; exact h)
theorem powD : (Rows.laid_internal_strconv_uint64pow10 : DataW Unit) = Lib.tabData .u64 Lib.pow10Tab := by kernel_rfl

set_option maxRecDepth 100000 in
theorem vars_of {W : World} (h : laidMetH Tryd.prog Rows.fnExactReadValueRow.laid W) : Vars W := by
  rw [MakeChecks.laidMetH_plain _ _ _ (by kernel_rfl)] at h
  have h2 : laidMet Tryd.prog (("internal/strconv.uint64pow10", Lib.tabData .u64 Lib.pow10Tab) :: [("strconv.ErrRange", Rows.laid_strconv_ErrRange), ("strconv.ErrSyntax", Rows.laid_strconv_ErrSyntax)]) W := by
    rw [← powD]
    exact h.tail.tail
  have h3 := h2.tail
  have h4 := h3.tail
  obtain ⟨a0, s0, hv0, -, -, -⟩ := laid_sentinel h3 gRan tRan Tryd.underlying85 rowES Tryd.underlying126 Tryd.underlying128 rfl rfl Tryd.underlying9 cE cS9
  obtain ⟨a1, s1, hv1, -, -, -⟩ := laid_sentinel h4 gSyn tSyn Tryd.underlying85 rowES Tryd.underlying126 Tryd.underlying128 rfl rfl Tryd.underlying9 cE cS9
  exact ⟨Lib.tabIs_of_head gPow tPow Tryd.underlying108 Tryd.underlying97 cU cA h2, ⟨_, _, hv1⟩, ⟨_, _, hv0⟩⟩
end Go.Proofs.YtidmajdiidfceaaDoor
