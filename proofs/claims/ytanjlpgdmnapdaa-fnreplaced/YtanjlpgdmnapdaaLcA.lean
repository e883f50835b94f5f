import Derived.Test.YtanjlpgdmnapdaaFcA
import Derived.Test.YtanjlpgdmnapdaaOpenB
namespace Go.Proofs.Ytanjlpgdmnapdaa
open Go.RowKit Go.Maps
set_option linter.unusedSimpArgs false
set_option linter.unusedVariables false

theorem infoI64 : (Try.prog.info? 2).map (fun i => (i.zero, i.size, i.bytes)) = some (some (.int .i64 0), 1, 8) := by kernel_rfl
/-- The three rows of a disk whose value is known. -/
theorem DkRow.open3 {w : World} {a1 a2 a3 : Option Addr} {n1 n2 n3 c1 c2 c3 : Nat} {d : DK} (h : DkRow w (.agg #[.slice a1 n1 c1, .slice a2 n2 c2, .slice a3 n3 c3]) d) : (FiRow w a1 d.live ∧ d.live.length = n1) ∧ (FiRow w a2 d.safe ∧ d.safe.length = n2) ∧ d.ops.length = n3 := by
  obtain ⟨A1, c1, A2, c2, A3, c3, ee, r1, r2, r3, _⟩ := h
  cases ee; exact ⟨⟨r1, rfl⟩, ⟨r2, rfl⟩, rfl⟩
end Go.Proofs.Ytanjlpgdmnapdaa
