import Derived.Test.YtanjlpgdmnapdaaOpenFi
import Derived.Test.YtanjlpgdmnapdaaOpenDp
import Derived.Test.YtanjlpgdmnapdaaFoO
namespace Go.Proofs.Ytanjlpgdmnapdaa
open Go.ChangeShapes Go.WideShapes Go.ChangeAt Go.RowKit Go.Joins
set_option linter.unusedSimpArgs false
set_option linter.unusedVariables false

set_option maxRecDepth 100000 in
/-- A disk that came in. -/
theorem open_disk {H : Type} {enc : TypeId × Value → H} {W : World} {r : Reach} {b0 base : Nat} {spare : Nat → Bool} {held : Bool} {v : Value} {d : DataW H} {p : List MemPlace}
    (hv : Value.okWide Try.prog W r b0 50 v) (h : DataW.Trod enc Try.prog W base spare held 50 v d p) :
    ∃ dk, DkRow W v dk ∧ ((∀ x ∈ dk.live, fiOk x) ∧ (∀ x ∈ dk.safe, fiOk x) ∧ (∀ x ∈ dk.ops, dpOk x)) := by
  obtain ⟨c0, c1, c2, y0, y1, y2, m, rfl, rfl, rfl, hy0, hy1, hy2⟩ := open_agg3 Try.underlying50 (by kernel_rfl) (by kernel_rfl) hv h
  obtain ⟨A1, L1, p1, rfl, r1, o1, z1⟩ := open_fi hy0
  obtain ⟨A2, L2, p2, rfl, r2, o2, z2⟩ := open_fi hy1
  obtain ⟨A3, L3, p3, rfl, r3, o3, z3⟩ := open_dp hy2
  exact ⟨⟨L1, L2, L3⟩, ⟨A1, p1, A2, p2, A3, p3, rfl, r1, r2, r3, z1, z2, z3⟩, o1, o2, o3⟩
end Go.Proofs.Ytanjlpgdmnapdaa
