import Derived.Test.YtjkioadjclfmiaaDoorDrawP
namespace Go.Proofs.YtjkioadjclfmiaaDoor
open Go.RowKit
set_option linter.unusedVariables false

/-- Four cells of the call's own. -/
def C4 (W : World) (b : Nat) (v0 v1 v2 v3 : Value) : Prop := b < W.heap.size ∧ (W.cell? ⟨b, 0, none⟩ = some v0 ∧ W.cell? ⟨b, 1, none⟩ = some v1 ∧ W.cell? ⟨b, 2, none⟩ = some v2 ∧ W.cell? ⟨b, 3, none⟩ = some v3) ∧
  (W.frozen? ⟨b, 0, none⟩ = false ∧ W.frozen? ⟨b, 1, none⟩ = false ∧ W.frozen? ⟨b, 2, none⟩ = false ∧ W.frozen? ⟨b, 3, none⟩ = false)
theorem C4.upd {W w1 : World} {r b : Nat} {v0 v1 v2 v3 : Value} (h : C4 W b v0 v1 v2 v3) (hu : Upd r W w1) (hn : b ≠ r) : C4 w1 b v0 v1 v2 v3 := by
  obtain ⟨hl, ⟨c0, c1, c2, c3⟩, f0, f1, f2, f3⟩ := h
  exact ⟨Nat.lt_of_lt_of_le hl hu.2.2.1, ⟨(hu.1 b 0 hl hn).trans c0, (hu.1 b 1 hl hn).trans c1, (hu.1 b 2 hl hn).trans c2, (hu.1 b 3 hl hn).trans c3⟩, (hu.2.1 b 0 hl hn).trans f0, (hu.2.1 b 1 hl hn).trans f1, (hu.2.1 b 2 hl hn).trans f2, (hu.2.1 b 3 hl hn).trans f3⟩
theorem C4.below {W w1 : World} {b : Nat} {v0 v1 v2 v3 : Value} (h : C4 W b v0 v1 v2 v3) (hb : Below W.heap.size W w1) : C4 w1 b v0 v1 v2 v3 := by
  obtain ⟨hl, ⟨c0, c1, c2, c3⟩, f0, f1, f2, f3⟩ := h
  exact ⟨Nat.lt_of_lt_of_le hl hb.size, ⟨(hb.cell (p := ⟨b, 0, none⟩) hl).trans c0, (hb.cell (p := ⟨b, 1, none⟩) hl).trans c1, (hb.cell (p := ⟨b, 2, none⟩) hl).trans c2, (hb.cell (p := ⟨b, 3, none⟩) hl).trans c3⟩, (hb.frozen (p := ⟨b, 0, none⟩) hl).trans f0, (hb.frozen (p := ⟨b, 1, none⟩) hl).trans f1, (hb.frozen (p := ⟨b, 2, none⟩) hl).trans f2, (hb.frozen (p := ⟨b, 3, none⟩) hl).trans f3⟩
theorem C4.new (W : World) (v0 v1 v2 v3 : Value) (t : TypeId) : C4 (W.alloc (.cells #[v0, v1, v2, v3] t)) W.heap.size v0 v1 v2 v3 := by
  refine ⟨by simp, ⟨by simp, by simp, by simp, by simp⟩, by simp, by simp, by simp, by simp⟩

end Go.Proofs.YtjkioadjclfmiaaDoor
