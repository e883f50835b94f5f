import Derived.Test.YtmljggnhdokajaaDoorBase
namespace Go.Proofs.YtmljggnhdokajaaDoor
open Go.ChangeShapes Go.WideShapes Go.ChangeAt Go.RowKit Go.Joins

set_option maxRecDepth 100000 in
theorem open_place {H : Type} {enc : TypeId × Value → H} {W : World} {r : Reach} {b0 base : Nat} {spare : Nat → Bool} {held : Bool} {v : Value} {d : DataW H} {p : List MemPlace}
    (hv : Value.okWide Tryd.prog W r b0 46 v) (h : DataW.Trod enc Tryd.prog W base spare held 46 v d p) :
    ∃ a b x y, v = .agg #[.int .i64 a, .int .i64 b, .bool x, .bool y] ∧ (Lit.int .i64 a).wf = true ∧ (Lit.int .i64 b).wf = true := by
  have kc : Tryd.prog.cellsOf 46 = 4 := by kernel_rfl
  have kr : Tryd.prog.cellsOf 44 = 2 := by kernel_rfl
  have k2 : Tryd.prog.cellsOf 2 = 1 := by kernel_rfl
  have k4 : Tryd.prog.cellsOf 4 = 1 := by kernel_rfl
  obtain ⟨cs, rfl, hsz⟩ := okWide_struct Tryd.underlying46 hv
  obtain ⟨c0, c1, c2, c3, rfl⟩ := array4 (hsz.trans kc)
  obtain ⟨fuel, hf⟩ := h
  obtain ⟨y0, y1, y2, n, hx, _, h0, h1, h2⟩ := Go.Deep.trod_struct3 Tryd.underlying46 hf
  simp only [kr, k4, Value.cells, List.drop_zero, List.take_succ_cons, List.take_zero, List.drop_succ_cons] at h0 h1 h2
  obtain ⟨z0, z1, m, hx0, _, g0, g1⟩ := trod_struct2 Tryd.underlying44 h0
  simp only [k2, List.drop_zero, List.take_succ_cons, List.take_zero, List.drop_succ_cons] at g0 g1
  obtain ⟨a, e0, _, wa⟩ := DataW.trod_int Tryd.underlying2 g0
  obtain ⟨b, e1, _, wb⟩ := DataW.trod_int Tryd.underlying2 g1
  obtain ⟨x, e2, _⟩ := DataW.trod_bool Tryd.underlying4 h1
  obtain ⟨y, e3, _⟩ := DataW.trod_bool Tryd.underlying4 h2
  simp at e0 e1 e2 e3
  subst e0 e1 e2 e3
  exact ⟨a, b, x, y, rfl, wa, wb⟩
end Go.Proofs.YtmljggnhdokajaaDoor
