import Derived.Test.YtjkioadjclfmiaaDoorCrA
import Derived.Test.YtjkioadjclfmiaaDoorRows
import Derived.LaidMore
import Derived.OpenShut
import Derived.ChangeVars
import Derived.MakeChecks
namespace Go.Proofs.YtjkioadjclfmiaaDoor
open Go.ChangeShapes Go.WideShapes Go.ChangeAt Go.RowKit Go.Joins

theorem gCr : Tryd.prog.globalNamed "loop.example/g00267/impl.checkRows" = some 0 := by kernel_rfl
theorem tCr : (Tryd.prog.globals[0]?).map (·.type) = some 48 := by kernel_rfl
theorem cCr : Tryd.prog.cellsOf 39 = 1 := by kernel_rfl
theorem aggC_inj {H : Type} {a b : List (DataW H)} (h : DataW.agg a = .agg b) : a = b := by cases h; rfl
theorem litC_inj {H : Type} {a b : Int} (h : (DataW.lit (.int .u32 a) : DataW H) = .lit (.int .u32 b)) : a = b := by cases h; rfl
set_option maxRecDepth 100000 in
theorem cr_of {W : World} (h : laidMetH Tryd.prog [("loop.example/g00267/impl.checkRows", Rows.laid_loop_example_g00267_impl_checkRows)] W) : CR W ∧ 0 < W.heap.size := by
  rw [MakeChecks.laidMetH_plain _ _ _ (by kernel_rfl)] at h
  obtain ⟨ps, ⟨g0, t0, cs0, f0, p0, q0, hg0, ht0, hv0, hd0, _, _⟩, _, _⟩ := h
  obtain rfl := Option.some.inj (gCr.symm.trans hg0)
  obtain rfl := Option.some.inj (tCr.symm.trans ht0)
  obtain ⟨xs, m1, rfl, hx1, hlen, hn, hel⟩ := DataW.trod_array Tryd.underlying48 hd0
  rw [cCr] at hel
  have hx : _ = xs.map (·.1) := aggC_inj (Prod.mk.inj hx1).1
  have hcell : ∀ j, W.cell? ⟨0, j, none⟩ = cs0[j]? := fun j => World.var?_cell hg0 hv0 j
  have go : ∀ (j : Nat) (a : Int) (x : DataW Unit × List MemPlace), DataW.lit (.int .u32 a) = x.1 → DataW.trod (fun _ => ()) Tryd.prog W 0 (fun _ => true) false m1 39 (List.take 1 (List.drop (j * 1) cs0.toList)) = some x →
      W.cell? ⟨0, j, none⟩ = some (.int .u32 a) := fun j a x e h => by
    obtain ⟨z, hz, hx, _⟩ := DataW.trod_int Tryd.underlying39 h
    rw [hx] at e
    rw [hcell, litC_inj e, ← Array.getElem?_toList]
    have h0 := congrArg (fun l : List Value => l[0]?) hz
    simp only [List.getElem?_take, List.getElem?_drop, Nat.mul_one, Nat.add_zero, if_pos Nat.one_pos] at h0
    exact h0
  have all : CR W := by
    match xs, hn, hx, hel with
    | [x0, x1, x2, x3, x4, x5, x6, x7, x8, x9, x10, x11, x12, x13, x14, x15], _, hx, hel =>
      simp only [List.map_cons, List.map_nil, List.cons.injEq, and_true] at hx
      obtain ⟨e0, e1, e2, e3, e4, e5, e6, e7, e8, e9, e10, e11, e12, e13, e14, e15⟩ := hx
      intro i hi
      have hm : i = 0 ∨ i = 1 ∨ i = 2 ∨ i = 3 ∨ i = 4 ∨ i = 5 ∨ i = 6 ∨ i = 7 ∨ i = 8 ∨ i = 9 ∨ i = 10 ∨ i = 11 ∨ i = 12 ∨ i = 13 ∨ i = 14 ∨ i = 15 := by omega
      rcases hm with rfl | rfl | rfl | rfl | rfl | rfl | rfl | rfl | rfl | rfl | rfl | rfl | rfl | rfl | rfl | rfl
      · exact go 0 _ _ e0 (hel 0 (by omega))
      · exact go 1 _ _ e1 (hel 1 (by omega))
      · exact go 2 _ _ e2 (hel 2 (by omega))
      · exact go 3 _ _ e3 (hel 3 (by omega))
      · exact go 4 _ _ e4 (hel 4 (by omega))
      · exact go 5 _ _ e5 (hel 5 (by omega))
      · exact go 6 _ _ e6 (hel 6 (by omega))
      · exact go 7 _ _ e7 (hel 7 (by omega))
      · exact go 8 _ _ e8 (hel 8 (by omega))
      · exact go 9 _ _ e9 (hel 9 (by omega))
      · exact go 10 _ _ e10 (hel 10 (by omega))
      · exact go 11 _ _ e11 (hel 11 (by omega))
      · exact go 12 _ _ e12 (hel 12 (by omega))
      · exact go 13 _ _ e13 (hel 13 (by omega))
      · exact go 14 _ _ e14 (hel 14 (by omega))
      · exact go 15 _ _ e15 (hel 15 (by omega))
  exact ⟨all, World.block_lt_of_cell? W ⟨_, 0, none⟩ (all 0 (by omega))⟩
end Go.Proofs.YtjkioadjclfmiaaDoor
