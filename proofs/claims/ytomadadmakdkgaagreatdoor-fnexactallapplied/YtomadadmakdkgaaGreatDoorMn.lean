import Derived.Test.YtomadadmakdkgaaGreatDoorBase
import Derived.Deep.RegionHeld3
set_option linter.unusedSimpArgs false
set_option linter.unusedVariables false
namespace Go.Proofs.YtomadadmakdkgaaGreatDoor
open Go.RowKit
theorem tkA{P : Program}{ops : Array Oper}{Q : Exit → Act → World → Prop}{md : Region.Mode}{S : World → Prop}{oi : Oper}{fuel : Nat}{listed : Array Bool}{a : Act}{w : World}{v : Value}(i : Nat)(h : wpAnyH P md ops Q S fuel (listed.setIfInBounds i true) (a.put oi.dst v) w)(hi : ops[i]? = some oi := by rfl)
    (hb : (Region.noSelect ops && (Region.free md ops listed i && (Region.ready md ops listed).contains i)) = true := by kernel_rfl) (hw : Region.wanted oi (yielded ops a.tmps) = true := by rfl)
    (hy : ∀ w, S w → (execOp a.eval oi).run P w = .ok (.value v) w := by (intro wq hSw; (try dsimp only at hSw); go_simp <;> with_reducible rfl))
    (hQ : ∀ c a w, Q (.panic c) (a.put oi.dst v) w → Q (.panic c) a w := by exact fun _ _ _ h => h) (hS : S w := by assumption) : wpAnyH P md ops Q S (fuel + 1) listed a w := by
  simp only[Bool.and_eq_true] at hb
  exact wpAnyH_take hi hb.1 hb.2.1 hb.2.2 hQ (Or.inl ⟨hw, hy⟩) hS h
theorem tnA{P : Program}{ops : Array Oper}{Q : Exit → Act → World → Prop}{md : Region.Mode}{S : World → Prop}{oi : Oper}{fuel : Nat}{listed : Array Bool}{a : Act}{w : World}(i : Nat)(h : wpAnyH P md ops Q S fuel (listed.setIfInBounds i true) (a.put oi.dst undef) w)(hi : ops[i]? = some oi := by rfl)
    (hb : (Region.noSelect ops && (Region.free md ops listed i && (Region.ready md ops listed).contains i)) = true := by kernel_rfl) (hw : Region.wanted oi (yielded ops a.tmps) = false := by rfl)
    (hQ : ∀ c a w, Q (.panic c) (a.put oi.dst undef) w → Q (.panic c) a w := by exact fun _ _ _ h => h) (hS : S w := by assumption) : wpAnyH P md ops Q S (fuel + 1) listed a w := by
  simp only[Bool.and_eq_true] at hb
  exact wpAnyH_take hi hb.1 hb.2.1 hb.2.2 hQ (Or.inr ⟨hw, rfl⟩) hS h
theorem tkB{P : Program}{ops : Array Oper}{Q : Exit → Act → World → Prop}{md : Region.Mode}{S : World → Prop}{oi : Oper}{fuel : Nat}{listed : Array Bool}{a : Act}{w : World}{a2 : Act}{l2 : Array Bool}{v : Value}(i : Nat)(h : wpAnyH P md ops Q S fuel l2 a2 w)(hi : ops[i]? = some oi := by rfl)
    (hb : (Region.noSelect ops && (Region.free md ops listed i && (Region.ready md ops listed).contains i)) = true := by kernel_rfl) (hw : Region.wanted oi (yielded ops a.tmps) = true := by rfl)
    (hy : ∀ w, S w → (execOp a.eval oi).run P w = .ok (.value v) w := by (intro wq hSw; (try dsimp only at hSw); go_simp <;> with_reducible rfl))
    (hQ : ∀ c a w, Q (.panic c) (a.put oi.dst v) w → Q (.panic c) a w := by exact fun _ _ _ h => h) (hS : S w := by assumption)
    (ha : a.put oi.dst v = a2 := by (try simp only[Act.put, List.getElem_toArray, List.getElem_cons_zero, List.getElem_cons_succ, List.setIfInBounds_toArray, List.set_cons_zero, List.set_cons_succ]) <;> exact rfl) (hl : listed.setIfInBounds i true = l2 := by (try simp only[Act.put, List.getElem_toArray, List.getElem_cons_zero, List.getElem_cons_succ, List.setIfInBounds_toArray, List.set_cons_zero, List.set_cons_succ]) <;> exact rfl) : wpAnyH P md ops Q S (fuel + 1) listed a w := by
  subst ha hl
  simp only[Bool.and_eq_true] at hb
  exact wpAnyH_take hi hb.1 hb.2.1 hb.2.2 hQ (Or.inl ⟨hw, hy⟩) hS h
theorem tnB{P : Program}{ops : Array Oper}{Q : Exit → Act → World → Prop}{md : Region.Mode}{S : World → Prop}{oi : Oper}{fuel : Nat}{listed : Array Bool}{a : Act}{w : World}{a2 : Act}{l2 : Array Bool}(i : Nat)(h : wpAnyH P md ops Q S fuel l2 a2 w)(hi : ops[i]? = some oi := by rfl)
    (hb : (Region.noSelect ops && (Region.free md ops listed i && (Region.ready md ops listed).contains i)) = true := by kernel_rfl) (hw : Region.wanted oi (yielded ops a.tmps) = false := by rfl)
    (hQ : ∀ c a w, Q (.panic c) (a.put oi.dst undef) w → Q (.panic c) a w := by exact fun _ _ _ h => h) (hS : S w := by assumption)
    (ha : a.put oi.dst undef = a2 := by (try simp only[Act.put, List.getElem_toArray, List.getElem_cons_zero, List.getElem_cons_succ, List.setIfInBounds_toArray, List.set_cons_zero, List.set_cons_succ]) <;> exact rfl) (hl : listed.setIfInBounds i true = l2 := by (try simp only[Act.put, List.getElem_toArray, List.getElem_cons_zero, List.getElem_cons_succ, List.setIfInBounds_toArray, List.set_cons_zero, List.set_cons_succ]) <;> exact rfl) : wpAnyH P md ops Q S (fuel + 1) listed a w := by
  subst ha hl
  simp only[Bool.and_eq_true] at hb
  exact wpAnyH_take hi hb.1 hb.2.1 hb.2.2 hQ (Or.inr ⟨hw, rfl⟩) hS h
theorem rqA{P : Program}{ops : Array Oper}{Q : Exit → Act → World → Prop}{md : Region.Mode}{S : World → Prop}{fuel : Nat}{listed : Array Bool}{a : Act}{w : World}{o : Oper}(i : Nat)(h : ∀ K' : Act → World → Prop, Shut (∀ a w, S w → (S w → wpAnyH P md ops Q S fuel (listed.setIfInBounds i true) a w) → K' a w) → if Region.wanted o (yielded ops a.tmps) = true then Oper.wp P o a w K' Q else K' (a.put o.dst undef) w)(ho : ops[i]? = some o := by rfl)(hr : Region.ready md ops listed = [i] := by kernel_rfl) : wpAnyH P md ops Q S (fuel + 1) listed a w :=
  wpAnyH_ready hr (by simp) (AllReadyH.cons ho h AllReadyH.nil)
theorem rqB{P : Program}{ops : Array Oper}{Q : Exit → Act → World → Prop}{md : Region.Mode}{S : World → Prop}{fuel : Nat}{listed : Array Bool}{a : Act}{w : World}{o o' : Oper}(i j : Nat)(h : ∀ K' : Act → World → Prop, Shut (∀ a w, S w → (S w → wpAnyH P md ops Q S fuel (listed.setIfInBounds i true) a w) → K' a w) → if Region.wanted o (yielded ops a.tmps) = true then Oper.wp P o a w K' Q else K' (a.put o.dst undef) w)(h' : ∀ K' : Act → World → Prop, Shut (∀ a w, S w → (S w → wpAnyH P md ops Q S fuel (listed.setIfInBounds j true) a w) → K' a w) → if Region.wanted o' (yielded ops a.tmps) = true then Oper.wp P o' a w K' Q else K' (a.put o'.dst undef) w)(ho : ops[i]? = some o := by rfl)(ho' : ops[j]? = some o' := by rfl)(hr : Region.ready md ops listed = [i, j] := by kernel_rfl) : wpAnyH P md ops Q S (fuel + 1) listed a w :=
  wpAnyH_ready hr (by simp) (AllReadyH.cons ho h (AllReadyH.cons ho' h' AllReadyH.nil))
theorem hd{p : Prop}(h : p) : Hid p := h
theorem hkB{P : Program}{ops : Array Oper}{Q : Exit → Act → World → Prop}{md : Region.Mode}{S : World → Prop}{fuel : Nat}{l l2 : Array Bool}{a a2 : Act}{w : World}{K : Act → World → Prop}(hK : Shut (∀ a w, S w → (S w → wpAnyH P md ops Q S fuel l a w) → K a w))(hS : S w)(h : S w → wpAnyH P md ops Q S fuel l2 a2 w)
    (ha : a = a2 := by (try simp only[Act.put, List.getElem_toArray, List.getElem_cons_zero, List.getElem_cons_succ, List.setIfInBounds_toArray, List.set_cons_zero, List.set_cons_succ]) <;> exact rfl) (hl : l = l2 := by (try simp only[Act.put, List.getElem_toArray, List.getElem_cons_zero, List.getElem_cons_succ, List.setIfInBounds_toArray, List.set_cons_zero, List.set_cons_succ]) <;> exact rfl) : K a w := by
  subst ha hl
  exact hK.out _ _ hS h
end Go.Proofs.YtomadadmakdkgaaGreatDoor
