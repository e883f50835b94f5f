import Derived.Test.YthdclafkcondmaaGreatDoorFnA
set_option linter.unusedSimpArgs false
namespace Go.Proofs.YthdclafkcondmaaGreatDoor
open Go.RowKit
/-- What a row of nodes of the call's own holds, up to t. -/
def FnPart (W : World) (B : Nat) (ys : List Value) (F : Nat → FN) (t : Nat) : Prop :=
  ∀ i, i < t → ∃ KA kc, (∀ j, j < 14 → ys[i * 14 + j]? = (nodeL (F i) KA kc)[j]?) ∧ W.ownsRow B 2 1 (.slice KA (F i).kids.length kc) (F i).kids.length ((F i).kids.map (Value.int .i64))
theorem FnPart.below {W W' : World} {B : Nat} {ys : List Value} {F : Nat → FN} {t : Nat} (h : FnPart W B ys F t) (hb : Below W.heap.size W W') : FnPart W' B ys F t := fun i hi => by
  obtain ⟨KA, kc, h1, h2⟩ := h i hi
  exact ⟨KA, kc, h1, own_below h2 hb⟩
theorem fn_of_own {W : World} {B g n cap : Nat} {ys : List Value} {F : Nat → FN} (h : W.ownsRow B 54 14 (.slice (some ⟨g, 0, none⟩) n cap) n ys) {B' : Nat} (hp : FnPart W B' ys F n) (hs : ∀ i, i < n → (F i).cs.size ≤ maxLen) : FnRow W (some ⟨g, 0, none⟩) n F := by
  obtain ⟨A', cap', e, hn, hc⟩ := own_shape h
  cases e
  refine ⟨hn, fun i hi => ?_⟩
  obtain ⟨KA, kc, h1, h2⟩ := hp i hi
  have hcell : ∀ j, j < 14 → W.cell? ⟨g, 0 + i * 14 + j, none⟩ = (nodeL (F i) KA kc)[j]? := fun j hj => by
    obtain ⟨g', e', _, _, c, _⟩ := hc (i * 14 + j) (by omega)
    cases e'
    rw [Nat.zero_add, c, h1 j hj]
  obtain ⟨g', e', _, hl, _, _⟩ := hc (i * 14) (by omega)
  cases e'
  refine ⟨g, 0, KA, kc, rfl, hl, ⟨hcell 0 (by omega), hcell 1 (by omega), hcell 2 (by omega), hcell 3 (by omega), hcell 4 (by omega), hcell 5 (by omega), hcell 6 (by omega), hcell 7 (by omega), hcell 8 (by omega), hcell 9 (by omega), hcell 10 (by omega), hcell 11 (by omega), hcell 12 (by omega), hcell 13 (by omega)⟩, int_of_own h2, hs i hi⟩
end Go.Proofs.YthdclafkcondmaaGreatDoor
