import Derived.Test.YtfkklffdkpbibaaDoorArA
namespace Go.Proofs.YtfkklffdkpbibaaDoor
open Go.RowKit
set_option linter.unusedSimpArgs false

set_option maxHeartbeats 1000000 in
theorem laws_markAreaS {B n : Nat} {v : Value} {xs : List Value} (k : Int) (w : World) (h : w.ownsRow B 59 4 v n xs) (hn : n ≤ 10000) (h0 : 0 ≤ k) (h1 : k ≤ 10) :
    Calls Tryd.prog 17 #[v, .int .i64 k] w fun e w' => e = .returned (.int .i64 (k + (n : Int) * 4)) ∧ (∃ ys, w'.ownsRow B 59 4 v n ys ∧ Marked ys k (n * 4)) ∧ w.grownBy w' v.ownBlock := by
  have HO : Hid (w.ownsRow B 59 4 v n xs) := h
  obtain ⟨A, cap, rfl, _, _⟩ := own_shape h
  clear h
  go_enter Tryd.func17, Tryd.ntmps17
  go_wp2_with fail
  go_loopw [1, 5] (fun q i wr => ∃ t : Nat, t ≤ n ∧ i = .int .i64 t ∧ q = .int .i64 (k + (t : Int) * 4) ∧ (∃ ys, wr.ownsRow B 59 4 (.slice A n cap) n ys ∧ Marked ys k (t * 4)) ∧ w.grownBy wr (Value.slice A n cap).ownBlock) (fun _ i _ => n - (intOf i).toNat)
  case atStart => exact ⟨0, Nat.zero_le _, rfl, by simp, ⟨xs, HO.out, fun j hj => by omega⟩, World.grownBy.refl _ _⟩
  case round =>
    obtain ⟨t, ht, rfl, rfl, ⟨ys, hown, hys⟩, hgr⟩ := hrel
    by_cases hlt : t < n
    · obtain ⟨A', cap', e, _, hc⟩ := own_shape hown
      cases e
      obtain ⟨g, rfl, _, hg, dd, ff⟩ := hc (t * 4) (by omega)
      clear dd ff
      have hl := hown.1
      have hx : ∀ j, j < 4 → ∃ x, wr.cell? ⟨g, t * 4 + j, none⟩ = some x ∧ wr.frozen? ⟨g, t * 4 + j, none⟩ = false := fun j hj => by
        obtain ⟨g', e', _, _, d, f⟩ := hc (t * 4 + j) (by omega)
        cases e'
        exact ⟨_, d.trans (List.getElem?_eq_getElem (by omega)), f⟩
      obtain ⟨x0, d0, f0⟩ := hx 0 (by omega)
      obtain ⟨x1, d1, f1⟩ := hx 1 (by omega)
      obtain ⟨x2, d2, f2⟩ := hx 2 (by omega)
      obtain ⟨x3, d3, f3⟩ : ∃ x, wr.cell? ⟨g, t * 4 + 2 + 1, none⟩ = some x ∧ wr.frozen? ⟨g, t * 4 + 2 + 1, none⟩ = false := hx 3 (by omega)
      rw [Nat.add_zero] at d0 f0
      clear hc hx hl
      have HT : Hid (∃ zs, ((((wr.setCell ⟨g, t * 4, none⟩ (.int .i64 (k + (t : Int) * 4))).setCell ⟨g, t * 4 + 1, none⟩ (.int .i64 (k + (t : Int) * 4 + 1))).setCell ⟨g, t * 4 + 2, none⟩ (.int .i64 (k + (t : Int) * 4 + 1 + 1))).setCell ⟨g, t * 4 + 2 + 1, none⟩ (.int .i64 (k + (t : Int) * 4 + 1 + 1 + 1))).ownsRow B 59 4 (.slice (some ⟨g, 0, none⟩) n cap) n zs ∧ Marked zs k ((t + 1) * 4) ∧
        wr.grownBy ((((wr.setCell ⟨g, t * 4, none⟩ (.int .i64 (k + (t : Int) * 4))).setCell ⟨g, t * 4 + 1, none⟩ (.int .i64 (k + (t : Int) * 4 + 1))).setCell ⟨g, t * 4 + 2, none⟩ (.int .i64 (k + (t : Int) * 4 + 1 + 1))).setCell ⟨g, t * 4 + 2 + 1, none⟩ (.int .i64 (k + (t : Int) * 4 + 1 + 1 + 1))) (some g)) := mark_step hown hlt hys
      have HG : Hid (w.grownBy wr (some g)) := hgr
      clear hgr hown hys HO
      have q0 : (0 : Int) ≤ (t : Int) := by omega
      have q1 : (t : Int) < (n : Int) := by omega
      go_wp2_with fail
      all_goals
        go_roundw
        case rel =>
          obtain ⟨zs, z1, z2, z3⟩ := HT.out
          exact ⟨t + 1, by omega, by simp, by first | rfl | (congr 1; omega), ⟨zs, z1, z2⟩, grown_trans HG.out z3⟩
        case measure => simp [intOf]; omega
    · have h1 : ¬ (t : Int) < (n : Int) := by omega
      obtain rfl : t = n := by omega
      go_wp2_with fail
      go_ret
      exact ⟨rfl, ⟨ys, hown, hys⟩, hgr⟩

end Go.Proofs.YtfkklffdkpbibaaDoor
