import Derived.Test.YtfkklffdkpbibaaDoorOwn
import Derived.Test.YtfkklffdkpbibaaDoorFnC
namespace Go.Proofs.YtfkklffdkpbibaaDoor
open Go.RowKit
set_option linter.unusedSimpArgs false

theorem infoAr : (Tryd.prog.info? 59).map (fun i => (i.zero, i.size, i.bytes)) = some (some (.agg #[.int .i64 0, .int .i64 0, .int .i64 0, .int .i64 0]), 4, 32) := by kernel_rfl

set_option maxHeartbeats 1000000 in
theorem laws_eqArea (a b c d : Int) (w : World) : Calls Tryd.prog 38 #[.agg #[.int .i64 a, .int .i64 b, .int .i64 c, .int .i64 d], .agg #[.int .i64 a, .int .i64 b, .int .i64 c, .int .i64 d]] w fun e w' =>
    e = .returned (.bool true) ∧ Below w.heap.size w w' := by
  go_enter Tryd.func38, Tryd.ntmps38
  go_wp2_with (go_at_call 73; refine (laws_eqRef _ _ _).mono ?_; rintro e w1 ⟨rfl, hb⟩; obtain ⟨hc, hf, hC, hF, hz, hk, l0, l1⟩ := bk2 (w := w) (by go_grown) (by go_size) hb; clear hb)
  all_goals
    go_ret
    exact ⟨rfl, by go_grown⟩

set_option maxHeartbeats 4000000 in
theorem laws_eqAreaS {B B' n : Nat} {v v' : Value} {xs : List Value} (w : World) (h : w.ownsRow B 59 4 v n xs) (h' : w.ownsRow B' 59 4 v' n xs) (hx : ∀ j, j < n * 4 → ∃ z, xs[j]? = some (.int .i64 z)) :
    Calls Tryd.prog 15 #[v, v'] w fun e w' => e = .returned (.bool true) ∧ Below w.heap.size w w' := by
  obtain ⟨A, cap, rfl, hn, hc⟩ := own_shape h
  obtain ⟨A', cap', rfl, _, hc'⟩ := own_shape h'
  unfold maxLen at hn
  have HC : Hid (∀ k, k < n → ∃ g g' x y z u, A = some ⟨g, 0, none⟩ ∧ A' = some ⟨g', 0, none⟩ ∧ g < w.heap.size ∧ g' < w.heap.size ∧ w.cell? ⟨g, k * 4, none⟩ = some (.int .i64 x) ∧ w.cell? ⟨g, k * 4 + 1, none⟩ = some (.int .i64 y) ∧ w.cell? ⟨g, k * 4 + 2, none⟩ = some (.int .i64 z) ∧ w.cell? ⟨g, k * 4 + 3, none⟩ = some (.int .i64 u) ∧ w.cell? ⟨g', k * 4, none⟩ = some (.int .i64 x) ∧ w.cell? ⟨g', k * 4 + 1, none⟩ = some (.int .i64 y) ∧ w.cell? ⟨g', k * 4 + 2, none⟩ = some (.int .i64 z) ∧ w.cell? ⟨g', k * 4 + 3, none⟩ = some (.int .i64 u)) := by
    intro k hk
    obtain ⟨g, rfl, _, hg, c0, _⟩ := hc (k * 4) (by omega)
    obtain ⟨g1, e1, _, _, c1, _⟩ := hc (k * 4 + 1) (by omega)
    obtain ⟨g2, e2, _, _, c2, _⟩ := hc (k * 4 + 2) (by omega)
    obtain ⟨g3, e3, _, _, c3, _⟩ := hc (k * 4 + 3) (by omega)
    obtain ⟨g', rfl, _, hg', c0', _⟩ := hc' (k * 4) (by omega)
    obtain ⟨g1', e1', _, _, c1', _⟩ := hc' (k * 4 + 1) (by omega)
    obtain ⟨g2', e2', _, _, c2', _⟩ := hc' (k * 4 + 2) (by omega)
    obtain ⟨g3', e3', _, _, c3', _⟩ := hc' (k * 4 + 3) (by omega)
    cases e1
    cases e2
    cases e3
    cases e1'
    cases e2'
    cases e3'
    obtain ⟨x, hx0⟩ := hx (k * 4) (by omega)
    obtain ⟨y, hx1⟩ := hx (k * 4 + 1) (by omega)
    obtain ⟨z, hx2⟩ := hx (k * 4 + 2) (by omega)
    obtain ⟨u, hx3⟩ := hx (k * 4 + 3) (by omega)
    exact ⟨g, g', x, y, z, u, rfl, rfl, hg, hg', c0.trans hx0, c1.trans hx1, c2.trans hx2, c3.trans hx3, c0'.trans hx0, c1'.trans hx1, c2'.trans hx2, c3'.trans hx3⟩
  clear hc hc' h h' hx
  go_enter Tryd.func15, Tryd.ntmps15
  go_wp2_with fail
  go_loopw [5] (fun i wr => ∃ k : Nat, k ≤ n ∧ i = .int .i64 k ∧ Below w.heap.size w wr) (fun i _ => n - (intOf i).toNat)
  case atStart => exact ⟨0, Nat.zero_le _, rfl, Below.refl _ _⟩
  case round =>
    obtain ⟨k, hk, rfl, hbel⟩ := hrel
    by_cases hlt : k < n
    · obtain ⟨g, g', x, y, z, u, rfl, rfl, hg, hg', c0, c1, c2, c3, c0', c1', c2', c3'⟩ := HC.out k hlt
      have hs := hbel.size
      have hW := fun b o h => hbel.cell (p := ⟨b, o, none⟩) h
      have h0 : (0 : Int) ≤ (k : Int) := by omega
      have h1 : (k : Int) < (n : Int) := by omega
      go_wp2_with fail
      go_region_held3 (fun w' => (∀ bq oq, bq < w.heap.size → w'.cell? ⟨bq, oq, none⟩ = w.cell? ⟨bq, oq, none⟩) ∧ w.heap.size ≤ w'.heap.size ∧ Below w.heap.size w w')
        (exact sc_of (Nat.le_refl _) (by go_grown))
        (first
        | (go_at_call 38; refine (laws_eqArea x y z u _).mono ?_; rintro e w1 ⟨rfl, hb⟩; obtain ⟨hk1, hz1⟩ := bframe (B := w.heap.size) (X := w) (by go_grown) (by go_size) hb; clear hb))
      all_goals go_wp2_with fail
      all_goals
        go_roundw
        case rel => exact ⟨k + 1, by omega, by go_num, by go_grown⟩
        case measure => simp [intOf]; omega
    · have h1 : ¬ (k : Int) < (n : Int) := by omega
      go_wp2_with fail
      go_ret
      exact ⟨rfl, hbel⟩

/-- What is marked, one number behind the other. -/
def Marked (ys : List Value) (k : Int) (m : Nat) : Prop := ∀ j, j < m → ys[j]? = some (.int .i64 (k + (j : Nat)))
theorem mark_step {W : World} {B : Nat} {e : TypeId} {g n cap t : Nat} {ys : List Value} {k : Int} (h : W.ownsRow B e 4 (.slice (some ⟨g, 0, none⟩) n cap) n ys) (ht : t < n) (hy : Marked ys k (t * 4)) :
    ∃ zs, (setAll W g (t * 4) [.int .i64 (k + (t : Int) * 4), .int .i64 (k + (t : Int) * 4 + 1), .int .i64 (k + (t : Int) * 4 + 1 + 1), .int .i64 (k + (t : Int) * 4 + 1 + 1 + 1)]).ownsRow B e 4 (.slice (some ⟨g, 0, none⟩) n cap) n zs ∧ Marked zs k ((t + 1) * 4) ∧
      W.grownBy (setAll W g (t * 4) [.int .i64 (k + (t : Int) * 4), .int .i64 (k + (t : Int) * 4 + 1), .int .i64 (k + (t : Int) * 4 + 1 + 1), .int .i64 (k + (t : Int) * 4 + 1 + 1 + 1)]) (some g) := by
  obtain ⟨o, gr⟩ := own_set [.int .i64 (k + (t : Int) * 4), .int .i64 (k + (t : Int) * 4 + 1), .int .i64 (k + (t : Int) * 4 + 1 + 1), .int .i64 (k + (t : Int) * 4 + 1 + 1 + 1)] W (t * 4) ys h
  refine ⟨_, o, fun j hj => ?_, gr⟩
  have hl := h.1
  by_cases h4 : j < t * 4
  · rw [overw_lt _ _ _ _ h4]; exact hy j h4
  · obtain ⟨q, rfl⟩ : ∃ q, j = t * 4 + q := ⟨j - t * 4, by omega⟩
    rw [overw_at _ _ _ q (by show q < 4; omega) (by show t * 4 + 4 ≤ ys.length; omega)]
    have hq : q = 0 ∨ q = 1 ∨ q = 2 ∨ q = 3 := by omega
    rcases hq with rfl | rfl | rfl | rfl
    · show some (Value.int .i64 _) = some (Value.int .i64 _); first | rfl | (congr 2; done) | (congr 2; omega)
    · show some (Value.int .i64 _) = some (Value.int .i64 _); first | rfl | (congr 2; done) | (congr 2; omega)
    · show some (Value.int .i64 _) = some (Value.int .i64 _); first | rfl | (congr 2; done) | (congr 2; omega)
    · show some (Value.int .i64 _) = some (Value.int .i64 _); first | rfl | (congr 2; done) | (congr 2; omega)

set_option maxHeartbeats 4000000 in
theorem laws_heldAreaS {B n : Nat} {v : Value} {ys : List Value} (k : Int) (w : World) (h : w.ownsRow B 59 4 v n ys) (hy : Marked ys k (n * 4)) (hn : n ≤ 10000) (h0 : 0 ≤ k) (h1 : k ≤ 10) :
    Calls Tryd.prog 18 #[v, .int .i64 k] w fun e w' => e = .returned (.int .i64 (k + (n : Int) * 4)) ∧ Below w.heap.size w w' := by
  obtain ⟨A, cap, rfl, _, hc⟩ := own_shape h
  have HC : Hid (∀ t, t < n → ∃ g, A = some ⟨g, 0, none⟩ ∧ g < w.heap.size ∧ w.cell? ⟨g, t * 4, none⟩ = some (.int .i64 (k + (t : Int) * 4)) ∧ w.cell? ⟨g, t * 4 + 1, none⟩ = some (.int .i64 (k + (t : Int) * 4 + 1)) ∧ w.cell? ⟨g, t * 4 + 2, none⟩ = some (.int .i64 (k + (t : Int) * 4 + 2)) ∧ w.cell? ⟨g, t * 4 + 3, none⟩ = some (.int .i64 (k + (t : Int) * 4 + 3))) := by
    intro t ht
    obtain ⟨g, rfl, _, hg, c0, _⟩ := hc (t * 4) (by omega)
    obtain ⟨g1, e1, _, _, c1, _⟩ := hc (t * 4 + 1) (by omega)
    obtain ⟨g2, e2, _, _, c2, _⟩ := hc (t * 4 + 2) (by omega)
    obtain ⟨g3, e3, _, _, c3, _⟩ := hc (t * 4 + 3) (by omega)
    cases e1
    cases e2
    cases e3
    refine ⟨g, rfl, hg, c0.trans ((hy _ (by omega)).trans ?_), c1.trans ((hy _ (by omega)).trans ?_), c2.trans ((hy _ (by omega)).trans ?_), c3.trans ((hy _ (by omega)).trans ?_)⟩
    all_goals first | rfl | (congr 2; done) | (congr 2; omega)
  clear hc h hy
  go_enter Tryd.func18, Tryd.ntmps18
  go_wp2_with fail
  go_loopw [1, 5] (fun q i wr => ∃ t : Nat, t ≤ n ∧ i = .int .i64 t ∧ q = .int .i64 (k + (t : Int) * 4) ∧ Below w.heap.size w wr) (fun _ i _ => n - (intOf i).toNat)
  case atStart => exact ⟨0, Nat.zero_le _, rfl, by simp, Below.refl _ _⟩
  case round =>
    obtain ⟨t, ht, rfl, rfl, hbel⟩ := hrel
    by_cases hlt : t < n
    · obtain ⟨g, rfl, hg, c0, c1, c2, c3⟩ := HC.out t hlt
      rw [← hbel.cell (p := ⟨_, _, none⟩) hg] at c0 c1 c2 c3
      have q0 : (0 : Int) ≤ (t : Int) := by omega
      have q1 : (t : Int) < (n : Int) := by omega
      go_wp2_with fail
      all_goals
        go_roundw
        case rel => exact ⟨t + 1, by omega, by simp, by congr 1; omega, by go_grown⟩
        case measure => simp [intOf]; omega
    · have h1 : ¬ (t : Int) < (n : Int) := by omega
      obtain rfl : t = n := by omega
      go_wp2_with fail
      go_ret
      exact ⟨rfl, hbel⟩
end Go.Proofs.YtfkklffdkpbibaaDoor
