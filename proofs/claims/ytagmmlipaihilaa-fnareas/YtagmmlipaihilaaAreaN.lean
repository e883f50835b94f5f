import Derived.Test.YtagmmlipaihilaaAreaM
import Derived.Deep.QuietTactic
import Derived.Deep.RegionHeld3
namespace Go.Proofs.Ytagmmlipaihilaa
open Go.RowKit

def inA (p q a b c d : Int) : Bool := decide (a ≤ p ∧ p ≤ c ∧ b ≤ q ∧ q ≤ d)
set_option maxHeartbeats 1000000 in
theorem laws_within (p q a b c d : Int) (w : World) : Calls Try.prog 19 #[.agg #[.int .i64 p, .int .i64 q], .agg #[.int .i64 a, .int .i64 b, .int .i64 c, .int .i64 d]] w fun e w' =>
    e = .returned (.bool (inA p q a b c d)) ∧ Below w.heap.size w w' := by
  by_cases h1 : a ≤ p
  · by_cases h2 : p ≤ c
    · by_cases h3 : b ≤ q
      · by_cases h4 : q ≤ d
        · have E : Hid (inA p q a b c d = true) := by show inA _ _ _ _ _ _ = _; simp [inA, h1, h2, h3, h4]
          go_enter Try.func19, Try.ntmps19
          go_wp2
          go_ret
          exact ⟨ret_bool E.out.symm, by go_grown⟩
        · have E : Hid (inA p q a b c d = false) := by show inA _ _ _ _ _ _ = _; simp [inA, h4]
          go_enter Try.func19, Try.ntmps19
          go_wp2
          go_ret
          exact ⟨ret_bool E.out.symm, by go_grown⟩
      · have E : Hid (inA p q a b c d = false) := by show inA _ _ _ _ _ _ = _; simp [inA, h3]
        go_enter Try.func19, Try.ntmps19
        go_wp2
        go_ret
        exact ⟨ret_bool E.out.symm, by go_grown⟩
    · have E : Hid (inA p q a b c d = false) := by show inA _ _ _ _ _ _ = _; simp [inA, h2]
      go_enter Try.func19, Try.ntmps19
      go_wp2
      go_ret
      exact ⟨ret_bool E.out.symm, by go_grown⟩
  · have E : Hid (inA p q a b c d = false) := by show inA _ _ _ _ _ _ = _; simp [inA, h1]
    go_enter Try.func19, Try.ntmps19
    go_wp2
    go_ret
    exact ⟨ret_bool E.out.symm, by go_grown⟩

set_option maxHeartbeats 2000000 in
theorem laws_sameRefs {B B' n : Nat} {v v' : Value} {xs : List Value} (w : World) (h : w.ownsRow B 25 2 v n xs) (h' : w.ownsRow B' 25 2 v' n xs) (hx : ∀ j, j < n * 2 → ∃ z, xs[j]? = some (.int .i64 z)) :
    Calls Try.prog 15 #[v, v'] w fun e w' => e = .returned (.bool true) ∧ Below w.heap.size w w' := by
  obtain ⟨A, cap, rfl, hn, hc⟩ := own_shape h
  obtain ⟨A', cap', rfl, _, hc'⟩ := own_shape h'
  unfold maxLen at hn
  have HC : Hid (∀ k, k < n → ∃ g g' x y, A = some ⟨g, 0, none⟩ ∧ A' = some ⟨g', 0, none⟩ ∧ g < w.heap.size ∧ g' < w.heap.size ∧ w.cell? ⟨g, k * 2, none⟩ = some (.int .i64 x) ∧ w.cell? ⟨g, k * 2 + 1, none⟩ = some (.int .i64 y) ∧ w.cell? ⟨g', k * 2, none⟩ = some (.int .i64 x) ∧ w.cell? ⟨g', k * 2 + 1, none⟩ = some (.int .i64 y)) := by
    intro k hk
    obtain ⟨g, rfl, _, hg, c0, _⟩ := hc (k * 2) (by omega)
    obtain ⟨g1, e1, _, _, c1, _⟩ := hc (k * 2 + 1) (by omega)
    obtain ⟨g', rfl, _, hg', c0', _⟩ := hc' (k * 2) (by omega)
    obtain ⟨g1', e1', _, _, c1', _⟩ := hc' (k * 2 + 1) (by omega)
    cases e1
    cases e1'
    obtain ⟨x, hx0⟩ := hx (k * 2) (by omega)
    obtain ⟨y, hx1⟩ := hx (k * 2 + 1) (by omega)
    exact ⟨g, g', x, y, rfl, rfl, hg, hg', c0.trans hx0, c1.trans hx1, c0'.trans hx0, c1'.trans hx1⟩
  clear hc hc' h h' hx
  go_enter Try.func15, Try.ntmps15
  go_wp2_with fail
  go_loopw [5] (fun i wr => ∃ k : Nat, k ≤ n ∧ i = .int .i64 k ∧ Below w.heap.size w wr) (fun i _ => n - (intOf i).toNat)
  case atStart => exact ⟨0, Nat.zero_le _, rfl, Below.refl _ _⟩
  case round =>
    obtain ⟨k, hk, rfl, hbel⟩ := hrel
    by_cases hlt : k < n
    · obtain ⟨g, g', x, y, rfl, rfl, hg, hg', c0, c1, c0', c1'⟩ := HC.out k hlt
      rw [← hbel.cell (p := ⟨_, _, none⟩) hg] at c0 c1
      rw [← hbel.cell (p := ⟨_, _, none⟩) hg'] at c0' c1'
      have h0 : (0 : Int) ≤ (k : Int) := by omega
      have h1 : (k : Int) < (n : Int) := by omega
      go_wp2_with fail
      all_goals try go_quiet (fail)
      all_goals try go_wp2_with fail
      all_goals
        go_roundw
        case rel => exact ⟨k + 1, by omega, by go_num, hbel.trans ⟨rfl, rfl, rfl, Nat.le_refl _, fun _ _ => rfl⟩⟩
        case measure => simp [intOf]; omega
    · have h1 : ¬ (k : Int) < (n : Int) := by omega
      go_wp2_with fail
      go_ret
      exact ⟨rfl, hbel⟩
end Go.Proofs.Ytagmmlipaihilaa
