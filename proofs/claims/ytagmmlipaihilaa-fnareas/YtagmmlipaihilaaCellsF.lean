import Derived.Test.YtagmmlipaihilaaCellsE
import Derived.Deep.RegionHeld3
import Derived.Deep.QuietTactic
namespace Go.Proofs.Ytagmmlipaihilaa
open Go.RowKit

/-- A row's head, its cells, and that they may be written. -/
theorem own_shape {W : World} {B : Nat} {e : TypeId} {size n : Nat} {v : Value} {xs : List Value} (h : W.ownsRow B e size v n xs) :
    ∃ A cap, v = .slice A n cap ∧ n ≤ maxLen ∧ (∀ j, j < n * size → ∃ g, A = some ⟨g, 0, none⟩ ∧ B ≤ g ∧ g < W.heap.size ∧ W.cell? ⟨g, j, none⟩ = xs[j]? ∧ W.frozen? ⟨g, j, none⟩ = false) := by
  rcases h.2 with ⟨rfl, rfl⟩ | ⟨g, cap, cur, rfl, hb, hg, h1, h2, _⟩
  · exact ⟨none, 0, rfl, Nat.zero_le _, fun j hj => by omega⟩
  · exact ⟨_, cap, rfl, Nat.le_trans h1 h2, fun j hj => ⟨g, rfl, hb, (Array.getElem?_eq_some_iff.1 hg).1, h.cellAt j hj, h.frozenAt j⟩⟩

set_option maxHeartbeats 400000 in
theorem laws_eqRef (c r : Int) (w : World) : Calls Try.prog 36 #[.agg #[.int .i64 c, .int .i64 r], .agg #[.int .i64 c, .int .i64 r]] w fun e w' =>
    e = .returned (.bool true) ∧ Below w.heap.size w w' := by
  go_enter Try.func36, Try.ntmps36
  go_wp2
  go_ret
  exact ⟨rfl, by go_grown⟩

set_option maxHeartbeats 2000000 in
theorem laws_eqRefS {B B' n : Nat} {v v' : Value} {xs : List Value} (w : World) (h : w.ownsRow B 25 2 v n xs) (h' : w.ownsRow B' 25 2 v' n xs) (hx : ∀ j, j < n * 2 → ∃ z, xs[j]? = some (.int .i64 z)) :
    Calls Try.prog 28 #[v, v'] w fun e w' => e = .returned (.bool true) ∧ Below w.heap.size w w' := by
  obtain ⟨A, cap, rfl, hn, hc⟩ := own_shape h
  obtain ⟨A', cap', rfl, _, hc'⟩ := own_shape h'
  unfold maxLen at hn
  have HC : Hid (∀ k, k < n → ∃ g g' x y, A = some ⟨g, 0, none⟩ ∧ A' = some ⟨g', 0, none⟩ ∧ g < w.heap.size ∧ g' < w.heap.size ∧ w.cell? ⟨g, k * 2, none⟩ = some (.int .i64 x) ∧ w.cell? ⟨g, k * 2 + 1, none⟩ = some (.int .i64 y) ∧ w.cell? ⟨g', k * 2, none⟩ = some (.int .i64 x) ∧ w.cell? ⟨g', k * 2 + 1, none⟩ = some (.int .i64 y)) := by
    intro k hk
    obtain ⟨g, rfl, _, hg, c0, _⟩ := hc (k * 2) (by omega)
    obtain ⟨g1, e1, _, _, c1, _⟩ := hc (k * 2 + 1) (by omega)
    obtain ⟨g', rfl, _, hg', c0', _⟩ := hc' (k * 2) (by omega)
    obtain ⟨g1', e1', _, _, c1', _⟩ := hc' (k * 2 + 1) (by omega)
    cases e1
    cases e1'
    obtain ⟨x, hx0⟩ := hx (k * 2) (by omega)
    obtain ⟨y, hx1⟩ := hx (k * 2 + 1) (by omega)
    exact ⟨g, g', x, y, rfl, rfl, hg, hg', c0.trans hx0, c1.trans hx1, c0'.trans hx0, c1'.trans hx1⟩
  clear hc hc' h h' hx
  go_enter Try.func28, Try.ntmps28
  go_wp2_with fail
  go_loopw [5] (fun i wr => ∃ k : Nat, k ≤ n ∧ i = .int .i64 k ∧ Below w.heap.size w wr) (fun i _ => n - (intOf i).toNat)
  case atStart => exact ⟨0, Nat.zero_le _, rfl, Below.refl _ _⟩
  case round =>
    obtain ⟨k, hk, rfl, hbel⟩ := hrel
    by_cases hlt : k < n
    · obtain ⟨g, g', x, y, rfl, rfl, hg, hg', c0, c1, c0', c1'⟩ := HC.out k hlt
      have hs := hbel.size
      have hW := fun b o h => hbel.cell (p := ⟨b, o, none⟩) h
      have h0 : (0 : Int) ≤ (k : Int) := by omega
      have h1 : (k : Int) < (n : Int) := by omega
      go_wp2_with fail
      go_region_held3 (fun w' => (∀ bq oq, bq < w.heap.size → w'.cell? ⟨bq, oq, none⟩ = w.cell? ⟨bq, oq, none⟩) ∧ w.heap.size ≤ w'.heap.size ∧ Below w.heap.size w w')
        (exact sc_of (Nat.le_refl _) (by go_grown))
        (first
        | (go_at_call 36; refine (laws_eqRef x y _).mono ?_; rintro e w1 ⟨rfl, hb⟩; obtain ⟨hk1, hz1⟩ := bframe (B := w.heap.size) (X := w) (by go_grown) (by go_size) hb; clear hb))
      all_goals go_wp2_with fail
      all_goals
        go_roundw
        case rel => exact ⟨k + 1, by omega, by go_num, by go_grown⟩
        case measure => simp [intOf]; omega
    · have h1 : ¬ (k : Int) < (n : Int) := by omega
      go_wp2_with fail
      go_ret
      exact ⟨rfl, hbel⟩

theorem grown_trans {a b c : World} {row : Option Nat} (h : a.grownBy b row) (h' : b.grownBy c row) : a.grownBy c row :=
  ⟨h'.os.trans h.os, h'.tape.trans h.tape, h'.output.trans h.output, Nat.le_trans h.size h'.size, fun k hk hr => (h'.block k (Nat.lt_of_lt_of_le hk h.size) hr).trans (h.block k hk hr)⟩
/-- Two stores into an element of a row. -/
theorem own_two {W : World} {B : Nat} {e : TypeId} {g n cap t : Nat} {ys : List Value} {k : Int} (h : W.ownsRow B e 2 (.slice (some ⟨g, 0, none⟩) n cap) n ys) (ht : t < n) (hy : ∀ j, j < t * 2 → ys[j]? = some (.int .i64 (k + (j : Nat)))) :
    ∃ zs, ((W.setCell ⟨g, t * 2, none⟩ (.int .i64 (k + (t * 2 : Nat)))).setCell ⟨g, t * 2 + 1, none⟩ (.int .i64 (k + (t * 2 + 1 : Nat)))).ownsRow B e 2 (.slice (some ⟨g, 0, none⟩) n cap) n zs ∧
      (∀ j, j < (t + 1) * 2 → zs[j]? = some (.int .i64 (k + (j : Nat)))) ∧ W.grownBy ((W.setCell ⟨g, t * 2, none⟩ (.int .i64 (k + (t * 2 : Nat)))).setCell ⟨g, t * 2 + 1, none⟩ (.int .i64 (k + (t * 2 + 1 : Nat)))) (some g) := by
  obtain ⟨o1, g1⟩ := h.stored (t * 2) (.int .i64 (k + (t * 2 : Nat)))
  obtain ⟨o2, g2⟩ := o1.stored (t * 2 + 1) (.int .i64 (k + (t * 2 + 1 : Nat)))
  refine ⟨_, o2, fun j hj => ?_, grown_trans g1 g2⟩
  have hl := h.1
  by_cases e1 : t * 2 + 1 = j
  · subst e1
    rw [List.getElem?_set_self (by simp; omega)]
  · rw [List.getElem?_set_ne e1]
    by_cases e2 : t * 2 = j
    · subst e2
      rw [List.getElem?_set_self (by omega)]
    · rw [List.getElem?_set_ne e2]
      exact hy j (by omega)

set_option maxHeartbeats 2000000 in
theorem laws_markRefS {B n : Nat} {v : Value} {xs : List Value} (k : Int) (w : World) (h : w.ownsRow B 25 2 v n xs) (hn : n ≤ 10000) (h0 : 0 ≤ k) (h1 : k ≤ 10) :
    Calls Try.prog 29 #[v, .int .i64 k] w fun e w' => e = .returned (.int .i64 (k + (n * 2 : Nat))) ∧ (∃ ys, w'.ownsRow B 25 2 v n ys ∧ ∀ j, j < n * 2 → ys[j]? = some (.int .i64 (k + (j : Nat)))) ∧ w.grownBy w' v.ownBlock := by
  have HO : Hid (w.ownsRow B 25 2 v n xs) := h
  obtain ⟨A, cap, rfl, _, _⟩ := own_shape h
  clear h
  go_enter Try.func29, Try.ntmps29
  go_wp2_with fail
  go_loopw [1, 5] (fun q i wr => ∃ t : Nat, t ≤ n ∧ i = .int .i64 t ∧ q = .int .i64 (k + (t * 2 : Nat)) ∧ (∃ ys, wr.ownsRow B 25 2 (.slice A n cap) n ys ∧ ∀ j, j < t * 2 → ys[j]? = some (.int .i64 (k + (j : Nat)))) ∧ w.grownBy wr (Value.slice A n cap).ownBlock) (fun _ i _ => n - (intOf i).toNat)
  case atStart => exact ⟨0, Nat.zero_le _, rfl, by simp, ⟨xs, HO.out, fun j hj => by omega⟩, World.grownBy.refl _ _⟩
  case round =>
    obtain ⟨t, ht, rfl, rfl, ⟨ys, hown, hys⟩, hgr⟩ := hrel
    by_cases hlt : t < n
    · obtain ⟨A', cap', e, _, hc⟩ := own_shape hown
      cases e
      obtain ⟨g, rfl, _, hg, c0, f0⟩ := hc (t * 2) (by omega)
      obtain ⟨g', e1, _, _, c1, f1⟩ := hc (t * 2 + 1) (by omega)
      cases e1
      clear hc
      have hl := hown.1
      obtain ⟨x0, e0⟩ : ∃ x, ys[t * 2]? = some x := ⟨_, List.getElem?_eq_getElem (by omega)⟩
      obtain ⟨x1, e1⟩ : ∃ x, ys[t * 2 + 1]? = some x := ⟨_, List.getElem?_eq_getElem (by omega)⟩
      rw [e0] at c0
      rw [e1] at c1
      clear e0 e1
      have HT := own_two hown hlt hys
      have HT' : Hid (∃ zs, ((wr.setCell ⟨g, t * 2, none⟩ (.int .i64 (k + (t * 2 : Nat)))).setCell ⟨g, t * 2 + 1, none⟩ (.int .i64 (k + (t * 2 + 1 : Nat)))).ownsRow B 25 2 (.slice (some ⟨g, 0, none⟩) n cap) n zs ∧
        (∀ j, j < (t + 1) * 2 → zs[j]? = some (.int .i64 (k + (j : Nat)))) ∧ wr.grownBy ((wr.setCell ⟨g, t * 2, none⟩ (.int .i64 (k + (t * 2 : Nat)))).setCell ⟨g, t * 2 + 1, none⟩ (.int .i64 (k + (t * 2 + 1 : Nat)))) (some g)) := HT
      clear HT hown hys hl
      have HG : Hid (w.grownBy wr (some g)) := hgr
      clear hgr HO
      have q0 : (0 : Int) ≤ (t : Int) := by omega
      have q1 : (t : Int) < (n : Int) := by omega
      go_wp2_with fail
      all_goals
        go_roundw
        case rel =>
          obtain ⟨zs, z1, z2, z3⟩ := HT'.out
          have e0 : k + ((t * 2 : Nat) : Int) = k + (t : Int) * 2 := by omega
          have e1 : k + ((t * 2 + 1 : Nat) : Int) = k + (t : Int) * 2 + 1 := by omega
          rw [e0, e1] at z1 z3
          exact ⟨t + 1, by omega, by simp, by congr 1; omega, ⟨zs, z1, z2⟩, grown_trans HG.out z3⟩
        case measure => simp [intOf]; omega
    · have h1 : ¬ (t : Int) < (n : Int) := by omega
      obtain rfl : t = n := by omega
      go_wp2_with fail
      go_ret
      exact ⟨rfl, ⟨ys, hown, hys⟩, hgr⟩

set_option maxHeartbeats 2000000 in
theorem laws_heldRefS {B n : Nat} {v : Value} {ys : List Value} (k : Int) (w : World) (h : w.ownsRow B 25 2 v n ys) (hy : ∀ j, j < n * 2 → ys[j]? = some (.int .i64 (k + (j : Nat)))) (hn : n ≤ 10000) (h0 : 0 ≤ k) (h1 : k ≤ 10) :
    Calls Try.prog 30 #[v, .int .i64 k] w fun e w' => e = .returned (.int .i64 (k + (n * 2 : Nat))) ∧ Below w.heap.size w w' := by
  obtain ⟨A, cap, rfl, _, hc⟩ := own_shape h
  have HC : Hid (∀ t, t < n → ∃ g, A = some ⟨g, 0, none⟩ ∧ g < w.heap.size ∧ w.cell? ⟨g, t * 2, none⟩ = some (.int .i64 (k + (t : Int) * 2)) ∧ w.cell? ⟨g, t * 2 + 1, none⟩ = some (.int .i64 (k + (t : Int) * 2 + 1))) := by
    intro t ht
    obtain ⟨g, rfl, _, hg, c0, _⟩ := hc (t * 2) (by omega)
    obtain ⟨g1, e1, _, _, c1, _⟩ := hc (t * 2 + 1) (by omega)
    cases e1
    refine ⟨g, rfl, hg, c0.trans ((hy _ (by omega)).trans ?_), c1.trans ((hy _ (by omega)).trans ?_)⟩
    · rw [show k + ((t * 2 : Nat) : Int) = k + (t : Int) * 2 by omega]
    · rw [show k + ((t * 2 + 1 : Nat) : Int) = k + (t : Int) * 2 + 1 by omega]
  clear hc h hy
  go_enter Try.func30, Try.ntmps30
  go_wp2_with fail
  go_loopw [1, 5] (fun q i wr => ∃ t : Nat, t ≤ n ∧ i = .int .i64 t ∧ q = .int .i64 (k + (t : Int) * 2) ∧ Below w.heap.size w wr) (fun _ i _ => n - (intOf i).toNat)
  case atStart => exact ⟨0, Nat.zero_le _, rfl, by simp, Below.refl _ _⟩
  case round =>
    obtain ⟨t, ht, rfl, rfl, hbel⟩ := hrel
    by_cases hlt : t < n
    · obtain ⟨g, rfl, hg, c0, c1⟩ := HC.out t hlt
      rw [← hbel.cell (p := ⟨_, _, none⟩) hg] at c0 c1
      have q0 : (0 : Int) ≤ (t : Int) := by omega
      have q1 : (t : Int) < (n : Int) := by omega
      go_wp2_with fail
      all_goals
        go_roundw
        case rel => exact ⟨t + 1, by omega, by simp, by congr 1; omega, by go_grown⟩
        case measure => simp [intOf]; omega
    · have h1 : ¬ (t : Int) < (n : Int) := by omega
      obtain rfl : t = n := by omega
      go_wp2_with fail
      go_ret
      exact ⟨ret_int (by omega), hbel⟩
end Go.Proofs.Ytagmmlipaihilaa
