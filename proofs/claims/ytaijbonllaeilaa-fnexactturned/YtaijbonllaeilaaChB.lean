import Derived.Test.YtaijbonllaeilaaChA
namespace Go.Proofs.Ytaijbonllaeilaa
open Go.RowKit
set_option linter.unusedSimpArgs false
set_option linter.unusedVariables false

set_option maxHeartbeats 2000000 in
theorem laws_szChangeS {A : Option Addr} {n cap : Nat} {D : Nat → CH} (w : World) (h : ChRow w A n D) :
    Calls Try.prog 4 #[.slice A n cap, .int .i64 1048576] w fun e w' => ∃ z : Int, e = .returned (.int .i64 z) ∧ (0 ≤ z → n ≤ 1048576) ∧ Below w.heap.size w w' := by
  have HR : Hid (ChRow w A n D) := h
  have hm := h.1
  clear h
  unfold maxLen at hm
  by_cases hbig : (1048576 : Int) - (n : Int) < 0
  · go_enter Try.func4, Try.ntmps4
    go_wp2_with fail
    go_ret
    exact ⟨-1, rfl, fun h => by omega, by go_grown⟩
  · go_enter Try.func4, Try.ntmps4
    go_wp2_with fail
    go_loopw [1, 5] (fun l i wr => ∃ (t : Nat) (z : Int), t ≤ n ∧ i = .int .i64 t ∧ l = .int .i64 z ∧ 0 ≤ z ∧ z ≤ 1048576 ∧ Below w.heap.size w wr) (fun _ i _ => n - (intOf i).toNat)
    case atStart => exact ⟨0, _, Nat.zero_le _, rfl, rfl, by omega, by omega, Below.refl _ _⟩
    case round =>
      obtain ⟨t, z, ht, rfl, rfl, z0, z1, hbel⟩ := hrel
      by_cases hlt : t < n
      · obtain ⟨b, o, rfl, hl, c0, c1, c2, c3, hs, hs'⟩ := HR.out.2 t hlt
        rw [← hbel.cell (p := ⟨_, _, none⟩) hl] at c0 c1 c2 c3
        have q0 : (0 : Int) ≤ (t : Int) := by omega
        have q1 : (t : Int) < (n : Int) := by omega
        have HB : Hid (Below w.heap.size w wr) := hbel
        clear hbel
        go_wp2_with fail
        refine (laws_szChange _ _ _ _ _ _ hs hs' z0 z1).mono ?_
        rintro e w2 ⟨y, rfl, hy, hb⟩
        have HB2 : Hid (Below w.heap.size w w2) := bchain HB.out hb
        clear hb c0 c1 c2 c3
        by_cases hz : y < 0
        · go_wp2_with fail
          go_ret
          exact ⟨_, rfl, fun h => by omega, HB2.out⟩
        · go_wp2_with fail
          go_roundw
          case rel => exact ⟨t + 1, _, by omega, by go_num, rfl, by omega, hy, HB2.out⟩
          case measure => simp [intOf]; omega
      · have q1 : ¬ (t : Int) < (n : Int) := by omega
        go_wp2_with fail
        go_ret
        exact ⟨_, rfl, fun h => by omega, hbel⟩

set_option maxHeartbeats 2000000 in
theorem laws_eqChangeS {A A' : Option Addr} {n cap cap' : Nat} {D : Nat → CH} (w : World) (h : ChRow w A n D) (h' : ChRow w A' n D) :
    Calls Try.prog 8 #[.slice A n cap, .slice A' n cap'] w fun e w' => e = .returned (.bool true) ∧ Below w.heap.size w w' := by
  have HR : Hid (ChRow w A n D) := h
  have HR' : Hid (ChRow w A' n D) := h'
  have hn := h.1
  unfold maxLen at hn
  clear h h'
  go_enter Try.func8, Try.ntmps8
  go_wp2_with fail
  go_loopw [5] (fun i wr => ∃ k : Nat, k ≤ n ∧ i = .int .i64 k ∧ Below w.heap.size w wr) (fun i _ => n - (intOf i).toNat)
  case atStart => exact ⟨0, Nat.zero_le _, rfl, Below.refl _ _⟩
  case round =>
    obtain ⟨k, hk, rfl, hbel⟩ := hrel
    by_cases hlt : k < n
    · obtain ⟨b, o, rfl, hl, c0, c1, c2, c3, hs, hs'⟩ := HR.out.2 k hlt
      obtain ⟨b', o', rfl, hl', c0', c1', c2', c3', _⟩ := HR'.out.2 k hlt
      have hs := hbel.size
      have hW := fun b o h => hbel.cell (p := ⟨b, o, none⟩) h
      have h0 : (0 : Int) ≤ (k : Int) := by omega
      have h1 : (k : Int) < (n : Int) := by omega
      go_wp2_with fail
      go_region_held3 (fun w' => (∀ bq oq, bq < w.heap.size → w'.cell? ⟨bq, oq, none⟩ = w.cell? ⟨bq, oq, none⟩) ∧ w.heap.size ≤ w'.heap.size ∧ Below w.heap.size w w')
        (exact sc_of (Nat.le_refl _) (by go_grown))
        (first
        | (go_at_call 13; refine (laws_eqChange (D k).c (D k).r (D k).f (D k).t _).mono ?_; rintro e w1 ⟨rfl, hb⟩; obtain ⟨hk1, hz1⟩ := bframe (B := w.heap.size) (X := w) (by go_grown) (by go_size) hb; clear hb))
      all_goals go_wp2_with fail
      all_goals
        go_roundw
        case rel => exact ⟨k + 1, by omega, by go_num, by go_grown⟩
        case measure => simp [intOf]; omega
    · have h1 : ¬ (k : Int) < (n : Int) := by omega
      go_wp2_with fail
      go_ret
      exact ⟨rfl, hbel⟩

set_option maxHeartbeats 2000000 in
theorem laws_toChangeS {A : Option Addr} {n cap : Nat} {D : Nat → CH} (w : World) (h : ChRow w A n D) (hn : n ≤ 1048576) :
    Calls Try.prog 6 #[.slice A n cap] w fun e w' => ∃ v, e = .returned v ∧ w'.ownsRow w.heap.size 37 4 v n (chX D n) ∧ Below w.heap.size w w' := by
  have HR : Hid (ChRow w A n D) := h
  clear h
  obtain ⟨i0, hi, hz0, hz1, hz2⟩ := info_parts infoCh
  go_enter Try.func6, Try.ntmps6
  go_wp2_with (refine wpList_make_full _ rfl _ _ 24 rfl w.heap.size 37 i0 _ 4 Try.underlying24 hi hz0 hz1 _ _ _ _ n rfl rfl rfl rfl ?m1 ?m2 ?m3 ?_)
  case m1 => rw [hz2]; omega
  case m2 => unfold maxLen; omega
  case m3 => exact Nat.le_refl _
  intro w1 hown hgrow
  have hg1 : Below w.heap.size w w1 := (Below.refl _ _).grown hgrow (Nat.le_refl _) (fun k hk => by cases hk)
  obtain ⟨ys, hown⟩ : ∃ ys, w1.ownsRow w.heap.size 37 4 (.slice (some ⟨w.heap.size, 0, none⟩) n n) n ys := ⟨_, hown⟩
  clear hgrow
  have HO : Hid (w1.ownsRow w.heap.size 37 4 (.slice (some ⟨w.heap.size, 0, none⟩) n n) n ys) := hown
  clear hown
  go_wp2_with fail
  go_loopw [4] (fun i wr => ∃ t : Nat, t ≤ n ∧ i = .int .i64 t ∧ (∃ ys, wr.ownsRow w.heap.size 37 4 (.slice (some ⟨w.heap.size, 0, none⟩) n n) n ys ∧ ∀ j, j < t * 4 → ys[j]? = (chX D n)[j]?) ∧ Below w.heap.size w wr) (fun i _ => n - (intOf i).toNat)
  case atStart => exact ⟨0, Nat.zero_le _, rfl, ⟨ys, HO.out, fun j hj => by omega⟩, hg1⟩
  case round =>
    clear HO hg1
    obtain ⟨t, ht, rfl, ⟨ys, hown, hys⟩, hbel⟩ := hrel
    by_cases hlt : t < n
    · obtain ⟨b, o, rfl, hl, c0, c1, c2, c3, hs, hs'⟩ := HR.out.2 t hlt
      rw [← hbel.cell (p := ⟨_, _, none⟩) hl] at c0 c1 c2 c3
      have q0 : (0 : Int) ≤ (t : Int) := by omega
      have q1 : (t : Int) < (n : Int) := by omega
      have HO : Hid (wr.ownsRow w.heap.size 37 4 (.slice (some ⟨w.heap.size, 0, none⟩) n n) n ys) := hown
      have HY : Hid (∀ j, j < t * 4 → ys[j]? = (chX D n)[j]?) := hys
      have HB : Hid (Below w.heap.size w wr) := hbel
      clear hown hys hbel
      go_wp2_with fail
      refine (laws_toChange _ _ _ _ _).mono ?_
      rintro e w2 ⟨rfl, hb⟩
      have HO2 : Hid (w2.ownsRow w.heap.size 37 4 (.slice (some ⟨w.heap.size, 0, none⟩) n n) n ys) := own_below HO.out hb
      have HB2 : Hid (Below w.heap.size w w2) := bchain HB.out hb
      obtain ⟨A', cap', e, _, hc⟩ := own_shape HO2.out
      cases e
      obtain ⟨g0, e0, _, hg, d0, f0⟩ := hc (t * 4) (by omega)
      obtain ⟨g1, e1, _, _, d1, f1⟩ := hc (t * 4 + 1) (by omega)
      obtain ⟨g2, e2, _, _, d2, f2⟩ := hc (t * 4 + 2) (by omega)
      obtain ⟨g3, e3, _, _, d3, f3⟩ := hc (t * 4 + 3) (by omega)
      cases e0
      cases e1
      cases e2
      cases e3
      clear hc hb c0 c1 c2 c3 HO HB
      have hl4 := HO2.out.1
      obtain ⟨x0, y0⟩ : ∃ x, ys[t * 4]? = some x := ⟨_, List.getElem?_eq_getElem (by omega)⟩
      obtain ⟨x1, y1⟩ : ∃ x, ys[t * 4 + 1]? = some x := ⟨_, List.getElem?_eq_getElem (by omega)⟩
      obtain ⟨x2, y2⟩ : ∃ x, ys[t * 4 + 2]? = some x := ⟨_, List.getElem?_eq_getElem (by omega)⟩
      obtain ⟨x3, y3⟩ : ∃ x, ys[t * 4 + 3]? = some x := ⟨_, List.getElem?_eq_getElem (by omega)⟩
      rw [y0] at d0
      rw [y1] at d1
      rw [y2] at d2
      rw [y3] at d3
      clear y0 y1 y2 y3 hl4
      have HT : Hid (∃ zs, ((((w2.setCell ⟨w.heap.size, t * 4, none⟩ (.int .i64 (D t).c)).setCell ⟨w.heap.size, t * 4 + 1, none⟩ (.int .i64 (D t).r)).setCell ⟨w.heap.size, t * 4 + 2, none⟩ (.string (D t).f)).setCell ⟨w.heap.size, t * 4 + 3, none⟩ (.string (D t).t)).ownsRow w.heap.size 37 4 (.slice (some ⟨w.heap.size, 0, none⟩) n n) n zs ∧
        (∀ j, j < t * 4 ∨ (t * 4 ≤ j ∧ j < (t + 1) * 4) → zs[j]? = (chX D n)[j]?) ∧ w2.grownBy ((((w2.setCell ⟨w.heap.size, t * 4, none⟩ (.int .i64 (D t).c)).setCell ⟨w.heap.size, t * 4 + 1, none⟩ (.int .i64 (D t).r)).setCell ⟨w.heap.size, t * 4 + 2, none⟩ (.string (D t).f)).setCell ⟨w.heap.size, t * 4 + 3, none⟩ (.string (D t).t)) (some w.heap.size)) := own_four (D t) rfl HO2.out hlt HY.out
      clear HO2 HY
      go_wp2_with fail
      all_goals
        go_roundw
        case rel =>
          obtain ⟨zs, z1, z2, z3⟩ := HT.out
          exact ⟨t + 1, by omega, by simp, ⟨zs, z1, fun j hj => z2 j (by omega)⟩, HB2.out.grown z3 HB2.out.size (fun k hk => by cases hk; exact Nat.le_refl _)⟩
        case measure => simp [intOf]; omega
    · have q1 : ¬ (t : Int) < (n : Int) := by omega
      obtain rfl : t = n := by omega
      go_wp2_with fail
      go_ret
      exact ⟨_, rfl, by rw [ch_rows_eq hown.1 hys] at hown; exact hown, hbel⟩
end Go.Proofs.Ytaijbonllaeilaa
