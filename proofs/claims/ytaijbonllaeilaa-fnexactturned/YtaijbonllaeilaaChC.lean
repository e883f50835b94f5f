import Derived.Test.YtaijbonllaeilaaChA
namespace Go.Proofs.Ytaijbonllaeilaa
open Go.RowKit
set_option linter.unusedSimpArgs false
set_option linter.unusedVariables false

/-- The marks of a change whose first number is k. -/
def mkC (k : Int) : CH := ⟨k, k + 1, mtx (k + 1 + 1), mtx (k + 1 + 1 + 1)⟩
def mkD (i : Nat) : CH := mkC (1 + (i : Int) * 4)

set_option maxHeartbeats 4000000 in
theorem laws_markChangeS {B n : Nat} {v : Value} {xs : List Value} (w : World) (h : w.ownsRow B 37 4 v n xs) (hn : n ≤ 1048576) :
    Calls Try.prog 9 #[v, .int .i64 1] w fun e w' => e = .returned (.int .i64 (1 + (n : Int) * 4)) ∧ w'.ownsRow B 37 4 v n (chX mkD n) ∧ w.grownBy w' v.ownBlock := by
  have HO : Hid (w.ownsRow B 37 4 v n xs) := h
  obtain ⟨A, cap, rfl, _, _⟩ := own_shape h
  clear h
  go_enter Try.func9, Try.ntmps9
  go_wp2_with fail
  go_loopw [1, 5] (fun q i wr => ∃ t : Nat, t ≤ n ∧ i = .int .i64 t ∧ q = .int .i64 (1 + (t : Int) * 4) ∧ (∃ ys, wr.ownsRow B 37 4 (.slice A n cap) n ys ∧ ∀ j, j < t * 4 → ys[j]? = (chX mkD n)[j]?) ∧ w.grownBy wr (Value.slice A n cap).ownBlock) (fun _ i _ => n - (intOf i).toNat)
  case atStart => exact ⟨0, Nat.zero_le _, rfl, by simp, ⟨xs, HO.out, fun j hj => by omega⟩, World.grownBy.refl _ _⟩
  case round =>
    clear HO
    obtain ⟨t, ht, rfl, rfl, ⟨ys, hown, hys⟩, hgr⟩ := hrel
    by_cases hlt : t < n
    · obtain ⟨k, HK⟩ : ∃ k : Int, Hid (1 + (t : Int) * 4 = k) := ⟨_, rfl⟩
      have hk0 : 0 < k := by have := HK.out; omega
      have hk1 : k ≤ 5000000 := by have := HK.out; omega
      have HD : Hid (mkD t = mkC k) := by show mkC _ = _; rw [HK.out]
      rw [HK.out]
      obtain ⟨A', cap', e, _, hc⟩ := own_shape hown
      cases e
      obtain ⟨g, rfl, _, hg, d0, f0⟩ := hc (t * 4) (by omega)
      obtain ⟨g1, e1, _, _, d1, f1⟩ := hc (t * 4 + 1) (by omega)
      cases e1
      clear hc
      have hl := hown.1
      obtain ⟨x0, y0⟩ : ∃ x, ys[t * 4]? = some x := ⟨_, List.getElem?_eq_getElem (by omega)⟩
      obtain ⟨x1, y1⟩ : ∃ x, ys[t * 4 + 1]? = some x := ⟨_, List.getElem?_eq_getElem (by omega)⟩
      rw [y0] at d0
      rw [y1] at d1
      clear y0 y1 hl
      have q0 : (0 : Int) ≤ (t : Int) := by omega
      have q1 : (t : Int) < (n : Int) := by omega
      have HX : Hid (∀ j, j < 4 → (chX mkD n)[t * 4 + j]? = (chL (mkC k))[j]?) := fun j hj => by rw [chX_at mkD n t j hlt hj, HD.out]
      have HA : Hid (∃ ys, ((wr.setCell ⟨g, t * 4, none⟩ (.int .i64 k)).setCell ⟨g, t * 4 + 1, none⟩ (.int .i64 (k + 1))).ownsRow B 37 4 (.slice (some ⟨g, 0, none⟩) n cap) n ys ∧ (∀ j, j < t * 4 + 2 → ys[j]? = (chX mkD n)[j]?) ∧
          w.grownBy ((wr.setCell ⟨g, t * 4, none⟩ (.int .i64 k)).setCell ⟨g, t * 4 + 1, none⟩ (.int .i64 (k + 1))) (some g)) := by
        obtain ⟨z1, o1, p1, g1⟩ := own_put hown (by omega) (HX.out 0 (by omega)) hys
        obtain ⟨z2, o2, p2, g2⟩ := own_put o1 (by omega) (HX.out 1 (by omega)) p1
        exact ⟨z2, o2, fun j hj => p2 j (by omega), grown_trans hgr (grown_trans g1 g2)⟩
      clear hown hys hgr
      go_wp2_with fail
      refine (laws_markTextV _ _ (by omega) (by omega)).mono ?_
      rintro e w2 ⟨rfl, hb⟩
      have HA2 : Hid (∃ ys, w2.ownsRow B 37 4 (.slice (some ⟨g, 0, none⟩) n cap) n ys ∧ (∀ j, j < t * 4 + 2 → ys[j]? = (chX mkD n)[j]?) ∧ w.grownBy w2 (some g)) := by
        obtain ⟨z, o1, p1, g1⟩ := HA.out
        exact ⟨z, own_below o1 hb, p1, grown_trans g1 ⟨hb.os, hb.tape, hb.output, hb.size, fun q hq _ => hb.block q hq⟩⟩
      clear hb HA d0 d1 f0 f1
      obtain ⟨zs, o1, p1, g1⟩ := HA2.out
      obtain ⟨A', cap', e, _, hc⟩ := own_shape o1
      cases e
      obtain ⟨g2, e2, _, _, d2, f2⟩ := hc (t * 4 + 2) (by omega)
      cases e2
      clear hc
      have hl := o1.1
      obtain ⟨x2, y2⟩ : ∃ x, zs[t * 4 + 2]? = some x := ⟨_, List.getElem?_eq_getElem (by omega)⟩
      rw [y2] at d2
      clear y2 hl
      have HA3 : Hid (∃ ys, (w2.setCell ⟨g, t * 4 + 2, none⟩ (.string (mtx (k + 1 + 1)))).ownsRow B 37 4 (.slice (some ⟨g, 0, none⟩) n cap) n ys ∧ (∀ j, j < t * 4 + 3 → ys[j]? = (chX mkD n)[j]?) ∧
          w.grownBy (w2.setCell ⟨g, t * 4 + 2, none⟩ (.string (mtx (k + 1 + 1)))) (some g)) := by
        obtain ⟨z1, o3, p3, g3⟩ := own_put o1 (by omega) (HX.out 2 (by omega)) p1
        exact ⟨z1, o3, fun j hj => p3 j (by omega), grown_trans g1 g3⟩
      clear o1 p1 g1 HA2
      go_wp2_with fail
      refine (laws_markTextV _ _ (by omega) (by omega)).mono ?_
      rintro e w3 ⟨rfl, hb⟩
      have HA4 : Hid (∃ ys, w3.ownsRow B 37 4 (.slice (some ⟨g, 0, none⟩) n cap) n ys ∧ (∀ j, j < t * 4 + 3 → ys[j]? = (chX mkD n)[j]?) ∧ w.grownBy w3 (some g)) := by
        obtain ⟨z, o1, p1, g1⟩ := HA3.out
        exact ⟨z, own_below o1 hb, p1, grown_trans g1 ⟨hb.os, hb.tape, hb.output, hb.size, fun q hq _ => hb.block q hq⟩⟩
      clear hb HA3 d2 f2
      obtain ⟨zs', o1, p1, g1⟩ := HA4.out
      obtain ⟨A', cap', e, _, hc⟩ := own_shape o1
      cases e
      obtain ⟨g2, e2, _, _, d3, f3⟩ := hc (t * 4 + 3) (by omega)
      cases e2
      clear hc
      have hl := o1.1
      obtain ⟨x3, y3⟩ : ∃ x, zs'[t * 4 + 3]? = some x := ⟨_, List.getElem?_eq_getElem (by omega)⟩
      rw [y3] at d3
      clear y3 hl
      have HA5 : Hid (∃ ys, (w3.setCell ⟨g, t * 4 + 3, none⟩ (.string (mtx (k + 1 + 1 + 1)))).ownsRow B 37 4 (.slice (some ⟨g, 0, none⟩) n cap) n ys ∧ (∀ j, j < (t + 1) * 4 → ys[j]? = (chX mkD n)[j]?) ∧
          w.grownBy (w3.setCell ⟨g, t * 4 + 3, none⟩ (.string (mtx (k + 1 + 1 + 1)))) (some g)) := by
        obtain ⟨z1, o3, p3, g3⟩ := own_put o1 (by omega) (HX.out 3 (by omega)) p1
        exact ⟨z1, o3, fun j hj => p3 j (by omega), grown_trans g1 g3⟩
      clear o1 p1 g1 HA4
      go_wp2_with fail
      all_goals
        go_roundw
        case rel =>
          obtain ⟨z, o1, p1, g1⟩ := HA5.out
          exact ⟨t + 1, by omega, by simp, by have := HK.out; congr 1; omega, ⟨z, o1, p1⟩, g1⟩
        case measure => simp [intOf]; omega
    · have h1 : ¬ (t : Int) < (n : Int) := by omega
      obtain rfl : t = n := by omega
      go_wp2_with fail
      go_ret
      exact ⟨rfl, by rw [ch_rows_eq hown.1 hys] at hown; exact hown, hgr⟩

set_option maxHeartbeats 4000000 in
theorem laws_heldChangeS {A : Option Addr} {n cap : Nat} (w : World) (h : ChRow w A n mkD) (hn : n ≤ 1048576) :
    Calls Try.prog 10 #[.slice A n cap, .int .i64 1] w fun e w' => e = .returned (.int .i64 (1 + (n : Int) * 4)) ∧ Below w.heap.size w w' := by
  have HR : Hid (ChRow w A n mkD) := h
  clear h
  go_enter Try.func10, Try.ntmps10
  go_wp2_with fail
  go_loopw [1, 5] (fun q i wr => ∃ t : Nat, t ≤ n ∧ i = .int .i64 t ∧ q = .int .i64 (1 + (t : Int) * 4) ∧ Below w.heap.size w wr) (fun _ i _ => n - (intOf i).toNat)
  case atStart => exact ⟨0, Nat.zero_le _, rfl, by simp, Below.refl _ _⟩
  case round =>
    obtain ⟨t, ht, rfl, rfl, hbel⟩ := hrel
    by_cases hlt : t < n
    · obtain ⟨k, HK⟩ : ∃ k : Int, Hid (1 + (t : Int) * 4 = k) := ⟨_, rfl⟩
      have hk0 : 0 < k := by have := HK.out; omega
      have hk1 : k ≤ 5000000 := by have := HK.out; omega
      have HD : Hid (mkD t = mkC k) := by show mkC _ = _; rw [HK.out]
      rw [HK.out]
      obtain ⟨b, o, rfl, hl, c0, c1, c2, c3, hs, hs'⟩ := HR.out.2 t hlt
      rw [HD.out] at c0 c1 c2 c3
      simp only [mkC] at c0 c1 c2 c3
      have HC2 : Hid (w.cell? ⟨b, o + t * 4 + 2, none⟩ = some (.string (mtx (k + 1 + 1)))) := c2
      have HC3 : Hid (w.cell? ⟨b, o + t * 4 + 3, none⟩ = some (.string (mtx (k + 1 + 1 + 1)))) := c3
      clear c2 c3 hs hs'
      have hlw := hbel.size
      have hl2 : b < wr.heap.size := Nat.lt_of_lt_of_le hl hlw
      rw [← hbel.cell (p := ⟨_, _, none⟩) hl] at c0 c1
      have c2 := HC2.out
      have c3 := HC3.out
      rw [← hbel.cell (p := ⟨_, _, none⟩) hl] at c2 c3
      have q0 : (0 : Int) ≤ (t : Int) := by omega
      have q1 : (t : Int) < (n : Int) := by omega
      have HB : Hid (Below w.heap.size w wr) := hbel
      clear hbel
      go_wp2_with fail
      go_region_held3 (fun w' => (∀ bq oq, bq < wr.heap.size → w'.cell? ⟨bq, oq, none⟩ = wr.cell? ⟨bq, oq, none⟩) ∧ wr.heap.size ≤ w'.heap.size ∧ Below wr.heap.size wr w')
        (exact sc_of (Nat.le_refl _) (by go_grown))
        (first
        | (go_at_call 14; refine (laws_markTextV _ _ (by omega) (by omega)).mono ?_; rintro e w1 ⟨rfl, hb⟩; obtain ⟨hk1, hz1⟩ := bframe (B := wr.heap.size) (X := wr) (by go_grown) (by go_size) hb; have hW1 : ∀ b o, b < wr.heap.size → w1.cell? ⟨b, o, none⟩ = wr.cell? ⟨b, o, none⟩ := (fun b o h => hk1.cell (p := ⟨b, o, none⟩) h); clear hb))
      all_goals go_wp2_with fail
      all_goals
        go_region_held3 (fun w' => (∀ bq oq, bq < wr.heap.size → w'.cell? ⟨bq, oq, none⟩ = wr.cell? ⟨bq, oq, none⟩) ∧ wr.heap.size ≤ w'.heap.size ∧ Below wr.heap.size wr w')
          (exact sc_of (Nat.le_refl _) (by go_grown))
          (first
          | (go_at_call 14; refine (laws_markTextV _ _ (by omega) (by omega)).mono ?_; rintro e w2 ⟨rfl, hb⟩; obtain ⟨hk2, hz2⟩ := bframe (B := wr.heap.size) (X := wr) (by go_grown) (by go_size) hb; have hW2 : ∀ b o, b < wr.heap.size → w2.cell? ⟨b, o, none⟩ = wr.cell? ⟨b, o, none⟩ := (fun b o h => hk2.cell (p := ⟨b, o, none⟩) h); clear hb))
      all_goals go_wp2_with fail
      all_goals
        go_roundw
        case rel => exact ⟨t + 1, by omega, by simp, by have := HK.out; congr 1; omega, bchain HB.out (by go_grown)⟩
        case measure => simp [intOf]; omega
    · have h1 : ¬ (t : Int) < (n : Int) := by omega
      obtain rfl : t = n := by omega
      go_wp2_with fail
      go_ret
      exact ⟨rfl, hbel⟩
end Go.Proofs.Ytaijbonllaeilaa
