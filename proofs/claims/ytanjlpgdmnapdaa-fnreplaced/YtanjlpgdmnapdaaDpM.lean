import Derived.Test.YtanjlpgdmnapdaaDpA
namespace Go.Proofs.Ytanjlpgdmnapdaa
open Go.RowKit
set_option linter.unusedSimpArgs false
set_option linter.unusedVariables false

/-- As it is marked from k on. -/
def dpMk (k : Int) : DP := ⟨k, mtx (k + 1), mtx (k + 1 + 1), mtx (k + 1 + 1 + 1)⟩
theorem dpMk_ok {k0 : Int} {n : Nat} (h0 : 0 < k0) (h1 : k0 ≤ 1099511627776) (hn : n ≤ 1048576) : ∀ x ∈ mkL dpMk 4 k0 n, dpOk x := by
  intro x hx
  simp only [mkL, List.mem_map, List.mem_range] at hx
  obtain ⟨i, hi, rfl⟩ := hx
  exact ⟨mtx_size (by omega), mtx_size (by omega), mtx_size (by omega)⟩

set_option maxHeartbeats 4000000 in
theorem laws_markDOpS {B n : Nat} {v : Value} {xs : List Value} (k0 : Int) (w : World) (h : w.ownsRow B 36 4 v n xs) (hn : n ≤ 1048576) (hk0 : 0 < k0) (hk1 : k0 ≤ 1099511627776) :
    Calls Try.prog 71 #[v, .int .i64 k0] w fun e w' => e = .returned (.int .i64 (k0 + (n : Int) * 4)) ∧ w'.ownsRow B 36 4 v n (flat dpL (mkL dpMk 4 k0 n)) ∧ w.grownBy w' v.ownBlock := by
  have HO : Hid (w.ownsRow B 36 4 v n xs) := h
  obtain ⟨A, cap, rfl, _, _⟩ := own_shape h
  clear h
  obtain ⟨LL, HLL⟩ : ∃ LL, Hid (mkL dpMk 4 k0 n = LL) := ⟨_, rfl⟩
  rw [HLL.out]
  go_enter Try.func71, Try.ntmps71
  go_wp2_with fail
  go_loopw [1, 5] (fun q i wr => ∃ t : Nat, t ≤ n ∧ i = .int .i64 t ∧ q = .int .i64 (k0 + (t : Int) * 4) ∧ (∃ ys, wr.ownsRow B 36 4 (.slice A n cap) n ys ∧ ∀ j, j < t * 4 → ys[j]? = (flat dpL LL)[j]?) ∧ w.grownBy wr (Value.slice A n cap).ownBlock) (fun _ i _ => n - (intOf i).toNat)
  case atStart => exact ⟨0, Nat.zero_le _, rfl, by simp, ⟨xs, HO.out, fun j hj => by omega⟩, World.grownBy.refl _ _⟩
  case round =>
    clear HO
    obtain ⟨t, ht, rfl, rfl, ⟨ys, hown, hys⟩, hgr⟩ := hrel
    by_cases hlt : t < n
    · obtain ⟨k, HK⟩ : ∃ k : Int, Hid (k0 + (t : Int) * 4 = k) := ⟨_, rfl⟩
      have hp0 : 0 < k := by have := HK.out; omega
      have hp1 : k ≤ 1099521627776 := by have := HK.out; omega
      have HX : Hid (∀ j, j < 4 → (flat dpL LL)[t * 4 + j]? = (dpL (dpMk k))[j]?) := fun j hj => by
        rw [← HLL.out, flat_at dpL_len j hj, mkL_at _ _ _ _ _ hlt, ← HK.out]; rfl
      rw [HK.out]
      obtain ⟨g, rfl⟩ : ∃ g, A = some ⟨g, 0, none⟩ := by
        obtain ⟨A', cap', e, _, hc⟩ := own_shape hown
        cases e
        obtain ⟨g, e, _⟩ := hc (t * 4) (by omega)
        exact ⟨g, e⟩
      have HA0 : Hid (∃ ys, wr.ownsRow B 36 4 (.slice (some ⟨g, 0, none⟩) n cap) n ys ∧ (∀ j, j < t * 4 → ys[j]? = (flat dpL LL)[j]?) ∧ w.grownBy wr (some g)) := ⟨ys, hown, hys, hgr⟩
      clear hown hys hgr
      have q0 : (0 : Int) ≤ (t : Int) := by omega
      have q1 : (t : Int) < (n : Int) := by omega
      obtain ⟨ys0, o0, p0, r0⟩ := HA0.out
      obtain ⟨A', cap', e, _, hc⟩ := own_shape o0
      cases e
      obtain ⟨gg, e0, _, hg0, d0, f0⟩ := hc (t * 4) (by omega)
      cases e0
      clear hc
      have hl := o0.1
      obtain ⟨x0, y0⟩ : ∃ x, ys0[t * 4]? = some x := ⟨_, List.getElem?_eq_getElem (by omega)⟩
      rw [y0] at d0
      clear y0 hl
      have HP0 : Hid (∃ ys, ((wr.setCell ⟨g, t * 4, none⟩ (.int .i64 (k)))).ownsRow B 36 4 (.slice (some ⟨g, 0, none⟩) n cap) n ys ∧ (∀ j, j < t * 4 + 1 → ys[j]? = (flat dpL LL)[j]?) ∧ w.grownBy ((wr.setCell ⟨g, t * 4, none⟩ (.int .i64 (k)))) (some g)) := by
        obtain ⟨oq, gq⟩ := o0.stored (t * 4) (.int .i64 (k))
        refine ⟨_, oq, fun j hj => ?_, grown_trans r0 gq⟩
        by_cases e : t * 4 = j
        · subst e
          rw [List.getElem?_set_self (by have := o0.1; omega)]
          exact (HX.out 0 (by omega)).symm
        · rw [List.getElem?_set_ne e]; exact p0 j (by omega)
      clear o0 p0 r0
      clear HA0
      go_wp2_with fail
      refine (laws_markTextV _ _ (by omega) (by omega)).mono ?_
      rintro e w2 ⟨rfl, hb⟩
      have HB1 : Hid (∃ ys, w2.ownsRow B 36 4 (.slice (some ⟨g, 0, none⟩) n cap) n ys ∧ (∀ j, j < t * 4 + 1 → ys[j]? = (flat dpL LL)[j]?) ∧ w.grownBy w2 (some g)) := by
        obtain ⟨z, o1, p1, g1⟩ := HP0.out
        exact ⟨z, own_below o1 hb, p1, grown_trans g1 (grown_below _ hb)⟩
      clear hb HP0 d0 f0
      obtain ⟨ys1, o1, p1, r1⟩ := HB1.out
      obtain ⟨A', cap', e, _, hc⟩ := own_shape o1
      cases e
      obtain ⟨gg, e1, _, hg1, d1, f1⟩ := hc (t * 4 + 1) (by omega)
      cases e1
      clear hc
      have hl := o1.1
      obtain ⟨x1, y1⟩ : ∃ x, ys1[t * 4 + 1]? = some x := ⟨_, List.getElem?_eq_getElem (by omega)⟩
      rw [y1] at d1
      clear y1 hl
      have HP1 : Hid (∃ ys, ((w2.setCell ⟨g, t * 4 + 1, none⟩ (.string (mtx (k + 1))))).ownsRow B 36 4 (.slice (some ⟨g, 0, none⟩) n cap) n ys ∧ (∀ j, j < t * 4 + 2 → ys[j]? = (flat dpL LL)[j]?) ∧ w.grownBy ((w2.setCell ⟨g, t * 4 + 1, none⟩ (.string (mtx (k + 1))))) (some g)) := by
        obtain ⟨oq, gq⟩ := o1.stored (t * 4 + 1) (.string (mtx (k + 1)))
        refine ⟨_, oq, fun j hj => ?_, grown_trans r1 gq⟩
        by_cases e : t * 4 + 1 = j
        · subst e
          rw [List.getElem?_set_self (by have := o1.1; omega)]
          exact (HX.out 1 (by omega)).symm
        · rw [List.getElem?_set_ne e]; exact p1 j (by omega)
      clear o1 p1 r1
      clear HB1
      go_wp2_with fail
      refine (laws_markTextV _ _ (by omega) (by omega)).mono ?_
      rintro e w3 ⟨rfl, hb⟩
      have HB2 : Hid (∃ ys, w3.ownsRow B 36 4 (.slice (some ⟨g, 0, none⟩) n cap) n ys ∧ (∀ j, j < t * 4 + 2 → ys[j]? = (flat dpL LL)[j]?) ∧ w.grownBy w3 (some g)) := by
        obtain ⟨z, o1, p1, g1⟩ := HP1.out
        exact ⟨z, own_below o1 hb, p1, grown_trans g1 (grown_below _ hb)⟩
      clear hb HP1 d1 f1
      obtain ⟨ys2, o2, p2, r2⟩ := HB2.out
      obtain ⟨A', cap', e, _, hc⟩ := own_shape o2
      cases e
      obtain ⟨gg, e2, _, hg2, d2, f2⟩ := hc (t * 4 + 2) (by omega)
      cases e2
      clear hc
      have hl := o2.1
      obtain ⟨x2, y2⟩ : ∃ x, ys2[t * 4 + 2]? = some x := ⟨_, List.getElem?_eq_getElem (by omega)⟩
      rw [y2] at d2
      clear y2 hl
      have HP2 : Hid (∃ ys, ((w3.setCell ⟨g, t * 4 + 2, none⟩ (.string (mtx (k + 1 + 1))))).ownsRow B 36 4 (.slice (some ⟨g, 0, none⟩) n cap) n ys ∧ (∀ j, j < t * 4 + 3 → ys[j]? = (flat dpL LL)[j]?) ∧ w.grownBy ((w3.setCell ⟨g, t * 4 + 2, none⟩ (.string (mtx (k + 1 + 1))))) (some g)) := by
        obtain ⟨oq, gq⟩ := o2.stored (t * 4 + 2) (.string (mtx (k + 1 + 1)))
        refine ⟨_, oq, fun j hj => ?_, grown_trans r2 gq⟩
        by_cases e : t * 4 + 2 = j
        · subst e
          rw [List.getElem?_set_self (by have := o2.1; omega)]
          exact (HX.out 2 (by omega)).symm
        · rw [List.getElem?_set_ne e]; exact p2 j (by omega)
      clear o2 p2 r2
      clear HB2
      go_wp2_with fail
      refine (laws_markTextV _ _ (by omega) (by omega)).mono ?_
      rintro e w4 ⟨rfl, hb⟩
      have HB3 : Hid (∃ ys, w4.ownsRow B 36 4 (.slice (some ⟨g, 0, none⟩) n cap) n ys ∧ (∀ j, j < t * 4 + 3 → ys[j]? = (flat dpL LL)[j]?) ∧ w.grownBy w4 (some g)) := by
        obtain ⟨z, o1, p1, g1⟩ := HP2.out
        exact ⟨z, own_below o1 hb, p1, grown_trans g1 (grown_below _ hb)⟩
      clear hb HP2 d2 f2
      obtain ⟨ys3, o3, p3, r3⟩ := HB3.out
      obtain ⟨A', cap', e, _, hc⟩ := own_shape o3
      cases e
      obtain ⟨gg, e3, _, hg3, d3, f3⟩ := hc (t * 4 + 3) (by omega)
      cases e3
      clear hc
      have hl := o3.1
      obtain ⟨x3, y3⟩ : ∃ x, ys3[t * 4 + 3]? = some x := ⟨_, List.getElem?_eq_getElem (by omega)⟩
      rw [y3] at d3
      clear y3 hl
      have HP3 : Hid (∃ ys, ((w4.setCell ⟨g, t * 4 + 3, none⟩ (.string (mtx (k + 1 + 1 + 1))))).ownsRow B 36 4 (.slice (some ⟨g, 0, none⟩) n cap) n ys ∧ (∀ j, j < t * 4 + 4 → ys[j]? = (flat dpL LL)[j]?) ∧ w.grownBy ((w4.setCell ⟨g, t * 4 + 3, none⟩ (.string (mtx (k + 1 + 1 + 1))))) (some g)) := by
        obtain ⟨oq, gq⟩ := o3.stored (t * 4 + 3) (.string (mtx (k + 1 + 1 + 1)))
        refine ⟨_, oq, fun j hj => ?_, grown_trans r3 gq⟩
        by_cases e : t * 4 + 3 = j
        · subst e
          rw [List.getElem?_set_self (by have := o3.1; omega)]
          exact (HX.out 3 (by omega)).symm
        · rw [List.getElem?_set_ne e]; exact p3 j (by omega)
      clear o3 p3 r3
      clear HB3
      go_wp2_with fail
      all_goals
        go_roundw
        case rel =>
          obtain ⟨z, o1, p1, g1⟩ := HP3.out
          exact ⟨t + 1, by omega, by simp, by have := HK.out; congr 1; omega, ⟨z, o1, fun j hj => p1 j (by omega)⟩, g1⟩
        case measure => simp [intOf]; omega
    · have h1 : ¬ (t : Int) < (n : Int) := by omega
      obtain rfl : t = n := by omega
      go_wp2_with fail
      go_ret
      exact ⟨rfl, by rw [flat_eq dpL_len hown.1 (by rw [← HLL.out]; exact mkL_len _ _ _ _) hys] at hown; exact hown, hgr⟩

set_option maxHeartbeats 4000000 in
theorem laws_heldDOpS {A : Option Addr} {n cap : Nat} (k0 : Int) (w : World) (h : DpRow w A (mkL dpMk 4 k0 n)) (hn : n ≤ 1048576) (hk0 : 0 < k0) (hk1 : k0 ≤ 1099511627776) :
    Calls Try.prog 73 #[.slice A n cap, .int .i64 k0] w fun e w' => e = .returned (.int .i64 (k0 + (n : Int) * 4)) ∧ Below w.heap.size w w' := by
  have HR : Hid (DpRow w A (mkL dpMk 4 k0 n)) := h
  clear h
  go_enter Try.func73, Try.ntmps73
  go_wp2_with fail
  go_loopw [1, 5] (fun q i wr => ∃ t : Nat, t ≤ n ∧ i = .int .i64 t ∧ q = .int .i64 (k0 + (t : Int) * 4) ∧ Below w.heap.size w wr) (fun _ i _ => n - (intOf i).toNat)
  case atStart => exact ⟨0, Nat.zero_le _, rfl, by simp, Below.refl _ _⟩
  case round =>
    obtain ⟨t, ht, rfl, rfl, hbel⟩ := hrel
    by_cases hlt : t < n
    · obtain ⟨k, HK⟩ : ∃ k : Int, Hid (k0 + (t : Int) * 4 = k) := ⟨_, rfl⟩
      have hp0 : 0 < k := by have := HK.out; omega
      have hp1 : k ≤ 1099521627776 := by have := HK.out; omega
      have hx := mkL_at dpMk 4 k0 n t hlt
      have hkk : k0 + (t : Int) * ((4 : Nat) : Int) = k := HK.out
      rw [hkk] at hx
      rw [HK.out]
      obtain ⟨b, o, rfl, hl, hc⟩ := HR.out.2 t _ hx
      have HC0 : Hid (w.cell? ⟨b, o + t * 4, none⟩ = some (.int .i64 (k))) := hc 0 _ rfl
      have HC1 : Hid (w.cell? ⟨b, o + t * 4 + 1, none⟩ = some (.string (mtx (k + 1)))) := hc 1 _ rfl
      have HC2 : Hid (w.cell? ⟨b, o + t * 4 + 2, none⟩ = some (.string (mtx (k + 1 + 1)))) := hc 2 _ rfl
      have HC3 : Hid (w.cell? ⟨b, o + t * 4 + 3, none⟩ = some (.string (mtx (k + 1 + 1 + 1)))) := hc 3 _ rfl
      clear hc hx hkk
      have hlw := hbel.size
      have hl2 : b < wr.heap.size := Nat.lt_of_lt_of_le hl hlw
      have c0 := HC0.out
      rw [← hbel.cell (p := ⟨_, _, none⟩) hl] at c0
      have c1 := HC1.out
      rw [← hbel.cell (p := ⟨_, _, none⟩) hl] at c1
      have c2 := HC2.out
      rw [← hbel.cell (p := ⟨_, _, none⟩) hl] at c2
      have c3 := HC3.out
      rw [← hbel.cell (p := ⟨_, _, none⟩) hl] at c3
      have q0 : (0 : Int) ≤ (t : Int) := by omega
      have q1 : (t : Int) < (n : Int) := by omega
      have HB : Hid (Below w.heap.size w wr) := hbel
      clear hbel
      go_wp2_with fail
      go_region_held3 (fun w' => (∀ bq oq, bq < wr.heap.size → w'.cell? ⟨bq, oq, none⟩ = wr.cell? ⟨bq, oq, none⟩) ∧ wr.heap.size ≤ w'.heap.size ∧ Below wr.heap.size wr w')
        (exact sc_of (Nat.le_refl _) (by go_grown))
        (first
        | (go_at_call 94; refine (laws_markTextV _ _ (by omega) (by omega)).mono ?_; rintro e v0 ⟨rfl, hb⟩; obtain ⟨hk0, hz0⟩ := bframe (B := wr.heap.size) (X := wr) (by go_grown) (by go_size) hb; have hW0 : ∀ b o, b < wr.heap.size → v0.cell? ⟨b, o, none⟩ = wr.cell? ⟨b, o, none⟩ := (fun b o h => hk0.cell (p := ⟨b, o, none⟩) h); clear hb))
      all_goals go_wp2_with fail
      all_goals (go_region_held3 (fun w' => (∀ bq oq, bq < wr.heap.size → w'.cell? ⟨bq, oq, none⟩ = wr.cell? ⟨bq, oq, none⟩) ∧ wr.heap.size ≤ w'.heap.size ∧ Below wr.heap.size wr w')
        (exact sc_of (Nat.le_refl _) (by go_grown))
        (first
        | (go_at_call 94; refine (laws_markTextV _ _ (by omega) (by omega)).mono ?_; rintro e v1 ⟨rfl, hb⟩; obtain ⟨hk1, hz1⟩ := bframe (B := wr.heap.size) (X := wr) (by go_grown) (by go_size) hb; have hW1 : ∀ b o, b < wr.heap.size → v1.cell? ⟨b, o, none⟩ = wr.cell? ⟨b, o, none⟩ := (fun b o h => hk1.cell (p := ⟨b, o, none⟩) h); clear hb)))
      all_goals go_wp2_with fail
      all_goals (go_region_held3 (fun w' => (∀ bq oq, bq < wr.heap.size → w'.cell? ⟨bq, oq, none⟩ = wr.cell? ⟨bq, oq, none⟩) ∧ wr.heap.size ≤ w'.heap.size ∧ Below wr.heap.size wr w')
        (exact sc_of (Nat.le_refl _) (by go_grown))
        (first
        | (go_at_call 94; refine (laws_markTextV _ _ (by omega) (by omega)).mono ?_; rintro e v2 ⟨rfl, hb⟩; obtain ⟨hk2, hz2⟩ := bframe (B := wr.heap.size) (X := wr) (by go_grown) (by go_size) hb; have hW2 : ∀ b o, b < wr.heap.size → v2.cell? ⟨b, o, none⟩ = wr.cell? ⟨b, o, none⟩ := (fun b o h => hk2.cell (p := ⟨b, o, none⟩) h); clear hb)))
      all_goals go_wp2_with fail
      all_goals
        go_roundw
        case rel => exact ⟨t + 1, by omega, by simp, by have := HK.out; congr 1; omega, bchain HB.out (by go_grown)⟩
        case measure => simp [intOf]; omega
    · have h1 : ¬ (t : Int) < (n : Int) := by omega
      obtain rfl : t = n := by omega
      go_wp2_with fail
      go_ret
      exact ⟨rfl, hbel⟩
end Go.Proofs.Ytanjlpgdmnapdaa
