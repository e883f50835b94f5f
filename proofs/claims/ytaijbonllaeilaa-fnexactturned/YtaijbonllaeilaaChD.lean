import Derived.Test.YtaijbonllaeilaaChB
namespace Go.Proofs.Ytaijbonllaeilaa
open Go.RowKit
set_option linter.unusedSimpArgs false
set_option linter.unusedVariables false

def revCh (n : Nat) (D : Nat → CH) (i : Nat) : CH := ⟨(D (n - 1 - i)).c, (D (n - 1 - i)).r, (D (n - 1 - i)).t, (D (n - 1 - i)).f⟩
theorem revCh_at {n t m : Nat} (D : Nat → CH) (h : m + 1 + t = n) : revCh n D m = ⟨(D t).c, (D t).r, (D t).t, (D t).f⟩ := by
  have e : n - 1 - m = t := by omega
  unfold revCh
  rw [e]

set_option maxHeartbeats 4000000 in
theorem impl_Turned {A : Option Addr} {n cap : Nat} {D : Nat → CH} (w : World) (h : ChRow w A n D) (hn : n ≤ 1048576) :
    Calls Try.prog 7 #[.slice A n cap] w fun e w' => ∃ v, e = .returned v ∧ w'.ownsRow w.heap.size 37 4 v n (chX (revCh n D) n) ∧ Below w.heap.size w w' := by
  have HR : Hid (ChRow w A n D) := h
  clear h
  obtain ⟨i0, hi, hz0, hz1, hz2⟩ := info_parts infoCh
  go_enter Try.func7, Try.ntmps7
  go_wp2_with (refine wpList_make_full _ rfl _ _ 24 rfl w.heap.size 37 i0 _ 4 Try.underlying24 hi hz0 hz1 _ _ _ _ n rfl rfl rfl rfl ?m1 ?m2 ?m3 ?_)
  case m1 => rw [hz2]; omega
  case m2 => unfold maxLen; omega
  case m3 => exact Nat.le_refl _
  intro w1 hown hgrow
  have hg1 : Below w.heap.size w w1 := (Below.refl _ _).grown hgrow (Nat.le_refl _) (fun k hk => by cases hk)
  obtain ⟨ys, hown⟩ : ∃ ys, w1.ownsRow w.heap.size 37 4 (.slice (some ⟨w.heap.size, 0, none⟩) n n) n ys := ⟨_, hown⟩
  clear hgrow
  have HO : Hid (w1.ownsRow w.heap.size 37 4 (.slice (some ⟨w.heap.size, 0, none⟩) n n) n ys) := hown
  clear hown
  go_wp2_with fail
  go_loopw [11] (fun i wr => ∃ t : Nat, t ≤ n ∧ i = .int .i64 t ∧ (∃ ys, wr.ownsRow w.heap.size 37 4 (.slice (some ⟨w.heap.size, 0, none⟩) n n) n ys ∧ ∀ j, (n - t) * 4 ≤ j ∧ j < n * 4 → ys[j]? = (chX (revCh n D) n)[j]?) ∧ Below w.heap.size w wr) (fun i _ => n - (intOf i).toNat)
  case atStart => exact ⟨0, Nat.zero_le _, rfl, ⟨ys, HO.out, fun j hj => by omega⟩, hg1⟩
  case round =>
    clear HO hg1
    obtain ⟨t, ht, rfl, ⟨ys, hown, hys⟩, hbel⟩ := hrel
    by_cases hlt : t < n
    · obtain ⟨m, HM⟩ : ∃ m : Nat, Hid (m + 1 + t = n) := ⟨n - 1 - t, (by omega : n - 1 - t + 1 + t = n)⟩
      have hmi : (n : Int) - 1 - (t : Int) = (m : Int) := by have := HM.out; omega
      have hmn : (m : Int) < (n : Int) := by have := HM.out; omega
      have hm0 : (0 : Int) ≤ (m : Int) := by omega
      obtain ⟨b, o, rfl, hl, c0, c1, c2, c3, hs, hs'⟩ := HR.out.2 t hlt
      have hlw := hbel.size
      have hl2 : b < wr.heap.size := Nat.lt_of_lt_of_le hl hlw
      rw [← hbel.cell (p := ⟨_, _, none⟩) hl] at c0 c1 c2 c3
      have q0 : (0 : Int) ≤ (t : Int) := by omega
      have q1 : (t : Int) < (n : Int) := by omega
      obtain ⟨A', cap', e, _, hc⟩ := own_shape hown
      cases e
      obtain ⟨g0, e0, _, hg, d0, f0⟩ := hc (m * 4) (by omega)
      obtain ⟨g1, e1, _, _, d1, f1⟩ := hc (m * 4 + 1) (by omega)
      obtain ⟨g2, e2, _, _, d2, f2⟩ := hc (m * 4 + 2) (by omega)
      obtain ⟨g3, e3, _, _, d3, f3⟩ := hc (m * 4 + 3) (by omega)
      cases e0
      cases e1
      cases e2
      cases e3
      clear hc
      have hl4 := hown.1
      obtain ⟨x0, y0⟩ : ∃ x, ys[m * 4]? = some x := ⟨_, List.getElem?_eq_getElem (by omega)⟩
      obtain ⟨x1, y1⟩ : ∃ x, ys[m * 4 + 1]? = some x := ⟨_, List.getElem?_eq_getElem (by omega)⟩
      obtain ⟨x2, y2⟩ : ∃ x, ys[m * 4 + 2]? = some x := ⟨_, List.getElem?_eq_getElem (by omega)⟩
      obtain ⟨x3, y3⟩ : ∃ x, ys[m * 4 + 3]? = some x := ⟨_, List.getElem?_eq_getElem (by omega)⟩
      rw [y0] at d0
      rw [y1] at d1
      rw [y2] at d2
      rw [y3] at d3
      clear y0 y1 y2 y3 hl4
      have HO : Hid (∀ U, Below wr.heap.size wr U → ∃ zs, ((((U.setCell ⟨w.heap.size, m * 4, none⟩ (.int .i64 (D t).c)).setCell ⟨w.heap.size, m * 4 + 1, none⟩ (.int .i64 (D t).r)).setCell ⟨w.heap.size, m * 4 + 2, none⟩ (.string (D t).t)).setCell ⟨w.heap.size, m * 4 + 3, none⟩ (.string (D t).f)).ownsRow w.heap.size 37 4 (.slice (some ⟨w.heap.size, 0, none⟩) n n) n zs ∧
        (∀ j, ((n - t) * 4 ≤ j ∧ j < n * 4) ∨ (m * 4 ≤ j ∧ j < (m + 1) * 4) → zs[j]? = (chX (revCh n D) n)[j]?) ∧ U.grownBy ((((U.setCell ⟨w.heap.size, m * 4, none⟩ (.int .i64 (D t).c)).setCell ⟨w.heap.size, m * 4 + 1, none⟩ (.int .i64 (D t).r)).setCell ⟨w.heap.size, m * 4 + 2, none⟩ (.string (D t).t)).setCell ⟨w.heap.size, m * 4 + 3, none⟩ (.string (D t).f)) (some w.heap.size)) := fun U hU => own_four ⟨(D t).c, (D t).r, (D t).t, (D t).f⟩ (revCh_at D HM.out) (own_below hown hU) (by omega) hys
      have HB : Hid (Below w.heap.size w wr) := hbel
      clear hown hys hbel
      go_wp2_with fail
      all_goals
        go_roundw
        case rel =>
          obtain ⟨zs, z1, z2, z3⟩ := HO.out wr (Below.refl _ _)
          have hB := HB.out.grown z3 HB.out.size (fun k hk => by cases hk; exact Nat.le_refl _)
          exact ⟨t + 1, by omega, by simp, ⟨zs, z1.alloc _, fun j hj => z2 j (by have := HM.out; omega)⟩, hB.alloc hB.size _⟩
        case measure => simp [intOf]; omega
    · have q1 : ¬ (t : Int) < (n : Int) := by omega
      obtain rfl : t = n := by omega
      go_wp2_with fail
      go_ret
      exact ⟨_, rfl, by rw [ch_rows_eq hown.1 (fun j hj => hys j (by omega))] at hown; exact hown, hbel⟩
end Go.Proofs.Ytaijbonllaeilaa
