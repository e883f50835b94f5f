import Derived.Test.YtanjlpgdmnapdaaDdB
import Derived.Test.YtanjlpgdmnapdaaCwM
import Derived.Test.YtanjlpgdmnapdaaCrsD
namespace Go.Proofs.Ytanjlpgdmnapdaa
open Go.RowKit Go.Maps
set_option linter.unusedSimpArgs false
set_option linter.unusedVariables false

set_option maxRecDepth 100000 in
set_option maxHeartbeats 2000000 in
theorem laws_sameFiles {A A' : Option Addr} {n n' cap cap' : Nat} {L L' : List FI} (w : World) (h : FiRow w A L) (h' : FiRow w A' L') (hL : L.length = n) (hL' : L'.length = n') :
    Calls Try.prog 18 #[.slice A n cap, .slice A' n' cap'] w fun e w' => e = .returned (.bool (sameB L L')) ∧ Below w.heap.size w w' := by
  have HR : Hid (FiRow w A L) := h
  have HR' : Hid (FiRow w A' L') := h'
  have HL : Hid (L.length = n) := hL
  have HL' : Hid (L'.length = n') := hL'
  have hn := h.1
  have hn' := h'.1
  rw [hL] at hn
  rw [hL'] at hn'
  unfold maxLen at hn hn'
  clear h h' hL hL'
  by_cases hne : n = n'
  · subst hne
    go_enter Try.func18, Try.ntmps18
    go_wp2_with fail
    go_loopw [5] (fun i wr => ∃ t : Nat, t ≤ n ∧ i = .int .i64 t ∧ (∀ j x y, j < t → L[j]? = some x → L'[j]? = some y → x = y) ∧ Below w.heap.size w wr) (fun i _ => n - (intOf i).toNat)
    case atStart => exact ⟨0, Nat.zero_le _, rfl, fun j x y hj => by omega, Below.refl _ _⟩
    case round =>
      obtain ⟨t, ht, rfl, hall, hbel⟩ := hrel
      have HA : Hid (∀ j x y, j < t → L[j]? = some x → L'[j]? = some y → x = y) := hall
      clear hall
      by_cases hlt : t < n
      · obtain ⟨x, hx⟩ := at_lt HL.out hlt
        obtain ⟨y, hy⟩ := at_lt HL'.out hlt
        have HX : Hid (L[t]? = some x) := hx
        have HY : Hid (L'[t]? = some y) := hy
        obtain ⟨b, o, rfl, hl, hc⟩ := HR.out.2 t x hx
        have c0 : w.cell? ⟨b, o + t * 2, none⟩ = some (.string x.n) := hc 0 _ rfl
        have c1 : w.cell? ⟨b, o + t * 2 + 1, none⟩ = some (.string x.d) := hc 1 _ rfl
        obtain ⟨b', o', rfl, hl', hc'⟩ := HR'.out.2 t y hy
        have d0 : w.cell? ⟨b', o' + t * 2, none⟩ = some (.string y.n) := hc' 0 _ rfl
        have d1 : w.cell? ⟨b', o' + t * 2 + 1, none⟩ = some (.string y.d) := hc' 1 _ rfl
        clear hc hc' hx hy
        rw [← hbel.cell (p := ⟨_, _, none⟩) hl] at c0 c1
        rw [← hbel.cell (p := ⟨_, _, none⟩) hl'] at d0 d1
        have q0 : (0 : Int) ≤ (t : Int) := by omega
        have q1 : (t : Int) < (n : Int) := by omega
        cases e1 : (x.n.toList == y.n.toList) <;> cases e2 : (x.d.toList == y.d.toList)
        all_goals
          go_wp2_with fail
          go_quiet (fail)
          go_wp2_with fail
        · go_ret
          exact ⟨ret_bool (sameB_no HX.out HY.out (by rw [fiEq, e1, e2]; rfl)).symm, below_drewN hbel _⟩
        · go_ret
          exact ⟨ret_bool (sameB_no HX.out HY.out (by rw [fiEq, e1, e2]; rfl)).symm, below_drewN hbel _⟩
        · go_ret
          exact ⟨ret_bool (sameB_no HX.out HY.out (by rw [fiEq, e1, e2]; rfl)).symm, below_drewN hbel _⟩
        · go_roundw
          case rel => exact ⟨t + 1, by omega, by go_num, fun j u v hj hu hv => by
            by_cases e : j = t
            · subst e; rw [HX.out] at hu; rw [HY.out] at hv; cases hu; cases hv; exact fiEq_iff.1 (by rw [fiEq, e1, e2]; rfl)
            · exact HA.out j u v (by omega) hu hv, below_drewN hbel _⟩
          case measure => simp [intOf]; omega
      · have h1 : ¬ (t : Int) < (n : Int) := by omega
        obtain rfl : t = n := by omega
        go_wp2_with fail
        go_ret
        exact ⟨ret_bool (sameB_yes (HL.out.trans HL'.out.symm) (fun i x y hx hy => HA.out i x y (by have := (List.getElem?_eq_some_iff.1 hx).1; have := HL.out; omega) hx hy)).symm, hbel⟩
  · have hne2 : ¬ (n : Int) = (n' : Int) := by omega
    have hne3 : ((n : Int) == (n' : Int)) = false := by simpa using hne2
    go_enter Try.func18, Try.ntmps18
    go_wp2_with fail
    go_ret
    exact ⟨ret_bool (sameB_len (by rw [HL.out, HL'.out]; exact hne)).symm, by go_grown⟩

theorem DkRowF.mono {w : World} {B B' : Nat} {v : Value} {d : DK} (h : DkRowF w B v d) (hB : B' ≤ B) : DkRowF w B' v d := by
  obtain ⟨A1, c1, A2, c2, A3, c3, e, h1, h2, h3, z1, z2, z3, f1, f2, f3⟩ := h
  exact ⟨A1, c1, A2, c2, A3, c3, e, h1, h2, h3, z1, z2, z3, fun b o e => Nat.le_trans hB (f1 b o e), fun b o e => Nat.le_trans hB (f2 b o e), fun b o e => Nat.le_trans hB (f3 b o e)⟩
set_option maxHeartbeats 2000000 in
theorem draw_diskOk (A : Option Addr) (len cap : Nat) (w : World) (h : Cd w A len) : Calls Try.prog 13 #[.slice A len cap] w fun e w' =>
    ∃ v d, e = .returned v ∧ DkRowF w' (w.heap.size + 1) v d ∧ DkLil d ∧ Below w.heap.size w w' := by
  have HC : Hid (Cd w A len) := h
  clear h
  go_enter Try.func13, Try.ntmps13
  go_wp2_with fail
  refine (spec_l1Open A len cap _).mono ?_
  rintro e w1 ⟨rfl, hw⟩
  obtain ⟨w2, HW2⟩ : ∃ w2, Hid (w.alloc (.cells #[.slice none 0 0, .slice none 0 0, .slice none 0 0] 27) = w2) := ⟨_, rfl⟩
  rw [HW2.out] at hw ⊢
  have hb2 : Below w.heap.size w w2 := by rw [← HW2.out]; exact (Below.refl _ _).alloc (Nat.le_refl _) _
  have s2 : w2.heap.size = w.heap.size + 1 := by rw [← HW2.out]; simp
  have HRD : Hid (Rd w1 w2.heap.size A len cap) := by rw [← hw]; exact HC.out.open hb2 rfl
  have hb1 : Below w2.heap.size w2 w1 := by rw [← hw]; exact (Below.refl _ _).alloc (Nat.le_refl _) _
  have s1 : w1.heap.size = w2.heap.size + 1 := by rw [← hw]; simp
  have p0 : w1.cell? ⟨w.heap.size, 0, none⟩ = some (.slice none 0 0) := cy hb1 (by rw [← HW2.out]; go_simp)
  have p1 : w1.cell? ⟨w.heap.size, 1, none⟩ = some (.slice none 0 0) := cy hb1 (by rw [← HW2.out]; go_simp)
  have p2 : w1.cell? ⟨w.heap.size, 2, none⟩ = some (.slice none 0 0) := cy hb1 (by rw [← HW2.out]; go_simp)
  have pf : ∀ o, w1.frozen? ⟨w.heap.size, o, none⟩ = false := fun o => by
    rw [hb1.frozen (p := ⟨w.heap.size, o, none⟩) (by show w.heap.size < _; omega), ← HW2.out]
    go_simp
  have HBW : Hid (Below w.heap.size w w1) := bchain hb2 hb1
  have HS1 : Hid (w1.heap.size = w.heap.size + 2) := by show _ = _; omega
  have HS2 : Hid (w2.heap.size = w.heap.size + 1) := s2
  clear hw hb1 hb2 s1 s2
  go_wp2_with fail
  refine (rd_diskL _ A len cap _ HRD.out).mono ?_
  rintro e w3 ⟨v, d, rfl, hrow, hl, hr, hu⟩
  have e1 := HS1.out
  have e2 := HS2.out
  replace p0 := (hu.1.1 w.heap.size 0 (by omega) (by omega)).trans p0
  replace p1 := (hu.1.1 w.heap.size 1 (by omega) (by omega)).trans p1
  replace p2 := (hu.1.1 w.heap.size 2 (by omega) (by omega)).trans p2
  replace pf : ∀ o, w3.frozen? ⟨w.heap.size, o, none⟩ = false := fun o => (hu.1.2.1 w.heap.size o (by omega) (by omega)).trans (pf o)
  have HB3 : Hid (Below w.heap.size w w3) := Below.trans HBW.out (hu.1.2.2.2.mono (by omega))
  have HRW : Hid (DkRowF w3 (w1.heap.size + 2) v d) := hrow
  have HLL : Hid (DkLil d) := hl
  obtain ⟨a1, a2, a3, ac1, ac2, ac3, an1, an2, an3, rfl⟩ := hrow.row.agg
  have hl3 : w.heap.size < w3.heap.size := World.block_lt_of_cell? w3 ⟨w.heap.size, 0, none⟩ p0
  clear hrow hl hr hu e1 e2
  go_wp2_with fail
  refine bodyPost_ret (v := .agg #[.slice a1 an1 ac1, .slice a2 an2 ac2, .slice a3 an3 ac3]) ?_ rfl ⟨_, d, rfl, ?_, HLL.out, ?_⟩
  · simp (maxDischargeDepth := 9) [results, Try.results13, go_sem, *]
  · have e1 := HS1.out
    have h9 := ((HRW.out.set (g := w.heap.size) (by omega) 0 (.slice a1 an1 ac1)).set (g := w.heap.size) (by omega) 1 (.slice a2 an2 ac2)).set (g := w.heap.size) (by omega) 2 (.slice a3 an3 ac3)
    exact h9.mono (by omega)
  · exact below_sa3 HB3.out (Nat.le_refl _) _ _ _
end Go.Proofs.Ytanjlpgdmnapdaa
