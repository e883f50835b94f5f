import Derived.Test.YtanjlpgdmnapdaaSpC
import Derived.Test.YtanjlpgdmnapdaaFiC
namespace Go.Proofs.Ytanjlpgdmnapdaa
open Go.RowKit Go.Maps
set_option linter.unusedSimpArgs false
set_option linter.unusedVariables false

set_option maxRecDepth 100000 in
set_option maxHeartbeats 2000000 in
theorem spec_l13Same {A A' : Option Addr} {n n' cap cap' : Nat} {L L' : List FI} (w : World) (h : FiRow w A L) (h' : FiRow w A' L') (hL : L.length = n) (hL' : L'.length = n') :
    Calls Try.prog 49 #[.slice A n cap, .slice A' n' cap'] w fun e w' => e = .returned (.bool (sameB L L')) ∧ Below w.heap.size w w' := by
  have HR : Hid (FiRow w A L) := h
  have HR' : Hid (FiRow w A' L') := h'
  have HL : Hid (L.length = n) := hL
  have HL' : Hid (L'.length = n') := hL'
  have hn := h.1
  have hn' := h'.1
  rw [hL] at hn
  rw [hL'] at hn'
  unfold maxLen at hn hn'
  clear h h' hL hL'
  by_cases hne : n = n'
  · subst hne
    go_enter Try.func49, Try.ntmps49
    go_wp2_with fail
    go_loopw [5] (fun i wr => ∃ t : Nat, t ≤ n ∧ i = .int .i64 t ∧ (∀ j x y, j < t → L[j]? = some x → L'[j]? = some y → x = y) ∧ Below w.heap.size w wr) (fun i _ => n - (intOf i).toNat)
    case atStart => exact ⟨0, Nat.zero_le _, rfl, fun j x y hj => by omega, Below.refl _ _⟩
    case round =>
      obtain ⟨t, ht, rfl, hall, hbel⟩ := hrel
      have HA : Hid (∀ j x y, j < t → L[j]? = some x → L'[j]? = some y → x = y) := hall
      clear hall
      by_cases hlt : t < n
      · obtain ⟨x, hx⟩ := at_lt HL.out hlt
        obtain ⟨y, hy⟩ := at_lt HL'.out hlt
        have HX : Hid (L[t]? = some x) := hx
        have HY : Hid (L'[t]? = some y) := hy
        obtain ⟨b, o, rfl, hl, hc⟩ := HR.out.2 t x hx
        have c0 : w.cell? ⟨b, o + t * 2, none⟩ = some (.string x.n) := hc 0 _ rfl
        have c1 : w.cell? ⟨b, o + t * 2 + 1, none⟩ = some (.string x.d) := hc 1 _ rfl
        obtain ⟨b', o', rfl, hl', hc'⟩ := HR'.out.2 t y hy
        have d0 : w.cell? ⟨b', o' + t * 2, none⟩ = some (.string y.n) := hc' 0 _ rfl
        have d1 : w.cell? ⟨b', o' + t * 2 + 1, none⟩ = some (.string y.d) := hc' 1 _ rfl
        clear hc hc' hx hy
        rw [← hbel.cell (p := ⟨_, _, none⟩) hl] at c0 c1
        rw [← hbel.cell (p := ⟨_, _, none⟩) hl'] at d0 d1
        have q0 : (0 : Int) ≤ (t : Int) := by omega
        have q1 : (t : Int) < (n : Int) := by omega
        cases e1 : (x.n.toList == y.n.toList) <;> cases e2 : (x.d.toList == y.d.toList)
        all_goals
          go_wp2_with fail
          go_quiet (fail)
          go_wp2_with fail
        · go_ret
          exact ⟨ret_bool (sameB_no HX.out HY.out (by rw [fiEq, e1, e2]; rfl)).symm, below_drewN hbel _⟩
        · go_ret
          exact ⟨ret_bool (sameB_no HX.out HY.out (by rw [fiEq, e1, e2]; rfl)).symm, below_drewN hbel _⟩
        · go_ret
          exact ⟨ret_bool (sameB_no HX.out HY.out (by rw [fiEq, e1, e2]; rfl)).symm, below_drewN hbel _⟩
        · go_roundw
          case rel => exact ⟨t + 1, by omega, by go_num, fun j u v hj hu hv => by
            by_cases e : j = t
            · subst e; rw [HX.out] at hu; rw [HY.out] at hv; cases hu; cases hv; exact fiEq_iff.1 (by rw [fiEq, e1, e2]; rfl)
            · exact HA.out j u v (by omega) hu hv, below_drewN hbel _⟩
          case measure => simp [intOf]; omega
      · have h1 : ¬ (t : Int) < (n : Int) := by omega
        obtain rfl : t = n := by omega
        go_wp2_with fail
        go_ret
        exact ⟨ret_bool (sameB_yes (HL.out.trans HL'.out.symm) (fun i x y hx hy => HA.out i x y (by have := (List.getElem?_eq_some_iff.1 hx).1; have := HL.out; omega) hx hy)).symm, hbel⟩
  · have hne2 : ¬ (n : Int) = (n' : Int) := by omega
    have hne3 : ((n : Int) == (n' : Int)) = false := by simpa using hne2
    go_enter Try.func49, Try.ntmps49
    go_wp2_with fail
    go_ret
    exact ⟨ret_bool (sameB_len (by rw [HL.out, HL'.out]; exact hne)).symm, by go_grown⟩

set_option maxRecDepth 100000 in
set_option maxHeartbeats 4000000 in
theorem spec_l13Form (x : DP) (w : World) (hx : dpOk x) :
    Calls Try.prog 48 #[.agg #[.int .i64 x.k, .string x.n, .string x.t, .string x.d]] w fun e w' => e = .returned (.bool (formB x)) ∧ Below w.heap.size w w' := by
  obtain ⟨k, n, t, d⟩ := x
  have HN : Hid (n.size ≤ maxLen) := hx.1
  have HT : Hid (t.size ≤ maxLen) := hx.2.1
  show Calls Try.prog 48 #[.agg #[.int .i64 k, .string n, .string t, .string d]] w _
  clear hx
  obtain ⟨bn, HBN⟩ : ∃ bn, Hid (nameB n = bn) := ⟨_, rfl⟩
  obtain ⟨bt, HBT⟩ : ∃ bt, Hid (nameB t = bt) := ⟨_, rfl⟩
  obtain ⟨et, HET⟩ : ∃ et, Hid (noB t = et) := ⟨_, rfl⟩
  obtain ⟨ed, HED⟩ : ∃ ed, Hid (noB d = ed) := ⟨_, rfl⟩
  have e1 : t.toList.isEmpty = et := HET.out
  have e2 : d.toList.isEmpty = ed := HED.out
  by_cases hk : 1 ≤ k ∧ k ≤ 3
  · obtain ⟨hk1, hk2⟩ := hk
    have HIN : Hid ((decide (1 ≤ k) && decide (k ≤ 3)) = true) := by show _ = _; simp [hk1, hk2]
    by_cases h2 : k = 2
    · subst h2
      have HF : Hid (formB ⟨2, n, t, d⟩ = (bn && (bt && ed))) := by show _ = _; rw [← HBN.out, ← HBT.out, ← HED.out]; rfl
      rw [HF.out]
      cases bn <;> cases bt
      all_goals
        go_enter Try.func48, Try.ntmps48
        go_wp2_with (first
          | (go_at_call 74; refine (spec_l1In _ _ _ _).mono ?_; rintro e w1 ⟨rfl, rfl⟩; rw [HIN.out])
          | (go_at_call_of 83 (Value.string n); refine (spec_l13Name n _ HN.out).mono ?_; rintro e w1 ⟨rfl, rfl⟩; rw [HBN.out])
          | (go_at_call 83; refine (spec_l13Name t _ HT.out).mono ?_; rintro e w1 ⟨rfl, rfl⟩; rw [HBT.out]))
        go_ret
        exact ⟨rfl, by go_grown⟩
    by_cases h1 : k = 1
    · subst h1
      have HF : Hid (formB ⟨1, n, t, d⟩ = (bn && et)) := by show _ = _; rw [← HBN.out, ← HET.out]; rfl
      rw [HF.out]
      cases bn <;> cases et
      all_goals
        go_enter Try.func48, Try.ntmps48
        go_wp2_with (first
          | (go_at_call 74; refine (spec_l1In _ _ _ _).mono ?_; rintro e w1 ⟨rfl, rfl⟩; rw [HIN.out])
          | (go_at_call 83; refine (spec_l13Name n _ HN.out).mono ?_; rintro e w1 ⟨rfl, rfl⟩; rw [HBN.out]))
        go_ret
        exact ⟨rfl, by go_grown⟩
    · obtain rfl : k = 3 := by omega
      have HF : Hid (formB ⟨3, n, t, d⟩ = (bn && (et && ed))) := by show _ = _; rw [← HBN.out, ← HET.out, ← HED.out]; rfl
      rw [HF.out]
      cases bn <;> cases et
      all_goals
        go_enter Try.func48, Try.ntmps48
        go_wp2_with (first
          | (go_at_call 74; refine (spec_l1In _ _ _ _).mono ?_; rintro e w1 ⟨rfl, rfl⟩; rw [HIN.out])
          | (go_at_call 83; refine (spec_l13Name n _ HN.out).mono ?_; rintro e w1 ⟨rfl, rfl⟩; rw [HBN.out]))
        go_ret
        exact ⟨rfl, by go_grown⟩
  · have HIN : Hid ((decide (1 ≤ k) && decide (k ≤ 3)) = false) := by
      show _ = _
      by_cases a1 : 1 ≤ k
      · rw [decide_eq_false (p := k ≤ 3) (by omega)]; simp
      · rw [decide_eq_false a1]; rfl
    have HF : Hid (formB ⟨k, n, t, d⟩ = false) := by
      show _ = _
      simp only [formB, show ¬ k = 1 by omega, show ¬ k = 2 by omega, show ¬ k = 3 by omega, if_false]
    rw [HF.out]
    clear hk
    go_enter Try.func48, Try.ntmps48
    go_wp2_with (first
      | (go_at_call 74; refine (spec_l1In _ _ _ _).mono ?_; rintro e w1 ⟨rfl, rfl⟩; rw [HIN.out]))
    go_ret
    exact ⟨rfl, by go_grown⟩
end Go.Proofs.Ytanjlpgdmnapdaa
