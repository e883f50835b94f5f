import Derived.Test.YtljbnbapmjoecaaGreatDoorFnJ
namespace Go.Proofs.YtljbnbapmjoecaaGreatDoor
open Go.RowKit
set_option linter.unusedSimpArgs false
set_option linter.unusedVariables false

/-- A kid that is one: ahead of its node, no area but in a call. -/
def KidOk (F : Nat → FN) (i : Nat) (x : Int) : Prop := (0 ≤ x ∧ x < (i : Int)) ∧ ¬ ((F x.toNat).k = 3 ∧ ¬ (F i).k = 6)

set_option maxRecDepth 100000 in
set_option maxHeartbeats 8000000 in
theorem spec_FormulaOk {A : Option Addr} {n cap : Nat} {F : Nat → FN} (w : World) (h : FnRow w A n F) (hn : n ≤ 1048576) (hkn : ∀ i, i < n → (F i).kids.length ≤ 1048576) :
    Calls Tryz.prog 16 #[.slice A n cap] w fun e w' => e = .returned (.bool (fOkB F n)) ∧ Below w.heap.size w w' := by
  have HR : Hid (FnRow w A n F) := h
  have HKN : Hid (∀ i, i < n → (F i).kids.length ≤ 1048576) := hkn
  clear h hkn
  by_cases hz : n < 1
  · have HE : Hid (fOkB F n = false) := fOk_size (Or.inl hz)
    have hz' : (n : Int) < 1 := by omega
    go_enter Tryz.func16, Tryz.ntmps16
    go_wp2_with fail
    go_ret
    exact ⟨ret_bool HE.out.symm, by go_grown⟩
  have hz' : ¬ (n : Int) < 1 := by omega
  by_cases hb : 60 < n
  · have HE : Hid (fOkB F n = false) := fOk_size (Or.inr hb)
    have hb' : (60 : Int) < (n : Int) := by omega
    go_enter Tryz.func16, Tryz.ntmps16
    go_wp2_with fail
    go_ret
    exact ⟨ret_bool HE.out.symm, by go_grown⟩
  have hb' : ¬ (60 : Int) < (n : Int) := by omega
  go_enter Tryz.func16, Tryz.ntmps16
  go_wp2_with fail
  go_loopw [3, 4, 5] (fun i _v4 _v5 wr => ∃ k : Nat, k ≤ n ∧ i = .int .i64 k ∧ (∀ i, i < k → nodeX (F i) = true ∧ ∀ x ∈ (F i).kids, KidOk F i x) ∧ Below w.heap.size w wr) (fun i _ _ _ => n - (intOf i).toNat)
  case atStart => exact ⟨0, Nat.zero_le _, rfl, fun i hi => by omega, Below.refl _ _⟩
  case round =>
    obtain ⟨k, hk, rfl, hal, hbel⟩ := hrel
    have HAL : Hid (∀ i, i < k → nodeX (F i) = true ∧ ∀ x ∈ (F i).kids, KidOk F i x) := hal
    have HB : Hid (Below w.heap.size w wr) := hbel
    have HBS : Hid (w.heap.size ≤ wr.heap.size) := hbel.size
    clear hal
    by_cases hlt : k < n
    · obtain ⟨b, o, KA, kc, rfl, hl, hnd, hki, hs⟩ := HR.out.2 k hlt
      obtain ⟨c0, c1, c2, c3, c4, c5, c6, c7, c8, c9, c10, c11, c12, c13⟩ := hnd.below hl (W' := wr) hbel
      have HND : Hid (NodeAt w b (o + k * 14) (F k) KA kc) := hnd
      obtain ⟨ks, HKS⟩ : ∃ ks, Hid ((F k).kids = ks) := ⟨_, rfl⟩
      have HKI : Hid (IntRow w KA ks) := by rw [← HKS.out]; exact hki
      obtain ⟨kl, HKL⟩ : ∃ kl, Hid (ks.length = kl) := ⟨_, rfl⟩
      have hkl : kl ≤ 1048576 := by have := HKN.out k hlt; rw [HKS.out, HKL.out] at this; exact this
      clear hnd hki hbel
      have h0 : (0 : Int) ≤ (k : Int) := by omega
      have h1 : (k : Int) < (n : Int) := by omega
      go_wp2_with fail
      refine (spec_node (F k) _ hs).mono ?_
      rintro e w2 ⟨rfl, hb2⟩
      have HB2 : Hid (Below w.heap.size w w2) := bchain HB.out hb2
      clear hb2 c0 c1 c2 c3 c4 c5 c6 c7 c8 c9 c10 c11 c12 c13
      cases hx : nodeX (F k)
      · have HE : Hid (fOkB F n = false) := fOk_node hlt hx
        clear hx
        go_wp2_with fail
        go_ret
        exact ⟨ret_bool HE.out.symm, HB2.out⟩
      have HX : Hid (nodeX (F k) = true) := hx
      clear hx
      go_wp2_with fail
      go_loopw [4, 5] (fun j _v5 wi => ∃ t : Nat, t ≤ kl ∧ j = .int .i64 t ∧ (∀ s, s < t → KidOk F k (ks.getD s 0)) ∧ Below w.heap.size w wi) (fun j _ _ => kl - (intOf j).toNat)
      case atStart => exact ⟨0, Nat.zero_le _, rfl, fun s hs => by omega, HB2.out⟩
      case round =>
        clear HB HBS HB2
        obtain ⟨t, ht, rfl, hsm, hbi⟩ := hrel
        have HSM : Hid (∀ s, s < t → KidOk F k (ks.getD s 0)) := hsm
        have HBI : Hid (Below w.heap.size w wr) := hbi
        clear hsm
        obtain ⟨c0, c1, c2, c3, c4, c5, c6, c7, c8, c9, c10, c11, c12, c13⟩ := HND.out.below hl (W' := wr) hbi
        rw [HKS.out, HKL.out] at c13
        have lb : b < wr.heap.size := Nat.lt_of_lt_of_le hl hbi.size
        clear c1 c2 c3 c4 c5 c6 c7 c8 c9 c10 c11 c12
        by_cases hlt' : t < kl
        · have hs' : t < ks.length := by rw [HKL.out]; exact hlt'
          obtain ⟨b', o', rfl, hl', e1⟩ := HKI.out.2 t hs'
          rw [← hbi.cell (p := ⟨_, _, none⟩) hl'] at e1
          have HMEM : Hid (ks.getD t 0 ∈ (F k).kids) := by show _ ∈ _; rw [HKS.out, List.getD_eq_getElem?_getD, List.getElem?_eq_getElem hs']; exact List.getElem_mem hs'
          obtain ⟨z, HZ⟩ : ∃ z, Hid (ks.getD t 0 = z) := ⟨_, rfl⟩
          rw [HZ.out] at e1
          have s0 : (0 : Int) ≤ (t : Int) := by omega
          have s1 : (t : Int) < (kl : Int) := by omega
          by_cases hr : 0 ≤ z ∧ z ≤ (k : Int) - 1
          rotate_left
          · have HD : Hid (decide (0 ≤ z ∧ z ≤ (k : Int) - 1) = false) := decide_eq_false hr
            have HE : Hid (fOkB F n = false) := by
              refine fOk_kids ?_
              cases hq : kidsB (fun j => (F j).kids) n
              · rfl
              · have h9 := kidsB_range hq k hlt z (by show _ ∈ (F k).kids; rw [← HZ.out]; exact HMEM.out)
                exact absurd (by omega) hr
            clear hbi hr
            go_wp2_with (go_at_call 47; refine (spec_l1In _ _ _ _).mono ?_; rintro e w3 ⟨rfl, hw⟩; subst hw; rw [HD.out])
            all_goals
              go_ret
              exact ⟨ret_bool HE.out.symm, HBI.out⟩
          have HD : Hid (decide (0 ≤ z ∧ z ≤ (k : Int) - 1) = true) := decide_eq_true hr
          obtain ⟨a, rfl⟩ : ∃ a : Nat, z = (a : Int) := ⟨z.toNat, by omega⟩
          have hai : (a : Int) < (k : Int) := by omega
          obtain ⟨b'', o'', KB, kb, eA, hl'', ck, ck0, _⟩ := kids_at HR.out a (by omega)
          cases eA
          rw [← hbi.cell (p := ⟨_, _, none⟩) hl''] at ck0
          clear ck hbi hr
          have a0 : (0 : Int) ≤ (a : Int) := by omega
          have a1 : (a : Int) < (n : Int) := by omega
          by_cases h3 : (F a).k = 3
          · have e3 : ((F a).k == 3) = true := by simpa using h3
            by_cases h6 : (F k).k = 6
            · have e6 : ((F k).k != 6) = false := by simpa using h6
              have HSM' : Hid (∀ s, s < t + 1 → KidOk F k (ks.getD s 0)) := fun s hs1 => by
                by_cases e : s = t
                · subst e; rw [HZ.out]; exact ⟨⟨by omega, hai⟩, fun h => h.2 h6⟩
                · exact HSM.out s (by omega)
              clear h3 h6
              go_wp2_with (go_at_call 47; refine (spec_l1In _ _ _ _).mono ?_; rintro e w3 ⟨rfl, hw⟩; subst hw; rw [HD.out])
              all_goals
                go_roundw
                case rel => exact ⟨t + 1, by omega, by go_num, HSM'.out, HBI.out⟩
                case measure => simp [intOf]; omega
            · have e6 : ((F k).k != 6) = true := by simpa using h6
              have HE : Hid (fOkB F n = false) := fOk_ars (arsB_no hlt HMEM.out (by rw [HZ.out]; simpa using h3) h6)
              clear h3 h6
              go_wp2_with (go_at_call 47; refine (spec_l1In _ _ _ _).mono ?_; rintro e w3 ⟨rfl, hw⟩; subst hw; rw [HD.out])
              all_goals
                go_ret
                exact ⟨ret_bool HE.out.symm, HBI.out⟩
          · have e3 : ((F a).k == 3) = false := by simpa using h3
            have HSM' : Hid (∀ s, s < t + 1 → KidOk F k (ks.getD s 0)) := fun s hs1 => by
              by_cases e : s = t
              · subst e; rw [HZ.out]; exact ⟨⟨by omega, hai⟩, fun h => h3 (by simpa using h.1)⟩
              · exact HSM.out s (by omega)
            clear h3
            go_wp2_with (go_at_call 47; refine (spec_l1In _ _ _ _).mono ?_; rintro e w3 ⟨rfl, hw⟩; subst hw; rw [HD.out])
            all_goals
              go_roundw
              case rel => exact ⟨t + 1, by omega, by go_num, HSM'.out, HBI.out⟩
              case measure => simp [intOf]; omega
        · have s1 : ¬ (t : Int) < (kl : Int) := by omega
          obtain rfl : t = kl := by omega
          have HAL' : Hid (∀ i, i < k + 1 → nodeX (F i) = true ∧ ∀ x ∈ (F i).kids, KidOk F i x) := fun i hi => by
            by_cases e : i = k
            · subst e
              refine ⟨HX.out, fun x hx => ?_⟩
              rw [HKS.out] at hx
              obtain ⟨s, hs1, hs2⟩ := List.getElem_of_mem hx
              have h9 := HSM.out s (by rw [← HKL.out]; exact hs1)
              rw [List.getD_eq_getElem?_getD, List.getElem?_eq_getElem hs1] at h9
              rw [← hs2]
              exact h9
            · exact HAL.out i (by omega)
          clear hbi
          go_wp2_with fail
          go_roundw
          case rel => exact ⟨k + 1, by omega, by go_num, HAL'.out, HBI.out⟩
          case measure => simp [intOf]; omega
    · have h1 : ¬ (k : Int) < (n : Int) := by omega
      obtain rfl : k = n := by omega
      obtain ⟨m, hm⟩ : ∃ m, k = m + 1 := ⟨k - 1, by omega⟩
      have HG : Hid (InRange (fun j => (F j).kids) k) := fun j hj x hx => ((HAL.out j hj).2 x hx).1
      have HAR : Hid (arsB F k = true) := arsB_yes fun i hi x hx => ((HAL.out i hi).2 x hx).2
      have HE' : Hid (fOkB F k = (decide (tree (fun j => (F j).kids) m = 0) && !decide ((F m).k = 3) && deepB (fun j => (F j).kids) k)) := by
        show _ = _
        rw [fOk_rest (by omega) (by omega) (all_yes fun i hi => (HAL.out i hi).1), HAR.out, Bool.true_and]
        subst hm
        rw [kidsB_tree]
        rfl
      have HDP : Hid (tree (fun j => (F j).kids) m = 0 → deepB (fun j => (F j).kids) k = decide (deep (fun j => (F j).kids) m ≤ 12)) := fun ht => by
        subst hm
        exact deepB_deep HG.out ht
      obtain ⟨b, o, KA, kc, rfl, hl, ck, ck0, _⟩ := kids_at HR.out m (by omega)
      rw [← hbel.cell (p := ⟨_, _, none⟩) hl] at ck0
      have HRw : Hid (FnRow wr (some ⟨b, o, none⟩) k F) := HR.out.below hbel
      have hkm : (k : Int) - 1 = (m : Int) := by omega
      have m0 : (0 : Int) ≤ (m : Int) := by omega
      have m1 : (m : Int) < (k : Int) := by omega
      have M : Hid (m < k) := (by omega : m < k)
      clear ck hbel hm
      obtain ⟨y, HY⟩ : ∃ y, Hid (tree (fun j => (F j).kids) (m : Int) = y) := ⟨_, rfl⟩
      by_cases hy : y = 0
      rotate_left
      · have ey : (y == 0) = false := by simpa using hy
        have HF : Hid (fOkB F k = false) := by show _ = _; rw [HE'.out, HY.out, decide_eq_false hy]; rfl
        go_wp2_with (go_at_call 48; refine (spec_l3Tree _ HRw (by omega) HKN.out (m + 1) m (by omega) M.out).mono ?_; rintro e w3 ⟨rfl, hw⟩; subst hw; rw [HY.out])
        all_goals
          go_ret
          exact ⟨ret_bool HF.out.symm, HB.out⟩
      subst hy
      by_cases h3 : (F m).k = 3
      · have e3 : ((F m).k != 3) = false := by simpa using h3
        have HF : Hid (fOkB F k = false) := by show _ = _; rw [HE'.out, decide_eq_true h3]; simp
        clear h3
        go_wp2_with (go_at_call 48; refine (spec_l3Tree _ HRw (by omega) HKN.out (m + 1) m (by omega) M.out).mono ?_; rintro e w3 ⟨rfl, hw⟩; subst hw; rw [HY.out])
        all_goals
          go_ret
          exact ⟨ret_bool HF.out.symm, HB.out⟩
      · have e3 : ((F m).k != 3) = true := by simpa using h3
        obtain ⟨d, HD⟩ : ∃ d, Hid (deep (fun j => (F j).kids) (m : Int) = d) := ⟨_, rfl⟩
        have HF : Hid (fOkB F k = decide (d ≤ 12)) := by show _ = _; rw [HE'.out, decide_eq_false h3, HDP.out HY.out, HY.out, HD.out]; simp
        clear h3
        go_wp2_with (first
          | (go_at_call 48; refine (spec_l3Tree _ HRw (by omega) HKN.out (m + 1) m (by omega) M.out).mono ?_; rintro e w3 ⟨rfl, hw⟩; subst hw; rw [HY.out])
          | (go_at_call 49; refine (spec_l3Deep _ HRw (by omega) HKN.out HG (m + 1) m (by omega) M.out).mono ?_; rintro e w3 ⟨rfl, hw⟩; subst hw; rw [HD.out]))
        all_goals
          go_ret
          exact ⟨ret_bool (by rw [HF.out]), HB.out⟩
end Go.Proofs.YtljbnbapmjoecaaGreatDoor
