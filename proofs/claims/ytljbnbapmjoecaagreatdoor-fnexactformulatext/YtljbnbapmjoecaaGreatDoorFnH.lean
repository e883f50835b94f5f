import Derived.Test.YtljbnbapmjoecaaGreatDoorFnF
namespace Go.Proofs.YtljbnbapmjoecaaGreatDoor
open Go.RowKit
set_option linter.unusedSimpArgs false

/-- Areas stand as kids of calls alone. -/
def arsB (F : Nat → FN) (n : Nat) : Bool := (List.range n).all fun i => (F i).kids.all fun k => !(decide ((F k.toNat).k = 3) && !decide ((F i).k = 6))
theorem arsB_no {F : Nat → FN} {n i : Nat} {k : Int} (hi : i < n) (hk : k ∈ (F i).kids) (h3 : (F k.toNat).k = 3) (h6 : ¬ (F i).k = 6) : arsB F n = false := by
  unfold arsB
  rw [List.all_eq_false]
  refine ⟨i, List.mem_range.2 hi, ?_⟩
  rw [Bool.not_eq_true, List.all_eq_false]
  exact ⟨k, hk, by simp [h3, h6]⟩
theorem arsB_yes {F : Nat → FN} {n : Nat} (h : ∀ i, i < n → ∀ k ∈ (F i).kids, ¬ ((F k.toNat).k = 3 ∧ ¬ (F i).k = 6)) : arsB F n = true := by
  unfold arsB
  rw [List.all_eq_true]
  intro i hi
  rw [List.all_eq_true]
  intro k hk
  have := h i (List.mem_range.1 hi) k hk
  by_cases h3 : (F k.toNat).k = 3
  · by_cases h6 : (F i).k = 6
    · simp [h6]
    · exact absurd ⟨h3, h6⟩ this
  · simp [h3]

set_option maxRecDepth 100000 in
set_option maxHeartbeats 8000000 in
theorem impl_areasInCalls {A : Option Addr} {n cap : Nat} {F : Nat → FN} (w : World) (HR : Hid (FnRow w A (n + 1) F)) (hn : n + 1 ≤ 60) (hkn : ∀ i, i < n + 1 → (F i).kids.length ≤ 1048576) (HG : Hid (InRange (fun j => (F j).kids) (n + 1))) :
    Calls Tryz.prog 44 #[.slice A (n + 1 : Nat) cap] w fun e w' => e = .returned (.bool (arsB F (n + 1) && !decide ((F n).k = 3))) ∧ Below w.heap.size w w' := by
  have HKN : Hid (∀ i, i < n + 1 → (F i).kids.length ≤ 1048576) := hkn
  clear hkn
  obtain ⟨N, HN⟩ : ∃ N, Hid (n + 1 = N) := ⟨_, rfl⟩
  rw [HN.out] at HR HG HKN hn ⊢
  go_enter Tryz.func44, Tryz.ntmps44
  go_wp2_with fail
  go_loopw [9] (fun i wr => ∃ (k : Nat), k ≤ N ∧ i = .int .i64 k ∧ (∀ i, i < k → ∀ x ∈ (F i).kids, ¬ ((F x.toNat).k = 3 ∧ ¬ (F i).k = 6)) ∧ Below w.heap.size w wr) (fun i _ => N - (intOf i).toNat)
  case atStart => exact ⟨0, Nat.zero_le _, rfl, fun i hi => by omega, Below.refl _ _⟩
  case round =>
    obtain ⟨k, hk, rfl, hal, hbel⟩ := hrel
    have HAL : Hid (∀ i, i < k → ∀ x ∈ (F i).kids, ¬ ((F x.toNat).k = 3 ∧ ¬ (F i).k = 6)) := hal
    clear hal
    by_cases hlt : k < N
    · obtain ⟨b, o, KA, kc, rfl, hl, hnd, hki, hs⟩ := HR.out.2 k hlt
      obtain ⟨c0, c1, c2, c3, c4, c5, c6, c7, c8, c9, c10, c11, c12, c13⟩ := hnd.below hl (W' := wr) hbel
      have hll : b < wr.heap.size := Nat.lt_of_lt_of_le hl hbel.size
      obtain ⟨ks, HKS⟩ : ∃ ks, Hid ((F k).kids = ks) := ⟨_, rfl⟩
      have hkl := HKN.out k hlt
      rw [HKS.out] at c13 hki hkl
      have HKI : Hid (IntRow w KA ks) := hki
      obtain ⟨kl, HKL⟩ : ∃ kl, Hid (ks.length = kl) := ⟨_, rfl⟩
      rw [HKL.out] at c13 hkl
      have HB : Hid (Below w.heap.size w wr) := hbel
      have HBS : Hid (w.heap.size ≤ wr.heap.size) := hbel.size
      clear hnd hki hbel
      have h0 : (0 : Int) ≤ (k : Int) := by omega
      have h1 : (k : Int) < (N : Int) := by omega
      go_wp2_with fail
      go_loopw [16] (fun j wi => ∃ (t : Nat), t ≤ kl ∧ j = .int .i64 t ∧ (∀ s, s < t → ¬ ((F (ks.getD s 0).toNat).k = 3 ∧ ¬ (F k).k = 6)) ∧ Below w.heap.size w wi ∧ w.heap.size < wi.heap.size ∧ wr.heap.size < wi.heap.size ∧ wi.cell? ⟨wr.heap.size, 0, none⟩ = some (.int .i64 (F k).k)) (fun j _ => kl - (intOf j).toNat)
      case atStart => exact ⟨0, Nat.zero_le _, rfl, fun s hs => by omega, by have hb := HB.out; have hbs := HBS.out; go_grown, by have := HBS.out; simp; omega, by simp, by simp⟩
      case round =>
        clear c0 c1 c2 c3 c4 c5 c6 c7 c8 c9 c10 c11 c12 c13
        obtain ⟨t, ht, rfl, hsm, hbi, hz1, hz2, d0⟩ := hrel
        have HSM : Hid (∀ s, s < t → ¬ ((F (ks.getD s 0).toNat).k = 3 ∧ ¬ (F k).k = 6)) := hsm
        clear hsm
        have hbis := hbi.size
        have HBI : Hid (Below w.heap.size w wr) := hbi
        by_cases hlt' : t < kl
        · have hs : t < ks.length := by rw [HKL.out]; exact hlt'
          obtain ⟨b', o', rfl, hl', e1⟩ := HKI.out.2 t hs
          rw [← hbi.cell (p := ⟨_, _, none⟩) hl'] at e1
          have hmem : ks.getD t 0 ∈ ks := by rw [List.getD_eq_getElem?_getD, List.getElem?_eq_getElem hs]; exact List.getElem_mem hs
          have hr := HG.out k hlt (ks.getD t 0) (by show _ ∈ (F k).kids; rw [HKS.out]; exact hmem)
          obtain ⟨a, HA⟩ : ∃ a : Nat, Hid (ks.getD t 0 = (a : Int)) := ⟨(ks.getD t 0).toNat, by show _ = _; omega⟩
          have hai : (a : Int) < (k : Int) := by rw [HA.out] at hr; exact hr.2
          rw [HA.out] at e1
          clear hr
          obtain ⟨b'', o'', KB, kb, eA, hl'', ck, ck0, _⟩ := kids_at HR.out a (by omega)
          cases eA
          rw [← hbi.cell (p := ⟨_, _, none⟩) hl''] at ck0
          clear ck hbi
          have s0 : (0 : Int) ≤ (t : Int) := by omega
          have s1 : (t : Int) < (kl : Int) := by omega
          have a0 : (0 : Int) ≤ (a : Int) := by omega
          have a1 : (a : Int) < (N : Int) := by omega
          have lb : b < wr.heap.size := Nat.lt_of_lt_of_le hl'' hbis
          by_cases h3 : (F a).k = 3
          · have e3 : ((F a).k == 3) = true := by simpa using h3
            by_cases h6 : (F k).k = 6
            · have e6 : ((F k).k != 6) = false := by simpa using h6
              have HSM' : Hid (∀ s, s < t + 1 → ¬ ((F (ks.getD s 0).toNat).k = 3 ∧ ¬ (F k).k = 6)) := fun s _ h => h.2 h6
              have H6 : Hid ((F k).k = 6) := h6
              have H3 : Hid ((F a).k = 3) := h3
              clear h6 h3
              go_wp2_with fail
              all_goals
                go_roundw
                case rel => exact ⟨t + 1, by omega, by go_num, HSM'.out, HBI.out, hz1, hz2, d0⟩
                case measure => simp [intOf]; omega
            · have e6 : ((F k).k != 6) = true := by simpa using h6
              have HF : Hid (arsB F (n + 1) = false) := arsB_no (by rw [HN.out]; exact hlt) (by rw [HKS.out]; exact hmem) (by rw [HA.out]; simpa using h3) h6
              have H6 : Hid (¬ (F k).k = 6) := h6
              have H3 : Hid ((F a).k = 3) := h3
              clear h6 h3
              go_wp2_with fail
              all_goals
                go_ret
                exact ⟨ret_bool (by rw [HN.out] at HF; rw [HF.out]; rfl), HBI.out⟩
          · have e3 : ((F a).k == 3) = false := by simpa using h3
            have HSM' : Hid (∀ s, s < t + 1 → ¬ ((F (ks.getD s 0).toNat).k = 3 ∧ ¬ (F k).k = 6)) := fun s hs' h => by
              by_cases e : s = t
              · subst e; rw [HA.out] at h; exact h3 (by simpa using h.1)
              · exact HSM.out s (by omega) h
            have H3 : Hid (¬ (F a).k = 3) := h3
            clear h3
            go_wp2_with fail
            all_goals
              go_roundw
              case rel => exact ⟨t + 1, by omega, by go_num, HSM'.out, HBI.out, hz1, hz2, d0⟩
              case measure => simp [intOf]; omega
        · have s1 : ¬ (t : Int) < (kl : Int) := by omega
          obtain rfl : t = kl := by omega
          have HAL' : Hid (∀ i, i < k + 1 → ∀ x ∈ (F i).kids, ¬ ((F x.toNat).k = 3 ∧ ¬ (F i).k = 6)) := fun i hi x hx => by
            by_cases e : i = k
            · subst e
              rw [HKS.out] at hx
              obtain ⟨s, hs1, hs2⟩ := List.getElem_of_mem hx
              have h9 := HSM.out s (by rw [← HKL.out]; exact hs1)
              rw [List.getD_eq_getElem?_getD, List.getElem?_eq_getElem hs1] at h9
              rw [← hs2]
              exact h9
            · exact HAL.out i (by omega) x hx
          clear hbi
          go_wp2_with fail
          go_roundw
          case rel => exact ⟨k + 1, by omega, by go_num, HAL'.out, HBI.out⟩
          case measure => simp [intOf]; omega
    · have h1 : ¬ (k : Int) < (N : Int) := by omega
      obtain rfl : k = N := by omega
      have HY : Hid (arsB F k = true) := arsB_yes HAL.out
      obtain ⟨b, o, KA, kc, rfl, hl, ck, ck0, _⟩ := kids_at HR.out n (by have := HN.out; omega)
      rw [← hbel.cell (p := ⟨_, _, none⟩) hl] at ck0
      have n0 : (0 : Int) ≤ (n : Int) := by omega
      have n1 : (n : Int) < (k : Int) := by have := HN.out; omega
      have n2 : (k : Int) - 1 = (n : Int) := by have := HN.out; omega
      have HE : Hid (((F n).k != 3) = (arsB F k && !decide ((F n).k = 3))) := by show _ = _; rw [HY.out, Bool.eq_iff_iff]; simp
      have HB : Hid (Below w.heap.size w wr) := hbel
      clear hbel ck
      go_wp2_with fail
      go_ret
      exact ⟨ret_bool HE.out, HB.out⟩
end Go.Proofs.YtljbnbapmjoecaaGreatDoor
