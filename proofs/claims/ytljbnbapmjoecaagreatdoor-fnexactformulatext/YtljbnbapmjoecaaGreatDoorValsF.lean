import Derived.Test.YtljbnbapmjoecaaGreatDoorValsE
namespace Go.Proofs.YtljbnbapmjoecaaGreatDoor
open Go.RowKit

set_option maxHeartbeats 400000 in
theorem spec_l1In (n l h : Int) (w : World) : Calls Tryz.prog 47 #[.int .i64 n, .int .i64 l, .int .i64 h] w fun e w' =>
    e = .returned (.bool (decide (l ≤ n ∧ n ≤ h))) ∧ w' = w := by
  go_enter Tryz.func47, Tryz.ntmps47
  go_wp2
  all_goals
    go_ret
    refine ⟨ret_bool ?_, rfl⟩
    rw [Bool.eq_iff_iff]
    simp
    try omega

set_option maxHeartbeats 400000 in
theorem spec_l2Plain (s : ByteArray) (w : World) (hs : s.size ≤ maxLen) : Calls Tryz.prog 54 #[.string s] w fun e w' =>
    e = .returned (.bool (rWord s)) ∧ w' = w := by
  unfold maxLen at hs
  go_enter Tryz.func54, Tryz.ntmps54
  go_wp2_with fail
  go_loop [3] (fun v => ∃ k : Nat, k ≤ s.size ∧ v = .int .i64 k ∧ plainB (s.data.toList.take k) = true) (fun v => s.size - (intOf v).toNat)
  case atStart => exact ⟨0, by omega, rfl, rfl⟩
  case round =>
    obtain ⟨k, hk, rfl, hr⟩ := hrel
    have HR : Hid (plainB (s.data.toList.take k) = true) := hr
    clear hr
    by_cases hlt : k < s.size
    · have HT : Hid (plainB (s.data.toList.take (k + 1)) = (plainB (s.data.toList.take k) && decide (32 ≤ s[k].toNat ∧ s[k].toNat ≤ 126))) := plain_take s k hlt
      by_cases hb : 32 ≤ s[k].toNat ∧ s[k].toNat ≤ 126
      · have hb1 : ¬ ((s[k].toNat : Int) < 32) := by omega
        have hb2 : ¬ (126 < (s[k].toNat : Int)) := by omega
        go_wp2
        all_goals
          go_round
          case rel => exact ⟨k + 1, by omega, by go_num, by rw [HT.out, HR.out]; simp; omega⟩
          case measure => simp [intOf]; omega
      · have HF : Hid (rWord s = false) := by show rWord s = false; unfold rWord; rw [plain_no s k hlt hb]; simp
        by_cases hb1 : (s[k].toNat : Int) < 32
        · go_wp2
          go_ret
          exact ⟨ret_bool HF.out.symm, rfl⟩
        · have hb2 : 126 < (s[k].toNat : Int) := by omega
          go_wp2
          go_ret
          exact ⟨ret_bool HF.out.symm, rfl⟩
    · have HA := HR.out
      rw [List.take_of_length_le (by simp; omega)] at HA
      have HF : Hid (rWord s = decide (s.size ≤ 200)) := by show rWord s = _; unfold rWord; rw [HA]; simp
      clear HA
      go_wp2
      go_ret
      exact ⟨ret_bool (by rw [HF.out]; rw [Bool.eq_iff_iff]; simp; try omega), rfl⟩

set_option maxHeartbeats 1000000 in
theorem spec_ValueOk (k n : Int) (s : ByteArray) (w : World) (hs : s.size ≤ maxLen) : Calls Tryz.prog 102 #[.agg #[.int .i64 k, .int .i64 n, .string s]] w fun e w' =>
    e = .returned (.bool (okV k n s)) ∧ Below w.heap.size w w' := by
  by_cases h0 : k = 0
  · subst h0
    go_enter Tryz.func102, Tryz.ntmps102
    go_wp2_with (first
      | (go_at_call 47; refine (spec_l1In _ _ _ _).mono ?_; rintro e w1 ⟨rfl, rfl⟩)
      | (go_at_call 54; refine (spec_l2Plain _ _ hs).mono ?_; rintro e w1 ⟨rfl, rfl⟩))
    all_goals
      go_ret
      refine ⟨ret_bool ?_, by go_grown⟩
      rw [Bool.eq_iff_iff]
      simp_all [okV, emp]
      try omega
  by_cases h1 : k = 1
  · subst h1
    go_enter Tryz.func102, Tryz.ntmps102
    go_wp2_with (first
      | (go_at_call 47; refine (spec_l1In _ _ _ _).mono ?_; rintro e w1 ⟨rfl, rfl⟩)
      | (go_at_call 54; refine (spec_l2Plain _ _ hs).mono ?_; rintro e w1 ⟨rfl, rfl⟩))
    all_goals
      go_ret
      refine ⟨ret_bool ?_, by go_grown⟩
      rw [Bool.eq_iff_iff]
      simp_all [okV, emp, rNum]
      try omega
  by_cases h2 : k = 2
  · subst h2
    go_enter Tryz.func102, Tryz.ntmps102
    go_wp2_with (first
      | (go_at_call 47; refine (spec_l1In _ _ _ _).mono ?_; rintro e w1 ⟨rfl, rfl⟩)
      | (go_at_call 54; refine (spec_l2Plain _ _ hs).mono ?_; rintro e w1 ⟨rfl, rfl⟩))
    all_goals
      go_ret
      refine ⟨ret_bool ?_, by go_grown⟩
      rw [Bool.eq_iff_iff]
      simp_all [okV]
      try omega
  by_cases h3 : k = 3
  · subst h3
    go_enter Tryz.func102, Tryz.ntmps102
    go_wp2_with (first
      | (go_at_call 47; refine (spec_l1In _ _ _ _).mono ?_; rintro e w1 ⟨rfl, rfl⟩)
      | (go_at_call 54; refine (spec_l2Plain _ _ hs).mono ?_; rintro e w1 ⟨rfl, rfl⟩))
    all_goals
      go_ret
      refine ⟨ret_bool ?_, by go_grown⟩
      rw [Bool.eq_iff_iff]
      simp_all [okV, emp, rTruth]
      try omega
  by_cases h4 : k = 4
  · subst h4
    go_enter Tryz.func102, Tryz.ntmps102
    go_wp2_with (first
      | (go_at_call 47; refine (spec_l1In _ _ _ _).mono ?_; rintro e w1 ⟨rfl, rfl⟩)
      | (go_at_call 54; refine (spec_l2Plain _ _ hs).mono ?_; rintro e w1 ⟨rfl, rfl⟩))
    all_goals
      go_ret
      refine ⟨ret_bool ?_, by go_grown⟩
      rw [Bool.eq_iff_iff]
      simp_all [okV, emp, rFail]
      try omega
  · have e0 : (k == 0) = false := by simpa using h0
    have e1 : (k == 1) = false := by simpa using h1
    have e2 : (k == 2) = false := by simpa using h2
    have e3 : (k == 3) = false := by simpa using h3
    have e4 : (k == 4) = false := by simpa using h4
    go_enter Tryz.func102, Tryz.ntmps102
    go_wp2_with (first
      | (go_at_call 47; refine (spec_l1In _ _ _ _).mono ?_; rintro e w1 ⟨rfl, rfl⟩)
      | (go_at_call 54; refine (spec_l2Plain _ _ hs).mono ?_; rintro e w1 ⟨rfl, rfl⟩))
    all_goals
      go_ret
      refine ⟨ret_bool ?_, by go_grown⟩
      rw [Bool.eq_iff_iff]
      simp_all [okV]
      try omega

def bK (e : Int) : Int := if e = 0 then 0 else 4
def intK (x : Int) : Int := if rNum x then 1 else 4
def intN (x : Int) : Int := if rNum x then x else 4

set_option maxHeartbeats 400000 in
theorem spec_l2Error (n : Int) (w : World) : Calls Tryz.prog 154 #[.int .i64 n] w fun e w' =>
    e = .returned (.agg #[.int .i64 4, .int .i64 n, .string ⟨#[]⟩]) ∧ Below w.heap.size w w' := by
  go_enter Tryz.func154, Tryz.ntmps154
  go_wp2
  go_returns
  exact ⟨rfl, by go_grown⟩

end Go.Proofs.YtljbnbapmjoecaaGreatDoor
