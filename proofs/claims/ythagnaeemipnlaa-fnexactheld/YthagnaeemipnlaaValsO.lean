import Derived.Test.YthagnaeemipnlaaValsN
import Derived.Test.YthagnaeemipnlaaValsF
namespace Go.Proofs.Ythagnaeemipnlaa
open Go.RowKit

def likeK (k k' : Int) : Int := if k = 0 then k' else k
def holdsB (op o : Int) : Bool := if op = 6 then decide (o = 0) else if op = 7 then decide (¬ o = 0) else if op = 8 then decide (o < 0) else if op = 9 then decide (o ≤ 0) else if op = 10 then decide (0 < o) else decide (0 ≤ o)
def hBad (op k n : Int) (s : ByteArray) (k' n' : Int) (s' : ByteArray) : Bool := !okV k n s || !okV k' n' s' || !decide (6 ≤ op ∧ op ≤ 11)
def heldK (op k n : Int) (s : ByteArray) (k' n' : Int) (s' : ByteArray) : Int := if hBad op k n s k' n' s' then 4 else if k = 4 then 4 else if k' = 4 then 4 else 3
def heldN (op k n : Int) (s : ByteArray) (k' n' : Int) (s' : ByteArray) : Int := if hBad op k n s k' n' s' then 2 else if k = 4 then n else if k' = 4 then n' else if holdsB op (ordV (likeK k k') n s (likeK k' k) n' s') then 1 else 0
theorem ok_blank {k n : Int} {s : ByteArray} (h : okV k n s = true) : k = 0 → n = 0 ∧ s = ⟨#[]⟩ := by
  intro hk
  subst hk
  simp only [okV, if_true, Bool.and_eq_true, decide_eq_true_eq] at h
  exact ⟨h.1, emp_of h.2⟩
theorem ok_err {k n : Int} {s : ByteArray} (h : okV k n s = true) (hk : k = 4) : s = ⟨#[]⟩ := by
  subst hk
  rcases mOf_cases 4 n s with ⟨ho, _⟩ | ⟨_, h4, _⟩ | ⟨_, h4, _⟩ | ⟨_, h4, _⟩ | ⟨_, h4, _⟩ | ⟨_, _, _, hs, _⟩
  · rw [h] at ho; cases ho
  · omega
  · omega
  · omega
  · omega
  · exact hs

set_option maxHeartbeats 400000 in
theorem impl_holds (op x : Int) (w : World) : Calls Try.prog 29 #[.int .i64 op, .int .i64 x] w fun e w' =>
    e = .returned (.bool (holdsB op x)) ∧ w' = w := by
  by_cases h6 : op = 6
  · subst h6
    go_enter Try.func29, Try.ntmps29
    go_wp2
    all_goals
      go_ret
      refine ⟨ret_bool ?_, rfl⟩
      rw [Bool.eq_iff_iff]
      simp [holdsB]
  by_cases h7 : op = 7
  · subst h7
    go_enter Try.func29, Try.ntmps29
    go_wp2
    all_goals
      go_ret
      refine ⟨ret_bool ?_, rfl⟩
      rw [Bool.eq_iff_iff]
      simp [holdsB]
  by_cases h8 : op = 8
  · subst h8
    go_enter Try.func29, Try.ntmps29
    go_wp2
    all_goals
      go_ret
      refine ⟨ret_bool ?_, rfl⟩
      rw [Bool.eq_iff_iff]
      simp [holdsB]
  by_cases h9 : op = 9
  · subst h9
    go_enter Try.func29, Try.ntmps29
    go_wp2
    all_goals
      go_ret
      refine ⟨ret_bool ?_, rfl⟩
      rw [Bool.eq_iff_iff]
      simp [holdsB]
  by_cases h10 : op = 10
  · subst h10
    go_enter Try.func29, Try.ntmps29
    go_wp2
    all_goals
      go_ret
      refine ⟨ret_bool ?_, rfl⟩
      rw [Bool.eq_iff_iff]
      simp [holdsB]
  have e6 : (op == 6) = false := by simpa using h6
  have e7 : (op == 7) = false := by simpa using h7
  have e8 : (op == 8) = false := by simpa using h8
  have e9 : (op == 9) = false := by simpa using h9
  have e10 : (op == 10) = false := by simpa using h10
  go_enter Try.func29, Try.ntmps29
  go_wp2
  all_goals
    go_ret
    refine ⟨ret_bool ?_, rfl⟩
    rw [Bool.eq_iff_iff]
    simp [holdsB, h6, h7, h8, h9, h10]

set_option maxHeartbeats 400000 in
theorem impl_besideOther (k n : Int) (s : ByteArray) (k' n' : Int) (s' : ByteArray) (w : World) (h : k = 0 → n = 0 ∧ s = ⟨#[]⟩) : Calls Try.prog 31 #[.agg #[.int .i64 k, .int .i64 n, .string s], .agg #[.int .i64 k', .int .i64 n', .string s']] w fun e w' =>
    e = .returned (.agg #[.int .i64 (likeK k k'), .int .i64 n, .string s]) ∧ Below w.heap.size w w' := by
  by_cases hk : k = 0
  · obtain ⟨rfl, rfl⟩ := h hk
    subst hk
    clear h
    go_enter Try.func31, Try.ntmps31
    go_wp2
    all_goals
      refine bodyPost_ret (v := .agg #[.int .i64 k', .int .i64 0, .string ⟨#[]⟩]) ?_ rfl ⟨ret_val ?_, by go_grown⟩
      · simp (maxDischargeDepth := 9) [results, Try.results31, go_sem]
      · simp [likeK]
  · have hq : (k == 0) = false := by simpa using hk
    clear h
    go_enter Try.func31, Try.ntmps31
    go_wp2
    all_goals
      refine bodyPost_ret (v := .agg #[.int .i64 k, .int .i64 n, .string s]) ?_ rfl ⟨ret_val ?_, by go_grown⟩
      · simp (maxDischargeDepth := 9) [results, Try.results31, go_sem]
      · simp [likeK, hk]

set_option maxHeartbeats 400000 in
theorem spec_l2Like (k n : Int) (s : ByteArray) (k' n' : Int) (s' : ByteArray) (w : World) : Calls Try.prog 36 #[.agg #[.int .i64 k, .int .i64 n, .string s], .agg #[.int .i64 k', .int .i64 n', .string s']] w fun e w' =>
    e = .returned (.agg #[.int .i64 (likeK k k'), .int .i64 n, .string s]) ∧ Below w.heap.size w w' := by
  by_cases hk : k = 0
  · subst hk
    go_enter Try.func36, Try.ntmps36
    go_wp2
    all_goals
      refine bodyPost_ret (v := .agg #[.int .i64 k', .int .i64 n, .string s]) ?_ rfl ⟨ret_val ?_, by go_grown⟩
      · simp (maxDischargeDepth := 9) [results, Try.results36, go_sem]
      · simp [likeK]
  · have hq : (k == 0) = false := by simpa using hk
    go_enter Try.func36, Try.ntmps36
    go_wp2
    all_goals
      refine bodyPost_ret (v := .agg #[.int .i64 k, .int .i64 n, .string s]) ?_ rfl ⟨ret_val ?_, by go_grown⟩
      · simp (maxDischargeDepth := 9) [results, Try.results36, go_sem]
      · simp [likeK, hk]

set_option maxHeartbeats 400000 in
theorem spec_l2Flag (b : Bool) (w : World) : Calls Try.prog 37 #[.bool b] w fun e w' =>
    e = .returned (.agg #[.int .i64 3, .int .i64 (if b then 1 else 0), .string ⟨#[]⟩]) ∧ Below w.heap.size w w' := by
  cases b
  · go_enter Try.func37, Try.ntmps37
    go_wp2
    go_returns
    exact ⟨rfl, by go_grown⟩
  · go_enter Try.func37, Try.ntmps37
    go_wp2
    go_returns
    exact ⟨rfl, by go_grown⟩
end Go.Proofs.Ythagnaeemipnlaa
