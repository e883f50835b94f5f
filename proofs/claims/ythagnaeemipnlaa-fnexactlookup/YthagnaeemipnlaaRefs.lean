import Derived.Test.YthagnaeemipnlaaBase
namespace Go.Proofs.Ythagnaeemipnlaa
open Go.RowKit

def refOkB (c r : Int) : Bool := decide (1 ≤ c ∧ c ≤ 52 ∧ 1 ≤ r ∧ r ≤ 99)
/-- The place (c, r) stands ahead of (c', r'). -/
def aheadB (c r c' r' : Int) : Bool := decide (r < r' ∨ r = r' ∧ c < c')

set_option maxHeartbeats 400000 in
theorem impl_RefOk (c r : Int) (w : World) : Calls Try.prog 57 #[.agg #[.int .i64 c, .int .i64 r]] w fun e w' =>
    e = .returned (.bool (refOkB c r)) ∧ Below w.heap.size w w' := by
  go_enter Try.func57, Try.ntmps57
  go_wp2
  all_goals
    go_ret
    refine ⟨ret_bool ?_, by go_grown⟩
    unfold refOkB
    rw [Bool.eq_iff_iff]
    simp
    try omega

set_option maxHeartbeats 400000 in
theorem spec_RefOk (c r : Int) (w : World) : Calls Try.prog 39 #[.agg #[.int .i64 c, .int .i64 r]] w fun e w' =>
    e = .returned (.bool (refOkB c r)) ∧ Below w.heap.size w w' := by
  go_enter Try.func39, Try.ntmps39
  go_wp2
  all_goals
    go_ret
    refine ⟨ret_bool ?_, by go_grown⟩
    unfold refOkB
    rw [Bool.eq_iff_iff]
    simp
    try omega

set_option maxHeartbeats 400000 in
theorem laws_toRef (c r : Int) (w : World) : Calls Try.prog 20 #[.agg #[.int .i64 c, .int .i64 r]] w fun e w' =>
    e = .returned (.agg #[.int .i64 c, .int .i64 r]) ∧ Below w.heap.size w w' := by
  go_enter Try.func20, Try.ntmps20
  go_wp2
  go_returns
  exact ⟨rfl, by go_grown⟩

set_option maxHeartbeats 400000 in
theorem laws_eqRef (c r : Int) (w : World) : Calls Try.prog 59 #[.agg #[.int .i64 c, .int .i64 r], .agg #[.int .i64 c, .int .i64 r]] w fun e w' =>
    e = .returned (.bool true) ∧ Below w.heap.size w w' := by
  go_enter Try.func59, Try.ntmps59
  go_wp2
  go_ret
  exact ⟨rfl, by go_grown⟩

set_option maxHeartbeats 400000 in
theorem spec_l1Ahead (c r c' r' : Int) (w : World) : Calls Try.prog 40 #[.agg #[.int .i64 c, .int .i64 r], .agg #[.int .i64 c', .int .i64 r']] w fun e w' =>
    e = .returned (.bool (aheadB c r c' r')) ∧ Below w.heap.size w w' := by
  by_cases h1 : r < r'
  · go_enter Try.func40, Try.ntmps40
    go_wp2
    all_goals
      go_ret
      exact ⟨ret_bool (by simp [aheadB, h1]), by go_grown⟩
  by_cases h2 : r = r'
  · subst h2
    go_enter Try.func40, Try.ntmps40
    go_wp2
    all_goals
      go_ret
      exact ⟨ret_bool (by simp [aheadB]), by go_grown⟩
  · have h3 : (r == r') = false := by simpa using h2
    have h4 : (r != r') = true := by simpa using h2
    go_enter Try.func40, Try.ntmps40
    go_wp2
    all_goals
      go_ret
      exact ⟨ret_bool (by simp [aheadB, h2]; omega), by go_grown⟩
end Go.Proofs.Ythagnaeemipnlaa
