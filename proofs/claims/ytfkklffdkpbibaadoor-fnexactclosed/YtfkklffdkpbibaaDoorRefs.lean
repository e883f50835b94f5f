import Derived.Test.YtfkklffdkpbibaaDoorBase
namespace Go.Proofs.YtfkklffdkpbibaaDoor
open Go.RowKit

def refOkB (c r : Int) : Bool := decide (1 ≤ c ∧ c ≤ 52 ∧ 1 ≤ r ∧ r ≤ 99)
/-- The place (c, r) stands ahead of (c', r'). -/
def aheadB (c r c' r' : Int) : Bool := decide (r < r' ∨ r = r' ∧ c < c')

set_option maxHeartbeats 400000 in
theorem impl_RefOk (c r : Int) (w : World) : Calls Tryd.prog 65 #[.agg #[.int .i64 c, .int .i64 r]] w fun e w' =>
    e = .returned (.bool (refOkB c r)) ∧ Below w.heap.size w w' := by
  go_enter Tryd.func65, Tryd.ntmps65
  go_wp2
  all_goals
    go_ret
    refine ⟨ret_bool ?_, by go_grown⟩
    unfold refOkB
    rw [Bool.eq_iff_iff]
    simp
    try omega

set_option maxHeartbeats 400000 in
theorem spec_RefOk (c r : Int) (w : World) : Calls Tryd.prog 58 #[.agg #[.int .i64 c, .int .i64 r]] w fun e w' =>
    e = .returned (.bool (refOkB c r)) ∧ Below w.heap.size w w' := by
  go_enter Tryd.func58, Tryd.ntmps58
  go_wp2
  all_goals
    go_ret
    refine ⟨ret_bool ?_, by go_grown⟩
    unfold refOkB
    rw [Bool.eq_iff_iff]
    simp
    try omega

set_option maxHeartbeats 400000 in
theorem laws_toRef (c r : Int) (w : World) : Calls Tryd.prog 78 #[.agg #[.int .i64 c, .int .i64 r]] w fun e w' =>
    e = .returned (.agg #[.int .i64 c, .int .i64 r]) ∧ Below w.heap.size w w' := by
  go_enter Tryd.func78, Tryd.ntmps78
  go_wp2
  go_returns
  exact ⟨rfl, by go_grown⟩

set_option maxHeartbeats 400000 in
theorem laws_eqRef (c r : Int) (w : World) : Calls Tryd.prog 73 #[.agg #[.int .i64 c, .int .i64 r], .agg #[.int .i64 c, .int .i64 r]] w fun e w' =>
    e = .returned (.bool true) ∧ Below w.heap.size w w' := by
  go_enter Tryd.func73, Tryd.ntmps73
  go_wp2
  go_ret
  exact ⟨rfl, by go_grown⟩

end Go.Proofs.YtfkklffdkpbibaaDoor
