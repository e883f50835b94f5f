import Derived.Test.YtljbnbapmjoecaaGreatDoorBase
namespace Go.Proofs.YtljbnbapmjoecaaGreatDoor
open Go.RowKit

def refOkB (c r : Int) : Bool := decide (1 ≤ c ∧ c ≤ 52 ∧ 1 ≤ r ∧ r ≤ 99)
/-- The place (c, r) stands ahead of (c', r'). -/
def aheadB (c r c' r' : Int) : Bool := decide (r < r' ∨ r = r' ∧ c < c')

set_option maxHeartbeats 400000 in
theorem impl_RefOk (c r : Int) (w : World) : Calls Tryz.prog 97 #[.agg #[.int .i64 c, .int .i64 r]] w fun e w' =>
    e = .returned (.bool (refOkB c r)) ∧ Below w.heap.size w w' := by
  go_enter Tryz.func97, Tryz.ntmps97
  go_wp2
  all_goals
    go_ret
    refine ⟨ret_bool ?_, by go_grown⟩
    unfold refOkB
    rw [Bool.eq_iff_iff]
    simp
    try omega

set_option maxHeartbeats 400000 in
theorem spec_RefOk (c r : Int) (w : World) : Calls Tryz.prog 103 #[.agg #[.int .i64 c, .int .i64 r]] w fun e w' =>
    e = .returned (.bool (refOkB c r)) ∧ Below w.heap.size w w' := by
  go_enter Tryz.func103, Tryz.ntmps103
  go_wp2
  all_goals
    go_ret
    refine ⟨ret_bool ?_, by go_grown⟩
    unfold refOkB
    rw [Bool.eq_iff_iff]
    simp
    try omega

set_option maxHeartbeats 400000 in
theorem laws_toRef (c r : Int) (w : World) : Calls Tryz.prog 164 #[.agg #[.int .i64 c, .int .i64 r]] w fun e w' =>
    e = .returned (.agg #[.int .i64 c, .int .i64 r]) ∧ Below w.heap.size w w' := by
  go_enter Tryz.func164, Tryz.ntmps164
  go_wp2
  go_returns
  exact ⟨rfl, by go_grown⟩

set_option maxHeartbeats 400000 in
theorem laws_eqRef (c r : Int) (w : World) : Calls Tryz.prog 163 #[.agg #[.int .i64 c, .int .i64 r], .agg #[.int .i64 c, .int .i64 r]] w fun e w' =>
    e = .returned (.bool true) ∧ Below w.heap.size w w' := by
  go_enter Tryz.func163, Tryz.ntmps163
  go_wp2
  go_ret
  exact ⟨rfl, by go_grown⟩

end Go.Proofs.YtljbnbapmjoecaaGreatDoor
