import Derived.Test.YtjcicndioddcmaaDoorBase
namespace Go.Proofs.YtjcicndioddcmaaDoor
open Go.RowKit

def refOkB (c r : Int) : Bool := decide (1 ≤ c ∧ c ≤ 52 ∧ 1 ≤ r ∧ r ≤ 99)
def inB (n l h : Int) : Bool := decide (l ≤ n ∧ n ≤ h)

set_option maxHeartbeats 400000 in
theorem impl_RefOk (c r : Int) (w : World) : Calls Tryd.prog 19 #[.agg #[.int .i64 c, .int .i64 r]] w fun e w' =>
    e = .returned (.bool (refOkB c r)) ∧ Below w.heap.size w w' := by
  go_enter Tryd.func19, Tryd.ntmps19
  go_wp2
  all_goals
    go_ret
    refine ⟨ret_bool ?_, by go_grown⟩
    unfold refOkB
    rw [Bool.eq_iff_iff]
    simp
    try omega

set_option maxHeartbeats 400000 in
theorem spec_l1In (n l h : Int) (w : World) : Calls Tryd.prog 36 #[.int .i64 n, .int .i64 l, .int .i64 h] w fun e w' =>
    e = .returned (.bool (inB n l h)) ∧ w' = w := by
  go_enter Tryd.func36, Tryd.ntmps36
  go_wp2
  all_goals
    go_ret
    refine ⟨ret_bool ?_, rfl⟩
    unfold inB
    rw [Bool.eq_iff_iff]
    simp
    try omega

set_option maxHeartbeats 400000 in
theorem spec_RefOk (c r : Int) (w : World) : Calls Tryd.prog 44 #[.agg #[.int .i64 c, .int .i64 r]] w fun e w' =>
    e = .returned (.bool (refOkB c r)) ∧ Below w.heap.size w w' := by
  go_enter Tryd.func44, Tryd.ntmps44
  go_wp2
  all_goals
    go_ret
    refine ⟨ret_bool ?_, by go_grown⟩
    unfold refOkB
    rw [Bool.eq_iff_iff]
    simp
    try omega
end Go.Proofs.YtjcicndioddcmaaDoor
