import Derived.Test.YtfkklffdkpbibaaDoorValsH0
namespace Go.Proofs.YtfkklffdkpbibaaDoor
open Go.RowKit

set_option maxHeartbeats 400000 in
theorem laws_eqValue_same (k n : Int) (s : ByteArray) (w : World) : Calls Tryd.prog 70 #[.agg #[.int .i64 k, .int .i64 n, .string s], .agg #[.int .i64 k, .int .i64 n, .string s]] w fun e w' =>
    e = .returned (.bool true) ∧ Below w.heap.size w w' := by
  go_enter Tryd.func70, Tryd.ntmps70
  go_wp2
  all_goals
    go_ret
    exact ⟨rfl, by go_grown⟩
end Go.Proofs.YtfkklffdkpbibaaDoor
