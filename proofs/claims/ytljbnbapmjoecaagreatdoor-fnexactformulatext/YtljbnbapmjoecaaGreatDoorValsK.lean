import Derived.Test.YtljbnbapmjoecaaGreatDoorValsH0
namespace Go.Proofs.YtljbnbapmjoecaaGreatDoor
open Go.RowKit

set_option maxHeartbeats 400000 in
theorem laws_eqValue_same (k n : Int) (s : ByteArray) (w : World) : Calls Tryz.prog 129 #[.agg #[.int .i64 k, .int .i64 n, .string s], .agg #[.int .i64 k, .int .i64 n, .string s]] w fun e w' =>
    e = .returned (.bool true) ∧ Below w.heap.size w w' := by
  go_enter Tryz.func129, Tryz.ntmps129
  go_wp2
  all_goals
    go_ret
    exact ⟨rfl, by go_grown⟩
end Go.Proofs.YtljbnbapmjoecaaGreatDoor
