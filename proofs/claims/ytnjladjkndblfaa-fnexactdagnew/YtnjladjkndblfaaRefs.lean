import Derived.Test.YtnjladjkndblfaaBase
namespace Go.Proofs.Ytnjladjkndblfaa
open Go.RowKit

def refOkB (c r : Int) : Bool := decide (1 ≤ c ∧ c ≤ 52 ∧ 1 ≤ r ∧ r ≤ 99)
/-- The place (c, r) stands ahead of (c', r'). -/
def aheadB (c r c' r' : Int) : Bool := decide (r < r' ∨ r = r' ∧ c < c')

set_option maxHeartbeats 400000 in
theorem laws_eqRef (c r : Int) (w : World) : Calls Try.prog 25 #[.agg #[.int .i64 c, .int .i64 r], .agg #[.int .i64 c, .int .i64 r]] w fun e w' =>
    e = .returned (.bool true) ∧ Below w.heap.size w w' := by
  go_enter Try.func25, Try.ntmps25
  go_wp2
  go_ret
  exact ⟨rfl, by go_grown⟩

end Go.Proofs.Ytnjladjkndblfaa
