import Derived.Test.YtfkklffdkpbibaaDoorValsG
namespace Go.Proofs.YtfkklffdkpbibaaDoor
open Go.RowKit

def szv (l : Int) (m : Nat) : Int := if l - m < 0 then -1 else l - m

set_option maxHeartbeats 400000 in
theorem laws_szValue (k n : Int) (s : ByteArray) (l : Int) (w : World) (hs : s.size ≤ maxLen) (h0 : 0 ≤ l) (h1 : l ≤ 1048576) : Calls Tryd.prog 55 #[.agg #[.int .i64 k, .int .i64 n, .string s], .int .i64 l] w fun e w' =>
    e = .returned (.int .i64 (szv l s.size)) ∧ Below w.heap.size w w' := by
  unfold maxLen at hs
  by_cases hn : l - (s.size : Int) < 0
  · go_enter Tryd.func55, Tryd.ntmps55
    go_wp2
    all_goals
      go_ret
      exact ⟨ret_int (by unfold szv; rw [if_pos hn]), by go_grown⟩
  · go_enter Tryd.func55, Tryd.ntmps55
    go_wp2
    all_goals
      go_ret
      exact ⟨ret_int (by unfold szv; rw [if_neg (by omega)]), by go_grown⟩

set_option maxHeartbeats 400000 in
theorem laws_toValue (k n : Int) (s : ByteArray) (w : World) : Calls Tryd.prog 61 #[.agg #[.int .i64 k, .int .i64 n, .string s]] w fun e w' =>
    e = .returned (.agg #[.int .i64 k, .int .i64 n, .string s]) ∧ Below w.heap.size w w' := by
  go_enter Tryd.func61, Tryd.ntmps61
  go_wp2
  go_returns
  exact ⟨rfl, by go_grown⟩

end Go.Proofs.YtfkklffdkpbibaaDoor
