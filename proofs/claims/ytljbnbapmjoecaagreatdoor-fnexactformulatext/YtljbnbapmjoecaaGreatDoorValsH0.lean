import Derived.Test.YtljbnbapmjoecaaGreatDoorValsG
namespace Go.Proofs.YtljbnbapmjoecaaGreatDoor
open Go.RowKit

def szv (l : Int) (m : Nat) : Int := if l - m < 0 then -1 else l - m

set_option maxHeartbeats 400000 in
theorem laws_szValue (k n : Int) (s : ByteArray) (l : Int) (w : World) (hs : s.size ≤ maxLen) (h0 : 0 ≤ l) (h1 : l ≤ 1048576) : Calls Tryz.prog 132 #[.agg #[.int .i64 k, .int .i64 n, .string s], .int .i64 l] w fun e w' =>
    e = .returned (.int .i64 (szv l s.size)) ∧ Below w.heap.size w w' := by
  unfold maxLen at hs
  by_cases hn : l - (s.size : Int) < 0
  · go_enter Tryz.func132, Tryz.ntmps132
    go_wp2
    all_goals
      go_ret
      exact ⟨ret_int (by unfold szv; rw [if_pos hn]), by go_grown⟩
  · go_enter Tryz.func132, Tryz.ntmps132
    go_wp2
    all_goals
      go_ret
      exact ⟨ret_int (by unfold szv; rw [if_neg (by omega)]), by go_grown⟩

set_option maxHeartbeats 400000 in
theorem laws_toValue (k n : Int) (s : ByteArray) (w : World) : Calls Tryz.prog 134 #[.agg #[.int .i64 k, .int .i64 n, .string s]] w fun e w' =>
    e = .returned (.agg #[.int .i64 k, .int .i64 n, .string s]) ∧ Below w.heap.size w w' := by
  go_enter Tryz.func134, Tryz.ntmps134
  go_wp2
  go_returns
  exact ⟨rfl, by go_grown⟩

end Go.Proofs.YtljbnbapmjoecaaGreatDoor
