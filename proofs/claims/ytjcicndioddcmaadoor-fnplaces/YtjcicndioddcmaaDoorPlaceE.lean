import Derived.Test.YtjcicndioddcmaaDoorPlaceD
namespace Go.Proofs.YtjcicndioddcmaaDoor
open Go.RowKit

set_option maxHeartbeats 400000 in
theorem laws_toRef (c r : Int) (w : World) : Calls Tryd.prog 55 #[.agg #[.int .i64 c, .int .i64 r]] w fun e w' =>
    e = .returned (.agg #[.int .i64 c, .int .i64 r]) ∧ Below w.heap.size w w' := by
  go_enter Tryd.func55, Tryd.ntmps55
  go_wp2
  go_returns
  exact ⟨rfl, by go_grown⟩



set_option maxHeartbeats 2000000 in
theorem laws_toPlace (c r : Int) (x y : Bool) (w : World) : Calls Tryd.prog 30 #[.agg #[.int .i64 c, .int .i64 r, .bool x, .bool y]] w fun e w' =>
    e = .returned (.agg #[.int .i64 c, .int .i64 r, .bool x, .bool y]) ∧ Below w.heap.size w w' := by
  go_enter Tryd.func30, Tryd.ntmps30
  go_wp2_with (first
    | (go_at_call 55; refine (laws_toRef _ _ _).mono ?_; rintro e w1 ⟨rfl, hb⟩; obtain ⟨hc, hf, hC, hF, hz, hk, l0, l1, l2⟩ := bk3 (w := w) (by go_grown) (by go_size) hb; clear hb))
  all_goals
    refine bodyPost_ret (v := .agg #[.int .i64 c, .int .i64 r, .bool x, .bool y]) ?_ rfl ⟨rfl, by go_grown⟩
    simp (maxDischargeDepth := 9) [results, Tryd.results30, go_sem, *]
end Go.Proofs.YtjcicndioddcmaaDoor
