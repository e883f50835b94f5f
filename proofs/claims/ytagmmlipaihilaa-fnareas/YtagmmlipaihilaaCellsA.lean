import Derived.Test.YtagmmlipaihilaaBase
namespace Go.Proofs.Ytagmmlipaihilaa
open Go.RowKit

def refOkB (c r : Int) : Bool := decide (1 ≤ c ∧ c ≤ 52 ∧ 1 ≤ r ∧ r ≤ 99)
def areaOkB (a b c d : Int) : Bool := refOkB a b && refOkB c d && decide (a ≤ c ∧ b ≤ d)
def inB (n l h : Int) : Bool := decide (l ≤ n ∧ n ≤ h)

set_option maxHeartbeats 400000 in
theorem impl_RefOk (c r : Int) (w : World) : Calls Try.prog 26 #[.agg #[.int .i64 c, .int .i64 r]] w fun e w' =>
    e = .returned (.bool (refOkB c r)) ∧ Below w.heap.size w w' := by
  go_enter Try.func26, Try.ntmps26
  go_wp2
  all_goals
    go_ret
    refine ⟨ret_bool ?_, by go_grown⟩
    unfold refOkB
    rw [Bool.eq_iff_iff]
    simp
    try omega

set_option maxHeartbeats 400000 in
theorem spec_l1In (n l h : Int) (w : World) : Calls Try.prog 34 #[.int .i64 n, .int .i64 l, .int .i64 h] w fun e w' =>
    e = .returned (.bool (inB n l h)) ∧ w' = w := by
  go_enter Try.func34, Try.ntmps34
  go_wp2
  all_goals
    go_ret
    refine ⟨ret_bool ?_, rfl⟩
    unfold inB
    rw [Bool.eq_iff_iff]
    simp
    try omega

set_option maxHeartbeats 400000 in
theorem spec_RefOk (c r : Int) (w : World) : Calls Try.prog 24 #[.agg #[.int .i64 c, .int .i64 r]] w fun e w' =>
    e = .returned (.bool (refOkB c r)) ∧ Below w.heap.size w w' := by
  go_enter Try.func24, Try.ntmps24
  go_wp2
  all_goals
    go_ret
    refine ⟨ret_bool ?_, by go_grown⟩
    unfold refOkB
    rw [Bool.eq_iff_iff]
    simp
    try omega

set_option maxHeartbeats 400000 in
theorem laws_toRef (c r : Int) (w : World) : Calls Try.prog 25 #[.agg #[.int .i64 c, .int .i64 r]] w fun e w' =>
    e = .returned (.agg #[.int .i64 c, .int .i64 r]) ∧ Below w.heap.size w w' := by
  go_enter Try.func25, Try.ntmps25
  go_wp2
  go_returns
  exact ⟨rfl, by go_grown⟩


set_option maxHeartbeats 400000 in
theorem laws_toArea (a b c d : Int) (w : World) : Calls Try.prog 27 #[.agg #[.int .i64 a, .int .i64 b, .int .i64 c, .int .i64 d]] w fun e w' =>
    e = .returned (.agg #[.int .i64 a, .int .i64 b, .int .i64 c, .int .i64 d]) ∧ Below w.heap.size w w' := by
  go_enter Try.func27, Try.ntmps27
  go_wp2
  go_returns
  exact ⟨rfl, by go_grown⟩

set_option maxHeartbeats 400000 in
theorem impl_AreaOk (a b c d : Int) (w : World) : Calls Try.prog 17 #[.agg #[.int .i64 a, .int .i64 b, .int .i64 c, .int .i64 d]] w fun e w' =>
    e = .returned (.bool (areaOkB a b c d)) ∧ Below w.heap.size w w' := by
  go_enter Try.func17, Try.ntmps17
  go_wp2_with (first
    | (go_at_call 26; refine (impl_RefOk _ _ _).mono ?_; rintro e w1 ⟨rfl, hb⟩; obtain ⟨hc, hf, hC, hF, hz, hk, l0⟩ := bk1 (w := w) (by go_grown) (by go_size) hb; clear hb))
  all_goals
    go_ret
    refine ⟨ret_bool ?_, by go_grown⟩
    unfold areaOkB
    rw [Bool.eq_iff_iff]
    simp [*]
    try omega

set_option maxHeartbeats 400000 in
theorem spec_AreaOk (a b c d : Int) (w : World) : Calls Try.prog 18 #[.agg #[.int .i64 a, .int .i64 b, .int .i64 c, .int .i64 d]] w fun e w' =>
    e = .returned (.bool (areaOkB a b c d)) ∧ Below w.heap.size w w' := by
  go_enter Try.func18, Try.ntmps18
  go_wp2_with (first
    | (go_at_call 24; refine (spec_RefOk _ _ _).mono ?_; rintro e w1 ⟨rfl, hb⟩; obtain ⟨hc, hf, hC, hF, hz, hk, l0⟩ := bk1 (w := w) (by go_grown) (by go_size) hb; clear hb))
  all_goals
    go_ret
    refine ⟨ret_bool ?_, by go_grown⟩
    unfold areaOkB
    rw [Bool.eq_iff_iff]
    simp [*]
    try omega

set_option maxHeartbeats 400000 in
theorem law_FnExactRefOk (c r : Int) (w : World) : Calls Try.prog 6 #[.agg #[.int .i64 c, .int .i64 r]] w fun e w' =>
    e = .returned (.bool true) ∧ Below w.heap.size w w' := by
  go_enter Try.func6, Try.ntmps6
  go_wp2_with (first
    | (go_at_call 25; refine (laws_toRef _ _ _).mono ?_; rintro e w1 ⟨rfl, hb⟩; obtain ⟨hc, hf, hC, hF, hz, hk, l0⟩ := bk1 (w := w) (by go_grown) (by go_size) hb; clear hb)
    | (go_at_call 24; refine (spec_RefOk _ _ _).mono ?_; rintro e w1 ⟨rfl, hb⟩; obtain ⟨hc, hf, hC, hF, hz, hk, l0⟩ := bk1 (w := w) (by go_grown) (by go_size) hb; clear hb)
    | (go_at_call 26; refine (impl_RefOk _ _ _).mono ?_; rintro e w1 ⟨rfl, hb⟩; obtain ⟨hc, hf, hC, hF, hz, hk, l0⟩ := bk1 (w := w) (by go_grown) (by go_size) hb; clear hb))
  all_goals
    go_ret
    exact ⟨rfl, by go_grown⟩
end Go.Proofs.Ytagmmlipaihilaa
