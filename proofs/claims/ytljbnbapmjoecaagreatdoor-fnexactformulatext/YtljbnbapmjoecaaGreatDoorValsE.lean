import Derived.Test.YtljbnbapmjoecaaGreatDoorValsD
namespace Go.Proofs.YtljbnbapmjoecaaGreatDoor
open Go.RowKit

def numX (k n : Int) (s : ByteArray) : Int := if okV k n s then (if k = 1 then n else 0) else 0
def numE (k n : Int) (s : ByteArray) : Int := if okV k n s then (if k = 0 then 0 else if k = 1 then 0 else if k = 4 then n else 2) else 2

set_option maxHeartbeats 1000000 in
theorem impl_ValueOk (k n : Int) (s : ByteArray) (w : World) (hs : s.size ≤ maxLen) : Calls Tryz.prog 151 #[.agg #[.int .i64 k, .int .i64 n, .string s]] w fun e w' =>
    e = .returned (.bool (okV k n s)) ∧ Below w.heap.size w w' := by
  rcases mOf_cases k n s with ⟨ho, hm⟩ | ⟨ho, rfl, rfl, rfl, hm⟩ | ⟨ho, rfl, hr, rfl, hm⟩ | ⟨ho, rfl, rfl, hr, hm⟩ | ⟨ho, rfl, hr, rfl, hm⟩ | ⟨ho, rfl, hr, rfl, hm⟩
  · have HM : Hid (mOf k n s = .iface 143 (.agg #[])) := hm
    clear hm
    go_enter Tryz.func151, Tryz.ntmps151
    go_wp2_with (first
      | (go_at_call 74; refine (impl_meaningOf _ _ _ _ hs).mono ?_; rintro e w1 ⟨rfl, hb⟩; rw [HM.out]; have hk := bchain (w := w) (by go_grown) hb; have hz := hk.size; obtain ⟨hC, hF, hL, hE⟩ := kp hb; clear hb)
      | (go_at_call 267; refine (right_misfit _).mono ?_; rintro e w1 ⟨rfl, hb⟩; have hk := bchain (w := w) (by go_grown) hb; clear hb))
    all_goals
      go_ret
      exact ⟨ret_bool (by simp [ho]), by go_grown⟩
  · have HM : Hid (mOf 0 0 ⟨#[]⟩ = .iface 138 (.agg #[])) := hm
    clear hm
    go_enter Tryz.func151, Tryz.ntmps151
    go_wp2_with (first
      | (go_at_call 74; refine (impl_meaningOf _ _ _ _ hs).mono ?_; rintro e w1 ⟨rfl, hb⟩; rw [HM.out]; have hk := bchain (w := w) (by go_grown) hb; have hz := hk.size; obtain ⟨hC, hF, hL, hE⟩ := kp hb; clear hb)
      | (go_at_call 259; refine (right_blank _).mono ?_; rintro e w1 ⟨rfl, hb⟩; have hk := bchain (w := w) (by go_grown) hb; clear hb))
    all_goals
      go_ret
      exact ⟨ret_bool (by simp [ho]), by go_grown⟩
  · have HM : Hid (mOf 1 n ⟨#[]⟩ = .iface 142 (.int .i64 n)) := hm
    clear hm
    go_enter Tryz.func151, Tryz.ntmps151
    go_wp2_with (first
      | (go_at_call 74; refine (impl_meaningOf _ _ _ _ hs).mono ?_; rintro e w1 ⟨rfl, hb⟩; rw [HM.out]; have hk := bchain (w := w) (by go_grown) hb; have hz := hk.size; obtain ⟨hC, hF, hL, hE⟩ := kp hb; clear hb)
      | (go_at_call 265; refine (right_number _ _).mono ?_; rintro e w1 ⟨rfl, rfl⟩))
    all_goals
      go_ret
      exact ⟨ret_bool (by simp [ho]), by go_grown⟩
  · have HM : Hid (mOf 2 0 s = .iface 134 (.string s)) := hm
    clear hm
    go_enter Tryz.func151, Tryz.ntmps151
    go_wp2_with (first
      | (go_at_call 74; refine (impl_meaningOf _ _ _ _ hs).mono ?_; rintro e w1 ⟨rfl, hb⟩; rw [HM.out]; have hk := bchain (w := w) (by go_grown) hb; have hz := hk.size; obtain ⟨hC, hF, hL, hE⟩ := kp hb; clear hb)
      | (go_at_call 258; refine (right_wording _ _ hs).mono ?_; rintro e w1 ⟨rfl, rfl⟩))
    all_goals
      go_ret
      exact ⟨ret_bool (by simp [ho]), by go_grown⟩
  · have HM : Hid (mOf 3 n ⟨#[]⟩ = .iface 139 (.int .i64 n)) := hm
    clear hm
    go_enter Tryz.func151, Tryz.ntmps151
    go_wp2_with (first
      | (go_at_call 74; refine (impl_meaningOf _ _ _ _ hs).mono ?_; rintro e w1 ⟨rfl, hb⟩; rw [HM.out]; have hk := bchain (w := w) (by go_grown) hb; have hz := hk.size; obtain ⟨hC, hF, hL, hE⟩ := kp hb; clear hb)
      | (go_at_call 262; refine (right_truth _ _).mono ?_; rintro e w1 ⟨rfl, rfl⟩))
    all_goals
      go_ret
      exact ⟨ret_bool (by simp [ho]), by go_grown⟩
  · have HM : Hid (mOf 4 n ⟨#[]⟩ = .iface 140 (.int .i64 n)) := hm
    clear hm
    go_enter Tryz.func151, Tryz.ntmps151
    go_wp2_with (first
      | (go_at_call 74; refine (impl_meaningOf _ _ _ _ hs).mono ?_; rintro e w1 ⟨rfl, hb⟩; rw [HM.out]; have hk := bchain (w := w) (by go_grown) hb; have hz := hk.size; obtain ⟨hC, hF, hL, hE⟩ := kp hb; clear hb)
      | (go_at_call 264; refine (right_failure _ _).mono ?_; rintro e w1 ⟨rfl, rfl⟩))
    all_goals
      go_ret
      exact ⟨ret_bool (by simp [ho]), by go_grown⟩

theorem ta_misfit_blank (w : World) : (Instr.typeAssert (.iface 143 (.agg #[])) 88 138 true).run Tryz.prog w = .ok (.tuple #[.agg #[], .bool false]) w := by kernel_rfl
theorem ta_misfit_number (w : World) : (Instr.typeAssert (.iface 143 (.agg #[])) 88 142 true).run Tryz.prog w = .ok (.tuple #[.int .i64 0, .bool false]) w := by kernel_rfl
theorem ta_misfit_failure (w : World) : (Instr.typeAssert (.iface 143 (.agg #[])) 88 140 true).run Tryz.prog w = .ok (.tuple #[.int .i64 0, .bool false]) w := by kernel_rfl
theorem ta_blank_blank (w : World) : (Instr.typeAssert (.iface 138 (.agg #[])) 88 138 true).run Tryz.prog w = .ok (.tuple #[.agg #[], .bool true]) w := by kernel_rfl
theorem ta_number_blank (n : Int) (w : World) : (Instr.typeAssert (.iface 142 (.int .i64 n)) 88 138 true).run Tryz.prog w = .ok (.tuple #[.agg #[], .bool false]) w := by kernel_rfl
theorem ta_number_number (n : Int) (w : World) : (Instr.typeAssert (.iface 142 (.int .i64 n)) 88 142 true).run Tryz.prog w = .ok (.tuple #[.int .i64 n, .bool true]) w := by kernel_rfl
theorem ta_wording_blank (s : ByteArray) (w : World) : (Instr.typeAssert (.iface 134 (.string s)) 88 138 true).run Tryz.prog w = .ok (.tuple #[.agg #[], .bool false]) w := by kernel_rfl
theorem ta_wording_number (s : ByteArray) (w : World) : (Instr.typeAssert (.iface 134 (.string s)) 88 142 true).run Tryz.prog w = .ok (.tuple #[.int .i64 0, .bool false]) w := by kernel_rfl
theorem ta_wording_failure (s : ByteArray) (w : World) : (Instr.typeAssert (.iface 134 (.string s)) 88 140 true).run Tryz.prog w = .ok (.tuple #[.int .i64 0, .bool false]) w := by kernel_rfl
theorem ta_truth_blank (n : Int) (w : World) : (Instr.typeAssert (.iface 139 (.int .i64 n)) 88 138 true).run Tryz.prog w = .ok (.tuple #[.agg #[], .bool false]) w := by kernel_rfl
theorem ta_truth_number (n : Int) (w : World) : (Instr.typeAssert (.iface 139 (.int .i64 n)) 88 142 true).run Tryz.prog w = .ok (.tuple #[.int .i64 0, .bool false]) w := by kernel_rfl
theorem ta_truth_failure (n : Int) (w : World) : (Instr.typeAssert (.iface 139 (.int .i64 n)) 88 140 true).run Tryz.prog w = .ok (.tuple #[.int .i64 0, .bool false]) w := by kernel_rfl
theorem ta_failure_blank (n : Int) (w : World) : (Instr.typeAssert (.iface 140 (.int .i64 n)) 88 138 true).run Tryz.prog w = .ok (.tuple #[.agg #[], .bool false]) w := by kernel_rfl
theorem ta_failure_number (n : Int) (w : World) : (Instr.typeAssert (.iface 140 (.int .i64 n)) 88 142 true).run Tryz.prog w = .ok (.tuple #[.int .i64 0, .bool false]) w := by kernel_rfl
theorem ta_failure_failure (n : Int) (w : World) : (Instr.typeAssert (.iface 140 (.int .i64 n)) 88 140 true).run Tryz.prog w = .ok (.tuple #[.int .i64 n, .bool true]) w := by kernel_rfl

end Go.Proofs.YtljbnbapmjoecaaGreatDoor
