import Derived.Test.YtliipepekpdkfaaValsD
namespace Go.Proofs.Ytliipepekpdkfaa
open Go.RowKit

def numX (k n : Int) (s : ByteArray) : Int := if okV k n s then (if k = 1 then n else 0) else 0
def numE (k n : Int) (s : ByteArray) : Int := if okV k n s then (if k = 0 then 0 else if k = 1 then 0 else if k = 4 then n else 2) else 2

set_option maxHeartbeats 1000000 in
theorem impl_ValueOk (k n : Int) (s : ByteArray) (w : World) (hs : s.size ≤ maxLen) : Calls Try.prog 38 #[.agg #[.int .i64 k, .int .i64 n, .string s]] w fun e w' =>
    e = .returned (.bool (okV k n s)) ∧ Below w.heap.size w w' := by
  rcases mOf_cases k n s with ⟨ho, hm⟩ | ⟨ho, rfl, rfl, rfl, hm⟩ | ⟨ho, rfl, hr, rfl, hm⟩ | ⟨ho, rfl, rfl, hr, hm⟩ | ⟨ho, rfl, hr, rfl, hm⟩ | ⟨ho, rfl, hr, rfl, hm⟩
  · have HM : Hid (mOf k n s = .iface 82 (.agg #[])) := hm
    clear hm
    go_enter Try.func38, Try.ntmps38
    go_wp2_with (first
      | (go_at_call 64; refine (impl_meaningOf _ _ _ _ hs).mono ?_; rintro e w1 ⟨rfl, hb⟩; rw [HM.out]; have hk := bchain (w := w) (by go_grown) hb; have hz := hk.size; obtain ⟨hC, hF, hL, hE⟩ := kp hb; clear hb)
      | (go_at_call 93; refine (right_misfit _).mono ?_; rintro e w1 ⟨rfl, hb⟩; have hk := bchain (w := w) (by go_grown) hb; clear hb))
    all_goals
      go_ret
      exact ⟨ret_bool (by simp [ho]), by go_grown⟩
  · have HM : Hid (mOf 0 0 ⟨#[]⟩ = .iface 84 (.agg #[])) := hm
    clear hm
    go_enter Try.func38, Try.ntmps38
    go_wp2_with (first
      | (go_at_call 64; refine (impl_meaningOf _ _ _ _ hs).mono ?_; rintro e w1 ⟨rfl, hb⟩; rw [HM.out]; have hk := bchain (w := w) (by go_grown) hb; have hz := hk.size; obtain ⟨hC, hF, hL, hE⟩ := kp hb; clear hb)
      | (go_at_call 96; refine (right_blank _).mono ?_; rintro e w1 ⟨rfl, hb⟩; have hk := bchain (w := w) (by go_grown) hb; clear hb))
    all_goals
      go_ret
      exact ⟨ret_bool (by simp [ho]), by go_grown⟩
  · have HM : Hid (mOf 1 n ⟨#[]⟩ = .iface 56 (.int .i64 n)) := hm
    clear hm
    go_enter Try.func38, Try.ntmps38
    go_wp2_with (first
      | (go_at_call 64; refine (impl_meaningOf _ _ _ _ hs).mono ?_; rintro e w1 ⟨rfl, hb⟩; rw [HM.out]; have hk := bchain (w := w) (by go_grown) hb; have hz := hk.size; obtain ⟨hC, hF, hL, hE⟩ := kp hb; clear hb)
      | (go_at_call 70; refine (right_number _ _).mono ?_; rintro e w1 ⟨rfl, rfl⟩))
    all_goals
      go_ret
      exact ⟨ret_bool (by simp [ho]), by go_grown⟩
  · have HM : Hid (mOf 2 0 s = .iface 88 (.string s)) := hm
    clear hm
    go_enter Try.func38, Try.ntmps38
    go_wp2_with (first
      | (go_at_call 64; refine (impl_meaningOf _ _ _ _ hs).mono ?_; rintro e w1 ⟨rfl, hb⟩; rw [HM.out]; have hk := bchain (w := w) (by go_grown) hb; have hz := hk.size; obtain ⟨hC, hF, hL, hE⟩ := kp hb; clear hb)
      | (go_at_call 99; refine (right_wording _ _ hs).mono ?_; rintro e w1 ⟨rfl, rfl⟩))
    all_goals
      go_ret
      exact ⟨ret_bool (by simp [ho]), by go_grown⟩
  · have HM : Hid (mOf 3 n ⟨#[]⟩ = .iface 65 (.int .i64 n)) := hm
    clear hm
    go_enter Try.func38, Try.ntmps38
    go_wp2_with (first
      | (go_at_call 64; refine (impl_meaningOf _ _ _ _ hs).mono ?_; rintro e w1 ⟨rfl, hb⟩; rw [HM.out]; have hk := bchain (w := w) (by go_grown) hb; have hz := hk.size; obtain ⟨hC, hF, hL, hE⟩ := kp hb; clear hb)
      | (go_at_call 92; refine (right_truth _ _).mono ?_; rintro e w1 ⟨rfl, rfl⟩))
    all_goals
      go_ret
      exact ⟨ret_bool (by simp [ho]), by go_grown⟩
  · have HM : Hid (mOf 4 n ⟨#[]⟩ = .iface 51 (.int .i64 n)) := hm
    clear hm
    go_enter Try.func38, Try.ntmps38
    go_wp2_with (first
      | (go_at_call 64; refine (impl_meaningOf _ _ _ _ hs).mono ?_; rintro e w1 ⟨rfl, hb⟩; rw [HM.out]; have hk := bchain (w := w) (by go_grown) hb; have hz := hk.size; obtain ⟨hC, hF, hL, hE⟩ := kp hb; clear hb)
      | (go_at_call 91; refine (right_failure _ _).mono ?_; rintro e w1 ⟨rfl, rfl⟩))
    all_goals
      go_ret
      exact ⟨ret_bool (by simp [ho]), by go_grown⟩

theorem ta_misfit_blank (w : World) : (Instr.typeAssert (.iface 82 (.agg #[])) 68 84 true).run Try.prog w = .ok (.tuple #[.agg #[], .bool false]) w := by kernel_rfl
theorem ta_misfit_number (w : World) : (Instr.typeAssert (.iface 82 (.agg #[])) 68 56 true).run Try.prog w = .ok (.tuple #[.int .i64 0, .bool false]) w := by kernel_rfl
theorem ta_misfit_failure (w : World) : (Instr.typeAssert (.iface 82 (.agg #[])) 68 51 true).run Try.prog w = .ok (.tuple #[.int .i64 0, .bool false]) w := by kernel_rfl
theorem ta_blank_blank (w : World) : (Instr.typeAssert (.iface 84 (.agg #[])) 68 84 true).run Try.prog w = .ok (.tuple #[.agg #[], .bool true]) w := by kernel_rfl
theorem ta_number_blank (n : Int) (w : World) : (Instr.typeAssert (.iface 56 (.int .i64 n)) 68 84 true).run Try.prog w = .ok (.tuple #[.agg #[], .bool false]) w := by kernel_rfl
theorem ta_number_number (n : Int) (w : World) : (Instr.typeAssert (.iface 56 (.int .i64 n)) 68 56 true).run Try.prog w = .ok (.tuple #[.int .i64 n, .bool true]) w := by kernel_rfl
theorem ta_wording_blank (s : ByteArray) (w : World) : (Instr.typeAssert (.iface 88 (.string s)) 68 84 true).run Try.prog w = .ok (.tuple #[.agg #[], .bool false]) w := by kernel_rfl
theorem ta_wording_number (s : ByteArray) (w : World) : (Instr.typeAssert (.iface 88 (.string s)) 68 56 true).run Try.prog w = .ok (.tuple #[.int .i64 0, .bool false]) w := by kernel_rfl
theorem ta_wording_failure (s : ByteArray) (w : World) : (Instr.typeAssert (.iface 88 (.string s)) 68 51 true).run Try.prog w = .ok (.tuple #[.int .i64 0, .bool false]) w := by kernel_rfl
theorem ta_truth_blank (n : Int) (w : World) : (Instr.typeAssert (.iface 65 (.int .i64 n)) 68 84 true).run Try.prog w = .ok (.tuple #[.agg #[], .bool false]) w := by kernel_rfl
theorem ta_truth_number (n : Int) (w : World) : (Instr.typeAssert (.iface 65 (.int .i64 n)) 68 56 true).run Try.prog w = .ok (.tuple #[.int .i64 0, .bool false]) w := by kernel_rfl
theorem ta_truth_failure (n : Int) (w : World) : (Instr.typeAssert (.iface 65 (.int .i64 n)) 68 51 true).run Try.prog w = .ok (.tuple #[.int .i64 0, .bool false]) w := by kernel_rfl
theorem ta_failure_blank (n : Int) (w : World) : (Instr.typeAssert (.iface 51 (.int .i64 n)) 68 84 true).run Try.prog w = .ok (.tuple #[.agg #[], .bool false]) w := by kernel_rfl
theorem ta_failure_number (n : Int) (w : World) : (Instr.typeAssert (.iface 51 (.int .i64 n)) 68 56 true).run Try.prog w = .ok (.tuple #[.int .i64 0, .bool false]) w := by kernel_rfl
theorem ta_failure_failure (n : Int) (w : World) : (Instr.typeAssert (.iface 51 (.int .i64 n)) 68 51 true).run Try.prog w = .ok (.tuple #[.int .i64 n, .bool true]) w := by kernel_rfl

set_option maxHeartbeats 1000000 in
theorem impl_asNumber (k n : Int) (s : ByteArray) (w : World) (hs : s.size ≤ maxLen) : Calls Try.prog 69 #[.agg #[.int .i64 k, .int .i64 n, .string s]] w fun e w' =>
    e = .returned (.tuple #[.int .i64 (numX k n s), .int .i64 (numE k n s)]) ∧ Below w.heap.size w w' := by
  rcases mOf_cases k n s with ⟨ho, hm⟩ | ⟨ho, rfl, rfl, rfl, hm⟩ | ⟨ho, rfl, hr, rfl, hm⟩ | ⟨ho, rfl, rfl, hr, hm⟩ | ⟨ho, rfl, hr, rfl, hm⟩ | ⟨ho, rfl, hr, rfl, hm⟩
  · have HM : Hid (mOf k n s = .iface 82 (.agg #[])) := hm
    clear hm
    have t0 := ta_misfit_blank
    have t1 := ta_misfit_number
    have t2 := ta_misfit_failure
    go_enter Try.func69, Try.ntmps69
    go_wp2_with (first
      | (go_at_call 64; refine (impl_meaningOf _ _ _ _ hs).mono ?_; rintro e w1 ⟨rfl, hb⟩; rw [HM.out]; have hk := bchain (w := w) (by go_grown) hb; have hz := hk.size; obtain ⟨hC, hF, hL, hE⟩ := kp hb; clear hb))
    all_goals
      go_ret2
      exact ⟨ret_val (by simp [numX, numE, ho]), by go_grown⟩
  · have HM : Hid (mOf 0 0 ⟨#[]⟩ = .iface 84 (.agg #[])) := hm
    clear hm
    have t0 := ta_blank_blank
    go_enter Try.func69, Try.ntmps69
    go_wp2_with (first
      | (go_at_call 64; refine (impl_meaningOf _ _ _ _ hs).mono ?_; rintro e w1 ⟨rfl, hb⟩; rw [HM.out]; have hk := bchain (w := w) (by go_grown) hb; have hz := hk.size; obtain ⟨hC, hF, hL, hE⟩ := kp hb; clear hb))
    all_goals
      go_ret2
      exact ⟨ret_val (by simp [numX, numE, ho]), by go_grown⟩
  · have HM : Hid (mOf 1 n ⟨#[]⟩ = .iface 56 (.int .i64 n)) := hm
    clear hm
    have t0 := ta_number_blank n
    have t1 := ta_number_number n
    go_enter Try.func69, Try.ntmps69
    go_wp2_with (first
      | (go_at_call 64; refine (impl_meaningOf _ _ _ _ hs).mono ?_; rintro e w1 ⟨rfl, hb⟩; rw [HM.out]; have hk := bchain (w := w) (by go_grown) hb; have hz := hk.size; obtain ⟨hC, hF, hL, hE⟩ := kp hb; clear hb))
    all_goals
      go_ret2
      exact ⟨ret_val (by simp [numX, numE, ho]), by go_grown⟩
  · have HM : Hid (mOf 2 0 s = .iface 88 (.string s)) := hm
    clear hm
    have t0 := ta_wording_blank s
    have t1 := ta_wording_number s
    have t2 := ta_wording_failure s
    go_enter Try.func69, Try.ntmps69
    go_wp2_with (first
      | (go_at_call 64; refine (impl_meaningOf _ _ _ _ hs).mono ?_; rintro e w1 ⟨rfl, hb⟩; rw [HM.out]; have hk := bchain (w := w) (by go_grown) hb; have hz := hk.size; obtain ⟨hC, hF, hL, hE⟩ := kp hb; clear hb))
    all_goals
      go_ret2
      exact ⟨ret_val (by simp [numX, numE, ho]), by go_grown⟩
  · have HM : Hid (mOf 3 n ⟨#[]⟩ = .iface 65 (.int .i64 n)) := hm
    clear hm
    have t0 := ta_truth_blank n
    have t1 := ta_truth_number n
    have t2 := ta_truth_failure n
    go_enter Try.func69, Try.ntmps69
    go_wp2_with (first
      | (go_at_call 64; refine (impl_meaningOf _ _ _ _ hs).mono ?_; rintro e w1 ⟨rfl, hb⟩; rw [HM.out]; have hk := bchain (w := w) (by go_grown) hb; have hz := hk.size; obtain ⟨hC, hF, hL, hE⟩ := kp hb; clear hb))
    all_goals
      go_ret2
      exact ⟨ret_val (by simp [numX, numE, ho]), by go_grown⟩
  · have HM : Hid (mOf 4 n ⟨#[]⟩ = .iface 51 (.int .i64 n)) := hm
    clear hm
    have t0 := ta_failure_blank n
    have t1 := ta_failure_number n
    have t2 := ta_failure_failure n
    go_enter Try.func69, Try.ntmps69
    go_wp2_with (first
      | (go_at_call 64; refine (impl_meaningOf _ _ _ _ hs).mono ?_; rintro e w1 ⟨rfl, hb⟩; rw [HM.out]; have hk := bchain (w := w) (by go_grown) hb; have hz := hk.size; obtain ⟨hC, hF, hL, hE⟩ := kp hb; clear hb))
    all_goals
      go_ret2
      exact ⟨ret_val (by simp [numX, numE, ho]), by go_grown⟩
end Go.Proofs.Ytliipepekpdkfaa
