import Derived.Test.YtliipepekpdkfaaValsF
import Derived.RegionTactic
namespace Go.Proofs.Ytliipepekpdkfaa
open Go.RowKit

theorem fail_ne {n : Int} (h : rFail n = true) : n ≠ 0 := by unfold rFail at h; simp at h; omega

set_option maxHeartbeats 1000000 in
theorem spec_l2Num (k n : Int) (s : ByteArray) (w : World) (hs : s.size ≤ maxLen) : Calls Try.prog 55 #[.agg #[.int .i64 k, .int .i64 n, .string s]] w fun e w' =>
    e = .returned (.tuple #[.int .i64 (numX k n s), .agg #[.int .i64 (bK (numE k n s)), .int .i64 (numE k n s), .string ⟨#[]⟩]]) ∧ Below w.heap.size w w' := by
  rcases mOf_cases k n s with ⟨ho, hm⟩ | ⟨ho, rfl, rfl, rfl, hm⟩ | ⟨ho, rfl, hr, rfl, hm⟩ | ⟨ho, rfl, rfl, hr, hm⟩ | ⟨ho, rfl, hr, rfl, hm⟩ | ⟨ho, rfl, hr, rfl, hm⟩
  · clear hm
    go_enter Try.func55, Try.ntmps55
    go_wp2_with (first
      | (go_at_call 32; refine (spec_ValueOk _ _ _ _ hs).mono ?_; rintro e w1 ⟨rfl, hb⟩; rw [ho]; have hk := bchain (w := w) (by go_grown) hb; have hz := hk.size; obtain ⟨hC, hF, hL, hE⟩ := kp hb; clear hb)
      | (go_at_call 54; refine (spec_l2Error _ _).mono ?_; rintro e w1 ⟨rfl, hb⟩; have hk := bchain (w := w) (by go_grown) hb; have hz := hk.size; obtain ⟨hC, hF, hL, hE⟩ := kp hb; clear hb))
    all_goals
      refine bodyPost_ret (v := .tuple #[.int .i64 0, .agg #[.int .i64 4, .int .i64 2, .string ⟨#[]⟩]]) ?_ rfl ⟨ret_val ?_, by go_grown⟩
      · simp (maxDischargeDepth := 9) [results, Try.results55, go_sem, *]
      · simp [numX, numE, bK, ho]
  · clear hm
    go_enter Try.func55, Try.ntmps55
    go_wp2_with (first
      | (go_at_call 32; refine (spec_ValueOk _ _ _ _ hs).mono ?_; rintro e w1 ⟨rfl, hb⟩; rw [ho]; have hk := bchain (w := w) (by go_grown) hb; have hz := hk.size; obtain ⟨hC, hF, hL, hE⟩ := kp hb; clear hb)
      | (go_at_call 54; refine (spec_l2Error _ _).mono ?_; rintro e w1 ⟨rfl, hb⟩; have hk := bchain (w := w) (by go_grown) hb; have hz := hk.size; obtain ⟨hC, hF, hL, hE⟩ := kp hb; clear hb))
    all_goals
      refine bodyPost_ret (v := .tuple #[.int .i64 0, .agg #[.int .i64 0, .int .i64 0, .string ⟨#[]⟩]]) ?_ rfl ⟨ret_val ?_, by go_grown⟩
      · simp (maxDischargeDepth := 9) [results, Try.results55, go_sem, *]
      · simp [numX, numE, bK, ho]
  · clear hm
    go_enter Try.func55, Try.ntmps55
    go_wp2_with (first
      | (go_at_call 32; refine (spec_ValueOk _ _ _ _ hs).mono ?_; rintro e w1 ⟨rfl, hb⟩; rw [ho]; have hk := bchain (w := w) (by go_grown) hb; have hz := hk.size; obtain ⟨hC, hF, hL, hE⟩ := kp hb; clear hb)
      | (go_at_call 54; refine (spec_l2Error _ _).mono ?_; rintro e w1 ⟨rfl, hb⟩; have hk := bchain (w := w) (by go_grown) hb; have hz := hk.size; obtain ⟨hC, hF, hL, hE⟩ := kp hb; clear hb))
    all_goals
      refine bodyPost_ret (v := .tuple #[.int .i64 n, .agg #[.int .i64 0, .int .i64 0, .string ⟨#[]⟩]]) ?_ rfl ⟨ret_val ?_, by go_grown⟩
      · simp (maxDischargeDepth := 9) [results, Try.results55, go_sem, *]
      · simp [numX, numE, bK, ho]
  · clear hm
    go_enter Try.func55, Try.ntmps55
    go_wp2_with (first
      | (go_at_call 32; refine (spec_ValueOk _ _ _ _ hs).mono ?_; rintro e w1 ⟨rfl, hb⟩; rw [ho]; have hk := bchain (w := w) (by go_grown) hb; have hz := hk.size; obtain ⟨hC, hF, hL, hE⟩ := kp hb; clear hb)
      | (go_at_call 54; refine (spec_l2Error _ _).mono ?_; rintro e w1 ⟨rfl, hb⟩; have hk := bchain (w := w) (by go_grown) hb; have hz := hk.size; obtain ⟨hC, hF, hL, hE⟩ := kp hb; clear hb))
    all_goals
      refine bodyPost_ret (v := .tuple #[.int .i64 0, .agg #[.int .i64 4, .int .i64 2, .string ⟨#[]⟩]]) ?_ rfl ⟨ret_val ?_, by go_grown⟩
      · simp (maxDischargeDepth := 9) [results, Try.results55, go_sem, *]
      · simp [numX, numE, bK, ho]
  · clear hm
    go_enter Try.func55, Try.ntmps55
    go_wp2_with (first
      | (go_at_call 32; refine (spec_ValueOk _ _ _ _ hs).mono ?_; rintro e w1 ⟨rfl, hb⟩; rw [ho]; have hk := bchain (w := w) (by go_grown) hb; have hz := hk.size; obtain ⟨hC, hF, hL, hE⟩ := kp hb; clear hb)
      | (go_at_call 54; refine (spec_l2Error _ _).mono ?_; rintro e w1 ⟨rfl, hb⟩; have hk := bchain (w := w) (by go_grown) hb; have hz := hk.size; obtain ⟨hC, hF, hL, hE⟩ := kp hb; clear hb))
    all_goals
      refine bodyPost_ret (v := .tuple #[.int .i64 0, .agg #[.int .i64 4, .int .i64 2, .string ⟨#[]⟩]]) ?_ rfl ⟨ret_val ?_, by go_grown⟩
      · simp (maxDischargeDepth := 9) [results, Try.results55, go_sem, *]
      · simp [numX, numE, bK, ho]
  · clear hm
    have hn := fail_ne hr
    go_enter Try.func55, Try.ntmps55
    go_wp2_with (first
      | (go_at_call 32; refine (spec_ValueOk _ _ _ _ hs).mono ?_; rintro e w1 ⟨rfl, hb⟩; rw [ho]; have hk := bchain (w := w) (by go_grown) hb; have hz := hk.size; obtain ⟨hC, hF, hL, hE⟩ := kp hb; clear hb)
      | (go_at_call 54; refine (spec_l2Error _ _).mono ?_; rintro e w1 ⟨rfl, hb⟩; have hk := bchain (w := w) (by go_grown) hb; have hz := hk.size; obtain ⟨hC, hF, hL, hE⟩ := kp hb; clear hb))
    go_region
    all_goals go_wp2_with fail
    all_goals
      refine bodyPost_ret (v := .tuple #[.int .i64 0, .agg #[.int .i64 4, .int .i64 n, .string ⟨#[]⟩]]) ?_ rfl ⟨ret_val ?_, by go_grown⟩
      · simp (maxDischargeDepth := 9) [results, Try.results55, go_sem, *]
      · simp [numX, numE, bK, ho, hn]
end Go.Proofs.Ytliipepekpdkfaa
