import Derived.Test.YtliipepekpdkfaaValsI
namespace Go.Proofs.Ytliipepekpdkfaa
open Go.RowKit

set_option maxHeartbeats 1000000 in
theorem impl_Add (k n : Int) (s : ByteArray) (k' n' : Int) (s' : ByteArray) (w : World) (hs : s.size ≤ maxLen) (hs' : s'.size ≤ maxLen) : Calls Try.prog 21 #[.agg #[.int .i64 k, .int .i64 n, .string s], .agg #[.int .i64 k', .int .i64 n', .string s']] w fun e w' =>
    e = .returned (.agg #[.int .i64 (opK (twoE k n s k' n' s') (twoX k n s k' n' s' + twoY k n s k' n' s')), .int .i64 (opN (twoE k n s k' n' s') (twoX k n s k' n' s' + twoY k n s k' n' s')), .string ⟨#[]⟩]) ∧ Below w.heap.size w w' := by
  by_cases h : twoE k n s k' n' s' = 0
  · have HE : Hid (twoE k n s k' n' s' = 0) := h
    have HB : Hid (bK (twoE k n s k' n' s') = 0) := by show bK _ = 0; simp [bK, h]
    have ⟨b1, b2⟩ := twoX_bd k n s k' n' s'
    have ⟨b3, b4⟩ := twoY_bd k n s k' n' s'
    clear h
    go_enter Try.func21, Try.ntmps21
    go_wp2_with (first
      | (go_at_call 47; refine (impl_bothAsNumbers _ _ _ _ _ _ _ hs hs').mono ?_; rintro e w1 ⟨rfl, hb⟩; rw [HE.out]; obtain ⟨hc, hf, hC, hF, hz, hk, l0, l1, l2⟩ := bk3 (w := w) (by go_grown) (by go_size) hb; clear hb)
      | (go_at_call 49; refine (impl_numberOrOver _ _).mono ?_; rintro e w1 ⟨rfl, hb⟩; obtain ⟨hc, hf, hC, hF, hz, hk, l0, l1, l2⟩ := bk3 (w := w) (by go_grown) (by go_size) hb; clear hb))
    all_goals
      refine bodyPost_ret (v := .agg #[.int .i64 (intK (twoX k n s k' n' s' + twoY k n s k' n' s')), .int .i64 (intN (twoX k n s k' n' s' + twoY k n s k' n' s')), .string ⟨#[]⟩]) ?_ rfl ⟨ret_val ?_, by go_grown⟩
      · simp (maxDischargeDepth := 9) [results, Try.results21, go_sem, *]
      · simp [opK, opN, HE.out]
  · have hq : (twoE k n s k' n' s' != 0) = true := by simpa using h
    have HB : Hid (bK (twoE k n s k' n' s') = 4) := by show bK _ = 4; simp [bK, h]
    go_enter Try.func21, Try.ntmps21
    go_wp2_with (first
      | (go_at_call 47; refine (impl_bothAsNumbers _ _ _ _ _ _ _ hs hs').mono ?_; rintro e w1 ⟨rfl, hb⟩; obtain ⟨hc, hf, hC, hF, hz, hk, l0, l1, l2⟩ := bk3 (w := w) (by go_grown) (by go_size) hb; clear hb)
      | (go_at_call 48; refine (value_failure _ _).mono ?_; rintro e w1 ⟨rfl, hb⟩; obtain ⟨hc, hf, hC, hF, hz, hk, l0, l1, l2⟩ := bk3 (w := w) (by go_grown) (by go_size) hb; clear hb))
    all_goals
      refine bodyPost_ret (v := .agg #[.int .i64 (4), .int .i64 (twoE k n s k' n' s'), .string ⟨#[]⟩]) ?_ rfl ⟨ret_val ?_, by go_grown⟩
      · simp (maxDischargeDepth := 9) [results, Try.results21, go_sem, *]
      · simp [opK, opN, h]

set_option maxHeartbeats 1000000 in
theorem spec_Add (k n : Int) (s : ByteArray) (k' n' : Int) (s' : ByteArray) (w : World) (hs : s.size ≤ maxLen) (hs' : s'.size ≤ maxLen) : Calls Try.prog 23 #[.agg #[.int .i64 k, .int .i64 n, .string s], .agg #[.int .i64 k', .int .i64 n', .string s']] w fun e w' =>
    e = .returned (.agg #[.int .i64 (opK (twoE k n s k' n' s') (twoX k n s k' n' s' + twoY k n s k' n' s')), .int .i64 (opN (twoE k n s k' n' s') (twoX k n s k' n' s' + twoY k n s k' n' s')), .string ⟨#[]⟩]) ∧ Below w.heap.size w w' := by
  by_cases h : twoE k n s k' n' s' = 0
  · have HE : Hid (twoE k n s k' n' s' = 0) := h
    have HB : Hid (bK (twoE k n s k' n' s') = 0) := by show bK _ = 0; simp [bK, h]
    have ⟨b1, b2⟩ := twoX_bd k n s k' n' s'
    have ⟨b3, b4⟩ := twoY_bd k n s k' n' s'
    clear h
    go_enter Try.func23, Try.ntmps23
    go_wp2_with (first
      | (go_at_call 52; refine (spec_l2Two _ _ _ _ _ _ _ hs hs').mono ?_; rintro e w1 ⟨rfl, hb⟩; rw [HB.out]; obtain ⟨hc, hf, hC, hF, hz, hk, l0, l1, l2⟩ := bk3 (w := w) (by go_grown) (by go_size) hb; clear hb)
      | (go_at_call 53; refine (spec_l2Int _ _).mono ?_; rintro e w1 ⟨rfl, hb⟩; obtain ⟨hc, hf, hC, hF, hz, hk, l0, l1, l2⟩ := bk3 (w := w) (by go_grown) (by go_size) hb; clear hb))
    all_goals
      refine bodyPost_ret (v := .agg #[.int .i64 (intK (twoX k n s k' n' s' + twoY k n s k' n' s')), .int .i64 (intN (twoX k n s k' n' s' + twoY k n s k' n' s')), .string ⟨#[]⟩]) ?_ rfl ⟨ret_val ?_, by go_grown⟩
      · simp (maxDischargeDepth := 9) [results, Try.results23, go_sem, *]
      · simp [opK, opN, HE.out]
  · have hq : (twoE k n s k' n' s' != 0) = true := by simpa using h
    have HB : Hid (bK (twoE k n s k' n' s') = 4) := by show bK _ = 4; simp [bK, h]
    go_enter Try.func23, Try.ntmps23
    go_wp2_with (first
      | (go_at_call 52; refine (spec_l2Two _ _ _ _ _ _ _ hs hs').mono ?_; rintro e w1 ⟨rfl, hb⟩; rw [HB.out]; obtain ⟨hc, hf, hC, hF, hz, hk, l0, l1, l2⟩ := bk3 (w := w) (by go_grown) (by go_size) hb; clear hb)
      | (go_at_call 54; refine (spec_l2Error _ _).mono ?_; rintro e w1 ⟨rfl, hb⟩; obtain ⟨hc, hf, hC, hF, hz, hk, l0, l1, l2⟩ := bk3 (w := w) (by go_grown) (by go_size) hb; clear hb))
    all_goals
      refine bodyPost_ret (v := .agg #[.int .i64 (4), .int .i64 (twoE k n s k' n' s'), .string ⟨#[]⟩]) ?_ rfl ⟨ret_val ?_, by go_grown⟩
      · simp (maxDischargeDepth := 9) [results, Try.results23, go_sem, *]
      · simp [opK, opN, h]

set_option maxHeartbeats 1000000 in
theorem impl_Less (k n : Int) (s : ByteArray) (k' n' : Int) (s' : ByteArray) (w : World) (hs : s.size ≤ maxLen) (hs' : s'.size ≤ maxLen) : Calls Try.prog 25 #[.agg #[.int .i64 k, .int .i64 n, .string s], .agg #[.int .i64 k', .int .i64 n', .string s']] w fun e w' =>
    e = .returned (.agg #[.int .i64 (opK (twoE k n s k' n' s') (twoX k n s k' n' s' - twoY k n s k' n' s')), .int .i64 (opN (twoE k n s k' n' s') (twoX k n s k' n' s' - twoY k n s k' n' s')), .string ⟨#[]⟩]) ∧ Below w.heap.size w w' := by
  by_cases h : twoE k n s k' n' s' = 0
  · have HE : Hid (twoE k n s k' n' s' = 0) := h
    have HB : Hid (bK (twoE k n s k' n' s') = 0) := by show bK _ = 0; simp [bK, h]
    have ⟨b1, b2⟩ := twoX_bd k n s k' n' s'
    have ⟨b3, b4⟩ := twoY_bd k n s k' n' s'
    clear h
    go_enter Try.func25, Try.ntmps25
    go_wp2_with (first
      | (go_at_call 47; refine (impl_bothAsNumbers _ _ _ _ _ _ _ hs hs').mono ?_; rintro e w1 ⟨rfl, hb⟩; rw [HE.out]; obtain ⟨hc, hf, hC, hF, hz, hk, l0, l1, l2⟩ := bk3 (w := w) (by go_grown) (by go_size) hb; clear hb)
      | (go_at_call 49; refine (impl_numberOrOver _ _).mono ?_; rintro e w1 ⟨rfl, hb⟩; obtain ⟨hc, hf, hC, hF, hz, hk, l0, l1, l2⟩ := bk3 (w := w) (by go_grown) (by go_size) hb; clear hb))
    all_goals
      refine bodyPost_ret (v := .agg #[.int .i64 (intK (twoX k n s k' n' s' - twoY k n s k' n' s')), .int .i64 (intN (twoX k n s k' n' s' - twoY k n s k' n' s')), .string ⟨#[]⟩]) ?_ rfl ⟨ret_val ?_, by go_grown⟩
      · simp (maxDischargeDepth := 9) [results, Try.results25, go_sem, *]
      · simp [opK, opN, HE.out]
  · have hq : (twoE k n s k' n' s' != 0) = true := by simpa using h
    have HB : Hid (bK (twoE k n s k' n' s') = 4) := by show bK _ = 4; simp [bK, h]
    go_enter Try.func25, Try.ntmps25
    go_wp2_with (first
      | (go_at_call 47; refine (impl_bothAsNumbers _ _ _ _ _ _ _ hs hs').mono ?_; rintro e w1 ⟨rfl, hb⟩; obtain ⟨hc, hf, hC, hF, hz, hk, l0, l1, l2⟩ := bk3 (w := w) (by go_grown) (by go_size) hb; clear hb)
      | (go_at_call 48; refine (value_failure _ _).mono ?_; rintro e w1 ⟨rfl, hb⟩; obtain ⟨hc, hf, hC, hF, hz, hk, l0, l1, l2⟩ := bk3 (w := w) (by go_grown) (by go_size) hb; clear hb))
    all_goals
      refine bodyPost_ret (v := .agg #[.int .i64 (4), .int .i64 (twoE k n s k' n' s'), .string ⟨#[]⟩]) ?_ rfl ⟨ret_val ?_, by go_grown⟩
      · simp (maxDischargeDepth := 9) [results, Try.results25, go_sem, *]
      · simp [opK, opN, h]

set_option maxHeartbeats 1000000 in
theorem spec_Less (k n : Int) (s : ByteArray) (k' n' : Int) (s' : ByteArray) (w : World) (hs : s.size ≤ maxLen) (hs' : s'.size ≤ maxLen) : Calls Try.prog 26 #[.agg #[.int .i64 k, .int .i64 n, .string s], .agg #[.int .i64 k', .int .i64 n', .string s']] w fun e w' =>
    e = .returned (.agg #[.int .i64 (opK (twoE k n s k' n' s') (twoX k n s k' n' s' - twoY k n s k' n' s')), .int .i64 (opN (twoE k n s k' n' s') (twoX k n s k' n' s' - twoY k n s k' n' s')), .string ⟨#[]⟩]) ∧ Below w.heap.size w w' := by
  by_cases h : twoE k n s k' n' s' = 0
  · have HE : Hid (twoE k n s k' n' s' = 0) := h
    have HB : Hid (bK (twoE k n s k' n' s') = 0) := by show bK _ = 0; simp [bK, h]
    have ⟨b1, b2⟩ := twoX_bd k n s k' n' s'
    have ⟨b3, b4⟩ := twoY_bd k n s k' n' s'
    clear h
    go_enter Try.func26, Try.ntmps26
    go_wp2_with (first
      | (go_at_call 52; refine (spec_l2Two _ _ _ _ _ _ _ hs hs').mono ?_; rintro e w1 ⟨rfl, hb⟩; rw [HB.out]; obtain ⟨hc, hf, hC, hF, hz, hk, l0, l1, l2⟩ := bk3 (w := w) (by go_grown) (by go_size) hb; clear hb)
      | (go_at_call 53; refine (spec_l2Int _ _).mono ?_; rintro e w1 ⟨rfl, hb⟩; obtain ⟨hc, hf, hC, hF, hz, hk, l0, l1, l2⟩ := bk3 (w := w) (by go_grown) (by go_size) hb; clear hb))
    all_goals
      refine bodyPost_ret (v := .agg #[.int .i64 (intK (twoX k n s k' n' s' - twoY k n s k' n' s')), .int .i64 (intN (twoX k n s k' n' s' - twoY k n s k' n' s')), .string ⟨#[]⟩]) ?_ rfl ⟨ret_val ?_, by go_grown⟩
      · simp (maxDischargeDepth := 9) [results, Try.results26, go_sem, *]
      · simp [opK, opN, HE.out]
  · have hq : (twoE k n s k' n' s' != 0) = true := by simpa using h
    have HB : Hid (bK (twoE k n s k' n' s') = 4) := by show bK _ = 4; simp [bK, h]
    go_enter Try.func26, Try.ntmps26
    go_wp2_with (first
      | (go_at_call 52; refine (spec_l2Two _ _ _ _ _ _ _ hs hs').mono ?_; rintro e w1 ⟨rfl, hb⟩; rw [HB.out]; obtain ⟨hc, hf, hC, hF, hz, hk, l0, l1, l2⟩ := bk3 (w := w) (by go_grown) (by go_size) hb; clear hb)
      | (go_at_call 54; refine (spec_l2Error _ _).mono ?_; rintro e w1 ⟨rfl, hb⟩; obtain ⟨hc, hf, hC, hF, hz, hk, l0, l1, l2⟩ := bk3 (w := w) (by go_grown) (by go_size) hb; clear hb))
    all_goals
      refine bodyPost_ret (v := .agg #[.int .i64 (4), .int .i64 (twoE k n s k' n' s'), .string ⟨#[]⟩]) ?_ rfl ⟨ret_val ?_, by go_grown⟩
      · simp (maxDischargeDepth := 9) [results, Try.results26, go_sem, *]
      · simp [opK, opN, h]
end Go.Proofs.Ytliipepekpdkfaa
