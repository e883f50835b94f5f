import Derived.Test.YthagnaeemipnlaaValsO
namespace Go.Proofs.Ythagnaeemipnlaa
open Go.RowKit

def b01 (b : Bool) : Int := if b then 1 else 0
set_option maxHeartbeats 400000 in
theorem impl_truthValue (b : Bool) (w : World) : Calls Try.prog 28 #[.bool b] w fun e w' =>
    e = .returned (.agg #[.int .i64 3, .int .i64 (b01 b), .string ⟨#[]⟩]) ∧ Below w.heap.size w w' := by
  cases b
  all_goals
    go_enter Try.func28, Try.ntmps28
    go_wp2_with (go_at_call 51; refine (value_truth _ _).mono ?_; rintro e w1 ⟨rfl, hb⟩; obtain ⟨hc, hf, hC, hF, hz, hk, l0⟩ := bk1 (w := w) (by go_grown) (by go_size) hb; clear hb)
    refine bodyPost_ret (v := .agg #[.int .i64 3, .int .i64 _, .string ⟨#[]⟩]) ?_ rfl ⟨rfl, by go_grown⟩
    simp (maxDischargeDepth := 9) [results, Try.results28, go_sem, b01, *]

set_option maxHeartbeats 4000000 in
theorem impl_Held (op k n : Int) (s : ByteArray) (k' n' : Int) (s' : ByteArray) (w : World) (hs : s.size ≤ maxLen) (hs' : s'.size ≤ maxLen) : Calls Try.prog 9 #[.int .i64 op, .agg #[.int .i64 k, .int .i64 n, .string s], .agg #[.int .i64 k', .int .i64 n', .string s']] w fun e w' =>
    e = .returned (.agg #[.int .i64 (heldK op k n s k' n' s'), .int .i64 (heldN op k n s k' n' s'), .string (⟨#[]⟩)]) ∧ Below w.heap.size w w' := by
  cases ha : okV k n s
  · have HB : Hid (hBad op k n s k' n' s' = true) := by show hBad _ _ _ _ _ _ _ = true; simp [hBad, ha]
    go_enter Try.func9, Try.ntmps9
    go_wp2_with fail
    refine (impl_ValueOk _ _ _ _ hs).mono ?_
    rintro e w1 ⟨rfl, hb⟩
    rw [ha]
    obtain ⟨hc, hf, hC, hF, hz, hk, l0, l1, l2⟩ := bk3 (w := w) (by go_grown) (by go_size) hb; clear hb
    go_wp2_with (first
      | (go_at_call 27; refine (value_failure _ _).mono ?_; rintro e w1 ⟨rfl, hb⟩; obtain ⟨hc, hf, hC, hF, hz, hk, l0, l1, l2⟩ := bk3 (w := w) (by go_grown) (by go_size) hb; clear hb))
    all_goals
      refine bodyPost_ret (v := .agg #[.int .i64 (4), .int .i64 (2), .string (⟨#[]⟩)]) ?_ rfl ⟨ret_val ?_, by go_grown⟩
      · simp (maxDischargeDepth := 9) [results, Try.results9, go_sem, *]
      · simp [heldK, heldN, HB.out]
  cases hb' : okV k' n' s'
  · have HB : Hid (hBad op k n s k' n' s' = true) := by show hBad _ _ _ _ _ _ _ = true; simp [hBad, hb']
    go_enter Try.func9, Try.ntmps9
    go_wp2_with fail
    refine (impl_ValueOk _ _ _ _ hs).mono ?_
    rintro e w1 ⟨rfl, hb⟩
    rw [ha]
    obtain ⟨hc, hf, hC, hF, hz, hk, l0, l1, l2⟩ := bk3 (w := w) (by go_grown) (by go_size) hb; clear hb
    go_wp2_with fail
    refine (impl_ValueOk _ _ _ _ hs').mono ?_
    rintro e w1 ⟨rfl, hb⟩
    rw [hb']
    obtain ⟨hc, hf, hC, hF, hz, hk, l0, l1, l2⟩ := bk3 (w := w) (by go_grown) (by go_size) hb; clear hb
    go_wp2_with (first
      | (go_at_call 27; refine (value_failure _ _).mono ?_; rintro e w1 ⟨rfl, hb⟩; obtain ⟨hc, hf, hC, hF, hz, hk, l0, l1, l2⟩ := bk3 (w := w) (by go_grown) (by go_size) hb; clear hb))
    all_goals
      refine bodyPost_ret (v := .agg #[.int .i64 (4), .int .i64 (2), .string (⟨#[]⟩)]) ?_ rfl ⟨ret_val ?_, by go_grown⟩
      · simp (maxDischargeDepth := 9) [results, Try.results9, go_sem, *]
      · simp [heldK, heldN, HB.out]
  by_cases h6 : op < 6
  · have HB : Hid (hBad op k n s k' n' s' = true) := by show hBad _ _ _ _ _ _ _ = true; simp [hBad]; omega
    go_enter Try.func9, Try.ntmps9
    go_wp2_with fail
    refine (impl_ValueOk _ _ _ _ hs).mono ?_
    rintro e w1 ⟨rfl, hb⟩
    rw [ha]
    obtain ⟨hc, hf, hC, hF, hz, hk, l0, l1, l2⟩ := bk3 (w := w) (by go_grown) (by go_size) hb; clear hb
    go_wp2_with fail
    refine (impl_ValueOk _ _ _ _ hs').mono ?_
    rintro e w1 ⟨rfl, hb⟩
    rw [hb']
    obtain ⟨hc, hf, hC, hF, hz, hk, l0, l1, l2⟩ := bk3 (w := w) (by go_grown) (by go_size) hb; clear hb
    go_wp2_with (first
      | (go_at_call 27; refine (value_failure _ _).mono ?_; rintro e w1 ⟨rfl, hb⟩; obtain ⟨hc, hf, hC, hF, hz, hk, l0, l1, l2⟩ := bk3 (w := w) (by go_grown) (by go_size) hb; clear hb))
    all_goals
      refine bodyPost_ret (v := .agg #[.int .i64 (4), .int .i64 (2), .string (⟨#[]⟩)]) ?_ rfl ⟨ret_val ?_, by go_grown⟩
      · simp (maxDischargeDepth := 9) [results, Try.results9, go_sem, *]
      · simp [heldK, heldN, HB.out]
  by_cases h11 : 11 < op
  · have HB : Hid (hBad op k n s k' n' s' = true) := by show hBad _ _ _ _ _ _ _ = true; simp [hBad]; omega
    go_enter Try.func9, Try.ntmps9
    go_wp2_with fail
    refine (impl_ValueOk _ _ _ _ hs).mono ?_
    rintro e w1 ⟨rfl, hb⟩
    rw [ha]
    obtain ⟨hc, hf, hC, hF, hz, hk, l0, l1, l2⟩ := bk3 (w := w) (by go_grown) (by go_size) hb; clear hb
    go_wp2_with fail
    refine (impl_ValueOk _ _ _ _ hs').mono ?_
    rintro e w1 ⟨rfl, hb⟩
    rw [hb']
    obtain ⟨hc, hf, hC, hF, hz, hk, l0, l1, l2⟩ := bk3 (w := w) (by go_grown) (by go_size) hb; clear hb
    go_wp2_with (first
      | (go_at_call 27; refine (value_failure _ _).mono ?_; rintro e w1 ⟨rfl, hb⟩; obtain ⟨hc, hf, hC, hF, hz, hk, l0, l1, l2⟩ := bk3 (w := w) (by go_grown) (by go_size) hb; clear hb))
    all_goals
      refine bodyPost_ret (v := .agg #[.int .i64 (4), .int .i64 (2), .string (⟨#[]⟩)]) ?_ rfl ⟨ret_val ?_, by go_grown⟩
      · simp (maxDischargeDepth := 9) [results, Try.results9, go_sem, *]
      · simp [heldK, heldN, HB.out]
  have hd : decide (6 ≤ op ∧ op ≤ 11) = true := by simp; omega
  have HB : Hid (hBad op k n s k' n' s' = false) := by show hBad _ _ _ _ _ _ _ = false; simp only [hBad, ha, hb', hd]; rfl
  have hrng : 6 ≤ op ∧ op ≤ 11 := of_decide_eq_true hd
  by_cases h4 : k = 4
  · have HS := ok_err ha h4
    subst h4
    subst HS
    go_enter Try.func9, Try.ntmps9
    go_wp2_with fail
    refine (impl_ValueOk _ _ _ _ hs).mono ?_
    rintro e w1 ⟨rfl, hb⟩
    rw [ha]
    obtain ⟨hc, hf, hC, hF, hz, hk, l0, l1, l2⟩ := bk3 (w := w) (by go_grown) (by go_size) hb; clear hb
    go_wp2_with fail
    refine (impl_ValueOk _ _ _ _ hs').mono ?_
    rintro e w1 ⟨rfl, hb⟩
    rw [hb']
    obtain ⟨hc, hf, hC, hF, hz, hk, l0, l1, l2⟩ := bk3 (w := w) (by go_grown) (by go_size) hb; clear hb
    go_wp2_with (first
      | (go_at_call 27; refine (value_failure _ _).mono ?_; rintro e w1 ⟨rfl, hb⟩; obtain ⟨hc, hf, hC, hF, hz, hk, l0, l1, l2⟩ := bk3 (w := w) (by go_grown) (by go_size) hb; clear hb))
    all_goals
      refine bodyPost_ret (v := .agg #[.int .i64 (4), .int .i64 (n), .string (⟨#[]⟩)]) ?_ rfl ⟨ret_val ?_, by go_grown⟩
      · simp (maxDischargeDepth := 9) [results, Try.results9, go_sem, *]
      · simp [heldK, heldN, HB.out]
  have q4 : (k == 4) = false := by simpa using h4
  by_cases h4' : k' = 4
  · have HS := ok_err hb' h4'
    subst h4'
    subst HS
    go_enter Try.func9, Try.ntmps9
    go_wp2_with fail
    refine (impl_ValueOk _ _ _ _ hs).mono ?_
    rintro e w1 ⟨rfl, hb⟩
    rw [ha]
    obtain ⟨hc, hf, hC, hF, hz, hk, l0, l1, l2⟩ := bk3 (w := w) (by go_grown) (by go_size) hb; clear hb
    go_wp2_with fail
    refine (impl_ValueOk _ _ _ _ hs').mono ?_
    rintro e w1 ⟨rfl, hb⟩
    rw [hb']
    obtain ⟨hc, hf, hC, hF, hz, hk, l0, l1, l2⟩ := bk3 (w := w) (by go_grown) (by go_size) hb; clear hb
    go_wp2_with (first
      | (go_at_call 27; refine (value_failure _ _).mono ?_; rintro e w1 ⟨rfl, hb⟩; obtain ⟨hc, hf, hC, hF, hz, hk, l0, l1, l2⟩ := bk3 (w := w) (by go_grown) (by go_size) hb; clear hb))
    all_goals
      refine bodyPost_ret (v := .agg #[.int .i64 (4), .int .i64 (n'), .string (⟨#[]⟩)]) ?_ rfl ⟨ret_val ?_, by go_grown⟩
      · simp (maxDischargeDepth := 9) [results, Try.results9, go_sem, *]
      · simp [heldK, heldN, h4, HB.out]
  have q4' : (k' == 4) = false := by simpa using h4'
  have HA : Hid (k = 0 → n = 0 ∧ s = ⟨#[]⟩) := ok_blank ha
  have HA' : Hid (k' = 0 → n' = 0 ∧ s' = ⟨#[]⟩) := ok_blank hb'
  have HN : Hid (heldN op k n s k' n' s' = if holdsB op (ordV (likeK k k') n s (likeK k' k) n' s') then 1 else 0) := by show heldN _ _ _ _ _ _ _ = _; simp [heldN, h4, h4', HB.out]
  have HK : Hid (heldK op k n s k' n' s' = 3) := by show heldK _ _ _ _ _ _ _ = _; simp [heldK, h4, h4', HB.out]
  obtain ⟨hb0, HH⟩ : ∃ b, Hid (holdsB op (ordV (likeK k k') n s (likeK k' k) n' s') = b) := ⟨_, rfl⟩
  go_enter Try.func9, Try.ntmps9
  go_wp2_with fail
  refine (impl_ValueOk _ _ _ _ hs).mono ?_
  rintro e w1 ⟨rfl, hb⟩
  rw [ha]
  obtain ⟨hk0, hz0⟩ := bframe (B := w.heap.size + 2) (X := (((w.alloc (.cells #[.int .i64 k, .int .i64 n, .string s] 25)).alloc (.cells #[.int .i64 k', .int .i64 n', .string s'] 25)).alloc (.cells #[.int .i64 0, .int .i64 0, .string ⟨#[]⟩] 25))) (by go_grown) (by go_size) hb
  obtain ⟨hc, hf, hC, hF, hz, hk, l0, l1, l2⟩ := bk3 (w := w) (by go_grown) (by go_size) hb; clear hb
  go_wp2_with fail
  refine (impl_ValueOk _ _ _ _ hs').mono ?_
  rintro e w1 ⟨rfl, hb⟩
  rw [hb']
  obtain ⟨hk0, hz0⟩ := bframe (B := w.heap.size + 2) (X := (((w.alloc (.cells #[.int .i64 k, .int .i64 n, .string s] 25)).alloc (.cells #[.int .i64 k', .int .i64 n', .string s'] 25)).alloc (.cells #[.int .i64 0, .int .i64 0, .string ⟨#[]⟩] 25))) (by go_grown) (by go_size) hb
  obtain ⟨hc, hf, hC, hF, hz, hk, l0, l1, l2⟩ := bk3 (w := w) (by go_grown) (by go_size) hb; clear hb
  go_wp2_with (first
    | (go_at_call 27; refine (value_failure _ _).mono ?_; rintro e w1 ⟨rfl, hb⟩; obtain ⟨hc, hf, hC, hF, hz, hk, l0, l1, l2⟩ := bk3 (w := w) (by go_grown) (by go_size) hb; clear hb))
  go_region_held3 (fun w' => (∀ bq oq, bq < w.heap.size + 2 → w'.cell? ⟨bq, oq, none⟩ = (((w.alloc (.cells #[.int .i64 k, .int .i64 n, .string s] 25)).alloc (.cells #[.int .i64 k', .int .i64 n', .string s'] 25)).alloc (.cells #[.int .i64 0, .int .i64 0, .string ⟨#[]⟩] 25)).cell? ⟨bq, oq, none⟩) ∧ w.heap.size + 2 ≤ w'.heap.size ∧ Below (w.heap.size + 2) (((w.alloc (.cells #[.int .i64 k, .int .i64 n, .string s] 25)).alloc (.cells #[.int .i64 k', .int .i64 n', .string s'] 25)).alloc (.cells #[.int .i64 0, .int .i64 0, .string ⟨#[]⟩] 25)) w')
    (exact sc_of (by go_size) (by go_grown))
    (first
    | (go_at_call 31; refine (impl_besideOther _ _ _ _ _ _ _ (by first | exact HA.out | exact HA'.out)).mono ?_; rintro e w1 ⟨rfl, hb⟩; obtain ⟨hk, hz⟩ := bframe (B := w.heap.size + 2) (X := (((w.alloc (.cells #[.int .i64 k, .int .i64 n, .string s] 25)).alloc (.cells #[.int .i64 k', .int .i64 n', .string s'] 25)).alloc (.cells #[.int .i64 0, .int .i64 0, .string ⟨#[]⟩] 25))) (by go_grown) (by go_size) hb; obtain ⟨hC, hF, hL, hE⟩ := kp hb; (try simp only [World.size_drew] at hC hF hL hE); (try (refine cutLt (x := w.heap.size + 1 + 1) ?_ hb.size (fun hq => ?_); (focus (go_size; done)))); clear hb)
    | (go_at_call 30; refine (impl_Order _ _ _ _ _ _ _).mono ?_; rintro e w1 ⟨rfl, hb⟩; obtain ⟨hk, hz⟩ := bframe (B := w.heap.size + 2) (X := (((w.alloc (.cells #[.int .i64 k, .int .i64 n, .string s] 25)).alloc (.cells #[.int .i64 k', .int .i64 n', .string s'] 25)).alloc (.cells #[.int .i64 0, .int .i64 0, .string ⟨#[]⟩] 25))) (by go_grown) (by go_size) hb; obtain ⟨hC, hF, hL, hE⟩ := kp hb; (try simp only [World.size_drew] at hC hF hL hE); (try (refine cutLt (x := w.heap.size + 1 + 1) ?_ hb.size (fun hq => ?_); (focus (go_size; done)))); clear hb)
    | (go_at_call 29; refine (impl_holds _ _ _).mono ?_; rintro e w1 ⟨rfl, rfl⟩; rw [HH.out])
    | (go_at_call 28; refine (impl_truthValue _ _).mono ?_; rintro e w1 ⟨rfl, hb⟩; obtain ⟨hk, hz⟩ := bframe (B := w.heap.size + 2) (X := (((w.alloc (.cells #[.int .i64 k, .int .i64 n, .string s] 25)).alloc (.cells #[.int .i64 k', .int .i64 n', .string s'] 25)).alloc (.cells #[.int .i64 0, .int .i64 0, .string ⟨#[]⟩] 25))) (by go_grown) (by go_size) hb; obtain ⟨hC, hF, hL, hE⟩ := kp hb; (try simp only [World.size_drew] at hC hF hL hE); (try (refine cutLt (x := w.heap.size + 1 + 1) ?_ hb.size (fun hq => ?_); (focus (go_size; done)))); clear hb))
  all_goals go_wp2_with fail
  all_goals
    refine bodyPost_ret (v := .agg #[.int .i64 (3), .int .i64 (b01 hb0), .string (⟨#[]⟩)]) ?_ rfl ⟨ret_val ?_, bfin (n := 2) (X := (((w.alloc (.cells #[.int .i64 k, .int .i64 n, .string s] 25)).alloc (.cells #[.int .i64 k', .int .i64 n', .string s'] 25)).alloc (.cells #[.int .i64 0, .int .i64 0, .string ⟨#[]⟩] 25))) (by go_grown) (by go_grown)⟩
    · simp (maxDischargeDepth := 9) [results, Try.results9, go_sem, *]
    · rw [HK.out, HN.out, HH.out]; rfl
end Go.Proofs.Ythagnaeemipnlaa
