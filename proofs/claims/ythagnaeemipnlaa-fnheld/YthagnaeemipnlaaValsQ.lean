import Derived.Test.YthagnaeemipnlaaValsO
namespace Go.Proofs.Ythagnaeemipnlaa
open Go.RowKit

set_option maxHeartbeats 4000000 in
theorem spec_Held (op k n : Int) (s : ByteArray) (k' n' : Int) (s' : ByteArray) (w : World) (hs : s.size ≤ maxLen) (hs' : s'.size ≤ maxLen) : Calls Try.prog 10 #[.int .i64 op, .agg #[.int .i64 k, .int .i64 n, .string s], .agg #[.int .i64 k', .int .i64 n', .string s']] w fun e w' =>
    e = .returned (.agg #[.int .i64 (heldK op k n s k' n' s'), .int .i64 (heldN op k n s k' n' s'), .string (⟨#[]⟩)]) ∧ Below w.heap.size w w' := by
  cases ha : okV k n s
  · have HB : Hid (hBad op k n s k' n' s' = true) := by show hBad _ _ _ _ _ _ _ = true; simp [hBad, ha]
    go_enter Try.func10, Try.ntmps10
    go_wp2_with fail
    refine (spec_ValueOk _ _ _ _ hs).mono ?_
    rintro e w1 ⟨rfl, hb⟩
    rw [ha]
    obtain ⟨hc, hf, hC, hF, hz, hk, l0, l1, l2⟩ := bk3 (w := w) (by go_grown) (by go_size) hb; clear hb
    go_wp2_with (first
      | (go_at_call 34; refine (spec_l2Error _ _).mono ?_; rintro e w1 ⟨rfl, hb⟩; obtain ⟨hc, hf, hC, hF, hz, hk, l0, l1, l2⟩ := bk3 (w := w) (by go_grown) (by go_size) hb; clear hb))
    all_goals
      refine bodyPost_ret (v := .agg #[.int .i64 (4), .int .i64 (2), .string (⟨#[]⟩)]) ?_ rfl ⟨ret_val ?_, by go_grown⟩
      · simp (maxDischargeDepth := 9) [results, Try.results10, go_sem, *]
      · simp [heldK, heldN, HB.out]
  cases hb' : okV k' n' s'
  · have HB : Hid (hBad op k n s k' n' s' = true) := by show hBad _ _ _ _ _ _ _ = true; simp [hBad, hb']
    go_enter Try.func10, Try.ntmps10
    go_wp2_with fail
    refine (spec_ValueOk _ _ _ _ hs).mono ?_
    rintro e w1 ⟨rfl, hb⟩
    rw [ha]
    obtain ⟨hc, hf, hC, hF, hz, hk, l0, l1, l2⟩ := bk3 (w := w) (by go_grown) (by go_size) hb; clear hb
    go_wp2_with fail
    refine (spec_ValueOk _ _ _ _ hs').mono ?_
    rintro e w1 ⟨rfl, hb⟩
    rw [hb']
    obtain ⟨hc, hf, hC, hF, hz, hk, l0, l1, l2⟩ := bk3 (w := w) (by go_grown) (by go_size) hb; clear hb
    go_wp2_with (first
      | (go_at_call 34; refine (spec_l2Error _ _).mono ?_; rintro e w1 ⟨rfl, hb⟩; obtain ⟨hc, hf, hC, hF, hz, hk, l0, l1, l2⟩ := bk3 (w := w) (by go_grown) (by go_size) hb; clear hb))
    all_goals
      refine bodyPost_ret (v := .agg #[.int .i64 (4), .int .i64 (2), .string (⟨#[]⟩)]) ?_ rfl ⟨ret_val ?_, by go_grown⟩
      · simp (maxDischargeDepth := 9) [results, Try.results10, go_sem, *]
      · simp [heldK, heldN, HB.out]
  cases hd : decide (6 ≤ op ∧ op ≤ 11)
  · have HB : Hid (hBad op k n s k' n' s' = true) := by show hBad _ _ _ _ _ _ _ = true; simp only [hBad, hd]; simp
    go_enter Try.func10, Try.ntmps10
    go_wp2_with fail
    refine (spec_ValueOk _ _ _ _ hs).mono ?_
    rintro e w1 ⟨rfl, hb⟩
    rw [ha]
    obtain ⟨hc, hf, hC, hF, hz, hk, l0, l1, l2⟩ := bk3 (w := w) (by go_grown) (by go_size) hb; clear hb
    go_wp2_with fail
    refine (spec_ValueOk _ _ _ _ hs').mono ?_
    rintro e w1 ⟨rfl, hb⟩
    rw [hb']
    obtain ⟨hc, hf, hC, hF, hz, hk, l0, l1, l2⟩ := bk3 (w := w) (by go_grown) (by go_size) hb; clear hb
    go_wp2_with (first
      | (go_at_call 34; refine (spec_l2Error _ _).mono ?_; rintro e w1 ⟨rfl, hb⟩; obtain ⟨hc, hf, hC, hF, hz, hk, l0, l1, l2⟩ := bk3 (w := w) (by go_grown) (by go_size) hb; clear hb)
      | (go_at_call 33; refine (spec_l1In _ _ _ _).mono ?_; rintro e w1 ⟨rfl, rfl⟩; rw [hd]))
    all_goals
      refine bodyPost_ret (v := .agg #[.int .i64 (4), .int .i64 (2), .string (⟨#[]⟩)]) ?_ rfl ⟨ret_val ?_, by go_grown⟩
      · simp (maxDischargeDepth := 9) [results, Try.results10, go_sem, *]
      · simp [heldK, heldN, HB.out]
  have HB : Hid (hBad op k n s k' n' s' = false) := by show hBad _ _ _ _ _ _ _ = false; simp only [hBad, ha, hb', hd]; rfl
  have hrng : 6 ≤ op ∧ op ≤ 11 := of_decide_eq_true hd
  by_cases h4 : k = 4
  · have HS := ok_err ha h4
    subst h4
    subst HS
    go_enter Try.func10, Try.ntmps10
    go_wp2_with fail
    refine (spec_ValueOk _ _ _ _ hs).mono ?_
    rintro e w1 ⟨rfl, hb⟩
    rw [ha]
    obtain ⟨hc, hf, hC, hF, hz, hk, l0, l1, l2⟩ := bk3 (w := w) (by go_grown) (by go_size) hb; clear hb
    go_wp2_with fail
    refine (spec_ValueOk _ _ _ _ hs').mono ?_
    rintro e w1 ⟨rfl, hb⟩
    rw [hb']
    obtain ⟨hc, hf, hC, hF, hz, hk, l0, l1, l2⟩ := bk3 (w := w) (by go_grown) (by go_size) hb; clear hb
    go_wp2_with (first
      | (go_at_call 34; refine (spec_l2Error _ _).mono ?_; rintro e w1 ⟨rfl, hb⟩; obtain ⟨hc, hf, hC, hF, hz, hk, l0, l1, l2⟩ := bk3 (w := w) (by go_grown) (by go_size) hb; clear hb)
      | (go_at_call 33; refine (spec_l1In _ _ _ _).mono ?_; rintro e w1 ⟨rfl, rfl⟩; rw [hd]))
    all_goals
      refine bodyPost_ret (v := .agg #[.int .i64 (4), .int .i64 (n), .string (⟨#[]⟩)]) ?_ rfl ⟨ret_val ?_, by go_grown⟩
      · simp (maxDischargeDepth := 9) [results, Try.results10, go_sem, *]
      · simp [heldK, heldN, HB.out]
  have q4 : (k == 4) = false := by simpa using h4
  by_cases h4' : k' = 4
  · have HS := ok_err hb' h4'
    subst h4'
    subst HS
    go_enter Try.func10, Try.ntmps10
    go_wp2_with fail
    refine (spec_ValueOk _ _ _ _ hs).mono ?_
    rintro e w1 ⟨rfl, hb⟩
    rw [ha]
    obtain ⟨hc, hf, hC, hF, hz, hk, l0, l1, l2⟩ := bk3 (w := w) (by go_grown) (by go_size) hb; clear hb
    go_wp2_with fail
    refine (spec_ValueOk _ _ _ _ hs').mono ?_
    rintro e w1 ⟨rfl, hb⟩
    rw [hb']
    obtain ⟨hc, hf, hC, hF, hz, hk, l0, l1, l2⟩ := bk3 (w := w) (by go_grown) (by go_size) hb; clear hb
    go_wp2_with (first
      | (go_at_call 34; refine (spec_l2Error _ _).mono ?_; rintro e w1 ⟨rfl, hb⟩; obtain ⟨hc, hf, hC, hF, hz, hk, l0, l1, l2⟩ := bk3 (w := w) (by go_grown) (by go_size) hb; clear hb)
      | (go_at_call 33; refine (spec_l1In _ _ _ _).mono ?_; rintro e w1 ⟨rfl, rfl⟩; rw [hd]))
    all_goals
      refine bodyPost_ret (v := .agg #[.int .i64 (4), .int .i64 (n'), .string (⟨#[]⟩)]) ?_ rfl ⟨ret_val ?_, by go_grown⟩
      · simp (maxDischargeDepth := 9) [results, Try.results10, go_sem, *]
      · simp [heldK, heldN, h4, HB.out]
  have q4' : (k' == 4) = false := by simpa using h4'
  have HA : Hid (k = 0 → n = 0 ∧ s = ⟨#[]⟩) := ok_blank ha
  have HA' : Hid (k' = 0 → n' = 0 ∧ s' = ⟨#[]⟩) := ok_blank hb'
  have HN : Hid (heldN op k n s k' n' s' = if holdsB op (ordV (likeK k k') n s (likeK k' k) n' s') then 1 else 0) := by show heldN _ _ _ _ _ _ _ = _; simp [heldN, h4, h4', HB.out]
  have HK : Hid (heldK op k n s k' n' s' = 3) := by show heldK _ _ _ _ _ _ _ = _; simp [heldK, h4, h4', HB.out]
  by_cases hv6 : op = 6
  · subst hv6
    generalize hoo : ordV (likeK k k') n s (likeK k' k) n' s' = oo at *
    have HOO : Hid (ordV (likeK k k') n s (likeK k' k) n' s' = oo) := hoo
    clear hoo
    go_enter Try.func10, Try.ntmps10
    go_wp2_with fail
    refine (spec_ValueOk _ _ _ _ hs).mono ?_
    rintro e w1 ⟨rfl, hb⟩
    rw [ha]
    obtain ⟨hk0, hz0⟩ := bframe (B := w.heap.size + 2) (X := (((w.alloc (.cells #[.int .i64 k, .int .i64 n, .string s] 25)).alloc (.cells #[.int .i64 k', .int .i64 n', .string s'] 25)).alloc (.cells #[.int .i64 0, .int .i64 0, .string ⟨#[]⟩] 25))) (by go_grown) (by go_size) hb
    obtain ⟨hc, hf, hC, hF, hz, hk, l0, l1, l2⟩ := bk3 (w := w) (by go_grown) (by go_size) hb; clear hb
    go_wp2_with fail
    refine (spec_ValueOk _ _ _ _ hs').mono ?_
    rintro e w1 ⟨rfl, hb⟩
    rw [hb']
    obtain ⟨hk0, hz0⟩ := bframe (B := w.heap.size + 2) (X := (((w.alloc (.cells #[.int .i64 k, .int .i64 n, .string s] 25)).alloc (.cells #[.int .i64 k', .int .i64 n', .string s'] 25)).alloc (.cells #[.int .i64 0, .int .i64 0, .string ⟨#[]⟩] 25))) (by go_grown) (by go_size) hb
    obtain ⟨hc, hf, hC, hF, hz, hk, l0, l1, l2⟩ := bk3 (w := w) (by go_grown) (by go_size) hb; clear hb
    go_wp2_with (first
      | (go_at_call 34; refine (spec_l2Error _ _).mono ?_; rintro e w1 ⟨rfl, hb⟩; obtain ⟨hc, hf, hC, hF, hz, hk, l0, l1, l2⟩ := bk3 (w := w) (by go_grown) (by go_size) hb; clear hb)
      | (go_at_call 33; refine (spec_l1In _ _ _ _).mono ?_; rintro e w1 ⟨rfl, rfl⟩; rw [hd]))
    go_region_held3 (fun w' => (∀ bq oq, bq < w.heap.size + 2 → w'.cell? ⟨bq, oq, none⟩ = (((w.alloc (.cells #[.int .i64 k, .int .i64 n, .string s] 25)).alloc (.cells #[.int .i64 k', .int .i64 n', .string s'] 25)).alloc (.cells #[.int .i64 0, .int .i64 0, .string ⟨#[]⟩] 25)).cell? ⟨bq, oq, none⟩) ∧ w.heap.size + 2 ≤ w'.heap.size ∧ Below (w.heap.size + 2) (((w.alloc (.cells #[.int .i64 k, .int .i64 n, .string s] 25)).alloc (.cells #[.int .i64 k', .int .i64 n', .string s'] 25)).alloc (.cells #[.int .i64 0, .int .i64 0, .string ⟨#[]⟩] 25)) w')
      (exact sc_of (by go_size) (by go_grown))
      (first
      | (go_at_call 36; refine (spec_l2Like _ _ _ _ _ _ _).mono ?_; rintro e w1 ⟨rfl, hb⟩; obtain ⟨hk, hz⟩ := bframe (B := w.heap.size + 2) (X := (((w.alloc (.cells #[.int .i64 k, .int .i64 n, .string s] 25)).alloc (.cells #[.int .i64 k', .int .i64 n', .string s'] 25)).alloc (.cells #[.int .i64 0, .int .i64 0, .string ⟨#[]⟩] 25))) (by go_grown) (by go_size) hb; obtain ⟨hC, hF, hL, hE⟩ := kp hb; (try simp only [World.size_drew] at hC hF hL hE); (try (refine cutLt (x := w.heap.size + 1 + 1) ?_ hb.size (fun hq => ?_); (focus (go_size; done)))); clear hb)
      | (go_at_call 35; refine (spec_Order _ _ _ _ _ _ _).mono ?_; rintro e w1 ⟨rfl, hb⟩; rw [HOO.out]; obtain ⟨hk, hz⟩ := bframe (B := w.heap.size + 2) (X := (((w.alloc (.cells #[.int .i64 k, .int .i64 n, .string s] 25)).alloc (.cells #[.int .i64 k', .int .i64 n', .string s'] 25)).alloc (.cells #[.int .i64 0, .int .i64 0, .string ⟨#[]⟩] 25))) (by go_grown) (by go_size) hb; obtain ⟨hC, hF, hL, hE⟩ := kp hb; (try simp only [World.size_drew] at hC hF hL hE); (try (refine cutLt (x := w.heap.size + 1 + 1) ?_ hb.size (fun hq => ?_); (focus (go_size; done)))); clear hb))
    all_goals go_wp2_with (first
      | (go_at_call 37; refine (spec_l2Flag _ _).mono ?_; rintro e w1 ⟨rfl, hb⟩; obtain ⟨hk, hz⟩ := bframe (B := w.heap.size + 2) (X := (((w.alloc (.cells #[.int .i64 k, .int .i64 n, .string s] 25)).alloc (.cells #[.int .i64 k', .int .i64 n', .string s'] 25)).alloc (.cells #[.int .i64 0, .int .i64 0, .string ⟨#[]⟩] 25))) (by go_grown) (by go_size) hb; obtain ⟨hC, hF, hL, hE⟩ := kp hb; (try simp only [World.size_drew] at hC hF hL hE); (try (refine cutLt (x := w.heap.size + 1 + 1) ?_ hb.size (fun hq => ?_); (focus (go_size; done)))); clear hb))
    all_goals
      refine bodyPost_ret (v := .agg #[.int .i64 (3), .int .i64 (if holdsB 6 oo then 1 else 0), .string (⟨#[]⟩)]) ?_ rfl ⟨ret_val ?_, bfin (n := 2) (X := (((w.alloc (.cells #[.int .i64 k, .int .i64 n, .string s] 25)).alloc (.cells #[.int .i64 k', .int .i64 n', .string s'] 25)).alloc (.cells #[.int .i64 0, .int .i64 0, .string ⟨#[]⟩] 25))) (by go_grown) (by go_grown)⟩
      · simp (maxDischargeDepth := 9) [results, Try.results10, go_sem, holdsB, *]
      · rw [HK.out, HN.out]
  by_cases hv7 : op = 7
  · subst hv7
    generalize hoo : ordV (likeK k k') n s (likeK k' k) n' s' = oo at *
    have HOO : Hid (ordV (likeK k k') n s (likeK k' k) n' s' = oo) := hoo
    clear hoo
    go_enter Try.func10, Try.ntmps10
    go_wp2_with fail
    refine (spec_ValueOk _ _ _ _ hs).mono ?_
    rintro e w1 ⟨rfl, hb⟩
    rw [ha]
    obtain ⟨hk0, hz0⟩ := bframe (B := w.heap.size + 2) (X := (((w.alloc (.cells #[.int .i64 k, .int .i64 n, .string s] 25)).alloc (.cells #[.int .i64 k', .int .i64 n', .string s'] 25)).alloc (.cells #[.int .i64 0, .int .i64 0, .string ⟨#[]⟩] 25))) (by go_grown) (by go_size) hb
    obtain ⟨hc, hf, hC, hF, hz, hk, l0, l1, l2⟩ := bk3 (w := w) (by go_grown) (by go_size) hb; clear hb
    go_wp2_with fail
    refine (spec_ValueOk _ _ _ _ hs').mono ?_
    rintro e w1 ⟨rfl, hb⟩
    rw [hb']
    obtain ⟨hk0, hz0⟩ := bframe (B := w.heap.size + 2) (X := (((w.alloc (.cells #[.int .i64 k, .int .i64 n, .string s] 25)).alloc (.cells #[.int .i64 k', .int .i64 n', .string s'] 25)).alloc (.cells #[.int .i64 0, .int .i64 0, .string ⟨#[]⟩] 25))) (by go_grown) (by go_size) hb
    obtain ⟨hc, hf, hC, hF, hz, hk, l0, l1, l2⟩ := bk3 (w := w) (by go_grown) (by go_size) hb; clear hb
    go_wp2_with (first
      | (go_at_call 34; refine (spec_l2Error _ _).mono ?_; rintro e w1 ⟨rfl, hb⟩; obtain ⟨hc, hf, hC, hF, hz, hk, l0, l1, l2⟩ := bk3 (w := w) (by go_grown) (by go_size) hb; clear hb)
      | (go_at_call 33; refine (spec_l1In _ _ _ _).mono ?_; rintro e w1 ⟨rfl, rfl⟩; rw [hd]))
    go_region_held3 (fun w' => (∀ bq oq, bq < w.heap.size + 2 → w'.cell? ⟨bq, oq, none⟩ = (((w.alloc (.cells #[.int .i64 k, .int .i64 n, .string s] 25)).alloc (.cells #[.int .i64 k', .int .i64 n', .string s'] 25)).alloc (.cells #[.int .i64 0, .int .i64 0, .string ⟨#[]⟩] 25)).cell? ⟨bq, oq, none⟩) ∧ w.heap.size + 2 ≤ w'.heap.size ∧ Below (w.heap.size + 2) (((w.alloc (.cells #[.int .i64 k, .int .i64 n, .string s] 25)).alloc (.cells #[.int .i64 k', .int .i64 n', .string s'] 25)).alloc (.cells #[.int .i64 0, .int .i64 0, .string ⟨#[]⟩] 25)) w')
      (exact sc_of (by go_size) (by go_grown))
      (first
      | (go_at_call 36; refine (spec_l2Like _ _ _ _ _ _ _).mono ?_; rintro e w1 ⟨rfl, hb⟩; obtain ⟨hk, hz⟩ := bframe (B := w.heap.size + 2) (X := (((w.alloc (.cells #[.int .i64 k, .int .i64 n, .string s] 25)).alloc (.cells #[.int .i64 k', .int .i64 n', .string s'] 25)).alloc (.cells #[.int .i64 0, .int .i64 0, .string ⟨#[]⟩] 25))) (by go_grown) (by go_size) hb; obtain ⟨hC, hF, hL, hE⟩ := kp hb; (try simp only [World.size_drew] at hC hF hL hE); (try (refine cutLt (x := w.heap.size + 1 + 1) ?_ hb.size (fun hq => ?_); (focus (go_size; done)))); clear hb)
      | (go_at_call 35; refine (spec_Order _ _ _ _ _ _ _).mono ?_; rintro e w1 ⟨rfl, hb⟩; rw [HOO.out]; obtain ⟨hk, hz⟩ := bframe (B := w.heap.size + 2) (X := (((w.alloc (.cells #[.int .i64 k, .int .i64 n, .string s] 25)).alloc (.cells #[.int .i64 k', .int .i64 n', .string s'] 25)).alloc (.cells #[.int .i64 0, .int .i64 0, .string ⟨#[]⟩] 25))) (by go_grown) (by go_size) hb; obtain ⟨hC, hF, hL, hE⟩ := kp hb; (try simp only [World.size_drew] at hC hF hL hE); (try (refine cutLt (x := w.heap.size + 1 + 1) ?_ hb.size (fun hq => ?_); (focus (go_size; done)))); clear hb))
    all_goals go_wp2_with (first
      | (go_at_call 37; refine (spec_l2Flag _ _).mono ?_; rintro e w1 ⟨rfl, hb⟩; obtain ⟨hk, hz⟩ := bframe (B := w.heap.size + 2) (X := (((w.alloc (.cells #[.int .i64 k, .int .i64 n, .string s] 25)).alloc (.cells #[.int .i64 k', .int .i64 n', .string s'] 25)).alloc (.cells #[.int .i64 0, .int .i64 0, .string ⟨#[]⟩] 25))) (by go_grown) (by go_size) hb; obtain ⟨hC, hF, hL, hE⟩ := kp hb; (try simp only [World.size_drew] at hC hF hL hE); (try (refine cutLt (x := w.heap.size + 1 + 1) ?_ hb.size (fun hq => ?_); (focus (go_size; done)))); clear hb))
    all_goals
      refine bodyPost_ret (v := .agg #[.int .i64 (3), .int .i64 (if holdsB 7 oo then 1 else 0), .string (⟨#[]⟩)]) ?_ rfl ⟨ret_val ?_, bfin (n := 2) (X := (((w.alloc (.cells #[.int .i64 k, .int .i64 n, .string s] 25)).alloc (.cells #[.int .i64 k', .int .i64 n', .string s'] 25)).alloc (.cells #[.int .i64 0, .int .i64 0, .string ⟨#[]⟩] 25))) (by go_grown) (by go_grown)⟩
      · simp (maxDischargeDepth := 9) [results, Try.results10, go_sem, holdsB, *]
      · rw [HK.out, HN.out]
  by_cases hv8 : op = 8
  · subst hv8
    generalize hoo : ordV (likeK k k') n s (likeK k' k) n' s' = oo at *
    have HOO : Hid (ordV (likeK k k') n s (likeK k' k) n' s' = oo) := hoo
    clear hoo
    go_enter Try.func10, Try.ntmps10
    go_wp2_with fail
    refine (spec_ValueOk _ _ _ _ hs).mono ?_
    rintro e w1 ⟨rfl, hb⟩
    rw [ha]
    obtain ⟨hk0, hz0⟩ := bframe (B := w.heap.size + 2) (X := (((w.alloc (.cells #[.int .i64 k, .int .i64 n, .string s] 25)).alloc (.cells #[.int .i64 k', .int .i64 n', .string s'] 25)).alloc (.cells #[.int .i64 0, .int .i64 0, .string ⟨#[]⟩] 25))) (by go_grown) (by go_size) hb
    obtain ⟨hc, hf, hC, hF, hz, hk, l0, l1, l2⟩ := bk3 (w := w) (by go_grown) (by go_size) hb; clear hb
    go_wp2_with fail
    refine (spec_ValueOk _ _ _ _ hs').mono ?_
    rintro e w1 ⟨rfl, hb⟩
    rw [hb']
    obtain ⟨hk0, hz0⟩ := bframe (B := w.heap.size + 2) (X := (((w.alloc (.cells #[.int .i64 k, .int .i64 n, .string s] 25)).alloc (.cells #[.int .i64 k', .int .i64 n', .string s'] 25)).alloc (.cells #[.int .i64 0, .int .i64 0, .string ⟨#[]⟩] 25))) (by go_grown) (by go_size) hb
    obtain ⟨hc, hf, hC, hF, hz, hk, l0, l1, l2⟩ := bk3 (w := w) (by go_grown) (by go_size) hb; clear hb
    go_wp2_with (first
      | (go_at_call 34; refine (spec_l2Error _ _).mono ?_; rintro e w1 ⟨rfl, hb⟩; obtain ⟨hc, hf, hC, hF, hz, hk, l0, l1, l2⟩ := bk3 (w := w) (by go_grown) (by go_size) hb; clear hb)
      | (go_at_call 33; refine (spec_l1In _ _ _ _).mono ?_; rintro e w1 ⟨rfl, rfl⟩; rw [hd]))
    go_region_held3 (fun w' => (∀ bq oq, bq < w.heap.size + 2 → w'.cell? ⟨bq, oq, none⟩ = (((w.alloc (.cells #[.int .i64 k, .int .i64 n, .string s] 25)).alloc (.cells #[.int .i64 k', .int .i64 n', .string s'] 25)).alloc (.cells #[.int .i64 0, .int .i64 0, .string ⟨#[]⟩] 25)).cell? ⟨bq, oq, none⟩) ∧ w.heap.size + 2 ≤ w'.heap.size ∧ Below (w.heap.size + 2) (((w.alloc (.cells #[.int .i64 k, .int .i64 n, .string s] 25)).alloc (.cells #[.int .i64 k', .int .i64 n', .string s'] 25)).alloc (.cells #[.int .i64 0, .int .i64 0, .string ⟨#[]⟩] 25)) w')
      (exact sc_of (by go_size) (by go_grown))
      (first
      | (go_at_call 36; refine (spec_l2Like _ _ _ _ _ _ _).mono ?_; rintro e w1 ⟨rfl, hb⟩; obtain ⟨hk, hz⟩ := bframe (B := w.heap.size + 2) (X := (((w.alloc (.cells #[.int .i64 k, .int .i64 n, .string s] 25)).alloc (.cells #[.int .i64 k', .int .i64 n', .string s'] 25)).alloc (.cells #[.int .i64 0, .int .i64 0, .string ⟨#[]⟩] 25))) (by go_grown) (by go_size) hb; obtain ⟨hC, hF, hL, hE⟩ := kp hb; (try simp only [World.size_drew] at hC hF hL hE); (try (refine cutLt (x := w.heap.size + 1 + 1) ?_ hb.size (fun hq => ?_); (focus (go_size; done)))); clear hb)
      | (go_at_call 35; refine (spec_Order _ _ _ _ _ _ _).mono ?_; rintro e w1 ⟨rfl, hb⟩; rw [HOO.out]; obtain ⟨hk, hz⟩ := bframe (B := w.heap.size + 2) (X := (((w.alloc (.cells #[.int .i64 k, .int .i64 n, .string s] 25)).alloc (.cells #[.int .i64 k', .int .i64 n', .string s'] 25)).alloc (.cells #[.int .i64 0, .int .i64 0, .string ⟨#[]⟩] 25))) (by go_grown) (by go_size) hb; obtain ⟨hC, hF, hL, hE⟩ := kp hb; (try simp only [World.size_drew] at hC hF hL hE); (try (refine cutLt (x := w.heap.size + 1 + 1) ?_ hb.size (fun hq => ?_); (focus (go_size; done)))); clear hb))
    all_goals go_wp2_with (first
      | (go_at_call 37; refine (spec_l2Flag _ _).mono ?_; rintro e w1 ⟨rfl, hb⟩; obtain ⟨hk, hz⟩ := bframe (B := w.heap.size + 2) (X := (((w.alloc (.cells #[.int .i64 k, .int .i64 n, .string s] 25)).alloc (.cells #[.int .i64 k', .int .i64 n', .string s'] 25)).alloc (.cells #[.int .i64 0, .int .i64 0, .string ⟨#[]⟩] 25))) (by go_grown) (by go_size) hb; obtain ⟨hC, hF, hL, hE⟩ := kp hb; (try simp only [World.size_drew] at hC hF hL hE); (try (refine cutLt (x := w.heap.size + 1 + 1) ?_ hb.size (fun hq => ?_); (focus (go_size; done)))); clear hb))
    all_goals
      refine bodyPost_ret (v := .agg #[.int .i64 (3), .int .i64 (if holdsB 8 oo then 1 else 0), .string (⟨#[]⟩)]) ?_ rfl ⟨ret_val ?_, bfin (n := 2) (X := (((w.alloc (.cells #[.int .i64 k, .int .i64 n, .string s] 25)).alloc (.cells #[.int .i64 k', .int .i64 n', .string s'] 25)).alloc (.cells #[.int .i64 0, .int .i64 0, .string ⟨#[]⟩] 25))) (by go_grown) (by go_grown)⟩
      · simp (maxDischargeDepth := 9) [results, Try.results10, go_sem, holdsB, *]
      · rw [HK.out, HN.out]
  by_cases hv9 : op = 9
  · subst hv9
    generalize hoo : ordV (likeK k k') n s (likeK k' k) n' s' = oo at *
    have HOO : Hid (ordV (likeK k k') n s (likeK k' k) n' s' = oo) := hoo
    clear hoo
    go_enter Try.func10, Try.ntmps10
    go_wp2_with fail
    refine (spec_ValueOk _ _ _ _ hs).mono ?_
    rintro e w1 ⟨rfl, hb⟩
    rw [ha]
    obtain ⟨hk0, hz0⟩ := bframe (B := w.heap.size + 2) (X := (((w.alloc (.cells #[.int .i64 k, .int .i64 n, .string s] 25)).alloc (.cells #[.int .i64 k', .int .i64 n', .string s'] 25)).alloc (.cells #[.int .i64 0, .int .i64 0, .string ⟨#[]⟩] 25))) (by go_grown) (by go_size) hb
    obtain ⟨hc, hf, hC, hF, hz, hk, l0, l1, l2⟩ := bk3 (w := w) (by go_grown) (by go_size) hb; clear hb
    go_wp2_with fail
    refine (spec_ValueOk _ _ _ _ hs').mono ?_
    rintro e w1 ⟨rfl, hb⟩
    rw [hb']
    obtain ⟨hk0, hz0⟩ := bframe (B := w.heap.size + 2) (X := (((w.alloc (.cells #[.int .i64 k, .int .i64 n, .string s] 25)).alloc (.cells #[.int .i64 k', .int .i64 n', .string s'] 25)).alloc (.cells #[.int .i64 0, .int .i64 0, .string ⟨#[]⟩] 25))) (by go_grown) (by go_size) hb
    obtain ⟨hc, hf, hC, hF, hz, hk, l0, l1, l2⟩ := bk3 (w := w) (by go_grown) (by go_size) hb; clear hb
    go_wp2_with (first
      | (go_at_call 34; refine (spec_l2Error _ _).mono ?_; rintro e w1 ⟨rfl, hb⟩; obtain ⟨hc, hf, hC, hF, hz, hk, l0, l1, l2⟩ := bk3 (w := w) (by go_grown) (by go_size) hb; clear hb)
      | (go_at_call 33; refine (spec_l1In _ _ _ _).mono ?_; rintro e w1 ⟨rfl, rfl⟩; rw [hd]))
    go_region_held3 (fun w' => (∀ bq oq, bq < w.heap.size + 2 → w'.cell? ⟨bq, oq, none⟩ = (((w.alloc (.cells #[.int .i64 k, .int .i64 n, .string s] 25)).alloc (.cells #[.int .i64 k', .int .i64 n', .string s'] 25)).alloc (.cells #[.int .i64 0, .int .i64 0, .string ⟨#[]⟩] 25)).cell? ⟨bq, oq, none⟩) ∧ w.heap.size + 2 ≤ w'.heap.size ∧ Below (w.heap.size + 2) (((w.alloc (.cells #[.int .i64 k, .int .i64 n, .string s] 25)).alloc (.cells #[.int .i64 k', .int .i64 n', .string s'] 25)).alloc (.cells #[.int .i64 0, .int .i64 0, .string ⟨#[]⟩] 25)) w')
      (exact sc_of (by go_size) (by go_grown))
      (first
      | (go_at_call 36; refine (spec_l2Like _ _ _ _ _ _ _).mono ?_; rintro e w1 ⟨rfl, hb⟩; obtain ⟨hk, hz⟩ := bframe (B := w.heap.size + 2) (X := (((w.alloc (.cells #[.int .i64 k, .int .i64 n, .string s] 25)).alloc (.cells #[.int .i64 k', .int .i64 n', .string s'] 25)).alloc (.cells #[.int .i64 0, .int .i64 0, .string ⟨#[]⟩] 25))) (by go_grown) (by go_size) hb; obtain ⟨hC, hF, hL, hE⟩ := kp hb; (try simp only [World.size_drew] at hC hF hL hE); (try (refine cutLt (x := w.heap.size + 1 + 1) ?_ hb.size (fun hq => ?_); (focus (go_size; done)))); clear hb)
      | (go_at_call 35; refine (spec_Order _ _ _ _ _ _ _).mono ?_; rintro e w1 ⟨rfl, hb⟩; rw [HOO.out]; obtain ⟨hk, hz⟩ := bframe (B := w.heap.size + 2) (X := (((w.alloc (.cells #[.int .i64 k, .int .i64 n, .string s] 25)).alloc (.cells #[.int .i64 k', .int .i64 n', .string s'] 25)).alloc (.cells #[.int .i64 0, .int .i64 0, .string ⟨#[]⟩] 25))) (by go_grown) (by go_size) hb; obtain ⟨hC, hF, hL, hE⟩ := kp hb; (try simp only [World.size_drew] at hC hF hL hE); (try (refine cutLt (x := w.heap.size + 1 + 1) ?_ hb.size (fun hq => ?_); (focus (go_size; done)))); clear hb))
    all_goals go_wp2_with (first
      | (go_at_call 37; refine (spec_l2Flag _ _).mono ?_; rintro e w1 ⟨rfl, hb⟩; obtain ⟨hk, hz⟩ := bframe (B := w.heap.size + 2) (X := (((w.alloc (.cells #[.int .i64 k, .int .i64 n, .string s] 25)).alloc (.cells #[.int .i64 k', .int .i64 n', .string s'] 25)).alloc (.cells #[.int .i64 0, .int .i64 0, .string ⟨#[]⟩] 25))) (by go_grown) (by go_size) hb; obtain ⟨hC, hF, hL, hE⟩ := kp hb; (try simp only [World.size_drew] at hC hF hL hE); (try (refine cutLt (x := w.heap.size + 1 + 1) ?_ hb.size (fun hq => ?_); (focus (go_size; done)))); clear hb))
    all_goals
      refine bodyPost_ret (v := .agg #[.int .i64 (3), .int .i64 (if holdsB 9 oo then 1 else 0), .string (⟨#[]⟩)]) ?_ rfl ⟨ret_val ?_, bfin (n := 2) (X := (((w.alloc (.cells #[.int .i64 k, .int .i64 n, .string s] 25)).alloc (.cells #[.int .i64 k', .int .i64 n', .string s'] 25)).alloc (.cells #[.int .i64 0, .int .i64 0, .string ⟨#[]⟩] 25))) (by go_grown) (by go_grown)⟩
      · simp (maxDischargeDepth := 9) [results, Try.results10, go_sem, holdsB, *]
      · rw [HK.out, HN.out]
  by_cases hv10 : op = 10
  · subst hv10
    generalize hoo : ordV (likeK k k') n s (likeK k' k) n' s' = oo at *
    have HOO : Hid (ordV (likeK k k') n s (likeK k' k) n' s' = oo) := hoo
    clear hoo
    go_enter Try.func10, Try.ntmps10
    go_wp2_with fail
    refine (spec_ValueOk _ _ _ _ hs).mono ?_
    rintro e w1 ⟨rfl, hb⟩
    rw [ha]
    obtain ⟨hk0, hz0⟩ := bframe (B := w.heap.size + 2) (X := (((w.alloc (.cells #[.int .i64 k, .int .i64 n, .string s] 25)).alloc (.cells #[.int .i64 k', .int .i64 n', .string s'] 25)).alloc (.cells #[.int .i64 0, .int .i64 0, .string ⟨#[]⟩] 25))) (by go_grown) (by go_size) hb
    obtain ⟨hc, hf, hC, hF, hz, hk, l0, l1, l2⟩ := bk3 (w := w) (by go_grown) (by go_size) hb; clear hb
    go_wp2_with fail
    refine (spec_ValueOk _ _ _ _ hs').mono ?_
    rintro e w1 ⟨rfl, hb⟩
    rw [hb']
    obtain ⟨hk0, hz0⟩ := bframe (B := w.heap.size + 2) (X := (((w.alloc (.cells #[.int .i64 k, .int .i64 n, .string s] 25)).alloc (.cells #[.int .i64 k', .int .i64 n', .string s'] 25)).alloc (.cells #[.int .i64 0, .int .i64 0, .string ⟨#[]⟩] 25))) (by go_grown) (by go_size) hb
    obtain ⟨hc, hf, hC, hF, hz, hk, l0, l1, l2⟩ := bk3 (w := w) (by go_grown) (by go_size) hb; clear hb
    go_wp2_with (first
      | (go_at_call 34; refine (spec_l2Error _ _).mono ?_; rintro e w1 ⟨rfl, hb⟩; obtain ⟨hc, hf, hC, hF, hz, hk, l0, l1, l2⟩ := bk3 (w := w) (by go_grown) (by go_size) hb; clear hb)
      | (go_at_call 33; refine (spec_l1In _ _ _ _).mono ?_; rintro e w1 ⟨rfl, rfl⟩; rw [hd]))
    go_region_held3 (fun w' => (∀ bq oq, bq < w.heap.size + 2 → w'.cell? ⟨bq, oq, none⟩ = (((w.alloc (.cells #[.int .i64 k, .int .i64 n, .string s] 25)).alloc (.cells #[.int .i64 k', .int .i64 n', .string s'] 25)).alloc (.cells #[.int .i64 0, .int .i64 0, .string ⟨#[]⟩] 25)).cell? ⟨bq, oq, none⟩) ∧ w.heap.size + 2 ≤ w'.heap.size ∧ Below (w.heap.size + 2) (((w.alloc (.cells #[.int .i64 k, .int .i64 n, .string s] 25)).alloc (.cells #[.int .i64 k', .int .i64 n', .string s'] 25)).alloc (.cells #[.int .i64 0, .int .i64 0, .string ⟨#[]⟩] 25)) w')
      (exact sc_of (by go_size) (by go_grown))
      (first
      | (go_at_call 36; refine (spec_l2Like _ _ _ _ _ _ _).mono ?_; rintro e w1 ⟨rfl, hb⟩; obtain ⟨hk, hz⟩ := bframe (B := w.heap.size + 2) (X := (((w.alloc (.cells #[.int .i64 k, .int .i64 n, .string s] 25)).alloc (.cells #[.int .i64 k', .int .i64 n', .string s'] 25)).alloc (.cells #[.int .i64 0, .int .i64 0, .string ⟨#[]⟩] 25))) (by go_grown) (by go_size) hb; obtain ⟨hC, hF, hL, hE⟩ := kp hb; (try simp only [World.size_drew] at hC hF hL hE); (try (refine cutLt (x := w.heap.size + 1 + 1) ?_ hb.size (fun hq => ?_); (focus (go_size; done)))); clear hb)
      | (go_at_call 35; refine (spec_Order _ _ _ _ _ _ _).mono ?_; rintro e w1 ⟨rfl, hb⟩; rw [HOO.out]; obtain ⟨hk, hz⟩ := bframe (B := w.heap.size + 2) (X := (((w.alloc (.cells #[.int .i64 k, .int .i64 n, .string s] 25)).alloc (.cells #[.int .i64 k', .int .i64 n', .string s'] 25)).alloc (.cells #[.int .i64 0, .int .i64 0, .string ⟨#[]⟩] 25))) (by go_grown) (by go_size) hb; obtain ⟨hC, hF, hL, hE⟩ := kp hb; (try simp only [World.size_drew] at hC hF hL hE); (try (refine cutLt (x := w.heap.size + 1 + 1) ?_ hb.size (fun hq => ?_); (focus (go_size; done)))); clear hb))
    all_goals go_wp2_with (first
      | (go_at_call 37; refine (spec_l2Flag _ _).mono ?_; rintro e w1 ⟨rfl, hb⟩; obtain ⟨hk, hz⟩ := bframe (B := w.heap.size + 2) (X := (((w.alloc (.cells #[.int .i64 k, .int .i64 n, .string s] 25)).alloc (.cells #[.int .i64 k', .int .i64 n', .string s'] 25)).alloc (.cells #[.int .i64 0, .int .i64 0, .string ⟨#[]⟩] 25))) (by go_grown) (by go_size) hb; obtain ⟨hC, hF, hL, hE⟩ := kp hb; (try simp only [World.size_drew] at hC hF hL hE); (try (refine cutLt (x := w.heap.size + 1 + 1) ?_ hb.size (fun hq => ?_); (focus (go_size; done)))); clear hb))
    all_goals
      refine bodyPost_ret (v := .agg #[.int .i64 (3), .int .i64 (if holdsB 10 oo then 1 else 0), .string (⟨#[]⟩)]) ?_ rfl ⟨ret_val ?_, bfin (n := 2) (X := (((w.alloc (.cells #[.int .i64 k, .int .i64 n, .string s] 25)).alloc (.cells #[.int .i64 k', .int .i64 n', .string s'] 25)).alloc (.cells #[.int .i64 0, .int .i64 0, .string ⟨#[]⟩] 25))) (by go_grown) (by go_grown)⟩
      · simp (maxDischargeDepth := 9) [results, Try.results10, go_sem, holdsB, *]
      · rw [HK.out, HN.out]
  by_cases hv11 : op = 11
  · subst hv11
    generalize hoo : ordV (likeK k k') n s (likeK k' k) n' s' = oo at *
    have HOO : Hid (ordV (likeK k k') n s (likeK k' k) n' s' = oo) := hoo
    clear hoo
    go_enter Try.func10, Try.ntmps10
    go_wp2_with fail
    refine (spec_ValueOk _ _ _ _ hs).mono ?_
    rintro e w1 ⟨rfl, hb⟩
    rw [ha]
    obtain ⟨hk0, hz0⟩ := bframe (B := w.heap.size + 2) (X := (((w.alloc (.cells #[.int .i64 k, .int .i64 n, .string s] 25)).alloc (.cells #[.int .i64 k', .int .i64 n', .string s'] 25)).alloc (.cells #[.int .i64 0, .int .i64 0, .string ⟨#[]⟩] 25))) (by go_grown) (by go_size) hb
    obtain ⟨hc, hf, hC, hF, hz, hk, l0, l1, l2⟩ := bk3 (w := w) (by go_grown) (by go_size) hb; clear hb
    go_wp2_with fail
    refine (spec_ValueOk _ _ _ _ hs').mono ?_
    rintro e w1 ⟨rfl, hb⟩
    rw [hb']
    obtain ⟨hk0, hz0⟩ := bframe (B := w.heap.size + 2) (X := (((w.alloc (.cells #[.int .i64 k, .int .i64 n, .string s] 25)).alloc (.cells #[.int .i64 k', .int .i64 n', .string s'] 25)).alloc (.cells #[.int .i64 0, .int .i64 0, .string ⟨#[]⟩] 25))) (by go_grown) (by go_size) hb
    obtain ⟨hc, hf, hC, hF, hz, hk, l0, l1, l2⟩ := bk3 (w := w) (by go_grown) (by go_size) hb; clear hb
    go_wp2_with (first
      | (go_at_call 34; refine (spec_l2Error _ _).mono ?_; rintro e w1 ⟨rfl, hb⟩; obtain ⟨hc, hf, hC, hF, hz, hk, l0, l1, l2⟩ := bk3 (w := w) (by go_grown) (by go_size) hb; clear hb)
      | (go_at_call 33; refine (spec_l1In _ _ _ _).mono ?_; rintro e w1 ⟨rfl, rfl⟩; rw [hd]))
    go_region_held3 (fun w' => (∀ bq oq, bq < w.heap.size + 2 → w'.cell? ⟨bq, oq, none⟩ = (((w.alloc (.cells #[.int .i64 k, .int .i64 n, .string s] 25)).alloc (.cells #[.int .i64 k', .int .i64 n', .string s'] 25)).alloc (.cells #[.int .i64 0, .int .i64 0, .string ⟨#[]⟩] 25)).cell? ⟨bq, oq, none⟩) ∧ w.heap.size + 2 ≤ w'.heap.size ∧ Below (w.heap.size + 2) (((w.alloc (.cells #[.int .i64 k, .int .i64 n, .string s] 25)).alloc (.cells #[.int .i64 k', .int .i64 n', .string s'] 25)).alloc (.cells #[.int .i64 0, .int .i64 0, .string ⟨#[]⟩] 25)) w')
      (exact sc_of (by go_size) (by go_grown))
      (first
      | (go_at_call 36; refine (spec_l2Like _ _ _ _ _ _ _).mono ?_; rintro e w1 ⟨rfl, hb⟩; obtain ⟨hk, hz⟩ := bframe (B := w.heap.size + 2) (X := (((w.alloc (.cells #[.int .i64 k, .int .i64 n, .string s] 25)).alloc (.cells #[.int .i64 k', .int .i64 n', .string s'] 25)).alloc (.cells #[.int .i64 0, .int .i64 0, .string ⟨#[]⟩] 25))) (by go_grown) (by go_size) hb; obtain ⟨hC, hF, hL, hE⟩ := kp hb; (try simp only [World.size_drew] at hC hF hL hE); (try (refine cutLt (x := w.heap.size + 1 + 1) ?_ hb.size (fun hq => ?_); (focus (go_size; done)))); clear hb)
      | (go_at_call 35; refine (spec_Order _ _ _ _ _ _ _).mono ?_; rintro e w1 ⟨rfl, hb⟩; rw [HOO.out]; obtain ⟨hk, hz⟩ := bframe (B := w.heap.size + 2) (X := (((w.alloc (.cells #[.int .i64 k, .int .i64 n, .string s] 25)).alloc (.cells #[.int .i64 k', .int .i64 n', .string s'] 25)).alloc (.cells #[.int .i64 0, .int .i64 0, .string ⟨#[]⟩] 25))) (by go_grown) (by go_size) hb; obtain ⟨hC, hF, hL, hE⟩ := kp hb; (try simp only [World.size_drew] at hC hF hL hE); (try (refine cutLt (x := w.heap.size + 1 + 1) ?_ hb.size (fun hq => ?_); (focus (go_size; done)))); clear hb))
    all_goals go_wp2_with (first
      | (go_at_call 37; refine (spec_l2Flag _ _).mono ?_; rintro e w1 ⟨rfl, hb⟩; obtain ⟨hk, hz⟩ := bframe (B := w.heap.size + 2) (X := (((w.alloc (.cells #[.int .i64 k, .int .i64 n, .string s] 25)).alloc (.cells #[.int .i64 k', .int .i64 n', .string s'] 25)).alloc (.cells #[.int .i64 0, .int .i64 0, .string ⟨#[]⟩] 25))) (by go_grown) (by go_size) hb; obtain ⟨hC, hF, hL, hE⟩ := kp hb; (try simp only [World.size_drew] at hC hF hL hE); (try (refine cutLt (x := w.heap.size + 1 + 1) ?_ hb.size (fun hq => ?_); (focus (go_size; done)))); clear hb))
    all_goals
      refine bodyPost_ret (v := .agg #[.int .i64 (3), .int .i64 (if holdsB 11 oo then 1 else 0), .string (⟨#[]⟩)]) ?_ rfl ⟨ret_val ?_, bfin (n := 2) (X := (((w.alloc (.cells #[.int .i64 k, .int .i64 n, .string s] 25)).alloc (.cells #[.int .i64 k', .int .i64 n', .string s'] 25)).alloc (.cells #[.int .i64 0, .int .i64 0, .string ⟨#[]⟩] 25))) (by go_grown) (by go_grown)⟩
      · simp (maxDischargeDepth := 9) [results, Try.results10, go_sem, holdsB, *]
      · rw [HK.out, HN.out]
  omega
end Go.Proofs.Ythagnaeemipnlaa
