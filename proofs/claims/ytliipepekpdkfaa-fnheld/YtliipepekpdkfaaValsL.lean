import Derived.Test.YtliipepekpdkfaaValsJ
import Derived.Deep.RegionHeld3
namespace Go.Proofs.Ytliipepekpdkfaa
open Go.RowKit

def overE (e y : Int) : Int := if e = 0 then (if y = 0 then 1 else 0) else e
theorem tdiv_bd (x y : Int) (h1 : -1000000000000000 ≤ x) (h2 : x ≤ 1000000000000000) : -1000000000000000 ≤ x.tdiv y ∧ x.tdiv y ≤ 1000000000000000 := by
  have h3 : (x.tdiv y).natAbs ≤ x.natAbs := by rw [Int.natAbs_tdiv]; exact Nat.div_le_self _ _
  generalize x.tdiv y = q at *
  omega

set_option maxHeartbeats 1000000 in
theorem impl_Over (k n : Int) (s : ByteArray) (k' n' : Int) (s' : ByteArray) (w : World) (hs : s.size ≤ maxLen) (hs' : s'.size ≤ maxLen) : Calls Try.prog 30 #[.agg #[.int .i64 k, .int .i64 n, .string s], .agg #[.int .i64 k', .int .i64 n', .string s']] w fun e w' =>
    e = .returned (.agg #[.int .i64 (opK (overE (twoE k n s k' n' s') (twoY k n s k' n' s')) ((twoX k n s k' n' s').tdiv (twoY k n s k' n' s'))), .int .i64 (opN (overE (twoE k n s k' n' s') (twoY k n s k' n' s')) ((twoX k n s k' n' s').tdiv (twoY k n s k' n' s'))), .string ⟨#[]⟩]) ∧ Below w.heap.size w w' := by
  by_cases h : twoE k n s k' n' s' = 0
  · have HE : Hid (twoE k n s k' n' s' = 0) := h
    have HB : Hid (bK (twoE k n s k' n' s') = 0) := by show bK _ = 0; simp [bK, h]
    have ⟨b1, b2⟩ := twoX_bd k n s k' n' s'
    have ⟨b3, b4⟩ := twoY_bd k n s k' n' s'
    clear h
    by_cases hy : twoY k n s k' n' s' = 0
    · have HY : Hid (twoY k n s k' n' s' = 0) := hy
      clear hy b3 b4
      go_enter Try.func30, Try.ntmps30
      go_wp2_with (first
        | (go_at_call 47; refine (impl_bothAsNumbers _ _ _ _ _ _ _ hs hs').mono ?_; rintro e w1 ⟨rfl, hb⟩; rw [HE.out]; rw [HY.out]; obtain ⟨hc, hf, hC, hF, hz, hk, l0, l1, l2⟩ := bk3 (w := w) (by go_grown) (by go_size) hb; clear hb)
        | (go_at_call 48; refine (value_failure _ _).mono ?_; rintro e w1 ⟨rfl, hb⟩; obtain ⟨hc, hf, hC, hF, hz, hk, l0, l1, l2⟩ := bk3 (w := w) (by go_grown) (by go_size) hb; clear hb))
      all_goals
        refine bodyPost_ret (v := .agg #[.int .i64 (4), .int .i64 (1), .string ⟨#[]⟩]) ?_ rfl ⟨ret_val ?_, by go_grown⟩
        · simp (maxDischargeDepth := 9) [results, Try.results30, go_sem, *]
        · simp [opK, opN, overE, HE.out, HY.out]
    · have hq : (twoY k n s k' n' s' == 0) = false := by simpa using hy
      have HY : Hid (¬ twoY k n s k' n' s' = 0) := hy
      have ⟨b5, b6⟩ := tdiv_bd (twoX k n s k' n' s') (twoY k n s k' n' s') b1 b2
      have HR : Hid (rNum ((twoX k n s k' n' s').tdiv (twoY k n s k' n' s')) = true) := rNum_mk b5 b6
      go_enter Try.func30, Try.ntmps30
      go_wp2_with (first
        | (go_at_call 47; refine (impl_bothAsNumbers _ _ _ _ _ _ _ hs hs').mono ?_; rintro e w1 ⟨rfl, hb⟩; rw [HE.out]; obtain ⟨hc, hf, hC, hF, hz, hk, l0, l1, l2⟩ := bk3 (w := w) (by go_grown) (by go_size) hb; clear hb)
        | (go_at_call 51; refine (value_number _ _).mono ?_; rintro e w1 ⟨rfl, hb⟩; obtain ⟨hc, hf, hC, hF, hz, hk, l0, l1, l2⟩ := bk3 (w := w) (by go_grown) (by go_size) hb; clear hb))
      all_goals
        refine bodyPost_ret (v := .agg #[.int .i64 (1), .int .i64 ((twoX k n s k' n' s').tdiv (twoY k n s k' n' s')), .string ⟨#[]⟩]) ?_ rfl ⟨ret_val ?_, by go_grown⟩
        · simp (maxDischargeDepth := 9) [results, Try.results30, go_sem, *]
        · simp [opK, opN, overE, intK, intN, HE.out, HY.out, HR.out]
  · have hq : (twoE k n s k' n' s' != 0) = true := by simpa using h
    have HB : Hid (bK (twoE k n s k' n' s') = 4) := by show bK _ = 4; simp [bK, h]
    go_enter Try.func30, Try.ntmps30
    go_wp2_with (first
      | (go_at_call 47; refine (impl_bothAsNumbers _ _ _ _ _ _ _ hs hs').mono ?_; rintro e w1 ⟨rfl, hb⟩; obtain ⟨hc, hf, hC, hF, hz, hk, l0, l1, l2⟩ := bk3 (w := w) (by go_grown) (by go_size) hb; clear hb)
      | (go_at_call 48; refine (value_failure _ _).mono ?_; rintro e w1 ⟨rfl, hb⟩; obtain ⟨hc, hf, hC, hF, hz, hk, l0, l1, l2⟩ := bk3 (w := w) (by go_grown) (by go_size) hb; clear hb))
    all_goals
      refine bodyPost_ret (v := .agg #[.int .i64 (4), .int .i64 (twoE k n s k' n' s'), .string ⟨#[]⟩]) ?_ rfl ⟨ret_val ?_, by go_grown⟩
      · simp (maxDischargeDepth := 9) [results, Try.results30, go_sem, *]
      · simp [opK, opN, overE, h]

set_option maxHeartbeats 1000000 in
theorem spec_Over (k n : Int) (s : ByteArray) (k' n' : Int) (s' : ByteArray) (w : World) (hs : s.size ≤ maxLen) (hs' : s'.size ≤ maxLen) : Calls Try.prog 31 #[.agg #[.int .i64 k, .int .i64 n, .string s], .agg #[.int .i64 k', .int .i64 n', .string s']] w fun e w' =>
    e = .returned (.agg #[.int .i64 (opK (overE (twoE k n s k' n' s') (twoY k n s k' n' s')) ((twoX k n s k' n' s').tdiv (twoY k n s k' n' s'))), .int .i64 (opN (overE (twoE k n s k' n' s') (twoY k n s k' n' s')) ((twoX k n s k' n' s').tdiv (twoY k n s k' n' s'))), .string ⟨#[]⟩]) ∧ Below w.heap.size w w' := by
  by_cases h : twoE k n s k' n' s' = 0
  · have HE : Hid (twoE k n s k' n' s' = 0) := h
    have HB : Hid (bK (twoE k n s k' n' s') = 0) := by show bK _ = 0; simp [bK, h]
    have ⟨b1, b2⟩ := twoX_bd k n s k' n' s'
    have ⟨b3, b4⟩ := twoY_bd k n s k' n' s'
    clear h
    by_cases hy : twoY k n s k' n' s' = 0
    · have HY : Hid (twoY k n s k' n' s' = 0) := hy
      clear hy b3 b4
      go_enter Try.func31, Try.ntmps31
      go_wp2_with (first
        | (go_at_call 52; refine (spec_l2Two _ _ _ _ _ _ _ hs hs').mono ?_; rintro e w1 ⟨rfl, hb⟩; rw [HB.out]; rw [HY.out]; obtain ⟨hc, hf, hC, hF, hz, hk, l0, l1, l2⟩ := bk3 (w := w) (by go_grown) (by go_size) hb; clear hb)
        | (go_at_call 54; refine (spec_l2Error _ _).mono ?_; rintro e w1 ⟨rfl, hb⟩; obtain ⟨hc, hf, hC, hF, hz, hk, l0, l1, l2⟩ := bk3 (w := w) (by go_grown) (by go_size) hb; clear hb))
      all_goals
        refine bodyPost_ret (v := .agg #[.int .i64 (4), .int .i64 (1), .string ⟨#[]⟩]) ?_ rfl ⟨ret_val ?_, by go_grown⟩
        · simp (maxDischargeDepth := 9) [results, Try.results31, go_sem, *]
        · simp [opK, opN, overE, HE.out, HY.out]
    · have hq : (twoY k n s k' n' s' == 0) = false := by simpa using hy
      have HY : Hid (¬ twoY k n s k' n' s' = 0) := hy
      have ⟨b5, b6⟩ := tdiv_bd (twoX k n s k' n' s') (twoY k n s k' n' s') b1 b2
      have HR : Hid (rNum ((twoX k n s k' n' s').tdiv (twoY k n s k' n' s')) = true) := rNum_mk b5 b6
      go_enter Try.func31, Try.ntmps31
      go_wp2_with (first
        | (go_at_call 52; refine (spec_l2Two _ _ _ _ _ _ _ hs hs').mono ?_; rintro e w1 ⟨rfl, hb⟩; rw [HB.out]; obtain ⟨hc, hf, hC, hF, hz, hk, l0, l1, l2⟩ := bk3 (w := w) (by go_grown) (by go_size) hb; clear hb)
        | (go_at_call 53; refine (spec_l2Int _ _).mono ?_; rintro e w1 ⟨rfl, hb⟩; obtain ⟨hc, hf, hC, hF, hz, hk, l0, l1, l2⟩ := bk3 (w := w) (by go_grown) (by go_size) hb; clear hb))
      all_goals
        refine bodyPost_ret (v := .agg #[.int .i64 (intK ((twoX k n s k' n' s').tdiv (twoY k n s k' n' s'))), .int .i64 (intN ((twoX k n s k' n' s').tdiv (twoY k n s k' n' s'))), .string ⟨#[]⟩]) ?_ rfl ⟨ret_val ?_, by go_grown⟩
        · simp (maxDischargeDepth := 9) [results, Try.results31, go_sem, *]
        · simp [opK, opN, overE, HE.out, HY.out]
  · have hq : (twoE k n s k' n' s' != 0) = true := by simpa using h
    have HB : Hid (bK (twoE k n s k' n' s') = 4) := by show bK _ = 4; simp [bK, h]
    go_enter Try.func31, Try.ntmps31
    go_wp2_with (first
      | (go_at_call 52; refine (spec_l2Two _ _ _ _ _ _ _ hs hs').mono ?_; rintro e w1 ⟨rfl, hb⟩; rw [HB.out]; obtain ⟨hc, hf, hC, hF, hz, hk, l0, l1, l2⟩ := bk3 (w := w) (by go_grown) (by go_size) hb; clear hb)
      | (go_at_call 54; refine (spec_l2Error _ _).mono ?_; rintro e w1 ⟨rfl, hb⟩; obtain ⟨hc, hf, hC, hF, hz, hk, l0, l1, l2⟩ := bk3 (w := w) (by go_grown) (by go_size) hb; clear hb))
    all_goals
      refine bodyPost_ret (v := .agg #[.int .i64 (4), .int .i64 (twoE k n s k' n' s'), .string ⟨#[]⟩]) ?_ rfl ⟨ret_val ?_, by go_grown⟩
      · simp (maxDischargeDepth := 9) [results, Try.results31, go_sem, *]
      · simp [opK, opN, overE, h]

theorem num0 : numE 1 0 ⟨#[]⟩ = 0 ∧ numX 1 0 ⟨#[]⟩ = 0 := by
  have h : okV 1 0 ⟨#[]⟩ = true := by decide +kernel
  simp [numE, numX, h]
theorem two0 (k n : Int) (s : ByteArray) : twoE 1 0 ⟨#[]⟩ k n s = numE k n s ∧ twoX 1 0 ⟨#[]⟩ k n s = 0 ∧ twoY 1 0 ⟨#[]⟩ k n s = numX k n s := by
  simp [twoE, twoX, twoY, num0.1, num0.2]

set_option maxHeartbeats 1000000 in
theorem spec_Negated (k n : Int) (s : ByteArray) (w : World) (hs : s.size ≤ maxLen) : Calls Try.prog 28 #[.agg #[.int .i64 k, .int .i64 n, .string s]] w fun e w' =>
    e = .returned (.agg #[.int .i64 (opK (numE k n s) (0 - numX k n s)), .int .i64 (opN (numE k n s) (0 - numX k n s)), .string ⟨#[]⟩]) ∧ Below w.heap.size w w' := by
  have ⟨b1, b2⟩ := numX_bd k n s
  by_cases h : numE k n s = 0
  · have HE : Hid (numE k n s = 0) := h
    have HB : Hid (bK (numE k n s) = 0) := by show bK _ = 0; simp [bK, h]
    clear h
    go_enter Try.func28, Try.ntmps28
    go_wp2_with (first
      | (go_at_call 55; refine (spec_l2Num _ _ _ _ hs).mono ?_; rintro e w1 ⟨rfl, hb⟩; rw [HB.out]; obtain ⟨hc, hf, hC, hF, hz, hk, l0, l1⟩ := bk2 (w := w) (by go_grown) (by go_size) hb; clear hb)
      | (go_at_call 53; refine (spec_l2Int _ _).mono ?_; rintro e w1 ⟨rfl, hb⟩; obtain ⟨hc, hf, hC, hF, hz, hk, l0, l1⟩ := bk2 (w := w) (by go_grown) (by go_size) hb; clear hb))
    all_goals
      refine bodyPost_ret (v := .agg #[.int .i64 (intK (-numX k n s)), .int .i64 (intN (-numX k n s)), .string ⟨#[]⟩]) ?_ rfl ⟨ret_val ?_, by go_grown⟩
      · simp (maxDischargeDepth := 9) [results, Try.results28, go_sem, *]
      · simp [opK, opN, HE.out]
  · have HB : Hid (bK (numE k n s) = 4) := by show bK _ = 4; simp [bK, h]
    go_enter Try.func28, Try.ntmps28
    go_wp2_with (first
      | (go_at_call 55; refine (spec_l2Num _ _ _ _ hs).mono ?_; rintro e w1 ⟨rfl, hb⟩; rw [HB.out]; obtain ⟨hc, hf, hC, hF, hz, hk, l0, l1⟩ := bk2 (w := w) (by go_grown) (by go_size) hb; clear hb))
    all_goals
      refine bodyPost_ret (v := .agg #[.int .i64 (4), .int .i64 (numE k n s), .string ⟨#[]⟩]) ?_ rfl ⟨ret_val ?_, by go_grown⟩
      · simp (maxDischargeDepth := 9) [results, Try.results28, go_sem, *]
      · simp [opK, opN, h]

set_option maxHeartbeats 1000000 in
theorem impl_Negated (k n : Int) (s : ByteArray) (w : World) (hs : s.size ≤ maxLen) : Calls Try.prog 27 #[.agg #[.int .i64 k, .int .i64 n, .string s]] w fun e w' =>
    e = .returned (.agg #[.int .i64 (opK (numE k n s) (0 - numX k n s)), .int .i64 (opN (numE k n s) (0 - numX k n s)), .string ⟨#[]⟩]) ∧ Below w.heap.size w w' := by
  have he : (⟨#[]⟩ : ByteArray).size ≤ maxLen := by decide +kernel
  go_enter Try.func27, Try.ntmps27
  go_wp2_with fail
  go_region_held3 (fun w' => (∀ bq oq, bq < w.heap.size + 1 → w'.cell? ⟨bq, oq, none⟩ = ((w.alloc (.cells #[.int .i64 k, .int .i64 n, .string s] 25)).alloc (.cells #[.int .i64 0, .int .i64 0, .string ⟨#[]⟩] 25)).cell? ⟨bq, oq, none⟩) ∧ w.heap.size + 1 ≤ w'.heap.size ∧ Below (w.heap.size + 1) ((w.alloc (.cells #[.int .i64 k, .int .i64 n, .string s] 25)).alloc (.cells #[.int .i64 0, .int .i64 0, .string ⟨#[]⟩] 25)) w')
    (exact sc_of (by go_size) (by go_grown))
    (first
    | (go_at_call 51; refine (value_number _ _).mono ?_; rintro e w1 ⟨rfl, hb⟩; obtain ⟨hk, hz⟩ := bframe (B := w.heap.size + 1) (X := ((w.alloc (.cells #[.int .i64 k, .int .i64 n, .string s] 25)).alloc (.cells #[.int .i64 0, .int .i64 0, .string ⟨#[]⟩] 25))) (by go_grown) (by go_size) hb; obtain ⟨hC, hF, hL, hE⟩ := kp hb; (try simp only [World.size_drew] at hC hF hL hE); (try (refine cutLt (x := w.heap.size + 1) ?_ hb.size (fun hq => ?_); (focus (go_size; done)))); clear hb)
    | (go_at_call 25; refine (impl_Less _ _ _ _ _ _ _ he hs).mono ?_; rintro e w1 ⟨rfl, hb⟩; rw [(two0 k n s).1, (two0 k n s).2.1, (two0 k n s).2.2]; obtain ⟨hk, hz⟩ := bframe (B := w.heap.size + 1) (X := ((w.alloc (.cells #[.int .i64 k, .int .i64 n, .string s] 25)).alloc (.cells #[.int .i64 0, .int .i64 0, .string ⟨#[]⟩] 25))) (by go_grown) (by go_size) hb; obtain ⟨hC, hF, hL, hE⟩ := kp hb; (try simp only [World.size_drew] at hC hF hL hE); (try (refine cutLt (x := w.heap.size + 1) ?_ hb.size (fun hq => ?_); (focus (go_size; done)))); clear hb))
  all_goals go_wp2_with fail
  all_goals
    refine bodyPost_ret (v := .agg #[.int .i64 (opK (numE k n s) (0 - numX k n s)), .int .i64 (opN (numE k n s) (0 - numX k n s)), .string ⟨#[]⟩]) ?_ rfl ⟨rfl, bfin (n := 1) (X := ((w.alloc (.cells #[.int .i64 k, .int .i64 n, .string s] 25)).alloc (.cells #[.int .i64 0, .int .i64 0, .string ⟨#[]⟩] 25))) (by go_grown) (by go_grown)⟩
    simp (maxDischargeDepth := 9) [results, Try.results27, go_sem, *]
end Go.Proofs.Ytliipepekpdkfaa
