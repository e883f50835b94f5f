import Derived.Test.YtliipepekpdkfaaValsI
import Derived.Deep.RegionWith
namespace Go.Proofs.Ytliipepekpdkfaa
open Go.RowKit

theorem over_iff (p q : Int) (hq : 0 < q) : 1000000000000000 / q < p ↔ 1000000000000000 < p * q := Int.ediv_lt_iff_lt_mul hq
theorem abs_mul (x y : Int) : ((x * y).natAbs : Int) = (x.natAbs : Int) * (y.natAbs : Int) := by rw [Int.natAbs_mul]; simp
theorem neg_quo (y : Int) (h : y < 0) : wrap64 (-(Int.tdiv 1000000000000000 y)) = 1000000000000000 / (-y) := by
  have e : -(Int.tdiv 1000000000000000 y) = 1000000000000000 / (-y) := by
    rw [← Int.tdiv_neg, Int.tdiv_eq_ediv_of_nonneg (by omega)]
  rw [e]
  have h1 : 0 ≤ 1000000000000000 / (-y) := Int.ediv_nonneg (by omega) (by omega)
  have h2 : 1000000000000000 / (-y) ≤ 1000000000000000 := Int.ediv_le_self _ (by omega)
  generalize 1000000000000000 / (-y) = z at *
  unfold wrap64
  omega
theorem rNum_abs (z : Int) : rNum z = decide ((z.natAbs : Int) ≤ 1000000000000000) := by
  unfold rNum; rw [Bool.eq_iff_iff]; simp; omega

set_option maxHeartbeats 400000 in
theorem impl_size (x p : Int) (w : World) (hp : p = x.natAbs) (h1 : -1000000000000000 ≤ x) (h2 : x ≤ 1000000000000000) : Calls Try.prog 50 #[.int .i64 x] w fun e w' =>
    e = .returned (.int .i64 p) ∧ w' = w := by
  have HP : Hid (p = x.natAbs) := hp
  clear hp
  go_enter Try.func50, Try.ntmps50
  go_wp2
  all_goals
    go_ret
    refine ⟨ret_int ?_, rfl⟩
    rw [HP.out]
    (try split) <;> omega

set_option maxHeartbeats 1000000 in
theorem impl_Times (k n : Int) (s : ByteArray) (k' n' : Int) (s' : ByteArray) (w : World) (hs : s.size ≤ maxLen) (hs' : s'.size ≤ maxLen) : Calls Try.prog 22 #[.agg #[.int .i64 k, .int .i64 n, .string s], .agg #[.int .i64 k', .int .i64 n', .string s']] w fun e w' =>
    e = .returned (.agg #[.int .i64 (opK (twoE k n s k' n' s') (twoX k n s k' n' s' * twoY k n s k' n' s')), .int .i64 (opN (twoE k n s k' n' s') (twoX k n s k' n' s' * twoY k n s k' n' s')), .string ⟨#[]⟩]) ∧ Below w.heap.size w w' := by
  by_cases h : twoE k n s k' n' s' = 0
  · have HE : Hid (twoE k n s k' n' s' = 0) := h
    have ⟨b1, b2⟩ := twoX_bd k n s k' n' s'
    have ⟨b3, b4⟩ := twoY_bd k n s k' n' s'
    clear h
    by_cases hx : twoX k n s k' n' s' = 0
    · have HX : Hid (twoX k n s k' n' s' = 0) := hx
      clear hx b1 b2
      go_enter Try.func22, Try.ntmps22
      go_wp2_with (first
        | (go_at_call 47; refine (impl_bothAsNumbers _ _ _ _ _ _ _ hs hs').mono ?_; rintro e w1 ⟨rfl, hb⟩; rw [HE.out, HX.out]; obtain ⟨hc, hf, hC, hF, hz, hk, l0, l1, l2⟩ := bk3 (w := w) (by go_grown) (by go_size) hb; clear hb)
        | (go_at_call 51; refine (value_number _ _).mono ?_; rintro e w1 ⟨rfl, hb⟩; obtain ⟨hc, hf, hC, hF, hz, hk, l0, l1, l2⟩ := bk3 (w := w) (by go_grown) (by go_size) hb; clear hb))
      all_goals
        refine bodyPost_ret (v := .agg #[.int .i64 (1), .int .i64 (0), .string ⟨#[]⟩]) ?_ rfl ⟨ret_val ?_, by go_grown⟩
        · simp (maxDischargeDepth := 9) [results, Try.results22, go_sem, *]
        · simp [opK, opN, intK, intN, rNum, HE.out, HX.out]
    · have hq0 : (twoX k n s k' n' s' != 0) = true := by simpa using hx
      obtain ⟨p, hp⟩ : ∃ p : Int, p = (twoX k n s k' n' s').natAbs := ⟨_, rfl⟩
      obtain ⟨q, hq⟩ : ∃ q : Int, q = (twoY k n s k' n' s').natAbs := ⟨_, rfl⟩
      have hp1 : 1 ≤ p := by omega
      have hp2 : p ≤ 1000000000000000 := by omega
      have hq1 : 0 ≤ q := by omega
      have hq2 : q ≤ 1000000000000000 := by omega
      have HPX : Hid (p = (twoX k n s k' n' s').natAbs) := hp
      have HPY : Hid (q = (twoY k n s k' n' s').natAbs) := hq
      have HM : Hid (((twoX k n s k' n' s' * twoY k n s k' n' s').natAbs : Int) = p * q) := by show _ = _; rw [abs_mul, hp, hq]
      by_cases ho : 1000000000000000 / p < q
      · have HR : Hid (rNum (twoX k n s k' n' s' * twoY k n s k' n' s') = false) := by
          show rNum _ = false
          have hm := (over_iff q p (by omega)).1 ho
          rw [rNum_abs, HM.out, Int.mul_comm]
          exact decide_eq_false (by omega)
        clear hp hq
        go_enter Try.func22, Try.ntmps22
        go_wp2_with (first
          | (go_at_call 47; refine (impl_bothAsNumbers _ _ _ _ _ _ _ hs hs').mono ?_; rintro e w1 ⟨rfl, hb⟩; rw [HE.out]; obtain ⟨hc, hf, hC, hF, hz, hk, l0, l1, l2⟩ := bk3 (w := w) (by go_grown) (by go_size) hb; clear hb)
          | (go_at_call_of 50 (twoX k n s k' n' s'); refine (impl_size _ p _ HPX.out b1 b2).mono ?_; rintro e w1 ⟨rfl, rfl⟩)
          | (go_at_call_of 50 (twoY k n s k' n' s'); refine (impl_size _ q _ HPY.out b3 b4).mono ?_; rintro e w1 ⟨rfl, rfl⟩)
          | (go_at_call 48; refine (value_failure _ _).mono ?_; rintro e w1 ⟨rfl, hb⟩; obtain ⟨hc, hf, hC, hF, hz, hk, l0, l1, l2⟩ := bk3 (w := w) (by go_grown) (by go_size) hb; clear hb))
        all_goals
          refine bodyPost_ret (v := .agg #[.int .i64 (4), .int .i64 (4), .string ⟨#[]⟩]) ?_ rfl ⟨ret_val ?_, by go_grown⟩
          · simp (maxDischargeDepth := 9) [results, Try.results22, go_sem, *]
          · simp [opK, opN, intK, intN, HE.out, HR.out]
      · have HR : Hid (rNum (twoX k n s k' n' s' * twoY k n s k' n' s') = true) := by
          show rNum _ = true
          have hm := mt (over_iff q p (by omega)).2 ho
          rw [rNum_abs, HM.out, Int.mul_comm]
          exact decide_eq_true (by omega)
        have ⟨b5, b6⟩ := rNum_bd HR.out
        clear hp hq
        go_enter Try.func22, Try.ntmps22
        go_wp2_with (first
          | (go_at_call 47; refine (impl_bothAsNumbers _ _ _ _ _ _ _ hs hs').mono ?_; rintro e w1 ⟨rfl, hb⟩; rw [HE.out]; obtain ⟨hc, hf, hC, hF, hz, hk, l0, l1, l2⟩ := bk3 (w := w) (by go_grown) (by go_size) hb; clear hb)
          | (go_at_call_of 50 (twoX k n s k' n' s'); refine (impl_size _ p _ HPX.out b1 b2).mono ?_; rintro e w1 ⟨rfl, rfl⟩)
          | (go_at_call_of 50 (twoY k n s k' n' s'); refine (impl_size _ q _ HPY.out b3 b4).mono ?_; rintro e w1 ⟨rfl, rfl⟩)
          | (go_at_call 51; refine (value_number _ _).mono ?_; rintro e w1 ⟨rfl, hb⟩; obtain ⟨hc, hf, hC, hF, hz, hk, l0, l1, l2⟩ := bk3 (w := w) (by go_grown) (by go_size) hb; clear hb))
        all_goals
          refine bodyPost_ret (v := .agg #[.int .i64 (1), .int .i64 (twoX k n s k' n' s' * twoY k n s k' n' s'), .string ⟨#[]⟩]) ?_ rfl ⟨ret_val ?_, by go_grown⟩
          · simp (maxDischargeDepth := 9) [results, Try.results22, go_sem, *]
          · simp [opK, opN, intK, intN, HE.out, HR.out]
  · have hq : (twoE k n s k' n' s' != 0) = true := by simpa using h
    go_enter Try.func22, Try.ntmps22
    go_wp2_with (first
      | (go_at_call 47; refine (impl_bothAsNumbers _ _ _ _ _ _ _ hs hs').mono ?_; rintro e w1 ⟨rfl, hb⟩; obtain ⟨hc, hf, hC, hF, hz, hk, l0, l1, l2⟩ := bk3 (w := w) (by go_grown) (by go_size) hb; clear hb)
      | (go_at_call 48; refine (value_failure _ _).mono ?_; rintro e w1 ⟨rfl, hb⟩; obtain ⟨hc, hf, hC, hF, hz, hk, l0, l1, l2⟩ := bk3 (w := w) (by go_grown) (by go_size) hb; clear hb))
    all_goals
      refine bodyPost_ret (v := .agg #[.int .i64 (4), .int .i64 (twoE k n s k' n' s'), .string ⟨#[]⟩]) ?_ rfl ⟨ret_val ?_, by go_grown⟩
      · simp (maxDischargeDepth := 9) [results, Try.results22, go_sem, *]
      · simp [opK, opN, h]

set_option maxHeartbeats 2000000 in
theorem spec_Times (k n : Int) (s : ByteArray) (k' n' : Int) (s' : ByteArray) (w : World) (hs : s.size ≤ maxLen) (hs' : s'.size ≤ maxLen) : Calls Try.prog 24 #[.agg #[.int .i64 k, .int .i64 n, .string s], .agg #[.int .i64 k', .int .i64 n', .string s']] w fun e w' =>
    e = .returned (.agg #[.int .i64 (opK (twoE k n s k' n' s') (twoX k n s k' n' s' * twoY k n s k' n' s')), .int .i64 (opN (twoE k n s k' n' s') (twoX k n s k' n' s' * twoY k n s k' n' s')), .string ⟨#[]⟩]) ∧ Below w.heap.size w w' := by
  by_cases h : twoE k n s k' n' s' = 0
  · have HE : Hid (twoE k n s k' n' s' = 0) := h
    have HB : Hid (bK (twoE k n s k' n' s') = 0) := by show bK _ = 0; simp [bK, h]
    have ⟨b1, b2⟩ := twoX_bd k n s k' n' s'
    have ⟨b3, b4⟩ := twoY_bd k n s k' n' s'
    clear h
    by_cases hx : twoX k n s k' n' s' = 0
    · have HX : Hid (twoX k n s k' n' s' = 0) := hx
      clear hx b1 b2
      go_enter Try.func24, Try.ntmps24
      go_wp2_with (first
        | (go_at_call 52; refine (spec_l2Two _ _ _ _ _ _ _ hs hs').mono ?_; rintro e w1 ⟨rfl, hb⟩; rw [HB.out, HX.out]; obtain ⟨hc, hf, hC, hF, hz, hk, l0, l1, l2⟩ := bk3 (w := w) (by go_grown) (by go_size) hb; clear hb)
        | (go_at_call 53; refine (spec_l2Int _ _).mono ?_; rintro e w1 ⟨rfl, hb⟩; obtain ⟨hc, hf, hC, hF, hz, hk, l0, l1, l2⟩ := bk3 (w := w) (by go_grown) (by go_size) hb; clear hb))
      all_goals
        refine bodyPost_ret (v := .agg #[.int .i64 (intK 0), .int .i64 (intN 0), .string ⟨#[]⟩]) ?_ rfl ⟨ret_val ?_, by go_grown⟩
        · simp (maxDischargeDepth := 9) [results, Try.results24, go_sem, *]
        · simp [opK, opN, HE.out, HX.out]
    by_cases hy : twoY k n s k' n' s' = 0
    · have HY : Hid (twoY k n s k' n' s' = 0) := hy
      have hq0 : (twoX k n s k' n' s' == 0) = false := by simpa using hx
      clear hy b3 b4
      go_enter Try.func24, Try.ntmps24
      go_wp2_with (first
        | (go_at_call 52; refine (spec_l2Two _ _ _ _ _ _ _ hs hs').mono ?_; rintro e w1 ⟨rfl, hb⟩; rw [HB.out, HY.out]; obtain ⟨hc, hf, hC, hF, hz, hk, l0, l1, l2⟩ := bk3 (w := w) (by go_grown) (by go_size) hb; clear hb)
        | (go_at_call 53; refine (spec_l2Int _ _).mono ?_; rintro e w1 ⟨rfl, hb⟩; obtain ⟨hc, hf, hC, hF, hz, hk, l0, l1, l2⟩ := bk3 (w := w) (by go_grown) (by go_size) hb; clear hb))
      all_goals
        refine bodyPost_ret (v := .agg #[.int .i64 (intK 0), .int .i64 (intN 0), .string ⟨#[]⟩]) ?_ rfl ⟨ret_val ?_, by go_grown⟩
        · simp (maxDischargeDepth := 9) [results, Try.results24, go_sem, *]
        · simp [opK, opN, HE.out, HY.out]
    have hq0 : (twoX k n s k' n' s' == 0) = false := by simpa using hx
    have hq1 : (twoY k n s k' n' s' == 0) = false := by simpa using hy
    have HM : Hid (((twoX k n s k' n' s' * twoY k n s k' n' s').natAbs : Int) = ((twoX k n s k' n' s').natAbs : Int) * ((twoY k n s k' n' s').natAbs : Int)) := abs_mul _ _
    have HO := over_iff ((twoX k n s k' n' s').natAbs : Int) ((twoY k n s k' n' s').natAbs : Int) (by omega)
    have HR : Hid (rNum (twoX k n s k' n' s' * twoY k n s k' n' s') = decide (¬ 1000000000000000 / ((twoY k n s k' n' s').natAbs : Int) < ((twoX k n s k' n' s').natAbs : Int))) := by
      show rNum _ = _
      rw [rNum_abs, HM.out, Bool.eq_iff_iff]
      simp only [decide_eq_true_eq, HO]
      omega
    clear HO
    by_cases hc_neg_neg : twoX k n s k' n' s' < 0 ∧ twoY k n s k' n' s' < 0
    · obtain ⟨hcx, hcy⟩ := hc_neg_neg
      have ex : ((twoX k n s k' n' s').natAbs : Int) = -twoX k n s k' n' s' := by omega
      have ey : ((twoY k n s k' n' s').natAbs : Int) = -twoY k n s k' n' s' := by omega
      have hr' := HR.out
      rw [ex, ey] at hr'
      have HR' : Hid (rNum (twoX k n s k' n' s' * twoY k n s k' n' s') = decide (¬ 1000000000000000 / (-twoY k n s k' n' s') < -twoX k n s k' n' s')) := hr'
      clear ex ey HR hr'
      have hw := neg_quo (twoY k n s k' n' s') hcy
      generalize 1000000000000000 / (-twoY k n s k' n' s') = c at *
      by_cases ho : c < -twoX k n s k' n' s'
      · have HF : Hid (rNum (twoX k n s k' n' s' * twoY k n s k' n' s') = false) := by show rNum _ = false; rw [HR'.out]; exact decide_eq_false (fun c => c ho)
        go_enter Try.func24, Try.ntmps24
        go_wp2_with (first
          | (go_at_call 52; refine (spec_l2Two _ _ _ _ _ _ _ hs hs').mono ?_; rintro e w1 ⟨rfl, hb⟩; rw [HB.out]; obtain ⟨hc, hf, hC, hF, hz, hk, l0, l1, l2⟩ := bk3 (w := w) (by go_grown) (by go_size) hb; clear hb)
          | (go_at_call 54; refine (spec_l2Error _ _).mono ?_; rintro e w1 ⟨rfl, hb⟩; obtain ⟨hc, hf, hC, hF, hz, hk, l0, l1, l2⟩ := bk3 (w := w) (by go_grown) (by go_size) hb; clear hb))
        all_goals
          refine bodyPost_ret (v := .agg #[.int .i64 (4), .int .i64 (4), .string ⟨#[]⟩]) ?_ rfl ⟨ret_val ?_, by go_grown⟩
          · simp (maxDischargeDepth := 9) [results, Try.results24, go_sem, *]
          · simp [opK, opN, intK, intN, HE.out, HF.out]
      · have HF : Hid (rNum (twoX k n s k' n' s' * twoY k n s k' n' s') = true) := by show rNum _ = true; rw [HR'.out]; exact decide_eq_true ho
        have ⟨b5, b6⟩ := rNum_bd HF.out
        go_enter Try.func24, Try.ntmps24
        go_wp2_with (first
          | (go_at_call 52; refine (spec_l2Two _ _ _ _ _ _ _ hs hs').mono ?_; rintro e w1 ⟨rfl, hb⟩; rw [HB.out]; obtain ⟨hc, hf, hC, hF, hz, hk, l0, l1, l2⟩ := bk3 (w := w) (by go_grown) (by go_size) hb; clear hb)
          | (go_at_call 53; refine (spec_l2Int _ _).mono ?_; rintro e w1 ⟨rfl, hb⟩; obtain ⟨hc, hf, hC, hF, hz, hk, l0, l1, l2⟩ := bk3 (w := w) (by go_grown) (by go_size) hb; clear hb))
        all_goals
          refine bodyPost_ret (v := .agg #[.int .i64 (intK (twoX k n s k' n' s' * twoY k n s k' n' s')), .int .i64 (intN (twoX k n s k' n' s' * twoY k n s k' n' s')), .string ⟨#[]⟩]) ?_ rfl ⟨ret_val ?_, by go_grown⟩
          · simp (maxDischargeDepth := 9) [results, Try.results24, go_sem, *]
          · simp [opK, opN, HE.out]
    by_cases hc_neg_pos : twoX k n s k' n' s' < 0 ∧ 0 ≤ twoY k n s k' n' s'
    · obtain ⟨hcx, hcy⟩ := hc_neg_pos
      have ex : ((twoX k n s k' n' s').natAbs : Int) = -twoX k n s k' n' s' := by omega
      have ey : ((twoY k n s k' n' s').natAbs : Int) = twoY k n s k' n' s' := by omega
      have hr' := HR.out
      rw [ex, ey] at hr'
      have HR' : Hid (rNum (twoX k n s k' n' s' * twoY k n s k' n' s') = decide (¬ 1000000000000000 / (twoY k n s k' n' s') < -twoX k n s k' n' s')) := hr'
      clear ex ey HR hr'
      by_cases ho : 1000000000000000 / (twoY k n s k' n' s') < -twoX k n s k' n' s'
      · have HF : Hid (rNum (twoX k n s k' n' s' * twoY k n s k' n' s') = false) := by show rNum _ = false; rw [HR'.out]; exact decide_eq_false (fun c => c ho)
        go_enter Try.func24, Try.ntmps24
        go_wp2_with (first
          | (go_at_call 52; refine (spec_l2Two _ _ _ _ _ _ _ hs hs').mono ?_; rintro e w1 ⟨rfl, hb⟩; rw [HB.out]; obtain ⟨hc, hf, hC, hF, hz, hk, l0, l1, l2⟩ := bk3 (w := w) (by go_grown) (by go_size) hb; clear hb)
          | (go_at_call 54; refine (spec_l2Error _ _).mono ?_; rintro e w1 ⟨rfl, hb⟩; obtain ⟨hc, hf, hC, hF, hz, hk, l0, l1, l2⟩ := bk3 (w := w) (by go_grown) (by go_size) hb; clear hb))
        all_goals
          refine bodyPost_ret (v := .agg #[.int .i64 (4), .int .i64 (4), .string ⟨#[]⟩]) ?_ rfl ⟨ret_val ?_, by go_grown⟩
          · simp (maxDischargeDepth := 9) [results, Try.results24, go_sem, *]
          · simp [opK, opN, intK, intN, HE.out, HF.out]
      · have HF : Hid (rNum (twoX k n s k' n' s' * twoY k n s k' n' s') = true) := by show rNum _ = true; rw [HR'.out]; exact decide_eq_true ho
        have ⟨b5, b6⟩ := rNum_bd HF.out
        go_enter Try.func24, Try.ntmps24
        go_wp2_with (first
          | (go_at_call 52; refine (spec_l2Two _ _ _ _ _ _ _ hs hs').mono ?_; rintro e w1 ⟨rfl, hb⟩; rw [HB.out]; obtain ⟨hc, hf, hC, hF, hz, hk, l0, l1, l2⟩ := bk3 (w := w) (by go_grown) (by go_size) hb; clear hb)
          | (go_at_call 53; refine (spec_l2Int _ _).mono ?_; rintro e w1 ⟨rfl, hb⟩; obtain ⟨hc, hf, hC, hF, hz, hk, l0, l1, l2⟩ := bk3 (w := w) (by go_grown) (by go_size) hb; clear hb))
        all_goals
          refine bodyPost_ret (v := .agg #[.int .i64 (intK (twoX k n s k' n' s' * twoY k n s k' n' s')), .int .i64 (intN (twoX k n s k' n' s' * twoY k n s k' n' s')), .string ⟨#[]⟩]) ?_ rfl ⟨ret_val ?_, by go_grown⟩
          · simp (maxDischargeDepth := 9) [results, Try.results24, go_sem, *]
          · simp [opK, opN, HE.out]
    by_cases hc_pos_neg : 0 ≤ twoX k n s k' n' s' ∧ twoY k n s k' n' s' < 0
    · obtain ⟨hcx, hcy⟩ := hc_pos_neg
      have ex : ((twoX k n s k' n' s').natAbs : Int) = twoX k n s k' n' s' := by omega
      have ey : ((twoY k n s k' n' s').natAbs : Int) = -twoY k n s k' n' s' := by omega
      have hr' := HR.out
      rw [ex, ey] at hr'
      have HR' : Hid (rNum (twoX k n s k' n' s' * twoY k n s k' n' s') = decide (¬ 1000000000000000 / (-twoY k n s k' n' s') < twoX k n s k' n' s')) := hr'
      clear ex ey HR hr'
      have hw := neg_quo (twoY k n s k' n' s') hcy
      generalize 1000000000000000 / (-twoY k n s k' n' s') = c at *
      by_cases ho : c < twoX k n s k' n' s'
      · have HF : Hid (rNum (twoX k n s k' n' s' * twoY k n s k' n' s') = false) := by show rNum _ = false; rw [HR'.out]; exact decide_eq_false (fun c => c ho)
        go_enter Try.func24, Try.ntmps24
        go_wp2_with (first
          | (go_at_call 52; refine (spec_l2Two _ _ _ _ _ _ _ hs hs').mono ?_; rintro e w1 ⟨rfl, hb⟩; rw [HB.out]; obtain ⟨hc, hf, hC, hF, hz, hk, l0, l1, l2⟩ := bk3 (w := w) (by go_grown) (by go_size) hb; clear hb)
          | (go_at_call 54; refine (spec_l2Error _ _).mono ?_; rintro e w1 ⟨rfl, hb⟩; obtain ⟨hc, hf, hC, hF, hz, hk, l0, l1, l2⟩ := bk3 (w := w) (by go_grown) (by go_size) hb; clear hb))
        all_goals
          refine bodyPost_ret (v := .agg #[.int .i64 (4), .int .i64 (4), .string ⟨#[]⟩]) ?_ rfl ⟨ret_val ?_, by go_grown⟩
          · simp (maxDischargeDepth := 9) [results, Try.results24, go_sem, *]
          · simp [opK, opN, intK, intN, HE.out, HF.out]
      · have HF : Hid (rNum (twoX k n s k' n' s' * twoY k n s k' n' s') = true) := by show rNum _ = true; rw [HR'.out]; exact decide_eq_true ho
        have ⟨b5, b6⟩ := rNum_bd HF.out
        go_enter Try.func24, Try.ntmps24
        go_wp2_with (first
          | (go_at_call 52; refine (spec_l2Two _ _ _ _ _ _ _ hs hs').mono ?_; rintro e w1 ⟨rfl, hb⟩; rw [HB.out]; obtain ⟨hc, hf, hC, hF, hz, hk, l0, l1, l2⟩ := bk3 (w := w) (by go_grown) (by go_size) hb; clear hb)
          | (go_at_call 53; refine (spec_l2Int _ _).mono ?_; rintro e w1 ⟨rfl, hb⟩; obtain ⟨hc, hf, hC, hF, hz, hk, l0, l1, l2⟩ := bk3 (w := w) (by go_grown) (by go_size) hb; clear hb))
        all_goals
          refine bodyPost_ret (v := .agg #[.int .i64 (intK (twoX k n s k' n' s' * twoY k n s k' n' s')), .int .i64 (intN (twoX k n s k' n' s' * twoY k n s k' n' s')), .string ⟨#[]⟩]) ?_ rfl ⟨ret_val ?_, by go_grown⟩
          · simp (maxDischargeDepth := 9) [results, Try.results24, go_sem, *]
          · simp [opK, opN, HE.out]
    by_cases hc_pos_pos : 0 ≤ twoX k n s k' n' s' ∧ 0 ≤ twoY k n s k' n' s'
    · obtain ⟨hcx, hcy⟩ := hc_pos_pos
      have ex : ((twoX k n s k' n' s').natAbs : Int) = twoX k n s k' n' s' := by omega
      have ey : ((twoY k n s k' n' s').natAbs : Int) = twoY k n s k' n' s' := by omega
      have hr' := HR.out
      rw [ex, ey] at hr'
      have HR' : Hid (rNum (twoX k n s k' n' s' * twoY k n s k' n' s') = decide (¬ 1000000000000000 / (twoY k n s k' n' s') < twoX k n s k' n' s')) := hr'
      clear ex ey HR hr'
      by_cases ho : 1000000000000000 / (twoY k n s k' n' s') < twoX k n s k' n' s'
      · have HF : Hid (rNum (twoX k n s k' n' s' * twoY k n s k' n' s') = false) := by show rNum _ = false; rw [HR'.out]; exact decide_eq_false (fun c => c ho)
        go_enter Try.func24, Try.ntmps24
        go_wp2_with (first
          | (go_at_call 52; refine (spec_l2Two _ _ _ _ _ _ _ hs hs').mono ?_; rintro e w1 ⟨rfl, hb⟩; rw [HB.out]; obtain ⟨hc, hf, hC, hF, hz, hk, l0, l1, l2⟩ := bk3 (w := w) (by go_grown) (by go_size) hb; clear hb)
          | (go_at_call 54; refine (spec_l2Error _ _).mono ?_; rintro e w1 ⟨rfl, hb⟩; obtain ⟨hc, hf, hC, hF, hz, hk, l0, l1, l2⟩ := bk3 (w := w) (by go_grown) (by go_size) hb; clear hb))
        all_goals
          refine bodyPost_ret (v := .agg #[.int .i64 (4), .int .i64 (4), .string ⟨#[]⟩]) ?_ rfl ⟨ret_val ?_, by go_grown⟩
          · simp (maxDischargeDepth := 9) [results, Try.results24, go_sem, *]
          · simp [opK, opN, intK, intN, HE.out, HF.out]
      · have HF : Hid (rNum (twoX k n s k' n' s' * twoY k n s k' n' s') = true) := by show rNum _ = true; rw [HR'.out]; exact decide_eq_true ho
        have ⟨b5, b6⟩ := rNum_bd HF.out
        go_enter Try.func24, Try.ntmps24
        go_wp2_with (first
          | (go_at_call 52; refine (spec_l2Two _ _ _ _ _ _ _ hs hs').mono ?_; rintro e w1 ⟨rfl, hb⟩; rw [HB.out]; obtain ⟨hc, hf, hC, hF, hz, hk, l0, l1, l2⟩ := bk3 (w := w) (by go_grown) (by go_size) hb; clear hb)
          | (go_at_call 53; refine (spec_l2Int _ _).mono ?_; rintro e w1 ⟨rfl, hb⟩; obtain ⟨hc, hf, hC, hF, hz, hk, l0, l1, l2⟩ := bk3 (w := w) (by go_grown) (by go_size) hb; clear hb))
        all_goals
          refine bodyPost_ret (v := .agg #[.int .i64 (intK (twoX k n s k' n' s' * twoY k n s k' n' s')), .int .i64 (intN (twoX k n s k' n' s' * twoY k n s k' n' s')), .string ⟨#[]⟩]) ?_ rfl ⟨ret_val ?_, by go_grown⟩
          · simp (maxDischargeDepth := 9) [results, Try.results24, go_sem, *]
          · simp [opK, opN, HE.out]
    omega
  · have HB : Hid (bK (twoE k n s k' n' s') = 4) := by show bK _ = 4; simp [bK, h]
    go_enter Try.func24, Try.ntmps24
    go_wp2_with (first
      | (go_at_call 52; refine (spec_l2Two _ _ _ _ _ _ _ hs hs').mono ?_; rintro e w1 ⟨rfl, hb⟩; rw [HB.out]; obtain ⟨hc, hf, hC, hF, hz, hk, l0, l1, l2⟩ := bk3 (w := w) (by go_grown) (by go_size) hb; clear hb))
    all_goals
      refine bodyPost_ret (v := .agg #[.int .i64 (4), .int .i64 (twoE k n s k' n' s'), .string ⟨#[]⟩]) ?_ rfl ⟨ret_val ?_, by go_grown⟩
      · simp (maxDischargeDepth := 9) [results, Try.results24, go_sem, *]
      · simp [opK, opN, h]
end Go.Proofs.Ytliipepekpdkfaa
