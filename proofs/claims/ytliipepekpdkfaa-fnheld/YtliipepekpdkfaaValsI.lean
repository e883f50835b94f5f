import Derived.Test.YtliipepekpdkfaaValsH
namespace Go.Proofs.Ytliipepekpdkfaa
open Go.RowKit

def twoE (k n : Int) (s : ByteArray) (k' n' : Int) (s' : ByteArray) : Int := if numE k n s = 0 then numE k' n' s' else numE k n s
def twoX (k n : Int) (s : ByteArray) (_k' _n' : Int) (_s' : ByteArray) : Int := if numE k n s = 0 then numX k n s else 0
def twoY (k n : Int) (s : ByteArray) (k' n' : Int) (s' : ByteArray) : Int := if numE k n s = 0 then numX k' n' s' else 0
def opK (e x : Int) : Int := if e = 0 then intK x else 4
def opN (e x : Int) : Int := if e = 0 then intN x else e

theorem rNum_bd {n : Int} (h : rNum n = true) : -1000000000000000 ≤ n ∧ n ≤ 1000000000000000 := of_decide_eq_true h
theorem rNum_mk {n : Int} (h : -1000000000000000 ≤ n) (h' : n ≤ 1000000000000000) : rNum n = true := decide_eq_true ⟨h, h'⟩
theorem numX_bd (k n : Int) (s : ByteArray) : -1000000000000000 ≤ numX k n s ∧ numX k n s ≤ 1000000000000000 := by
  rcases mOf_cases k n s with ⟨ho, _⟩ | ⟨ho, rfl, rfl, rfl, _⟩ | ⟨ho, rfl, hr, rfl, _⟩ | ⟨ho, rfl, rfl, hr, _⟩ | ⟨ho, rfl, hr, rfl, _⟩ | ⟨ho, rfl, hr, rfl, _⟩
  · simp [numX, ho]
  · simp [numX]
  · simp only [numX, ho, if_true]; exact rNum_bd hr
  · simp [numX]
  · simp [numX]
  · simp [numX]
theorem twoX_bd (k n : Int) (s : ByteArray) (k' n' : Int) (s' : ByteArray) : -1000000000000000 ≤ twoX k n s k' n' s' ∧ twoX k n s k' n' s' ≤ 1000000000000000 := by
  unfold twoX; split
  · exact numX_bd _ _ _
  · omega
theorem twoY_bd (k n : Int) (s : ByteArray) (k' n' : Int) (s' : ByteArray) : -1000000000000000 ≤ twoY k n s k' n' s' ∧ twoY k n s k' n' s' ≤ 1000000000000000 := by
  unfold twoY; split
  · exact numX_bd _ _ _
  · omega

set_option maxHeartbeats 1000000 in
theorem impl_bothAsNumbers (k n : Int) (s : ByteArray) (k' n' : Int) (s' : ByteArray) (w : World) (hs : s.size ≤ maxLen) (hs' : s'.size ≤ maxLen) : Calls Try.prog 47 #[.agg #[.int .i64 k, .int .i64 n, .string s], .agg #[.int .i64 k', .int .i64 n', .string s']] w fun e w' =>
    e = .returned (.tuple #[.int .i64 (twoX k n s k' n' s'), .int .i64 (twoY k n s k' n' s'), .int .i64 (twoE k n s k' n' s')]) ∧ Below w.heap.size w w' := by
  by_cases h : numE k n s = 0
  · have HE : Hid (numE k n s = 0) := h
    clear h
    go_enter Try.func47, Try.ntmps47
    go_wp2_with fail
    refine (impl_asNumber _ _ _ _ hs).mono ?_
    rintro e w1 ⟨rfl, hb⟩
    rw [HE.out]
    obtain ⟨hc, hf, hC, hF, hz, hk, l0, l1⟩ := bk2 (w := w) (by go_grown) (by go_size) hb; clear hb
    go_wp2_with fail
    refine (impl_asNumber _ _ _ _ hs').mono ?_
    rintro e w1 ⟨rfl, hb⟩
    obtain ⟨hc, hf, hC, hF, hz, hk, l0, l1⟩ := bk2 (w := w) (by go_grown) (by go_size) hb; clear hb
    go_wp2_with fail
    go_ret3
    exact ⟨ret_val (by simp [twoX, twoY, twoE, HE.out]), by go_grown⟩
  · have hq : (numE k n s != 0) = true := by simpa using h
    go_enter Try.func47, Try.ntmps47
    go_wp2_with fail
    refine (impl_asNumber _ _ _ _ hs).mono ?_
    rintro e w1 ⟨rfl, hb⟩
    obtain ⟨hc, hf, hC, hF, hz, hk, l0, l1⟩ := bk2 (w := w) (by go_grown) (by go_size) hb; clear hb
    go_wp2_with fail
    go_ret3
    exact ⟨ret_val (by simp [twoX, twoY, twoE, h]), by go_grown⟩

set_option maxHeartbeats 400000 in
theorem impl_numberOrOver (x : Int) (w : World) : Calls Try.prog 49 #[.int .i64 x] w fun e w' =>
    e = .returned (.agg #[.int .i64 (intK x), .int .i64 (intN x), .string ⟨#[]⟩]) ∧ Below w.heap.size w w' := by
  cases hr : rNum x
  · go_enter Try.func49, Try.ntmps49
    go_wp2_with (first
      | (go_at_call 70; refine (right_number _ _).mono ?_; rintro e w1 ⟨rfl, rfl⟩; rw [hr])
      | (go_at_call 48; refine (value_failure _ _).mono ?_; rintro e w1 ⟨rfl, hb⟩; obtain ⟨hc, hf, hC, hF, hz, hk, l0⟩ := bk1 (w := w) (by go_grown) (by go_size) hb; clear hb)
      | (go_at_call 51; refine (value_number _ _).mono ?_; rintro e w1 ⟨rfl, hb⟩; obtain ⟨hc, hf, hC, hF, hz, hk, l0⟩ := bk1 (w := w) (by go_grown) (by go_size) hb; clear hb))
    refine bodyPost_ret (v := .agg #[.int .i64 4, .int .i64 4, .string ⟨#[]⟩]) ?_ rfl ⟨ret_val ?_, by go_grown⟩
    · simp (maxDischargeDepth := 9) [results, Try.results49, go_sem, *]
    · simp [intK, intN, hr]
  · go_enter Try.func49, Try.ntmps49
    go_wp2_with (first
      | (go_at_call 70; refine (right_number _ _).mono ?_; rintro e w1 ⟨rfl, rfl⟩; rw [hr])
      | (go_at_call 48; refine (value_failure _ _).mono ?_; rintro e w1 ⟨rfl, hb⟩; obtain ⟨hc, hf, hC, hF, hz, hk, l0⟩ := bk1 (w := w) (by go_grown) (by go_size) hb; clear hb)
      | (go_at_call 51; refine (value_number _ _).mono ?_; rintro e w1 ⟨rfl, hb⟩; obtain ⟨hc, hf, hC, hF, hz, hk, l0⟩ := bk1 (w := w) (by go_grown) (by go_size) hb; clear hb))
    refine bodyPost_ret (v := .agg #[.int .i64 1, .int .i64 x, .string ⟨#[]⟩]) ?_ rfl ⟨ret_val ?_, by go_grown⟩
    · simp (maxDischargeDepth := 9) [results, Try.results49, go_sem, *]
    · simp [intK, intN, hr]

set_option maxHeartbeats 1000000 in
theorem spec_l2Two (k n : Int) (s : ByteArray) (k' n' : Int) (s' : ByteArray) (w : World) (hs : s.size ≤ maxLen) (hs' : s'.size ≤ maxLen) : Calls Try.prog 52 #[.agg #[.int .i64 k, .int .i64 n, .string s], .agg #[.int .i64 k', .int .i64 n', .string s']] w fun e w' =>
    e = .returned (.tuple #[.int .i64 (twoX k n s k' n' s'), .int .i64 (twoY k n s k' n' s'), .agg #[.int .i64 (bK (twoE k n s k' n' s')), .int .i64 (twoE k n s k' n' s'), .string ⟨#[]⟩]]) ∧ Below w.heap.size w w' := by
  by_cases h : numE k n s = 0
  · have HE : Hid (numE k n s = 0) := h
    have HB : Hid (bK (numE k n s) = 0) := by show bK _ = 0; simp [bK, h]
    clear h
    go_enter Try.func52, Try.ntmps52
    go_wp2_with fail
    refine (spec_l2Num _ _ _ _ hs).mono ?_
    rintro e w1 ⟨rfl, hb⟩
    rw [HB.out, HE.out]
    obtain ⟨hc, hf, hC, hF, hz, hk, l0, l1, l2⟩ := bk3 (w := w) (by go_grown) (by go_size) hb; clear hb
    go_wp2_with fail
    refine (spec_l2Num _ _ _ _ hs').mono ?_
    rintro e w2 ⟨rfl, hb⟩
    obtain ⟨hc, hf, hC, hF, hz, hk, l0, l1, l2⟩ := bk3 (w := w) (by go_grown) (by go_size) hb; clear hb
    go_wp2_with fail
    go_region
    all_goals
      go_wp2_with fail
      refine bodyPost_ret (v := .tuple #[.int .i64 (numX k n s), .int .i64 (numX k' n' s'), .agg #[.int .i64 (bK (numE k' n' s')), .int .i64 (numE k' n' s'), .string ⟨#[]⟩]]) ?_ rfl ⟨ret_val ?_, by go_grown⟩
      · simp (maxDischargeDepth := 9) [results, Try.results52, go_sem, *]
      · simp [twoX, twoY, twoE, HE.out]
  · have HB : Hid (bK (numE k n s) = 4) := by show bK _ = 4; simp [bK, h]
    go_enter Try.func52, Try.ntmps52
    go_wp2_with fail
    refine (spec_l2Num _ _ _ _ hs).mono ?_
    rintro e w1 ⟨rfl, hb⟩
    rw [HB.out]
    obtain ⟨hc, hf, hC, hF, hz, hk, l0, l1, l2⟩ := bk3 (w := w) (by go_grown) (by go_size) hb; clear hb
    go_wp2_with fail
    go_region
    all_goals
      go_wp2_with fail
      refine bodyPost_ret (v := .tuple #[.int .i64 0, .int .i64 0, .agg #[.int .i64 4, .int .i64 (numE k n s), .string ⟨#[]⟩]]) ?_ rfl ⟨ret_val ?_, by go_grown⟩
      · simp (maxDischargeDepth := 9) [results, Try.results52, go_sem, *]
      · simp [twoX, twoY, twoE, h, bK]
end Go.Proofs.Ytliipepekpdkfaa
