import Derived.Test.YtidmajdiidfceaaDoorVtB
namespace Go.Proofs.YtidmajdiidfceaaDoor
open Go.RowKit
set_option linter.unusedSimpArgs false
set_option linter.unusedVariables false

set_option maxHeartbeats 1000000 in
theorem svt_no (k n : Int) (s : ByteArray) (w : World) (hs : Hid ((s : ByteArray).size ≤ maxLen)) (ho : okV k n s = false) : Calls Tryd.prog 25 #[.agg #[.int .i64 k, .int .i64 n, .string s]] w fun e w' => e = .returned (.string (⟨#[]⟩)) ∧ Below w.heap.size w w' := by
  have HOK : Hid (okV k n s = false) := ho
  clear ho
  go_enter Tryd.func25, Tryd.ntmps25
  go_wp2_with (first
    | (go_at_call 27; refine (spec_ValueOk _ _ _ _ hs.out).mono ?_; rintro e w1 ⟨rfl, hb⟩; rw [HOK.out]; obtain ⟨hc, hf, hC, hF, hz, hk, l0⟩ := bk1 (w := w) (by go_grown) (by go_size) hb; clear hb))
  go_ret
  exact ⟨rfl, by go_grown⟩

set_option maxHeartbeats 1000000 in
theorem svt_blank  (w : World) (hs : Hid ((⟨#[]⟩ : ByteArray).size ≤ maxLen)) (ho : okV 0 0 ⟨#[]⟩ = true) : Calls Tryd.prog 25 #[.agg #[.int .i64 0, .int .i64 0, .string ⟨#[]⟩]] w fun e w' => e = .returned (.string (⟨#[]⟩)) ∧ Below w.heap.size w w' := by
  have HOK : Hid (okV 0 0 ⟨#[]⟩ = true) := ho
  clear ho
  go_enter Tryd.func25, Tryd.ntmps25
  go_wp2_with (first
    | (go_at_call 27; refine (spec_ValueOk _ _ _ _ hs.out).mono ?_; rintro e w1 ⟨rfl, hb⟩; rw [HOK.out]; obtain ⟨hc, hf, hC, hF, hz, hk, l0⟩ := bk1 (w := w) (by go_grown) (by go_size) hb; clear hb))
  go_ret
  exact ⟨rfl, by go_grown⟩

set_option maxHeartbeats 1000000 in
theorem svt_num (n : Int) (hr : Hid (rNum n = true)) (w : World) (hs : Hid ((⟨#[]⟩ : ByteArray).size ≤ maxLen)) (ho : okV 1 n ⟨#[]⟩ = true) : Calls Tryd.prog 25 #[.agg #[.int .i64 1, .int .i64 n, .string ⟨#[]⟩]] w fun e w' => e = .returned (.string (itB n)) ∧ Below w.heap.size w w' := by
  have HOK : Hid (okV 1 n ⟨#[]⟩ = true) := ho
  clear ho
  go_enter Tryd.func25, Tryd.ntmps25
  go_wp2_with (first
    | (go_at_call 27; refine (spec_ValueOk _ _ _ _ hs.out).mono ?_; rintro e w1 ⟨rfl, hb⟩; rw [HOK.out]; obtain ⟨hc, hf, hC, hF, hz, hk, l0⟩ := bk1 (w := w) (by go_grown) (by go_size) hb; clear hb)
    | (go_at_call 45; refine (spec_l1DecV n _ hr.out).mono ?_; rintro e w2 ⟨rfl, hb⟩; obtain ⟨hc2, hf2, hC2, hF2, hz2, hk2, l02⟩ := bk1 (w := w) (by go_grown) (by go_size) hb; clear hb))
  go_ret
  exact ⟨rfl, by go_grown⟩

set_option maxHeartbeats 1000000 in
theorem svt_word (s : ByteArray) (h2 : s.size ≤ 200) (w : World) (hs : Hid ((s : ByteArray).size ≤ maxLen)) (ho : okV 2 0 s = true) : Calls Tryd.prog 25 #[.agg #[.int .i64 2, .int .i64 0, .string s]] w fun e w' => e = .returned (.string ((⟨#[39]⟩ : ByteArray) ++ s)) ∧ Below w.heap.size w w' := by
  have HOK : Hid (okV 2 0 s = true) := ho
  clear ho
  have hs1 : ¬ 9223372036854775807 < 1 + s.size := by omega
  go_enter Tryd.func25, Tryd.ntmps25
  go_wp2_with (first
    | (go_at_call 27; refine (spec_ValueOk _ _ _ _ hs.out).mono ?_; rintro e w1 ⟨rfl, hb⟩; rw [HOK.out]; obtain ⟨hc, hf, hC, hF, hz, hk, l0⟩ := bk1 (w := w) (by go_grown) (by go_size) hb; clear hb))
  go_ret
  exact ⟨rfl, by go_grown⟩

set_option maxHeartbeats 1000000 in
theorem svt_truth (n : Int) (hr : Hid (n = 0 ∨ n = 1)) (w : World) (hs : Hid ((⟨#[]⟩ : ByteArray).size ≤ maxLen)) (ho : okV 3 n ⟨#[]⟩ = true) : Calls Tryd.prog 25 #[.agg #[.int .i64 3, .int .i64 n, .string ⟨#[]⟩]] w fun e w' => e = .returned (.string (trT n)) ∧ Below w.heap.size w w' := by
  have HOK : Hid (okV 3 n ⟨#[]⟩ = true) := ho
  clear ho
  go_enter Tryd.func25, Tryd.ntmps25
  go_wp2_with (first
    | (go_at_call 27; refine (spec_ValueOk _ _ _ _ hs.out).mono ?_; rintro e w1 ⟨rfl, hb⟩; rw [HOK.out]; obtain ⟨hc, hf, hC, hF, hz, hk, l0⟩ := bk1 (w := w) (by go_grown) (by go_size) hb; clear hb)
    | (go_at_call 52; refine (spec_l2Bool n _ hr.out).mono ?_; rintro e w2 ⟨rfl, hw⟩; subst w2))
  go_ret
  exact ⟨rfl, by go_grown⟩

set_option maxHeartbeats 1000000 in
theorem svt_fail (n : Int) (h1 : 1 ≤ n) (h5 : n ≤ 5) (w : World) (hs : Hid ((⟨#[]⟩ : ByteArray).size ≤ maxLen)) (ho : okV 4 n ⟨#[]⟩ = true) : Calls Tryd.prog 25 #[.agg #[.int .i64 4, .int .i64 n, .string ⟨#[]⟩]] w fun e w' => e = .returned (.string (erT n)) ∧ Below w.heap.size w w' := by
  have HOK : Hid (okV 4 n ⟨#[]⟩ = true) := ho
  clear ho
  go_enter Tryd.func25, Tryd.ntmps25
  go_wp2_with (first
    | (go_at_call 27; refine (spec_ValueOk _ _ _ _ hs.out).mono ?_; rintro e w1 ⟨rfl, hb⟩; rw [HOK.out]; obtain ⟨hc, hf, hC, hF, hz, hk, l0⟩ := bk1 (w := w) (by go_grown) (by go_size) hb; clear hb)
    | (go_at_call 53; refine (spec_l2Name n _ (by omega) (by omega)).mono ?_; rintro e w2 ⟨rfl, hb⟩; obtain ⟨hc2, hf2, hC2, hF2, hz2, hk2, l02⟩ := bk1 (w := w) (by go_grown) (by go_size) hb; clear hb))
  go_ret
  exact ⟨rfl, by go_grown⟩

theorem spec_ValueText (k n : Int) (s : ByteArray) (w : World) (hs : s.size ≤ maxLen) : Calls Tryd.prog 25 #[.agg #[.int .i64 k, .int .i64 n, .string s]] w fun e w' => e = .returned (.string (txV k n s)) ∧ Below w.heap.size w w' := by
  cases ho : okV k n s
  · rw [show txV k n s = ⟨#[]⟩ by unfold txV; rw [ho]; rfl]
    exact svt_no k n s w hs ho
  · rw [show txV k n s = txB k n s by unfold txV; rw [ho]; rfl]
    rcases okV_kinds ho with ⟨rfl, rfl, rfl⟩ | ⟨rfl, hr, rfl⟩ | ⟨rfl, rfl, hr⟩ | ⟨rfl, hr, rfl⟩ | ⟨rfl, h1, h5, rfl⟩
    · exact svt_blank w hs ho
    · exact svt_num n hr w hs ho
    · exact svt_word s (rWord_b hr) w hs ho
    · exact svt_truth n hr w hs ho
    · exact svt_fail n h1 h5 w hs ho
end Go.Proofs.YtidmajdiidfceaaDoor
