import Derived.Test.YtidmajdiidfceaaDoorRvG
import Derived.Laws.BytesString
namespace Go.Proofs.YtidmajdiidfceaaDoor
open Go.RowKit
set_option linter.unusedSimpArgs false
set_option linter.unusedVariables false

theorem conv0 (W : World) (b : Nat) (v : Int) (hv : W.cell? ⟨b, 0, none⟩ = some (.int .u8 v)) :
    (convert 22 9 (.slice (some ⟨b, 0, none⟩) 1 1)).run Tryd.prog W = .ok (.string ⟨#[UInt8.ofNat v.toNat]⟩) W := by
  rw [run_convert_bytes_string W 22 9 5 (some ⟨b, 0, none⟩) 1 1 Tryd.underlying22 Tryd.underlying5 Tryd.underlying9]
  have hl := run_loadCells_list (P := Tryd.prog) W ⟨b, 0, none⟩ [.int .u8 v] (fun j x hj => by
    match j, hj with
    | 0, hj => simp at hj; simpa [Addr.add, ← hj] using hv)
  rw [run_bytesToString W ⟨b, 0, none⟩ 1 1 [v] (by simpa using hl)]
  rfl
theorem conv1 (W : World) (v : Int) : (convert 22 9 (.slice (some ⟨W.heap.size, 0, none⟩) 1 1)).run Tryd.prog (W.alloc (.cells #[.int .u8 v] 5)) =
    .ok (.string ⟨#[UInt8.ofNat v.toNat]⟩) (W.alloc (.cells #[.int .u8 v] 5)) := conv0 _ _ v (by simp)

/-- The text of a value by its Kind. -/
def itB (n : Int) : ByteArray := ⟨(Lib.itoa n).toArray⟩
def txB (k n : Int) (s : ByteArray) : ByteArray := if k = 1 then itB n else if k = 2 then (⟨#[39]⟩ : ByteArray) ++ s else if k = 3 then trT n else if k = 4 then erT n else ⟨#[]⟩
def txV (k n : Int) (s : ByteArray) : ByteArray := if okV k n s then txB k n s else ⟨#[]⟩

set_option maxHeartbeats 400000 in
theorem text_number (n : Int) (w : World) (h0 : -9223372036854775808 ≤ n) (h1 : n ≤ 9223372036854775807) (hv : Vars w) : Calls Tryd.prog 126 #[.int .i64 n] w fun e w' =>
    e = .returned (.string (itB n)) ∧ Below w.heap.size w w' := by
  have HV : Hid (Vars w) := hv
  clear hv
  go_enter Tryd.func126, Tryd.ntmps126
  go_wp2_with fail
  refine (Tryd.strconv_FormatInt_10 n h0 h1 _ HV.out.1).mono ?_
  rintro e w2 ⟨rfl, k, os, rfl⟩
  have hb2 := Lib.below_grow w.heap.size w (Nat.le_refl _) k os
  go_wp2_with fail
  go_ret
  exact ⟨rfl, hb2⟩

set_option maxHeartbeats 400000 in
theorem text_wording (s : ByteArray) (w : World) (hs : s.size ≤ 1000) : Calls Tryd.prog 118 #[.string s] w fun e w' =>
    e = .returned (.string ((⟨#[39]⟩ : ByteArray) ++ s)) ∧ w' = w := by
  have hs1 : ¬ 9223372036854775807 < 1 + s.size := by omega
  go_enter Tryd.func118, Tryd.ntmps118
  go_wp2_with fail
  go_ret
  exact ⟨rfl, rfl⟩

set_option maxHeartbeats 400000 in
theorem text_blank (w : World) : Calls Tryd.prog 115 #[.agg #[]] w fun e w' =>
    e = .returned (.string ⟨#[]⟩) ∧ Below w.heap.size w w' := by
  go_enter Tryd.func115, Tryd.ntmps115
  go_wp2
  go_ret
  exact ⟨rfl, by go_grown⟩

set_option maxHeartbeats 400000 in
theorem text_misfit (w : World) : Calls Tryd.prog 112 #[.agg #[]] w fun e w' =>
    e = .returned (.string ⟨#[]⟩) ∧ Below w.heap.size w w' := by
  go_enter Tryd.func112, Tryd.ntmps112
  go_wp2
  go_ret
  exact ⟨rfl, by go_grown⟩

theorem okV_kinds {k n : Int} {s : ByteArray} (h : okV k n s = true) : (k = 0 ∧ n = 0 ∧ s = ⟨#[]⟩) ∨ (k = 1 ∧ rNum n = true ∧ s = ⟨#[]⟩) ∨ (k = 2 ∧ n = 0 ∧ rWord s = true) ∨ (k = 3 ∧ (n = 0 ∨ n = 1) ∧ s = ⟨#[]⟩) ∨ (k = 4 ∧ 1 ≤ n ∧ n ≤ 5 ∧ s = ⟨#[]⟩) := by
  unfold okV at h
  by_cases h0 : k = 0
  · rw [if_pos h0, Bool.and_eq_true] at h
    exact Or.inl ⟨h0, of_decide_eq_true h.1, emp_of h.2⟩
  by_cases h1 : k = 1
  · rw [if_neg h0, if_pos h1, Bool.and_eq_true] at h
    exact Or.inr (Or.inl ⟨h1, h.1, emp_of h.2⟩)
  by_cases h2 : k = 2
  · rw [if_neg h0, if_neg h1, if_pos h2, Bool.and_eq_true] at h
    exact Or.inr (Or.inr (Or.inl ⟨h2, of_decide_eq_true h.1, h.2⟩))
  by_cases h3 : k = 3
  · rw [if_neg h0, if_neg h1, if_neg h2, if_pos h3, Bool.and_eq_true] at h
    exact Or.inr (Or.inr (Or.inr (Or.inl ⟨h3, of_decide_eq_true h.1, emp_of h.2⟩)))
  by_cases h4 : k = 4
  · rw [if_neg h0, if_neg h1, if_neg h2, if_neg h3, if_pos h4, Bool.and_eq_true] at h
    have := of_decide_eq_true h.1
    exact Or.inr (Or.inr (Or.inr (Or.inr ⟨h4, this.1, this.2, emp_of h.2⟩)))
  · rw [if_neg h0, if_neg h1, if_neg h2, if_neg h3, if_neg h4] at h
    cases h
theorem rNum_b {n : Int} (h : rNum n = true) : -1000000000000000 ≤ n ∧ n ≤ 1000000000000000 := of_decide_eq_true h
theorem rWord_b {s : ByteArray} (h : rWord s = true) : s.size ≤ 200 := by
  unfold rWord at h
  rw [Bool.and_eq_true] at h
  exact of_decide_eq_true h.1

set_option maxHeartbeats 1000000 in
theorem ivt_no (k n : Int) (s : ByteArray) (w : World) (hv : Vars w) (hs : Hid (s.size ≤ maxLen)) (hm : mOf k n s = mNo) : Calls Tryd.prog 23 #[.agg #[.int .i64 k, .int .i64 n, .string s]] w fun e w' => e = .returned (.string (⟨#[]⟩)) ∧ Below w.heap.size w w' := by
  have HV : Hid (Vars w) := hv
  have HM : Hid (mOf k n s = mNo) := hm
  clear hv hm
  go_enter Tryd.func23, Tryd.ntmps23
  go_wp2_with (first
    | (go_at_call 50; refine (impl_meaningOf _ _ _ _ hs.out).mono ?_; rintro e w1 ⟨rfl, hb⟩; rw [HM.out]; unfold mNo; have K1 : Hid (Below w.heap.size w w1) := (bchain (by go_grown) hb); clear hb)
    | (go_at_call 112; refine (text_misfit _).mono ?_; rintro e w2 ⟨rfl, hb⟩; have K2 : Hid (Below w.heap.size w w2) := (bchain K1.out hb); clear hb))
  go_ret
  exact ⟨rfl, K2.out⟩

set_option maxHeartbeats 1000000 in
theorem ivt_blank  (w : World) (hv : Vars w) (hs : Hid ((⟨#[]⟩ : ByteArray).size ≤ maxLen)) (hm : mOf 0 0 ⟨#[]⟩ = .iface 92 (.agg #[])) : Calls Tryd.prog 23 #[.agg #[.int .i64 0, .int .i64 0, .string ⟨#[]⟩]] w fun e w' => e = .returned (.string (⟨#[]⟩)) ∧ Below w.heap.size w w' := by
  have HV : Hid (Vars w) := hv
  have HM : Hid (mOf 0 0 ⟨#[]⟩ = .iface 92 (.agg #[])) := hm
  clear hv hm
  go_enter Tryd.func23, Tryd.ntmps23
  go_wp2_with (first
    | (go_at_call 50; refine (impl_meaningOf _ _ _ _ hs.out).mono ?_; rintro e w1 ⟨rfl, hb⟩; rw [HM.out]; have K1 : Hid (Below w.heap.size w w1) := (bchain (by go_grown) hb); clear hb)
    | (go_at_call 115; refine (text_blank _).mono ?_; rintro e w2 ⟨rfl, hb⟩; have K2 : Hid (Below w.heap.size w w2) := (bchain K1.out hb); clear hb))
  go_ret
  exact ⟨rfl, K2.out⟩

set_option maxHeartbeats 1000000 in
theorem ivt_num (n : Int) (h0 : -9223372036854775808 ≤ n) (h1 : n ≤ 9223372036854775807) (w : World) (hv : Vars w) (hs : Hid ((⟨#[]⟩ : ByteArray).size ≤ maxLen)) (hm : mOf 1 n ⟨#[]⟩ = .iface 96 (.int .i64 n)) : Calls Tryd.prog 23 #[.agg #[.int .i64 1, .int .i64 n, .string ⟨#[]⟩]] w fun e w' => e = .returned (.string (itB n)) ∧ Below w.heap.size w w' := by
  have HV : Hid (Vars w) := hv
  have HM : Hid (mOf 1 n ⟨#[]⟩ = .iface 96 (.int .i64 n)) := hm
  clear hv hm
  go_enter Tryd.func23, Tryd.ntmps23
  go_wp2_with (first
    | (go_at_call 50; refine (impl_meaningOf _ _ _ _ hs.out).mono ?_; rintro e w1 ⟨rfl, hb⟩; rw [HM.out]; have K1 : Hid (Below w.heap.size w w1) := (bchain (by go_grown) hb); clear hb)
    | (go_at_call 126; refine (text_number n _ h0 h1 (HV.out.below K1.out)).mono ?_; rintro e w2 ⟨rfl, hb⟩; have K2 : Hid (Below w.heap.size w w2) := (bchain K1.out hb); clear hb))
  go_ret
  exact ⟨rfl, K2.out⟩

set_option maxHeartbeats 1000000 in
theorem ivt_word (s : ByteArray) (h2 : s.size ≤ 1000) (w : World) (hv : Vars w) (hs : Hid (s.size ≤ maxLen)) (hm : mOf 2 0 s = .iface 93 (.string s)) : Calls Tryd.prog 23 #[.agg #[.int .i64 2, .int .i64 0, .string s]] w fun e w' => e = .returned (.string ((⟨#[39]⟩ : ByteArray) ++ s)) ∧ Below w.heap.size w w' := by
  have HV : Hid (Vars w) := hv
  have HM : Hid (mOf 2 0 s = .iface 93 (.string s)) := hm
  clear hv hm
  go_enter Tryd.func23, Tryd.ntmps23
  go_wp2_with (first
    | (go_at_call 50; refine (impl_meaningOf _ _ _ _ hs.out).mono ?_; rintro e w1 ⟨rfl, hb⟩; rw [HM.out]; have K1 : Hid (Below w.heap.size w w1) := (bchain (by go_grown) hb); clear hb)
    | (go_at_call 118; refine (text_wording s _ h2).mono ?_; rintro e w2 ⟨rfl, hw⟩; subst w2; have K2 : Hid (Below w.heap.size w w1) := K1.out))
  go_ret
  exact ⟨rfl, K2.out⟩

set_option maxHeartbeats 1000000 in
theorem ivt_truth (n : Int) (w : World) (hv : Vars w) (hs : Hid ((⟨#[]⟩ : ByteArray).size ≤ maxLen)) (hm : mOf 3 n ⟨#[]⟩ = .iface 94 (.int .i64 n)) : Calls Tryd.prog 23 #[.agg #[.int .i64 3, .int .i64 n, .string ⟨#[]⟩]] w fun e w' => e = .returned (.string (trT n)) ∧ Below w.heap.size w w' := by
  have HV : Hid (Vars w) := hv
  have HM : Hid (mOf 3 n ⟨#[]⟩ = .iface 94 (.int .i64 n)) := hm
  clear hv hm
  go_enter Tryd.func23, Tryd.ntmps23
  go_wp2_with (first
    | (go_at_call 50; refine (impl_meaningOf _ _ _ _ hs.out).mono ?_; rintro e w1 ⟨rfl, hb⟩; rw [HM.out]; have K1 : Hid (Below w.heap.size w w1) := (bchain (by go_grown) hb); clear hb)
    | (go_at_call 66; refine (text_truth n _).mono ?_; rintro e w2 ⟨rfl, hw⟩; subst w2; have K2 : Hid (Below w.heap.size w w1) := K1.out))
  go_ret
  exact ⟨rfl, K2.out⟩

set_option maxHeartbeats 1000000 in
theorem ivt_fail (n : Int) (w : World) (hv : Vars w) (hs : Hid ((⟨#[]⟩ : ByteArray).size ≤ maxLen)) (hm : mOf 4 n ⟨#[]⟩ = .iface 95 (.int .i64 n)) : Calls Tryd.prog 23 #[.agg #[.int .i64 4, .int .i64 n, .string ⟨#[]⟩]] w fun e w' => e = .returned (.string (erT n)) ∧ Below w.heap.size w w' := by
  have HV : Hid (Vars w) := hv
  have HM : Hid (mOf 4 n ⟨#[]⟩ = .iface 95 (.int .i64 n)) := hm
  clear hv hm
  go_enter Tryd.func23, Tryd.ntmps23
  go_wp2_with (first
    | (go_at_call 50; refine (impl_meaningOf _ _ _ _ hs.out).mono ?_; rintro e w1 ⟨rfl, hb⟩; rw [HM.out]; have K1 : Hid (Below w.heap.size w w1) := (bchain (by go_grown) hb); clear hb)
    | (go_at_call 67; refine (text_failure n _).mono ?_; rintro e w2 ⟨rfl, hw⟩; subst w2; have K2 : Hid (Below w.heap.size w w1) := K1.out))
  go_ret
  exact ⟨rfl, K2.out⟩

theorem mOf_yes {k n : Int} {s : ByteArray} (h : okV k n s = true) : mOf k n s = mBK k n s := by unfold mOf; rw [h]; rfl
theorem impl_ValueText (k n : Int) (s : ByteArray) (w : World) (hv : Vars w) (hs : s.size ≤ maxLen) : Calls Tryd.prog 23 #[.agg #[.int .i64 k, .int .i64 n, .string s]] w fun e w' => e = .returned (.string (txV k n s)) ∧ Below w.heap.size w w' := by
  cases ho : okV k n s
  · rw [show txV k n s = ⟨#[]⟩ by unfold txV; rw [ho]; rfl]
    exact ivt_no k n s w hv hs (by unfold mOf; rw [ho]; rfl)
  · rw [show txV k n s = txB k n s by unfold txV; rw [ho]; rfl]
    have hm := mOf_yes ho
    rcases okV_kinds ho with ⟨rfl, rfl, rfl⟩ | ⟨rfl, hr, rfl⟩ | ⟨rfl, rfl, hr⟩ | ⟨rfl, hr, rfl⟩ | ⟨rfl, h1, h5, rfl⟩
    · exact ivt_blank w hv hs hm
    · have := rNum_b hr
      exact ivt_num n (by omega) (by omega) w hv hs hm
    · have := rWord_b hr
      exact ivt_word s (by omega) w hv hs hm
    · exact ivt_truth n w hv hs hm
    · exact ivt_fail n w hv hs hm
end Go.Proofs.YtidmajdiidfceaaDoor
