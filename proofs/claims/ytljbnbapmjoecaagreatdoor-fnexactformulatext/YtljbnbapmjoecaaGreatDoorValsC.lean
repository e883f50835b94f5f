import Derived.Test.YtljbnbapmjoecaaGreatDoorValsA
import Derived.Laws.StructEq
import Derived.Deep.RegionWith
namespace Go.Proofs.YtljbnbapmjoecaaGreatDoor
open Go.RowKit

theorem right_number_no (n : Int) (w : World) (hR : rNum n = false) : Calls Tryz.prog 265 #[.int .i64 n] w fun e w' => e = .returned (.bool false) ∧ w' = w :=
  (right_number n w).mono fun _ _ h => ⟨by rw [h.1, hR], h.2⟩

theorem right_truth_no (n : Int) (w : World) (hR : rTruth n = false) : Calls Tryz.prog 262 #[.int .i64 n] w fun e w' => e = .returned (.bool false) ∧ w' = w :=
  (right_truth n w).mono fun _ _ h => ⟨by rw [h.1, hR], h.2⟩

theorem right_failure_no (n : Int) (w : World) (hR : rFail n = false) : Calls Tryz.prog 264 #[.int .i64 n] w fun e w' => e = .returned (.bool false) ∧ w' = w :=
  (right_failure n w).mono fun _ _ h => ⟨by rw [h.1, hR], h.2⟩

theorem right_wording_no (s : ByteArray) (w : World) (hs : s.size ≤ maxLen) (hR : rWord s = false) : Calls Tryz.prog 258 #[.string s] w fun e w' => e = .returned (.bool false) ∧ w' = w :=
  (right_wording s w hs).mono fun _ _ h => ⟨by rw [h.1, hR], h.2⟩

set_option maxHeartbeats 1000000 in
theorem meaningOf_number_nr (n : Int) (s : ByteArray) (w : World) (hR : rNum n = false) : Calls Tryz.prog 74 #[.agg #[.int .i64 1, .int .i64 n, .string s]] w fun e w' =>
    e = .returned (mNo) ∧ Below w.heap.size w w' := by
  go_enter Tryz.func74, Tryz.ntmps74
  go_wp2_with (first
    | (go_at_call 128; refine (impl_meaningByKind _ _ _ _).mono ?_; rintro e w1 ⟨rfl, hb⟩; have em : mBK 1 n s = .iface 142 (.int .i64 n) := rfl; rw [em]; clear em; obtain ⟨hk, hz⟩ := bframe (B := w.heap.size + 1) (X := (w.alloc (.cells #[.int .i64 1, .int .i64 n, .string s] 40))) (by go_grown) (by go_size) hb; obtain ⟨hC, hF, hL, hE⟩ := kp hb; clear hb))
  first
    | (go_region_with (first
      | (go_at_call 265; refine (right_number_no _ _ hR).mono ?_; rintro e w1 ⟨rfl, rfl⟩)))
    | fail
  all_goals go_wp2_with fail
  all_goals
    go_ret
    exact ⟨rfl, bfin (n := 1) (X := (w.alloc (.cells #[.int .i64 1, .int .i64 n, .string s] 40))) (by go_grown) (by go_grown)⟩

set_option maxHeartbeats 1000000 in
theorem meaningOf_truth_nr (n : Int) (s : ByteArray) (w : World) (hR : rTruth n = false) : Calls Tryz.prog 74 #[.agg #[.int .i64 3, .int .i64 n, .string s]] w fun e w' =>
    e = .returned (mNo) ∧ Below w.heap.size w w' := by
  go_enter Tryz.func74, Tryz.ntmps74
  go_wp2_with (first
    | (go_at_call 128; refine (impl_meaningByKind _ _ _ _).mono ?_; rintro e w1 ⟨rfl, hb⟩; have em : mBK 3 n s = .iface 139 (.int .i64 n) := rfl; rw [em]; clear em; obtain ⟨hk, hz⟩ := bframe (B := w.heap.size + 1) (X := (w.alloc (.cells #[.int .i64 3, .int .i64 n, .string s] 40))) (by go_grown) (by go_size) hb; obtain ⟨hC, hF, hL, hE⟩ := kp hb; clear hb))
  first
    | (go_region_with (first
      | (go_at_call 262; refine (right_truth_no _ _ hR).mono ?_; rintro e w1 ⟨rfl, rfl⟩)))
    | fail
  all_goals go_wp2_with fail
  all_goals
    go_ret
    exact ⟨rfl, bfin (n := 1) (X := (w.alloc (.cells #[.int .i64 3, .int .i64 n, .string s] 40))) (by go_grown) (by go_grown)⟩

set_option maxHeartbeats 1000000 in
theorem meaningOf_failure_nr (n : Int) (s : ByteArray) (w : World) (hR : rFail n = false) : Calls Tryz.prog 74 #[.agg #[.int .i64 4, .int .i64 n, .string s]] w fun e w' =>
    e = .returned (mNo) ∧ Below w.heap.size w w' := by
  go_enter Tryz.func74, Tryz.ntmps74
  go_wp2_with (first
    | (go_at_call 128; refine (impl_meaningByKind _ _ _ _).mono ?_; rintro e w1 ⟨rfl, hb⟩; have em : mBK 4 n s = .iface 140 (.int .i64 n) := rfl; rw [em]; clear em; obtain ⟨hk, hz⟩ := bframe (B := w.heap.size + 1) (X := (w.alloc (.cells #[.int .i64 4, .int .i64 n, .string s] 40))) (by go_grown) (by go_size) hb; obtain ⟨hC, hF, hL, hE⟩ := kp hb; clear hb))
  first
    | (go_region_with (first
      | (go_at_call 264; refine (right_failure_no _ _ hR).mono ?_; rintro e w1 ⟨rfl, rfl⟩)))
    | fail
  all_goals go_wp2_with fail
  all_goals
    go_ret
    exact ⟨rfl, bfin (n := 1) (X := (w.alloc (.cells #[.int .i64 4, .int .i64 n, .string s] 40))) (by go_grown) (by go_grown)⟩

set_option maxHeartbeats 1000000 in
theorem meaningOf_wording_nr (n : Int) (s : ByteArray) (w : World) (hs : Hid (s.size ≤ maxLen)) (hR : rWord s = false) : Calls Tryz.prog 74 #[.agg #[.int .i64 2, .int .i64 n, .string s]] w fun e w' =>
    e = .returned (mNo) ∧ Below w.heap.size w w' := by
  go_enter Tryz.func74, Tryz.ntmps74
  go_wp2_with (first
    | (go_at_call 128; refine (impl_meaningByKind _ _ _ _).mono ?_; rintro e w1 ⟨rfl, hb⟩; have em : mBK 2 n s = .iface 134 (.string s) := rfl; rw [em]; clear em; obtain ⟨hk, hz⟩ := bframe (B := w.heap.size + 1) (X := (w.alloc (.cells #[.int .i64 2, .int .i64 n, .string s] 40))) (by go_grown) (by go_size) hb; obtain ⟨hC, hF, hL, hE⟩ := kp hb; clear hb))
  first
    | (go_region_with (first
      | (go_at_call 258; refine (right_wording_no _ _ hs.out hR).mono ?_; rintro e w1 ⟨rfl, rfl⟩)))
    | fail
  all_goals go_wp2_with fail
  all_goals
    go_ret
    exact ⟨rfl, bfin (n := 1) (X := (w.alloc (.cells #[.int .i64 2, .int .i64 n, .string s] 40))) (by go_grown) (by go_grown)⟩

set_option maxHeartbeats 1000000 in
theorem meaningOf_misfit_nr (k : Int) (n : Int) (s : ByteArray) (w : World) (HM : Hid (mBK k n s = .iface 143 (.agg #[]))) : Calls Tryz.prog 74 #[.agg #[.int .i64 k, .int .i64 n, .string s]] w fun e w' =>
    e = .returned (mNo) ∧ Below w.heap.size w w' := by
  go_enter Tryz.func74, Tryz.ntmps74
  go_wp2_with (first
    | (go_at_call 128; refine (impl_meaningByKind _ _ _ _).mono ?_; rintro e w1 ⟨rfl, hb⟩; rw [HM.out]; obtain ⟨hk, hz⟩ := bframe (B := w.heap.size + 1) (X := (w.alloc (.cells #[.int .i64 k, .int .i64 n, .string s] 40))) (by go_grown) (by go_size) hb; obtain ⟨hC, hF, hL, hE⟩ := kp hb; clear hb))
  first
    | (go_region_with (first
      | (go_at_call 267; refine (right_misfit _).mono ?_; rintro e w1 ⟨rfl, hb⟩; obtain ⟨hk, hz⟩ := bframe (B := w.heap.size + 1) (X := (w.alloc (.cells #[.int .i64 k, .int .i64 n, .string s] 40))) (by go_grown) (by go_size) hb; clear hb)))
    | fail
  all_goals go_wp2_with fail
  all_goals
    go_ret
    exact ⟨rfl, bfin (n := 1) (X := (w.alloc (.cells #[.int .i64 k, .int .i64 n, .string s] 40))) (by go_grown) (by go_grown)⟩
end Go.Proofs.YtljbnbapmjoecaaGreatDoor
