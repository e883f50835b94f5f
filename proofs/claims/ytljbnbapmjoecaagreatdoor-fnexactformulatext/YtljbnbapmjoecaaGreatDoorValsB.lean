import Derived.Test.YtljbnbapmjoecaaGreatDoorValsA
import Derived.Laws.StructEq
namespace Go.Proofs.YtljbnbapmjoecaaGreatDoor
open Go.RowKit

set_option maxHeartbeats 1000000 in
theorem meaningOf_blank_ok (s : ByteArray) (w : World) (hq : s.toList = []) : Calls Tryz.prog 74 #[.agg #[.int .i64 0, .int .i64 0, .string s]] w fun e w' =>
    e = .returned (.iface 138 (.agg #[])) ∧ Below w.heap.size w w' := by
  go_enter Tryz.func74, Tryz.ntmps74
  go_wp2_with (first
    | (go_at_call 128; refine (impl_meaningByKind _ _ _ _).mono ?_; rintro e w1 ⟨rfl, hb⟩; have em : mBK 0 0 s = .iface 138 (.agg #[]) := rfl; rw [em]; clear em; obtain ⟨hk, hz⟩ := bframe (B := w.heap.size + 1) (X := (w.alloc (.cells #[.int .i64 0, .int .i64 0, .string s] 40))) (by go_grown) (by go_size) hb; obtain ⟨hC, hF, hL, hE⟩ := kp hb; clear hb))
  go_region_held3 (fun w' => (∀ bq oq, bq < w.heap.size + 1 → w'.cell? ⟨bq, oq, none⟩ = (w.alloc (.cells #[.int .i64 0, .int .i64 0, .string s] 40)).cell? ⟨bq, oq, none⟩) ∧ w.heap.size + 1 ≤ w'.heap.size ∧ Below (w.heap.size + 1) (w.alloc (.cells #[.int .i64 0, .int .i64 0, .string s] 40)) w')
    (exact sc_of (by go_size) (by go_grown))
    (first
    | (go_at_call 259; refine (right_blank _).mono ?_; rintro e w1 ⟨rfl, hb⟩; obtain ⟨hk, hz⟩ := bframe (B := w.heap.size + 1) (X := (w.alloc (.cells #[.int .i64 0, .int .i64 0, .string s] 40))) (by go_grown) (by go_size) hb; clear hb)
    | (go_at_call 261; refine (value_blank _).mono ?_; rintro e w1 ⟨rfl, hb⟩; obtain ⟨hk, hz⟩ := bframe (B := w.heap.size + 1) (X := (w.alloc (.cells #[.int .i64 0, .int .i64 0, .string s] 40))) (by go_grown) (by go_size) hb; clear hb))
  all_goals go_wp2_with fail
  all_goals
    go_ret
    exact ⟨rfl, bfin (n := 1) (X := (w.alloc (.cells #[.int .i64 0, .int .i64 0, .string s] 40))) (by go_grown) (by go_grown)⟩

set_option maxHeartbeats 1000000 in
theorem meaningOf_blank_no (s : ByteArray) (w : World) (hq : ¬ s.toList = []) : Calls Tryz.prog 74 #[.agg #[.int .i64 0, .int .i64 0, .string s]] w fun e w' =>
    e = .returned (mNo) ∧ Below w.heap.size w w' := by
  go_enter Tryz.func74, Tryz.ntmps74
  go_wp2_with (first
    | (go_at_call 128; refine (impl_meaningByKind _ _ _ _).mono ?_; rintro e w1 ⟨rfl, hb⟩; have em : mBK 0 0 s = .iface 138 (.agg #[]) := rfl; rw [em]; clear em; obtain ⟨hk, hz⟩ := bframe (B := w.heap.size + 1) (X := (w.alloc (.cells #[.int .i64 0, .int .i64 0, .string s] 40))) (by go_grown) (by go_size) hb; obtain ⟨hC, hF, hL, hE⟩ := kp hb; clear hb))
  go_region_held3 (fun w' => (∀ bq oq, bq < w.heap.size + 1 → w'.cell? ⟨bq, oq, none⟩ = (w.alloc (.cells #[.int .i64 0, .int .i64 0, .string s] 40)).cell? ⟨bq, oq, none⟩) ∧ w.heap.size + 1 ≤ w'.heap.size ∧ Below (w.heap.size + 1) (w.alloc (.cells #[.int .i64 0, .int .i64 0, .string s] 40)) w')
    (exact sc_of (by go_size) (by go_grown))
    (first
    | (go_at_call 259; refine (right_blank _).mono ?_; rintro e w1 ⟨rfl, hb⟩; obtain ⟨hk, hz⟩ := bframe (B := w.heap.size + 1) (X := (w.alloc (.cells #[.int .i64 0, .int .i64 0, .string s] 40))) (by go_grown) (by go_size) hb; clear hb)
    | (go_at_call 261; refine (value_blank _).mono ?_; rintro e w1 ⟨rfl, hb⟩; obtain ⟨hk, hz⟩ := bframe (B := w.heap.size + 1) (X := (w.alloc (.cells #[.int .i64 0, .int .i64 0, .string s] 40))) (by go_grown) (by go_size) hb; clear hb))
  all_goals go_wp2_with fail
  all_goals
    go_ret
    exact ⟨rfl, bfin (n := 1) (X := (w.alloc (.cells #[.int .i64 0, .int .i64 0, .string s] 40))) (by go_grown) (by go_grown)⟩

set_option maxHeartbeats 1000000 in
theorem meaningOf_blank_nn (n : Int) (s : ByteArray) (w : World) (hq : ¬ 0 = n) : Calls Tryz.prog 74 #[.agg #[.int .i64 0, .int .i64 n, .string s]] w fun e w' =>
    e = .returned (mNo) ∧ Below w.heap.size w w' := by
  go_enter Tryz.func74, Tryz.ntmps74
  go_wp2_with (first
    | (go_at_call 128; refine (impl_meaningByKind _ _ _ _).mono ?_; rintro e w1 ⟨rfl, hb⟩; have em : mBK 0 n s = .iface 138 (.agg #[]) := rfl; rw [em]; clear em; obtain ⟨hk, hz⟩ := bframe (B := w.heap.size + 1) (X := (w.alloc (.cells #[.int .i64 0, .int .i64 n, .string s] 40))) (by go_grown) (by go_size) hb; obtain ⟨hC, hF, hL, hE⟩ := kp hb; clear hb))
  go_region_held3 (fun w' => (∀ bq oq, bq < w.heap.size + 1 → w'.cell? ⟨bq, oq, none⟩ = (w.alloc (.cells #[.int .i64 0, .int .i64 n, .string s] 40)).cell? ⟨bq, oq, none⟩) ∧ w.heap.size + 1 ≤ w'.heap.size ∧ Below (w.heap.size + 1) (w.alloc (.cells #[.int .i64 0, .int .i64 n, .string s] 40)) w')
    (exact sc_of (by go_size) (by go_grown))
    (first
    | (go_at_call 259; refine (right_blank _).mono ?_; rintro e w1 ⟨rfl, hb⟩; obtain ⟨hk, hz⟩ := bframe (B := w.heap.size + 1) (X := (w.alloc (.cells #[.int .i64 0, .int .i64 n, .string s] 40))) (by go_grown) (by go_size) hb; clear hb)
    | (go_at_call 261; refine (value_blank _).mono ?_; rintro e w1 ⟨rfl, hb⟩; obtain ⟨hk, hz⟩ := bframe (B := w.heap.size + 1) (X := (w.alloc (.cells #[.int .i64 0, .int .i64 n, .string s] 40))) (by go_grown) (by go_size) hb; clear hb))
  all_goals go_wp2_with fail
  all_goals
    go_ret
    exact ⟨rfl, bfin (n := 1) (X := (w.alloc (.cells #[.int .i64 0, .int .i64 n, .string s] 40))) (by go_grown) (by go_grown)⟩

set_option maxHeartbeats 1000000 in
theorem meaningOf_number_ok (n : Int) (s : ByteArray) (w : World) (hR : rNum n = true) (hq : s.toList = []) : Calls Tryz.prog 74 #[.agg #[.int .i64 1, .int .i64 n, .string s]] w fun e w' =>
    e = .returned (.iface 142 (.int .i64 n)) ∧ Below w.heap.size w w' := by
  go_enter Tryz.func74, Tryz.ntmps74
  go_wp2_with (first
    | (go_at_call 128; refine (impl_meaningByKind _ _ _ _).mono ?_; rintro e w1 ⟨rfl, hb⟩; have em : mBK 1 n s = .iface 142 (.int .i64 n) := rfl; rw [em]; clear em; obtain ⟨hk, hz⟩ := bframe (B := w.heap.size + 1) (X := (w.alloc (.cells #[.int .i64 1, .int .i64 n, .string s] 40))) (by go_grown) (by go_size) hb; obtain ⟨hC, hF, hL, hE⟩ := kp hb; clear hb))
  go_region_held3 (fun w' => (∀ bq oq, bq < w.heap.size + 1 → w'.cell? ⟨bq, oq, none⟩ = (w.alloc (.cells #[.int .i64 1, .int .i64 n, .string s] 40)).cell? ⟨bq, oq, none⟩) ∧ w.heap.size + 1 ≤ w'.heap.size ∧ Below (w.heap.size + 1) (w.alloc (.cells #[.int .i64 1, .int .i64 n, .string s] 40)) w')
    (exact sc_of (by go_size) (by go_grown))
    (first
    | (go_at_call 265; refine (right_number _ _).mono ?_; rintro e w1 ⟨rfl, rfl⟩)
    | (go_at_call 162; refine (value_number _ _).mono ?_; rintro e w1 ⟨rfl, hb⟩; obtain ⟨hk, hz⟩ := bframe (B := w.heap.size + 1) (X := (w.alloc (.cells #[.int .i64 1, .int .i64 n, .string s] 40))) (by go_grown) (by go_size) hb; clear hb))
  all_goals go_wp2_with fail
  all_goals
    go_ret
    exact ⟨rfl, bfin (n := 1) (X := (w.alloc (.cells #[.int .i64 1, .int .i64 n, .string s] 40))) (by go_grown) (by go_grown)⟩

set_option maxHeartbeats 1000000 in
theorem meaningOf_number_no (n : Int) (s : ByteArray) (w : World) (hR : rNum n = true) (hq : ¬ s.toList = []) : Calls Tryz.prog 74 #[.agg #[.int .i64 1, .int .i64 n, .string s]] w fun e w' =>
    e = .returned (mNo) ∧ Below w.heap.size w w' := by
  go_enter Tryz.func74, Tryz.ntmps74
  go_wp2_with (first
    | (go_at_call 128; refine (impl_meaningByKind _ _ _ _).mono ?_; rintro e w1 ⟨rfl, hb⟩; have em : mBK 1 n s = .iface 142 (.int .i64 n) := rfl; rw [em]; clear em; obtain ⟨hk, hz⟩ := bframe (B := w.heap.size + 1) (X := (w.alloc (.cells #[.int .i64 1, .int .i64 n, .string s] 40))) (by go_grown) (by go_size) hb; obtain ⟨hC, hF, hL, hE⟩ := kp hb; clear hb))
  go_region_held3 (fun w' => (∀ bq oq, bq < w.heap.size + 1 → w'.cell? ⟨bq, oq, none⟩ = (w.alloc (.cells #[.int .i64 1, .int .i64 n, .string s] 40)).cell? ⟨bq, oq, none⟩) ∧ w.heap.size + 1 ≤ w'.heap.size ∧ Below (w.heap.size + 1) (w.alloc (.cells #[.int .i64 1, .int .i64 n, .string s] 40)) w')
    (exact sc_of (by go_size) (by go_grown))
    (first
    | (go_at_call 265; refine (right_number _ _).mono ?_; rintro e w1 ⟨rfl, rfl⟩)
    | (go_at_call 162; refine (value_number _ _).mono ?_; rintro e w1 ⟨rfl, hb⟩; obtain ⟨hk, hz⟩ := bframe (B := w.heap.size + 1) (X := (w.alloc (.cells #[.int .i64 1, .int .i64 n, .string s] 40))) (by go_grown) (by go_size) hb; clear hb))
  all_goals go_wp2_with fail
  all_goals
    go_ret
    exact ⟨rfl, bfin (n := 1) (X := (w.alloc (.cells #[.int .i64 1, .int .i64 n, .string s] 40))) (by go_grown) (by go_grown)⟩

set_option maxHeartbeats 1000000 in
theorem meaningOf_truth_ok (n : Int) (s : ByteArray) (w : World) (hR : rTruth n = true) (hq : s.toList = []) : Calls Tryz.prog 74 #[.agg #[.int .i64 3, .int .i64 n, .string s]] w fun e w' =>
    e = .returned (.iface 139 (.int .i64 n)) ∧ Below w.heap.size w w' := by
  go_enter Tryz.func74, Tryz.ntmps74
  go_wp2_with (first
    | (go_at_call 128; refine (impl_meaningByKind _ _ _ _).mono ?_; rintro e w1 ⟨rfl, hb⟩; have em : mBK 3 n s = .iface 139 (.int .i64 n) := rfl; rw [em]; clear em; obtain ⟨hk, hz⟩ := bframe (B := w.heap.size + 1) (X := (w.alloc (.cells #[.int .i64 3, .int .i64 n, .string s] 40))) (by go_grown) (by go_size) hb; obtain ⟨hC, hF, hL, hE⟩ := kp hb; clear hb))
  go_region_held3 (fun w' => (∀ bq oq, bq < w.heap.size + 1 → w'.cell? ⟨bq, oq, none⟩ = (w.alloc (.cells #[.int .i64 3, .int .i64 n, .string s] 40)).cell? ⟨bq, oq, none⟩) ∧ w.heap.size + 1 ≤ w'.heap.size ∧ Below (w.heap.size + 1) (w.alloc (.cells #[.int .i64 3, .int .i64 n, .string s] 40)) w')
    (exact sc_of (by go_size) (by go_grown))
    (first
    | (go_at_call 262; refine (right_truth _ _).mono ?_; rintro e w1 ⟨rfl, rfl⟩)
    | (go_at_call 263; refine (value_truth _ _).mono ?_; rintro e w1 ⟨rfl, hb⟩; obtain ⟨hk, hz⟩ := bframe (B := w.heap.size + 1) (X := (w.alloc (.cells #[.int .i64 3, .int .i64 n, .string s] 40))) (by go_grown) (by go_size) hb; clear hb))
  all_goals go_wp2_with fail
  all_goals
    go_ret
    exact ⟨rfl, bfin (n := 1) (X := (w.alloc (.cells #[.int .i64 3, .int .i64 n, .string s] 40))) (by go_grown) (by go_grown)⟩

set_option maxHeartbeats 1000000 in
theorem meaningOf_truth_no (n : Int) (s : ByteArray) (w : World) (hR : rTruth n = true) (hq : ¬ s.toList = []) : Calls Tryz.prog 74 #[.agg #[.int .i64 3, .int .i64 n, .string s]] w fun e w' =>
    e = .returned (mNo) ∧ Below w.heap.size w w' := by
  go_enter Tryz.func74, Tryz.ntmps74
  go_wp2_with (first
    | (go_at_call 128; refine (impl_meaningByKind _ _ _ _).mono ?_; rintro e w1 ⟨rfl, hb⟩; have em : mBK 3 n s = .iface 139 (.int .i64 n) := rfl; rw [em]; clear em; obtain ⟨hk, hz⟩ := bframe (B := w.heap.size + 1) (X := (w.alloc (.cells #[.int .i64 3, .int .i64 n, .string s] 40))) (by go_grown) (by go_size) hb; obtain ⟨hC, hF, hL, hE⟩ := kp hb; clear hb))
  go_region_held3 (fun w' => (∀ bq oq, bq < w.heap.size + 1 → w'.cell? ⟨bq, oq, none⟩ = (w.alloc (.cells #[.int .i64 3, .int .i64 n, .string s] 40)).cell? ⟨bq, oq, none⟩) ∧ w.heap.size + 1 ≤ w'.heap.size ∧ Below (w.heap.size + 1) (w.alloc (.cells #[.int .i64 3, .int .i64 n, .string s] 40)) w')
    (exact sc_of (by go_size) (by go_grown))
    (first
    | (go_at_call 262; refine (right_truth _ _).mono ?_; rintro e w1 ⟨rfl, rfl⟩)
    | (go_at_call 263; refine (value_truth _ _).mono ?_; rintro e w1 ⟨rfl, hb⟩; obtain ⟨hk, hz⟩ := bframe (B := w.heap.size + 1) (X := (w.alloc (.cells #[.int .i64 3, .int .i64 n, .string s] 40))) (by go_grown) (by go_size) hb; clear hb))
  all_goals go_wp2_with fail
  all_goals
    go_ret
    exact ⟨rfl, bfin (n := 1) (X := (w.alloc (.cells #[.int .i64 3, .int .i64 n, .string s] 40))) (by go_grown) (by go_grown)⟩

set_option maxHeartbeats 1000000 in
theorem meaningOf_failure_ok (n : Int) (s : ByteArray) (w : World) (hR : rFail n = true) (hq : s.toList = []) : Calls Tryz.prog 74 #[.agg #[.int .i64 4, .int .i64 n, .string s]] w fun e w' =>
    e = .returned (.iface 140 (.int .i64 n)) ∧ Below w.heap.size w w' := by
  go_enter Tryz.func74, Tryz.ntmps74
  go_wp2_with (first
    | (go_at_call 128; refine (impl_meaningByKind _ _ _ _).mono ?_; rintro e w1 ⟨rfl, hb⟩; have em : mBK 4 n s = .iface 140 (.int .i64 n) := rfl; rw [em]; clear em; obtain ⟨hk, hz⟩ := bframe (B := w.heap.size + 1) (X := (w.alloc (.cells #[.int .i64 4, .int .i64 n, .string s] 40))) (by go_grown) (by go_size) hb; obtain ⟨hC, hF, hL, hE⟩ := kp hb; clear hb))
  go_region_held3 (fun w' => (∀ bq oq, bq < w.heap.size + 1 → w'.cell? ⟨bq, oq, none⟩ = (w.alloc (.cells #[.int .i64 4, .int .i64 n, .string s] 40)).cell? ⟨bq, oq, none⟩) ∧ w.heap.size + 1 ≤ w'.heap.size ∧ Below (w.heap.size + 1) (w.alloc (.cells #[.int .i64 4, .int .i64 n, .string s] 40)) w')
    (exact sc_of (by go_size) (by go_grown))
    (first
    | (go_at_call 264; refine (right_failure _ _).mono ?_; rintro e w1 ⟨rfl, rfl⟩)
    | (go_at_call 181; refine (value_failure _ _).mono ?_; rintro e w1 ⟨rfl, hb⟩; obtain ⟨hk, hz⟩ := bframe (B := w.heap.size + 1) (X := (w.alloc (.cells #[.int .i64 4, .int .i64 n, .string s] 40))) (by go_grown) (by go_size) hb; clear hb))
  all_goals go_wp2_with fail
  all_goals
    go_ret
    exact ⟨rfl, bfin (n := 1) (X := (w.alloc (.cells #[.int .i64 4, .int .i64 n, .string s] 40))) (by go_grown) (by go_grown)⟩

set_option maxHeartbeats 1000000 in
theorem meaningOf_failure_no (n : Int) (s : ByteArray) (w : World) (hR : rFail n = true) (hq : ¬ s.toList = []) : Calls Tryz.prog 74 #[.agg #[.int .i64 4, .int .i64 n, .string s]] w fun e w' =>
    e = .returned (mNo) ∧ Below w.heap.size w w' := by
  go_enter Tryz.func74, Tryz.ntmps74
  go_wp2_with (first
    | (go_at_call 128; refine (impl_meaningByKind _ _ _ _).mono ?_; rintro e w1 ⟨rfl, hb⟩; have em : mBK 4 n s = .iface 140 (.int .i64 n) := rfl; rw [em]; clear em; obtain ⟨hk, hz⟩ := bframe (B := w.heap.size + 1) (X := (w.alloc (.cells #[.int .i64 4, .int .i64 n, .string s] 40))) (by go_grown) (by go_size) hb; obtain ⟨hC, hF, hL, hE⟩ := kp hb; clear hb))
  go_region_held3 (fun w' => (∀ bq oq, bq < w.heap.size + 1 → w'.cell? ⟨bq, oq, none⟩ = (w.alloc (.cells #[.int .i64 4, .int .i64 n, .string s] 40)).cell? ⟨bq, oq, none⟩) ∧ w.heap.size + 1 ≤ w'.heap.size ∧ Below (w.heap.size + 1) (w.alloc (.cells #[.int .i64 4, .int .i64 n, .string s] 40)) w')
    (exact sc_of (by go_size) (by go_grown))
    (first
    | (go_at_call 264; refine (right_failure _ _).mono ?_; rintro e w1 ⟨rfl, rfl⟩)
    | (go_at_call 181; refine (value_failure _ _).mono ?_; rintro e w1 ⟨rfl, hb⟩; obtain ⟨hk, hz⟩ := bframe (B := w.heap.size + 1) (X := (w.alloc (.cells #[.int .i64 4, .int .i64 n, .string s] 40))) (by go_grown) (by go_size) hb; clear hb))
  all_goals go_wp2_with fail
  all_goals
    go_ret
    exact ⟨rfl, bfin (n := 1) (X := (w.alloc (.cells #[.int .i64 4, .int .i64 n, .string s] 40))) (by go_grown) (by go_grown)⟩

set_option maxHeartbeats 1000000 in
theorem meaningOf_wording_ok (s : ByteArray) (w : World) (hs : Hid (s.size ≤ maxLen)) (hR : rWord s = true) : Calls Tryz.prog 74 #[.agg #[.int .i64 2, .int .i64 0, .string s]] w fun e w' =>
    e = .returned (.iface 134 (.string s)) ∧ Below w.heap.size w w' := by
  go_enter Tryz.func74, Tryz.ntmps74
  go_wp2_with (first
    | (go_at_call 128; refine (impl_meaningByKind _ _ _ _).mono ?_; rintro e w1 ⟨rfl, hb⟩; have em : mBK 2 0 s = .iface 134 (.string s) := rfl; rw [em]; clear em; obtain ⟨hk, hz⟩ := bframe (B := w.heap.size + 1) (X := (w.alloc (.cells #[.int .i64 2, .int .i64 0, .string s] 40))) (by go_grown) (by go_size) hb; obtain ⟨hC, hF, hL, hE⟩ := kp hb; clear hb))
  go_region_held3 (fun w' => (∀ bq oq, bq < w.heap.size + 1 → w'.cell? ⟨bq, oq, none⟩ = (w.alloc (.cells #[.int .i64 2, .int .i64 0, .string s] 40)).cell? ⟨bq, oq, none⟩) ∧ w.heap.size + 1 ≤ w'.heap.size ∧ Below (w.heap.size + 1) (w.alloc (.cells #[.int .i64 2, .int .i64 0, .string s] 40)) w')
    (exact sc_of (by go_size) (by go_grown))
    (first
    | (go_at_call 258; refine (right_wording _ _ hs.out).mono ?_; rintro e w1 ⟨rfl, rfl⟩)
    | (go_at_call 200; refine (value_wording _ _).mono ?_; rintro e w1 ⟨rfl, hb⟩; obtain ⟨hk, hz⟩ := bframe (B := w.heap.size + 1) (X := (w.alloc (.cells #[.int .i64 2, .int .i64 0, .string s] 40))) (by go_grown) (by go_size) hb; clear hb))
  all_goals go_wp2_with fail
  all_goals
    go_ret
    exact ⟨rfl, bfin (n := 1) (X := (w.alloc (.cells #[.int .i64 2, .int .i64 0, .string s] 40))) (by go_grown) (by go_grown)⟩

set_option maxHeartbeats 1000000 in
theorem meaningOf_wording_no (n : Int) (s : ByteArray) (w : World) (hs : Hid (s.size ≤ maxLen)) (hR : rWord s = true) (hq : ¬ 0 = n) : Calls Tryz.prog 74 #[.agg #[.int .i64 2, .int .i64 n, .string s]] w fun e w' =>
    e = .returned (mNo) ∧ Below w.heap.size w w' := by
  go_enter Tryz.func74, Tryz.ntmps74
  go_wp2_with (first
    | (go_at_call 128; refine (impl_meaningByKind _ _ _ _).mono ?_; rintro e w1 ⟨rfl, hb⟩; have em : mBK 2 n s = .iface 134 (.string s) := rfl; rw [em]; clear em; obtain ⟨hk, hz⟩ := bframe (B := w.heap.size + 1) (X := (w.alloc (.cells #[.int .i64 2, .int .i64 n, .string s] 40))) (by go_grown) (by go_size) hb; obtain ⟨hC, hF, hL, hE⟩ := kp hb; clear hb))
  go_region_held3 (fun w' => (∀ bq oq, bq < w.heap.size + 1 → w'.cell? ⟨bq, oq, none⟩ = (w.alloc (.cells #[.int .i64 2, .int .i64 n, .string s] 40)).cell? ⟨bq, oq, none⟩) ∧ w.heap.size + 1 ≤ w'.heap.size ∧ Below (w.heap.size + 1) (w.alloc (.cells #[.int .i64 2, .int .i64 n, .string s] 40)) w')
    (exact sc_of (by go_size) (by go_grown))
    (first
    | (go_at_call 258; refine (right_wording _ _ hs.out).mono ?_; rintro e w1 ⟨rfl, rfl⟩)
    | (go_at_call 200; refine (value_wording _ _).mono ?_; rintro e w1 ⟨rfl, hb⟩; obtain ⟨hk, hz⟩ := bframe (B := w.heap.size + 1) (X := (w.alloc (.cells #[.int .i64 2, .int .i64 n, .string s] 40))) (by go_grown) (by go_size) hb; clear hb))
  all_goals go_wp2_with fail
  all_goals
    go_ret
    exact ⟨rfl, bfin (n := 1) (X := (w.alloc (.cells #[.int .i64 2, .int .i64 n, .string s] 40))) (by go_grown) (by go_grown)⟩
end Go.Proofs.YtljbnbapmjoecaaGreatDoor
