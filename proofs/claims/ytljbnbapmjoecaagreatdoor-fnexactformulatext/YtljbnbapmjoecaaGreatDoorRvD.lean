import Derived.Test.YtljbnbapmjoecaaGreatDoorRvC
import Derived.Test.YtljbnbapmjoecaaGreatDoorValsF
namespace Go.Proofs.YtljbnbapmjoecaaGreatDoor
open Go.RowKit
set_option linter.unusedSimpArgs false
set_option linter.unusedVariables false

def rvB (k n : Int) (s : ByteArray) : Value := if okV k n s then .tuple #[.agg #[.int .i64 k, .int .i64 n, .string s], .bool true] else .tuple #[.agg #[.int .i64 0, .int .i64 0, .string ⟨#[]⟩], .bool false]
theorem rvB_yes {k n : Int} {s : ByteArray} (h : okV k n s = true) : rvB k n s = .tuple #[.agg #[.int .i64 k, .int .i64 n, .string s], .bool true] := by rw [rvB, h]; rfl
theorem rvB_no {k n : Int} {s : ByteArray} (h : okV k n s = false) : rvB k n s = .tuple #[.agg #[.int .i64 0, .int .i64 0, .string ⟨#[]⟩], .bool false] := by rw [rvB, h]; rfl
theorem lit_ne {s : ByteArray} {l : List UInt8} (h : s ≠ ⟨l.toArray⟩) : (s.toList == l) = false := by
  rw [ByteArray.toList_eq]
  cases e : (s.data.toList == l)
  · rfl
  · exact absurd (ByteArray.ext (by rw [← eq_of_beq e])) h
theorem lit_eq {s : ByteArray} {l : List UInt8} (h : s = ⟨l.toArray⟩) : (s.toList == l) = true := by
  rw [ByteArray.toList_eq, h]
  simp
theorem nil_ok : (⟨#[]⟩ : ByteArray).size ≤ maxLen := by unfold maxLen; decide

set_option maxHeartbeats 2000000 in
theorem srv_nil (w : World) : Calls Tryz.prog 72 #[.string ⟨#[]⟩] w fun e w' => e = .returned (rvB 0 0 ⟨#[]⟩) ∧ Below w.heap.size w w' := by
  have HE : Hid (rvB 0 0 ⟨#[]⟩ = .tuple #[.agg #[.int .i64 0, .int .i64 0, .string ⟨#[]⟩], .bool true]) := rvB_yes (by simp [okV, emp, ByteArray.toList_eq])
  go_enter Tryz.func72, Tryz.ntmps72
  go_wp2_with fail
  all_goals
    refine bodyPost_ret (v := .tuple #[.agg #[.int .i64 0, .int .i64 0, .string ⟨#[]⟩], .bool true]) ?_ rfl ⟨by rw [HE.out], by go_grown⟩
    simp (maxDischargeDepth := 9) [results, Tryz.results72, go_sem, *]

set_option maxHeartbeats 4000000 in
theorem srv_word (s : ByteArray) (w : World) (hs : s.size ≤ 281474976710656) (h : 0 < s.size) (h39 : s[0].toNat = 39) : Calls Tryz.prog 72 #[.string s] w fun e w' => e = .returned (rvB 2 0 (s.extract 1 s.size)) ∧ Below w.heap.size w w' := by
  have z1 := ne_nil h
  have z2 := ne_nil2 h
  have h2 : (0 : Int) < (s.size : Int) := by omega
  have h1 : ((s[0].toNat : Nat) : Int) = 39 := by omega
  have h3 : (1 : Int) ≤ (s.size : Int) := by omega
  have HSZ : Hid ((s.extract 1 s.size).size ≤ maxLen) := by show _ ≤ _; rw [ByteArray.size_extract]; unfold maxLen; omega
  cases ho : okV 2 0 (s.extract 1 s.size)
  · have HOK : Hid (okV 2 0 (s.extract 1 s.size) = false) := ho
    have HE : Hid (rvB 2 0 (s.extract 1 s.size) = .tuple #[.agg #[.int .i64 0, .int .i64 0, .string ⟨#[]⟩], .bool false]) := rvB_no ho
    clear ho
    go_enter Tryz.func72, Tryz.ntmps72
    go_wp2_with (first
    | (go_at_call 124; refine (spec_l2Name _ _ (by omega) (by omega)).mono ?_; rintro e w1 ⟨rfl, hb⟩; obtain ⟨hc, hf, hC, hF, hz, hk, l0, l1⟩ := bk2 (w := w) (by go_grown) (by go_size) hb; clear hb)
    | (go_at_call 102; refine (spec_ValueOk _ _ _ _ HSZ.out).mono ?_; rintro e w1 ⟨rfl, hb⟩; rw [HOK.out]; obtain ⟨hc, hf, hC, hF, hz, hk, l0, l1⟩ := bk2 (w := w) (by go_grown) (by go_size) hb; clear hb))
    all_goals
      refine bodyPost_ret (v := .tuple #[.agg #[.int .i64 0, .int .i64 0, .string ⟨#[]⟩], .bool false]) ?_ rfl ⟨by rw [HE.out], by go_grown⟩
      simp (maxDischargeDepth := 9) [results, Tryz.results72, go_sem, *]
  · have HOK : Hid (okV 2 0 (s.extract 1 s.size) = true) := ho
    have HE : Hid (rvB 2 0 (s.extract 1 s.size) = .tuple #[.agg #[.int .i64 2, .int .i64 0, .string (s.extract 1 s.size)], .bool true]) := rvB_yes ho
    clear ho
    go_enter Tryz.func72, Tryz.ntmps72
    go_wp2_with (first
    | (go_at_call 124; refine (spec_l2Name _ _ (by omega) (by omega)).mono ?_; rintro e w1 ⟨rfl, hb⟩; obtain ⟨hc, hf, hC, hF, hz, hk, l0, l1⟩ := bk2 (w := w) (by go_grown) (by go_size) hb; clear hb)
    | (go_at_call 102; refine (spec_ValueOk _ _ _ _ HSZ.out).mono ?_; rintro e w1 ⟨rfl, hb⟩; rw [HOK.out]; obtain ⟨hc, hf, hC, hF, hz, hk, l0, l1⟩ := bk2 (w := w) (by go_grown) (by go_size) hb; clear hb))
    all_goals
      refine bodyPost_ret (v := .tuple #[.agg #[.int .i64 2, .int .i64 0, .string (s.extract 1 s.size)], .bool true]) ?_ rfl ⟨by rw [HE.out], by go_grown⟩
      simp (maxDischargeDepth := 9) [results, Tryz.results72, go_sem, *]

set_option maxHeartbeats 4000000 in
theorem srv_true (s : ByteArray) (w : World) (hs : s.size ≤ 281474976710656) (h : 0 < s.size) (h39 : s[0].toNat ≠ 39) (hh : s = ⟨#[84, 82, 85, 69]⟩) : Calls Tryz.prog 72 #[.string s] w fun e w' => e = .returned (rvB 3 1 ⟨#[]⟩) ∧ Below w.heap.size w w' := by
  have z1 := ne_nil h
  have z2 := ne_nil2 h
  have h2 : (0 : Int) < (s.size : Int) := by omega
  have h1 : ¬ ((s[0].toNat : Nat) : Int) = 39 := by omega
  have h1' : (((s[0].toNat : Nat) : Int) == 39) = false := by simpa using h1
  have e1 := lit_eq (l := [84, 82, 85, 69]) hh
  clear hh
  cases ho : okV 3 1 ⟨#[]⟩
  · have HOK : Hid (okV 3 1 ⟨#[]⟩ = false) := ho
    have HE : Hid (rvB 3 1 ⟨#[]⟩ = .tuple #[.agg #[.int .i64 0, .int .i64 0, .string ⟨#[]⟩], .bool false]) := rvB_no ho
    clear ho
    go_enter Tryz.func72, Tryz.ntmps72
    go_wp2_with (first
    | (go_at_call 124; refine (spec_l2Name _ _ (by omega) (by omega)).mono ?_; rintro e w1 ⟨rfl, hb⟩; obtain ⟨hc, hf, hC, hF, hz, hk, l0, l1⟩ := bk2 (w := w) (by go_grown) (by go_size) hb; clear hb)
    | (go_at_call 102; refine (spec_ValueOk _ _ _ _ nil_ok).mono ?_; rintro e w1 ⟨rfl, hb⟩; rw [HOK.out]; obtain ⟨hc, hf, hC, hF, hz, hk, l0, l1⟩ := bk2 (w := w) (by go_grown) (by go_size) hb; clear hb))
    all_goals
      refine bodyPost_ret (v := .tuple #[.agg #[.int .i64 0, .int .i64 0, .string ⟨#[]⟩], .bool false]) ?_ rfl ⟨by rw [HE.out], by go_grown⟩
      simp (maxDischargeDepth := 9) [results, Tryz.results72, go_sem, *]
  · have HOK : Hid (okV 3 1 ⟨#[]⟩ = true) := ho
    have HE : Hid (rvB 3 1 ⟨#[]⟩ = .tuple #[.agg #[.int .i64 3, .int .i64 1, .string ⟨#[]⟩], .bool true]) := rvB_yes ho
    clear ho
    go_enter Tryz.func72, Tryz.ntmps72
    go_wp2_with (first
    | (go_at_call 124; refine (spec_l2Name _ _ (by omega) (by omega)).mono ?_; rintro e w1 ⟨rfl, hb⟩; obtain ⟨hc, hf, hC, hF, hz, hk, l0, l1⟩ := bk2 (w := w) (by go_grown) (by go_size) hb; clear hb)
    | (go_at_call 102; refine (spec_ValueOk _ _ _ _ nil_ok).mono ?_; rintro e w1 ⟨rfl, hb⟩; rw [HOK.out]; obtain ⟨hc, hf, hC, hF, hz, hk, l0, l1⟩ := bk2 (w := w) (by go_grown) (by go_size) hb; clear hb))
    all_goals
      refine bodyPost_ret (v := .tuple #[.agg #[.int .i64 3, .int .i64 1, .string ⟨#[]⟩], .bool true]) ?_ rfl ⟨by rw [HE.out], by go_grown⟩
      simp (maxDischargeDepth := 9) [results, Tryz.results72, go_sem, *]

set_option maxHeartbeats 4000000 in
theorem srv_false (s : ByteArray) (w : World) (hs : s.size ≤ 281474976710656) (h : 0 < s.size) (h39 : s[0].toNat ≠ 39) (hn : s ≠ ⟨#[84, 82, 85, 69]⟩) (hh : s = ⟨#[70, 65, 76, 83, 69]⟩) : Calls Tryz.prog 72 #[.string s] w fun e w' => e = .returned (rvB 3 0 ⟨#[]⟩) ∧ Below w.heap.size w w' := by
  have z1 := ne_nil h
  have z2 := ne_nil2 h
  have h2 : (0 : Int) < (s.size : Int) := by omega
  have h1 : ¬ ((s[0].toNat : Nat) : Int) = 39 := by omega
  have h1' : (((s[0].toNat : Nat) : Int) == 39) = false := by simpa using h1
  have e0 := lit_ne (l := [84, 82, 85, 69]) hn
  have e1 := lit_eq (l := [70, 65, 76, 83, 69]) hh
  clear hh hn
  cases ho : okV 3 0 ⟨#[]⟩
  · have HOK : Hid (okV 3 0 ⟨#[]⟩ = false) := ho
    have HE : Hid (rvB 3 0 ⟨#[]⟩ = .tuple #[.agg #[.int .i64 0, .int .i64 0, .string ⟨#[]⟩], .bool false]) := rvB_no ho
    clear ho
    go_enter Tryz.func72, Tryz.ntmps72
    go_wp2_with (first
    | (go_at_call 124; refine (spec_l2Name _ _ (by omega) (by omega)).mono ?_; rintro e w1 ⟨rfl, hb⟩; obtain ⟨hc, hf, hC, hF, hz, hk, l0, l1⟩ := bk2 (w := w) (by go_grown) (by go_size) hb; clear hb)
    | (go_at_call 102; refine (spec_ValueOk _ _ _ _ nil_ok).mono ?_; rintro e w1 ⟨rfl, hb⟩; rw [HOK.out]; obtain ⟨hc, hf, hC, hF, hz, hk, l0, l1⟩ := bk2 (w := w) (by go_grown) (by go_size) hb; clear hb))
    all_goals
      refine bodyPost_ret (v := .tuple #[.agg #[.int .i64 0, .int .i64 0, .string ⟨#[]⟩], .bool false]) ?_ rfl ⟨by rw [HE.out], by go_grown⟩
      simp (maxDischargeDepth := 9) [results, Tryz.results72, go_sem, *]
  · have HOK : Hid (okV 3 0 ⟨#[]⟩ = true) := ho
    have HE : Hid (rvB 3 0 ⟨#[]⟩ = .tuple #[.agg #[.int .i64 3, .int .i64 0, .string ⟨#[]⟩], .bool true]) := rvB_yes ho
    clear ho
    go_enter Tryz.func72, Tryz.ntmps72
    go_wp2_with (first
    | (go_at_call 124; refine (spec_l2Name _ _ (by omega) (by omega)).mono ?_; rintro e w1 ⟨rfl, hb⟩; obtain ⟨hc, hf, hC, hF, hz, hk, l0, l1⟩ := bk2 (w := w) (by go_grown) (by go_size) hb; clear hb)
    | (go_at_call 102; refine (spec_ValueOk _ _ _ _ nil_ok).mono ?_; rintro e w1 ⟨rfl, hb⟩; rw [HOK.out]; obtain ⟨hc, hf, hC, hF, hz, hk, l0, l1⟩ := bk2 (w := w) (by go_grown) (by go_size) hb; clear hb))
    all_goals
      refine bodyPost_ret (v := .tuple #[.agg #[.int .i64 3, .int .i64 0, .string ⟨#[]⟩], .bool true]) ?_ rfl ⟨by rw [HE.out], by go_grown⟩
      simp (maxDischargeDepth := 9) [results, Tryz.results72, go_sem, *]
end Go.Proofs.YtljbnbapmjoecaaGreatDoor
