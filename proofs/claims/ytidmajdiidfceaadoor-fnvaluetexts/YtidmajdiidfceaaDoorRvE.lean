import Derived.Test.YtidmajdiidfceaaDoorRvD
namespace Go.Proofs.YtidmajdiidfceaaDoor
open Go.RowKit
set_option linter.unusedSimpArgs false
set_option linter.unusedVariables false

set_option maxHeartbeats 4000000 in
theorem srv_pos_none (s : ByteArray) (w : World) (hs : s.size ≤ 281474976710656) (h : 0 < s.size) (h39 : s[0].toNat ≠ 39) (hT : s ≠ ⟨#[84, 82, 85, 69]⟩) (hF : s ≠ ⟨#[70, 65, 76, 83, 69]⟩) (h35 : s[0].toNat ≠ 35) (h45 : s[0].toNat ≠ 45) (hl : l16 s.data.toList = none) : Calls Tryd.prog 29 #[.string s] w fun e w' => e = .returned (.tuple #[.agg #[.int .i64 0, .int .i64 0, .string ⟨#[]⟩], .bool false]) ∧ Below w.heap.size w w' := by
  have z1 := ne_nil h
  have z2 := ne_nil2 h
  have h2 : (0 : Int) < (s.size : Int) := by omega
  have h1 : ¬ ((s[0].toNat : Nat) : Int) = 39 := by omega
  have h1' : (((s[0].toNat : Nat) : Int) == 39) = false := by simpa using h1
  have e10 := lit_ne (l := [84, 82, 85, 69]) hT
  have e11 := lit_ne (l := [70, 65, 76, 83, 69]) hF
  clear hT hF
  have h5 : ¬ ((s[0].toNat : Nat) : Int) = 35 := by omega
  have h5' : (((s[0].toNat : Nat) : Int) == 35) = false := by simpa using h5
  have h6 : ¬ ((s[0].toNat : Nat) : Int) = 45 := by omega
  have h6' : (((s[0].toNat : Nat) : Int) == 45) = false := by simpa using h6
  have HSZ : Hid (s.size ≤ 281474976710656) := hs
  have HL : Hid (o16 (l16 s.data.toList) = .tuple #[.int .i64 0, .bool false]) := by show o16 _ = _; rw [hl]; rfl
  clear hl
  go_enter Tryd.func29, Tryd.ntmps29
  go_wp2_with (first
    | (go_at_call 48; refine (spec_l1Int16 s _ HSZ.out).mono ?_; rintro e w1 ⟨rfl, rfl⟩; rw [HL.out]))
  all_goals
    refine bodyPost_ret (v := .tuple #[.agg #[.int .i64 0, .int .i64 0, .string ⟨#[]⟩], .bool false]) ?_ rfl ⟨rfl, by go_grown⟩
    simp (maxDischargeDepth := 9) [results, Tryd.results29, go_sem, *]

set_option maxHeartbeats 4000000 in
theorem srv_pos_some (s : ByteArray) (w : World) (hs : s.size ≤ 281474976710656) (h : 0 < s.size) (h39 : s[0].toNat ≠ 39) (hT : s ≠ ⟨#[84, 82, 85, 69]⟩) (hF : s ≠ ⟨#[70, 65, 76, 83, 69]⟩) (h35 : s[0].toNat ≠ 35) (h45 : s[0].toNat ≠ 45) (m : Nat) (hm : m < 10000000000000000) (hl : l16 s.data.toList = some m) : Calls Tryd.prog 29 #[.string s] w fun e w' => e = .returned (rvB 1 (m : Int) ⟨#[]⟩) ∧ Below w.heap.size w w' := by
  have z1 := ne_nil h
  have z2 := ne_nil2 h
  have h2 : (0 : Int) < (s.size : Int) := by omega
  have h1 : ¬ ((s[0].toNat : Nat) : Int) = 39 := by omega
  have h1' : (((s[0].toNat : Nat) : Int) == 39) = false := by simpa using h1
  have e10 := lit_ne (l := [84, 82, 85, 69]) hT
  have e11 := lit_ne (l := [70, 65, 76, 83, 69]) hF
  clear hT hF
  have h5 : ¬ ((s[0].toNat : Nat) : Int) = 35 := by omega
  have h5' : (((s[0].toNat : Nat) : Int) == 35) = false := by simpa using h5
  have h6 : ¬ ((s[0].toNat : Nat) : Int) = 45 := by omega
  have h6' : (((s[0].toNat : Nat) : Int) == 45) = false := by simpa using h6
  have HSZ : Hid (s.size ≤ 281474976710656) := hs
  have HL : Hid (o16 (l16 s.data.toList) = .tuple #[.int .i64 (m : Int), .bool true]) := by show o16 _ = _; rw [hl]; rfl
  clear hl
  cases ho : okV 1 (m : Int) ⟨#[]⟩
  · have HOK : Hid (okV 1 (m : Int) ⟨#[]⟩ = false) := ho
    have HE : Hid (rvB 1 (m : Int) ⟨#[]⟩ = .tuple #[.agg #[.int .i64 0, .int .i64 0, .string ⟨#[]⟩], .bool false]) := rvB_no ho
    clear ho
    go_enter Tryd.func29, Tryd.ntmps29
    go_wp2_with (first
    | (go_at_call 48; refine (spec_l1Int16 s _ HSZ.out).mono ?_; rintro e w1 ⟨rfl, rfl⟩; rw [HL.out])
    | (go_at_call 27; refine (spec_ValueOk _ _ _ _ nil_ok).mono ?_; rintro e w1 ⟨rfl, hb⟩; rw [HOK.out]; obtain ⟨hc, hf, hC, hF, hz, hk, l0, l1⟩ := bk2 (w := w) (by go_grown) (by go_size) hb; clear hb))
    all_goals
      refine bodyPost_ret (v := .tuple #[.agg #[.int .i64 0, .int .i64 0, .string ⟨#[]⟩], .bool false]) ?_ rfl ⟨by rw [HE.out], by go_grown⟩
      simp (maxDischargeDepth := 9) [results, Tryd.results29, go_sem, *]
  · have HOK : Hid (okV 1 (m : Int) ⟨#[]⟩ = true) := ho
    have HE : Hid (rvB 1 (m : Int) ⟨#[]⟩ = .tuple #[.agg #[.int .i64 1, .int .i64 (m : Int), .string ⟨#[]⟩], .bool true]) := rvB_yes ho
    clear ho
    go_enter Tryd.func29, Tryd.ntmps29
    go_wp2_with (first
    | (go_at_call 48; refine (spec_l1Int16 s _ HSZ.out).mono ?_; rintro e w1 ⟨rfl, rfl⟩; rw [HL.out])
    | (go_at_call 27; refine (spec_ValueOk _ _ _ _ nil_ok).mono ?_; rintro e w1 ⟨rfl, hb⟩; rw [HOK.out]; obtain ⟨hc, hf, hC, hF, hz, hk, l0, l1⟩ := bk2 (w := w) (by go_grown) (by go_size) hb; clear hb))
    all_goals
      refine bodyPost_ret (v := .tuple #[.agg #[.int .i64 1, .int .i64 (m : Int), .string ⟨#[]⟩], .bool true]) ?_ rfl ⟨by rw [HE.out], by go_grown⟩
      simp (maxDischargeDepth := 9) [results, Tryd.results29, go_sem, *]

set_option maxHeartbeats 4000000 in
theorem srv_neg_none (s : ByteArray) (w : World) (hs : s.size ≤ 281474976710656) (h : 0 < s.size) (h39 : s[0].toNat ≠ 39) (hT : s ≠ ⟨#[84, 82, 85, 69]⟩) (hF : s ≠ ⟨#[70, 65, 76, 83, 69]⟩) (h35 : s[0].toNat ≠ 35) (h45 : s[0].toNat = 45) (hl : l16 (s.extract 1 s.size).data.toList = none) : Calls Tryd.prog 29 #[.string s] w fun e w' => e = .returned (.tuple #[.agg #[.int .i64 0, .int .i64 0, .string ⟨#[]⟩], .bool false]) ∧ Below w.heap.size w w' := by
  have z1 := ne_nil h
  have z2 := ne_nil2 h
  have h2 : (0 : Int) < (s.size : Int) := by omega
  have h1 : ¬ ((s[0].toNat : Nat) : Int) = 39 := by omega
  have h1' : (((s[0].toNat : Nat) : Int) == 39) = false := by simpa using h1
  have e10 := lit_ne (l := [84, 82, 85, 69]) hT
  have e11 := lit_ne (l := [70, 65, 76, 83, 69]) hF
  clear hT hF
  have h5 : ¬ ((s[0].toNat : Nat) : Int) = 35 := by omega
  have h5' : (((s[0].toNat : Nat) : Int) == 35) = false := by simpa using h5
  have h6 : ((s[0].toNat : Nat) : Int) = 45 := by omega
  have h3 : (1 : Int) ≤ (s.size : Int) := by omega
  have HSZ : Hid ((s.extract 1 s.size).size ≤ 281474976710656) := by show _ ≤ _; rw [ByteArray.size_extract]; omega
  have HL : Hid (o16 (l16 (s.extract 1 s.size).data.toList) = .tuple #[.int .i64 0, .bool false]) := by show o16 _ = _; rw [hl]; rfl
  clear hl
  go_enter Tryd.func29, Tryd.ntmps29
  go_wp2_with (first
    | (go_at_call 48; refine (spec_l1Int16 (s.extract 1 s.size) _ HSZ.out).mono ?_; rintro e w1 ⟨rfl, rfl⟩; rw [HL.out]))
  all_goals
    refine bodyPost_ret (v := .tuple #[.agg #[.int .i64 0, .int .i64 0, .string ⟨#[]⟩], .bool false]) ?_ rfl ⟨rfl, by go_grown⟩
    simp (maxDischargeDepth := 9) [results, Tryd.results29, go_sem, *]

set_option maxHeartbeats 4000000 in
theorem srv_neg_nought (s : ByteArray) (w : World) (hs : s.size ≤ 281474976710656) (h : 0 < s.size) (h39 : s[0].toNat ≠ 39) (hT : s ≠ ⟨#[84, 82, 85, 69]⟩) (hF : s ≠ ⟨#[70, 65, 76, 83, 69]⟩) (h35 : s[0].toNat ≠ 35) (h45 : s[0].toNat = 45) (hl : l16 (s.extract 1 s.size).data.toList = some 0) : Calls Tryd.prog 29 #[.string s] w fun e w' => e = .returned (.tuple #[.agg #[.int .i64 0, .int .i64 0, .string ⟨#[]⟩], .bool false]) ∧ Below w.heap.size w w' := by
  have z1 := ne_nil h
  have z2 := ne_nil2 h
  have h2 : (0 : Int) < (s.size : Int) := by omega
  have h1 : ¬ ((s[0].toNat : Nat) : Int) = 39 := by omega
  have h1' : (((s[0].toNat : Nat) : Int) == 39) = false := by simpa using h1
  have e10 := lit_ne (l := [84, 82, 85, 69]) hT
  have e11 := lit_ne (l := [70, 65, 76, 83, 69]) hF
  clear hT hF
  have h5 : ¬ ((s[0].toNat : Nat) : Int) = 35 := by omega
  have h5' : (((s[0].toNat : Nat) : Int) == 35) = false := by simpa using h5
  have h6 : ((s[0].toNat : Nat) : Int) = 45 := by omega
  have h3 : (1 : Int) ≤ (s.size : Int) := by omega
  have HSZ : Hid ((s.extract 1 s.size).size ≤ 281474976710656) := by show _ ≤ _; rw [ByteArray.size_extract]; omega
  have HL : Hid (o16 (l16 (s.extract 1 s.size).data.toList) = .tuple #[.int .i64 0, .bool true]) := by show o16 _ = _; rw [hl]; rfl
  clear hl
  go_enter Tryd.func29, Tryd.ntmps29
  go_wp2_with (first
    | (go_at_call 48; refine (spec_l1Int16 (s.extract 1 s.size) _ HSZ.out).mono ?_; rintro e w1 ⟨rfl, rfl⟩; rw [HL.out]))
  all_goals
    refine bodyPost_ret (v := .tuple #[.agg #[.int .i64 0, .int .i64 0, .string ⟨#[]⟩], .bool false]) ?_ rfl ⟨rfl, by go_grown⟩
    simp (maxDischargeDepth := 9) [results, Tryd.results29, go_sem, *]

set_option maxHeartbeats 4000000 in
theorem srv_neg_some (s : ByteArray) (w : World) (hs : s.size ≤ 281474976710656) (h : 0 < s.size) (h39 : s[0].toNat ≠ 39) (hT : s ≠ ⟨#[84, 82, 85, 69]⟩) (hF : s ≠ ⟨#[70, 65, 76, 83, 69]⟩) (h35 : s[0].toNat ≠ 35) (h45 : s[0].toNat = 45) (m : Nat) (hm : m < 10000000000000000) (hm0 : m ≠ 0) (hl : l16 (s.extract 1 s.size).data.toList = some m) : Calls Tryd.prog 29 #[.string s] w fun e w' => e = .returned (rvB 1 (-(m : Int)) ⟨#[]⟩) ∧ Below w.heap.size w w' := by
  have z1 := ne_nil h
  have z2 := ne_nil2 h
  have h2 : (0 : Int) < (s.size : Int) := by omega
  have h1 : ¬ ((s[0].toNat : Nat) : Int) = 39 := by omega
  have h1' : (((s[0].toNat : Nat) : Int) == 39) = false := by simpa using h1
  have e10 := lit_ne (l := [84, 82, 85, 69]) hT
  have e11 := lit_ne (l := [70, 65, 76, 83, 69]) hF
  clear hT hF
  have h5 : ¬ ((s[0].toNat : Nat) : Int) = 35 := by omega
  have h5' : (((s[0].toNat : Nat) : Int) == 35) = false := by simpa using h5
  have h6 : ((s[0].toNat : Nat) : Int) = 45 := by omega
  have h3 : (1 : Int) ≤ (s.size : Int) := by omega
  have HSZ : Hid ((s.extract 1 s.size).size ≤ 281474976710656) := by show _ ≤ _; rw [ByteArray.size_extract]; omega
  have HL : Hid (o16 (l16 (s.extract 1 s.size).data.toList) = .tuple #[.int .i64 (m : Int), .bool true]) := by show o16 _ = _; rw [hl]; rfl
  clear hl
  have m0 : ¬ (m : Int) = 0 := by omega
  have m1 : ((m : Int) == 0) = false := by simpa using m0
  cases ho : okV 1 (-(m : Int)) ⟨#[]⟩
  · have HOK : Hid (okV 1 (-(m : Int)) ⟨#[]⟩ = false) := ho
    have HE : Hid (rvB 1 (-(m : Int)) ⟨#[]⟩ = .tuple #[.agg #[.int .i64 0, .int .i64 0, .string ⟨#[]⟩], .bool false]) := rvB_no ho
    clear ho
    go_enter Tryd.func29, Tryd.ntmps29
    go_wp2_with (first
    | (go_at_call 48; refine (spec_l1Int16 (s.extract 1 s.size) _ HSZ.out).mono ?_; rintro e w1 ⟨rfl, rfl⟩; rw [HL.out])
    | (go_at_call 27; refine (spec_ValueOk _ _ _ _ nil_ok).mono ?_; rintro e w1 ⟨rfl, hb⟩; rw [HOK.out]; obtain ⟨hc, hf, hC, hF, hz, hk, l0, l1⟩ := bk2 (w := w) (by go_grown) (by go_size) hb; clear hb))
    all_goals
      refine bodyPost_ret (v := .tuple #[.agg #[.int .i64 0, .int .i64 0, .string ⟨#[]⟩], .bool false]) ?_ rfl ⟨by rw [HE.out], by go_grown⟩
      simp (maxDischargeDepth := 9) [results, Tryd.results29, go_sem, *]
  · have HOK : Hid (okV 1 (-(m : Int)) ⟨#[]⟩ = true) := ho
    have HE : Hid (rvB 1 (-(m : Int)) ⟨#[]⟩ = .tuple #[.agg #[.int .i64 1, .int .i64 (-(m : Int)), .string ⟨#[]⟩], .bool true]) := rvB_yes ho
    clear ho
    go_enter Tryd.func29, Tryd.ntmps29
    go_wp2_with (first
    | (go_at_call 48; refine (spec_l1Int16 (s.extract 1 s.size) _ HSZ.out).mono ?_; rintro e w1 ⟨rfl, rfl⟩; rw [HL.out])
    | (go_at_call 27; refine (spec_ValueOk _ _ _ _ nil_ok).mono ?_; rintro e w1 ⟨rfl, hb⟩; rw [HOK.out]; obtain ⟨hc, hf, hC, hF, hz, hk, l0, l1⟩ := bk2 (w := w) (by go_grown) (by go_size) hb; clear hb))
    all_goals
      refine bodyPost_ret (v := .tuple #[.agg #[.int .i64 1, .int .i64 (-(m : Int)), .string ⟨#[]⟩], .bool true]) ?_ rfl ⟨by rw [HE.out], by go_grown⟩
      simp (maxDischargeDepth := 9) [results, Tryd.results29, go_sem, *]
end Go.Proofs.YtidmajdiidfceaaDoor
