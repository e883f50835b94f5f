import Derived.Test.YtljbnbapmjoecaaGreatDoorDecR
import Derived.Test.YtljbnbapmjoecaaGreatDoorValsA
import Derived.Test.YtljbnbapmjoecaaGreatDoorRvM
namespace Go.Proofs.YtljbnbapmjoecaaGreatDoor
open Go.RowKit
set_option linter.unusedSimpArgs false
set_option linter.unusedVariables false

/-- The texts of the truths and of the errors. -/
def trT (n : Int) : ByteArray := if n = 0 then ⟨#[70, 65, 76, 83, 69]⟩ else ⟨#[84, 82, 85, 69]⟩
def erT (n : Int) : ByteArray :=
  if n = 1 then ⟨#[35, 68, 73, 86, 33]⟩ else if n = 2 then ⟨#[35, 84, 89, 80, 69, 33]⟩ else if n = 3 then ⟨#[35, 82, 69, 70, 33]⟩
  else if n = 4 then ⟨#[35, 79, 86, 69, 82, 33]⟩ else if n = 5 then ⟨#[35, 67, 89, 67, 76, 69, 33]⟩ else ⟨#[]⟩

set_option maxHeartbeats 400000 in
theorem text_truth (n : Int) (w : World) : Calls Tryz.prog 125 #[.int .i64 n] w fun e w' =>
    e = .returned (.string (trT n)) ∧ w' = w := by
  by_cases h0 : n = 0
  · subst h0
    go_enter Tryz.func125, Tryz.ntmps125
    go_wp2
    go_ret
    exact ⟨rfl, rfl⟩
  · have e0 : (n == 0) = false := by simpa using h0
    go_enter Tryz.func125, Tryz.ntmps125
    go_wp2
    go_ret
    exact ⟨ret_str (by simp [trT, h0]), rfl⟩

set_option maxHeartbeats 400000 in
theorem text_failure (n : Int) (w : World) : Calls Tryz.prog 126 #[.int .i64 n] w fun e w' =>
    e = .returned (.string (erT n)) ∧ w' = w := by
  by_cases h1 : n = 1
  · subst h1
    go_enter Tryz.func126, Tryz.ntmps126
    go_wp2
    go_ret
    exact ⟨rfl, rfl⟩
  by_cases h2 : n = 2
  · subst h2
    go_enter Tryz.func126, Tryz.ntmps126
    go_wp2
    go_ret
    exact ⟨rfl, rfl⟩
  by_cases h3 : n = 3
  · subst h3
    go_enter Tryz.func126, Tryz.ntmps126
    go_wp2
    go_ret
    exact ⟨rfl, rfl⟩
  by_cases h4 : n = 4
  · subst h4
    go_enter Tryz.func126, Tryz.ntmps126
    go_wp2
    go_ret
    exact ⟨rfl, rfl⟩
  by_cases h5 : n = 5
  · subst h5
    go_enter Tryz.func126, Tryz.ntmps126
    go_wp2
    go_ret
    exact ⟨rfl, rfl⟩
  · have e1 : (n == 1) = false := by simpa using h1
    have e2 : (n == 2) = false := by simpa using h2
    have e3 : (n == 3) = false := by simpa using h3
    have e4 : (n == 4) = false := by simpa using h4
    have e5 : (n == 5) = false := by simpa using h5
    go_enter Tryz.func126, Tryz.ntmps126
    go_wp2
    go_ret
    exact ⟨ret_str (by simp [erT, h1, h2, h3, h4, h5]), rfl⟩

set_option maxHeartbeats 400000 in
theorem spec_l2Name (n : Int) (w : World) (h0 : 0 ≤ n) (h5 : n ≤ 5) : Calls Tryz.prog 124 #[.int .i64 n] w fun e w' =>
    e = .returned (.string (erT n)) ∧ Below w.heap.size w w' := by
  have hn : n = 0 ∨ n = 1 ∨ n = 2 ∨ n = 3 ∨ n = 4 ∨ n = 5 := by omega
  clear h0 h5
  rcases hn with rfl | rfl | rfl | rfl | rfl | rfl
  all_goals
    go_enter Tryz.func124, Tryz.ntmps124
    go_wp2
    go_ret
    exact ⟨rfl, by go_grown⟩

theorem digs_step {s : ByteArray} {k : Nat} (h : k < s.size) (n : Nat) : digs (s.data.toList.drop k) n = if 48 ≤ s[k].toNat ∧ s[k].toNat ≤ 57 then digs (s.data.toList.drop (k + 1)) (n * 10 + (s[k].toNat - 48)) else none := by
  have e : s.data.toList.drop k = s[k] :: s.data.toList.drop (k + 1) := List.drop_eq_getElem_cons (by simpa using h)
  rw [e, digs]
theorem l16_no {s : ByteArray} (h : s.size < 1 ∨ 16 < s.size) : l16 s.data.toList = none := by
  have e : s.data.toList.length = s.size := rfl
  unfold l16
  rw [if_pos (by omega)]
theorem head_at {s : ByteArray} (h : 0 < s.size) : s.data.toList.head? = some s[0] := by
  obtain ⟨⟨l⟩⟩ := s
  match l, h with
  | a :: l', _ => rfl
theorem l16_zero {s : ByteArray} (h : 1 < s.size) (h0 : (s[0]'(by omega)).toNat = 48) : l16 s.data.toList = none := by
  have e : s.data.toList.length = s.size := rfl
  unfold l16
  rw [if_pos]
  right; right
  refine ⟨?_, by omega⟩
  rw [head_at (by omega)]
  congr 1
  apply UInt8.toNat_inj.1
  rw [h0]; rfl
theorem l16_yes {s : ByteArray} (h0 : 0 < s.size) (h16 : s.size ≤ 16) (h : (s[0]'h0).toNat ≠ 48 ∨ s.size = 1) : l16 s.data.toList = digs s.data.toList 0 := by
  have e : s.data.toList.length = s.size := rfl
  unfold l16
  rw [if_neg]
  rintro (hh | hh | ⟨hh, hl⟩)
  · omega
  · omega
  · rw [head_at h0] at hh
    have hb : s[0]'h0 = 48 := by simpa using hh
    have : (s[0]'h0).toNat = 48 := by rw [hb]; rfl
    omega

theorem digs_nought {s : ByteArray} (h : s.size = 1) (h0 : (s[0]'(by omega)).toNat = 48) : digs s.data.toList 0 = some 0 := by
  obtain ⟨⟨l⟩⟩ := s
  match l, h, h0 with
  | [a], _, h0 =>
    have ha : a.toNat = 48 := h0
    simp only [digs, ha]
    rfl
def o16 (o : Option Nat) : Value := .tuple #[.int .i64 ((o.getD 0 : Nat) : Int), .bool o.isSome]
set_option maxHeartbeats 4000000 in
theorem l1Int_loop (s : ByteArray) (w : World) (hs : s.size ≤ 281474976710656) (hp : 0 < s.size) (h16 : s.size ≤ 16) (hz : (s[0]'hp).toNat ≠ 48 ∨ s.size = 1) : Calls Tryz.prog 122 #[.string s, .int .i64 16] w fun e w' =>
    e = .returned (o16 (digs s.data.toList 0)) ∧ w' = w := by
  have k1 : ¬ (s.size : Int) < 1 := by omega
  have k2 : ¬ (16 : Int) < (s.size : Int) := by omega
  have k3 : (0 : Int) < (s.size : Int) := by omega
  by_cases h0 : (s[0]'hp).toNat = 48
  · have h1 : ¬ (1 : Int) < (s.size : Int) := by omega
    have h0' : ((s[0]'hp).toNat : Int) = 48 := by omega
    have HE : Hid (digs s.data.toList 0 = some 0) := digs_nought (by omega) h0
    go_enter Tryz.func122, Tryz.ntmps122
    go_wp2_with fail
    refine wp_loop_rounds 4 ?_
    rw [rounds_succ]
    go_wp2
    rw [rounds_succ]
    go_wp2
    refine bodyPost_ret (v := .tuple #[.int .i64 0, .bool true]) ?_ rfl ⟨by rw [HE.out]; rfl, rfl⟩
    simp (maxDischargeDepth := 9) [results, Tryz.results122, go_sem, *]
  have n0 : ¬ ((s[0]'hp).toNat : Int) = 48 := by omega
  have m0 : (((s[0]'hp).toNat : Int) == 48) = false := by simpa using n0
  go_enter Tryz.func122, Tryz.ntmps122
  go_wp2_with fail
  go_loop [6, 7] (fun v6 v7 => ∃ (k m : Nat), k ≤ s.size ∧ v6 = .int .i64 m ∧ v7 = .int .i64 k ∧ m < 10 ^ k ∧ digs (s.data.toList.drop k) m = digs s.data.toList 0) (fun _ v7 => s.size - (intOf v7).toNat)
  case atStart => exact ⟨0, 0, Nat.zero_le _, rfl, rfl, by simp, rfl⟩
  case round =>
    obtain ⟨k, m, hk, rfl, rfl, hm, hr⟩ := hrel
    have HR : Hid (digs (s.data.toList.drop k) m = digs s.data.toList 0) := hr
    have HM : Hid (m < 10 ^ k) := hm
    have hm2 : m < 10000000000000000 := by
      have : 10 ^ k ≤ 10 ^ 16 := Nat.pow_le_pow_right (by omega) (by omega)
      have e : (10 : Nat) ^ 16 = 10000000000000000 := rfl
      omega
    clear hr hm
    have q0 : (0 : Int) ≤ (k : Int) := by omega
    by_cases hlt : k < s.size
    · have q1 : (k : Int) < (s.size : Int) := by omega
      have HD : Hid (digs (s.data.toList.drop k) m = if 48 ≤ s[k].toNat ∧ s[k].toNat ≤ 57 then digs (s.data.toList.drop (k + 1)) (m * 10 + (s[k].toNat - 48)) else none) := digs_step hlt m
      by_cases ha : s[k].toNat < 48
      · have ha' : (s[k].toNat : Int) < 48 := by omega
        have HE : Hid (digs s.data.toList 0 = none) := by show _ = _; rw [← HR.out, HD.out, if_neg (by omega)]
        go_wp2_with fail
        refine bodyPost_ret (v := .tuple #[.int .i64 0, .bool false]) ?_ rfl ⟨by rw [HE.out]; rfl, rfl⟩
        simp (maxDischargeDepth := 9) [results, Tryz.results122, go_sem, *]
      have na : ¬ (s[k].toNat : Int) < 48 := by omega
      by_cases hb : 57 < s[k].toNat
      · have hb' : 57 < (s[k].toNat : Int) := by omega
        have HE : Hid (digs s.data.toList 0 = none) := by show _ = _; rw [← HR.out, HD.out, if_neg (by omega)]
        go_wp2_with fail
        refine bodyPost_ret (v := .tuple #[.int .i64 0, .bool false]) ?_ rfl ⟨by rw [HE.out]; rfl, rfl⟩
        simp (maxDischargeDepth := 9) [results, Tryz.results122, go_sem, *]
      have nb : ¬ 57 < (s[k].toNat : Int) := by omega
      have HE : Hid (digs (s.data.toList.drop (k + 1)) (m * 10 + (s[k].toNat - 48)) = digs s.data.toList 0) := by show _ = _; rw [← HR.out, HD.out, if_pos (by omega)]
      go_wp2_with fail
      all_goals
        go_round
        case rel => exact ⟨k + 1, m * 10 + (s[k].toNat - 48), by omega, by congr 1; omega, by go_num, by have := HM.out; rw [Nat.pow_succ]; omega, HE.out⟩
        case measure => simp [intOf]; omega
    · have q1 : ¬ (k : Int) < (s.size : Int) := by omega
      have HE : Hid (digs s.data.toList 0 = some m) := by show _ = _; rw [← HR.out, List.drop_of_length_le (by simp; omega)]; rfl
      go_wp2_with fail
      refine bodyPost_ret (v := .tuple #[.int .i64 m, .bool true]) ?_ rfl ⟨by rw [HE.out]; rfl, rfl⟩
      simp (maxDischargeDepth := 9) [results, Tryz.results122, go_sem, *]

set_option maxHeartbeats 4000000 in
theorem spec_l1Int16 (s : ByteArray) (w : World) (hs : s.size ≤ 281474976710656) : Calls Tryz.prog 122 #[.string s, .int .i64 16] w fun e w' =>
    e = .returned (o16 (l16 s.data.toList)) ∧ w' = w := by
  by_cases h0 : s.size < 1
  · have HE : Hid (l16 s.data.toList = none) := l16_no (Or.inl h0)
    have h1 : (s.size : Int) < 1 := by omega
    go_enter Tryz.func122, Tryz.ntmps122
    go_wp2
    refine bodyPost_ret (v := .tuple #[.int .i64 0, .bool false]) ?_ rfl ⟨by rw [HE.out]; rfl, rfl⟩
    simp (maxDischargeDepth := 9) [results, Tryz.results122, go_sem, *]
  have k1 : ¬ (s.size : Int) < 1 := by omega
  by_cases h16 : 16 < s.size
  · have HE : Hid (l16 s.data.toList = none) := l16_no (Or.inr h16)
    have h1 : (16 : Int) < (s.size : Int) := by omega
    go_enter Tryz.func122, Tryz.ntmps122
    go_wp2
    refine bodyPost_ret (v := .tuple #[.int .i64 0, .bool false]) ?_ rfl ⟨by rw [HE.out]; rfl, rfl⟩
    simp (maxDischargeDepth := 9) [results, Tryz.results122, go_sem, *]
  have k2 : ¬ (16 : Int) < (s.size : Int) := by omega
  have hp : 0 < s.size := by omega
  have k3 : (0 : Int) < (s.size : Int) := by omega
  by_cases hz : (s[0]'hp).toNat = 48 ∧ 1 < s.size
  · have HE : Hid (l16 s.data.toList = none) := l16_zero hz.2 hz.1
    have h1 : (1 : Int) < (s.size : Int) := by omega
    have h2 : ((s[0]'hp).toNat : Int) = 48 := by omega
    clear hz
    go_enter Tryz.func122, Tryz.ntmps122
    go_wp2
    refine bodyPost_ret (v := .tuple #[.int .i64 0, .bool false]) ?_ rfl ⟨by rw [HE.out]; rfl, rfl⟩
    simp (maxDischargeDepth := 9) [results, Tryz.results122, go_sem, *]
  · have hz' : (s[0]'hp).toNat ≠ 48 ∨ s.size = 1 := by omega
    rw [l16_yes hp (by omega) hz']
    exact l1Int_loop s w hs hp (by omega) hz'
end Go.Proofs.YtljbnbapmjoecaaGreatDoor
