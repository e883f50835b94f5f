import Derived.Test.YtjcicndioddcmaaDoorPlaceB
import Derived.Test.YtjcicndioddcmaaDoorStrs
namespace Go.Proofs.YtjcicndioddcmaaDoor
open Go.RowKit

/-- A column read letter by letter, behind a beginning that came to m. -/
def rdc : List UInt8 → Int → Int
  | [], m => m
  | b :: t, m => if 65 ≤ b.toNat ∧ b.toNat ≤ 90 then (if 52 < m * 26 + ((b.toNat : Int) - 65) + 1 then 0 else rdc t (m * 26 + ((b.toNat : Int) - 65) + 1)) else 0

theorem rdc_col (n : Int) (h1 : 1 ≤ n) (h2 : n ≤ 52) : rdc (colT n).data.toList 0 = n := by
  by_cases h : n ≤ 26
  · rw [colT_one h1 h]
    have e : (UInt8.ofNat (65 + (n - 1)).toNat).toNat = (65 + (n - 1)).toNat := by simp; omega
    simp only [rdc, e]
    rw [if_pos (by omega), if_neg (by omega)]; omega
  · rw [colT_two (by omega) h2]
    have e : (UInt8.ofNat (65 + (n - 27)).toNat).toNat = (65 + (n - 27)).toNat := by simp; omega
    have e' : (65 : UInt8).toNat = 65 := rfl
    simp only [rdc, e, e']
    rw [if_pos (by omega), if_neg (by omega), if_pos (by omega), if_neg (by omega)]; omega

theorem ofNat_toNat (b : UInt8) (x : Nat) (h : x = b.toNat) : UInt8.ofNat x = b := by subst h; simp

theorem rdc_big (l : List UInt8) (m : Int) (hm : 3 ≤ m) (hl : l ≠ []) : rdc l m = 0 := by
  match l, hl with
  | b :: t, _ =>
    simp only [rdc]
    split
    · rw [if_pos (by omega)]
    · rfl

theorem rdc_back (l : List UInt8) (h : rdc l 0 ≠ 0) : 1 ≤ rdc l 0 ∧ rdc l 0 ≤ 52 ∧ colT (rdc l 0) = ⟨l.toArray⟩ := by
  match l, h with
  | [], h => exact absurd rfl h
  | [b], h =>
    simp only [rdc] at h ⊢
    split at h <;> rename_i hb
    · rw [if_neg (by omega)] at h
      rw [if_pos hb, if_neg (by omega)]
      refine ⟨by omega, by omega, ?_⟩
      rw [colT_one (by omega) (by omega), ofNat_toNat b _ (by omega)]
    · exact absurd rfl h
  | [b, c], h =>
    simp only [rdc] at h ⊢
    split at h <;> rename_i hb
    · rw [if_neg (by omega)] at h
      rw [if_pos hb, if_neg (by omega)]
      split at h <;> rename_i hc
      · split at h <;> rename_i hd
        · exact absurd rfl h
        · rw [if_pos hc, if_neg hd]
          refine ⟨by omega, by omega, ?_⟩
          rw [colT_two (by omega) (by omega), ofNat_toNat c _ (by omega)]
          have : b = 65 := by apply UInt8.toNat_inj.1; show b.toNat = 65; omega
          rw [this]
      · exact absurd rfl h
    · exact absurd rfl h
  | b :: c :: d :: t, h =>
    simp only [rdc] at h
    split at h <;> rename_i hb
    · rw [if_neg (by omega)] at h
      split at h <;> rename_i hc
      · split at h <;> rename_i hd
        · exact absurd rfl h
        · split at h <;> rename_i he
          · rw [if_pos (by omega)] at h
            exact absurd rfl h
          · exact absurd rfl h
      · exact absurd rfl h
    · exact absurd rfl h

theorem rdc_none (s : ByteArray) (h : ∀ j : Int, 1 ≤ j → j ≤ 52 → colT j ≠ s) : rdc s.data.toList 0 = 0 := by
  by_cases h0 : rdc s.data.toList 0 = 0
  · exact h0
  · obtain ⟨a, b, c⟩ := rdc_back _ h0
    exact absurd c (h _ a b)

theorem impl_isLetter (b : Int) (w : World) : Calls Tryd.prog 37 #[.int .u8 b] w fun e w' =>
    e = .returned (.bool (decide (65 ≤ b ∧ b ≤ 90))) ∧ w' = w := by
  go_enter Tryd.func37, Tryd.ntmps37
  go_wp2
  all_goals
    go_ret
    refine ⟨ret_bool ?_, rfl⟩
    rw [Bool.eq_iff_iff]
    simp
    try omega

set_option maxHeartbeats 400000 in
theorem spec_ReadCol (s : ByteArray) (w : World) : Calls Tryd.prog 14 #[.string s] w fun e w' =>
    e = .returned (.int .i64 (rdc s.data.toList 0)) ∧ Below w.heap.size w w' := by
  go_enter Tryd.func14, Tryd.ntmps14
  go_wp2_with fail
  go_loopw [3] (fun v3 wr => ∃ k : Nat, 1 ≤ k ∧ k ≤ 53 ∧ v3 = .int .i64 k ∧ (∀ j : Int, 1 ≤ j → j < k → colT j ≠ s) ∧ Below w.heap.size w wr) (fun v3 _ => 53 - (intOf v3).toNat)
  case atStart => exact ⟨1, by omega, by omega, rfl, fun j h1 h2 => by omega, by go_grown⟩
  case round =>
    obtain ⟨k, hk1, hk2, rfl, hno, hb⟩ := hrel
    have HN : Hid (∀ j : Int, 1 ≤ j → j < k → colT j ≠ s) := hno
    clear hno
    by_cases hlt : k ≤ 52
    · have hlt' : (k : Int) ≤ 52 := by omega
      by_cases he : colT k = s
      · have HE : Hid (rdc s.data.toList 0 = k) := by rw [← he]; exact rdc_col k (by omega) hlt'
        subst he
        go_wp2_with (first
          | (go_at_call 12; refine (spec_ColText _ _).mono ?_; rintro e w1 ⟨rfl, hb1⟩; have hk := bchain (w := w) (by go_grown) hb1; clear hb1))
        all_goals
          go_ret
          exact ⟨ret_int HE.out.symm, by go_grown⟩
      · have he' := str_ne he
        have HE : Hid (colT k ≠ s) := he
        clear he
        go_wp2_with (first
          | (go_at_call 12; refine (spec_ColText _ _).mono ?_; rintro e w1 ⟨rfl, hb1⟩; have hk := bchain (w := w) (by go_grown) hb1; clear hb1))
        all_goals
          go_roundw
          case rel => exact ⟨k + 1, by omega, by omega, by go_num, fun j h1 h2 => by
            by_cases e : j = k
            · rw [e]; exact HE.out
            · exact HN.out j h1 (by omega), by go_grown⟩
          case measure => simp [intOf]; omega
    · have hlt' : (52 : Int) < (k : Int) := by omega
      have HE : Hid (rdc s.data.toList 0 = 0) := rdc_none s (fun j h1 h2 => HN.out j h1 (by omega))
      go_wp2_with fail
      all_goals
        go_ret
        exact ⟨ret_int HE.out.symm, by go_grown⟩

theorem getD_drop (l : List UInt8) (k : Nat) (h : k < l.length) : l.drop k = l[k] :: l.drop (k + 1) := List.drop_eq_getElem_cons h

set_option maxHeartbeats 400000 in
theorem impl_ReadCol (s : ByteArray) (w : World) (hs : s.size ≤ maxLen) : Calls Tryd.prog 13 #[.string s] w fun e w' =>
    e = .returned (.int .i64 (rdc s.data.toList 0)) ∧ w' = w := by
  unfold maxLen at hs
  go_enter Tryd.func13, Tryd.ntmps13
  go_wp2_with fail
  go_loop [3, 7] (fun v3 v7 => ∃ (k : Nat) (m : Int), k ≤ s.size ∧ 0 ≤ m ∧ m ≤ 52 ∧ v3 = .int .i64 m ∧ v7 = .int .i64 k ∧ rdc (s.data.toList.drop k) m = rdc s.data.toList 0) (fun _ v7 => s.size - (intOf v7).toNat)
  case atStart => exact ⟨0, 0, by omega, by omega, by omega, rfl, rfl, rfl⟩
  case round =>
    obtain ⟨k, m, hk, hm0, hm1, rfl, rfl, hr⟩ := hrel
    have HR : Hid (rdc (s.data.toList.drop k) m = rdc s.data.toList 0) := hr
    clear hr
    by_cases hlt : k < s.size
    · have HD : Hid (s.data.toList.drop k = s[k] :: s.data.toList.drop (k + 1)) := getD_drop s.data.toList k (by simpa using hlt)
      go_wp2_with (first
        | (go_at_call 37; refine (impl_isLetter _ _).mono ?_; rintro e w1 ⟨rfl, rfl⟩))
      · go_ret
        rename_i hh
        exact ⟨ret_int (by rw [← HR.out, HD.out, rdc, if_neg (by simp at hh; omega)]), rfl⟩
      · rename_i hh h52
        simp at hh
        go_ret
        exact ⟨ret_int (by rw [← HR.out, HD.out, rdc, if_pos (by omega), if_pos (by omega)]), rfl⟩
      · rename_i hh h52
        simp at hh
        go_round
        case rel => exact ⟨k + 1, _, by omega, by omega, by omega, rfl, by go_num, by rw [← HR.out, HD.out, rdc, if_pos (by omega), if_neg (by omega)]; congr 1; omega⟩
        case measure => simp [intOf]; omega
    · go_wp2_with fail
      go_ret
      exact ⟨ret_int (by rw [← HR.out, List.drop_of_length_le (by simp; omega)]; rfl), rfl⟩
end Go.Proofs.YtjcicndioddcmaaDoor
