import Derived.Test.YtjcicndioddcmaaDoorPlaceF
import Derived.Test.YtjcicndioddcmaaDoorDecA
import Derived.Deep.QuietTactic
namespace Go.Proofs.YtjcicndioddcmaaDoor
open Go.RowKit

/-- Does a text begin with the sign of what is fixed? -/
def hasD (s : ByteArray) : Bool := if h : 0 < s.size then s[0] == 36 else false
def cutD (s : ByteArray) : ByteArray := if hasD s then s.extract 1 s.size else s
theorem cutD_size (s : ByteArray) : (cutD s).size ≤ s.size := by
  unfold cutD
  split
  · rw [ByteArray.size_extract]; omega
  · exact Nat.le_refl _
theorem hasD_size {s : ByteArray} (h : hasD s = true) : 0 < s.size := by
  unfold hasD at h
  split at h
  · assumption
  · cases h
theorem ext1 (s : ByteArray) (h : 0 < s.size) : (s.extract 0 1).toList = [s[0]] := by
  rw [ByteArray.toList_eq]
  have e : (s.extract 0 1).data.toList = (s.data.toList).take 1 := by simp
  rw [e]
  obtain ⟨⟨l⟩⟩ := s
  match l, h with
  | a :: l', _ => rfl

set_option maxHeartbeats 1000000 in
theorem lib_HasPrefix (s : ByteArray) (w : World) (hs : s.size ≤ 281474976710656) : Calls Tryd.prog 73 #[.string s, .string ⟨#[36]⟩] w fun e w' =>
    e = .returned (.bool (hasD s)) ∧ w' = w := by
  by_cases h : 0 < s.size
  · have h0 : (1 : Int) ≤ (s.size : Int) := by omega
    have e1 := ext1 s h
    have HE : Hid (hasD s = (s[0] == 36)) := by show hasD s = _; rw [hasD, dif_pos h]
    go_enter Tryd.func73, Tryd.ntmps73
    go_wp2
    all_goals go_ret
    exact ⟨ret_bool HE.out.symm, rfl⟩
  · have h0 : ¬ (1 : Int) ≤ (s.size : Int) := by omega
    have HE : Hid (hasD s = false) := by show hasD s = _; rw [hasD, dif_neg h]
    go_enter Tryd.func73, Tryd.ntmps73
    go_wp2
    go_ret
    exact ⟨ret_bool HE.out.symm, rfl⟩

set_option maxHeartbeats 1000000 in
theorem lib_iCutPrefix (s : ByteArray) (w : World) (hs : s.size ≤ 281474976710656) : Calls Tryd.prog 61 #[.string s, .string ⟨#[36]⟩] w fun e w' =>
    e = .returned (.tuple #[.string (cutD s), .bool (hasD s)]) ∧ w' = w := by
  cases h : hasD s
  · have HE : Hid (hasD s = false) := h
    have HC : Hid (cutD s = s) := by show cutD s = s; rw [cutD, h]; rfl
    clear h
    go_enter Tryd.func61, Tryd.ntmps61
    go_wp2_with (first
      | (go_at_call 73; refine (lib_HasPrefix s _ hs).mono ?_; rintro e w1 ⟨rfl, rfl⟩; rw [HE.out]))
    refine bodyPost_ret (v := .tuple #[.string s, .bool false]) ?_ rfl ⟨by rw [HC.out], rfl⟩
    simp (maxDischargeDepth := 9) [results, Tryd.results61, go_sem, *]
  · have HE : Hid (hasD s = true) := h
    have h0 : (1 : Int) ≤ (s.size : Int) := by have := hasD_size h; omega
    have HC : Hid (cutD s = s.extract 1 s.size) := by show cutD s = _; rw [cutD, h]; rfl
    clear h
    go_enter Tryd.func61, Tryd.ntmps61
    go_wp2_with (first
      | (go_at_call 73; refine (lib_HasPrefix s _ hs).mono ?_; rintro e w1 ⟨rfl, rfl⟩; rw [HE.out]))
    refine bodyPost_ret (v := .tuple #[.string (s.extract 1 s.size), .bool true]) ?_ rfl ⟨by rw [HC.out], rfl⟩
    simp (maxDischargeDepth := 9) [results, Tryd.results61, go_sem, *]
set_option maxHeartbeats 1000000 in
theorem lib_CutPrefix (s : ByteArray) (w : World) (hs : s.size ≤ 281474976710656) : Calls Tryd.prog 41 #[.string s, .string ⟨#[36]⟩] w fun e w' =>
    e = .returned (.tuple #[.string (cutD s), .bool (hasD s)]) ∧ w' = w := by
  go_enter Tryd.func41, Tryd.ntmps41
  go_wp2_with (first
    | (go_at_call 61; refine (lib_iCutPrefix s _ hs).mono ?_; rintro e w1 ⟨rfl, rfl⟩))
  refine bodyPost_ret (v := .tuple #[.string (cutD s), .bool (hasD s)]) ?_ rfl ⟨rfl, rfl⟩
  simp (maxDischargeDepth := 9) [results, Tryd.results41, go_sem, *]

def isL (b : UInt8) : Bool := decide (65 ≤ b.toNat ∧ b.toNat ≤ 90)
/-- How many letters a text begins with. -/
def lets (s : ByteArray) : Nat := (s.data.toList.takeWhile isL).length
theorem takeWhile_len (p : UInt8 → Bool) : ∀ (l : List UInt8) (k : Nat), (hk : k ≤ l.length) → (∀ j, (hj : j < k) → p (l[j]'(by omega)) = true) → (∀ h : k < l.length, p l[k] = false) → (l.takeWhile p).length = k
  | [], k, hk, _, _ => by simp at hk; simp [hk]
  | a :: l, 0, _, _, h2 => by
    have := h2 (by simp)
    simp at this
    simp [List.takeWhile, this]
  | a :: l, k + 1, hk, h1, h2 => by
    have h0 := h1 0 (by omega)
    simp at h0
    simp only [List.takeWhile, h0, List.length_cons]
    rw [takeWhile_len p l k (by simp at hk; omega) (fun j hj => by simpa using h1 (j + 1) (by omega)) (fun h => by have h3 := h2 (by simp only [List.length_cons]; omega); rwa [List.getElem_cons_succ] at h3)]
theorem lets_eq {s : ByteArray} {k : Nat} (hk : k ≤ s.size) (h1 : ∀ j, (hj : j < k) → isL (s[j]'(by omega)) = true) (h2 : ∀ h : k < s.size, isL s[k] = false) : lets s = k :=
  takeWhile_len isL s.data.toList k hk h1 h2
theorem lets_le (s : ByteArray) : lets s ≤ s.size := (List.takeWhile_sublist _).length_le

set_option maxHeartbeats 2000000 in
theorem impl_lettersAhead (s : ByteArray) (w : World) (hs : s.size ≤ 281474976710656) : Calls Tryd.prog 42 #[.string s] w fun e w' =>
    e = .returned (.int .i64 (lets s)) ∧ w' = w := by
  go_enter Tryd.func42, Tryd.ntmps42
  go_wp2_with fail
  go_loop [3] (fun v => ∃ k : Nat, ∃ hk : k ≤ s.size, v = .int .i64 k ∧ ∀ j, (hj : j < k) → isL (s[j]'(by omega)) = true) (fun v => s.size - (intOf v).toNat)
  case atStart => exact ⟨0, Nat.zero_le _, rfl, fun j hj => by omega⟩
  case round =>
    obtain ⟨k, hk, rfl, hr⟩ := hrel
    have HR : Hid (∀ j, (hj : j < k) → isL (s[j]'(by omega)) = true) := hr
    clear hr
    have hk0 : (0 : Int) ≤ (k : Int) := by omega
    by_cases hlt : k < s.size
    · have hlt' : (k : Int) < (s.size : Int) := by omega
      cases hl : isL s[k]
      · have HL : Hid (lets s = k) := lets_eq hk HR.out (fun _ => hl)
        have HB : Hid (decide ((65 : Int) ≤ (s[k].toNat : Int) ∧ (s[k].toNat : Int) ≤ 90) = false) := by
          show decide _ = false
          unfold isL at hl
          simp at hl ⊢
          omega
        clear hl
        go_wp2_with (first
          | (go_at_call 37; refine (impl_isLetter _ _).mono ?_; rintro e w1 ⟨rfl, rfl⟩; rw [HB.out]))
        go_ret
        exact ⟨by rw [HL.out]; rfl, rfl⟩
      · have HL : Hid (∀ j, (hj : j < k + 1) → isL (s[j]'(by omega)) = true) := fun j hj => by
          by_cases e : j = k
          · subst e; exact hl
          · exact HR.out j (by omega)
        have HB : Hid (decide ((65 : Int) ≤ (s[k].toNat : Int) ∧ (s[k].toNat : Int) ≤ 90) = true) := by
          show decide _ = true
          unfold isL at hl
          simp at hl ⊢
          omega
        clear hl
        go_wp2_with (first
          | (go_at_call 37; refine (impl_isLetter _ _).mono ?_; rintro e w1 ⟨rfl, rfl⟩; rw [HB.out]))
        go_round
        case rel => exact ⟨k + 1, by omega, by go_num, HL.out⟩
        case measure => simp [intOf]; omega
    · have hlt' : ¬ (k : Int) < (s.size : Int) := by omega
      have HL : Hid (lets s = k) := lets_eq hk HR.out (fun h => absurd h hlt)
      go_wp2_with fail
      go_ret
      exact ⟨by rw [HL.out]; rfl, rfl⟩

/-- What the specification's reader of decimals says of at most two bytes. -/
def l1I (s : ByteArray) : Option Int := match s.data.toList with
  | [a] => if 48 ≤ a.toNat ∧ a.toNat ≤ 57 then some ((a.toNat : Int) - 48) else none
  | [a, b] => if a.toNat = 48 then none else if (48 ≤ a.toNat ∧ a.toNat ≤ 57) ∧ (48 ≤ b.toNat ∧ b.toNat ≤ 57) then some (((a.toNat : Int) - 48) * 10 + ((b.toNat : Int) - 48)) else none
  | _ => none
end Go.Proofs.YtjcicndioddcmaaDoor
