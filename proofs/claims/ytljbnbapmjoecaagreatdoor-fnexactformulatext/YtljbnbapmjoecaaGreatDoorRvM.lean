import Derived.Test.YtljbnbapmjoecaaGreatDoorBase
import Derived.Lib.ParseIntBCases
import Derived.Lib.ItoaMem
namespace Go.Proofs.YtljbnbapmjoecaaGreatDoor
open Go.RowKit

/-- What digits spell behind a beginning that spelt n. -/
def digs : List UInt8 → Nat → Option Nat
  | [], n => some n
  | b :: t, n => if 48 ≤ b.toNat ∧ b.toNat ≤ 57 then digs t (n * 10 + (b.toNat - 48)) else none
/-- A number in decimal of at most 16 digits, without noughts ahead. -/
def l16 (l : List UInt8) : Option Nat := if l.length < 1 ∨ 16 < l.length ∨ (l.head? = some 48 ∧ 1 < l.length) then none else digs l 0

theorem digs_app : ∀ (l : List UInt8) (b : UInt8) (n : Nat), digs (l ++ [b]) n = (digs l n).bind fun m => if 48 ≤ b.toNat ∧ b.toNat ≤ 57 then some (m * 10 + (b.toNat - 48)) else none
  | [], b, n => by simp only [List.nil_append, digs, Option.bind_some]
  | a :: l, b, n => by
    simp only [List.cons_append, digs]
    split
    · exact digs_app l b _
    · rfl
theorem digs_ge : ∀ (l : List UInt8) (n m : Nat), digs l n = some m → n ≤ m
  | [], n, m, h => by simp only [digs] at h; cases h; exact Nat.le_refl _
  | a :: l, n, m, h => by
    simp only [digs] at h
    split at h
    · have := digs_ge l _ m h; omega
    · cases h
theorem digs_lt : ∀ (l : List UInt8) (n m : Nat), digs l n = some m → m < (n + 1) * 10 ^ l.length
  | [], n, m, h => by simp only [digs] at h; cases h; simp
  | a :: l, n, m, h => by
    simp only [digs] at h
    split at h
    · have h1 := digs_lt l _ m h
      rename_i hd
      have h2 : n * 10 + (a.toNat - 48) + 1 ≤ (n + 1) * 10 := by omega
      have h3 : (n * 10 + (a.toNat - 48) + 1) * 10 ^ l.length ≤ (n + 1) * 10 * 10 ^ l.length := Nat.mul_le_mul_right _ h2
      have h4 : (n + 1) * 10 ^ (a :: l).length = (n + 1) * 10 * 10 ^ l.length := by
        rw [List.length_cons, Nat.pow_succ, Nat.mul_comm (10 ^ l.length) 10, Nat.mul_assoc]
      omega
    · cases h
theorem digs_parse : ∀ (l : List UInt8) (n m : Nat), digs l n = some m → m < 1844674407370955162 → Lib.parseUintM (2 ^ 64 - 1) n l = .ok m
  | [], n, m, h, _ => by simp only [digs] at h; cases h; rfl
  | a :: l, n, m, h, hm => by
    simp only [digs] at h
    split at h
    · rename_i hd
      have h1 := digs_ge l _ m h
      simp only [Lib.parseUintM]
      rw [if_pos hd, if_neg (by omega), if_neg (by omega)]
      exact digs_parse l _ m h hm
    · cases h
theorem byte_ofN (b : UInt8) (n : Nat) (h : b.toNat = 48 + n) : UInt8.ofNat (48 + n) = b := by rw [← h]; simp
theorem digs_dec (l : List UInt8) : ∀ (m : Nat), digs l 0 = some m → l ≠ [] → l.head? ≠ some 48 → 1 ≤ m ∧ Lib.decDigits m = l := by
  generalize hk : l.length = k
  induction k generalizing l with
  | zero => intro m _ h; exact absurd (List.length_eq_zero_iff.1 hk) h
  | succ k ih =>
    intro m hm hne hh
    rcases List.eq_nil_or_concat l with rfl | ⟨l', b, rfl⟩
    · exact absurd rfl hne
    rw [List.concat_eq_append] at *
    rw [digs_app] at hm
    cases hd : digs l' 0 with
    | none => rw [hd] at hm; cases hm
    | some q =>
      rw [hd] at hm
      simp only [Option.bind_some] at hm
      split at hm
      · rename_i hb
        have hm' := Option.some.inj hm
        obtain ⟨x, hx⟩ : ∃ x, b.toNat = 48 + x := ⟨b.toNat - 48, by omega⟩
        by_cases hl : l' = []
        · subst hl
          simp only [digs] at hd
          cases hd
          have hb48 : b ≠ 48 := fun e => hh (by simp [e])
          have hx0 : x ≠ 0 := fun e => hb48 (by apply UInt8.toNat_inj.1; rw [hx, e]; rfl)
          have hmx : m = x := by omega
          subst hmx
          exact ⟨by omega, by rw [Lib.decDigits_one (by omega), byte_ofN b m hx]; rfl⟩
        · obtain ⟨h1, h2⟩ := ih l' (by simp at hk; omega) q hd hl (fun e => hh (by
            cases l' with
            | nil => exact absurd rfl hl
            | cons a t => simpa using e))
          have hmq : m = q * 10 + x := by omega
          refine ⟨by omega, ?_⟩
          rw [Lib.decDigits, dif_neg (by omega), show m / 10 = q by omega, h2, show m % 10 = x by omega, byte_ofN b x hx]
      · cases hm
theorem dec_digs (m : Nat) : digs (Lib.decDigits m) 0 = some m := by
  induction m using Nat.strongRecOn with
  | ind m ih =>
    by_cases h : m < 10
    · rw [Lib.decDigits_one h]
      have e : (UInt8.ofNat (48 + m)).toNat = 48 + m := by simp; omega
      simp only [digs, e]
      rw [if_pos (by omega)]
      simp
    · rw [Lib.decDigits, dif_neg h, digs_app, ih (m / 10) (by omega)]
      have e : (UInt8.ofNat (48 + m % 10)).toNat = 48 + m % 10 := by simp; omega
      simp only [Option.bind_some, e]
      rw [if_pos (by omega)]
      congr 1
      omega
theorem dec_head (m : Nat) (h : 1 ≤ m) : (Lib.decDigits m).head? ≠ some 48 := by
  induction m using Nat.strongRecOn with
  | ind m ih =>
    by_cases h9 : m < 10
    · rw [Lib.decDigits_one h9]
      intro e
      have e1 : UInt8.ofNat (48 + m) = 48 := by simpa using e
      have e2 := congrArg UInt8.toNat e1
      have e3 : (UInt8.ofNat (48 + m)).toNat = 48 + m := by simp; omega
      rw [e3] at e2
      have e4 : (48 : UInt8).toNat = 48 := rfl
      omega
    · rw [Lib.decDigits, dif_neg h9]
      have := ih (m / 10) (by omega) (by omega)
      cases hd : Lib.decDigits (m / 10) with
      | nil =>
        have := Lib.decDigits_length (m / 10)
        have := Lib.nDigits_pos (m / 10)
        rw [hd] at *
        simp at *
        omega
      | cons a t => rw [hd] at this; simpa using this
theorem dec_len : ∀ (k m : Nat), m < 10 ^ (k + 1) → (Lib.decDigits m).length ≤ k + 1
  | 0, m, h => by rw [Lib.decDigits_one (by simpa using h)]; simp
  | k + 1, m, h => by
    by_cases h9 : m < 10
    · rw [Lib.decDigits_one h9]; simp
    · rw [Lib.decDigits, dif_neg h9, List.length_append]
      have := dec_len k (m / 10) (by rw [Nat.pow_succ] at h; omega)
      simp only [List.length_cons, List.length_nil]
      omega
theorem dec_first (m : Nat) : ∀ c, (Lib.decDigits m).head? = some c → 48 ≤ c.toNat ∧ c.toNat ≤ 57 := by
  intro c hc
  have h := dec_digs m
  cases hd : Lib.decDigits m with
  | nil => rw [hd] at hc; cases hc
  | cons a t =>
    rw [hd] at hc h
    simp only [List.head?_cons, Option.some.injEq] at hc
    subst hc
    simp only [digs] at h
    split at h
    · assumption
    · cases h
theorem dec_l16 (m : Nat) (h : m < 10000000000000000) : l16 (Lib.decDigits m) = some m := by
  have h1 := dec_len 15 m (by simpa using h)
  have h0 := Lib.decDigits_length m
  have h2 := Lib.nDigits_pos m
  unfold l16
  rw [if_neg, dec_digs]
  rintro (hh | hh | ⟨hh, hl⟩)
  · omega
  · omega
  · by_cases hm : 1 ≤ m
    · exact dec_head m hm hh
    · obtain rfl : m = 0 := by omega
      rw [Lib.decDigits_one (by omega)] at hl
      simp at hl
theorem l16_dec {l : List UInt8} {m : Nat} (h : l16 l = some m) : Lib.decDigits m = l ∧ m < 10000000000000000 ∧ digs l 0 = some m ∧ (∃ c t, l = c :: t ∧ 48 ≤ c.toNat ∧ c.toNat ≤ 57) := by
  unfold l16 at h
  split at h
  · cases h
  · rename_i hn
    have hlt := digs_lt l 0 m h
    have hp : 10 ^ l.length ≤ 10 ^ 16 := Nat.pow_le_pow_right (by omega) (by omega)
    have hlt2 : m < 10000000000000000 := by have e : (10 : Nat) ^ 16 = 10000000000000000 := rfl; omega
    match l, h, hn with
    | [], _, hn => simp at hn
    | c :: t, h, hn =>
      have hc : 48 ≤ c.toNat ∧ c.toNat ≤ 57 := by
        have h' := h
        simp only [digs] at h'
        split at h'
        · assumption
        · cases h'
      refine ⟨?_, hlt2, h, c, t, rfl, hc⟩
      by_cases hz : c = 48
      · subst hz
        have ht : t = [] := by
          cases t with
          | nil => rfl
          | cons a t' => exact absurd (Or.inr (Or.inr ⟨rfl, by simp⟩)) hn
        subst ht
        simp [digs] at h
        subst h
        rw [Lib.decDigits_one (by omega)]
        rfl
      · exact (digs_dec _ m h (by simp) (by simpa using hz)).2

/-- A number with a sign, as the specification reads it. -/
def sgnl (l : List UInt8) : Option Int :=
  if l.head? = some 45 then (match l16 l.tail with
    | some n => if n = 0 then none else some (-(n : Int))
    | none => none) else (match l16 l with
    | some n => some (n : Int)
    | none => none)
theorem sgnl_itoa {l : List UInt8} {v : Int} (h : sgnl l = some v) : Lib.itoa v = l ∧ Lib.parseIntB 64 l = .ok v := by
  unfold sgnl at h
  split at h
  · rename_i hh
    cases hq : l16 l.tail with
    | none => rw [hq] at h; cases h
    | some n =>
      rw [hq] at h
      simp only at h
      split at h
      · cases h
      · rename_i hn
        cases h
        obtain ⟨h1, h2, h3, c, t, h4, _⟩ := l16_dec hq
        obtain ⟨r, rfl⟩ : ∃ r, l = 45 :: r := by
          cases l with
          | nil => cases hh
          | cons a r => exact ⟨r, by rw [show a = 45 by simpa using hh]⟩
        · simp only [List.tail_cons] at h1 h3 h4
          refine ⟨by rw [Lib.itoa_neg n (by omega), h1], ?_⟩
          rw [Lib.parseIntB_minus]
          have e : Lib.parseUintB 64 r = .ok n := by
            unfold Lib.parseUintB
            rw [if_neg (by rw [h4]; simp)]
            exact digs_parse r 0 n h3 (by omega)
          rw [e]
          simp only [Lib.signedC]
          rw [if_neg (by have e2 : (2 : Nat) ^ (64 - 1) = 9223372036854775808 := rfl; omega)]
  · rename_i hh
    cases hq : l16 l with
    | none => rw [hq] at h; cases h
    | some n =>
      rw [hq] at h
      cases h
      obtain ⟨h1, h2, h3, c, t, h4, h5⟩ := l16_dec hq
      refine ⟨by rw [Lib.itoa_nonneg n, h1], ?_⟩
      rw [h4, Lib.parseIntB_plain 64 c t (by omega) (by omega), ← h4]
      have e : Lib.parseUintB 64 l = .ok n := by
        unfold Lib.parseUintB
        rw [if_neg (by rw [h4]; simp)]
        exact digs_parse l 0 n h3 (by omega)
      rw [e]
      simp only [Lib.signlessC]
      rw [if_neg (by have e2 : (2 : Nat) ^ (64 - 1) = 9223372036854775808 := rfl; omega)]
theorem itoa_sgnl (v : Int) (h0 : -10000000000000000 < v) (h1 : v < 10000000000000000) : sgnl (Lib.itoa v) = some v := by
  by_cases hn : v < 0
  · obtain ⟨n, rfl⟩ : ∃ n : Nat, v = -(n : Int) := ⟨v.natAbs, by omega⟩
    rw [Lib.itoa_neg n (by omega)]
    unfold sgnl
    rw [if_pos (by simp), List.tail_cons, dec_l16 n (by omega)]
    simp only
    rw [if_neg (by omega)]
  · obtain ⟨n, rfl⟩ : ∃ n : Nat, v = (n : Int) := ⟨v.toNat, by omega⟩
    rw [Lib.itoa_nonneg n]
    unfold sgnl
    rw [if_neg, dec_l16 n (by omega)]
    intro e
    have := (dec_first n 45 e).1
    have e4 : (45 : UInt8).toNat = 45 := rfl
    omega
end Go.Proofs.YtljbnbapmjoecaaGreatDoor
