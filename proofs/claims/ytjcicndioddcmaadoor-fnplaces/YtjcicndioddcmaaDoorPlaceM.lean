import Derived.Test.YtjcicndioddcmaaDoorPlaceI
namespace Go.Proofs.YtjcicndioddcmaaDoor
open Go.RowKit

def l1L : List UInt8 → Option Int
  | [a] => if 48 ≤ a.toNat ∧ a.toNat ≤ 57 then some ((a.toNat : Int) - 48) else none
  | [a, b] => if a.toNat = 48 then none else if (48 ≤ a.toNat ∧ a.toNat ≤ 57) ∧ (48 ≤ b.toNat ∧ b.toNat ≤ 57) then some (((a.toNat : Int) - 48) * 10 + ((b.toNat : Int) - 48)) else none
  | _ => none
theorem l1I_L (s : ByteArray) : l1I s = l1L s.data.toList := by
  unfold l1I l1L
  rfl
theorem itoa_small : ∀ v, v < 100 → l1L (Lib.itoa ((v : Nat) : Int)) = some (v : Int) := by decide +kernel
theorem itoa_one : ∀ v, v < 10 → Lib.itoa ((v : Nat) : Int) = [UInt8.ofNat (48 + v)] := by decide +kernel
theorem itoa_two : ∀ p, p < 10 → ∀ q, q < 10 → ¬ p = 0 → Lib.itoa ((10 * p + q : Nat) : Int) = [UInt8.ofNat (48 + p), UInt8.ofNat (48 + q)] := by decide +kernel
theorem parse_small : ∀ v, v < 100 → (match Lib.parseIntB 64 (Lib.itoa ((v : Nat) : Int)) with | .ok x => decide (x = (v : Int)) | _ => false) = true := by decide +kernel
theorem byte_of (a : UInt8) (n : Nat) (h : a.toNat = n) : UInt8.ofNat n = a := by subst h; simp
theorem l1L_itoa {l : List UInt8} {v : Int} (h : l1L l = some v) (h1 : 1 ≤ v) : v ≤ 99 ∧ Lib.itoa v = l := by
  match l, h with
  | [a], h =>
    simp only [l1L] at h
    split at h
    · rename_i hd
      have e : v = (a.toNat : Int) - 48 := (Option.some.inj h).symm
      obtain ⟨n, hn⟩ : ∃ n : Nat, a.toNat = 48 + n := ⟨a.toNat - 48, by omega⟩
      have ev : v = (n : Int) := by omega
      refine ⟨by omega, ?_⟩
      rw [ev, itoa_one n (by omega), byte_of a _ hn]
    · cases h
  | [a, b], h =>
    simp only [l1L] at h
    split at h
    · cases h
    · rename_i h0
      split at h
      · rename_i hd
        have e : v = ((a.toNat : Int) - 48) * 10 + ((b.toNat : Int) - 48) := (Option.some.inj h).symm
        obtain ⟨n, hn⟩ : ∃ n : Nat, a.toNat = 48 + n := ⟨a.toNat - 48, by omega⟩
        obtain ⟨m, hm⟩ : ∃ m : Nat, b.toNat = 48 + m := ⟨b.toNat - 48, by omega⟩
        have ev : v = ((10 * n + m : Nat) : Int) := by omega
        refine ⟨by omega, ?_⟩
        rw [ev, itoa_two n (by omega) m (by omega) (by omega), byte_of a _ hn, byte_of b _ hm]
      · cases h
theorem rdec_small {l : List UInt8} {v : Int} (h : l1L l = some v) (h1 : 1 ≤ v) : rdec l = some v := by
  obtain ⟨h2, hi⟩ := l1L_itoa h h1
  obtain ⟨n, rfl⟩ : ∃ n : Nat, v = (n : Int) := ⟨v.toNat, by omega⟩
  have hp := parse_small n (by omega)
  rw [hi] at hp
  cases hq : Lib.parseIntB 64 l with
  | ok x =>
    rw [hq] at hp
    simp only [decide_eq_true_eq] at hp
    subst hp
    exact rdec_ok hq hi
  | «syntax» => rw [hq] at hp; cases hp
  | range => rw [hq] at hp; cases hp
theorem small_rdec {l : List UInt8} {v : Int} (h : rdec l = some v) (h1 : 1 ≤ v) (h2 : v ≤ 99) : l1L l = some v := by
  unfold rdec at h
  split at h
  · split at h
    · rename_i hi
      cases h
      obtain ⟨n, rfl⟩ : ∃ n : Nat, v = (n : Int) := ⟨v.toNat, by omega⟩
      rw [← hi]
      exact itoa_small n (by omega)
    · cases h
  · cases h
theorem ref_bd {c v : Int} (h : refOkB c v = true) : 1 ≤ v ∧ v ≤ 99 := by
  simp only [refOkB, decide_eq_true_eq] at h
  omega
theorem pl_same (c : Int) (s : ByteArray) (x y : Bool) : plV c (rdec s.data.toList) x y = plV c (l1I s) x y := by
  rw [l1I_L]
  cases h1 : plOk c (rdec s.data.toList) with
  | true =>
    obtain ⟨v, hv, hr⟩ : ∃ v, rdec s.data.toList = some v ∧ refOkB c v = true := by
      cases ho : rdec s.data.toList with
      | none => rw [ho] at h1; cases h1
      | some v => rw [ho] at h1; exact ⟨v, rfl, by simpa [plOk] using h1⟩
    have hb := ref_bd hr
    rw [hv, small_rdec hv hb.1 hb.2]
  | false =>
    have h2 : plOk c (l1L s.data.toList) = false := by
      cases hq : plOk c (l1L s.data.toList) with
      | false => rfl
      | true =>
        cases ho : l1L s.data.toList with
        | none => rw [ho] at hq; cases hq
        | some v =>
          rw [ho] at hq
          have hr : refOkB c v = true := by simpa [plOk] using hq
          have hb := ref_bd hr
          rw [rdec_small ho hb.1] at h1
          rw [show plOk c (some v) = refOkB c v by simp [plOk]] at h1
          rw [hr] at h1
          cases h1
    simp [plV, h1, h2, sl]
end Go.Proofs.YtjcicndioddcmaaDoor
