import Derived.Test.YthagnaeemipnlaaValsN
namespace Go.Proofs.Ythagnaeemipnlaa
open Go.RowKit

theorem bl_irrefl (l : List UInt8) : Op.bytesLess l l = false := by
  induction l with
  | nil => rfl
  | cons a x ih => simp [Op.bytesLess, ih]
theorem bl_asymm : ∀ (l m : List UInt8), Op.bytesLess l m = true → Op.bytesLess m l = false
  | [], [], h => by simp [Op.bytesLess] at h
  | _ :: _, [], h => by simp [Op.bytesLess] at h
  | [], _ :: _, _ => rfl
  | a :: x, b :: y, h => by
    simp only [Op.bytesLess, Bool.or_eq_true, Bool.and_eq_true, decide_eq_true_eq, beq_iff_eq] at h
    simp only [Op.bytesLess, Bool.or_eq_false_iff, Bool.and_eq_false_iff, decide_eq_false_iff_not, beq_eq_false_iff_ne]
    rcases h with h | ⟨rfl, h⟩
    · rw [UInt8.lt_iff_toNat_lt] at h
      refine ⟨fun hq => ?_, Or.inl fun hq => ?_⟩
      · rw [UInt8.lt_iff_toNat_lt] at hq; omega
      · rw [hq] at h; omega
    · exact ⟨fun hq => by rw [UInt8.lt_iff_toNat_lt] at hq; omega, Or.inr (bl_asymm x y h)⟩
theorem bl_tri : ∀ (l m : List UInt8), Op.bytesLess l m = false → Op.bytesLess m l = false → l = m
  | [], [], _, _ => rfl
  | _ :: _, [], _, h => by simp [Op.bytesLess] at h
  | [], _ :: _, h, _ => by simp [Op.bytesLess] at h
  | a :: x, b :: y, h, h' => by
    simp only [Op.bytesLess, Bool.or_eq_false_iff, Bool.and_eq_false_iff, decide_eq_false_iff_not, beq_eq_false_iff_ne] at h h'
    have e : a = b := by
      obtain ⟨h1, _⟩ := h
      obtain ⟨h2, _⟩ := h'
      rw [UInt8.lt_iff_toNat_lt] at h1 h2
      exact UInt8.toNat_inj.1 (by omega)
    subst e
    have h1 := h.2.resolve_left (fun hq => hq rfl)
    have h2 := h'.2.resolve_left (fun hq => hq rfl)
    rw [bl_tri x y h1 h2]
theorem bl_trans : ∀ (l m n : List UInt8), Op.bytesLess l m = true → Op.bytesLess m n = true → Op.bytesLess l n = true
  | _, [], _, h, _ => by simp [Op.bytesLess] at h
  | _, _ :: _, [], _, h => by simp [Op.bytesLess] at h
  | [], _ :: _, _ :: _, _, _ => rfl
  | a :: x, b :: y, c :: z, h, h' => by
    simp only [Op.bytesLess, Bool.or_eq_true, Bool.and_eq_true, decide_eq_true_eq, beq_iff_eq] at h h' ⊢
    rcases h with h | ⟨rfl, h⟩ <;> rcases h' with h' | ⟨rfl, h'⟩
    · left
      rw [UInt8.lt_iff_toNat_lt] at h h' ⊢
      omega
    · exact Or.inl h
    · exact Or.inl h'
    · exact Or.inr ⟨rfl, bl_trans x y z h h'⟩

theorem toList_inj {s t : ByteArray} (h : s.toList = t.toList) : s = t := str_of (by simp [h])
theorem cS_neg (s t : ByteArray) : cS t s = - cS s t := by
  unfold cS
  cases h : Op.bytesLess s.toList t.toList with
  | true =>
    have h1 := bl_asymm _ _ h
    have h2 : (t.toList == s.toList) = false := by
      rw [beq_eq_false_iff_ne]
      intro e
      rw [e, bl_irrefl] at h
      cases h
    simp [h1, h2]
  | false =>
    cases h' : Op.bytesLess t.toList s.toList with
    | true =>
      have h2 : (s.toList == t.toList) = false := by
        rw [beq_eq_false_iff_ne]
        intro e
        rw [e, bl_irrefl] at h'
        cases h'
      simp [h2]
    | false =>
      have e := bl_tri _ _ h h'
      simp [e]
theorem cS_zero {s t : ByteArray} (h : cS s t = 0) : s = t := by
  unfold cS at h
  split at h
  · omega
  · split at h
    · exact toList_inj (by simpa using ‹(s.toList == t.toList) = true›)
    · omega
theorem cS_self (s : ByteArray) : cS s s = 0 := by unfold cS; simp [bl_irrefl]
theorem cS_bd (s t : ByteArray) : -1 ≤ cS s t ∧ cS s t ≤ 1 := by
  unfold cS
  split
  · omega
  · split <;> omega
theorem cS_trans {s t u : ByteArray} (h : cS s t ≤ 0) (h' : cS t u ≤ 0) : cS s u ≤ 0 ∧ (cS s u = 0 → cS s t = 0) := by
  have key : ∀ x y : ByteArray, cS x y ≤ 0 → Op.bytesLess x.toList y.toList = true ∨ x = y := by
    intro x y hq
    unfold cS at hq
    split at hq
    · left; assumption
    · split at hq
      · right; exact toList_inj (by simpa using ‹(x.toList == y.toList) = true›)
      · omega
  rcases key s t h with h1 | rfl
  · have hlt : Op.bytesLess s.toList u.toList = true := by
      rcases key t u h' with h2 | rfl
      · exact bl_trans _ _ _ h1 h2
      · exact h1
    have e : cS s u = -1 := by unfold cS; rw [if_pos hlt]
    rw [e]
    exact ⟨by omega, fun hq => by omega⟩
  · exact ⟨h', fun _ => cS_self _⟩

theorem sgn_neg (a b : Int) : sgn b a = - sgn a b := by
  unfold sgn
  split <;> split <;> omega
theorem sgn_zero {a b : Int} (h : sgn a b = 0) : a = b := by
  unfold sgn at h
  split at h
  · omega
  · split at h <;> omega
theorem sgn_bd (a b : Int) : -1 ≤ sgn a b ∧ sgn a b ≤ 1 := by
  unfold sgn
  split
  · omega
  · split <;> omega
theorem sgn_le {a b : Int} : sgn a b ≤ 0 ↔ a ≤ b := by
  unfold sgn
  constructor
  · intro h
    by_cases h1 : a < b
    · omega
    · by_cases h2 : b < a
      · rw [if_neg h1, if_pos h2] at h; omega
      · omega
  · intro h
    by_cases h1 : a < b
    · rw [if_pos h1]; omega
    · rw [if_neg h1, if_neg (by omega)]; omega
theorem sgn_trans {a b c : Int} (h : sgn a b ≤ 0) (h' : sgn b c ≤ 0) : sgn a c ≤ 0 ∧ (sgn a c = 0 → sgn a b = 0) := by
  have h1 := sgn_le.1 h
  have h2 := sgn_le.1 h'
  refine ⟨sgn_le.2 (by omega), fun e => ?_⟩
  have e' := sgn_zero e
  have : a = b := by omega
  rw [this, sgn_self]

theorem ordV_neg (k n : Int) (s : ByteArray) (k' n' : Int) (s' : ByteArray) : ordV k' n' s' k n s = - ordV k n s k' n' s' := by
  unfold ordV or3
  rw [sgn_neg k k', sgn_neg n n', cS_neg s s']
  by_cases h : sgn k k' = 0
  · by_cases h2 : sgn n n' = 0
    · simp [h, h2]
    · simp [h, h2]
  · simp [h]
theorem ordV_zero {k n : Int} {s : ByteArray} {k' n' : Int} {s' : ByteArray} (h : ordV k n s k' n' s' = 0) : k = k' ∧ n = n' ∧ s = s' := by
  unfold ordV or3 at h
  split at h
  · rename_i h1
    split at h
    · rename_i h2
      exact ⟨sgn_zero h1, sgn_zero h2, cS_zero h⟩
    · rename_i h2
      exact absurd h h2
  · rename_i h1
    exact absurd h h1
theorem ordV_self (k n : Int) (s : ByteArray) : ordV k n s k n s = 0 := by
  unfold ordV or3
  simp [sgn_self, cS_self]
theorem ordV_bd (k n : Int) (s : ByteArray) (k' n' : Int) (s' : ByteArray) : -1 ≤ ordV k n s k' n' s' ∧ ordV k n s k' n' s' ≤ 1 := by
  unfold ordV or3
  have := sgn_bd k k'
  have := sgn_bd n n'
  have := cS_bd s s'
  split
  · split <;> omega
  · omega
theorem ordV_trans {k n : Int} {s : ByteArray} {k' n' : Int} {s' : ByteArray} {k'' n'' : Int} {s'' : ByteArray} (h : ordV k n s k' n' s' ≤ 0) (h' : ordV k' n' s' k'' n'' s'' ≤ 0) : ordV k n s k'' n'' s'' ≤ 0 := by
  unfold ordV or3 at *
  by_cases a : sgn k k' = 0
  · have ea := sgn_zero a
    subst ea
    rw [if_pos a] at h
    by_cases b : sgn k k'' = 0
    · rw [if_pos b] at h' ⊢
      by_cases c : sgn n n' = 0
      · have ec := sgn_zero c
        subst ec
        rw [if_pos c] at h
        by_cases d : sgn n n'' = 0
        · rw [if_pos d] at h' ⊢
          exact (cS_trans h h').1
        · rw [if_neg d] at h' ⊢
          exact h'
      · rw [if_neg c] at h
        have h2 : sgn n' n'' ≤ 0 := by
          by_cases d : sgn n' n'' = 0
          · omega
          · rw [if_neg d] at h'; exact h'
        have t := sgn_trans h h2
        rw [if_neg (fun hq => c (t.2 hq))]
        exact t.1
    · rw [if_neg b] at h' ⊢
      exact h'
  · rw [if_neg a] at h
    have h2 : sgn k' k'' ≤ 0 := by
      by_cases d : sgn k' k'' = 0
      · omega
      · rw [if_neg d] at h'; exact h'
    have t := sgn_trans h h2
    rw [if_neg (fun hq => a (t.2 hq))]
    exact t.1
end Go.Proofs.Ythagnaeemipnlaa
