import Derived.Test.YtjkioadjclfmiaaDoorFrA
namespace Go.Proofs.YtjkioadjclfmiaaDoor
open Go.RowKit

/-! ### Frames in a text -/
def bt (s : ByteArray) (i : Nat) : Nat := (s.data.toList.getD i 0).toNat
def nAt (s : ByteArray) (a : Nat) : Nat := num4 (bt s a) (bt s (a + 1)) (bt s (a + 2)) (bt s (a + 3))
theorem bt_lt (s : ByteArray) (i : Nat) : bt s i < 256 := UInt8.toNat_lt _
theorem bt_get {s : ByteArray} {i : Nat} (h : i < s.size) : (s[i]).toNat = bt s i := by
  unfold bt
  rw [List.getD_eq_getElem?_getD, List.getElem?_eq_getElem (by simpa using h)]
  rfl
theorem nAt_lt (s : ByteArray) (a : Nat) : nAt s a < 4294967296 := by
  have h0 := bt_lt s a; have h1 := bt_lt s (a + 1); have h2 := bt_lt s (a + 2); have h3 := bt_lt s (a + 3)
  unfold nAt num4
  omega
theorem list_extract (s : ByteArray) (a b : Nat) : (s.extract a b).data.toList = (s.data.toList.drop a).take (b - a) := by
  rw [ByteArray.data_extract, Array.toList_extract]
theorem bt_extract {s : ByteArray} {a b i : Nat} (h : a + i < b) : bt (s.extract a b) i = bt s (a + i) := by
  unfold bt
  rw [list_extract]
  simp only [List.getD_eq_getElem?_getD, List.getElem?_take, List.getElem?_drop]
  rw [if_pos (by omega)]
theorem nAt_extract {s : ByteArray} {a b i : Nat} (h : a + i + 4 ≤ b) : nAt (s.extract a b) i = nAt s (a + i) := by
  unfold nAt
  rw [bt_extract (by omega), bt_extract (by omega), bt_extract (by omega), bt_extract (by omega)]
  rfl
theorem ext_ext (s : ByteArray) (a b c d : Nat) (h : a + d ≤ b) : (s.extract a b).extract c d = s.extract (a + c) (a + d) := by
  apply ByteArray.ext
  apply Array.toList_inj.1
  rw [list_extract, list_extract, list_extract]
  rw [List.drop_take, List.take_take, List.drop_drop]
  congr 1
  omega
theorem fext_size {s : ByteArray} {a b : Nat} (h : b ≤ s.size) : (s.extract a b).size = b - a := by
  rw [ByteArray.size_extract]; omega

/-- The data of the frame that begins at a place, if there is one. -/
def frB (s : ByteArray) (a : Nat) : Bool := decide (a + 8 ≤ s.size ∧ nAt s a ≤ 1000000 ∧ a + 8 + nAt s a ≤ s.size) && (crcT (s.extract (a + 8) (a + 8 + nAt s a)) == nAt s (a + 4))
def frD (s : ByteArray) (a : Nat) : ByteArray := s.extract (a + 8) (a + 8 + nAt s a)
theorem frB_len {s : ByteArray} {a : Nat} (h : frB s a = true) : a + 8 ≤ s.size ∧ nAt s a ≤ 1000000 ∧ a + 8 + nAt s a ≤ s.size := by
  unfold frB at h
  simp only [Bool.and_eq_true, decide_eq_true_eq] at h
  exact h.1
theorem frD_size {s : ByteArray} {a : Nat} (h : frB s a = true) : (frD s a).size = nAt s a := by
  obtain ⟨h1, h2, h3⟩ := frB_len h
  unfold frD
  rw [fext_size h3]
  omega
theorem frB_extract {s : ByteArray} {a : Nat} (ha : a ≤ s.size) : frB (s.extract a s.size) 0 = frB s a := by
  unfold frB
  by_cases h : a + 8 ≤ s.size
  · have e0 : nAt (s.extract a s.size) 0 = nAt s a := nAt_extract (by omega)
    have e1 : nAt (s.extract a s.size) (0 + 4) = nAt s (a + 4) := nAt_extract (by omega)
    rw [e0, e1, fext_size (Nat.le_refl _)]
    by_cases h2 : a + 8 + nAt s a ≤ s.size
    · rw [ext_ext _ _ _ _ _ (by omega), show a + (0 + 8) = a + 8 by omega, show a + (0 + 8 + nAt s a) = a + 8 + nAt s a by omega]
      have e : decide (0 + 8 ≤ s.size - a ∧ nAt s a ≤ 1000000 ∧ 0 + 8 + nAt s a ≤ s.size - a) = decide (a + 8 ≤ s.size ∧ nAt s a ≤ 1000000 ∧ a + 8 + nAt s a ≤ s.size) := by
        rw [decide_eq_decide]
        omega
      rw [e]
    · rw [decide_eq_false (show ¬ (0 + 8 ≤ s.size - a ∧ nAt s a ≤ 1000000 ∧ 0 + 8 + nAt s a ≤ s.size - a) by omega), decide_eq_false (show ¬ (a + 8 ≤ s.size ∧ nAt s a ≤ 1000000 ∧ a + 8 + nAt s a ≤ s.size) by omega), Bool.false_and, Bool.false_and]
  · rw [fext_size (Nat.le_refl _), decide_eq_false (p := 0 + 8 ≤ s.size - a ∧ _) (by omega), decide_eq_false (p := a + 8 ≤ s.size ∧ _) (by omega), Bool.false_and, Bool.false_and]
theorem frD_extract {s : ByteArray} {a : Nat} (h : frB s a = true) : frD (s.extract a s.size) 0 = frD s a := by
  obtain ⟨h1, h2, h3⟩ := frB_len h
  unfold frD
  rw [show nAt (s.extract a s.size) 0 = nAt s a from nAt_extract (by omega), ext_ext _ _ _ _ _ (by omega)]
  rw [show a + (0 + 8) = a + 8 by omega, show a + (0 + 8 + nAt s a) = a + 8 + nAt s a by omega]

/-- What was read from the beginning on, and how far. -/
inductive FRd (s : ByteArray) : List ByteArray → Nat → Prop
  | nil : FRd s [] 0
  | step {xs : List ByteArray} {a : Nat} : FRd s xs a → frB s a = true → FRd s (xs ++ [frD s a]) (a + 8 + nAt s a)
theorem FRd.le {s : ByteArray} {xs : List ByteArray} {a : Nat} (h : FRd s xs a) : a ≤ s.size := by
  induction h with
  | nil => exact Nat.zero_le _
  | step _ hb _ => exact (frB_len hb).2.2
theorem FRd.many {s : ByteArray} {xs : List ByteArray} {a : Nat} (h : FRd s xs a) : xs.length * 8 ≤ a := by
  induction h with
  | nil => exact Nat.le_refl _
  | step _ hb ih => simp; omega
/-- At each length there is one reading, or none. -/
theorem FRd.one {s : ByteArray} {xs : List ByteArray} {a : Nat} (h : FRd s xs a) : ∀ {ys : List ByteArray} {b : Nat}, FRd s ys b → xs.length = ys.length → xs = ys ∧ a = b := by
  induction h with
  | nil =>
    intro ys b h2 hl
    cases h2 with
    | nil => exact ⟨rfl, rfl⟩
    | step h3 hb => simp at hl
  | step h1 hb ih =>
    intro ys b h2 hl
    cases h2 with
    | nil => simp at hl
    | step h3 hb3 =>
      simp at hl
      obtain ⟨rfl, rfl⟩ := ih h3 hl
      exact ⟨rfl, rfl⟩
theorem FRd.prefix {s : ByteArray} {xs : List ByteArray} {a : Nat} (h : FRd s xs a) : ∀ n, n < xs.length → ∃ ys b, FRd s ys b ∧ ys.length = n ∧ frB s b = true ∧ ys = xs.take n := by
  induction h with
  | nil => intro n hn; simp at hn
  | @step xs a h1 hb ih =>
    intro n hn
    simp at hn
    by_cases e : n = xs.length
    · exact ⟨xs, a, h1, e.symm, hb, by rw [e, List.take_left]⟩
    · obtain ⟨ys, b, p1, p2, p3, p4⟩ := ih n (by omega)
      exact ⟨ys, b, p1, p2, p3, by rw [p4, List.take_append_of_le_length (by omega)]⟩
/-- Read to the end there is one reading. -/
theorem FRd.unique {s : ByteArray} {xs ys : List ByteArray} {a b : Nat} (h : FRd s xs a) (ha : frB s a = false) (h2 : FRd s ys b) (hb : frB s b = false) : xs = ys ∧ a = b := by
  have key : ∀ {xs ys : List ByteArray} {a b : Nat}, FRd s xs a → frB s a = false → FRd s ys b → ¬ xs.length < ys.length := by
    intro xs ys a b h ha h2 hl
    obtain ⟨zs, c, p1, p2, p3, _⟩ := h2.prefix _ hl
    obtain ⟨_, rfl⟩ := h.one p1 p2.symm
    rw [ha] at p3
    cases p3
  have h1 := key h ha h2
  have h3 := key h2 hb h
  exact h.one h2 (by omega)
end Go.Proofs.YtjkioadjclfmiaaDoor
