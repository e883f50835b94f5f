import Derived.Test.YtjkioadjclfmiaaDoorFrD
namespace Go.Proofs.YtjkioadjclfmiaaDoor
open Go.RowKit

/-! ### Frames one behind the other, and read again -/
def framesOf (xs : List ByteArray) : ByteArray := xs.foldl (fun a d => a ++ frameT d) ⟨#[]⟩
theorem framesOf_snoc (xs : List ByteArray) (d : ByteArray) : framesOf (xs ++ [d]) = framesOf xs ++ frameT d := by simp [framesOf]
theorem framesOf_take {xs : List ByteArray} {i : Nat} (h : i < xs.length) : framesOf (xs.take (i + 1)) = framesOf (xs.take i) ++ frameT xs[i] := by
  rw [List.take_succ_eq_append_getElem h, framesOf_snoc]
theorem ba_ext {a b : ByteArray} (h : a.data.toList = b.data.toList) : a = b := ByteArray.ext (Array.toList_inj.1 h)
theorem list_append (a b : ByteArray) : (a ++ b).data.toList = a.data.toList ++ b.data.toList := by
  rw [ByteArray.data_append, Array.toList_append]
theorem list_len (a : ByteArray) : a.data.toList.length = a.size := by simp
theorem ext_join (s : ByteArray) {a b c : Nat} (h1 : a ≤ b) (h2 : b ≤ c) : s.extract a b ++ s.extract b c = s.extract a c := by
  apply ba_ext
  rw [list_append, list_extract, list_extract, list_extract]
  have e : s.data.toList.drop b = (s.data.toList.drop a).drop (b - a) := by rw [List.drop_drop]; congr 1; omega
  rw [e, show c - a = (b - a) + (c - b) by omega, List.take_add]
theorem ext_none (s : ByteArray) (a : Nat) : s.extract a a = ⟨#[]⟩ := by
  apply ba_ext
  rw [list_extract]
  simp
theorem frame_extract {s : ByteArray} {a : Nat} (h : frB s a = true) : frameT (frD s a) = s.extract a (a + 8 + nAt s a) := by
  obtain ⟨h1, h2, h3⟩ := frB_len h
  have hz := frD_size h
  have hc : crcT (frD s a) = nAt s (a + 4) := by
    unfold frB at h
    simp only [Bool.and_eq_true] at h
    exact eq_of_beq h.2
  unfold frameT
  rw [if_neg (by omega), hz, hc, ← four_nAt (s := s) (a := a) (b := a + 4) rfl (by omega), ← four_nAt (s := s) (a := a + 4) (b := a + 8) rfl (by omega), ext_join s (by omega) (by omega)]
  unfold frD
  exact ext_join s (by omega) (by omega)
theorem FRd.frames {s : ByteArray} {xs : List ByteArray} {a : Nat} (h : FRd s xs a) : framesOf xs = s.extract 0 a := by
  induction h with
  | nil => exact (ext_none s 0).symm
  | step h1 hb ih => rw [framesOf_snoc, ih, frame_extract hb, ext_join s (Nat.zero_le _) (by omega)]

theorem FRd.sizes {s : ByteArray} {xs : List ByteArray} {a : Nat} (h : FRd s xs a) : ∀ t (ht : t < xs.length), (framesOf (xs.take t)).size + 8 + xs[t].size ≤ a := by
  induction h with
  | nil => intro t ht; simp at ht
  | @step xs a h1 hb ih =>
    intro t ht
    have hz := frD_size hb
    by_cases e : t < xs.length
    · have := ih t e
      rw [List.take_append_of_le_length (by omega), List.getElem_append_left e]
      omega
    · have e2 : t = xs.length := by simp at ht; omega
      subst e2
      rw [List.take_left, h1.frames, fext_size h1.le]
      simp
      omega
/-! ### Texts that begin alike -/
theorem alike_ext {s t : ByteArray} {m p q : Nat} (e : s.extract 0 m = t.extract 0 m) (h : q ≤ m) : s.extract p q = t.extract p q := by
  have h1 := ext_ext s 0 m p q (by omega)
  have h2 := ext_ext t 0 m p q (by omega)
  rw [Nat.zero_add, Nat.zero_add] at h1 h2
  rw [← h1, ← h2, e]
theorem alike_nAt {s t : ByteArray} {m i : Nat} (e : s.extract 0 m = t.extract 0 m) (h : i + 4 ≤ m) : nAt s i = nAt t i := by
  have h1 := nAt_extract (s := s) (a := 0) (b := m) (i := i) (by omega)
  have h2 := nAt_extract (s := t) (a := 0) (b := m) (i := i) (by omega)
  rw [Nat.zero_add] at h1 h2
  rw [← h1, ← h2, e]
theorem alike_fr {s t : ByteArray} {m a : Nat} (e : s.extract 0 m = t.extract 0 m) (ht : m ≤ t.size) (h : a + 8 + nAt s a ≤ m) (hf : frB s a = true) : frB t a = true ∧ nAt t a = nAt s a ∧ frD t a = frD s a := by
  have e1 := alike_nAt (i := a) e (by omega)
  have e2 := alike_nAt (i := a + 4) e (by omega)
  have e3 := alike_ext (p := a + 8) (q := a + 8 + nAt s a) e h
  obtain ⟨h1, h2, h3⟩ := frB_len hf
  refine ⟨?_, e1.symm, ?_⟩
  · unfold frB at hf ⊢
    simp only [Bool.and_eq_true] at hf
    rw [← e1, ← e2, ← e3, hf.2, decide_eq_true (show a + 8 ≤ t.size ∧ nAt s a ≤ 1000000 ∧ a + 8 + nAt s a ≤ t.size by omega)]
    rfl
  · unfold frD
    rw [← e1, ← e3]
theorem FRd.alike {s t : ByteArray} {m : Nat} (e : s.extract 0 m = t.extract 0 m) (ht : m ≤ t.size) {xs : List ByteArray} {a : Nat} (h : FRd s xs a) : a ≤ m → FRd t xs a := by
  induction h with
  | nil => intro _; exact .nil
  | step h1 hb ih =>
    intro hm
    obtain ⟨f1, f2, f3⟩ := alike_fr e ht hm hb
    have := FRd.step (ih (by omega)) f1
    rw [f2, f3] at this
    exact this
theorem frB_end (s : ByteArray) : frB s s.size = false := by
  unfold frB
  rw [decide_eq_false (p := s.size + 8 ≤ s.size ∧ _) (by omega), Bool.false_and]
theorem app_left (x y : ByteArray) : (x ++ y).extract 0 x.size = x := by
  apply ba_ext
  rw [list_extract, list_append, List.drop_zero, Nat.sub_zero, ← list_len x, List.take_left]
theorem app_right (x y : ByteArray) (k l : Nat) : (x ++ y).extract (x.size + k) (x.size + l) = y.extract k l := by
  apply ba_ext
  rw [list_extract, list_extract, list_append, ← list_len x, ← List.drop_drop, List.drop_left]
  congr 1
  omega
/-- A frame put behind a text is read there. -/
theorem framed (x t : ByteArray) (ht : t.size ≤ 1000000) : frB (x ++ frameT t) x.size = true ∧ nAt (x ++ frameT t) x.size = t.size ∧ frD (x ++ frameT t) x.size = t := by
  have hF : frameT t = four t.size ++ four (crcT t) ++ t := by unfold frameT; rw [if_neg (by omega)]
  have hz : (frameT t).size = t.size + 8 := by rw [hF, ByteArray.size_append, ByteArray.size_append, four_size, four_size]; omega
  have hzz : (x ++ frameT t).size = x.size + (t.size + 8) := by rw [ByteArray.size_append, hz]
  have p1 : (frameT t).extract 0 4 = four t.size := by
    rw [hF, ByteArray.append_assoc]
    exact app_left (four t.size) _
  have p2 : (frameT t).extract 4 8 = four (crcT t) := by
    rw [hF, ByteArray.append_assoc]
    have := app_right (four t.size) (four (crcT t) ++ t) 0 4
    rw [four_size] at this
    rw [show (8 : Nat) = 4 + 4 from rfl, show (4 : Nat) = 4 + 0 from rfl]
    refine this.trans ?_
    exact app_left (four (crcT t)) t
  have p3 : (frameT t).extract 8 (8 + t.size) = t := by
    rw [hF]
    have := app_right (four t.size ++ four (crcT t)) t 0 t.size
    rw [ByteArray.size_append, four_size, four_size] at this
    refine this.trans ?_
    exact extract_all t
  have e1 : nAt (x ++ frameT t) x.size = t.size := by
    apply four_num (nAt_lt _ _) (by omega)
    rw [← four_nAt (b := x.size + 4) rfl (by omega)]
    have := app_right x (frameT t) 0 4
    rw [Nat.add_zero] at this
    rw [this, p1]
  have e2 : nAt (x ++ frameT t) (x.size + 4) = crcT t := by
    apply four_num (nAt_lt _ _) (crcT_lt t)
    rw [← four_nAt (b := x.size + 8) rfl (by omega), app_right, p2]
  have e3 : (x ++ frameT t).extract (x.size + 8) (x.size + 8 + t.size) = t := by
    rw [Nat.add_assoc, app_right, p3]
  refine ⟨?_, e1, ?_⟩
  · unfold frB
    rw [e1, e2, e3, decide_eq_true (show x.size + 8 ≤ (x ++ frameT t).size ∧ t.size ≤ 1000000 ∧ x.size + 8 + t.size ≤ (x ++ frameT t).size by omega), beq_self_eq_true]
    rfl
  · unfold frD
    rw [e1, e3]
/-- What was read, put together again with a frame more, is read as that. -/
theorem FRd.more {s : ByteArray} {xs : List ByteArray} {a : Nat} (h : FRd s xs a) (t : ByteArray) (ht : t.size ≤ 1000000) : FRd (s.extract 0 a ++ frameT t) (xs ++ [t]) (a + 8 + t.size) ∧ (s.extract 0 a ++ frameT t).size = a + 8 + t.size := by
  have hz : (s.extract 0 a).size = a := by rw [fext_size h.le]; omega
  have hF : (frameT t).size = t.size + 8 := by unfold frameT; rw [if_neg (by omega), ByteArray.size_append, ByteArray.size_append, four_size, four_size]; omega
  obtain ⟨f1, f2, f3⟩ := framed (s.extract 0 a) t ht
  rw [hz] at f1 f2 f3
  have e : s.extract 0 a = (s.extract 0 a ++ frameT t).extract 0 a := by
    have := app_left (s.extract 0 a) (frameT t)
    rw [hz] at this
    exact this.symm
  have h2 := FRd.alike (m := a) e (by rw [ByteArray.size_append]; omega) h (Nat.le_refl _)
  have h3 := FRd.step h2 f1
  rw [f2, f3] at h3
  exact ⟨h3, by rw [ByteArray.size_append, hz, hF]; omega⟩
/-- Of frames that are cut the first few come back. -/
theorem FRd.few {s : ByteArray} {xs : List ByteArray} {a : Nat} (h : FRd s xs a) {k : Nat} (hk : k ≤ a) {ys : List ByteArray} {b : Nat} (h2 : FRd ((s.extract 0 a).extract 0 k) ys b) : ys.length ≤ xs.length ∧ ys = xs.take ys.length := by
  have hz : (s.extract 0 a).size = a := by rw [fext_size h.le]; omega
  have hall : FRd (s.extract 0 a) xs a := h.alike (m := a) (by rw [ext_ext _ _ _ _ _ (by omega), Nat.zero_add, Nat.zero_add]) (by omega) (Nat.le_refl _)
  have hend : frB (s.extract 0 a) a = false := by have := frB_end (s.extract 0 a); rw [hz] at this; exact this
  have hkz : ((s.extract 0 a).extract 0 k).size = k := by rw [fext_size (by omega)]; omega
  have hys : FRd (s.extract 0 a) ys b := h2.alike (m := k) (by rw [ext_ext _ _ _ _ _ (by omega), Nat.zero_add, Nat.zero_add]) (by omega) (by have := h2.le; omega)
  have hlen : ys.length ≤ xs.length := by
    apply Nat.le_of_not_lt
    intro hl
    obtain ⟨zs, c, p1, p2, p3, _⟩ := hys.prefix _ hl
    obtain ⟨_, rfl⟩ := hall.one p1 p2.symm
    rw [hend] at p3
    cases p3
  refine ⟨hlen, ?_⟩
  by_cases e : ys.length = xs.length
  · rw [e, List.take_length]
    exact (hys.one hall e).1
  · obtain ⟨zs, c, p1, p2, _, p4⟩ := hall.prefix ys.length (by omega)
    rw [← p4]
    exact (hys.one p1 p2.symm).1
end Go.Proofs.YtjkioadjclfmiaaDoor
