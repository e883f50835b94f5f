import Derived.Test.YthdclafkcondmaaGreatDoorPpA
import Derived.Test.YthdclafkcondmaaGreatDoorPlaceS
import Derived.Test.YthdclafkcondmaaGreatDoorGbd
import Derived.Test.YthdclafkcondmaaGreatDoorGat
import Derived.Test.YthdclafkcondmaaGreatDoorGao
set_option linter.unusedSimpArgs false
set_option linter.unusedVariables false
namespace Go.Proofs.YthdclafkcondmaaGreatDoor
open Go.RowKit
/-! ### Pieces at the head of a text -/
theorem sb_at {b : UInt8} {l : List UInt8} (h : b ≠ 32) : sb (b :: l) = b :: l := by
  unfold sb
  rw [List.dropWhile_cons, if_neg (by simpa using h)]
theorem isW_32 {b : UInt8} (h : isW b = true) : b ≠ 32 := fun e => by subst e; revert h; decide
theorem tw_all {w l : List UInt8} (ha : ∀ b ∈ w, isW b = true) (hs : ∀ b, l.head? = some b → isW b = false) : (w ++ l).takeWhile isW = w ∧ (w ++ l).dropWhile isW = l := by
  induction w with
  | nil =>
    cases l with
    | nil => exact ⟨rfl, rfl⟩
    | cons b t =>
      have := hs b rfl
      simp [List.takeWhile, List.dropWhile, this]
  | cons a w ih =>
    have h1 := ha a (by simp)
    obtain ⟨i1, i2⟩ := ih (fun b hb => ha b (by simp [hb]))
    rw [List.cons_append, List.takeWhile_cons, if_pos h1, List.dropWhile_cons, if_pos h1, i1, i2]
    exact ⟨rfl, rfl⟩
theorem pk_wd {w l : List UInt8} (hw : w ≠ []) (ha : ∀ b ∈ w, isW b = true) (hs : ∀ b, l.head? = some b → isW b = false) : pk (w ++ l) = w ∧ nx (w ++ l) = l := by
  cases w with
  | nil => exact absurd rfl hw
  | cons a w =>
    have h1 := ha a (by simp)
    have hsb : sb (a :: w ++ l) = a :: w ++ l := sb_at (isW_32 h1)
    obtain ⟨e1, e2, _⟩ := pk_word (l := a :: w ++ l) (t := w ++ l) (c := a) hsb h1
    obtain ⟨t1, t2⟩ := tw_all (w := a :: w) ha hs
    rw [e1, e2, hsb, t1, t2]
    exact ⟨rfl, rfl⟩
theorem pk_sign {c : UInt8} {l : List UInt8} (hc : c = 40 ∨ c = 41 ∨ c = 44 ∨ c = 58 ∨ c = 45) : pk (c :: l) = [c] ∧ nx (c :: l) = l := pk_one (sb_at (by rcases hc with e | e | e | e | e <;> (rw [e]; decide))) hc
/-- What a formula's text begins with. -/
def Beg (b : UInt8) : Prop := isW b = true ∨ b = 40 ∨ b = 45 ∨ b = 34 ∨ b = 35
theorem beg_ne {b : UInt8} (h : Beg b) : b ≠ 32 ∧ b ≠ 61 ∧ b ≠ 62 ∧ b ≠ 58 ∧ b ≠ 41 ∧ b ≠ 44 := by
  rcases h with h | h | h | h | h
  · refine ⟨?_, ?_, ?_, ?_, ?_, ?_⟩ <;> (intro e; subst e; revert h; decide)
  all_goals (subst h; decide)
theorem op_begins (o : Int) (h1 : 1 ≤ o) (h2 : o ≤ 11) {b : UInt8} {r : List UInt8} (hb : Beg b) : opAt (sgT o ++ b :: r) = o ∧ sb (sgT o ++ b :: r) = sgT o ++ b :: r := by
  obtain ⟨_, n1, n2, _⟩ := beg_ne hb
  have hn : o = 1 ∨ o = 2 ∨ o = 3 ∨ o = 4 ∨ o = 5 ∨ o = 6 ∨ o = 7 ∨ o = 8 ∨ o = 9 ∨ o = 10 ∨ o = 11 := by omega
  rcases hn with rfl | rfl | rfl | rfl | rfl | rfl | rfl | rfl | rfl | rfl | rfl
  all_goals
    refine ⟨?_, ?_⟩
    · simp [sgT, opAt, n1, n2]
    · simp only [sgT]
      exact sb_at (by decide)
theorem pk_op (o : Int) (h1 : 1 ≤ o) (h2 : o ≤ 11) {b : UInt8} {r : List UInt8} (hb : Beg b) : pk (sgT o ++ b :: r) = sgT o ∧ nx (sgT o ++ b :: r) = b :: r := by
  obtain ⟨e1, e2⟩ := op_begins o h1 h2 hb (r := r)
  obtain ⟨p1, p2⟩ := op_pk (l := sgT o ++ b :: r) (by rw [e2, e1]; omega)
  rw [e2, e1] at p1 p2
  exact ⟨p1, (List.append_cancel_left p2).symm⟩
theorem sep_op (o : Int) (h1 : 1 ≤ o) (h2 : o ≤ 11) (r : List UInt8) : Sep (sgT o ++ r) := by
  have hn : o = 1 ∨ o = 2 ∨ o = 3 ∨ o = 4 ∨ o = 5 ∨ o = 6 ∨ o = 7 ∨ o = 8 ∨ o = 9 ∨ o = 10 ∨ o = 11 := by omega
  intro b hb
  rcases hn with rfl | rfl | rfl | rfl | rfl | rfl | rfl | rfl | rfl | rfl | rfl
  all_goals
    simp only [sgT] at hb
    have e := Option.some.inj hb
    rw [← e]
    decide
theorem sep_sign {c : UInt8} (hc : c = 41 ∨ c = 44) (l : List UInt8) : Sep (c :: l) := by
  intro b hb
  have e := Option.some.inj hb
  rw [← e]
  rcases hc with rfl | rfl <;> decide
theorem sep_nil : Sep [] := fun b hb => by cases hb
theorem Sep.w {l : List UInt8} (h : Sep l) : ∀ b, l.head? = some b → isW b = false := fun b hb => (h b hb).1
theorem Sep.q {l : List UInt8} (h : Sep l) : l.head? ≠ some 34 := fun e => (h 34 e).2.1 rfl
/-! ### Leaves: places -/
theorem letter_W {b : UInt8} (h : isL b = true) : isW b = true := by
  unfold isW
  unfold isL at h
  rw [h]
  rfl
theorem ref_bc {c v : Int} (h : refOkB c v = true) : 1 ≤ c ∧ c ≤ 52 := by
  simp only [refOkB, decide_eq_true_eq] at h
  omega
theorem plOk_ref {c r : Int} (h : refOkB c r = true) : plOk c (some r) = true := by
  unfold plOk
  simpa using h
theorem dec_W : ∀ i, i < 100 → (decS i).data.toList.all isW = true := by decide +kernel
theorem plT_W {c r : Int} {x y : Bool} (h : refOkB c r = true) : (∀ b ∈ plT c r x y, isW b = true) ∧ plT c r x y ≠ [] := by
  have hb := ref_bd h
  have hc := ref_bc h
  unfold plT
  rw [placeT_L]
  obtain ⟨l1, l2⟩ := col_letters c hc.1 hc.2
  have hf : ∀ x : Bool, ∀ b ∈ fxL x, isW b = true := by decide
  refine ⟨fun b hb2 => ?_, ?_⟩
  · rcases List.mem_append.1 hb2 with hb2 | hb2
    · rcases List.mem_append.1 hb2 with hb2 | hb2
      · rcases List.mem_append.1 hb2 with hb2 | hb2
        · exact hf x b hb2
        · exact letter_W (l1 b hb2)
      · exact hf y b hb2
    · exact List.all_eq_true.1 (dec_W r.toNat (by omega)) b hb2
  · intro e
    rw [List.append_eq_nil_iff, List.append_eq_nil_iff, List.append_eq_nil_iff] at e
    exact l2 e.1.1.2
theorem plT_rp {c r : Int} {x y : Bool} (h : refOkB c r = true) : rpL (plT c r x y) = some (c, r, x, y) := by
  have hb := ref_bd h
  have hc := ref_bc h
  obtain ⟨h1, h2, h3, h4⟩ := rt_fwd c r.toNat x y hc (by omega)
  have e : bs (plT c r x y) = placeT c r.toNat x y := rfl
  have er : ((r.toNat : Nat) : Int) = r := by omega
  unfold rpL
  rw [e, h1, h2, h3, h4, er]
  have ho : plOk c (some r) = true := plOk_ref h
  rw [if_pos ho]
  rfl
theorem fn_none {w : List UInt8} (h : rpL w ≠ none ∨ rvL w ≠ none) : fnOf w = 0 := by
  by_cases hf : fnOf w = 0
  · exact hf
  · exfalso
    obtain ⟨n, h1, h2, e⟩ := fnOf_back hf
    have h9 := one_fns ⟨n - 1, by omega⟩
    simp only [show ((n - 1 : Nat) : Int) + 1 = (n : Int) by omega] at h9
    rw [← e] at h
    rcases h with h | h
    · exact h h9.2
    · exact h h9.1
end Go.Proofs.YthdclafkcondmaaGreatDoor
