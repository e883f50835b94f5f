import Derived.Test.YtljbnbapmjoecaaGreatDoorValsB
import Derived.Test.YtljbnbapmjoecaaGreatDoorValsC
namespace Go.Proofs.YtljbnbapmjoecaaGreatDoor
open Go.RowKit

def emp (s : ByteArray) : Bool := s.toList.isEmpty
theorem emp_yes {s : ByteArray} (h : emp s = true) : s.toList = [] := List.isEmpty_iff.1 h
theorem emp_no {s : ByteArray} (h : emp s = false) : ¬ s.toList = [] := fun e => by rw [emp, e] at h; cases h
theorem emp_of {s : ByteArray} (h : emp s = true) : s = ⟨#[]⟩ := by
  have e := emp_yes h
  rw [ByteArray.toList_eq] at e
  exact ByteArray.ext (Array.toList_eq_nil_iff.1 e)

/-- A right value. -/
def okV (k n : Int) (s : ByteArray) : Bool :=
  if k = 0 then decide (n = 0) && emp s else if k = 1 then rNum n && emp s else if k = 2 then decide (n = 0) && rWord s
  else if k = 3 then rTruth n && emp s else if k = 4 then rFail n && emp s else false
/-- What the program makes of a value. -/
def mOf (k n : Int) (s : ByteArray) : Value := if okV k n s then mBK k n s else mNo

set_option maxHeartbeats 400000 in
theorem impl_meaningOf (k n : Int) (s : ByteArray) (w : World) (hs : s.size ≤ maxLen) : Calls Tryz.prog 74 #[.agg #[.int .i64 k, .int .i64 n, .string s]] w fun e w' =>
    e = .returned (mOf k n s) ∧ Below w.heap.size w w' := by
  by_cases h0 : k = 0
  · subst h0
    by_cases hn : n = 0
    · subst hn
      cases he : emp s
      · rw [show mOf 0 0 s = mNo from by simp [mOf, okV, he]]; exact meaningOf_blank_no s w (emp_no he)
      · rw [show mOf 0 0 s = mBK 0 0 s from by simp [mOf, okV, he]]; exact meaningOf_blank_ok s w (emp_yes he)
    · rw [show mOf 0 n s = mNo from by simp [mOf, okV, hn]]; exact meaningOf_blank_nn n s w (fun e => hn e.symm)
  by_cases h1 : k = 1
  · subst h1
    cases hr : rNum n
    · rw [show mOf 1 n s = mNo from by simp [mOf, okV, hr]]; exact meaningOf_number_nr n s w hr
    · cases he : emp s
      · rw [show mOf 1 n s = mNo from by simp [mOf, okV, he]]; exact meaningOf_number_no n s w hr (emp_no he)
      · rw [show mOf 1 n s = mBK 1 n s from by simp [mOf, okV, he, hr]]; exact meaningOf_number_ok n s w hr (emp_yes he)
  by_cases h2 : k = 2
  · subst h2
    cases hr : rWord s
    · rw [show mOf 2 n s = mNo from by simp [mOf, okV, hr]]; exact meaningOf_wording_nr n s w hs hr
    · by_cases hn : n = 0
      · subst hn
        rw [show mOf 2 0 s = mBK 2 0 s from by simp [mOf, okV, hr]]; exact meaningOf_wording_ok s w hs hr
      · rw [show mOf 2 n s = mNo from by simp [mOf, okV, hn]]; exact meaningOf_wording_no n s w hs hr (fun e => hn e.symm)
  by_cases h3 : k = 3
  · subst h3
    cases hr : rTruth n
    · rw [show mOf 3 n s = mNo from by simp [mOf, okV, hr]]; exact meaningOf_truth_nr n s w hr
    · cases he : emp s
      · rw [show mOf 3 n s = mNo from by simp [mOf, okV, he]]; exact meaningOf_truth_no n s w hr (emp_no he)
      · rw [show mOf 3 n s = mBK 3 n s from by simp [mOf, okV, he, hr]]; exact meaningOf_truth_ok n s w hr (emp_yes he)
  by_cases h4 : k = 4
  · subst h4
    cases hr : rFail n
    · rw [show mOf 4 n s = mNo from by simp [mOf, okV, hr]]; exact meaningOf_failure_nr n s w hr
    · cases he : emp s
      · rw [show mOf 4 n s = mNo from by simp [mOf, okV, he]]; exact meaningOf_failure_no n s w hr (emp_no he)
      · rw [show mOf 4 n s = mBK 4 n s from by simp [mOf, okV, he, hr]]; exact meaningOf_failure_ok n s w hr (emp_yes he)
  · rw [show mOf k n s = mNo from by simp [mOf, okV, h0, h1, h2, h3, h4]]
    exact meaningOf_misfit_nr k n s w (show mBK k n s = _ by simp [mBK, h0, h1, h2, h3, h4])

theorem mOf_cases (k n : Int) (s : ByteArray) :
    (okV k n s = false ∧ mOf k n s = .iface 143 (.agg #[])) ∨
    (okV k n s = true ∧ k = 0 ∧ n = 0 ∧ s = ⟨#[]⟩ ∧ mOf k n s = .iface 138 (.agg #[])) ∨
    (okV k n s = true ∧ k = 1 ∧ rNum n = true ∧ s = ⟨#[]⟩ ∧ mOf k n s = .iface 142 (.int .i64 n)) ∨
    (okV k n s = true ∧ k = 2 ∧ n = 0 ∧ rWord s = true ∧ mOf k n s = .iface 134 (.string s)) ∨
    (okV k n s = true ∧ k = 3 ∧ rTruth n = true ∧ s = ⟨#[]⟩ ∧ mOf k n s = .iface 139 (.int .i64 n)) ∨
    (okV k n s = true ∧ k = 4 ∧ rFail n = true ∧ s = ⟨#[]⟩ ∧ mOf k n s = .iface 140 (.int .i64 n)) := by
  cases ho : okV k n s
  · exact .inl ⟨rfl, by simp [mOf, ho, mNo]⟩
  · right
    have hm : mOf k n s = mBK k n s := by simp [mOf, ho]
    rw [hm]
    unfold okV at ho
    split at ho
    · rename_i h; subst h; simp only [Bool.and_eq_true, decide_eq_true_eq] at ho; exact .inl ⟨rfl, rfl, ho.1, emp_of ho.2, rfl⟩
    split at ho
    · rename_i h; subst h; simp only [Bool.and_eq_true] at ho; exact .inr (.inl ⟨rfl, rfl, ho.1, emp_of ho.2, rfl⟩)
    split at ho
    · rename_i h; subst h; simp only [Bool.and_eq_true, decide_eq_true_eq] at ho; exact .inr (.inr (.inl ⟨rfl, rfl, ho.1, ho.2, rfl⟩))
    split at ho
    · rename_i h; subst h; simp only [Bool.and_eq_true] at ho; exact .inr (.inr (.inr (.inl ⟨rfl, rfl, ho.1, emp_of ho.2, rfl⟩)))
    split at ho
    · rename_i h; subst h; simp only [Bool.and_eq_true] at ho; exact .inr (.inr (.inr (.inr ⟨rfl, rfl, ho.1, emp_of ho.2, rfl⟩)))
    · cases ho
end Go.Proofs.YtljbnbapmjoecaaGreatDoor
