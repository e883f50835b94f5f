import Derived.Test.YtjcicndioddcmaaDoorPlaceI
namespace Go.Proofs.YtjcicndioddcmaaDoor
open Go.RowKit

theorem hasD_at (s : ByteArray) (h : 0 < s.size) : hasD s = (s[0] == 36) := by rw [hasD, dif_pos h]
theorem cut_yes {s : ByteArray} (h : hasD s = true) : cutD s = s.extract 1 s.size := by rw [cutD, h]; rfl
theorem cut_no {s : ByteArray} (h : hasD s = false) : cutD s = s := by rw [cutD, h]; rfl
/-- What the test 'is there a sign of what is fixed' says, as the walk asks it. -/
theorem hasD_cases (s : ByteArray) : (s.size = 0 ∧ hasD s = false) ∨ (∃ h : 0 < s.size, hasD s = false ∧ ¬ ((s[0]'h).toNat : Int) = 36) ∨ (∃ h : 0 < s.size, hasD s = true ∧ ((s[0]'h).toNat : Int) = 36) := by
  by_cases h : 0 < s.size
  · right
    have e := hasD_at s h
    by_cases hq : s[0] = 36
    · right
      refine ⟨h, by rw [e, hq]; rfl, by rw [hq]; rfl⟩
    · left
      refine ⟨h, by rw [e]; simpa using hq, fun hh => hq ?_⟩
      apply UInt8.toNat_inj.1
      show s[0].toNat = 36
      omega
  · left
    exact ⟨by omega, by rw [hasD, dif_neg h]⟩
end Go.Proofs.YtjcicndioddcmaaDoor
