import Derived.Test.YthagnaeemipnlaaValsH0
namespace Go.Proofs.Ythagnaeemipnlaa
open Go.RowKit

def twoE (k n : Int) (s : ByteArray) (k' n' : Int) (s' : ByteArray) : Int := if numE k n s = 0 then numE k' n' s' else numE k n s
def twoX (k n : Int) (s : ByteArray) (_k' _n' : Int) (_s' : ByteArray) : Int := if numE k n s = 0 then numX k n s else 0
def twoY (k n : Int) (s : ByteArray) (k' n' : Int) (s' : ByteArray) : Int := if numE k n s = 0 then numX k' n' s' else 0
def opK (e x : Int) : Int := if e = 0 then intK x else 4
def opN (e x : Int) : Int := if e = 0 then intN x else e

theorem rNum_bd {n : Int} (h : rNum n = true) : -1000000000000000 ≤ n ∧ n ≤ 1000000000000000 := of_decide_eq_true h
theorem rNum_mk {n : Int} (h : -1000000000000000 ≤ n) (h' : n ≤ 1000000000000000) : rNum n = true := decide_eq_true ⟨h, h'⟩
theorem numX_bd (k n : Int) (s : ByteArray) : -1000000000000000 ≤ numX k n s ∧ numX k n s ≤ 1000000000000000 := by
  rcases mOf_cases k n s with ⟨ho, _⟩ | ⟨ho, rfl, rfl, rfl, _⟩ | ⟨ho, rfl, hr, rfl, _⟩ | ⟨ho, rfl, rfl, hr, _⟩ | ⟨ho, rfl, hr, rfl, _⟩ | ⟨ho, rfl, hr, rfl, _⟩
  · simp [numX, ho]
  · simp [numX]
  · simp only [numX, ho, if_true]; exact rNum_bd hr
  · simp [numX]
  · simp [numX]
  · simp [numX]
theorem twoX_bd (k n : Int) (s : ByteArray) (k' n' : Int) (s' : ByteArray) : -1000000000000000 ≤ twoX k n s k' n' s' ∧ twoX k n s k' n' s' ≤ 1000000000000000 := by
  unfold twoX; split
  · exact numX_bd _ _ _
  · omega
theorem twoY_bd (k n : Int) (s : ByteArray) (k' n' : Int) (s' : ByteArray) : -1000000000000000 ≤ twoY k n s k' n' s' ∧ twoY k n s k' n' s' ≤ 1000000000000000 := by
  unfold twoY; split
  · exact numX_bd _ _ _
  · omega

end Go.Proofs.Ythagnaeemipnlaa
