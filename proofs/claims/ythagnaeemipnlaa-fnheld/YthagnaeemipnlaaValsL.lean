import Derived.Test.YthagnaeemipnlaaValsJ
import Derived.Deep.RegionHeld3
namespace Go.Proofs.Ythagnaeemipnlaa
open Go.RowKit

def overE (e y : Int) : Int := if e = 0 then (if y = 0 then 1 else 0) else e
theorem tdiv_bd (x y : Int) (h1 : -1000000000000000 ≤ x) (h2 : x ≤ 1000000000000000) : -1000000000000000 ≤ x.tdiv y ∧ x.tdiv y ≤ 1000000000000000 := by
  have h3 : (x.tdiv y).natAbs ≤ x.natAbs := by rw [Int.natAbs_tdiv]; exact Nat.div_le_self _ _
  generalize x.tdiv y = q at *
  omega

theorem num0 : numE 1 0 ⟨#[]⟩ = 0 ∧ numX 1 0 ⟨#[]⟩ = 0 := by
  have h : okV 1 0 ⟨#[]⟩ = true := by decide +kernel
  simp [numE, numX, h]
theorem two0 (k n : Int) (s : ByteArray) : twoE 1 0 ⟨#[]⟩ k n s = numE k n s ∧ twoX 1 0 ⟨#[]⟩ k n s = 0 ∧ twoY 1 0 ⟨#[]⟩ k n s = numX k n s := by
  simp [twoE, twoX, twoY, num0.1, num0.2]

end Go.Proofs.Ythagnaeemipnlaa
