import Derived.Test.YthagnaeemipnlaaValsI
import Derived.Deep.RegionWith
namespace Go.Proofs.Ythagnaeemipnlaa
open Go.RowKit

theorem over_iff (p q : Int) (hq : 0 < q) : 1000000000000000 / q < p ↔ 1000000000000000 < p * q := Int.ediv_lt_iff_lt_mul hq
theorem abs_mul (x y : Int) : ((x * y).natAbs : Int) = (x.natAbs : Int) * (y.natAbs : Int) := by rw [Int.natAbs_mul]; simp
theorem neg_quo (y : Int) (h : y < 0) : wrap64 (-(Int.tdiv 1000000000000000 y)) = 1000000000000000 / (-y) := by
  have e : -(Int.tdiv 1000000000000000 y) = 1000000000000000 / (-y) := by
    rw [← Int.tdiv_neg, Int.tdiv_eq_ediv_of_nonneg (by omega)]
  rw [e]
  have h1 : 0 ≤ 1000000000000000 / (-y) := Int.ediv_nonneg (by omega) (by omega)
  have h2 : 1000000000000000 / (-y) ≤ 1000000000000000 := Int.ediv_le_self _ (by omega)
  generalize 1000000000000000 / (-y) = z at *
  unfold wrap64
  omega
theorem rNum_abs (z : Int) : rNum z = decide ((z.natAbs : Int) ≤ 1000000000000000) := by
  unfold rNum; rw [Bool.eq_iff_iff]; simp; omega

end Go.Proofs.Ythagnaeemipnlaa
