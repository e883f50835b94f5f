import Derived.Test.YthagnaeemipnlaaCvD
import Derived.Test.YthagnaeemipnlaaCvF
namespace Go.Proofs.Ythagnaeemipnlaa
open Go.RowKit

set_option maxHeartbeats 4000000 in
theorem law_FnExactValuesOk (A : Option Addr) (n cap : Nat) (C R K V : Nat → Int) (S : Nat → ByteArray) (w : World) (h : CvRow w A n C R K V S) : Calls Try.prog 5 #[.slice A n cap] w fun e w' =>
    e = .returned (.bool true) ∧ Below w.heap.size w w' := by
  have HR : Hid (CvRow w A n C R K V S) := h
  have HS : Hid (∀ i, i < n → (S i).size ≤ maxLen) := fun i hi => by obtain ⟨_, _, _, _, _, _, _, _, _, hs⟩ := h.2 i hi; exact hs
  clear h
  go_enter Try.func5, Try.ntmps5
  go_wp2_with fail
  refine (laws_szCellValueS _ HR.out).mono ?_
  rintro e u1 ⟨z, rfl, hz, hb⟩
  have K1 : Hid (Below w.heap.size w u1) := hb
  clear hb
  by_cases hneg : z < 0
  · go_wp2_with fail
    go_ret
    exact ⟨rfl, K1.out⟩
  have hn : n ≤ 1048576 := hz (by omega)
  have HN : Hid (n ≤ 1048576) := hn
  clear hn hz
  go_wp2_with fail
  refine (laws_toCellValueS _ (HR.out.below K1.out) HN.out).mono ?_
  rintro e u2 ⟨v, rfl, ho, hb⟩
  obtain ⟨A1, cap1, rfl, _, _⟩ := own_shape ho
  have R1 : Hid (CvRow u2 A1 n C R K V S) := cv_of_own ho HS.out
  have K2 : Hid (Below w.heap.size w u2) := bchain K1.out hb
  clear hb ho
  go_wp2_with fail
  refine (spec_ValuesOk _ R1.out).mono ?_
  rintro e u3 ⟨rfl, hb⟩
  have K3 : Hid (Below w.heap.size w u3) := bchain K2.out hb
  clear hb R1
  go_wp2_with fail
  refine (laws_toCellValueS _ (HR.out.below K3.out) HN.out).mono ?_
  rintro e u4 ⟨v, rfl, ho, hb⟩
  obtain ⟨A2, cap2, rfl, _, _⟩ := own_shape ho
  have R2 : Hid (CvRow u4 A2 n C R K V S) := cv_of_own ho HS.out
  have K4 : Hid (Below w.heap.size w u4) := bchain K3.out hb
  clear hb ho
  go_wp2_with fail
  refine (impl_ValuesOk _ R2.out).mono ?_
  rintro e u5 ⟨rfl, hb⟩
  have K5 : Hid (Below w.heap.size w u5) := bchain K4.out hb
  have R5 : Hid (CvRow u5 A2 n C R K V S) := R2.out.below hb
  clear hb R2
  have hq : (cvOkB C R K V S n != cvOkB C R K V S n) = false := by simp
  go_wp2_with fail
  refine (laws_toCellValueS _ (HR.out.below K5.out) HN.out).mono ?_
  rintro e u6 ⟨v, rfl, ho, hb⟩
  obtain ⟨A3, cap3, rfl, _, _⟩ := own_shape ho
  have R3 : Hid (CvRow u6 A3 n C R K V S) := cv_of_own ho HS.out
  have K6 : Hid (Below w.heap.size w u6) := bchain K5.out hb
  have R6 : Hid (CvRow u6 A2 n C R K V S) := R5.out.below hb
  clear hb ho R5
  go_wp2_with fail
  refine (laws_eqCellValueS _ R6.out R3.out).mono ?_
  rintro e u7 ⟨rfl, hb⟩
  have K7 : Hid (Below w.heap.size w u7) := bchain K6.out hb
  clear hb
  go_wp2_with fail
  go_ret
  exact ⟨rfl, K7.out⟩
end Go.Proofs.Ythagnaeemipnlaa
