import Derived.Test.YtljbnbapmjoecaaGreatDoorTxU
namespace Go.Proofs.YtljbnbapmjoecaaGreatDoor
open Go.RowKit
set_option linter.unusedSimpArgs false
set_option linter.unusedVariables false

set_option maxHeartbeats 4000000 in
theorem law_FnExactFormulaText (A : Option Addr) (n cap : Nat) (F : Nat → FN) (w : World) (h : FnRow w A n F) (hg : GT w) : Calls Tryz.prog 8 #[.slice A n cap] w fun e w' =>
    e = .returned (.bool true) ∧ Below w.heap.size w w' := by
  have HR : Hid (FnRow w A n F) := h
  have HG : Hid (GT w) := hg
  have HS : Hid (∀ i, i < n → (F i).cs.size ≤ maxLen) := fun i hi => by obtain ⟨_, _, _, _, _, _, _, _, hs⟩ := h.2 i hi; exact hs
  clear h hg
  go_enter Tryz.func8, Tryz.ntmps8
  go_wp2_with fail
  refine (laws_szFNodeS _ HR.out).mono ?_
  rintro e u1 ⟨z, rfl, hz, hb⟩
  have K1 : Hid (Below w.heap.size w u1) := hb
  clear hb
  by_cases hneg : z < 0
  · go_wp2_with fail
    go_ret
    exact ⟨rfl, K1.out⟩
  have HN : Hid (n ≤ 1048576 ∧ ∀ i, i < n → (F i).kids.length ≤ 1048576) := hz (by omega)
  clear hz
  go_wp2_with fail
  refine (laws_toFNodeS _ (HR.out.below K1.out) HN.out.1 HN.out.2).mono ?_
  rintro e u2 ⟨ys, rfl, ho, hp, hb⟩
  have R1 : Hid (FnRow u2 (some ⟨u1.heap.size, 0, none⟩) n F) := fn_of_own ho hp HS.out
  have K2 : Hid (Below w.heap.size w u2) := bchain K1.out hb
  clear hb ho hp
  go_wp2_with fail
  refine (spec_FormulaText _ R1.out HN.out.1 HN.out.2).mono ?_
  rintro e u3 ⟨rfl, hb⟩
  have K3 : Hid (Below w.heap.size w u3) := bchain K2.out hb
  obtain ⟨t, HT⟩ : ∃ t, Hid (ftx F n = t) := ⟨_, rfl⟩
  rw [HT.out]
  clear hb R1
  go_wp2_with fail
  refine (laws_toFNodeS _ (HR.out.below K3.out) HN.out.1 HN.out.2).mono ?_
  rintro e u4 ⟨ys', rfl, ho, hp, hb⟩
  have R2 : Hid (FnRow u4 (some ⟨u3.heap.size, 0, none⟩) n F) := fn_of_own ho hp HS.out
  have K4 : Hid (Below w.heap.size w u4) := bchain K3.out hb
  clear hb ho hp
  go_wp2_with fail
  refine (impl_FormulaText _ R2.out HN.out.1 HN.out.2 (HG.out.below K4.out)).mono ?_
  rintro e u5 ⟨rfl, hb⟩
  rw [HT.out]
  have K5 : Hid (Below w.heap.size w u5) := bchain K4.out hb
  have R5 : Hid (FnRow u5 (some ⟨u3.heap.size, 0, none⟩) n F) := R2.out.below hb
  clear hb R2
  go_wp2_with fail
  refine (laws_toFNodeS _ (HR.out.below K5.out) HN.out.1 HN.out.2).mono ?_
  rintro e u6 ⟨ys'', rfl, ho, hp, hb⟩
  have R3 : Hid (FnRow u6 (some ⟨u5.heap.size, 0, none⟩) n F) := fn_of_own ho hp HS.out
  have R6 : Hid (FnRow u6 (some ⟨u3.heap.size, 0, none⟩) n F) := R5.out.below hb
  have K6 : Hid (Below w.heap.size w u6) := bchain K5.out hb
  clear hb ho hp
  go_wp2_with fail
  refine (laws_eqFNodeS _ R6.out R3.out).mono ?_
  rintro e u7 ⟨rfl, hb⟩
  have K7 : Hid (Below w.heap.size w u7) := bchain K6.out hb
  clear hb
  go_wp2_with fail
  go_ret
  exact ⟨rfl, K7.out⟩
end Go.Proofs.YtljbnbapmjoecaaGreatDoor
