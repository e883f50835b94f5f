import Derived.Test.YtbkklapkpiogoaaGreatDoorMsD
namespace Go.Proofs.YtbkklapkpiogoaaGreatDoor
open Go.RowKit

set_option maxRecDepth 100000 in
set_option maxHeartbeats 4000000 in
theorem law_FnExactMacroOk (A : Option Addr) (n cap : Nat) (K C R : Nat → Int) (T : Nat → ByteArray) (M : Nat → Int) (w : World) (h : MsRow w A n K C R T M) (hg : GI w) : Calls Tryz.prog 7 #[.slice A n cap] w fun e w' =>
    e = .returned (.bool true) ∧ Below w.heap.size w w' := by
  have HR : Hid (MsRow w A n K C R T M) := h
  have HS : Hid (∀ i, i < n → (T i).size ≤ maxLen) := fun i hi => by obtain ⟨_, _, _, _, _, _, _, _, _, hs⟩ := h.2 i hi; exact hs
  have HG : Hid (GI w) := hg
  clear h hg
  go_enter Tryz.func7, Tryz.ntmps7
  go_wp2_with fail
  refine (laws_szStmtS _ HR.out).mono ?_
  rintro e u1 ⟨z, rfl, hz, hb⟩
  have K1 : Hid (Below w.heap.size w u1) := hb
  clear hb
  by_cases hneg : z < 0
  · go_wp2_with fail
    go_ret
    exact ⟨rfl, K1.out⟩
  have HN : Hid (n ≤ 1048576) := (hz (by omega)).1
  have HTZ : Hid (∀ i, i < n → (T i).size ≤ 1048576) := (hz (by omega)).2
  clear hz
  go_wp2_with fail
  refine (laws_toStmtS _ (HR.out.below K1.out) HN.out).mono ?_
  rintro e u2 ⟨v, rfl, ho, hb⟩
  obtain ⟨A1, cap1, rfl, _, _⟩ := own_shape ho
  have R1 : Hid (MsRow u2 A1 n K C R T M) := ms_of_own ho HS.out
  have K2 : Hid (Below w.heap.size w u2) := bchain K1.out hb
  clear hb ho
  go_wp2_with fail
  refine (spec_MacroOk _ R1.out HTZ.out).mono ?_
  rintro e u3 ⟨rfl, hb⟩
  have K3 : Hid (Below w.heap.size w u3) := bchain K2.out hb
  clear hb R1
  go_wp2_with fail
  refine (laws_toStmtS _ (HR.out.below K3.out) HN.out).mono ?_
  rintro e u4 ⟨v, rfl, ho, hb⟩
  obtain ⟨A2, cap2, rfl, _, _⟩ := own_shape ho
  have R2 : Hid (MsRow u4 A2 n K C R T M) := ms_of_own ho HS.out
  have K4 : Hid (Below w.heap.size w u4) := bchain K3.out hb
  clear hb ho
  go_wp2_with fail
  refine (impl_MacroOk _ R2.out HTZ.out (HG.out.below K4.out)).mono ?_
  rintro e u5 ⟨rfl, hb⟩
  have K5 : Hid (Below w.heap.size w u5) := bchain K4.out hb
  have R5 : Hid (MsRow u5 A2 n K C R T M) := R2.out.below hb
  clear hb R2
  have hq : (msOkB K C R T M n != msOkB K C R T M n) = false := by simp
  go_wp2_with fail
  refine (laws_toStmtS _ (HR.out.below K5.out) HN.out).mono ?_
  rintro e u6 ⟨v, rfl, ho, hb⟩
  obtain ⟨A3, cap3, rfl, _, _⟩ := own_shape ho
  have R3 : Hid (MsRow u6 A3 n K C R T M) := ms_of_own ho HS.out
  have K6 : Hid (Below w.heap.size w u6) := bchain K5.out hb
  have R6 : Hid (MsRow u6 A2 n K C R T M) := R5.out.below hb
  clear hb ho R5
  go_wp2_with fail
  refine (laws_eqStmtS _ R6.out R3.out).mono ?_
  rintro e u7 ⟨rfl, hb⟩
  have K7 : Hid (Below w.heap.size w u7) := bchain K6.out hb
  clear hb
  go_wp2_with fail
  go_ret
  exact ⟨rfl, K7.out⟩
end Go.Proofs.YtbkklapkpiogoaaGreatDoor
