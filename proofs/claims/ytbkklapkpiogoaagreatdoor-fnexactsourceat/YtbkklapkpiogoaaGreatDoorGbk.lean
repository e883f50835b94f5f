import Derived.Test.YtbkklapkpiogoaaGreatDoorClG
import Derived.Test.YtbkklapkpiogoaaGreatDoorGbh
import Derived.OpenShut
import Derived.Deep.Slices
import Derived.ChangeSame
namespace Go.Proofs.YtbkklapkpiogoaaGreatDoor
open Go.RowKit

set_option maxRecDepth 100000 in
set_option maxHeartbeats 4000000 in
theorem law_FnExactSheetOk (A : Option Addr) (n cap : Nat) (C R : Nat → Int) (S : Nat → ByteArray) (w : World) (h : ClRow w A n C R S) (hg : GI w) : Calls Tryz.prog 4 #[.slice A n cap] w fun e w' =>
    e = .returned (.bool true) ∧ Below w.heap.size w w' := by
  have HR : Hid (ClRow w A n C R S) := h
  have HS : Hid (∀ i, i < n → (S i).size ≤ maxLen) := fun i hi => by obtain ⟨_, _, _, _, _, _, _, hs⟩ := h.2 i hi; exact hs
  have HG : Hid (GI w) := hg
  clear h hg
  go_enter Tryz.func4, Tryz.ntmps4
  go_wp2_with fail
  refine (laws_szCellS _ HR.out).mono ?_
  rintro e u1 ⟨z, rfl, hz, hb⟩
  have K1 : Hid (Below w.heap.size w u1) := hb
  clear hb
  by_cases hneg : z < 0
  · go_wp2_with fail
    go_ret
    exact ⟨rfl, K1.out⟩
  have hn : n ≤ 1048576 := hz (by omega)
  have HN : Hid (n ≤ 1048576) := hn
  clear hn hz
  go_wp2_with fail
  refine (laws_toCellS _ (HR.out.below K1.out) HN.out).mono ?_
  rintro e u2 ⟨v, rfl, ho, hb⟩
  obtain ⟨A1, cap1, rfl, _, _⟩ := own_shape ho
  have R1 : Hid (ClRow u2 A1 n C R S) := cl_of_own ho HS.out
  have K2 : Hid (Below w.heap.size w u2) := bchain K1.out hb
  clear hb ho
  go_wp2_with fail
  refine (spec_SheetOk _ R1.out).mono ?_
  rintro e u3 ⟨rfl, hb⟩
  have K3 : Hid (Below w.heap.size w u3) := bchain K2.out hb
  clear hb R1
  go_wp2_with fail
  refine (laws_toCellS _ (HR.out.below K3.out) HN.out).mono ?_
  rintro e u4 ⟨v, rfl, ho, hb⟩
  obtain ⟨A2, cap2, rfl, _, _⟩ := own_shape ho
  have R2 : Hid (ClRow u4 A2 n C R S) := cl_of_own ho HS.out
  have K4 : Hid (Below w.heap.size w u4) := bchain K3.out hb
  clear hb ho
  go_wp2_with fail
  refine (impl_SheetOk _ R2.out (HG.out.below K4.out)).mono ?_
  rintro e u5 ⟨rfl, hb⟩
  have K5 : Hid (Below w.heap.size w u5) := bchain K4.out hb
  have R5 : Hid (ClRow u5 A2 n C R S) := R2.out.below hb
  clear hb R2
  have hq : (clOkB C R S n != clOkB C R S n) = false := by simp
  go_wp2_with fail
  refine (laws_toCellS _ (HR.out.below K5.out) HN.out).mono ?_
  rintro e u6 ⟨v, rfl, ho, hb⟩
  obtain ⟨A3, cap3, rfl, _, _⟩ := own_shape ho
  have R3 : Hid (ClRow u6 A3 n C R S) := cl_of_own ho HS.out
  have K6 : Hid (Below w.heap.size w u6) := bchain K5.out hb
  have R6 : Hid (ClRow u6 A2 n C R S) := R5.out.below hb
  clear hb ho R5
  go_wp2_with fail
  refine (laws_eqCellS _ R6.out R3.out).mono ?_
  rintro e u7 ⟨rfl, hb⟩
  have K7 : Hid (Below w.heap.size w u7) := bchain K6.out hb
  clear hb
  go_wp2_with fail
  go_ret
  exact ⟨rfl, K7.out⟩
end Go.Proofs.YtbkklapkpiogoaaGreatDoor
namespace Go.Proofs.YtbkklapkpiogoaaGreatDoor
open Go.ChangeShapes Go.WideShapes Go.ChangeAt Go.RowKit Go.Joins

theorem cellsCl : Tryz.prog.cellsOf 82 = 3 := by kernel_rfl

set_option maxRecDepth 100000 in
/-- A row of cells that came in. -/
theorem open_cls {H : Type} {enc : TypeId × Value → H} {W : World} {r : Reach} {b0 base : Nat} {sp : Nat → Bool} {held : Bool} {v : Value} {d : DataW H} {p : List MemPlace}
    (hv : Value.okWide Tryz.prog W r b0 36 v) (h : DataW.Trod enc Tryz.prog W base sp held 36 v d p) :
    ∃ A len cap C R S, v = .slice A len cap ∧ ClRow W A len C R S := by
  obtain ⟨a0, len, cap, rfl⟩ := okWide_slice Tryz.underlying36 hv
  obtain ⟨fuel, hf⟩ := h
  rcases Go.Deep.open_slice Tryz.underlying36 hf with ⟨hcs, _⟩ | ⟨a, len', cap', m, n, D, Pl, hcs, _, hl, hm, hmm, _, hx⟩
  · simp [Value.cells] at hcs
    obtain ⟨rfl, rfl, rfl⟩ := hcs
    exact ⟨none, 0, 0, fun _ => 0, fun _ => 0, fun _ => ⟨#[]⟩, rfl, Nat.zero_le _, fun i hi => absurd hi (Nat.not_lt_zero _)⟩
  · simp [Value.cells] at hcs
    obtain ⟨rfl, rfl, rfl⟩ := hcs
    rw [cellsCl] at hx
    have hlm : len ≤ m := by rw [hmm]; split <;> omega
    have each : ∀ i, i < len → ∃ q : Int × Int × ByteArray, ∃ b o, some a = some (⟨b, o, none⟩ : Addr) ∧ b < W.heap.size ∧ W.cell? ⟨b, o + i * 3, none⟩ = some (.int .i64 q.1) ∧ W.cell? ⟨b, o + i * 3 + 1, none⟩ = some (.int .i64 q.2.1) ∧
        W.cell? ⟨b, o + i * 3 + 2, none⟩ = some (.string q.2.2) ∧ q.2.2.size ≤ maxLen := by
      intro i hi
      obtain ⟨cs', h1, h2⟩ := hx i (by omega)
      obtain ⟨_, hlen, hcell⟩ := World.cells?_some h1
      have kr : Tryz.prog.cellsOf 44 = 2 := by kernel_rfl
      have k1 : Tryz.prog.cellsOf 2 = 1 := by kernel_rfl
      have ks : Tryz.prog.cellsOf 9 = 1 := by kernel_rfl
      match cs', hlen with
      | [v0, v1, v2], _ =>
        obtain ⟨y0, y1, n1, _, _, g0, g1⟩ := trod_struct2 Tryz.underlying82 h2
        simp only [kr, ks, List.drop_zero, List.take_succ_cons, List.take_zero, List.drop_succ_cons] at g0 g1
        obtain ⟨z0, z1, n2, _, _, q0, q1⟩ := trod_struct2 Tryz.underlying44 g0
        simp only [k1, List.drop_zero, List.take_succ_cons, List.take_zero, List.drop_succ_cons] at q0 q1
        obtain ⟨x0, e0, _, _⟩ := DataW.trod_int Tryz.underlying2 q0
        obtain ⟨x1, e1, _, _⟩ := DataW.trod_int Tryz.underlying2 q1
        obtain ⟨s, e2, _, ws⟩ := DataW.trod_string Tryz.underlying9 g1
        simp at e0 e1 e2
        subst e0 e1 e2
        have d0 := hcell 0 (by omega)
        have d1 := hcell 1 (by omega)
        have d2 := hcell 2 (by omega)
        obtain ⟨b, off, spot⟩ := a
        have hspot : spot = none := by
          obtain ⟨cs0, h01, _⟩ := hx 0 (by omega)
          obtain ⟨_, hlen0, hcell0⟩ := World.cells?_some h01
          have hc0 := hcell0 0 (by omega)
          rw [List.getElem?_eq_getElem (by omega)] at hc0
          have hc1 := World.cell?_spot hc0
          simpa [Addr.add] using hc1
        subst hspot
        simp only [Go.WideShapes.add_plain] at d0 d1 d2
        refine ⟨(x0, x1, s), b, off, rfl, World.block_lt_of_cell? W ⟨b, off + i * 3 + 0, none⟩ d0, d0, d1, d2, ws⟩
    haveI : Inhabited (Int × Int × ByteArray) := ⟨(0, 0, ⟨#[]⟩)⟩
    obtain ⟨q, hq⟩ := Go.Deep.choose_lt each
    exact ⟨some a, len, cap, fun i => (q i).1, fun i => (q i).2.1, fun i => (q i).2.2, rfl, Nat.le_trans hl hm, hq⟩
end Go.Proofs.YtbkklapkpiogoaaGreatDoor
