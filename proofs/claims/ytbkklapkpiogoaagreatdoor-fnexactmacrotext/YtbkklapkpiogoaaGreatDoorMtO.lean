import Derived.Test.YtbkklapkpiogoaaGreatDoorMtB
import Derived.Test.YtbkklapkpiogoaaGreatDoorMsA
import Derived.OpenShut
import Derived.Deep.Slices
import Derived.ChangeSame
namespace Go.Proofs.YtbkklapkpiogoaaGreatDoor
open Go.RowKit

set_option maxRecDepth 100000 in
set_option maxHeartbeats 4000000 in
theorem law_FnExactMacroText (A : Option Addr) (n cap : Nat) (K C R : Nat → Int) (T : Nat → ByteArray) (M : Nat → Int) (w : World) (h : MsRow w A n K C R T M) (hg : GI w) (hsw : SWG w) : Calls Tryz.prog 8 #[.slice A n cap] w fun e w' =>
    e = .returned (.bool true) ∧ Below w.heap.size w w' := by
  have HR : Hid (MsRow w A n K C R T M) := h
  have HS : Hid (∀ i, i < n → (T i).size ≤ maxLen) := fun i hi => by obtain ⟨_, _, _, _, _, _, _, _, _, hs⟩ := h.2 i hi; exact hs
  have HG : Hid (GI w) := hg
  have HSW : Hid (SWG w) := hsw
  obtain ⟨f, HFF⟩ : ∃ f : ByteArray, Hid (f = mtO K C R T M n) := ⟨_, rfl⟩
  have e1 : (f.toList == f.toList) = true := by simp
  clear h hg hsw
  go_enter Tryz.func8, Tryz.ntmps8
  go_wp2_with fail
  refine (laws_szStmtS _ HR.out).mono ?_
  rintro e u1 ⟨z, rfl, hz, hb⟩
  have K1 : Hid (Below w.heap.size w u1) := hb
  clear hb
  by_cases hneg : z < 0
  · go_wp2_with fail
    go_ret
    exact ⟨rfl, K1.out⟩
  have HN : Hid (n ≤ 1048576) := (hz (by omega)).1
  have HTZ : Hid (∀ i, i < n → (T i).size ≤ 1048576) := (hz (by omega)).2
  clear hz
  go_wp2_with fail
  refine (laws_toStmtS _ (HR.out.below K1.out) HN.out).mono ?_
  rintro e u2 ⟨v, rfl, ho, hb⟩
  obtain ⟨A1, cap1, rfl, _, _⟩ := own_shape ho
  have R1 : Hid (MsRow u2 A1 n K C R T M) := ms_of_own ho HS.out
  have K2 : Hid (Below w.heap.size w u2) := bchain K1.out hb
  clear hb ho
  go_wp2_with fail
  refine (spec_MacroText _ R1.out HTZ.out).mono ?_
  rintro e u3 ⟨rfl, hb⟩
  rw [← HFF.out]
  have K3 : Hid (Below w.heap.size w u3) := bchain K2.out hb
  clear hb R1
  go_wp2_with fail
  refine (laws_toStmtS _ (HR.out.below K3.out) HN.out).mono ?_
  rintro e u4 ⟨v, rfl, ho, hb⟩
  obtain ⟨A2, cap2, rfl, _, _⟩ := own_shape ho
  have R2 : Hid (MsRow u4 A2 n K C R T M) := ms_of_own ho HS.out
  have K4 : Hid (Below w.heap.size w u4) := bchain K3.out hb
  clear hb ho
  go_wp2_with fail
  refine (impl_MacroText _ R2.out HTZ.out (HG.out.below K4.out) (HSW.out.below K4.out)).mono ?_
  rintro e u5 ⟨rfl, hb⟩
  rw [← HFF.out]
  have K5 : Hid (Below w.heap.size w u5) := bchain K4.out hb
  have R5 : Hid (MsRow u5 A2 n K C R T M) := R2.out.below hb
  clear hb R2
  go_wp2_with fail
  refine (laws_toStmtS _ (HR.out.below K5.out) HN.out).mono ?_
  rintro e u6 ⟨v, rfl, ho, hb⟩
  obtain ⟨A3, cap3, rfl, _, _⟩ := own_shape ho
  have R3 : Hid (MsRow u6 A3 n K C R T M) := ms_of_own ho HS.out
  have K6 : Hid (Below w.heap.size w u6) := bchain K5.out hb
  have R6 : Hid (MsRow u6 A2 n K C R T M) := R5.out.below hb
  clear hb ho R5
  go_wp2_with fail
  refine (laws_eqStmtS _ R6.out R3.out).mono ?_
  rintro e u7 ⟨rfl, hb⟩
  have K7 : Hid (Below w.heap.size w u7) := bchain K6.out hb
  clear hb
  go_wp2_with fail
  go_ret
  exact ⟨rfl, K7.out⟩
end Go.Proofs.YtbkklapkpiogoaaGreatDoor

namespace Go.Proofs.YtbkklapkpiogoaaGreatDoor
open Go.ChangeShapes Go.WideShapes Go.ChangeAt Go.RowKit Go.Joins

theorem trod_struct4M {H : Type} {enc : TypeId × Value → H} {P : Program} {w : World} {base : Nat} {spare : Nat → Bool} {held : Bool} {t : TypeId} {f0 f1 f2 f3 : Field} {fuel : Nat} {cs : List Value} {x : DataW H × List MemPlace} (ht : P.underlying t = some (.struct #[f0, f1, f2, f3])) (h : DataW.trod enc P w base spare held fuel t cs = some x) :
    ∃ y0 y1 y2 y3 n, DataW.trod enc P w base spare held n f0.type ((cs.drop f0.offset).take (P.cellsOf f0.type)) = some y0 ∧ DataW.trod enc P w base spare held n f1.type ((cs.drop f1.offset).take (P.cellsOf f1.type)) = some y1 ∧
      DataW.trod enc P w base spare held n f2.type ((cs.drop f2.offset).take (P.cellsOf f2.type)) = some y2 ∧ DataW.trod enc P w base spare held n f3.type ((cs.drop f3.offset).take (P.cellsOf f3.type)) = some y3 := by
  obtain ⟨xs, n, _, rfl, hl, hlen, hf⟩ := DataW.trod_struct ht h
  match xs, hlen with
  | [y0, y1, y2, y3], _ => exact ⟨y0, y1, y2, y3, n, by simpa using hf 0 f0 rfl, by simpa using hf 1 f1 rfl, by simpa using hf 2 f2 rfl, by simpa using hf 3 f3 rfl⟩

theorem cellsMs : Tryz.prog.cellsOf 100 = 5 := by kernel_rfl

set_option maxRecDepth 100000 in
/-- A row of statements that came in. -/
theorem open_mss {H : Type} {enc : TypeId × Value → H} {W : World} {r : Reach} {b0 base : Nat} {sp : Nat → Bool} {held : Bool} {v : Value} {d : DataW H} {p : List MemPlace}
    (hv : Value.okWide Tryz.prog W r b0 53 v) (h : DataW.Trod enc Tryz.prog W base sp held 53 v d p) :
    ∃ A len cap K C R T M, v = .slice A len cap ∧ MsRow W A len K C R T M := by
  obtain ⟨a0, len, cap, rfl⟩ := okWide_slice Tryz.underlying53 hv
  obtain ⟨fuel, hf⟩ := h
  rcases Go.Deep.open_slice Tryz.underlying53 hf with ⟨hcs, _⟩ | ⟨a, len', cap', m, n, D, Pl, hcs, _, hl, hm, hmm, _, hx⟩
  · simp [Value.cells] at hcs
    obtain ⟨rfl, rfl, rfl⟩ := hcs
    exact ⟨none, 0, 0, fun _ => 0, fun _ => 0, fun _ => 0, fun _ => ⟨#[]⟩, fun _ => 0, rfl, Nat.zero_le _, fun i hi => absurd hi (Nat.not_lt_zero _)⟩
  · simp [Value.cells] at hcs
    obtain ⟨rfl, rfl, rfl⟩ := hcs
    rw [cellsMs] at hx
    have hlm : len ≤ m := by rw [hmm]; split <;> omega
    have each : ∀ i, i < len → ∃ q : Int × Int × Int × ByteArray × Int, ∃ b o, some a = some (⟨b, o, none⟩ : Addr) ∧ b < W.heap.size ∧ W.cell? ⟨b, o + i * 5, none⟩ = some (.int .i64 q.1) ∧ W.cell? ⟨b, o + i * 5 + 1, none⟩ = some (.int .i64 q.2.1) ∧
        W.cell? ⟨b, o + i * 5 + 2, none⟩ = some (.int .i64 q.2.2.1) ∧ W.cell? ⟨b, o + i * 5 + 3, none⟩ = some (.string q.2.2.2.1) ∧ W.cell? ⟨b, o + i * 5 + 4, none⟩ = some (.int .i64 q.2.2.2.2) ∧ q.2.2.2.1.size ≤ maxLen := by
      intro i hi
      obtain ⟨cs', h1, h2⟩ := hx i (by omega)
      obtain ⟨_, hlen, hcell⟩ := World.cells?_some h1
      have kr : Tryz.prog.cellsOf 44 = 2 := by kernel_rfl
      have k1 : Tryz.prog.cellsOf 2 = 1 := by kernel_rfl
      have ks : Tryz.prog.cellsOf 9 = 1 := by kernel_rfl
      match cs', hlen with
      | [v0, v1, v2, v3, v4], _ =>
        obtain ⟨yK, y0, y1, yM, n1, gK, g0, g1, gM⟩ := trod_struct4M Tryz.underlying100 h2
        simp only [kr, ks, k1, List.drop_zero, List.take_succ_cons, List.take_zero, List.drop_succ_cons] at gK g0 g1 gM
        obtain ⟨z0, z1, n2, _, _, q0, q1⟩ := trod_struct2 Tryz.underlying44 g0
        simp only [k1, List.drop_zero, List.take_succ_cons, List.take_zero, List.drop_succ_cons] at q0 q1
        obtain ⟨xk, ek, _, _⟩ := DataW.trod_int Tryz.underlying2 gK
        obtain ⟨x0, e0, _, _⟩ := DataW.trod_int Tryz.underlying2 q0
        obtain ⟨x1, e1, _, _⟩ := DataW.trod_int Tryz.underlying2 q1
        obtain ⟨s, e2, _, ws⟩ := DataW.trod_string Tryz.underlying9 g1
        obtain ⟨xm, em, _, _⟩ := DataW.trod_int Tryz.underlying2 gM
        simp at ek e0 e1 e2 em
        subst ek e0 e1 e2 em
        have d0 := hcell 0 (by omega)
        have d1 := hcell 1 (by omega)
        have d2 := hcell 2 (by omega)
        have d3 := hcell 3 (by omega)
        have d4 := hcell 4 (by omega)
        obtain ⟨b, off, spot⟩ := a
        have hspot : spot = none := by
          obtain ⟨cs0, h01, _⟩ := hx 0 (by omega)
          obtain ⟨_, hlen0, hcell0⟩ := World.cells?_some h01
          have hc0 := hcell0 0 (by omega)
          rw [List.getElem?_eq_getElem (by omega)] at hc0
          have hc1 := World.cell?_spot hc0
          simpa [Addr.add] using hc1
        subst hspot
        simp only [Go.WideShapes.add_plain] at d0 d1 d2 d3 d4
        refine ⟨(xk, x0, x1, s, xm), b, off, rfl, World.block_lt_of_cell? W ⟨b, off + i * 5 + 0, none⟩ d0, d0, d1, d2, d3, d4, ws⟩
    haveI : Inhabited (Int × Int × Int × ByteArray × Int) := ⟨(0, 0, 0, ⟨#[]⟩, 0)⟩
    obtain ⟨q, hq⟩ := Go.Deep.choose_lt each
    exact ⟨some a, len, cap, fun i => (q i).1, fun i => (q i).2.1, fun i => (q i).2.2.1, fun i => (q i).2.2.2.1, fun i => (q i).2.2.2.2, rfl, Nat.le_trans hl hm, hq⟩
end Go.Proofs.YtbkklapkpiogoaaGreatDoor
