import Derived.Test.YtljbnbapmjoecaaGreatDoorTxM
import Derived.Deep.RegionHeld3
import Derived.Deep.RegionWith
namespace Go.Proofs.YtljbnbapmjoecaaGreatDoor
open Go.RowKit
set_option linter.unusedSimpArgs false
set_option linter.unusedVariables false

/-! ### The tables of the program and of the library, as they lie -/
def bnO (m : Nat) : Int := if m = 0 then 0 else lvl m
def OT (W : World) : Prop := ∀ m : Nat, m ≤ 11 → W.cell? ⟨0, m * 2, none⟩ = some (.string (bs (sgT m))) ∧ W.cell? ⟨0, m * 2 + 1, none⟩ = some (.int .i64 (bnO m))
def FTN (W : World) : Prop := ∀ m : Nat, m ≤ 10 → W.cell? ⟨1, m * 3, none⟩ = some (.string (bs (fnT m)))
def MX (W : World) : Prop := ∃ m : Int, W.cell? ⟨3, 0, none⟩ = some (.int .i64 m)
structure GT (W : World) : Prop where
  ft : FT W
  fn : FTN W
  ot : OT W
  mx : MX W
  vt : VarT W
theorem OT.lt {W : World} (h : OT W) : 0 < W.heap.size := World.block_lt_of_cell? W ⟨0, 0 * 2, none⟩ (h 0 (by omega)).1
theorem FTN.lt {W : World} (h : FTN W) : 1 < W.heap.size := World.block_lt_of_cell? W ⟨1, 0 * 3, none⟩ (h 0 (by omega))
theorem MX.lt {W : World} (h : MX W) : 3 < W.heap.size := by
  obtain ⟨m, hm⟩ := h
  exact World.block_lt_of_cell? W ⟨3, 0, none⟩ hm
theorem GT.below {W W' : World} (h : GT W) (hb : Below W.heap.size W W') : GT W' where
  ft := h.ft.below hb
  fn := fun m hm => (hb.cell (p := ⟨1, _, none⟩) h.fn.lt).trans (h.fn m hm)
  ot := fun m hm => ⟨(hb.cell (p := ⟨0, _, none⟩) h.ot.lt).trans (h.ot m hm).1, (hb.cell (p := ⟨0, _, none⟩) h.ot.lt).trans (h.ot m hm).2⟩
  mx := by obtain ⟨m, hm⟩ := h.mx; exact ⟨m, (hb.cell (p := ⟨3, _, none⟩) h.mx.lt).trans hm⟩
  vt := h.vt.below hb

theorem rep_quo (s : ByteArray) : (⟨(Lib.replaceAll s.data.toList (⟨#[34]⟩ : ByteArray).data.toList (⟨#[34, 34]⟩ : ByteArray).data.toList).toArray⟩ : ByteArray) = bs (qt s.data.toList) := by
  show bs (Lib.replaceAll s.data.toList [34] [34, 34]) = _
  rw [rep_all]
set_option maxHeartbeats 1000000 in
theorem impl_quoted (s : ByteArray) (w : World) (hs : s.size ≤ 1000) (hm : MX w) : Calls Tryz.prog 137 #[.string s] w fun e w' =>
    e = .returned (.string (bs ([34] ++ qt s.data.toList ++ [34]))) ∧ Below w.heap.size w w' := by
  obtain ⟨m, hm⟩ := hm
  have HM : Hid (w.cell? ⟨3, 0, none⟩ = some (.int .i64 m)) := hm
  have hcb : Lib.countB s (⟨#[34]⟩ : ByteArray) ≤ 1000 := Nat.le_trans (cnt_le s.data.toList) hs
  have hq : (bs (qt s.data.toList)).size ≤ 2000 := by rw [bs_size]; have := qt_len s.data.toList; have h2 : s.data.toList.length = s.size := rfl; omega
  have HF : Hid ((⟨#[34]⟩ : ByteArray) ++ bs (qt s.data.toList) ++ (⟨#[34]⟩ : ByteArray) = bs ([34] ++ qt s.data.toList ++ [34])) := by
    show _ = _
    rw [show (⟨#[34]⟩ : ByteArray) = bs [34] from rfl, bs_app, bs_app]
  have HC : Hid (s.size + Lib.countB s (⟨#[34]⟩ : ByteArray) * (⟨#[34, 34]⟩ : ByteArray).size ≤ 140737488355328) := by show _ ≤ _; rw [show (⟨#[34, 34]⟩ : ByteArray).size = 2 from rfl]; omega
  obtain ⟨q, HQ⟩ : ∃ q, Hid (bs (qt s.data.toList) = q) := ⟨_, rfl⟩
  have HR : Hid ((⟨(Lib.replaceAll s.data.toList (⟨#[34]⟩ : ByteArray).data.toList (⟨#[34, 34]⟩ : ByteArray).data.toList).toArray⟩ : ByteArray) = q) := by show _ = _; rw [rep_quo, HQ.out]
  rw [HQ.out] at HF hq
  clear hm hcb
  have z1 : ¬ 9223372036854775807 < 1 + q.size := by omega
  have z2 : ¬ 9223372036854775807 < 1 + q.size + 1 := by omega
  go_enter Tryz.func137, Tryz.ntmps137
  go_wp2_with fail
  refine (Tryz.strings_ReplaceAll s ⟨#[34]⟩ ⟨#[34, 34]⟩ m _ (by omega) HM.out (by decide) HC.out).mono ?_
  rintro e w1 ⟨rfl, hb⟩
  rw [HR.out]
  go_wp2_with fail
  go_ret
  exact ⟨ret_str HF.out, hb⟩

set_option maxHeartbeats 1000000 in
theorem impl_constText (k n : Int) (s : ByteArray) (w : World) (hs : s.size ≤ maxLen) (hc : cOk k n s = true) (hg : GT w) : Calls Tryz.prog 82 #[.agg #[.int .i64 k, .int .i64 n, .string s]] w fun e w' =>
    e = .returned (.string (bs (cstT k n s))) ∧ Below w.heap.size w w' := by
  have HG : Hid (GT w) := hg
  have HS : Hid (s.size ≤ maxLen) := hs
  obtain ⟨ho, _, _⟩ := cOk_parts hc
  clear hg hc hs
  by_cases h2 : k = 2
  · subst h2
    have hz : s.size ≤ 200 := by
      rcases okV_kinds ho with ⟨e, _⟩ | ⟨e, _⟩ | ⟨_, _, hr⟩ | ⟨e, _⟩ | ⟨e, _⟩
      · cases e
      · cases e
      · exact rWord_b hr
      · cases e
      · cases e
    have HE : Hid (bs ([34] ++ qt s.data.toList ++ [34]) = bs (cstT 2 n s)) := by show _ = _; rw [cstT, if_pos rfl]
    go_enter Tryz.func82, Tryz.ntmps82
    go_wp2_with fail
    refine (impl_quoted s _ (by omega) (HG.out.below (by go_grown)).mx).mono ?_
    rintro e w1 ⟨rfl, hb⟩
    rw [HE.out]
    have K1 := bchain (w := w) (by go_grown) hb
    go_wp2_with fail
    go_ret
    exact ⟨rfl, K1⟩
  · have h2' : (k == 2) = false := by simpa using h2
    have HE : Hid (txV k n s = bs (cstT k n s)) := by show _ = _; rw [cstT, if_neg h2, bs_of]
    go_enter Tryz.func82, Tryz.ntmps82
    go_wp2_with fail
    refine (impl_ValueText k n s _ (HG.out.below (by go_grown)).vt HS.out).mono ?_
    rintro e w1 ⟨rfl, hb⟩
    rw [HE.out]
    have K1 := bchain (w := w) (by go_grown) hb
    go_wp2_with fail
    go_ret
    exact ⟨rfl, K1⟩
end Go.Proofs.YtljbnbapmjoecaaGreatDoor
