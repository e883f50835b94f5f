import Derived.Test.YtfkklffdkpbibaaDoorMvN
import Derived.Test.YtfkklffdkpbibaaDoorMvM
import Derived.Test.YtfkklffdkpbibaaDoorMvQT
import Derived.Test.YtfkklffdkpbibaaDoorMvP
namespace Go.Proofs.YtfkklffdkpbibaaDoor
open Go.RowKit
set_option linter.unusedSimpArgs false
set_option linter.unusedVariables false

set_option maxHeartbeats 4000000 in
theorem spec_Closed_yes {A : Option Addr} {n cap : Nat} {F : Nat → FN} (d e : Int) (w : World) (h : FnRowS w A n F) (hkn : ∀ i, i < n → (F i).kids.length ≤ 1048576) (ho : fOkB F n = true) (hok : okClosed d e = true) :
    Calls Tryd.prog 24 #[.slice A n cap, .int .i64 d, .int .i64 e] w fun z w' => ∃ v ys, z = .returned (.tuple #[v, .bool true]) ∧ w'.ownsRow w.heap.size 53 14 v n ys ∧ FnPart w' w.heap.size ys (fun i => shFN (fClosed d e) (gClosed d e) (F i)) n ∧ Below w.heap.size w w' := by
  have HR : Hid (FnRowS w A n F) := h
  have HKN : Hid (∀ i, i < n → (F i).kids.length ≤ 1048576) := hkn
  clear h hkn
  have HO : Hid (fOkB F n = true) := ho
  have HNO : Hid (∀ i, i < n → nodeX (F i) = true) := fOk_nodes ho
  have hn60 := fOk_n ho
  have HD : Hid (okOpened d e = true) := hok
  have hn : n ≤ 1048576 := by omega
  unfold okClosed at hok
  rw [Bool.and_eq_true] at hok
  have hd := of_decide_eq_true hok.1
  have he := of_decide_eq_true hok.2
  clear ho hok
  go_enter Tryd.func24, Tryd.ntmps24
  go_wp2_with (first
    | (go_at_call 9; refine (spec_FormulaOk _ HR.out.row hn HKN.out).mono ?_; rintro z w1 ⟨rfl, hb⟩; rw [HO.out]; have HB1 : Hid (Below w.heap.size w w1) := hb; clear hb)
    | (go_at_call 48; refine (spec_l4Rows _ _ _).mono ?_; rintro z w3 ⟨rfl, hw⟩; subst w3; rw [HD.out]))
  refine (spec_l4Each_Closed d e _ (HR.out.below HB1.out) HKN.out HNO.out hn60 hd he).mono ?_
  rintro z w5 ⟨v, ys, rfl, h1, h2, hb⟩
  have HQ2 : Hid (w5.ownsRow w.heap.size 53 14 v n ys) := own_mono h1 HB1.out.size
  have HQ3 : Hid (FnPart w5 w.heap.size ys (fun i => shFN (fClosed d e) (gClosed d e) (F i)) n) := fun i hi => by
    obtain ⟨KA, kc, a1, a2⟩ := h2 i hi
    exact ⟨KA, kc, a1, own_mono a2 HB1.out.size⟩
  have HB5 : Hid (Below w.heap.size w w5) := bchain HB1.out hb
  clear h1 h2 hb
  go_wp2_with fail
  refine bodyPost_ret (v := .tuple #[v, .bool true]) ?_ rfl (by first | exact ⟨_, _, rfl, HQ2.out, HQ3.out, HB5.out⟩ | exact ⟨_, rfl, _, HQ2.out, HQ3.out, HB5.out⟩)
  simp (maxDischargeDepth := 9) [results, Tryd.results24, go_sem]

end Go.Proofs.YtfkklffdkpbibaaDoor
