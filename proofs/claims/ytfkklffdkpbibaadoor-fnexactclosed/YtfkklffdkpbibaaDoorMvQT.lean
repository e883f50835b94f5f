import Derived.Test.YtfkklffdkpbibaaDoorMvN
import Derived.Test.YtfkklffdkpbibaaDoorMvM
import Derived.Test.YtfkklffdkpbibaaDoorMkEF
import Derived.Test.YtfkklffdkpbibaaDoorLAreasOf
namespace Go.Proofs.YtfkklffdkpbibaaDoor
open Go.RowKit
set_option linter.unusedSimpArgs false
set_option linter.unusedVariables false

set_option maxHeartbeats 1000000 in
theorem spec_l4Rows (d e : Int) (w : World) : Calls Tryd.prog 48 #[.int .i64 d, .int .i64 e] w fun z w' => z = .returned (.bool (okOpened d e)) ∧ w' = w := by
  cases h1 : decide (1 ≤ d ∧ d ≤ 99)
  · have HD : Hid (decide (1 ≤ d ∧ d ≤ 99) = false) := h1
    have HE : Hid (okOpened d e = false) := by show _ = _; unfold okOpened; rw [h1]; rfl
    clear h1
    go_enter Tryd.func48, Tryd.ntmps48
    go_wp2_with (go_at_call 28; refine (spec_l1In _ _ _ _).mono ?_; rintro z w3 ⟨rfl, hw⟩; subst w3; rw [HD.out])
    go_ret
    exact ⟨ret_bool HE.out.symm, rfl⟩
  · have HD : Hid (decide (1 ≤ d ∧ d ≤ 99) = true) := h1
    obtain ⟨y, HY⟩ : ∃ y, Hid (decide (1 ≤ e ∧ e ≤ 99) = y) := ⟨_, rfl⟩
    have HE : Hid (okOpened d e = y) := by show _ = _; unfold okOpened; rw [h1, HY.out]; rfl
    clear h1
    go_enter Tryd.func48, Tryd.ntmps48
    go_wp2_with (go_at_call 28; refine (spec_l1In _ _ _ _).mono ?_; rintro z w3 ⟨rfl, hw⟩; subst w3; (first | rw [HD.out] | rw [HY.out]))
    go_ret
    exact ⟨ret_bool HE.out.symm, rfl⟩

set_option maxHeartbeats 4000000 in
theorem spec_MovedBy_no {A : Option Addr} {n cap : Nat} {F : Nat → FN} (d e : Int) (w : World) (h : FnRowS w A n F) (hn : n ≤ 1048576) (hkn : ∀ i, i < n → (F i).kids.length ≤ 1048576) (ho : (fOkB F n && okMovedBy d e) = false) :
    Calls Tryd.prog 19 #[.slice A n cap, .int .i64 d, .int .i64 e] w fun z w' => z = .returned (.tuple #[.slice none 0 0, .bool false]) ∧ Below w.heap.size w w' := by
  have HR : Hid (FnRowS w A n F) := h
  have HKN : Hid (∀ i, i < n → (F i).kids.length ≤ 1048576) := hkn
  clear h hkn
  cases h1 : fOkB F n
  · have HO : Hid (fOkB F n = false) := h1
    clear h1 ho
    go_enter Tryd.func19, Tryd.ntmps19
    go_wp2_with (go_at_call 9; refine (spec_FormulaOk _ HR.out.row hn HKN.out).mono ?_; rintro z w1 ⟨rfl, hb⟩; rw [HO.out]; have HB1 : Hid (Below w.heap.size w w1) := hb; clear hb)
    refine bodyPost_ret (v := .tuple #[.slice none 0 0, .bool false]) ?_ rfl ⟨rfl, HB1.out⟩
    simp (maxDischargeDepth := 9) [results, Tryd.results19, go_sem]
  have HO : Hid (fOkB F n = true) := h1
  rw [h1, Bool.true_and] at ho
  clear h1
  cases h2 : decide (-52 ≤ d ∧ d ≤ 52)
  · have HD : Hid (decide (-52 ≤ d ∧ d ≤ 52) = false) := h2
    clear h2 ho
    go_enter Tryd.func19, Tryd.ntmps19
    go_wp2_with (first
      | (go_at_call 9; refine (spec_FormulaOk _ HR.out.row hn HKN.out).mono ?_; rintro z w1 ⟨rfl, hb⟩; rw [HO.out]; have HB1 : Hid (Below w.heap.size w w1) := hb; clear hb)
      | (go_at_call 28; refine (spec_l1In _ _ _ _).mono ?_; rintro z w3 ⟨rfl, hw⟩; subst w3; rw [HD.out]))
    refine bodyPost_ret (v := .tuple #[.slice none 0 0, .bool false]) ?_ rfl ⟨rfl, HB1.out⟩
    simp (maxDischargeDepth := 9) [results, Tryd.results19, go_sem]
  · have HD : Hid (decide (-52 ≤ d ∧ d ≤ 52) = true) := h2
    unfold okMovedBy at ho
    rw [h2, Bool.true_and] at ho
    have HE : Hid (decide (-99 ≤ e ∧ e ≤ 99) = false) := ho
    clear h2 ho
    go_enter Tryd.func19, Tryd.ntmps19
    go_wp2_with (first
      | (go_at_call 9; refine (spec_FormulaOk _ HR.out.row hn HKN.out).mono ?_; rintro z w1 ⟨rfl, hb⟩; rw [HO.out]; have HB1 : Hid (Below w.heap.size w w1) := hb; clear hb)
      | (go_at_call 28; refine (spec_l1In _ _ _ _).mono ?_; rintro z w3 ⟨rfl, hw⟩; subst w3; (first | rw [HD.out] | rw [HE.out])))
    refine bodyPost_ret (v := .tuple #[.slice none 0 0, .bool false]) ?_ rfl ⟨rfl, HB1.out⟩
    simp (maxDischargeDepth := 9) [results, Tryd.results19, go_sem]

set_option maxHeartbeats 4000000 in
theorem spec_Opened_no {A : Option Addr} {n cap : Nat} {F : Nat → FN} (d e : Int) (w : World) (h : FnRowS w A n F) (hn : n ≤ 1048576) (hkn : ∀ i, i < n → (F i).kids.length ≤ 1048576) (ho : (fOkB F n && okOpened d e) = false) :
    Calls Tryd.prog 22 #[.slice A n cap, .int .i64 d, .int .i64 e] w fun z w' => z = .returned (.tuple #[.slice none 0 0, .bool false]) ∧ Below w.heap.size w w' := by
  have HR : Hid (FnRowS w A n F) := h
  have HKN : Hid (∀ i, i < n → (F i).kids.length ≤ 1048576) := hkn
  clear h hkn
  cases h1 : fOkB F n
  · have HO : Hid (fOkB F n = false) := h1
    clear h1 ho
    go_enter Tryd.func22, Tryd.ntmps22
    go_wp2_with (go_at_call 9; refine (spec_FormulaOk _ HR.out.row hn HKN.out).mono ?_; rintro z w1 ⟨rfl, hb⟩; rw [HO.out]; have HB1 : Hid (Below w.heap.size w w1) := hb; clear hb)
    refine bodyPost_ret (v := .tuple #[.slice none 0 0, .bool false]) ?_ rfl ⟨rfl, HB1.out⟩
    simp (maxDischargeDepth := 9) [results, Tryd.results22, go_sem]
  have HO : Hid (fOkB F n = true) := h1
  rw [h1, Bool.true_and] at ho
  clear h1
  have HD : Hid (okOpened d e = false) := ho
  clear ho
  · go_enter Tryd.func22, Tryd.ntmps22
    go_wp2_with (first
      | (go_at_call 9; refine (spec_FormulaOk _ HR.out.row hn HKN.out).mono ?_; rintro z w1 ⟨rfl, hb⟩; rw [HO.out]; have HB1 : Hid (Below w.heap.size w w1) := hb; clear hb)
      | (go_at_call 48; refine (spec_l4Rows _ _ _).mono ?_; rintro z w3 ⟨rfl, hw⟩; subst w3; rw [HD.out]))
    refine bodyPost_ret (v := .tuple #[.slice none 0 0, .bool false]) ?_ rfl ⟨rfl, HB1.out⟩
    simp (maxDischargeDepth := 9) [results, Tryd.results22, go_sem]

set_option maxHeartbeats 4000000 in
theorem spec_Closed_no {A : Option Addr} {n cap : Nat} {F : Nat → FN} (d e : Int) (w : World) (h : FnRowS w A n F) (hn : n ≤ 1048576) (hkn : ∀ i, i < n → (F i).kids.length ≤ 1048576) (ho : (fOkB F n && okClosed d e) = false) :
    Calls Tryd.prog 24 #[.slice A n cap, .int .i64 d, .int .i64 e] w fun z w' => z = .returned (.tuple #[.slice none 0 0, .bool false]) ∧ Below w.heap.size w w' := by
  have HR : Hid (FnRowS w A n F) := h
  have HKN : Hid (∀ i, i < n → (F i).kids.length ≤ 1048576) := hkn
  clear h hkn
  cases h1 : fOkB F n
  · have HO : Hid (fOkB F n = false) := h1
    clear h1 ho
    go_enter Tryd.func24, Tryd.ntmps24
    go_wp2_with (go_at_call 9; refine (spec_FormulaOk _ HR.out.row hn HKN.out).mono ?_; rintro z w1 ⟨rfl, hb⟩; rw [HO.out]; have HB1 : Hid (Below w.heap.size w w1) := hb; clear hb)
    refine bodyPost_ret (v := .tuple #[.slice none 0 0, .bool false]) ?_ rfl ⟨rfl, HB1.out⟩
    simp (maxDischargeDepth := 9) [results, Tryd.results24, go_sem]
  have HO : Hid (fOkB F n = true) := h1
  rw [h1, Bool.true_and] at ho
  clear h1
  have HD : Hid (okOpened d e = false) := ho
  clear ho
  · go_enter Tryd.func24, Tryd.ntmps24
    go_wp2_with (first
      | (go_at_call 9; refine (spec_FormulaOk _ HR.out.row hn HKN.out).mono ?_; rintro z w1 ⟨rfl, hb⟩; rw [HO.out]; have HB1 : Hid (Below w.heap.size w w1) := hb; clear hb)
      | (go_at_call 48; refine (spec_l4Rows _ _ _).mono ?_; rintro z w3 ⟨rfl, hw⟩; subst w3; rw [HD.out]))
    refine bodyPost_ret (v := .tuple #[.slice none 0 0, .bool false]) ?_ rfl ⟨rfl, HB1.out⟩
    simp (maxDischargeDepth := 9) [results, Tryd.results24, go_sem]

end Go.Proofs.YtfkklffdkpbibaaDoor
namespace Go.Proofs.YtfkklffdkpbibaaDoor
open Go.RowKit
set_option linter.unusedSimpArgs false
set_option linter.unusedVariables false

theorem shFN_cs (f g : Ends) (x : FN) (h : x.cs.size ≤ maxLen) : (shFN f g x).cs.size ≤ maxLen := by
  have hl : lostFN.cs.size ≤ maxLen := Nat.zero_le _
  unfold shFN
  repeat' split
  all_goals first | exact h | exact hl
theorem shFN_kids (f g : Ends) (x : FN) (h : x.kids.length ≤ 1048576) : (shFN f g x).kids.length ≤ 1048576 := by
  have hl : lostFN.kids.length ≤ 1048576 := Nat.zero_le _
  unfold shFN
  repeat' split
  all_goals first | exact h | exact hl
theorem part_mid {W W' : World} {g0 B1 B : Nat} {ys : List Value} {G : Nat → FN} {n : Nat} (h : FnPart W B ys G n) (hm : Mid g0 B1 W W') (hB : B1 ≤ B) : FnPart W' B ys G n := fun i hi => by
  obtain ⟨KA, kc, h1, h2⟩ := h i hi
  exact ⟨KA, kc, h1, own_mid h2 hm (fun b hb => Or.inr (Nat.le_trans hB (h2.lt b hb).1))⟩
theorem mkv_of {W : World} {g n : Nat} {ys : List Value} {G : Nat → FN} (h : W.ownsRow g 53 14 (.slice (some ⟨g, 0, none⟩) n n) n ys) (hp : FnPart W (g + 1) ys G n) (hd : KDiff ys n) : MkV W g W.heap.size n (fun i => (G i).kids.length) W 0 0 := by
  refine ⟨Mid.refl _ _ _, ys, h, fun i hi => ?_, fun i j hi => by omega, fun j hj => by omega, hd⟩
  obtain ⟨KA, kc, h1, h2⟩ := hp i hi
  exact ⟨KA, kc, _, (h1 13 (by omega)).trans rfl, h2, fun b hb => (h2.lt b hb).2, fun hlt => by omega⟩
theorem row_nil (W : World) (G : Nat → FN) : FnRow W none 0 G := ⟨Nat.zero_le _, fun i hi => by omega⟩

set_option maxHeartbeats 1000000 in
theorem laws_markFNodeS_nil (w : World) : Calls Tryd.prog 16 #[.slice none 0 0, .int .i64 1] w fun e w' => e = .returned (.int .i64 1) ∧ w' = w := by
  go_enter Tryd.func16, Tryd.ntmps16
  go_wp2_with fail
  go_loopw [1, 5] (fun q i wr => i = .int .i64 0 ∧ q = .int .i64 1 ∧ wr = w) (fun _ _ _ => 0)
  case atStart => exact ⟨rfl, rfl, rfl⟩
  case round =>
    obtain ⟨rfl, rfl, rfl⟩ := hrel
    go_wp2_with fail
    go_ret
    exact ⟨rfl, rfl⟩
set_option maxHeartbeats 1000000 in
theorem laws_heldFNodeS_nil (w : World) : Calls Tryd.prog 21 #[.slice none 0 0, .int .i64 1] w fun e w' => e = .returned (.int .i64 1) ∧ w' = w := by
  go_enter Tryd.func21, Tryd.ntmps21
  go_wp2_with fail
  go_loopw [1, 5] (fun q i wr => i = .int .i64 0 ∧ q = .int .i64 1 ∧ wr = w) (fun _ _ _ => 0)
  case atStart => exact ⟨rfl, rfl, rfl⟩
  case round =>
    obtain ⟨rfl, rfl, rfl⟩ := hrel
    go_wp2_with fail
    go_ret
    exact ⟨rfl, rfl⟩
end Go.Proofs.YtfkklffdkpbibaaDoor
