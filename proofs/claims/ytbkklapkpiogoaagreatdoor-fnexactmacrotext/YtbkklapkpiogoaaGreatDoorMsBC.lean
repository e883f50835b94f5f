import Derived.Test.YtbkklapkpiogoaaGreatDoorMsA
import Derived.Test.YtbkklapkpiogoaaGreatDoorGbi
namespace Go.Proofs.YtbkklapkpiogoaaGreatDoor
open Go.RowKit
set_option linter.unusedSimpArgs false
set_option linter.unusedVariables false

/-- Is '=' and a text its own source? -/
def wrB (t : ByteArray) : Bool := ownB ((⟨#[61]⟩ : ByteArray) ++ t)
def zerB (c r : Int) : Bool := decide (c = 0 ∧ r = 0)
/-- A right statement, with so many ahead of it and behind it. -/
def msAt (k c r : Int) (t : ByteArray) (m a b : Int) : Bool :=
  if k = 1 then refOkB c r && wrB t && decide (m = 0) else if k = 2 then refOkB c r && ownB t && decide (m = 0) else
  if k = 3 then zerB c r && wrB t && decide (1 ≤ m ∧ m ≤ b) else if k = 4 then zerB c r && wrB t && decide (1 ≤ m ∧ m ≤ a) else
  if k = 5 then zerB c r && wrB t && decide (m = 0) else false
theorem eq_size (t : ByteArray) : ((⟨#[61]⟩ : ByteArray) ++ t).size = 1 + t.size := by rw [ByteArray.size_append]; rfl

set_option maxRecDepth 100000 in
set_option maxHeartbeats 1000000 in
theorem impl_isWritten (t : ByteArray) (w : World) (ht : t.size ≤ 1048576) (hg : GI w) : Calls Tryz.prog 114 #[.string t] w fun e w' => e = .returned (.bool (wrB t)) ∧ Below w.heap.size w w' := by
  have HG : Hid (GI w) := hg
  clear hg
  have q : ¬ 9223372036854775807 < 1 + t.size := by omega
  have HZ : Hid (((⟨#[61]⟩ : ByteArray) ++ t).size ≤ maxLen) := by show _ ≤ _; rw [eq_size]; unfold maxLen; omega
  go_enter Tryz.func114, Tryz.ntmps114
  go_wp2_with (go_at_call 59; refine (impl_isOwnSource _ _ HZ.out HG.out).mono ?_; rintro e w1 ⟨rfl, hb⟩)
  go_ret
  exact ⟨rfl, hb⟩

set_option maxRecDepth 100000 in
set_option maxHeartbeats 4000000 in
theorem impl_isRight (k c r : Int) (t : ByteArray) (m a b : Int) (w : World) (ht : t.size ≤ 1048576) (hg : GI w) :
    Calls Tryz.prog 72 #[.agg #[.int .i64 k, .int .i64 c, .int .i64 r, .string t, .int .i64 m], .int .i64 a, .int .i64 b] w fun e w' => e = .returned (.bool (msAt k c r t m a b)) ∧ Below w.heap.size w w' := by
  have HG : Hid (GI w) := hg
  have HTZ : Hid (t.size ≤ maxLen) := by show _ ≤ _; unfold maxLen; omega
  clear hg
  by_cases h1 : k = 1
  · subst h1
    have HF : Hid (msAt 1 c r t m a b = (refOkB c r && wrB t && decide (m = 0))) := rfl
    cases ho : refOkB c r <;> cases hw : wrB t <;> by_cases hm : m = 0
    all_goals
      have HO : Hid (refOkB c r = _) := ho
      have HW : Hid (wrB t = _) := hw
      have HE : Hid (msAt 1 c r t m a b = _) := HF.out.trans (by rw [ho, hw])
      clear ho hw
      go_enter Tryz.func72, Tryz.ntmps72
      go_wp2_with (first
        | (go_at_call 62; refine (impl_RefOk _ _ _).mono ?_; rintro e w1 ⟨rfl, hb⟩; rw [HO.out]; obtain ⟨hc, hf, hC, hF, hz, hk, l0⟩ := bk1 (w := w) (by go_grown) (by go_size) hb; clear hb)
        | (go_at_call 114; refine (impl_isWritten _ _ ht (HG.out.below (by go_grown))).mono ?_; rintro e w2 ⟨rfl, hb⟩; rw [HW.out]; first | (have hk2 := bchain hk hb; have hc2 := (kp hb).1; have hz2 := Nat.le_trans hz hb.size; clear hb) | (obtain ⟨hc, hf, hC, hF, hz, hk, l0⟩ := bk1 (w := w) (by go_grown) (by go_size) hb; clear hb)))
      go_ret
      exact ⟨ret_bool (by rw [HE.out]; simp [*]), by go_grown⟩
  by_cases h2 : k = 2
  · subst h2
    have HF : Hid (msAt 2 c r t m a b = (refOkB c r && ownB t && decide (m = 0))) := rfl
    cases ho : refOkB c r <;> cases hw : ownB t <;> by_cases hm : m = 0
    all_goals
      have HO : Hid (refOkB c r = _) := ho
      have HW : Hid (ownB t = _) := hw
      have HE : Hid (msAt 2 c r t m a b = _) := HF.out.trans (by rw [ho, hw])
      clear ho hw
      go_enter Tryz.func72, Tryz.ntmps72
      go_wp2_with (first
        | (go_at_call 62; refine (impl_RefOk _ _ _).mono ?_; rintro e w1 ⟨rfl, hb⟩; rw [HO.out]; obtain ⟨hc, hf, hC, hF, hz, hk, l0⟩ := bk1 (w := w) (by go_grown) (by go_size) hb; clear hb)
        | (go_at_call 59; refine (impl_isOwnSource _ _ HTZ.out (HG.out.below (by go_grown))).mono ?_; rintro e w2 ⟨rfl, hb⟩; rw [HW.out]; first | (have hk2 := bchain hk hb; have hc2 := (kp hb).1; have hz2 := Nat.le_trans hz hb.size; clear hb) | (obtain ⟨hc, hf, hC, hF, hz, hk, l0⟩ := bk1 (w := w) (by go_grown) (by go_size) hb; clear hb)))
      go_ret
      exact ⟨ret_bool (by rw [HE.out]; simp [*]), by go_grown⟩
  by_cases h3 : k = 3
  · subst h3
    have HF : Hid (msAt 3 c r t m a b = (zerB c r && wrB t && decide (1 ≤ m ∧ m ≤ b))) := rfl
    by_cases hz0 : c = 0 ∧ r = 0
    rotate_left
    · have HE : Hid (msAt 3 c r t m a b = false) := by show _ = _; rw [HF.out]; unfold zerB; rw [decide_eq_false hz0]; rfl
      by_cases hc0 : c = 0
      · have hr0 : ¬ r = 0 := fun e => hz0 ⟨hc0, e⟩
        have hr1 : (r == 0) = false := by simpa using hr0
        clear hz0
        go_enter Tryz.func72, Tryz.ntmps72
        go_wp2_with fail
        go_ret
        exact ⟨ret_bool HE.out.symm, by go_grown⟩
      · have hc1 : (c == 0) = false := by simpa using hc0
        clear hz0
        go_enter Tryz.func72, Tryz.ntmps72
        go_wp2_with fail
        go_ret
        exact ⟨ret_bool HE.out.symm, by go_grown⟩
    obtain ⟨rfl, rfl⟩ := hz0
    cases hw : wrB t <;> by_cases hm1 : 1 ≤ m <;> by_cases hm2 : m ≤ b
    all_goals
      have HW : Hid (wrB t = _) := hw
      have HE : Hid (msAt 3 0 0 t m a b = _) := HF.out.trans (by rw [hw])
      clear hw
      go_enter Tryz.func72, Tryz.ntmps72
      go_wp2_with (first
        | (go_at_call 114; refine (impl_isWritten _ _ ht (HG.out.below (by go_grown))).mono ?_; rintro e w2 ⟨rfl, hb⟩; rw [HW.out]; first | (have hk2 := bchain hk hb; have hc2 := (kp hb).1; have hz2 := Nat.le_trans hz hb.size; clear hb) | (obtain ⟨hc, hf, hC, hF, hz, hk, l0⟩ := bk1 (w := w) (by go_grown) (by go_size) hb; clear hb)))
      go_ret
      exact ⟨ret_bool (by rw [HE.out]; simp [zerB, *]), by go_grown⟩
  by_cases h4 : k = 4
  · subst h4
    have HF : Hid (msAt 4 c r t m a b = (zerB c r && wrB t && decide (1 ≤ m ∧ m ≤ a))) := rfl
    by_cases hz0 : c = 0 ∧ r = 0
    rotate_left
    · have HE : Hid (msAt 4 c r t m a b = false) := by show _ = _; rw [HF.out]; unfold zerB; rw [decide_eq_false hz0]; rfl
      by_cases hc0 : c = 0
      · have hr0 : ¬ r = 0 := fun e => hz0 ⟨hc0, e⟩
        have hr1 : (r == 0) = false := by simpa using hr0
        clear hz0
        go_enter Tryz.func72, Tryz.ntmps72
        go_wp2_with fail
        go_ret
        exact ⟨ret_bool HE.out.symm, by go_grown⟩
      · have hc1 : (c == 0) = false := by simpa using hc0
        clear hz0
        go_enter Tryz.func72, Tryz.ntmps72
        go_wp2_with fail
        go_ret
        exact ⟨ret_bool HE.out.symm, by go_grown⟩
    obtain ⟨rfl, rfl⟩ := hz0
    cases hw : wrB t <;> by_cases hm1 : 1 ≤ m <;> by_cases hm2 : m ≤ a
    all_goals
      have HW : Hid (wrB t = _) := hw
      have HE : Hid (msAt 4 0 0 t m a b = _) := HF.out.trans (by rw [hw])
      clear hw
      go_enter Tryz.func72, Tryz.ntmps72
      go_wp2_with (first
        | (go_at_call 114; refine (impl_isWritten _ _ ht (HG.out.below (by go_grown))).mono ?_; rintro e w2 ⟨rfl, hb⟩; rw [HW.out]; first | (have hk2 := bchain hk hb; have hc2 := (kp hb).1; have hz2 := Nat.le_trans hz hb.size; clear hb) | (obtain ⟨hc, hf, hC, hF, hz, hk, l0⟩ := bk1 (w := w) (by go_grown) (by go_size) hb; clear hb)))
      go_ret
      exact ⟨ret_bool (by rw [HE.out]; simp [zerB, *]), by go_grown⟩
  by_cases h5 : k = 5
  · subst h5
    have HF : Hid (msAt 5 c r t m a b = (zerB c r && wrB t && decide (m = 0))) := rfl
    by_cases hz0 : c = 0 ∧ r = 0
    rotate_left
    · have HE : Hid (msAt 5 c r t m a b = false) := by show _ = _; rw [HF.out]; unfold zerB; rw [decide_eq_false hz0]; rfl
      by_cases hc0 : c = 0
      · have hr0 : ¬ r = 0 := fun e => hz0 ⟨hc0, e⟩
        have hr1 : (r == 0) = false := by simpa using hr0
        clear hz0
        go_enter Tryz.func72, Tryz.ntmps72
        go_wp2_with fail
        go_ret
        exact ⟨ret_bool HE.out.symm, by go_grown⟩
      · have hc1 : (c == 0) = false := by simpa using hc0
        clear hz0
        go_enter Tryz.func72, Tryz.ntmps72
        go_wp2_with fail
        go_ret
        exact ⟨ret_bool HE.out.symm, by go_grown⟩
    obtain ⟨rfl, rfl⟩ := hz0
    cases hw : wrB t <;> by_cases hm : m = 0
    all_goals
      have HW : Hid (wrB t = _) := hw
      have HE : Hid (msAt 5 0 0 t m a b = _) := HF.out.trans (by rw [hw])
      clear hw
      go_enter Tryz.func72, Tryz.ntmps72
      go_wp2_with (first
        | (go_at_call 114; refine (impl_isWritten _ _ ht (HG.out.below (by go_grown))).mono ?_; rintro e w2 ⟨rfl, hb⟩; rw [HW.out]; first | (have hk2 := bchain hk hb; have hc2 := (kp hb).1; have hz2 := Nat.le_trans hz hb.size; clear hb) | (obtain ⟨hc, hf, hC, hF, hz, hk, l0⟩ := bk1 (w := w) (by go_grown) (by go_size) hb; clear hb)))
      go_ret
      exact ⟨ret_bool (by rw [HE.out]; simp [zerB, *]), by go_grown⟩
  have HE : Hid (msAt k c r t m a b = false) := by show _ = _; unfold msAt; rw [if_neg h1, if_neg h2, if_neg h3, if_neg h4, if_neg h5]
  have n1 : (k == 1) = false := by simpa using h1
  have n2 : (k == 2) = false := by simpa using h2
  have n3 : (k == 3) = false := by simpa using h3
  have n4 : (k == 4) = false := by simpa using h4
  have n5 : (k == 5) = false := by simpa using h5
  go_enter Tryz.func72, Tryz.ntmps72
  go_wp2_with fail
  go_ret
  exact ⟨ret_bool HE.out.symm, by go_grown⟩

/-- A right row of statements. -/
def msOkB (K C R : Nat → Int) (T : Nat → ByteArray) (M : Nat → Int) (n : Nat) : Bool := decide (n ≤ 30) && (List.range n).all fun i => msAt (K i) (C i) (R i) (T i) (M i) i ((n : Int) - 1 - i)
theorem msOk_big {K C R : Nat → Int} {T : Nat → ByteArray} {M : Nat → Int} {n : Nat} (h : 30 < n) : msOkB K C R T M n = false := by
  have e : decide (n ≤ 30) = false := by simp; omega
  simp [msOkB, e]
theorem msOk_no {K C R : Nat → Int} {T : Nat → ByteArray} {M : Nat → Int} {n k : Nat} (hk : k < n) (h : msAt (K k) (C k) (R k) (T k) (M k) k ((n : Int) - 1 - k) = false) : msOkB K C R T M n = false := by
  have e : ((List.range n).all fun i => msAt (K i) (C i) (R i) (T i) (M i) i ((n : Int) - 1 - i)) = false := all_noC (f := fun i => msAt (K i) (C i) (R i) (T i) (M i) i ((n : Int) - 1 - i)) hk h
  unfold msOkB
  rw [e, Bool.and_false]
theorem msOk_yes {K C R : Nat → Int} {T : Nat → ByteArray} {M : Nat → Int} {n : Nat} (h : n ≤ 30) (hv : ∀ i, i < n → msAt (K i) (C i) (R i) (T i) (M i) i ((n : Int) - 1 - i) = true) : msOkB K C R T M n = true := by
  have e : ((List.range n).all fun i => msAt (K i) (C i) (R i) (T i) (M i) i ((n : Int) - 1 - i)) = true := all_yesC (f := fun i => msAt (K i) (C i) (R i) (T i) (M i) i ((n : Int) - 1 - i)) hv
  unfold msOkB
  rw [e, Bool.and_true, decide_eq_true h]

set_option maxRecDepth 100000 in
set_option maxHeartbeats 4000000 in
theorem impl_MacroOk {A : Option Addr} {n cap : Nat} {K C R : Nat → Int} {T : Nat → ByteArray} {M : Nat → Int} (w : World) (h : MsRow w A n K C R T M) (hT : ∀ i, i < n → (T i).size ≤ 1048576) (hg : GI w) :
    Calls Tryz.prog 32 #[.slice A n cap] w fun e w' => e = .returned (.bool (msOkB K C R T M n)) ∧ Below w.heap.size w w' := by
  have HR : Hid (MsRow w A n K C R T M) := h
  have HG : Hid (GI w) := hg
  have HT : Hid (∀ i, i < n → (T i).size ≤ 1048576) := hT
  have hn := h.1
  unfold maxLen at hn
  clear h hg hT
  by_cases hbig : (30 : Int) < (n : Int)
  · have HF : Hid (msOkB K C R T M n = false) := msOk_big (by omega)
    go_enter Tryz.func32, Tryz.ntmps32
    go_wp2_with fail
    go_ret
    exact ⟨ret_bool HF.out.symm, by go_grown⟩
  go_enter Tryz.func32, Tryz.ntmps32
  go_wp2_with fail
  go_loopw [10] (fun i wr => ∃ k : Nat, k ≤ n ∧ i = .int .i64 k ∧ (∀ i, i < k → msAt (K i) (C i) (R i) (T i) (M i) i ((n : Int) - 1 - i) = true) ∧ Below w.heap.size w wr) (fun i _ => n - (intOf i).toNat)
  case atStart => exact ⟨0, Nat.zero_le _, rfl, fun i hi => by omega, Below.refl _ _⟩
  case round =>
    obtain ⟨k, hk, rfl, hr, hbel⟩ := hrel
    have HI : Hid (∀ i, i < k → msAt (K i) (C i) (R i) (T i) (M i) i ((n : Int) - 1 - i) = true) := hr
    clear hr
    by_cases hlt : k < n
    · obtain ⟨b, o, rfl, hl, c0, c1, c2, c3, c4, _⟩ := HR.out.2 k hlt
      have HTk : Hid ((T k).size ≤ 1048576) := HT.out k hlt
      have hs := hbel.size
      have HGr : Hid (GI wr) := HG.out.below hbel
      rw [← hbel.cell (p := ⟨_, _, none⟩) hl] at c0 c1 c2 c3 c4
      have hl2 : b < wr.heap.size := Nat.lt_of_lt_of_le hl hs
      have h0 : (0 : Int) ≤ (k : Int) := by omega
      have h1 : (k : Int) < (n : Int) := by omega
      have hw1 : IntKind.i64.wrap ((n : Int) - 1) = (n : Int) - 1 := by rw [IntKind.wrap_i64]; omega
      have hw2 : IntKind.i64.wrap ((n : Int) - 1 - (k : Int)) = (n : Int) - 1 - (k : Int) := by rw [IntKind.wrap_i64]; omega
      cases hv : msAt (K k) (C k) (R k) (T k) (M k) k ((n : Int) - 1 - k)
      · have HV : Hid (_ = _) := hv
        have HF : Hid (msOkB K C R T M n = false) := msOk_no hlt hv
        clear hv
        go_wp2_with (go_at_call 72; refine (impl_isRight _ _ _ _ _ _ _ _ HTk.out (HGr.out.below (by go_grown))).mono ?_; rintro e w2 ⟨rfl, hb⟩; rw [HV.out]; have hk1 := bchain (w := wr) (by go_grown) hb; clear hb)
        go_ret
        exact ⟨ret_bool HF.out.symm, bchain hbel (by go_grown)⟩
      · have HV : Hid (msAt (K k) (C k) (R k) (T k) (M k) k ((n : Int) - 1 - k) = true) := hv
        clear hv
        go_wp2_with (go_at_call 72; refine (impl_isRight _ _ _ _ _ _ _ _ HTk.out (HGr.out.below (by go_grown))).mono ?_; rintro e w2 ⟨rfl, hb⟩; rw [HV.out]; have hk1 := bchain (w := wr) (by go_grown) hb; clear hb)
        go_roundw
        case rel => exact ⟨k + 1, by omega, by go_num, fun i hi => by
          by_cases e : i = k
          · subst e; exact HV.out
          · exact HI.out i (by omega), bchain hbel (by go_grown)⟩
        case measure => simp [intOf]; omega
    · have h1 : ¬ (k : Int) < (n : Int) := by omega
      obtain rfl : k = n := by omega
      go_wp2_with fail
      go_ret
      exact ⟨ret_bool (msOk_yes (by omega) HI.out).symm, hbel⟩
end Go.Proofs.YtbkklapkpiogoaaGreatDoor

namespace Go.Proofs.YtbkklapkpiogoaaGreatDoor
open Go.RowKit
set_option linter.unusedSimpArgs false
set_option linter.unusedVariables false

set_option maxRecDepth 100000 in
set_option maxHeartbeats 1000000 in
theorem spec_l11Formula (t : ByteArray) (w : World) (ht : t.size ≤ 1048576) : Calls Tryz.prog 69 #[.string t] w fun e w' => e = .returned (.bool (wrB t)) ∧ Below w.heap.size w w' := by
  have q : ¬ 9223372036854775807 < 1 + t.size := by omega
  have HZ : Hid (((⟨#[61]⟩ : ByteArray) ++ t).size ≤ maxLen) := by show _ ≤ _; rw [eq_size]; unfold maxLen; omega
  cases ho : inF ((⟨#[61]⟩ : ByteArray) ++ t) with
  | none =>
    have HO : Hid (inF ((⟨#[61]⟩ : ByteArray) ++ t) = none) := ho
    have HB : Hid (wrB t = false) := by show _ = _; unfold wrB ownB; rw [ho]
    clear ho
    go_enter Tryz.func69, Tryz.ntmps69
    go_wp2_with fail
    refine (spec_InputOf _ w HZ.out).mono ?_
    rintro e u1 ⟨he, hb⟩
    rw [HO.out] at he
    obtain rfl : e = .returned (.tuple #[.string ⟨#[]⟩, .bool false]) := he
    go_wp2_with fail
    go_ret
    exact ⟨ret_bool HB.out.symm, hb⟩
  | some x =>
    have HO : Hid (inF ((⟨#[61]⟩ : ByteArray) ++ t) = some x) := ho
    have HB : Hid (wrB t = (x.toList == ((⟨#[61]⟩ : ByteArray) ++ t).toList)) := by show _ = _; unfold wrB ownB; rw [ho]
    clear ho
    go_enter Tryz.func69, Tryz.ntmps69
    go_wp2_with fail
    refine (spec_InputOf _ w HZ.out).mono ?_
    rintro e u1 ⟨he, hb⟩
    rw [HO.out] at he
    obtain rfl : e = .returned (.tuple #[.string x, .bool true]) := he
    go_wp2_with fail
    go_ret
    exact ⟨ret_bool HB.out.symm, hb⟩
end Go.Proofs.YtbkklapkpiogoaaGreatDoor
