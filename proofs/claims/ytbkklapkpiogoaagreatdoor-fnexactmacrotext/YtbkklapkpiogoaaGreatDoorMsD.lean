import Derived.Test.YtbkklapkpiogoaaGreatDoorMsBC
import Derived.Test.YtbkklapkpiogoaaGreatDoorGai
namespace Go.Proofs.YtbkklapkpiogoaaGreatDoor
open Go.RowKit
set_option linter.unusedSimpArgs false
set_option linter.unusedVariables false

theorem opA_shapeM {o : Option ByteArray} {e : Ending} (h : opA o e) : ∃ t ok, e = .returned (.tuple #[.string t, .bool ok]) := by
  cases o with
  | none => exact ⟨_, _, h⟩
  | some t => exact ⟨_, _, h⟩
set_option maxRecDepth 100000 in
set_option maxHeartbeats 8000000 in
theorem spec_MacroOk {A : Option Addr} {n cap : Nat} {K C R : Nat → Int} {T : Nat → ByteArray} {M : Nat → Int} (w : World) (h : MsRow w A n K C R T M) (hT : ∀ i, i < n → (T i).size ≤ 1048576) :
    Calls Tryz.prog 30 #[.slice A n cap] w fun e w' => e = .returned (.bool (msOkB K C R T M n)) ∧ Below w.heap.size w w' := by
  have HR : Hid (MsRow w A n K C R T M) := h
  have HT : Hid (∀ i, i < n → (T i).size ≤ 1048576) := hT
  have hn := h.1
  unfold maxLen at hn
  clear h hT
  by_cases hbig : (30 : Int) < (n : Int)
  · have HF : Hid (msOkB K C R T M n = false) := msOk_big (by omega)
    go_enter Tryz.func30, Tryz.ntmps30
    go_wp2_with fail
    go_ret
    exact ⟨ret_bool HF.out.symm, by go_grown⟩
  go_enter Tryz.func30, Tryz.ntmps30
  go_wp2_with fail
  go_loopw [3] (fun i wr => ∃ k : Nat, k ≤ n ∧ i = .int .i64 k ∧ (∀ i, i < k → msAt (K i) (C i) (R i) (T i) (M i) i ((n : Int) - 1 - i) = true) ∧ Below w.heap.size w wr) (fun i _ => n - (intOf i).toNat)
  case atStart => exact ⟨0, Nat.zero_le _, rfl, fun i hi => by omega, Below.refl _ _⟩
  case round =>
    obtain ⟨k, hk0, rfl, hr, hbel⟩ := hrel
    have HI : Hid (∀ i, i < k → msAt (K i) (C i) (R i) (T i) (M i) i ((n : Int) - 1 - i) = true) := hr
    clear hr
    by_cases hlt : k < n
    · obtain ⟨b, o, rfl, hl, c0, c1, c2, c3, c4, _⟩ := HR.out.2 k hlt
      have HTk : Hid ((T k).size ≤ 1048576) := HT.out k hlt
      have HTm : Hid ((T k).size ≤ maxLen) := by have := HTk.out; exact (by unfold maxLen; omega : (T k).size ≤ maxLen)
      have hs := hbel.size
      rw [← hbel.cell (p := ⟨_, _, none⟩) hl] at c0 c1 c2 c3 c4
      have hl2 : b < wr.heap.size := Nat.lt_of_lt_of_le hl hs
      have h0 : (0 : Int) ≤ (k : Int) := by omega
      have h1 : (k : Int) < (n : Int) := by omega
      have hw1 : IntKind.i64.wrap ((n : Int) - 1) = (n : Int) - 1 := by rw [IntKind.wrap_i64]; omega
      have hw2 : IntKind.i64.wrap ((n : Int) - 1 - (k : Int)) = (n : Int) - 1 - (k : Int) := by rw [IntKind.wrap_i64]; omega
      by_cases hK1 : K k = 1
      · have hK := hK1
        rw [hK] at c0
        have HKK : Hid (K k = 1) := hK
        clear hK1 hK
        cases ho : refOkB (C k) (R k)
        · have HO0 : Hid (∀ x y, C k = x → R k = y → refOkB x y = false) := fun x y h1 h2 => by rw [← h1, ← h2]; exact ho
          have HF : Hid (msOkB K C R T M n = false) := msOk_no hlt (by unfold msAt; rw [HKK.out]; simp [ho])
          clear ho
          by_cases hc0 : C k = 0 <;> by_cases hr0 : R k = 0
          all_goals
            go_wp2_with (first
              | (go_at_call 54; refine (spec_RefOk _ _ _).mono ?_; rintro e w1 ⟨rfl, hb⟩; (first | rw [HO0.out _ _ hc0 hr0] | rw [HO0.out _ _ hc0 rfl] | rw [HO0.out _ _ rfl hr0] | rw [HO0.out _ _ rfl rfl]); first | (have hk2 := bchain hk hb; have hc2 := (kp hb).1; have hz2 := Nat.le_trans hz hb.size; clear hb) | (obtain ⟨hc, hf, hC, hF, hz, hk, l0⟩ := bk1 (w := wr) (by go_grown) (by go_size) hb; clear hb)))
            go_ret
            exact ⟨ret_bool HF.out.symm, bchain hbel (by go_grown)⟩
        have HO : Hid (refOkB (C k) (R k) = true) := ho
        have hc0 : ¬ C k = 0 := by simp only [refOkB, decide_eq_true_eq] at ho; omega
        have hc1 : (C k == 0) = false := by simpa using hc0
        by_cases hm : M k = 0
        rotate_left
        · have hm1 : (M k != 0) = true := by simpa using hm
          have HF : Hid (msOkB K C R T M n = false) := msOk_no hlt (by unfold msAt; rw [HKK.out]; simp [hm])
          clear ho
          go_wp2_with (first
            | (go_at_call 54; refine (spec_RefOk _ _ _).mono ?_; rintro e w1 ⟨rfl, hb⟩; rw [HO.out]; first | (have hk2 := bchain hk hb; have hc2 := (kp hb).1; have hz2 := Nat.le_trans hz hb.size; clear hb) | (obtain ⟨hc, hf, hC, hF, hz, hk, l0⟩ := bk1 (w := wr) (by go_grown) (by go_size) hb; clear hb)))
          go_ret
          exact ⟨ret_bool HF.out.symm, bchain hbel (by go_grown)⟩
        have hm1 : (M k != 0) = false := by simpa using hm
        cases hw : wrB (T k)
        · have HW : Hid (_ = _) := hw
          have HF : Hid (msOkB K C R T M n = false) := msOk_no hlt (by unfold msAt; rw [HKK.out]; simp [hw])
          clear ho hw
          go_wp2_with (first
            | (go_at_call 54; refine (spec_RefOk _ _ _).mono ?_; rintro e w1 ⟨rfl, hb⟩; rw [HO.out]; first | (have hk2 := bchain hk hb; have hc2 := (kp hb).1; have hz2 := Nat.le_trans hz hb.size; clear hb) | (obtain ⟨hc, hf, hC, hF, hz, hk, l0⟩ := bk1 (w := wr) (by go_grown) (by go_size) hb; clear hb))
            | (go_at_call 69; refine (spec_l11Formula _ _ HTk.out).mono ?_; rintro e w2 ⟨rfl, hb⟩; rw [HW.out]; first | (have hk2 := bchain hk hb; have hc2 := (kp hb).1; have hz2 := Nat.le_trans hz hb.size; clear hb) | (obtain ⟨hc, hf, hC, hF, hz, hk, l0⟩ := bk1 (w := wr) (by go_grown) (by go_size) hb; clear hb)))
          go_ret
          exact ⟨ret_bool HF.out.symm, bchain hbel (by go_grown)⟩
        · have HW : Hid (_ = _) := hw
          have HI' : Hid (∀ i, i < k + 1 → msAt (K i) (C i) (R i) (T i) (M i) i ((n : Int) - 1 - i) = true) := fun i hi => by
            by_cases e : i = k
            · subst e; unfold msAt; rw [HKK.out]; simp [ho, hw, hm]
            · exact HI.out i (by omega)
          clear ho hw
          go_wp2_with (first
            | (go_at_call 54; refine (spec_RefOk _ _ _).mono ?_; rintro e w1 ⟨rfl, hb⟩; rw [HO.out]; first | (have hk2 := bchain hk hb; have hc2 := (kp hb).1; have hz2 := Nat.le_trans hz hb.size; clear hb) | (obtain ⟨hc, hf, hC, hF, hz, hk, l0⟩ := bk1 (w := wr) (by go_grown) (by go_size) hb; clear hb))
            | (go_at_call 69; refine (spec_l11Formula _ _ HTk.out).mono ?_; rintro e w2 ⟨rfl, hb⟩; rw [HW.out]; first | (have hk2 := bchain hk hb; have hc2 := (kp hb).1; have hz2 := Nat.le_trans hz hb.size; clear hb) | (obtain ⟨hc, hf, hC, hF, hz, hk, l0⟩ := bk1 (w := wr) (by go_grown) (by go_size) hb; clear hb)))
          go_roundw
          case rel => exact ⟨k + 1, by omega, by go_num, HI'.out, bchain hbel (by go_grown)⟩
          case measure => simp [intOf]; omega
      by_cases hK2 : K k = 2
      · have hK := hK2
        rw [hK] at c0
        have HKK : Hid (K k = 2) := hK
        clear hK2 hK
        cases ho : refOkB (C k) (R k)
        · have HO0 : Hid (∀ x y, C k = x → R k = y → refOkB x y = false) := fun x y h1 h2 => by rw [← h1, ← h2]; exact ho
          have HF : Hid (msOkB K C R T M n = false) := msOk_no hlt (by unfold msAt; rw [HKK.out]; simp [ho])
          clear ho
          by_cases hc0 : C k = 0 <;> by_cases hr0 : R k = 0
          all_goals
            go_wp2_with (first
              | (go_at_call 54; refine (spec_RefOk _ _ _).mono ?_; rintro e w1 ⟨rfl, hb⟩; (first | rw [HO0.out _ _ hc0 hr0] | rw [HO0.out _ _ hc0 rfl] | rw [HO0.out _ _ rfl hr0] | rw [HO0.out _ _ rfl rfl]); first | (have hk2 := bchain hk hb; have hc2 := (kp hb).1; have hz2 := Nat.le_trans hz hb.size; clear hb) | (obtain ⟨hc, hf, hC, hF, hz, hk, l0⟩ := bk1 (w := wr) (by go_grown) (by go_size) hb; clear hb))
              | (go_at_call 12; refine (spec_InputOf _ _ HTm.out).mono ?_; rintro e w3 ⟨he, hb⟩; obtain ⟨txt, ok, rfl⟩ := opA_shapeM he; clear he; first | (have hk2 := bchain hk hb; have hc2 := (kp hb).1; have hz2 := Nat.le_trans hz hb.size; clear hb) | (obtain ⟨hc, hf, hC, hF, hz, hk, l0⟩ := bk1 (w := wr) (by go_grown) (by go_size) hb; clear hb)))
            go_ret
            exact ⟨ret_bool HF.out.symm, bchain hbel (by go_grown)⟩
        have HO : Hid (refOkB (C k) (R k) = true) := ho
        have hc0 : ¬ C k = 0 := by simp only [refOkB, decide_eq_true_eq] at ho; omega
        have hc1 : (C k == 0) = false := by simpa using hc0
        by_cases hm : M k = 0
        rotate_left
        · have hm1 : (M k != 0) = true := by simpa using hm
          have HF : Hid (msOkB K C R T M n = false) := msOk_no hlt (by unfold msAt; rw [HKK.out]; simp [hm])
          clear ho
          go_wp2_with (first
            | (go_at_call 54; refine (spec_RefOk _ _ _).mono ?_; rintro e w1 ⟨rfl, hb⟩; rw [HO.out]; first | (have hk2 := bchain hk hb; have hc2 := (kp hb).1; have hz2 := Nat.le_trans hz hb.size; clear hb) | (obtain ⟨hc, hf, hC, hF, hz, hk, l0⟩ := bk1 (w := wr) (by go_grown) (by go_size) hb; clear hb))
            | (go_at_call 12; refine (spec_InputOf _ _ HTm.out).mono ?_; rintro e w3 ⟨he, hb⟩; obtain ⟨txt, ok, rfl⟩ := opA_shapeM he; clear he; first | (have hk2 := bchain hk hb; have hc2 := (kp hb).1; have hz2 := Nat.le_trans hz hb.size; clear hb) | (obtain ⟨hc, hf, hC, hF, hz, hk, l0⟩ := bk1 (w := wr) (by go_grown) (by go_size) hb; clear hb)))
          go_ret
          exact ⟨ret_bool HF.out.symm, bchain hbel (by go_grown)⟩
        have hm1 : (M k != 0) = false := by simpa using hm
        cases hin : inF (T k) with
        | none =>
          have HIN : Hid (inF (T k) = none) := hin
          have HF : Hid (msOkB K C R T M n = false) := msOk_no hlt (by unfold msAt; rw [HKK.out]; simp [ownB, hin])
          clear ho hin
          go_wp2_with (first
            | (go_at_call 54; refine (spec_RefOk _ _ _).mono ?_; rintro e w1 ⟨rfl, hb⟩; rw [HO.out]; first | (have hk2 := bchain hk hb; have hc2 := (kp hb).1; have hz2 := Nat.le_trans hz hb.size; clear hb) | (obtain ⟨hc, hf, hC, hF, hz, hk, l0⟩ := bk1 (w := wr) (by go_grown) (by go_size) hb; clear hb))
            | (go_at_call 12; refine (spec_InputOf _ _ HTm.out).mono ?_; rintro e w3 ⟨he, hb⟩; rw [HIN.out] at he; obtain rfl : e = .returned (.tuple #[.string ⟨#[]⟩, .bool false]) := he; first | (have hk2 := bchain hk hb; have hc2 := (kp hb).1; have hz2 := Nat.le_trans hz hb.size; clear hb) | (obtain ⟨hc, hf, hC, hF, hz, hk, l0⟩ := bk1 (w := wr) (by go_grown) (by go_size) hb; clear hb)))
          go_ret
          exact ⟨ret_bool HF.out.symm, bchain hbel (by go_grown)⟩
        | some x =>
          have HIN : Hid (inF (T k) = some x) := hin
          cases hq : (x.toList == (T k).toList)
          · have hq2 : ¬ x.toList = (T k).toList := by simpa using hq
            have HF : Hid (msOkB K C R T M n = false) := msOk_no hlt (by unfold msAt; rw [HKK.out]; simp [ownB, hin, hq2])
            clear ho hin hq2
            go_wp2_with (first
              | (go_at_call 54; refine (spec_RefOk _ _ _).mono ?_; rintro e w1 ⟨rfl, hb⟩; rw [HO.out]; first | (have hk2 := bchain hk hb; have hc2 := (kp hb).1; have hz2 := Nat.le_trans hz hb.size; clear hb) | (obtain ⟨hc, hf, hC, hF, hz, hk, l0⟩ := bk1 (w := wr) (by go_grown) (by go_size) hb; clear hb))
              | (go_at_call 12; refine (spec_InputOf _ _ HTm.out).mono ?_; rintro e w3 ⟨he, hb⟩; rw [HIN.out] at he; obtain rfl : e = .returned (.tuple #[.string x, .bool true]) := he; first | (have hk2 := bchain hk hb; have hc2 := (kp hb).1; have hz2 := Nat.le_trans hz hb.size; clear hb) | (obtain ⟨hc, hf, hC, hF, hz, hk, l0⟩ := bk1 (w := wr) (by go_grown) (by go_size) hb; clear hb)))
            go_ret
            exact ⟨ret_bool HF.out.symm, bchain hbel (by go_grown)⟩
          · have hq2 : x.toList = (T k).toList := by simpa using hq
            have HI' : Hid (∀ i, i < k + 1 → msAt (K i) (C i) (R i) (T i) (M i) i ((n : Int) - 1 - i) = true) := fun i hi => by
              by_cases e : i = k
              · subst e; unfold msAt; rw [HKK.out]; simp [ownB, hin, hq2, ho, hm]
              · exact HI.out i (by omega)
            clear ho hin hq2
            go_wp2_with (first
              | (go_at_call 54; refine (spec_RefOk _ _ _).mono ?_; rintro e w1 ⟨rfl, hb⟩; rw [HO.out]; first | (have hk2 := bchain hk hb; have hc2 := (kp hb).1; have hz2 := Nat.le_trans hz hb.size; clear hb) | (obtain ⟨hc, hf, hC, hF, hz, hk, l0⟩ := bk1 (w := wr) (by go_grown) (by go_size) hb; clear hb))
              | (go_at_call 12; refine (spec_InputOf _ _ HTm.out).mono ?_; rintro e w3 ⟨he, hb⟩; rw [HIN.out] at he; obtain rfl : e = .returned (.tuple #[.string x, .bool true]) := he; first | (have hk2 := bchain hk hb; have hc2 := (kp hb).1; have hz2 := Nat.le_trans hz hb.size; clear hb) | (obtain ⟨hc, hf, hC, hF, hz, hk, l0⟩ := bk1 (w := wr) (by go_grown) (by go_size) hb; clear hb)))
            go_roundw
            case rel => exact ⟨k + 1, by omega, by go_num, HI'.out, bchain hbel (by go_grown)⟩
            case measure => simp [intOf]; omega
      by_cases hK3 : K k = 3
      · have hK := hK3
        rw [hK] at c0
        have HKK : Hid (K k = 3) := hK
        clear hK3 hK
        by_cases hc0 : C k = 0
        rotate_left
        · have hc1 : (C k == 0) = false := by simpa using hc0
          have HF : Hid (msOkB K C R T M n = false) := msOk_no hlt (by unfold msAt; rw [HKK.out]; simp [zerB, hc0])
          go_wp2_with fail
          go_ret
          exact ⟨ret_bool HF.out.symm, bchain hbel (by go_grown)⟩
        by_cases hr0 : R k = 0
        rotate_left
        · have hr1 : (R k == 0) = false := by simpa using hr0
          have HF : Hid (msOkB K C R T M n = false) := msOk_no hlt (by unfold msAt; rw [HKK.out]; simp [zerB, hr0])
          go_wp2_with fail
          go_ret
          exact ⟨ret_bool HF.out.symm, bchain hbel (by go_grown)⟩
        cases hib : inB (M k) 1 ((n : Int) - 1 - (k : Int))
        · have HIB : Hid (_ = _) := hib
          have hx : ¬ (1 ≤ M k ∧ M k ≤ (n : Int) - 1 - (k : Int)) := by simpa [inB] using hib
          have HF : Hid (msOkB K C R T M n = false) := msOk_no hlt (by unfold msAt; rw [HKK.out]; simp [hx])
          clear hib hx
          go_wp2_with (first
            | (go_at_call 70; refine (spec_l1InP _ _ _ _).mono ?_; rintro e w2 ⟨rfl, rfl⟩; rw [HIB.out]))
          go_ret
          exact ⟨ret_bool HF.out.symm, bchain hbel (by go_grown)⟩
        have HIB : Hid (inB (M k) 1 ((n : Int) - 1 - (k : Int)) = true) := hib
        have hx : 1 ≤ M k ∧ M k ≤ (n : Int) - 1 - (k : Int) := by simpa [inB] using hib
        cases hw : wrB (T k)
        · have HW : Hid (_ = _) := hw
          have HF : Hid (msOkB K C R T M n = false) := msOk_no hlt (by unfold msAt; rw [HKK.out]; simp [hw])
          clear hib hx hw
          go_wp2_with (first
            | (go_at_call 70; refine (spec_l1InP _ _ _ _).mono ?_; rintro e w2 ⟨rfl, rfl⟩; rw [HIB.out])
            | (go_at_call 69; refine (spec_l11Formula _ _ HTk.out).mono ?_; rintro e w2 ⟨rfl, hb⟩; rw [HW.out]; first | (have hk2 := bchain hk hb; have hc2 := (kp hb).1; have hz2 := Nat.le_trans hz hb.size; clear hb) | (obtain ⟨hc, hf, hC, hF, hz, hk, l0⟩ := bk1 (w := wr) (by go_grown) (by go_size) hb; clear hb)))
          go_ret
          exact ⟨ret_bool HF.out.symm, bchain hbel (by go_grown)⟩
        · have HW : Hid (_ = _) := hw
          have HI' : Hid (∀ i, i < k + 1 → msAt (K i) (C i) (R i) (T i) (M i) i ((n : Int) - 1 - i) = true) := fun i hi => by
            by_cases e : i = k
            · subst e; unfold msAt; rw [HKK.out]; simp [zerB, hc0, hr0, hw, hx]
            · exact HI.out i (by omega)
          clear hib hx hw
          go_wp2_with (first
            | (go_at_call 70; refine (spec_l1InP _ _ _ _).mono ?_; rintro e w2 ⟨rfl, rfl⟩; rw [HIB.out])
            | (go_at_call 69; refine (spec_l11Formula _ _ HTk.out).mono ?_; rintro e w2 ⟨rfl, hb⟩; rw [HW.out]; first | (have hk2 := bchain hk hb; have hc2 := (kp hb).1; have hz2 := Nat.le_trans hz hb.size; clear hb) | (obtain ⟨hc, hf, hC, hF, hz, hk, l0⟩ := bk1 (w := wr) (by go_grown) (by go_size) hb; clear hb)))
          go_roundw
          case rel => exact ⟨k + 1, by omega, by go_num, HI'.out, bchain hbel (by go_grown)⟩
          case measure => simp [intOf]; omega
      by_cases hK4 : K k = 4
      · have hK := hK4
        rw [hK] at c0
        have HKK : Hid (K k = 4) := hK
        clear hK4 hK
        by_cases hc0 : C k = 0
        rotate_left
        · have hc1 : (C k == 0) = false := by simpa using hc0
          have HF : Hid (msOkB K C R T M n = false) := msOk_no hlt (by unfold msAt; rw [HKK.out]; simp [zerB, hc0])
          go_wp2_with fail
          go_ret
          exact ⟨ret_bool HF.out.symm, bchain hbel (by go_grown)⟩
        by_cases hr0 : R k = 0
        rotate_left
        · have hr1 : (R k == 0) = false := by simpa using hr0
          have HF : Hid (msOkB K C R T M n = false) := msOk_no hlt (by unfold msAt; rw [HKK.out]; simp [zerB, hr0])
          go_wp2_with fail
          go_ret
          exact ⟨ret_bool HF.out.symm, bchain hbel (by go_grown)⟩
        cases hib : inB (M k) 1 ((k : Int))
        · have HIB : Hid (_ = _) := hib
          have hx : ¬ (1 ≤ M k ∧ M k ≤ (k : Int)) := by simpa [inB] using hib
          have HF : Hid (msOkB K C R T M n = false) := msOk_no hlt (by unfold msAt; rw [HKK.out]; simp [hx])
          clear hib hx
          go_wp2_with (first
            | (go_at_call 70; refine (spec_l1InP _ _ _ _).mono ?_; rintro e w2 ⟨rfl, rfl⟩; rw [HIB.out]))
          go_ret
          exact ⟨ret_bool HF.out.symm, bchain hbel (by go_grown)⟩
        have HIB : Hid (inB (M k) 1 ((k : Int)) = true) := hib
        have hx : 1 ≤ M k ∧ M k ≤ (k : Int) := by simpa [inB] using hib
        cases hw : wrB (T k)
        · have HW : Hid (_ = _) := hw
          have HF : Hid (msOkB K C R T M n = false) := msOk_no hlt (by unfold msAt; rw [HKK.out]; simp [hw])
          clear hib hx hw
          go_wp2_with (first
            | (go_at_call 70; refine (spec_l1InP _ _ _ _).mono ?_; rintro e w2 ⟨rfl, rfl⟩; rw [HIB.out])
            | (go_at_call 69; refine (spec_l11Formula _ _ HTk.out).mono ?_; rintro e w2 ⟨rfl, hb⟩; rw [HW.out]; first | (have hk2 := bchain hk hb; have hc2 := (kp hb).1; have hz2 := Nat.le_trans hz hb.size; clear hb) | (obtain ⟨hc, hf, hC, hF, hz, hk, l0⟩ := bk1 (w := wr) (by go_grown) (by go_size) hb; clear hb)))
          go_ret
          exact ⟨ret_bool HF.out.symm, bchain hbel (by go_grown)⟩
        · have HW : Hid (_ = _) := hw
          have HI' : Hid (∀ i, i < k + 1 → msAt (K i) (C i) (R i) (T i) (M i) i ((n : Int) - 1 - i) = true) := fun i hi => by
            by_cases e : i = k
            · subst e; unfold msAt; rw [HKK.out]; simp [zerB, hc0, hr0, hw, hx]
            · exact HI.out i (by omega)
          clear hib hx hw
          go_wp2_with (first
            | (go_at_call 70; refine (spec_l1InP _ _ _ _).mono ?_; rintro e w2 ⟨rfl, rfl⟩; rw [HIB.out])
            | (go_at_call 69; refine (spec_l11Formula _ _ HTk.out).mono ?_; rintro e w2 ⟨rfl, hb⟩; rw [HW.out]; first | (have hk2 := bchain hk hb; have hc2 := (kp hb).1; have hz2 := Nat.le_trans hz hb.size; clear hb) | (obtain ⟨hc, hf, hC, hF, hz, hk, l0⟩ := bk1 (w := wr) (by go_grown) (by go_size) hb; clear hb)))
          go_roundw
          case rel => exact ⟨k + 1, by omega, by go_num, HI'.out, bchain hbel (by go_grown)⟩
          case measure => simp [intOf]; omega
      by_cases hK5 : K k = 5
      · have hK := hK5
        rw [hK] at c0
        have HKK : Hid (K k = 5) := hK
        clear hK5 hK
        by_cases hc0 : C k = 0
        rotate_left
        · have hc1 : (C k == 0) = false := by simpa using hc0
          have HF : Hid (msOkB K C R T M n = false) := msOk_no hlt (by unfold msAt; rw [HKK.out]; simp [zerB, hc0])
          go_wp2_with fail
          go_ret
          exact ⟨ret_bool HF.out.symm, bchain hbel (by go_grown)⟩
        by_cases hr0 : R k = 0
        rotate_left
        · have hr1 : (R k == 0) = false := by simpa using hr0
          have HF : Hid (msOkB K C R T M n = false) := msOk_no hlt (by unfold msAt; rw [HKK.out]; simp [zerB, hr0])
          go_wp2_with fail
          go_ret
          exact ⟨ret_bool HF.out.symm, bchain hbel (by go_grown)⟩
        by_cases hm : M k = 0
        rotate_left
        · have hm1 : (M k != 0) = true := by simpa using hm
          have HF : Hid (msOkB K C R T M n = false) := msOk_no hlt (by unfold msAt; rw [HKK.out]; simp [hm])
          go_wp2_with fail
          go_ret
          exact ⟨ret_bool HF.out.symm, bchain hbel (by go_grown)⟩
        have hm1 : (M k != 0) = false := by simpa using hm
        cases hw : wrB (T k)
        · have HW : Hid (_ = _) := hw
          have HF : Hid (msOkB K C R T M n = false) := msOk_no hlt (by unfold msAt; rw [HKK.out]; simp [hw])
          clear hw
          go_wp2_with (first
            | (go_at_call 69; refine (spec_l11Formula _ _ HTk.out).mono ?_; rintro e w2 ⟨rfl, hb⟩; rw [HW.out]; first | (have hk2 := bchain hk hb; have hc2 := (kp hb).1; have hz2 := Nat.le_trans hz hb.size; clear hb) | (obtain ⟨hc, hf, hC, hF, hz, hk, l0⟩ := bk1 (w := wr) (by go_grown) (by go_size) hb; clear hb)))
          go_ret
          exact ⟨ret_bool HF.out.symm, bchain hbel (by go_grown)⟩
        · have HW : Hid (_ = _) := hw
          have HI' : Hid (∀ i, i < k + 1 → msAt (K i) (C i) (R i) (T i) (M i) i ((n : Int) - 1 - i) = true) := fun i hi => by
            by_cases e : i = k
            · subst e; unfold msAt; rw [HKK.out]; simp [zerB, hc0, hr0, hw, hm]
            · exact HI.out i (by omega)
          clear hw
          go_wp2_with (first
            | (go_at_call 69; refine (spec_l11Formula _ _ HTk.out).mono ?_; rintro e w2 ⟨rfl, hb⟩; rw [HW.out]; first | (have hk2 := bchain hk hb; have hc2 := (kp hb).1; have hz2 := Nat.le_trans hz hb.size; clear hb) | (obtain ⟨hc, hf, hC, hF, hz, hk, l0⟩ := bk1 (w := wr) (by go_grown) (by go_size) hb; clear hb)))
          go_roundw
          case rel => exact ⟨k + 1, by omega, by go_num, HI'.out, bchain hbel (by go_grown)⟩
          case measure => simp [intOf]; omega
      have HF : Hid (msOkB K C R T M n = false) := msOk_no hlt (by unfold msAt; rw [if_neg hK1, if_neg hK2, if_neg hK3, if_neg hK4, if_neg hK5])
      have n1 : (K k == 1) = false := by simpa using hK1
      have n2 : (K k == 2) = false := by simpa using hK2
      have n3 : (K k == 3) = false := by simpa using hK3
      have n4 : (K k == 4) = false := by simpa using hK4
      have n5 : (K k == 5) = false := by simpa using hK5
      go_wp2_with fail
      all_goals
        go_ret
        exact ⟨ret_bool HF.out.symm, bchain hbel (by go_grown)⟩
    · have h1 : ¬ (k : Int) < (n : Int) := by omega
      obtain rfl : k = n := by omega
      go_wp2_with fail
      go_ret
      exact ⟨ret_bool (msOk_yes (by omega) HI.out).symm, hbel⟩
end Go.Proofs.YtbkklapkpiogoaaGreatDoor
