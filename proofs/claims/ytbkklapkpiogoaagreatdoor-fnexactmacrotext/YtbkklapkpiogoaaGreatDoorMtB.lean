import Derived.Test.YtbkklapkpiogoaaGreatDoorMtA
import Derived.Test.YtbkklapkpiogoaaGreatDoorMsD
namespace Go.Proofs.YtbkklapkpiogoaaGreatDoor
open Go.RowKit
set_option linter.unusedSimpArgs false
set_option linter.unusedVariables false

/-- A line behind what stands, put together otherwise. -/
theorem cat_all (s w v p x : ByteArray) : s ++ (w ++ v ++ (p ++ (⟨#[32]⟩ : ByteArray)) ++ x ++ nlb) = s ++ (w ++ v) ++ p ++ ⟨#[32]⟩ ++ x ++ ⟨#[10]⟩ := by
  apply ByteArray.ext
  simp [nlb, Array.append_assoc]
theorem cat_five (s w v x : ByteArray) : s ++ (w ++ v ++ (⟨#[]⟩ : ByteArray) ++ x ++ nlb) = s ++ (w ++ v) ++ x ++ ⟨#[10]⟩ := by
  apply ByteArray.ext
  simp [nlb, Array.append_assoc]
set_option maxRecDepth 100000 in
set_option maxHeartbeats 2000000 in
theorem spec_PlaceText_noM (c r : Int) (x y : Bool) (w : World) (ho : refOkB c r = false) : Calls Tryz.prog 74 #[.agg #[.int .i64 c, .int .i64 r, .bool x, .bool y]] w fun e w' =>
    e = .returned (.string ⟨#[]⟩) ∧ Below w.heap.size w w' := by
  have HO : Hid (refOkB c r = false) := ho
  clear ho
  go_enter Tryz.func74, Tryz.ntmps74
  go_wp2_with (first
    | (go_at_call 54; refine (spec_RefOk _ _ _).mono ?_; rintro e w1 ⟨rfl, hb⟩; rw [HO.out]; obtain ⟨hc, hf, hC, hF, hz, hk, l0⟩ := bk1 (w := w) (by go_grown) (by go_size) hb; clear hb))
  go_ret
  exact ⟨rfl, by go_grown⟩

set_option maxRecDepth 100000 in
set_option maxHeartbeats 8000000 in
theorem spec_MacroText {A : Option Addr} {n cap : Nat} {K C R : Nat → Int} {T : Nat → ByteArray} {M : Nat → Int} (w : World) (h : MsRow w A n K C R T M) (hT : ∀ i, i < n → (T i).size ≤ 1048576) :
    Calls Tryz.prog 34 #[.slice A n cap] w fun e w' => e = .returned (.string (mtO K C R T M n)) ∧ Below w.heap.size w w' := by
  have HR : Hid (MsRow w A n K C R T M) := h
  have HT : Hid (∀ i, i < n → (T i).size ≤ 1048576) := hT
  have hn := h.1
  unfold maxLen at hn
  clear h hT
  cases hok : msOkB K C R T M n
  · have HOK : Hid (msOkB K C R T M n = false) := hok
    have HF : Hid (mtO K C R T M n = ⟨#[]⟩) := by show _ = _; unfold mtO; rw [hok]; exact (rfl : _ = _)
    clear hok
    go_enter Tryz.func34, Tryz.ntmps34
    go_wp2_with (go_at_call 30; refine (spec_MacroOk _ HR.out HT.out).mono ?_; rintro e w1 ⟨rfl, hb⟩; rw [HOK.out])
    go_ret
    exact ⟨ret_str HF.out.symm, hb⟩
  have HOK : Hid (msOkB K C R T M n = true) := hok
  have HF : Hid (mtO K C R T M n = mtT K C R T M n) := by show _ = _; unfold mtO; rw [hok, if_pos rfl]
  obtain ⟨hn30, hall⟩ := msOk_all hok
  have HALL : Hid (∀ i, i < n → msAt (K i) (C i) (R i) (T i) (M i) i ((n : Int) - 1 - i) = true) := hall
  clear hok hall
  go_enter Tryz.func34, Tryz.ntmps34
  go_wp2_with (go_at_call 30; refine (spec_MacroOk _ HR.out HT.out).mono ?_; rintro e w1 ⟨rfl, hb1⟩; rw [HOK.out])
  go_loopw [3, 4] (fun s i wr => ∃ k : Nat, k ≤ n ∧ i = .int .i64 k ∧ s = .string (mtT K C R T M k) ∧ Below w.heap.size w wr) (fun _ i _ => n - (intOf i).toNat)
  case atStart => exact ⟨0, Nat.zero_le _, rfl, rfl, hb1⟩
  case round =>
    clear hb1
    obtain ⟨k, hk0, rfl, rfl, hbel⟩ := hrel
    by_cases hlt : k < n
    · obtain ⟨b, o, rfl, hl, c0, c1, c2, c3, c4, _⟩ := HR.out.2 k hlt
      have HTk : Hid ((T k).size ≤ 1048576) := HT.out k hlt
      have hM := HALL.out k hlt
      have hs := hbel.size
      have HZ : Hid ((mtT K C R T M k).size ≤ 31457790) := by have := mtT_size (K := K) (C := C) (R := R) (M := M) k (fun i hi => HT.out i (by omega)); exact (by omega : (mtT K C R T M k).size ≤ 31457790)
      have HN0 : Hid (mtT K C R T M (k + 1) = mtT K C R T M k ++ (lineS (K k) (C k) (R k) (T k) (M k) ++ nlb)) := rfl
      rw [← hbel.cell (p := ⟨_, _, none⟩) hl] at c0 c1 c2 c3 c4
      have hl2 : b < wr.heap.size := Nat.lt_of_lt_of_le hl hs
      have h0 : (0 : Int) ≤ (k : Int) := by omega
      have h1 : (k : Int) < (n : Int) := by omega
      obtain ⟨s, HS⟩ : ∃ s : ByteArray, Hid (s = mtT K C R T M k) := ⟨_, rfl⟩
      obtain ⟨x, HX⟩ : ∃ x : ByteArray, Hid (x = T k) := ⟨_, rfl⟩
      rw [← HS.out] at HZ HN0 ⊢
      rw [← HX.out] at HTk HN0 c3
      have hz0 := HZ.out
      have hx := HTk.out
      have e10 : (⟨#[10]⟩ : ByteArray).size = 1 := rfl
      have e32 : (⟨#[32]⟩ : ByteArray).size = 1 := rfl
      rcases msAt_facts hM with ⟨hK, ho⟩ | ⟨hK, ho⟩ | ⟨hK, hC0, hR0, m1, m2⟩ | ⟨hK, hC0, hR0, m1, m2⟩ | ⟨hK, hC0, hR0⟩
      · rw [hK] at c0
        obtain ⟨i, hRi, hi⟩ := refOk_nat ho
        rw [hRi] at c2
        have HO : Hid (refOkB (C k) i = true) := by rw [hRi] at ho; exact ho
        have HN : Hid (mtT K C R T M (k + 1) = s ++ ⟨#[115, 101, 116, 32]⟩ ++ placeT (C k) i false false ++ ⟨#[32]⟩ ++ x ++ ⟨#[10]⟩) := by
          show _ = _
          rw [HN0.out, hK, hRi]
          unfold lineS midS; rw [if_pos (by omega)]; exact cat_all _ _ _ _ _
        have hp : (placeT (C k) i false false).size ≤ 8 := placeT_size _ _
        obtain ⟨p, HPP⟩ : ∃ p : ByteArray, Hid (p = placeT (C k) i false false) := ⟨_, rfl⟩
        rw [← HPP.out] at HN hp
        clear ho hK hRi
        obtain ⟨u, HU⟩ : ∃ u : ByteArray, Hid (u = ⟨#[115, 101, 116, 32]⟩) := ⟨_, rfl⟩
        have hu : u.size = 4 := by rw [HU.out]; rfl
        have a1 : ∀ W, (Op.stringOp .add s ⟨#[115, 101, 116, 32]⟩).run Tryz.prog W = .ok (.string (s ++ u)) W := fun W => by rw [← HU.out]; exact run_string_add_sum W _ _ (by omega)
        have a2 : ∀ W, (Op.stringOp .add (s ++ u) p).run Tryz.prog W = .ok (.string (s ++ u ++ p)) W := fun W => run_string_add_sum W _ _ (by rw [ByteArray.size_append]; omega)
        have a3 : ∀ W, (Op.stringOp .add (s ++ u ++ p) ⟨#[32]⟩).run Tryz.prog W = .ok (.string (s ++ u ++ p ++ ⟨#[32]⟩)) W := fun W => run_string_add_sum W _ _ (by rw [ByteArray.size_append, ByteArray.size_append]; omega)
        have a4 : ∀ W, (Op.stringOp .add (s ++ u ++ p ++ ⟨#[32]⟩) x).run Tryz.prog W = .ok (.string (s ++ u ++ p ++ ⟨#[32]⟩ ++ x)) W := fun W => run_string_add_sum W _ _ (by rw [ByteArray.size_append, ByteArray.size_append, ByteArray.size_append]; omega)
        have a5 : ∀ W, (Op.stringOp .add (s ++ u ++ p ++ ⟨#[32]⟩ ++ x) ⟨#[10]⟩).run Tryz.prog W = .ok (.string (s ++ u ++ p ++ ⟨#[32]⟩ ++ x ++ ⟨#[10]⟩)) W := fun W => run_string_add_sum W _ _ (by rw [ByteArray.size_append, ByteArray.size_append, ByteArray.size_append, ByteArray.size_append]; omega)
        rw [← HU.out] at HN
        go_wp2_with (go_at_call 74; refine (spec_PlaceText_ok (C k) i false false _ hi HO.out).mono ?_; rintro e w1 ⟨rfl, hb⟩; rw [← HPP.out]; obtain ⟨hc, hf, hC, hF, hz, hk, l0⟩ := bk1 (w := wr) (by go_grown) (by go_size) hb; clear hb)
        all_goals
          go_roundw
          case rel => exact ⟨k + 1, by omega, by go_num, by rw [HN.out], bchain hbel (by go_grown)⟩
          case measure => simp [intOf]; omega
      · rw [hK] at c0
        obtain ⟨i, hRi, hi⟩ := refOk_nat ho
        rw [hRi] at c2
        have HO : Hid (refOkB (C k) i = true) := by rw [hRi] at ho; exact ho
        have HN : Hid (mtT K C R T M (k + 1) = s ++ ⟨#[112, 117, 116, 32]⟩ ++ placeT (C k) i false false ++ ⟨#[32]⟩ ++ x ++ ⟨#[10]⟩) := by
          show _ = _
          rw [HN0.out, hK, hRi]
          unfold lineS midS; rw [if_pos (by omega)]; exact cat_all _ _ _ _ _
        have hp : (placeT (C k) i false false).size ≤ 8 := placeT_size _ _
        obtain ⟨p, HPP⟩ : ∃ p : ByteArray, Hid (p = placeT (C k) i false false) := ⟨_, rfl⟩
        rw [← HPP.out] at HN hp
        clear ho hK hRi
        obtain ⟨u, HU⟩ : ∃ u : ByteArray, Hid (u = ⟨#[112, 117, 116, 32]⟩) := ⟨_, rfl⟩
        have hu : u.size = 4 := by rw [HU.out]; rfl
        have a1 : ∀ W, (Op.stringOp .add s ⟨#[112, 117, 116, 32]⟩).run Tryz.prog W = .ok (.string (s ++ u)) W := fun W => by rw [← HU.out]; exact run_string_add_sum W _ _ (by omega)
        have a2 : ∀ W, (Op.stringOp .add (s ++ u) p).run Tryz.prog W = .ok (.string (s ++ u ++ p)) W := fun W => run_string_add_sum W _ _ (by rw [ByteArray.size_append]; omega)
        have a3 : ∀ W, (Op.stringOp .add (s ++ u ++ p) ⟨#[32]⟩).run Tryz.prog W = .ok (.string (s ++ u ++ p ++ ⟨#[32]⟩)) W := fun W => run_string_add_sum W _ _ (by rw [ByteArray.size_append, ByteArray.size_append]; omega)
        have a4 : ∀ W, (Op.stringOp .add (s ++ u ++ p ++ ⟨#[32]⟩) x).run Tryz.prog W = .ok (.string (s ++ u ++ p ++ ⟨#[32]⟩ ++ x)) W := fun W => run_string_add_sum W _ _ (by rw [ByteArray.size_append, ByteArray.size_append, ByteArray.size_append]; omega)
        have a5 : ∀ W, (Op.stringOp .add (s ++ u ++ p ++ ⟨#[32]⟩ ++ x) ⟨#[10]⟩).run Tryz.prog W = .ok (.string (s ++ u ++ p ++ ⟨#[32]⟩ ++ x ++ ⟨#[10]⟩)) W := fun W => run_string_add_sum W _ _ (by rw [ByteArray.size_append, ByteArray.size_append, ByteArray.size_append, ByteArray.size_append]; omega)
        rw [← HU.out] at HN
        go_wp2_with (go_at_call 74; refine (spec_PlaceText_ok (C k) i false false _ hi HO.out).mono ?_; rintro e w1 ⟨rfl, hb⟩; rw [← HPP.out]; obtain ⟨hc, hf, hC, hF, hz, hk, l0⟩ := bk1 (w := wr) (by go_grown) (by go_size) hb; clear hb)
        all_goals
          go_roundw
          case rel => exact ⟨k + 1, by omega, by go_num, by rw [HN.out], bchain hbel (by go_grown)⟩
          case measure => simp [intOf]; omega
      · rw [hK] at c0
        rw [hC0] at c1
        rw [hR0] at c2
        obtain ⟨i, hMi, hi⟩ : ∃ i : Nat, M k = (i : Int) ∧ i < 100 := ⟨(M k).toNat, by omega, by omega⟩
        rw [hMi] at c4
        have HN : Hid (mtT K C R T M (k + 1) = s ++ ⟨#[117, 110, 108, 101, 115, 115, 32]⟩ ++ decS i ++ ⟨#[32]⟩ ++ x ++ ⟨#[10]⟩) := by
          show _ = _
          rw [HN0.out, hK, hMi]
          unfold lineS midS; rw [if_neg (by omega), if_pos (by omega)]; exact cat_all _ _ _ _ _
        have hp : (decS i).size ≤ 2 := decS_size i
        obtain ⟨p, HPP⟩ : ∃ p : ByteArray, Hid (p = decS i) := ⟨_, rfl⟩
        rw [← HPP.out] at HN hp
        clear hK hC0 hR0 hMi m1 m2
        obtain ⟨u, HU⟩ : ∃ u : ByteArray, Hid (u = ⟨#[117, 110, 108, 101, 115, 115, 32]⟩) := ⟨_, rfl⟩
        have hu : u.size = 7 := by rw [HU.out]; rfl
        have a1 : ∀ W, (Op.stringOp .add s ⟨#[117, 110, 108, 101, 115, 115, 32]⟩).run Tryz.prog W = .ok (.string (s ++ u)) W := fun W => by rw [← HU.out]; exact run_string_add_sum W _ _ (by omega)
        have a2 : ∀ W, (Op.stringOp .add (s ++ u) p).run Tryz.prog W = .ok (.string (s ++ u ++ p)) W := fun W => run_string_add_sum W _ _ (by rw [ByteArray.size_append]; omega)
        have a3 : ∀ W, (Op.stringOp .add (s ++ u ++ p) ⟨#[32]⟩).run Tryz.prog W = .ok (.string (s ++ u ++ p ++ ⟨#[32]⟩)) W := fun W => run_string_add_sum W _ _ (by rw [ByteArray.size_append, ByteArray.size_append]; omega)
        have a4 : ∀ W, (Op.stringOp .add (s ++ u ++ p ++ ⟨#[32]⟩) x).run Tryz.prog W = .ok (.string (s ++ u ++ p ++ ⟨#[32]⟩ ++ x)) W := fun W => run_string_add_sum W _ _ (by rw [ByteArray.size_append, ByteArray.size_append, ByteArray.size_append]; omega)
        have a5 : ∀ W, (Op.stringOp .add (s ++ u ++ p ++ ⟨#[32]⟩ ++ x) ⟨#[10]⟩).run Tryz.prog W = .ok (.string (s ++ u ++ p ++ ⟨#[32]⟩ ++ x ++ ⟨#[10]⟩)) W := fun W => run_string_add_sum W _ _ (by rw [ByteArray.size_append, ByteArray.size_append, ByteArray.size_append, ByteArray.size_append]; omega)
        rw [← HU.out] at HN
        go_wp2_with (go_at_call 74; refine (spec_PlaceText_noM 0 0 false false _ (by decide)).mono ?_; rintro e w1 ⟨rfl, hb⟩; obtain ⟨hc, hf, hC, hF, hz, hk, l0⟩ := bk1 (w := wr) (by go_grown) (by go_size) hb; clear hb)
        have d3 : w1.cell? ⟨wr.heap.size, 3, none⟩ = some (.string x) := by rw [hc _ _ (by omega)]; simp
        have d4 : w1.cell? ⟨wr.heap.size, 4, none⟩ = some (.int .i64 i) := by rw [hc _ _ (by omega)]; simp
        go_region_held3 (fun w' => (∀ bq oq, bq < w1.heap.size → w'.cell? ⟨bq, oq, none⟩ = w1.cell? ⟨bq, oq, none⟩) ∧ w1.heap.size ≤ w'.heap.size ∧ Below w1.heap.size w1 w')
          (exact sc_of (by go_size) (by go_grown))
          (first
          | (go_at_call 75; refine (spec_l1Dec i hi _).mono ?_; rintro e w2 ⟨rfl, hb⟩; rw [← HPP.out]; obtain ⟨hk1, hz1⟩ := bframe (B := w1.heap.size) (X := w1) (by go_grown) (by go_size) hb; have hC2 := fun b o h => hk1.cell (p := ⟨b, o, none⟩) h; clear hb))
        all_goals go_wp2_with fail
        all_goals
          go_roundw
          case rel => exact ⟨k + 1, by omega, by go_num, by rw [HN.out], bchain hbel (bchain hk (by go_grown))⟩
          case measure => simp [intOf]; omega
      · rw [hK] at c0
        rw [hC0] at c1
        rw [hR0] at c2
        obtain ⟨i, hMi, hi⟩ : ∃ i : Nat, M k = (i : Int) ∧ i < 100 := ⟨(M k).toNat, by omega, by omega⟩
        rw [hMi] at c4
        have HN : Hid (mtT K C R T M (k + 1) = s ++ ⟨#[119, 104, 105, 108, 101, 32]⟩ ++ decS i ++ ⟨#[32]⟩ ++ x ++ ⟨#[10]⟩) := by
          show _ = _
          rw [HN0.out, hK, hMi]
          unfold lineS midS; rw [if_neg (by omega), if_pos (by omega)]; exact cat_all _ _ _ _ _
        have hp : (decS i).size ≤ 2 := decS_size i
        obtain ⟨p, HPP⟩ : ∃ p : ByteArray, Hid (p = decS i) := ⟨_, rfl⟩
        rw [← HPP.out] at HN hp
        clear hK hC0 hR0 hMi m1 m2
        obtain ⟨u, HU⟩ : ∃ u : ByteArray, Hid (u = ⟨#[119, 104, 105, 108, 101, 32]⟩) := ⟨_, rfl⟩
        have hu : u.size = 6 := by rw [HU.out]; rfl
        have a1 : ∀ W, (Op.stringOp .add s ⟨#[119, 104, 105, 108, 101, 32]⟩).run Tryz.prog W = .ok (.string (s ++ u)) W := fun W => by rw [← HU.out]; exact run_string_add_sum W _ _ (by omega)
        have a2 : ∀ W, (Op.stringOp .add (s ++ u) p).run Tryz.prog W = .ok (.string (s ++ u ++ p)) W := fun W => run_string_add_sum W _ _ (by rw [ByteArray.size_append]; omega)
        have a3 : ∀ W, (Op.stringOp .add (s ++ u ++ p) ⟨#[32]⟩).run Tryz.prog W = .ok (.string (s ++ u ++ p ++ ⟨#[32]⟩)) W := fun W => run_string_add_sum W _ _ (by rw [ByteArray.size_append, ByteArray.size_append]; omega)
        have a4 : ∀ W, (Op.stringOp .add (s ++ u ++ p ++ ⟨#[32]⟩) x).run Tryz.prog W = .ok (.string (s ++ u ++ p ++ ⟨#[32]⟩ ++ x)) W := fun W => run_string_add_sum W _ _ (by rw [ByteArray.size_append, ByteArray.size_append, ByteArray.size_append]; omega)
        have a5 : ∀ W, (Op.stringOp .add (s ++ u ++ p ++ ⟨#[32]⟩ ++ x) ⟨#[10]⟩).run Tryz.prog W = .ok (.string (s ++ u ++ p ++ ⟨#[32]⟩ ++ x ++ ⟨#[10]⟩)) W := fun W => run_string_add_sum W _ _ (by rw [ByteArray.size_append, ByteArray.size_append, ByteArray.size_append, ByteArray.size_append]; omega)
        rw [← HU.out] at HN
        go_wp2_with (go_at_call 74; refine (spec_PlaceText_noM 0 0 false false _ (by decide)).mono ?_; rintro e w1 ⟨rfl, hb⟩; obtain ⟨hc, hf, hC, hF, hz, hk, l0⟩ := bk1 (w := wr) (by go_grown) (by go_size) hb; clear hb)
        have d3 : w1.cell? ⟨wr.heap.size, 3, none⟩ = some (.string x) := by rw [hc _ _ (by omega)]; simp
        have d4 : w1.cell? ⟨wr.heap.size, 4, none⟩ = some (.int .i64 i) := by rw [hc _ _ (by omega)]; simp
        go_region_held3 (fun w' => (∀ bq oq, bq < w1.heap.size → w'.cell? ⟨bq, oq, none⟩ = w1.cell? ⟨bq, oq, none⟩) ∧ w1.heap.size ≤ w'.heap.size ∧ Below w1.heap.size w1 w')
          (exact sc_of (by go_size) (by go_grown))
          (first
          | (go_at_call 75; refine (spec_l1Dec i hi _).mono ?_; rintro e w2 ⟨rfl, hb⟩; rw [← HPP.out]; obtain ⟨hk1, hz1⟩ := bframe (B := w1.heap.size) (X := w1) (by go_grown) (by go_size) hb; have hC2 := fun b o h => hk1.cell (p := ⟨b, o, none⟩) h; clear hb))
        all_goals go_wp2_with fail
        all_goals
          go_roundw
          case rel => exact ⟨k + 1, by omega, by go_num, by rw [HN.out], bchain hbel (bchain hk (by go_grown))⟩
          case measure => simp [intOf]; omega
      · rw [hK] at c0
        rw [hC0] at c1
        rw [hR0] at c2
        have HN : Hid (mtT K C R T M (k + 1) = s ++ ⟨#[97, 98, 111, 114, 116, 32]⟩ ++ x ++ ⟨#[10]⟩) := by
          show _ = _
          rw [HN0.out, hK]
          unfold lineS midS; rw [if_neg (by omega), if_neg (by omega)]; exact cat_five _ _ _ _
        clear hK hC0 hR0
        obtain ⟨u, HU⟩ : ∃ u : ByteArray, Hid (u = ⟨#[97, 98, 111, 114, 116, 32]⟩) := ⟨_, rfl⟩
        have hu : u.size = 6 := by rw [HU.out]; rfl
        have a1 : ∀ W, (Op.stringOp .add s ⟨#[97, 98, 111, 114, 116, 32]⟩).run Tryz.prog W = .ok (.string (s ++ u)) W := fun W => by rw [← HU.out]; exact run_string_add_sum W _ _ (by omega)
        have a2 : ∀ W, (Op.stringOp .add (s ++ u) x).run Tryz.prog W = .ok (.string (s ++ u ++ x)) W := fun W => run_string_add_sum W _ _ (by rw [ByteArray.size_append]; omega)
        have a3 : ∀ W, (Op.stringOp .add (s ++ u ++ x) ⟨#[10]⟩).run Tryz.prog W = .ok (.string (s ++ u ++ x ++ ⟨#[10]⟩)) W := fun W => run_string_add_sum W _ _ (by rw [ByteArray.size_append, ByteArray.size_append]; omega)
        rw [← HU.out] at HN
        go_wp2_with (go_at_call 74; refine (spec_PlaceText_noM 0 0 false false _ (by decide)).mono ?_; rintro e w1 ⟨rfl, hb⟩; obtain ⟨hc, hf, hC, hF, hz, hk, l0⟩ := bk1 (w := wr) (by go_grown) (by go_size) hb; clear hb)
        all_goals
          go_roundw
          case rel => exact ⟨k + 1, by omega, by go_num, by rw [HN.out], bchain hbel (by go_grown)⟩
          case measure => simp [intOf]; omega
    · have h1 : ¬ (k : Int) < (n : Int) := by omega
      obtain rfl : k = n := by omega
      go_wp2_with fail
      go_ret
      exact ⟨ret_str HF.out.symm, hbel⟩
end Go.Proofs.YtbkklapkpiogoaaGreatDoor
