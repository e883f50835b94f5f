import Derived.Test.YtjcicndioddcmaaDoorPlaceC
import Derived.Deep.RegionHeld3
namespace Go.Proofs.YtjcicndioddcmaaDoor
open Go.RowKit

def fx (b : Bool) : ByteArray := if b then ⟨#[36]⟩ else ⟨#[]⟩
set_option maxHeartbeats 400000 in
theorem impl_fixText (b : Bool) (w : World) : Calls Tryd.prog 39 #[.bool b] w fun e w' => e = .returned (.string (fx b)) ∧ w' = w := by
  cases b
  all_goals
    go_enter Tryd.func39, Tryd.ntmps39
    go_wp2
    go_ret
    exact ⟨rfl, rfl⟩
theorem fx_size (b : Bool) : (fx b).size ≤ 1 := by cases b <;> decide
theorem colT_size (n : Int) : (colT n).size ≤ 2 := by
  unfold colT
  split
  · exact Nat.le_succ 1
  · split
    · exact Nat.le_refl 2
    · exact Nat.zero_le 2
theorem decS_size (i : Nat) : (decS i).size ≤ 2 := by
  unfold decS
  split
  · exact Nat.le_succ 1
  · exact Nat.le_refl 2
def placeT (c : Int) (i : Nat) (x y : Bool) : ByteArray := fx x ++ colT c ++ fx y ++ decS i

set_option maxHeartbeats 2000000 in
theorem impl_PlaceText_ok (c : Int) (i : Nat) (x y : Bool) (w : World) (hi : i < 100) (ho : refOkB c i = true) : Calls Tryd.prog 16 #[.agg #[.int .i64 c, .int .i64 i, .bool x, .bool y]] w fun e w' =>
    e = .returned (.string (placeT c i x y)) ∧ Below w.heap.size w w' := by
  have HO : Hid (refOkB c i = true) := ho
  clear ho
  obtain ⟨r1, r2, r3⟩ : (∀ W, (Op.stringOp .add (fx x) (colT c)).run Tryd.prog W = .ok (.string (fx x ++ colT c)) W) ∧ (∀ W, (Op.stringOp .add (fx x ++ colT c) (fx y)).run Tryd.prog W = .ok (.string (fx x ++ colT c ++ fx y)) W) ∧ (∀ W, (Op.stringOp .add (fx x ++ colT c ++ fx y) (decS i)).run Tryd.prog W = .ok (.string (fx x ++ colT c ++ fx y ++ decS i)) W) := by
    have s1 := fx_size x
    have s2 := fx_size y
    have s3 := colT_size c
    have s4 := decS_size i
    refine ⟨fun W => run_string_add_sum W _ _ ?_, fun W => run_string_add_sum W _ _ ?_, fun W => run_string_add_sum W _ _ ?_⟩
    · omega
    · rw [ByteArray.size_append]; omega
    · rw [ByteArray.size_append, ByteArray.size_append]; omega
  go_enter Tryd.func16, Tryd.ntmps16
  go_wp2_with (first
    | (go_at_call 19; refine (impl_RefOk _ _ _).mono ?_; rintro e w1 ⟨rfl, hb⟩; rw [HO.out]; obtain ⟨hk, hz⟩ := bframe (B := w.heap.size + 1) (X := (w.alloc (.cells #[.int .i64 c, .int .i64 i, .bool x, .bool y] 31))) (by go_grown) (by go_size) hb; have hC := fun b o h => hk.cell (p := ⟨b, o, none⟩) h; clear hb))
  go_region_held3 (fun w' => (∀ bq oq, bq < w.heap.size + 1 → w'.cell? ⟨bq, oq, none⟩ = (w.alloc (.cells #[.int .i64 c, .int .i64 i, .bool x, .bool y] 31)).cell? ⟨bq, oq, none⟩) ∧ w.heap.size + 1 ≤ w'.heap.size ∧ Below (w.heap.size + 1) (w.alloc (.cells #[.int .i64 c, .int .i64 i, .bool x, .bool y] 31)) w')
    (exact sc_of (by go_size) (by go_grown))
    (first
    | (go_at_call 39; refine (impl_fixText _ _).mono ?_; rintro e w1 ⟨rfl, rfl⟩)
    | (go_at_call 10; refine (impl_ColText _ _).mono ?_; rintro e wr ⟨rfl, hb⟩; obtain ⟨hk, hz⟩ := bframe (B := w.heap.size + 1) (X := (w.alloc (.cells #[.int .i64 c, .int .i64 i, .bool x, .bool y] 31))) (by go_grown) (by go_size) hb; have hC := fun b o h => hk.cell (p := ⟨b, o, none⟩) h; clear hb)
    | (go_at_call 40; refine (lib_FormatInt i hi _).mono ?_; rintro e w1 ⟨rfl, rfl⟩))
  all_goals go_wp2_with fail
  all_goals go_ret
  all_goals exact ⟨rfl, bfin (n := 1) (X := (w.alloc (.cells #[.int .i64 c, .int .i64 i, .bool x, .bool y] 31))) (by go_grown) (by go_grown)⟩

set_option maxHeartbeats 2000000 in
theorem impl_PlaceText_no (c r : Int) (x y : Bool) (w : World) (ho : refOkB c r = false) : Calls Tryd.prog 16 #[.agg #[.int .i64 c, .int .i64 r, .bool x, .bool y]] w fun e w' =>
    e = .returned (.string ⟨#[]⟩) ∧ Below w.heap.size w w' := by
  have HO : Hid (refOkB c r = false) := ho
  clear ho
  go_enter Tryd.func16, Tryd.ntmps16
  go_wp2_with (first
    | (go_at_call 19; refine (impl_RefOk _ _ _).mono ?_; rintro e w1 ⟨rfl, hb⟩; rw [HO.out]; obtain ⟨hc, hf, hC, hF, hz, hk, l0⟩ := bk1 (w := w) (by go_grown) (by go_size) hb; clear hb))
  go_ret
  exact ⟨rfl, by go_grown⟩

set_option maxHeartbeats 2000000 in
theorem spec_PlaceText_no (c r : Int) (x y : Bool) (w : World) (ho : refOkB c r = false) : Calls Tryd.prog 18 #[.agg #[.int .i64 c, .int .i64 r, .bool x, .bool y]] w fun e w' =>
    e = .returned (.string ⟨#[]⟩) ∧ Below w.heap.size w w' := by
  have HO : Hid (refOkB c r = false) := ho
  clear ho
  go_enter Tryd.func18, Tryd.ntmps18
  go_wp2_with (first
    | (go_at_call 44; refine (spec_RefOk _ _ _).mono ?_; rintro e w1 ⟨rfl, hb⟩; rw [HO.out]; obtain ⟨hc, hf, hC, hF, hz, hk, l0⟩ := bk1 (w := w) (by go_grown) (by go_size) hb; clear hb))
  go_ret
  exact ⟨rfl, by go_grown⟩

theorem nil_cat (x : ByteArray) : (⟨#[]⟩ : ByteArray) ++ x = x := by apply ByteArray.ext; simp
set_option maxHeartbeats 4000000 in
theorem spec_PlaceText_ok (c : Int) (i : Nat) (x y : Bool) (w : World) (hi : i < 100) (ho : refOkB c i = true) : Calls Tryd.prog 18 #[.agg #[.int .i64 c, .int .i64 i, .bool x, .bool y]] w fun e w' =>
    e = .returned (.string (placeT c i x y)) ∧ Below w.heap.size w w' := by
  have HO : Hid (refOkB c i = true) := ho
  clear ho
  obtain ⟨r1, r2, r3, r4, r5⟩ : (∀ W, (Op.stringOp .add ⟨#[36]⟩ (colT c)).run Tryd.prog W = .ok (.string (⟨#[36]⟩ ++ colT c)) W) ∧ (∀ W, (Op.stringOp .add (⟨#[36]⟩ ++ colT c) ⟨#[36]⟩).run Tryd.prog W = .ok (.string (⟨#[36]⟩ ++ colT c ++ ⟨#[36]⟩)) W) ∧ (∀ W, (Op.stringOp .add (colT c) ⟨#[36]⟩).run Tryd.prog W = .ok (.string (colT c ++ ⟨#[36]⟩)) W) ∧
      (∀ s : ByteArray, s.size ≤ 10 → ∀ W, (Op.stringOp .add s (decS i)).run Tryd.prog W = .ok (.string (s ++ decS i)) W) ∧ (colT c).size ≤ 2 := by
    have s3 := colT_size c
    have s4 := decS_size i
    have s5 : (⟨#[36]⟩ : ByteArray).size = 1 := rfl
    refine ⟨fun W => run_string_add_sum W _ _ ?_, fun W => run_string_add_sum W _ _ ?_, fun W => run_string_add_sum W _ _ ?_, fun s hs W => run_string_add_sum W _ _ ?_, s3⟩
    · omega
    · rw [ByteArray.size_append]; omega
    · omega
    · omega
  have q1 := r4 (colT c) (by omega)
  have q2 := r4 (⟨#[36]⟩ ++ colT c) (by rw [ByteArray.size_append]; have : (⟨#[36]⟩ : ByteArray).size = 1 := rfl; omega)
  have q3 := r4 (colT c ++ ⟨#[36]⟩) (by rw [ByteArray.size_append]; have : (⟨#[36]⟩ : ByteArray).size = 1 := rfl; omega)
  have q4 := r4 (⟨#[36]⟩ ++ colT c ++ ⟨#[36]⟩) (by rw [ByteArray.size_append, ByteArray.size_append]; have : (⟨#[36]⟩ : ByteArray).size = 1 := rfl; omega)
  clear r4 r5
  cases x <;> cases y
  all_goals
    go_enter Tryd.func18, Tryd.ntmps18
    go_wp2_with (first
      | (go_at_call 44; refine (spec_RefOk _ _ _).mono ?_; rintro e w1 ⟨rfl, hb⟩; rw [HO.out]; obtain ⟨hc, hf, hC, hF, hz, hk, l0⟩ := bk1 (w := w) (by go_grown) (by go_size) hb; clear hb)
      | (go_at_call 12; refine (spec_ColText _ _).mono ?_; rintro e w1 ⟨rfl, hb⟩; obtain ⟨hc, hf, hC, hF, hz, hk, l0⟩ := bk1 (w := w) (by go_grown) (by go_size) hb; clear hb)
      | (go_at_call 45; refine (spec_l1Dec i hi _).mono ?_; rintro e w1 ⟨rfl, hb⟩; obtain ⟨hc, hf, hC, hF, hz, hk, l0⟩ := bk1 (w := w) (by go_grown) (by go_size) hb; clear hb))
    go_ret
    exact ⟨ret_str (by simp [placeT, fx, nil_cat, cat_nil]), by go_grown⟩
end Go.Proofs.YtjcicndioddcmaaDoor
