import Derived.Test.YtljbnbapmjoecaaGreatDoorRefs
import Derived.Laws.IdiomStrings
import Derived.Laws.Cover4
import Derived.Test.YtljbnbapmjoecaaGreatDoorStrs
import Derived.Deep.RegionHeld3
namespace Go.Proofs.YtljbnbapmjoecaaGreatDoor
open Go.RowKit

def inB (n l h : Int) : Bool := decide (l ≤ n ∧ n ≤ h)

set_option maxHeartbeats 400000 in
theorem spec_l1InP (n l h : Int) (w : World) : Calls Tryz.prog 47 #[.int .i64 n, .int .i64 l, .int .i64 h] w fun e w' =>
    e = .returned (.bool (inB n l h)) ∧ w' = w := by
  go_enter Tryz.func47, Tryz.ntmps47
  go_wp2
  all_goals
    go_ret
    refine ⟨ret_bool ?_, rfl⟩
    unfold inB
    rw [Bool.eq_iff_iff]
    simp
    try omega

end Go.Proofs.YtljbnbapmjoecaaGreatDoor
namespace Go.Proofs.YtljbnbapmjoecaaGreatDoor
open Go.RowKit

/-- The letters of a column, as bytes. -/
def colT (n : Int) : ByteArray := if 1 ≤ n ∧ n ≤ 26 then ⟨#[UInt8.ofNat (65 + (n - 1)).toNat]⟩ else if 27 ≤ n ∧ n ≤ 52 then ⟨#[65, UInt8.ofNat (65 + (n - 27)).toNat]⟩ else ⟨#[]⟩
theorem colT_one {n : Int} (h : 1 ≤ n) (h' : n ≤ 26) : colT n = ⟨#[UInt8.ofNat (65 + (n - 1)).toNat]⟩ := by unfold colT; rw [if_pos ⟨h, h'⟩]
theorem colT_two {n : Int} (h : 27 ≤ n) (h' : n ≤ 52) : colT n = ⟨#[65, UInt8.ofNat (65 + (n - 27)).toNat]⟩ := by unfold colT; rw [if_neg (by omega), if_pos ⟨h, h'⟩]
theorem colT_no {n : Int} (h : n < 1 ∨ 52 < n) : colT n = ⟨#[]⟩ := by unfold colT; rw [if_neg (by omega), if_neg (by omega)]

theorem encode_ascii (r : Int) (h0 : 0 ≤ r) (h1 : r < 128) : Utf8.encode r = ⟨#[UInt8.ofNat r.toNat]⟩ := by
  unfold Utf8.encode
  have hv : Utf8.valid r = true := by unfold Utf8.valid; simp; omega
  simp only [hv, if_true]
  rw [if_pos (by omega)]

theorem cat_nilP (x : ByteArray) : x ++ (⟨#[]⟩ : ByteArray) = x := by apply ByteArray.ext; simp
theorem cat_oneP (x y : UInt8) : (⟨#[x]⟩ : ByteArray) ++ (⟨#[y]⟩ : ByteArray) = ⟨#[x, y]⟩ := by apply ByteArray.ext; simp

theorem conv0P (W : World) (b : Nat) (v : Int) (hv : W.cell? ⟨b, 0, none⟩ = some (.int .u8 v)) :
    (convert 22 9 (.slice (some ⟨b, 0, none⟩) 1 1)).run Tryz.prog W = .ok (.string ⟨#[UInt8.ofNat v.toNat]⟩) W := by
  rw [run_convert_bytes_string W 22 9 5 (some ⟨b, 0, none⟩) 1 1 Tryz.underlying22 Tryz.underlying5 Tryz.underlying9]
  have hl := run_loadCells_list (P := Tryz.prog) W ⟨b, 0, none⟩ [.int .u8 v] (fun j x hj => by
    match j, hj with
    | 0, hj => simp at hj; simpa [Addr.add, ← hj] using hv)
  rw [run_bytesToString W ⟨b, 0, none⟩ 1 1 [v] (by simpa using hl)]
  rfl
theorem conv1P (W : World) (v : Int) : (convert 22 9 (.slice (some ⟨W.heap.size, 0, none⟩) 1 1)).run Tryz.prog (W.alloc (.cells #[.int .u8 v] 5)) =
    .ok (.string ⟨#[UInt8.ofNat v.toNat]⟩) (W.alloc (.cells #[.int .u8 v] 5)) := conv0P _ _ v (by simp)
theorem conv2 (W : World) (o : Obj) (v : Int) : (convert 22 9 (.slice (some ⟨W.heap.size + 1, 0, none⟩) 1 1)).run Tryz.prog ((W.alloc o).alloc (.cells #[.int .u8 v] 5)) =
    .ok (.string ⟨#[UInt8.ofNat v.toNat]⟩) ((W.alloc o).alloc (.cells #[.int .u8 v] 5)) := conv0P _ _ v (by simp [go_sem])

set_option maxHeartbeats 400000 in
theorem impl_ColText (n : Int) (w : World) : Calls Tryz.prog 139 #[.int .i64 n] w fun e w' =>
    e = .returned (.string (colT n)) ∧ Below w.heap.size w w' := by
  by_cases h1 : n < 1
  · go_enter Tryz.func139, Tryz.ntmps139
    go_wp2
    go_ret
    exact ⟨ret_str (colT_no (by omega)).symm, by go_grown⟩
  by_cases h2 : 52 < n
  · go_enter Tryz.func139, Tryz.ntmps139
    go_wp2
    go_ret
    exact ⟨ret_str (colT_no (by omega)).symm, by go_grown⟩
  by_cases h3 : n ≤ 26
  · have hm : (n - 1) % 26 = n - 1 := by omega
    have hd : (n - 1) / 26 = 0 := by omega
    have he := encode_ascii (65 + (n - 1)) (by omega) (by omega)
    go_enter Tryz.func139, Tryz.ntmps139
    go_wp2
    refine wp_loop_rounds 3 ?_
    rw [rounds_succ]
    go_wp2
    rw [rounds_succ]
    go_wp2
    go_ret
    exact ⟨ret_str (by rw [colT_one (by omega) h3, cat_nilP]), by go_grown⟩
  · have hm : (n - 1) % 26 = n - 27 := by omega
    have hd : (n - 1) / 26 = 1 := by omega
    have he := encode_ascii (65 + (n - 27)) (by omega) (by omega)
    have he' : Utf8.encode 65 = ⟨#[65]⟩ := encode_ascii 65 (by omega) (by omega)
    go_enter Tryz.func139, Tryz.ntmps139
    go_wp2
    refine wp_loop_rounds 3 ?_
    rw [rounds_succ]
    go_wp2
    rw [rounds_succ]
    go_wp2
    rw [rounds_succ]
    go_wp2
    go_ret
    exact ⟨ret_str (by rw [colT_two (by omega) (by omega), cat_nilP, cat_oneP]), by go_grown⟩
set_option maxHeartbeats 400000 in
theorem spec_ColText (n : Int) (w : World) : Calls Tryz.prog 150 #[.int .i64 n] w fun e w' =>
    e = .returned (.string (colT n)) ∧ Below w.heap.size w w' := by
  by_cases h1 : n < 1
  · have hin : inB n 1 52 = false := by unfold inB; simp; omega
    go_enter Tryz.func150, Tryz.ntmps150
    go_wp2_with (first
      | (go_at_call 47; refine (spec_l1InP _ _ _ _).mono ?_; rintro e w1 ⟨rfl, rfl⟩))
    go_ret
    exact ⟨ret_str (colT_no (by omega)).symm, by go_grown⟩
  by_cases h2 : 52 < n
  · have hin : inB n 1 52 = false := by unfold inB; simp; omega
    go_enter Tryz.func150, Tryz.ntmps150
    go_wp2_with (first
      | (go_at_call 47; refine (spec_l1InP _ _ _ _).mono ?_; rintro e w1 ⟨rfl, rfl⟩))
    go_ret
    exact ⟨ret_str (colT_no (by omega)).symm, by go_grown⟩
  have hin : inB n 1 52 = true := by unfold inB; simp; omega
  have cv1 := conv1P
  have cv2 := conv2
  by_cases h3 : n ≤ 26
  · have hm : (n - 1) % 26 = n - 1 := by omega
    have hd : (n - 1) / 26 = 0 := by omega
    go_enter Tryz.func150, Tryz.ntmps150
    go_wp2_with (first
      | (go_at_call 47; refine (spec_l1InP _ _ _ _).mono ?_; rintro e w1 ⟨rfl, rfl⟩))
    refine wp_loop_rounds 3 ?_
    rw [rounds_succ]
    go_wp2
    rw [rounds_succ]
    go_wp2
    go_ret
    exact ⟨ret_str (by rw [colT_one (by omega) h3, cat_nilP]), by go_grown⟩
  · have hm : (n - 1) % 26 = n - 27 := by omega
    have hd : (n - 1) / 26 = 1 := by omega
    go_enter Tryz.func150, Tryz.ntmps150
    go_wp2_with (first
      | (go_at_call 47; refine (spec_l1InP _ _ _ _).mono ?_; rintro e w1 ⟨rfl, rfl⟩))
    refine wp_loop_rounds 3 ?_
    rw [rounds_succ]
    go_wp2
    rw [rounds_succ]
    go_wp2
    rw [rounds_succ]
    go_wp2
    go_ret
    exact ⟨ret_str (by rw [colT_two (by omega) (by omega), cat_nilP, cat_oneP]), by go_grown⟩
end Go.Proofs.YtljbnbapmjoecaaGreatDoor
namespace Go.Proofs.YtljbnbapmjoecaaGreatDoor
open Go.RowKit

/-- A number from 0 to 99 in decimal. -/
def decS (i : Nat) : ByteArray := if i < 10 then ⟨#[UInt8.ofNat (48 + i)]⟩ else ⟨#[UInt8.ofNat (48 + i / 10), UInt8.ofNat (48 + i % 10)]⟩

set_option maxRecDepth 100000 in
theorem small1 : ∀ i, i < 10 → ByteArray.extract ⟨#[48, 49, 50, 51, 52, 53, 54, 55, 56, 57, 97, 98, 99, 100, 101, 102, 103, 104, 105, 106, 107, 108, 109, 110, 111, 112, 113, 114, 115, 116, 117, 118, 119, 120, 121, 122]⟩ i (i + 1) = decS i := by decide +kernel
set_option maxRecDepth 100000 in
theorem small2 : ∀ i, i < 100 → ¬ i < 10 → ByteArray.extract ⟨#[48, 48, 48, 49, 48, 50, 48, 51, 48, 52, 48, 53, 48, 54, 48, 55, 48, 56, 48, 57, 49, 48, 49, 49, 49, 50, 49, 51, 49, 52, 49, 53, 49, 54, 49, 55, 49, 56, 49, 57, 50, 48, 50, 49, 50, 50, 50, 51, 50, 52, 50, 53, 50, 54, 50, 55, 50, 56, 50, 57, 51, 48, 51, 49, 51, 50, 51, 51, 51, 52, 51, 53, 51, 54, 51, 55, 51, 56, 51, 57, 52, 48, 52, 49, 52, 50, 52, 51, 52, 52, 52, 53, 52, 54, 52, 55, 52, 56, 52, 57, 53, 48, 53, 49, 53, 50, 53, 51, 53, 52, 53, 53, 53, 54, 53, 55, 53, 56, 53, 57, 54, 48, 54, 49, 54, 50, 54, 51, 54, 52, 54, 53, 54, 54, 54, 55, 54, 56, 54, 57, 55, 48, 55, 49, 55, 50, 55, 51, 55, 52, 55, 53, 55, 54, 55, 55, 55, 56, 55, 57, 56, 48, 56, 49, 56, 50, 56, 51, 56, 52, 56, 53, 56, 54, 56, 55, 56, 56, 56, 57, 57, 48, 57, 49, 57, 50, 57, 51, 57, 52, 57, 53, 57, 54, 57, 55, 57, 56, 57, 57]⟩ (i * 2) (i * 2 + 2) = decS i := by decide +kernel
theorem dec1 : ∀ i, i < 10 → (⟨#[48 + UInt8.ofNat i]⟩ : ByteArray) = decS i := by decide +kernel
theorem dec2 : ∀ q, q < 10 → ∀ r, r < 10 → ¬ 10 * q + r < 10 → (⟨#[48 + UInt8.ofNat q, 48 + UInt8.ofNat r]⟩ : ByteArray) = decS (10 * q + r) := by decide +kernel

set_option maxRecDepth 100000 in
set_option maxHeartbeats 1000000 in
theorem lib_small (i : Nat) (hi : i < 100) (w : World) : Calls Tryz.prog 186 #[.int .i64 i] w fun e w' =>
    e = .returned (.string (decS i)) ∧ w' = w := by
  have h0 : (0 : Int) ≤ (i : Int) := by omega
  by_cases h : i < 10
  · have h1 : (i : Int) < 10 := by omega
    have h2 : (i : Int) + 1 ≤ 36 := by omega
    have h3 : (i : Int) ≤ (i : Int) + 1 := by omega
    go_enter Tryz.func186, Tryz.ntmps186
    go_wp2
    go_ret
    exact ⟨ret_str (small1 i h), rfl⟩
  · have h1 : ¬ (i : Int) < 10 := by omega
    have h2 : (i : Int) * 2 + 2 ≤ 200 := by omega
    have h3 : (i : Int) * 2 ≤ (i : Int) * 2 + 2 := by omega
    have h4 : (0 : Int) ≤ (i : Int) * 2 := by omega
    go_enter Tryz.func186, Tryz.ntmps186
    go_wp2
    go_ret
    exact ⟨ret_str (small2 i hi h), rfl⟩

set_option maxRecDepth 100000 in
set_option maxHeartbeats 1000000 in
theorem lib_iFormatInt (i : Nat) (hi : i < 100) (w : World) : Calls Tryz.prog 166 #[.int .i64 i, .int .i64 10] w fun e w' =>
    e = .returned (.string (decS i)) ∧ w' = w := by
  have h0 : (0 : Int) ≤ (i : Int) := by omega
  have h1 : (i : Int) < 100 := by omega
  go_enter Tryz.func166, Tryz.ntmps166
  go_wp2_with (first
    | (go_at_call 186; refine (lib_small i hi _).mono ?_; rintro e w1 ⟨rfl, rfl⟩))
  go_ret
  exact ⟨rfl, rfl⟩
set_option maxHeartbeats 1000000 in
theorem lib_FormatInt (i : Nat) (hi : i < 100) (w : World) : Calls Tryz.prog 140 #[.int .i64 i, .int .i64 10] w fun e w' =>
    e = .returned (.string (decS i)) ∧ w' = w := by
  go_enter Tryz.func140, Tryz.ntmps140
  go_wp2_with (first
    | (go_at_call 166; refine (lib_iFormatInt i hi _).mono ?_; rintro e w1 ⟨rfl, rfl⟩))
  go_ret
  exact ⟨rfl, rfl⟩

set_option maxHeartbeats 2000000 in
theorem spec_l1Dec (i : Nat) (hi : i < 100) (w : World) : Calls Tryz.prog 107 #[.int .i64 i] w fun e w' =>
    e = .returned (.string (decS i)) ∧ Below w.heap.size w w' := by
  have hc0 := fun W v => conv1P W v
  by_cases h : i < 10
  · have h1 : ¬ (i : Int) < 0 := by omega
    have h2 : ¬ 10 ≤ (i : Int) := by omega
    go_enter Tryz.func107, Tryz.ntmps107
    go_wp2
    refine wp_loop_rounds 4 ?_
    rw [rounds_succ]
    go_wp2
    go_ret
    exact ⟨ret_str (by rw [cat_nilP]; exact dec1 i h), by go_grown⟩
  · obtain ⟨q, r, hq, hr, rfl⟩ : ∃ q r, q < 10 ∧ r < 10 ∧ i = 10 * q + r := ⟨i / 10, i % 10, by omega, by omega, by omega⟩
    have hc2 := fun W o v => conv2 W o v
    have e1 : ((10 * q + r : Nat) : Int) % 10 = (r : Int) := by omega
    have e2 : ((10 * q + r : Nat) : Int) / 10 = (q : Int) := by omega
    obtain ⟨n, hn⟩ : ∃ n : Int, n = ((10 * q + r : Nat) : Int) := ⟨_, rfl⟩
    rw [← hn] at e1 e2
    have h1 : ¬ n < 0 := by omega
    have h2 : 10 ≤ n := by omega
    have h3 : n ≤ 99 := by omega
    have h4 : ¬ 10 ≤ (q : Int) := by omega
    have HD : Hid (¬ 10 * q + r < 10) := h
    rw [← hn]
    clear hn hi h
    go_enter Tryz.func107, Tryz.ntmps107
    go_wp2
    refine wp_loop_rounds 4 ?_
    rw [rounds_succ]
    go_wp2
    rw [rounds_succ]
    go_wp2
    go_ret
    exact ⟨ret_str (by rw [cat_nilP, cat_oneP]; exact dec2 q hq r hr HD.out), by go_grown⟩
end Go.Proofs.YtljbnbapmjoecaaGreatDoor
namespace Go.Proofs.YtljbnbapmjoecaaGreatDoor
open Go.RowKit

def fx (b : Bool) : ByteArray := if b then ⟨#[36]⟩ else ⟨#[]⟩
set_option maxHeartbeats 400000 in
theorem impl_fixText (b : Bool) (w : World) : Calls Tryz.prog 138 #[.bool b] w fun e w' => e = .returned (.string (fx b)) ∧ w' = w := by
  cases b
  all_goals
    go_enter Tryz.func138, Tryz.ntmps138
    go_wp2
    go_ret
    exact ⟨rfl, rfl⟩
theorem fx_size (b : Bool) : (fx b).size ≤ 1 := by cases b <;> decide
theorem colT_size (n : Int) : (colT n).size ≤ 2 := by
  unfold colT
  split
  · exact Nat.le_succ 1
  · split
    · exact Nat.le_refl 2
    · exact Nat.zero_le 2
theorem decS_size (i : Nat) : (decS i).size ≤ 2 := by
  unfold decS
  split
  · exact Nat.le_succ 1
  · exact Nat.le_refl 2
def placeT (c : Int) (i : Nat) (x y : Bool) : ByteArray := fx x ++ colT c ++ fx y ++ decS i

set_option maxHeartbeats 2000000 in
theorem impl_PlaceText_ok (c : Int) (i : Nat) (x y : Bool) (w : World) (hi : i < 100) (ho : refOkB c i = true) : Calls Tryz.prog 83 #[.agg #[.int .i64 c, .int .i64 i, .bool x, .bool y]] w fun e w' =>
    e = .returned (.string (placeT c i x y)) ∧ Below w.heap.size w w' := by
  have HO : Hid (refOkB c i = true) := ho
  clear ho
  obtain ⟨r1, r2, r3⟩ : (∀ W, (Op.stringOp .add (fx x) (colT c)).run Tryz.prog W = .ok (.string (fx x ++ colT c)) W) ∧ (∀ W, (Op.stringOp .add (fx x ++ colT c) (fx y)).run Tryz.prog W = .ok (.string (fx x ++ colT c ++ fx y)) W) ∧ (∀ W, (Op.stringOp .add (fx x ++ colT c ++ fx y) (decS i)).run Tryz.prog W = .ok (.string (fx x ++ colT c ++ fx y ++ decS i)) W) := by
    have s1 := fx_size x
    have s2 := fx_size y
    have s3 := colT_size c
    have s4 := decS_size i
    refine ⟨fun W => run_string_add_sum W _ _ ?_, fun W => run_string_add_sum W _ _ ?_, fun W => run_string_add_sum W _ _ ?_⟩
    · omega
    · rw [ByteArray.size_append]; omega
    · rw [ByteArray.size_append, ByteArray.size_append]; omega
  go_enter Tryz.func83, Tryz.ntmps83
  go_wp2_with (first
    | (go_at_call 97; refine (impl_RefOk _ _ _).mono ?_; rintro e w1 ⟨rfl, hb⟩; rw [HO.out]; obtain ⟨hk, hz⟩ := bframe (B := w.heap.size + 1) (X := (w.alloc (.cells #[.int .i64 c, .int .i64 i, .bool x, .bool y] 57))) (by go_grown) (by go_size) hb; have hC := fun b o h => hk.cell (p := ⟨b, o, none⟩) h; clear hb))
  go_region_held3 (fun w' => (∀ bq oq, bq < w.heap.size + 1 → w'.cell? ⟨bq, oq, none⟩ = (w.alloc (.cells #[.int .i64 c, .int .i64 i, .bool x, .bool y] 57)).cell? ⟨bq, oq, none⟩) ∧ w.heap.size + 1 ≤ w'.heap.size ∧ Below (w.heap.size + 1) (w.alloc (.cells #[.int .i64 c, .int .i64 i, .bool x, .bool y] 57)) w')
    (exact sc_of (by go_size) (by go_grown))
    (first
    | (go_at_call 138; refine (impl_fixText _ _).mono ?_; rintro e w1 ⟨rfl, rfl⟩)
    | (go_at_call 139; refine (impl_ColText _ _).mono ?_; rintro e wr ⟨rfl, hb⟩; obtain ⟨hk, hz⟩ := bframe (B := w.heap.size + 1) (X := (w.alloc (.cells #[.int .i64 c, .int .i64 i, .bool x, .bool y] 57))) (by go_grown) (by go_size) hb; have hC := fun b o h => hk.cell (p := ⟨b, o, none⟩) h; clear hb)
    | (go_at_call 140; refine (lib_FormatInt i hi _).mono ?_; rintro e w1 ⟨rfl, rfl⟩))
  all_goals go_wp2_with fail
  all_goals go_ret
  all_goals exact ⟨rfl, bfin (n := 1) (X := (w.alloc (.cells #[.int .i64 c, .int .i64 i, .bool x, .bool y] 57))) (by go_grown) (by go_grown)⟩

set_option maxHeartbeats 2000000 in
theorem impl_PlaceText_no (c r : Int) (x y : Bool) (w : World) (ho : refOkB c r = false) : Calls Tryz.prog 83 #[.agg #[.int .i64 c, .int .i64 r, .bool x, .bool y]] w fun e w' =>
    e = .returned (.string ⟨#[]⟩) ∧ Below w.heap.size w w' := by
  have HO : Hid (refOkB c r = false) := ho
  clear ho
  go_enter Tryz.func83, Tryz.ntmps83
  go_wp2_with (first
    | (go_at_call 97; refine (impl_RefOk _ _ _).mono ?_; rintro e w1 ⟨rfl, hb⟩; rw [HO.out]; obtain ⟨hc, hf, hC, hF, hz, hk, l0⟩ := bk1 (w := w) (by go_grown) (by go_size) hb; clear hb))
  go_ret
  exact ⟨rfl, by go_grown⟩

set_option maxHeartbeats 2000000 in
theorem spec_PlaceText_no (c r : Int) (x y : Bool) (w : World) (ho : refOkB c r = false) : Calls Tryz.prog 92 #[.agg #[.int .i64 c, .int .i64 r, .bool x, .bool y]] w fun e w' =>
    e = .returned (.string ⟨#[]⟩) ∧ Below w.heap.size w w' := by
  have HO : Hid (refOkB c r = false) := ho
  clear ho
  go_enter Tryz.func92, Tryz.ntmps92
  go_wp2_with (first
    | (go_at_call 103; refine (spec_RefOk _ _ _).mono ?_; rintro e w1 ⟨rfl, hb⟩; rw [HO.out]; obtain ⟨hc, hf, hC, hF, hz, hk, l0⟩ := bk1 (w := w) (by go_grown) (by go_size) hb; clear hb))
  go_ret
  exact ⟨rfl, by go_grown⟩

theorem nil_cat (x : ByteArray) : (⟨#[]⟩ : ByteArray) ++ x = x := by apply ByteArray.ext; simp
set_option maxHeartbeats 4000000 in
theorem spec_PlaceText_ok (c : Int) (i : Nat) (x y : Bool) (w : World) (hi : i < 100) (ho : refOkB c i = true) : Calls Tryz.prog 92 #[.agg #[.int .i64 c, .int .i64 i, .bool x, .bool y]] w fun e w' =>
    e = .returned (.string (placeT c i x y)) ∧ Below w.heap.size w w' := by
  have HO : Hid (refOkB c i = true) := ho
  clear ho
  obtain ⟨r1, r2, r3, r4, r5⟩ : (∀ W, (Op.stringOp .add ⟨#[36]⟩ (colT c)).run Tryz.prog W = .ok (.string (⟨#[36]⟩ ++ colT c)) W) ∧ (∀ W, (Op.stringOp .add (⟨#[36]⟩ ++ colT c) ⟨#[36]⟩).run Tryz.prog W = .ok (.string (⟨#[36]⟩ ++ colT c ++ ⟨#[36]⟩)) W) ∧ (∀ W, (Op.stringOp .add (colT c) ⟨#[36]⟩).run Tryz.prog W = .ok (.string (colT c ++ ⟨#[36]⟩)) W) ∧
      (∀ s : ByteArray, s.size ≤ 10 → ∀ W, (Op.stringOp .add s (decS i)).run Tryz.prog W = .ok (.string (s ++ decS i)) W) ∧ (colT c).size ≤ 2 := by
    have s3 := colT_size c
    have s4 := decS_size i
    have s5 : (⟨#[36]⟩ : ByteArray).size = 1 := rfl
    refine ⟨fun W => run_string_add_sum W _ _ ?_, fun W => run_string_add_sum W _ _ ?_, fun W => run_string_add_sum W _ _ ?_, fun s hs W => run_string_add_sum W _ _ ?_, s3⟩
    · omega
    · rw [ByteArray.size_append]; omega
    · omega
    · omega
  have q1 := r4 (colT c) (by omega)
  have q2 := r4 (⟨#[36]⟩ ++ colT c) (by rw [ByteArray.size_append]; have : (⟨#[36]⟩ : ByteArray).size = 1 := rfl; omega)
  have q3 := r4 (colT c ++ ⟨#[36]⟩) (by rw [ByteArray.size_append]; have : (⟨#[36]⟩ : ByteArray).size = 1 := rfl; omega)
  have q4 := r4 (⟨#[36]⟩ ++ colT c ++ ⟨#[36]⟩) (by rw [ByteArray.size_append, ByteArray.size_append]; have : (⟨#[36]⟩ : ByteArray).size = 1 := rfl; omega)
  clear r4 r5
  cases x <;> cases y
  all_goals
    go_enter Tryz.func92, Tryz.ntmps92
    go_wp2_with (first
      | (go_at_call 103; refine (spec_RefOk _ _ _).mono ?_; rintro e w1 ⟨rfl, hb⟩; rw [HO.out]; obtain ⟨hc, hf, hC, hF, hz, hk, l0⟩ := bk1 (w := w) (by go_grown) (by go_size) hb; clear hb)
      | (go_at_call 150; refine (spec_ColText _ _).mono ?_; rintro e w1 ⟨rfl, hb⟩; obtain ⟨hc, hf, hC, hF, hz, hk, l0⟩ := bk1 (w := w) (by go_grown) (by go_size) hb; clear hb)
      | (go_at_call 107; refine (spec_l1Dec i hi _).mono ?_; rintro e w1 ⟨rfl, hb⟩; obtain ⟨hc, hf, hC, hF, hz, hk, l0⟩ := bk1 (w := w) (by go_grown) (by go_size) hb; clear hb))
    go_ret
    exact ⟨ret_str (by simp [placeT, fx, nil_cat, cat_nilP]), by go_grown⟩
end Go.Proofs.YtljbnbapmjoecaaGreatDoor
