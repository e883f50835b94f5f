import Derived.Test.YtjcicndioddcmaaDoorPlaceA
import Derived.Laws.IdiomStrings
import Derived.Laws.Cover4
namespace Go.Proofs.YtjcicndioddcmaaDoor
open Go.RowKit

/-- The letters of a column, as bytes. -/
def colT (n : Int) : ByteArray := if 1 ≤ n ∧ n ≤ 26 then ⟨#[UInt8.ofNat (65 + (n - 1)).toNat]⟩ else if 27 ≤ n ∧ n ≤ 52 then ⟨#[65, UInt8.ofNat (65 + (n - 27)).toNat]⟩ else ⟨#[]⟩
theorem colT_one {n : Int} (h : 1 ≤ n) (h' : n ≤ 26) : colT n = ⟨#[UInt8.ofNat (65 + (n - 1)).toNat]⟩ := by unfold colT; rw [if_pos ⟨h, h'⟩]
theorem colT_two {n : Int} (h : 27 ≤ n) (h' : n ≤ 52) : colT n = ⟨#[65, UInt8.ofNat (65 + (n - 27)).toNat]⟩ := by unfold colT; rw [if_neg (by omega), if_pos ⟨h, h'⟩]
theorem colT_no {n : Int} (h : n < 1 ∨ 52 < n) : colT n = ⟨#[]⟩ := by unfold colT; rw [if_neg (by omega), if_neg (by omega)]

theorem encode_ascii (r : Int) (h0 : 0 ≤ r) (h1 : r < 128) : Utf8.encode r = ⟨#[UInt8.ofNat r.toNat]⟩ := by
  unfold Utf8.encode
  have hv : Utf8.valid r = true := by unfold Utf8.valid; simp; omega
  simp only [hv, if_true]
  rw [if_pos (by omega)]

theorem cat_nil (x : ByteArray) : x ++ (⟨#[]⟩ : ByteArray) = x := by apply ByteArray.ext; simp
theorem cat_one (x y : UInt8) : (⟨#[x]⟩ : ByteArray) ++ (⟨#[y]⟩ : ByteArray) = ⟨#[x, y]⟩ := by apply ByteArray.ext; simp

theorem conv0 (W : World) (b : Nat) (v : Int) (hv : W.cell? ⟨b, 0, none⟩ = some (.int .u8 v)) :
    (convert 22 9 (.slice (some ⟨b, 0, none⟩) 1 1)).run Tryd.prog W = .ok (.string ⟨#[UInt8.ofNat v.toNat]⟩) W := by
  rw [run_convert_bytes_string W 22 9 5 (some ⟨b, 0, none⟩) 1 1 Tryd.underlying22 Tryd.underlying5 Tryd.underlying9]
  have hl := run_loadCells_list (P := Tryd.prog) W ⟨b, 0, none⟩ [.int .u8 v] (fun j x hj => by
    match j, hj with
    | 0, hj => simp at hj; simpa [Addr.add, ← hj] using hv)
  rw [run_bytesToString W ⟨b, 0, none⟩ 1 1 [v] (by simpa using hl)]
  rfl
theorem conv1 (W : World) (v : Int) : (convert 22 9 (.slice (some ⟨W.heap.size, 0, none⟩) 1 1)).run Tryd.prog (W.alloc (.cells #[.int .u8 v] 5)) =
    .ok (.string ⟨#[UInt8.ofNat v.toNat]⟩) (W.alloc (.cells #[.int .u8 v] 5)) := conv0 _ _ v (by simp)
theorem conv2 (W : World) (o : Obj) (v : Int) : (convert 22 9 (.slice (some ⟨W.heap.size + 1, 0, none⟩) 1 1)).run Tryd.prog ((W.alloc o).alloc (.cells #[.int .u8 v] 5)) =
    .ok (.string ⟨#[UInt8.ofNat v.toNat]⟩) ((W.alloc o).alloc (.cells #[.int .u8 v] 5)) := conv0 _ _ v (by simp [go_sem])

set_option maxHeartbeats 400000 in
theorem impl_ColText (n : Int) (w : World) : Calls Tryd.prog 10 #[.int .i64 n] w fun e w' =>
    e = .returned (.string (colT n)) ∧ Below w.heap.size w w' := by
  by_cases h1 : n < 1
  · go_enter Tryd.func10, Tryd.ntmps10
    go_wp2
    go_ret
    exact ⟨ret_str (colT_no (by omega)).symm, by go_grown⟩
  by_cases h2 : 52 < n
  · go_enter Tryd.func10, Tryd.ntmps10
    go_wp2
    go_ret
    exact ⟨ret_str (colT_no (by omega)).symm, by go_grown⟩
  by_cases h3 : n ≤ 26
  · have hm : (n - 1) % 26 = n - 1 := by omega
    have hd : (n - 1) / 26 = 0 := by omega
    have he := encode_ascii (65 + (n - 1)) (by omega) (by omega)
    go_enter Tryd.func10, Tryd.ntmps10
    go_wp2
    refine wp_loop_rounds 3 ?_
    rw [rounds_succ]
    go_wp2
    rw [rounds_succ]
    go_wp2
    go_ret
    exact ⟨ret_str (by rw [colT_one (by omega) h3, cat_nil]), by go_grown⟩
  · have hm : (n - 1) % 26 = n - 27 := by omega
    have hd : (n - 1) / 26 = 1 := by omega
    have he := encode_ascii (65 + (n - 27)) (by omega) (by omega)
    have he' : Utf8.encode 65 = ⟨#[65]⟩ := encode_ascii 65 (by omega) (by omega)
    go_enter Tryd.func10, Tryd.ntmps10
    go_wp2
    refine wp_loop_rounds 3 ?_
    rw [rounds_succ]
    go_wp2
    rw [rounds_succ]
    go_wp2
    rw [rounds_succ]
    go_wp2
    go_ret
    exact ⟨ret_str (by rw [colT_two (by omega) (by omega), cat_nil, cat_one]), by go_grown⟩
set_option maxHeartbeats 400000 in
theorem spec_ColText (n : Int) (w : World) : Calls Tryd.prog 12 #[.int .i64 n] w fun e w' =>
    e = .returned (.string (colT n)) ∧ Below w.heap.size w w' := by
  by_cases h1 : n < 1
  · have hin : inB n 1 52 = false := by unfold inB; simp; omega
    go_enter Tryd.func12, Tryd.ntmps12
    go_wp2_with (first
      | (go_at_call 36; refine (spec_l1In _ _ _ _).mono ?_; rintro e w1 ⟨rfl, rfl⟩))
    go_ret
    exact ⟨ret_str (colT_no (by omega)).symm, by go_grown⟩
  by_cases h2 : 52 < n
  · have hin : inB n 1 52 = false := by unfold inB; simp; omega
    go_enter Tryd.func12, Tryd.ntmps12
    go_wp2_with (first
      | (go_at_call 36; refine (spec_l1In _ _ _ _).mono ?_; rintro e w1 ⟨rfl, rfl⟩))
    go_ret
    exact ⟨ret_str (colT_no (by omega)).symm, by go_grown⟩
  have hin : inB n 1 52 = true := by unfold inB; simp; omega
  have cv1 := conv1
  have cv2 := conv2
  by_cases h3 : n ≤ 26
  · have hm : (n - 1) % 26 = n - 1 := by omega
    have hd : (n - 1) / 26 = 0 := by omega
    go_enter Tryd.func12, Tryd.ntmps12
    go_wp2_with (first
      | (go_at_call 36; refine (spec_l1In _ _ _ _).mono ?_; rintro e w1 ⟨rfl, rfl⟩))
    refine wp_loop_rounds 3 ?_
    rw [rounds_succ]
    go_wp2
    rw [rounds_succ]
    go_wp2
    go_ret
    exact ⟨ret_str (by rw [colT_one (by omega) h3, cat_nil]), by go_grown⟩
  · have hm : (n - 1) % 26 = n - 27 := by omega
    have hd : (n - 1) / 26 = 1 := by omega
    go_enter Tryd.func12, Tryd.ntmps12
    go_wp2_with (first
      | (go_at_call 36; refine (spec_l1In _ _ _ _).mono ?_; rintro e w1 ⟨rfl, rfl⟩))
    refine wp_loop_rounds 3 ?_
    rw [rounds_succ]
    go_wp2
    rw [rounds_succ]
    go_wp2
    rw [rounds_succ]
    go_wp2
    go_ret
    exact ⟨ret_str (by rw [colT_two (by omega) (by omega), cat_nil, cat_one]), by go_grown⟩
end Go.Proofs.YtjcicndioddcmaaDoor
