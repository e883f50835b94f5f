import Derived.Test.YtjkioadjclfmiaaDoorPlaceA
import Derived.Laws.IdiomStrings
import Derived.Laws.Cover4
namespace Go.Proofs.YtjkioadjclfmiaaDoor
open Go.RowKit

/-- The letters of a column, as bytes. -/
def colT (n : Int) : ByteArray := if 1 ≤ n ∧ n ≤ 26 then ⟨#[UInt8.ofNat (65 + (n - 1)).toNat]⟩ else if 27 ≤ n ∧ n ≤ 52 then ⟨#[65, UInt8.ofNat (65 + (n - 27)).toNat]⟩ else ⟨#[]⟩
theorem colT_one {n : Int} (h : 1 ≤ n) (h' : n ≤ 26) : colT n = ⟨#[UInt8.ofNat (65 + (n - 1)).toNat]⟩ := by unfold colT; rw [if_pos ⟨h, h'⟩]
theorem colT_two {n : Int} (h : 27 ≤ n) (h' : n ≤ 52) : colT n = ⟨#[65, UInt8.ofNat (65 + (n - 27)).toNat]⟩ := by unfold colT; rw [if_neg (by omega), if_pos ⟨h, h'⟩]
theorem colT_no {n : Int} (h : n < 1 ∨ 52 < n) : colT n = ⟨#[]⟩ := by unfold colT; rw [if_neg (by omega), if_neg (by omega)]

theorem encode_ascii (r : Int) (h0 : 0 ≤ r) (h1 : r < 128) : Utf8.encode r = ⟨#[UInt8.ofNat r.toNat]⟩ := by
  unfold Utf8.encode
  have hv : Utf8.valid r = true := by unfold Utf8.valid; simp; omega
  simp only [hv, if_true]
  rw [if_pos (by omega)]

theorem cat_nilP (x : ByteArray) : x ++ (⟨#[]⟩ : ByteArray) = x := by apply ByteArray.ext; simp
theorem cat_oneP (x y : UInt8) : (⟨#[x]⟩ : ByteArray) ++ (⟨#[y]⟩ : ByteArray) = ⟨#[x, y]⟩ := by apply ByteArray.ext; simp

theorem conv0P (W : World) (b : Nat) (v : Int) (hv : W.cell? ⟨b, 0, none⟩ = some (.int .u8 v)) :
    (convert 22 9 (.slice (some ⟨b, 0, none⟩) 1 1)).run Tryd.prog W = .ok (.string ⟨#[UInt8.ofNat v.toNat]⟩) W := by
  rw [run_convert_bytes_string W 22 9 5 (some ⟨b, 0, none⟩) 1 1 Tryd.underlying22 Tryd.underlying5 Tryd.underlying9]
  have hl := run_loadCells_list (P := Tryd.prog) W ⟨b, 0, none⟩ [.int .u8 v] (fun j x hj => by
    match j, hj with
    | 0, hj => simp at hj; simpa [Addr.add, ← hj] using hv)
  rw [run_bytesToString W ⟨b, 0, none⟩ 1 1 [v] (by simpa using hl)]
  rfl
theorem conv1P (W : World) (v : Int) : (convert 22 9 (.slice (some ⟨W.heap.size, 0, none⟩) 1 1)).run Tryd.prog (W.alloc (.cells #[.int .u8 v] 5)) =
    .ok (.string ⟨#[UInt8.ofNat v.toNat]⟩) (W.alloc (.cells #[.int .u8 v] 5)) := conv0P _ _ v (by simp)
theorem conv2 (W : World) (o : Obj) (v : Int) : (convert 22 9 (.slice (some ⟨W.heap.size + 1, 0, none⟩) 1 1)).run Tryd.prog ((W.alloc o).alloc (.cells #[.int .u8 v] 5)) =
    .ok (.string ⟨#[UInt8.ofNat v.toNat]⟩) ((W.alloc o).alloc (.cells #[.int .u8 v] 5)) := conv0P _ _ v (by simp [go_sem])

end Go.Proofs.YtjkioadjclfmiaaDoor
