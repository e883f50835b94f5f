import Derived.Test.YtonhcgkagdpdlaaDoorGah
import Derived.Laws.BytesString
set_option linter.unusedSimpArgs false
set_option linter.unusedVariables false
namespace Go.Proofs.YtonhcgkagdpdlaaDoor
open Go.RowKit
theorem conv0V (W:World) (b:Nat) (v:Int) (hv:W.cell? ⟨b,0,none⟩=some (.int .u8 v)):
  (convert 22 9 (.slice (some ⟨b,0,none⟩) 1 1)).run Tryd.prog W= .ok (.string ⟨#[UInt8.ofNat v.toNat]⟩) W:=by
 rw [run_convert_bytes_string W 22 9 5 (some ⟨b,0,none⟩) 1 1 Tryd.underlying22 Tryd.underlying5 Tryd.underlying9]
 have hl:=run_loadCells_list (P:=Tryd.prog) W ⟨b,0,none⟩ [.int .u8 v] (fun j x hj=>by
  match j,hj with
  | 0,hj=>simp at hj;simpa [Addr.add,←hj]using hv)
 rw [run_bytesToString W ⟨b,0,none⟩ 1 1 [v] (by simpa using hl)]
 rfl
theorem conv1V (W:World) (v:Int):(convert 22 9 (.slice (some ⟨W.heap.size,0,none⟩) 1 1)).run Tryd.prog (W.alloc (.cells #[.int .u8 v] 5))=
  .ok (.string ⟨#[UInt8.ofNat v.toNat]⟩) (W.alloc (.cells #[.int .u8 v] 5)):=conv0V _ _ v (by simp)
def VarT (W : World) : Prop := Lib.TabIs Tryd.prog W "internal/strconv.uint64pow10" .u64 Lib.pow10Tab
theorem VarT.below {W w':World} (h:VarT W) (hb:Below W.heap.size W w'):VarT w':=var_keep h hb
def itB (n:Int):ByteArray:=⟨(Lib.itoa n).toArray⟩
theorem rNum_b {n:Int} (h:rNum n=true): -1000000000000000≤n∧n≤1000000000000000:=of_decide_eq_true h
end Go.Proofs.YtonhcgkagdpdlaaDoor
