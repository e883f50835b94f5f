import Derived.Test.YtonhcgkagdpdlaaGreatDoorBase
import Derived.OpenShut
import Derived.ChangeSlices
set_option linter.unusedSimpArgs false
set_option linter.unusedVariables false
set_option maxRecDepth 100000
namespace Go.Proofs.YtonhcgkagdpdlaaGreatDoor
open Go.ChangeShapes Go.WideShapes Go.ChangeAt Go.RowKit Go.Joins
def Co (W:World) (A:Option Addr) (len:Nat):Prop:=len≤maxLen∧ ∀i,i<len→ ∃b o v,A=some ⟨b,o,none⟩∧W.cell? ⟨b,o+i,none⟩=some (.int .u8 v)∧0≤v∧v≤255
theorem cellsU8:Tryz.prog.cellsOf 5=1:=by kernel_rfl
theorem open_code {H:Type} {enc:TypeId × Value→H} {W:World} {r:Reach} {b0 base:Nat} {held:Bool} {v:Value} {d:DataW H} {p:List MemPlace}
  (hv:Value.okWide Tryz.prog W r b0 22 v) (h:DataW.Trod enc Tryz.prog W base (fun _=>true) held 22 v d p):
  ∃A len cap,v= .slice A len cap∧Co W A len:=by
 obtain⟨a0,len,cap,rfl⟩:=okWide_slice Tryz.underlying22 hv
 obtain⟨fuel,hf⟩:=h
 refine⟨a0,len,cap,rfl,?_⟩
 rcases open_ints Tryz.underlying22 Tryz.underlying5 cellsU8 hf with⟨hcs,hx⟩ | ⟨a,len',cap',zs,hcs,_,hl,hm,hz,hx,hcell,hwz⟩
 ·simp [Value.cells]at hcs
  obtain⟨rfl,rfl,rfl⟩:=hcs
  exact⟨Nat.zero_le _,fun i hi=>absurd hi (Nat.not_lt_zero _)⟩
 ·simp [Value.cells]at hcs
  obtain⟨rfl,rfl,rfl⟩:=hcs
  simp at hz
  refine⟨Nat.le_trans hl hm,fun i hi=> ?_⟩
  obtain⟨b,off,rfl,hc⟩:=Go.ints_at hcell (by omega)
  have hwf:=hwz (zs.getD i 0) (by rw [List.getD_eq_getElem?_getD,List.getElem?_eq_getElem (by omega)];exact List.getElem_mem _)
  refine⟨b,off,zs.getD i 0,rfl,hc i (by omega),?_⟩
  have hb:IntKind.u8.min=0∧IntKind.u8.max=255:=⟨by kernel_rfl,by kernel_rfl⟩
  simp only [Lit.wf,hb.1,hb.2,Bool.and_eq_true,decide_eq_true_eq]at hwf
  exact hwf
end Go.Proofs.YtonhcgkagdpdlaaGreatDoor
