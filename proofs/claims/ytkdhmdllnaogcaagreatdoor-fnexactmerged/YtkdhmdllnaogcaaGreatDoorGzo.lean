import Derived.Test.YtkdhmdllnaogcaaGreatDoorGze
import Derived.OpenShut
import Derived.Deep.Slices
import Derived.ChangeSame
set_option linter.unusedSimpArgs false
set_option linter.unusedVariables false
set_option maxRecDepth 100000
namespace Go.Proofs.YtkdhmdllnaogcaaGreatDoor
open Go.ChangeShapes Go.WideShapes Go.ChangeAt Go.RowKit Go.Joins
theorem Qf1:Tryz.prog.cellsOf 43=3:=by kernel_rfl
theorem Qis {H:Type} {enc:TypeId × Value→H} {W:World} {r:Reach} {b0 base:Nat} {sp:Nat→Bool} {held:Bool} {v:Value} {d:DataW H} {p:List MemPlace}
  (hv:Value.okWide Tryz.prog W r b0 22 v) (h:DataW.Trod enc Tryz.prog W base sp held 22 v d p):
  ∃A len cap C R S,v= .slice A len cap∧ClRow W A len C R S:=by
 obtain⟨a0,len,cap,rfl⟩:=okWide_slice Tryz.underlying22 hv;obtain⟨fuel,hf⟩:=h;rcases Go.Deep.open_slice Tryz.underlying22 hf with⟨hcs,_⟩ | ⟨a,len',cap',m,n,D,Pl,hcs,_,hl,hm,hmm,_,hx⟩
 ·simp [Value.cells]at hcs;obtain⟨rfl,rfl,rfl⟩:=hcs;exact⟨none,0,0,fun _=>0,fun _=>0,fun _=>⟨#[]⟩,rfl,Nat.zero_le _,fun i hi=>absurd hi (Nat.not_lt_zero _)⟩
 ·simp [Value.cells]at hcs;obtain⟨rfl,rfl,rfl⟩:=hcs;rw [Qf1]at hx;have hlm:len≤m:=by rw [hmm];split<;>omega
  have each: ∀i,i<len→ ∃q:Int × Int × ByteArray,∃b o,some a=some (⟨b,o,none⟩:Addr)∧b<W.heap.size∧W.cell? ⟨b,o+i*3,none⟩=some (.int .i64 q.1)∧W.cell? ⟨b,o+i*3+1,none⟩=some (.int .i64 q.2.1)∧
    W.cell? ⟨b,o+i*3+2,none⟩=some (.string q.2.2)∧q.2.2.size≤maxLen:=by
   intro i hi;obtain⟨cs',h1,h2⟩:=hx i (by omega);obtain⟨_,hlen,hcell⟩:=World.cells?_some h1;have kr:Tryz.prog.cellsOf 41=2:=by kernel_rfl
   have k1:Tryz.prog.cellsOf 2=1:=by kernel_rfl
   have ks:Tryz.prog.cellsOf 9=1:=by kernel_rfl
   match cs',hlen with
   | [v0,v1,v2],_=>
    obtain⟨y0,y1,n1,_,_,g0,g1⟩:=trod_struct2 Tryz.underlying43 h2;simp only [kr,ks,List.drop_zero,List.take_succ_cons,List.take_zero,List.drop_succ_cons]at g0 g1;obtain⟨z0,z1,n2,_,_,q0,q1⟩:=trod_struct2 Tryz.underlying41 g0;simp only [k1,List.drop_zero,List.take_succ_cons,List.take_zero,List.drop_succ_cons]at q0 q1;obtain⟨x0,e0,_,_⟩:=DataW.trod_int Tryz.underlying2 q0;obtain⟨x1,e1,_,_⟩:=DataW.trod_int Tryz.underlying2 q1;obtain⟨s,e2,_,ws⟩:=DataW.trod_string Tryz.underlying9 g1
    simp at e0 e1 e2;subst e0 e1 e2;have d0:=hcell 0 (by omega);have d1:=hcell 1 (by omega);have d2:=hcell 2 (by omega);obtain⟨b,off,spot⟩:=a
    have hspot:spot=none:=by
     obtain⟨cs0,h01,_⟩:=hx 0 (by omega);obtain⟨_,hlen0,hcell0⟩:=World.cells?_some h01;have hc0:=hcell0 0 (by omega);rw [List.getElem?_eq_getElem (by omega)]at hc0;have hc1:=World.cell?_spot hc0;simpa [Addr.add]using hc1
    subst hspot;simp only [Go.WideShapes.add_plain]at d0 d1 d2;refine⟨(x0,x1,s),b,off,rfl,World.block_lt_of_cell? W ⟨b,off+i*3+0,none⟩ d0,d0,d1,d2,ws⟩
  haveI:Inhabited (Int × Int × ByteArray):=⟨(0,0,⟨#[]⟩)⟩
  obtain⟨q,hq⟩:=Go.Deep.choose_lt each;exact⟨some a,len,cap,fun i=>(q i).1,fun i=>(q i).2.1,fun i=>(q i).2.2,rfl,Nat.le_trans hl hm,hq⟩
end Go.Proofs.YtkdhmdllnaogcaaGreatDoor
