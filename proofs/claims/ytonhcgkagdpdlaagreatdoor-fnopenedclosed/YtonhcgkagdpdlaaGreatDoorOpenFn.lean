import Derived.Test.YtonhcgkagdpdlaaGreatDoorFnD
import Derived.OpenShut
import Derived.Deep.Slices
import Derived.ChangeSame
import Derived.ChangeSlices
import Derived.ChangeVars
import Derived.MakeChecks
set_option linter.unusedSimpArgs false
set_option linter.unusedVariables false
namespace Go.Proofs.YtonhcgkagdpdlaaGreatDoor
open Go.ChangeShapes Go.WideShapes Go.ChangeAt Go.RowKit Go.Joins
theorem trod_struct3' {H:Type} {enc:TypeId × Value→H} {P:Program} {w:World} {base:Nat} {spare:Nat→Bool} {held:Bool} {t:TypeId} {f0 f1 f2:Field} {fuel:Nat} {cs:List Value} {x:DataW H × List MemPlace} (ht:P.underlying t=some (.struct #[f0,f1,f2])) (h:DataW.trod enc P w base spare held fuel t cs=some x):
  ∃y0 y1 y2 n,x=(.agg [y0.1,y1.1,y2.1],y0.2++(y1.2++y2.2))∧DataW.trod enc P w base spare held n f0.type ((cs.drop f0.offset).take (P.cellsOf f0.type))=some y0∧
   DataW.trod enc P w base spare held n f1.type ((cs.drop f1.offset).take (P.cellsOf f1.type))=some y1∧DataW.trod enc P w base spare held n f2.type ((cs.drop f2.offset).take (P.cellsOf f2.type))=some y2:=by
 obtain⟨xs,n,_,rfl,hl,hlen,hf⟩:=DataW.trod_struct ht h
 match xs,hlen with
 | [y0,y1,y2],_=>exact⟨y0,y1,y2,n,by simp,by simpa using hf 0 f0 rfl,by simpa using hf 1 f1 rfl,by simpa using hf 2 f2 rfl⟩
theorem gFun : Tryz.prog.globalNamed "loop.example/g00267/impl.functions" = some 0 := by kernel_rfl
theorem tFun:(Tryz.prog.globals[0]?).map (·.type)=some 90:=by kernel_rfl
theorem cFun:Tryz.prog.cellsOf 89=3:=by kernel_rfl
theorem cStr:Tryz.prog.cellsOf 9=1:=by kernel_rfl
theorem cInt:Tryz.prog.cellsOf 3=1:=by kernel_rfl
theorem fun_row {H:Type} {enc:TypeId × Value→H} {W:World} {base:Nat} {sp:Nat→Bool} {held:Bool} {fuel:Nat} {cs:Array Value} {s:List UInt8} {a b:Int} {p:List MemPlace} {m:Nat}
  (hc: ∀j,W.cell? ⟨0,j,none⟩=cs[j]?) (h:DataW.trod enc Tryz.prog W base sp held fuel 89 ((cs.toList.drop (m*3)).take 3)=some (.agg [.lit (.string s),.lit (.int .i64 a),.lit (.int .i64 b)],p)):
  ∃s',W.cell? ⟨0,m*3,none⟩=some (.string s')∧W.cell? ⟨0,m*3+1,none⟩=some (.int .i64 a)∧W.cell? ⟨0,m*3+2,none⟩=some (.int .i64 b):=by
 obtain⟨y0,y1,y2,n,e,q0,q1,q2⟩:=trod_struct3' Tryz.underlying89 h
 simp only [cStr,cInt,List.drop_zero]at q0 q1 q2
 obtain⟨s',e0,d0,_⟩:=DataW.trod_string Tryz.underlying9 q0
 obtain⟨x1,e1,d1,_⟩:=DataW.trod_int Tryz.underlying3 q1
 obtain⟨x2,e2,d2,_⟩:=DataW.trod_int Tryz.underlying3 q2
 rw [d1,d2]at e
 simp at e
 obtain⟨⟨_,rfl,rfl⟩,_⟩:=e
 have g: ∀j,j<3→((cs.toList.drop (m*3)).take 3)[j]? =cs[m*3+j]?:=fun j hj=>by
  rw [List.getElem?_take,if_pos hj,List.getElem?_drop,Array.getElem?_toList]
 have k0:=congrArg (fun l=>l[0]?) e0
 have k1:=congrArg (fun l=>l[0]?) e1
 have k2:=congrArg (fun l=>l[0]?) e2
 simp only [List.getElem?_take,List.getElem?_drop]at k0 k1 k2
 refine⟨s',?_,?_,?_⟩
 ·rw [hc];simpa using k0
 ·rw [hc];simpa using k1
 ·rw [hc];simpa using k2
end Go.Proofs.YtonhcgkagdpdlaaGreatDoor
