import Derived.Test.YtejbnnacghbhoaaGreatDoorMn
import Derived.Test.YtejbnnacghbhoaaGreatDoorGbb
import Derived.Test.YtejbnnacghbhoaaGreatDoorMb
set_option linter.unusedSimpArgs false
set_option linter.unusedVariables false
set_option maxRecDepth 100000
namespace Go.Proofs.YtejbnnacghbhoaaGreatDoor
open Go.ChangeShapes Go.WideShapes Go.ChangeAt Go.RowKit Go.Joins
theorem gSw : Tryz.prog.globalNamed "loop.example/g00267/impl.stmtWords" = some 0 := by kernel_rfl
theorem tSw:(Tryz.prog.globals[0]?).map (·.type)=some 120:=by kernel_rfl
theorem cSw:Tryz.prog.cellsOf 9=1:=by kernel_rfl
theorem Qiw {H:Type} {a b:List (DataW H)} (h:DataW.agg a= .agg b):a=b:=by cases h;rfl
theorem Qhk {H:Type} {a b:List UInt8} (h:(DataW.lit (.string a):DataW H)= .lit (.string b)):a=b:=by cases h;rfl
theorem Qnz {s:ByteArray} {l:List UInt8} (h:l=s.data.toList):s=⟨l.toArray⟩:=by
 apply ByteArray.ext;rw [h]
theorem sw_of {r : List (String × DataW Unit)} {W : World} (h : laidMet Tryz.prog (("loop.example/g00267/impl.stmtWords", Rows.laid_loop_example_g00267_impl_stmtWords) :: r) W) : SWG W := by
 obtain⟨ps,⟨g0,t0,cs0,f0,p0,q0,hg0,ht0,hv0,hd0,_,_⟩,_,_⟩:=h;obtain rfl:=Option.some.inj (gSw.symm.trans hg0);obtain rfl:=Option.some.inj (tSw.symm.trans ht0);obtain⟨xs,m1,rfl,hx1,hlen,hn,hel⟩:=DataW.trod_array Tryz.underlying120 hd0;rw [cSw]at hel;have hx:_=xs.map (·.1):=Qiw (Prod.mk.inj hx1).1;have hcell: ∀j,W.cell? ⟨0,j,none⟩=cs0[j]?:=fun j=>World.var?_cell hg0 hv0 j
 have go: ∀(j:Nat) (l:List UInt8) (x:DataW Unit × List MemPlace),DataW.lit (.string l)=x.1→DataW.trod (fun _=>()) Tryz.prog W 0 (fun _=>true) false m1 9 (List.take 1 (List.drop (j*1) cs0.toList))=some x→
   W.cell? ⟨0,j,none⟩=some (.string ⟨l.toArray⟩):=fun j l x e h=>by
  obtain⟨z,hz,hx,_⟩:=DataW.trod_string Tryz.underlying9 h;rw [hx]at e;rw [hcell,←Qnz (Qhk e),←Array.getElem?_toList];have h0:=congrArg (fun l:List Value=>l[0]?) hz;simp only [List.getElem?_take,List.getElem?_drop,Nat.mul_one,Nat.add_zero,if_pos Nat.one_pos]at h0;exact h0
 have all:SWD W:=by
  match xs,hn,hx,hel with
  | [x0,x1,x2,x3,x4,x5],_,hx,hel=>
   simp only [List.map_cons,List.map_nil,List.cons.injEq,and_true]at hx;obtain⟨e0,e1,e2,e3,e4,e5⟩:=hx;intro i h1 h2;have hm:i=1∨i=2∨i=3∨i=4∨i=5:=by omega
   rcases hm with rfl | rfl | rfl | rfl | rfl
   ·exact go 1 _ _ e1 (hel 1 (by omega))
   ·exact go 2 _ _ e2 (hel 2 (by omega))
   ·exact go 3 _ _ e3 (hel 3 (by omega))
   ·exact go 4 _ _ e4 (hel 4 (by omega))
   ·exact go 5 _ _ e5 (hel 5 (by omega))
 exact⟨all,World.block_lt_of_cell? W ⟨_,1,none⟩ (all 1 (by omega) (by omega))⟩
theorem Qq3 {H:Type} {enc:TypeId × Value→H} {P:Program} {w:World} {spare:Nat→Bool} {n0 n1 n2:String} {gs:List (DataW H)} {ps:List MemPlace} (h:DataW.TrodVars enc P w spare [n0,n1,n2] gs ps): ∃d0 d1 d2,gs= [d0,d1,d2]:=by
 cases gs with
 | nil=>simp [DataW.TrodVars]at h
 | cons d ds=>
  obtain⟨g0,t0,cs0,f0,p0,q0,h1,h2,h3,h4,hs,e⟩:=h;obtain⟨_,_,_,_,d1,_,_,_,_,_,d2,_,rfl,_⟩:=trodVars_two hs;exact⟨d,d1,d2,rfl⟩
theorem s0_of {r : List (String × DataW Unit)} {W : World} (h : laidMet Tryz.prog (("loop.example/g00267/impl.stmtWords", Rows.laid_loop_example_g00267_impl_stmtWords) :: r) W) : W.cell? ⟨0, 0, none⟩ = some (.string ⟨#[]⟩) := by
 obtain⟨ps,⟨g0,t0,cs0,f0,p0,q0,hg0,ht0,hv0,hd0,_,_⟩,_,_⟩:=h;obtain rfl:=Option.some.inj (gSw.symm.trans hg0);obtain rfl:=Option.some.inj (tSw.symm.trans ht0);obtain⟨xs,m1,rfl,hx1,hlen,hn,hel⟩:=DataW.trod_array Tryz.underlying120 hd0;rw [cSw]at hel;have hx:_=xs.map (·.1):=Qiw (Prod.mk.inj hx1).1;have hcell: ∀j,W.cell? ⟨0,j,none⟩=cs0[j]?:=fun j=>World.var?_cell hg0 hv0 j
 have go: ∀(j:Nat) (l:List UInt8) (x:DataW Unit × List MemPlace),DataW.lit (.string l)=x.1→DataW.trod (fun _=>()) Tryz.prog W 0 (fun _=>true) false m1 9 (List.take 1 (List.drop (j*1) cs0.toList))=some x→
   W.cell? ⟨0,j,none⟩=some (.string ⟨l.toArray⟩):=fun j l x e h=>by
  obtain⟨z,hz,hx,_⟩:=DataW.trod_string Tryz.underlying9 h;rw [hx]at e;rw [hcell,←Qnz (Qhk e),←Array.getElem?_toList];have h0:=congrArg (fun l:List Value=>l[0]?) hz;simp only [List.getElem?_take,List.getElem?_drop,Nat.mul_one,Nat.add_zero,if_pos Nat.one_pos]at h0;exact h0
 match xs,hn,hx,hel with
 | [x0,x1,x2,x3,x4,x5],_,hx,hel=>
  simp only [List.map_cons,List.map_nil,List.cons.injEq,and_true]at hx;obtain⟨e0,e1,e2,e3,e4,e5⟩:=hx;exact go 0 _ _ e0 (hel 0 (by omega))
end Go.Proofs.YtejbnnacghbhoaaGreatDoor
