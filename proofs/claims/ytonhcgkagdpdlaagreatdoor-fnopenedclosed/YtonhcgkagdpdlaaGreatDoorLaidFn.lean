import Derived.Test.YtonhcgkagdpdlaaGreatDoorOpenFn
import Derived.Test.YtonhcgkagdpdlaaGreatDoorRows
import Derived.LaidMore
set_option linter.unusedSimpArgs false
set_option linter.unusedVariables false
set_option maxRecDepth 100000
namespace Go.Proofs.YtonhcgkagdpdlaaGreatDoor
open Go.ChangeShapes Go.WideShapes Go.ChangeAt Go.RowKit Go.Joins
theorem agg_inj {H:Type} {a b:List (DataW H)} (h:DataW.agg a= .agg b):a=b:=by cases h;rfl
theorem ft_of {W : World} (h : laidMetH Tryz.prog [("loop.example/g00267/impl.functions", Rows.laid_loop_example_g00267_impl_functions)] W) : FT W := by
 rw [MakeChecks.laidMetH_plain _ _ _ (by kernel_rfl)]at h
 obtain⟨ps,⟨g0,t0,cs0,f0,p0,q0,hg0,ht0,hv0,hd0,_,_⟩,_,_⟩:=h
 obtain rfl:=Option.some.inj (gFun.symm.trans hg0)
 obtain rfl:=Option.some.inj (tFun.symm.trans ht0)
 obtain⟨xs,m1,rfl,hx1,hlen,hn,hel⟩:=DataW.trod_array Tryz.underlying90 hd0
 rw [cFun]at hel
 have hx:_=xs.map (·.1):=agg_inj (Prod.mk.inj hx1).1
 have hcell: ∀j,W.cell? ⟨0,j,none⟩=cs0[j]?:=fun j=>World.var?_cell hg0 hv0 j
 match xs,hn,hx,hel with
 | [x0,x1,x2,x3,x4,x5,x6,x7,x8,x9,x10],_,hx,hel=>
  simp only [List.map_cons,List.map_nil,List.cons.injEq,and_true]at hx
  obtain⟨_,e1,e2,e3,e4,e5,e6,e7,e8,e9,e10⟩:=hx
  have go: ∀{m:Nat} {x:DataW Unit × List MemPlace} {s:List UInt8} {a b:Int},DataW.agg [.lit (.string s),.lit (.int .i64 a),.lit (.int .i64 b)]=x.1→
    DataW.trod (fun _=>()) Tryz.prog W 0 (fun _=>true) false m1 89 (List.take 3 (List.drop (m*3) cs0.toList))=some x→
    ∃s',W.cell? ⟨0,m*3,none⟩=some (.string s')∧W.cell? ⟨0,m*3+1,none⟩=some (.int .i64 a)∧W.cell? ⟨0,m*3+2,none⟩=some (.int .i64 b):=fun{m x s a b} e h=>fun_row (p:=x.2) hcell (by rw [h,e])
  intro m h1 h2
  have hm:m=1∨m=2∨m=3∨m=4∨m=5∨m=6∨m=7∨m=8∨m=9∨m=10:=by omega
  rcases hm with rfl | rfl | rfl | rfl | rfl | rfl | rfl | rfl | rfl | rfl
  ·exact go e1 (hel 1 (by omega))
  ·exact go e2 (hel 2 (by omega))
  ·exact go e3 (hel 3 (by omega))
  ·exact go e4 (hel 4 (by omega))
  ·exact go e5 (hel 5 (by omega))
  ·exact go e6 (hel 6 (by omega))
  ·exact go e7 (hel 7 (by omega))
  ·exact go e8 (hel 8 (by omega))
  ·exact go e9 (hel 9 (by omega))
  ·exact go e10 (hel 10 (by omega))
end Go.Proofs.YtonhcgkagdpdlaaGreatDoor
