import Derived.Test.YtkkbgjeilomnmaaGreatDoorRows
import Derived.Test.YtkkbgjeilomnmaaGreatDoorOpenFn
import Derived.Test.YtkkbgjeilomnmaaGreatDoorGas
import Derived.LaidMore
import Derived.MakeChecks
import Derived.Stop.LaidErr
import Derived.Lib.LaidTab
import Derived.Shelf.Vars
import Derived.Handed
import Derived.HandedShaped
import Derived.Test.YtkkbgjeilomnmaaGreatDoorGau
set_option linter.unusedSimpArgs false
set_option linter.unusedVariables false
set_option maxRecDepth 100000
namespace Go.Proofs.YtkkbgjeilomnmaaGreatDoor
open Go.ChangeShapes Go.WideShapes Go.ChangeAt Go.RowKit Go.Joins
theorem Dt {H:Type} {a b:List (DataW H)} (h:DataW.agg a= .agg b):a=b:=by cases h;rfl
theorem Ql2 {s:ByteArray} {l:List UInt8} (h:l=s.data.toList):s=bs l:=by rw [h];rfl
theorem Qex {H:Type} {enc:TypeId × Value→H} {W:World} {base:Nat} {sp:Nat→Bool} {held:Bool} {fuel:Nat} {cs:Array Value} {s:List UInt8} {a b:Int} {p:List MemPlace} {m g:Nat}
  (hc: ∀j,W.cell? ⟨g,j,none⟩=cs[j]?) (h:DataW.trod enc Tryz.prog W base sp held fuel 243 ((cs.toList.drop (m*3)).take 3)=some (.agg [.lit (.string s),.lit (.int .i64 a),.lit (.int .i64 b)],p)):
  W.cell? ⟨g,m*3,none⟩=some (.string (bs s))∧W.cell? ⟨g,m*3+1,none⟩=some (.int .i64 a)∧W.cell? ⟨g,m*3+2,none⟩=some (.int .i64 b):=by
 obtain⟨y0,y1,y2,n,e,q0,q1,q2⟩:=GR Tryz.underlying243 h;simp only [cStr,cInt,List.drop_zero]at q0 q1 q2;obtain⟨s',e0,d0,_⟩:=DataW.trod_string Tryz.underlying9 q0;obtain⟨x1,e1,d1,_⟩:=DataW.trod_int Tryz.underlying3 q1;obtain⟨x2,e2,d2,_⟩:=DataW.trod_int Tryz.underlying3 q2;rw [d0,d1,d2]at e;simp at e
 obtain⟨⟨es,rfl,rfl⟩,_⟩:=e;have k0:=congrArg (fun l=>l[0]?) e0;have k1:=congrArg (fun l=>l[0]?) e1;have k2:=congrArg (fun l=>l[0]?) e2;simp only [List.getElem?_take,List.getElem?_drop]at k0 k1 k2;rw [←Ql2 (s:=s') es];refine⟨?_,?_,?_⟩
 ·rw [hc];simpa using k0
 ·rw [hc];simpa using k1
 ·rw [hc];simpa using k2
theorem Qj7 {r : List (String × DataW Unit)} {W : World} (h : laidMet Tryz.prog (("loop.example/g00267/impl.functions", Rows.laid_loop_example_g00267_impl_functions) :: r) W) : FT W ∧ FTN W := by
 obtain⟨ps,⟨g0,t0,cs0,f0,p0,q0,hg0,ht0,hv0,hd0,_,_⟩,_,_⟩:=h;obtain rfl:=Option.some.inj (gFun.symm.trans hg0);obtain rfl:=Option.some.inj (tFun.symm.trans ht0);obtain⟨xs,m1,rfl,hx1,hlen,hn,hel⟩:=DataW.trod_array Tryz.underlying244 hd0;rw [Ql9]at hel;have hx:_=xs.map (·.1):=Dt (Prod.mk.inj hx1).1;have hcell: ∀j,W.cell? ⟨2,j,none⟩=cs0[j]?:=fun j=>World.var?_cell hg0 hv0 j
 match xs,hn,hx,hel with
 | [x0,x1,x2,x3,x4,x5,x6,x7,x8,x9,x10],_,hx,hel=>
  simp only [List.map_cons,List.map_nil,List.cons.injEq,and_true]at hx;obtain⟨e0,e1,e2,e3,e4,e5,e6,e7,e8,e9,e10⟩:=hx
  have go: ∀{m:Nat} {x:DataW Unit × List MemPlace} {s:List UInt8} {a b:Int},DataW.agg [.lit (.string s),.lit (.int .i64 a),.lit (.int .i64 b)]=x.1→
    DataW.trod (fun _=>()) Tryz.prog W 0 (fun _=>true) false m1 243 (List.take 3 (List.drop (m*3) cs0.toList))=some x→
    W.cell? ⟨2,m*3,none⟩=some (.string (bs s))∧W.cell? ⟨2,m*3+1,none⟩=some (.int .i64 a)∧W.cell? ⟨2,m*3+2,none⟩=some (.int .i64 b):=fun{m x s a b} e h=>Qex (p:=x.2) hcell (by rw [h,e])
  have all: ∀m:Nat,m≤10→W.cell? ⟨2,m*3,none⟩=some (.string (bs (fnT m)))∧(1≤m→W.cell? ⟨2,m*3+1,none⟩=some (.int .i64 (JB m))∧W.cell? ⟨2,m*3+2,none⟩=some (.int .i64 (KH m))):=by
   intro m h2;have hm:m=0∨m=1∨m=2∨m=3∨m=4∨m=5∨m=6∨m=7∨m=8∨m=9∨m=10:=by omega
   rcases hm with rfl | rfl | rfl | rfl | rfl | rfl | rfl | rfl | rfl | rfl | rfl
   ·have t:=go e0 (hel 0 (by omega));exact⟨t.1,fun h=>by omega⟩
   ·have t:=go e1 (hel 1 (by omega));exact⟨t.1,fun _=>t.2⟩
   ·have t:=go e2 (hel 2 (by omega));exact⟨t.1,fun _=>t.2⟩
   ·have t:=go e3 (hel 3 (by omega));exact⟨t.1,fun _=>t.2⟩
   ·have t:=go e4 (hel 4 (by omega));exact⟨t.1,fun _=>t.2⟩
   ·have t:=go e5 (hel 5 (by omega));exact⟨t.1,fun _=>t.2⟩
   ·have t:=go e6 (hel 6 (by omega));exact⟨t.1,fun _=>t.2⟩
   ·have t:=go e7 (hel 7 (by omega));exact⟨t.1,fun _=>t.2⟩
   ·have t:=go e8 (hel 8 (by omega));exact⟨t.1,fun _=>t.2⟩
   ·have t:=go e9 (hel 9 (by omega));exact⟨t.1,fun _=>t.2⟩
   ·have t:=go e10 (hel 10 (by omega));exact⟨t.1,fun _=>t.2⟩
  exact⟨fun m h1 h2=>⟨_,(all m h2).1,((all m h2).2 h1).1,((all m h2).2 h1).2⟩,fun m h2=>(all m h2).1⟩
theorem Qlw : Tryz.prog.globalNamed "strconv.ErrSyntax" = some 3 := by kernel_rfl
theorem Qlx : Tryz.prog.globalNamed "strconv.ErrRange" = some 4 := by kernel_rfl
theorem Qk2:(Tryz.prog.globals[3]?).map (·.type)=some 209:=by kernel_rfl
theorem Qk3:(Tryz.prog.globals[4]?).map (·.type)=some 209:=by kernel_rfl
theorem cER:Tryz.prog.cellsOf 282=1:=by kernel_rfl
theorem Ql8:Tryz.prog.cellsOf 9=1:=by kernel_rfl
theorem Qib : "*" ++ "errors.errorString" = "*errors.errorString" := by decide
theorem Qea (u : TypeId) (h : Tryz.prog.typeName? 3 u = some "*errors.errorString") : u = 280 :=
 typeName_ptr_named (nm := "errors.errorString") (by rw [Qib]; kernel_rfl) (by kernel_rfl) (by decide) u (by rw [Qib]; exact h)
theorem Ql7 {r : List (String × DataW Unit)} {W : World} (h : laidMet Tryz.prog (("strconv.ErrRange", Rows.laid_strconv_ErrRange) :: ("strconv.ErrSyntax", Rows.laid_strconv_ErrSyntax) :: r) W) : (∃ tp p, W.var? Tryz.prog "strconv.ErrSyntax" = some #[.iface tp p]) ∧ (∃ tp p, W.var? Tryz.prog "strconv.ErrRange" = some #[.iface tp p]) := by
 obtain⟨a0,s0,hv0,-,-,-⟩:=laid_sentinel h Qlx Qk3 Tryz.underlying209 Qea Tryz.underlying280 Tryz.underlying282 rfl rfl Tryz.underlying9 cER Ql8;obtain⟨a1,s1,hv1,-,-,-⟩:=laid_sentinel h.tail Qlw Qk2 Tryz.underlying209 Qea Tryz.underlying280 Tryz.underlying282 rfl rfl Tryz.underlying9 cER Ql8;exact⟨⟨_,_,hv1⟩,⟨_,_,hv0⟩⟩
theorem fl_of {r : List (String × DataW Unit)} {W : World} (h : laidMet Tryz.prog (("loop.example/g00267/impl.functions", Rows.laid_loop_example_g00267_impl_functions) :: r) W) : FTL W := by
 have hft:=(Qj7 h).1;obtain⟨ps,⟨g0,t0,cs0,f0,p0,q0,hg0,ht0,hv0,hd0,_,_⟩,_,_⟩:=h;obtain rfl:=Option.some.inj (gFun.symm.trans hg0);obtain rfl:=Option.some.inj (tFun.symm.trans ht0);obtain⟨xs,m1,rfl,hx1,hlen,hn,hel⟩:=DataW.trod_array Tryz.underlying244 hd0;rw [Ql9]at hel;have hx:_=xs.map (·.1):=Dt (Prod.mk.inj hx1).1
 have hcell: ∀j,W.cell? ⟨2,j,none⟩=cs0[j]?:=fun j=>World.var?_cell hg0 hv0 j;match xs,hn,hx,hel with
 | [x0,x1,x2,x3,x4,x5,x6,x7,x8,x9,x10],_,hx,hel=>
  simp only [List.map_cons,List.map_nil,List.cons.injEq,and_true]at hx;obtain⟨e0,e1,e2,e3,e4,e5,e6,e7,e8,e9,e10⟩:=hx
  have go: ∀{m:Nat} {x:DataW Unit × List MemPlace} {s:List UInt8} {a b:Int},DataW.agg [.lit (.string s),.lit (.int .i64 a),.lit (.int .i64 b)]=x.1→
    DataW.trod (fun _=>()) Tryz.prog W 0 (fun _=>true) false m1 243 (List.take 3 (List.drop (m*3) cs0.toList))=some x→
    W.cell? ⟨2,m*3,none⟩=some (.string (bs s))∧W.cell? ⟨2,m*3+1,none⟩=some (.int .i64 a)∧W.cell? ⟨2,m*3+2,none⟩=some (.int .i64 b):=fun{m x s a b} e h=>Qex (p:=x.2) hcell (by rw [h,e])
  have t0:=go e0 (hel 0 (by omega));refine⟨fun m=>if m=0 then 0 else JB m,fun m=>if m=0 then 0 else KH m,fun m hm=> ?_⟩;by_cases h0:m=0
  ·subst h0;exact t0.2
  ·obtain⟨s,_,c1,c2⟩:=hft m (by omega) hm;simp only;rw [if_neg h0,if_neg h0];exact⟨c1,c2⟩
end Go.Proofs.YtkkbgjeilomnmaaGreatDoor
