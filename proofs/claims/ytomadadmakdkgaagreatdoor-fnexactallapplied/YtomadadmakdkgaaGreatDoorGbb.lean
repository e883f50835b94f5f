import Derived.Test.YtomadadmakdkgaaGreatDoorFnDE
import Derived.OpenShut
import Derived.Deep.Slices
import Derived.ChangeSame
import Derived.ChangeSlices
import Derived.ChangeVars
import Derived.MakeChecks
import Derived.Test.YtomadadmakdkgaaGreatDoorGzeA
import Derived.Test.YtomadadmakdkgaaGreatDoorBase
import Derived.Test.YtomadadmakdkgaaGreatDoorRows
import Derived.Test.YtomadadmakdkgaaGreatDoorGas
import Derived.LaidMore
import Derived.Stop.LaidErr
import Derived.Lib.LaidTab
import Derived.Shelf.Vars
import Derived.Handed
import Derived.HandedShaped
import Derived.Test.YtomadadmakdkgaaGreatDoorGau
open Go.Proofs.Tryz
open Option.some renaming inj → c
open Go.Value renaming int → k, string → z, slice → J
open Go.IntKind renaming i64 → y
open Go renaming TypeId → B, laidMet → F
open Go.ChangeShapes renaming trod_struct2 → E
open Prod.mk renaming inj → G
open Go.Ending renaming returned → I
set_option linter.unusedSimpArgs false
set_option linter.unusedVariables false
set_option maxRecDepth 100000
namespace Go.Proofs.YtomadadmakdkgaaGreatDoor
open Go.ChangeShapes Go.WideShapes Go.ChangeAt Go.RowKit Go.Joins
variable {H:Type} {base fuel:Nat} {held:Bool} {W:World} {sp:Nat->Bool} {p:List MemPlace}
theorem Dq{enc:B × Value->H}{P:Program}{w:World}{spare:Nat->Bool}{t:B}{f0 f1 f2:Field}{cs:List Value}{x:DataW H × List MemPlace}(ht:P.underlying t=some (.struct #[f0,f1,f2]))(h:DataW.trod enc P w base spare held fuel t cs=some x):
  ∃y0 y1 y2 n,x=(.agg [y0.1,y1.1,y2.1],y0.2++(y1.2++y2.2))/\DataW.trod enc P w base spare held n f0.type ((cs.drop f0.offset).take (P.cellsOf f0.type))=some y0/\
   DataW.trod enc P w base spare held n f1.type ((cs.drop f1.offset).take (P.cellsOf f1.type))=some y1/\DataW.trod enc P w base spare held n f2.type ((cs.drop f2.offset).take (P.cellsOf f2.type))=some y2:=by
 obtain⟨xs,n,_,rfl,hl,h0,hf⟩:=DataW.trod_struct ht h;match xs,h0 with
 | [y0,y1,y2],_=>exact⟨y0,y1,y2,n,by simp,by simpa using hf 0 f0 rfl,by simpa using hf 1 f1 rfl,by simpa using hf 2 f2 rfl⟩
theorem gFun : prog.globalNamed "loop.example/g00267/impl.functions" = some 1 := by kernel_rfl
theorem tFun:(prog.globals[1]?).map (·.type)=some 220:=by kernel_rfl
theorem Qxw:prog.cellsOf 219=3:=by kernel_rfl
theorem Qxu:prog.cellsOf 9=1:=by kernel_rfl
theorem cInt:prog.cellsOf 3=1:=by kernel_rfl
theorem Qsd:prog.cellsOf 81=3:=by kernel_rfl
theorem Qv1{enc:B × Value->H}{r:Reach}{b0:Nat}{v:Value}{d:DataW H}
  (hv:Value.okWide prog W r b0 43 v) (h:DataW.Trod enc prog W base sp held 43 v d p):
  ∃A len cap C R S,v= J A len cap/\ClRow W A len C R S:=by
 obtain⟨a0,len,cap,rfl⟩:=okWide_slice underlying43 hv;obtain⟨fuel,hf⟩:=h;rcases Go.Deep.open_slice underlying43 hf with⟨hcs,_⟩ | ⟨a,len',cap',m,n,D,Pl,hcs,_,hl,hm,hmm,_,hx⟩
 ·simp[Value.cells]at hcs;obtain⟨rfl,rfl,rfl⟩:=hcs;exact⟨none,0,0,fun _=>0,fun _=>0,fun _=>⟨#[]⟩,rfl,Nat.zero_le _,fun i hi=>absurd hi (Nat.not_lt_zero _)⟩
 ·simp[Value.cells]at hcs;obtain⟨rfl,rfl,rfl⟩:=hcs;rw[Qsd]at hx;have hlm:len<=m:=by rw[hmm];split<;>omega
  have h7: ∀i,i<len-> ∃q:Int × Int × ByteArray,∃b o,some a=some (⟨b,o,none⟩:Addr)/\b<W.heap.size/\W.cell? ⟨b,o+i*3,none⟩=some (k y q.1)/\W.cell? ⟨b,o+i*3+1,none⟩=some (k y q.2.1)/\
    W.cell? ⟨b,o+i*3+2,none⟩=some (z q.2.2)/\q.2.2.size<=maxLen:=by
   intro i hi;obtain⟨H1,h1,h2⟩:=hx i (by omega);obtain⟨_,h6,h0⟩:=World.cells?_some h1;have kr:prog.cellsOf 44=2:=by kernel_rfl
   have k1:prog.cellsOf 2=1:=by kernel_rfl
   have ks:prog.cellsOf 9=1:=by kernel_rfl
   match H1,h6 with
   | [v0,v1,v2],_=>
    obtain⟨y0,y1,n1,_,_,g0,g1⟩:=E underlying81 h2;simp only[kr,ks,List.drop_zero,List.take_succ_cons,List.take_zero,List.drop_succ_cons]at g0 g1;obtain⟨z0,z1,n2,_,_,q0,q1⟩:=E underlying44 g0;simp only[k1,List.drop_zero,List.take_succ_cons,List.take_zero,List.drop_succ_cons]at q0 q1;obtain⟨x0,e0,_,_⟩:=DataW.trod_int underlying2 q0;obtain⟨x1,e1,_,_⟩:=DataW.trod_int underlying2 q1;obtain⟨s,e2,_,ws⟩:=DataW.trod_string underlying9 g1
    simp at e0 e1 e2;subst e0 e1 e2;have d0:=h0 0 (by omega);have d1:=h0 1 (by omega);have d2:=h0 2 (by omega);obtain⟨b,off,h5⟩:=a
    have h4:h5=none:=by
     obtain⟨cs0,H0,_⟩:=hx 0 (by omega);obtain⟨_,hlen0,h3⟩:=World.cells?_some H0;have h8:=h3 0 (by omega);rw[List.getElem?_eq_getElem (by omega)]at h8;have h9:=World.cell?_spot h8;simpa[Addr.add]using h9
    subst h4;simp only[Go.WideShapes.add_plain]at d0 d1 d2;refine⟨(x0,x1,s),b,off,rfl,World.block_lt_of_cell? W ⟨b,off+i*3+0,none⟩ d0,d0,d1,d2,ws⟩
  haveI:Inhabited (Int × Int × ByteArray):=⟨(0,0,⟨#[]⟩)⟩
  obtain⟨q,hq⟩:=Go.Deep.choose_lt h7;exact⟨some a,len,cap,fun i=>(q i).1,fun i=>(q i).2.1,fun i=>(q i).2.2,rfl,Nat.le_trans hl hm,hq⟩
theorem Dp{a b:List (DataW H)}(h:DataW.agg a= .agg b):a=b:=by cases h;rfl
theorem gOps : prog.globalNamed "loop.example/g00267/impl.operators" = some 0 := by kernel_rfl
theorem tOps:(prog.globals[0]?).map (·.type)=some 217:=by kernel_rfl
theorem cOps:prog.cellsOf 216=2:=by kernel_rfl
theorem Qvi:prog.cellsOf 2=1:=by kernel_rfl
theorem gPow : prog.globalNamed "internal/strconv.uint64pow10" = some 4 := by kernel_rfl
theorem tPow:(prog.globals[4]?).map (·.type)=some 307:=by kernel_rfl
theorem cU:prog.cellsOf 189=1:=by kernel_rfl
theorem cA:prog.cellsOf 307=20:=by kernel_rfl
theorem powD:(Rows.laid_internal_strconv_uint64pow10:DataW Unit)=Lib.tabData .u64 Lib.pow10Tab:=by kernel_rfl
theorem Qs3{s:ByteArray}{l:List UInt8}(h:l=s.data.toList):s=bs l:=by rw[h];rfl
theorem Qud{enc:B × Value->H}{cs:Array Value}{s:List UInt8}{a:Int}{m g:Nat}
  (hc: ∀j,W.cell? ⟨g,j,none⟩=cs[j]?) (h:DataW.trod enc prog W base sp held fuel 216 ((cs.toList.drop (m*2)).take 2)=some (.agg [.lit (.string s),.lit (.int .i64 a)],p)):
  W.cell? ⟨g,m*2,none⟩=some (z (bs s))/\W.cell? ⟨g,m*2+1,none⟩=some (k y a):=by
 obtain⟨y0,y1,n,e,_,q0,q1⟩:=E underlying216 h;simp only[Qxu,Qvi,List.drop_zero]at q0 q1;obtain⟨s',e0,d0,_⟩:=DataW.trod_string underlying9 q0;obtain⟨x1,e1,d1,_⟩:=DataW.trod_int underlying2 q1;rw[d0,d1]at e;simp at e;obtain⟨⟨es,rfl⟩,_⟩:=e
 have k0:=congrArg (fun l=>l[0]?) e0;have k1:=congrArg (fun l=>l[0]?) e1;simp only[List.getElem?_take,List.getElem?_drop]at k0 k1;rw[<-Qs3 (s:=s') es];refine⟨?_,?_⟩
 ·rw[hc];simpa using k0
 ·rw[hc];simpa using k1
theorem Qn8{enc:B × Value->H}{cs:Array Value}{s:List UInt8}{a b:Int}{m g:Nat}
  (hc: ∀j,W.cell? ⟨g,j,none⟩=cs[j]?) (h:DataW.trod enc prog W base sp held fuel 219 ((cs.toList.drop (m*3)).take 3)=some (.agg [.lit (.string s),.lit (.int .i64 a),.lit (.int .i64 b)],p)):
  W.cell? ⟨g,m*3,none⟩=some (z (bs s))/\W.cell? ⟨g,m*3+1,none⟩=some (k y a)/\W.cell? ⟨g,m*3+2,none⟩=some (k y b):=by
 obtain⟨y0,y1,y2,n,e,q0,q1,q2⟩:=Dq underlying219 h;simp only[Qxu,cInt,List.drop_zero]at q0 q1 q2;obtain⟨s',e0,d0,_⟩:=DataW.trod_string underlying9 q0;obtain⟨x1,e1,d1,_⟩:=DataW.trod_int underlying3 q1;obtain⟨x2,e2,d2,_⟩:=DataW.trod_int underlying3 q2;rw[d0,d1,d2]at e;simp at e
 obtain⟨⟨es,rfl,rfl⟩,_⟩:=e;have k0:=congrArg (fun l=>l[0]?) e0;have k1:=congrArg (fun l=>l[0]?) e1;have k2:=congrArg (fun l=>l[0]?) e2;simp only[List.getElem?_take,List.getElem?_drop]at k0 k1 k2;rw[<-Qs3 (s:=s') es];refine⟨?_,?_,?_⟩
 ·rw[hc];simpa using k0
 ·rw[hc];simpa using k1
 ·rw[hc];simpa using k2
theorem ot_of{r: List (String × DataW Unit)} (h : F prog (("loop.example/g00267/impl.operators", Rows.laid_loop_example_g00267_impl_operators) :: r) W) : OT W := by
 obtain⟨ps,⟨g0,t0,h4,f0,p0,q0,h3,h7,h6,h8,_,_⟩,_,_⟩:=h;obtain rfl:=c (gOps.symm.trans h3);obtain rfl:=c (tOps.symm.trans h7);obtain⟨xs,m1,rfl,h5,hlen,hn,h0⟩:=DataW.trod_array underlying217 h8;rw[cOps]at h0;have hx:_=xs.map (·.1):=Dp (G h5).1;have h1: ∀j,W.cell? ⟨0,j,none⟩=h4[j]?:=fun j=>World.var?_cell h3 h6 j
 match xs,hn,hx,h0 with
 | [x0,x1,x2,x3,x4,x5,x6,x7,x8,x9,x10,x11],_,hx,h0=>
  simp only[List.map_cons,List.map_nil,List.cons.injEq,and_true]at hx;obtain⟨e0,e1,e2,e3,e4,e5,e6,e7,e8,e9,H0,h9⟩:=hx
  have go: ∀{m:Nat} {x:DataW Unit × List MemPlace} {s:List UInt8} {a:Int},DataW.agg [.lit (.string s),.lit (.int .i64 a)]=x.1->
    DataW.trod (fun _=>()) prog W 0 (fun _=>true) false m1 216 (List.take 2 (List.drop (m*2) h4.toList))=some x->
    W.cell? ⟨0,m*2,none⟩=some (z (bs s))/\W.cell? ⟨0,m*2+1,none⟩=some (k y a):=fun{m x s a} e h=>Qud (p:=x.2) h1 (by rw[h,e])
  intro m h2;have hm:m=0\/m=1\/m=2\/m=3\/m=4\/m=5\/m=6\/m=7\/m=8\/m=9\/m=10\/m=11:=by omega
  rcases hm with rfl | rfl | rfl | rfl | rfl | rfl | rfl | rfl | rfl | rfl | rfl | rfl
  ·exact go e0 (h0 0 (by omega))
  ·exact go e1 (h0 1 (by omega))
  ·exact go e2 (h0 2 (by omega))
  ·exact go e3 (h0 3 (by omega))
  ·exact go e4 (h0 4 (by omega))
  ·exact go e5 (h0 5 (by omega))
  ·exact go e6 (h0 6 (by omega))
  ·exact go e7 (h0 7 (by omega))
  ·exact go e8 (h0 8 (by omega))
  ·exact go e9 (h0 9 (by omega))
  ·exact go H0 (h0 10 (by omega))
  ·exact go h9 (h0 11 (by omega))
theorem Qu0{r: List (String × DataW Unit)} (h : F prog (("loop.example/g00267/impl.functions", Rows.laid_loop_example_g00267_impl_functions) :: r) W) : FT W /\ FTN W := by
 obtain⟨ps,⟨g0,t0,h6,f0,p0,q0,h5,h9,h8,H0,_,_⟩,_,_⟩:=h;obtain rfl:=c (gFun.symm.trans h5);obtain rfl:=c (tFun.symm.trans h9);obtain⟨xs,m1,rfl,h7,hlen,hn,h0⟩:=DataW.trod_array underlying220 H0;rw[Qxw]at h0;have hx:_=xs.map (·.1):=Dp (G h7).1;have h3: ∀j,W.cell? ⟨1,j,none⟩=h6[j]?:=fun j=>World.var?_cell h5 h8 j
 match xs,hn,hx,h0 with
 | [x0,x1,x2,x3,x4,x5,x6,x7,x8,x9,x10],_,hx,h0=>
  simp only[List.map_cons,List.map_nil,List.cons.injEq,and_true]at hx;obtain⟨e0,e1,e2,e3,e4,e5,e6,e7,e8,e9,H1⟩:=hx
  have go: ∀{m:Nat} {x:DataW Unit × List MemPlace} {s:List UInt8} {a b:Int},DataW.agg [.lit (.string s),.lit (.int .i64 a),.lit (.int .i64 b)]=x.1->
    DataW.trod (fun _=>()) prog W 0 (fun _=>true) false m1 219 (List.take 3 (List.drop (m*3) h6.toList))=some x->
    W.cell? ⟨1,m*3,none⟩=some (z (bs s))/\W.cell? ⟨1,m*3+1,none⟩=some (k y a)/\W.cell? ⟨1,m*3+2,none⟩=some (k y b):=fun{m x s a b} e h=>Qn8 (p:=x.2) h3 (by rw[h,e])
  have h4: ∀m:Nat,m<=10->W.cell? ⟨1,m*3,none⟩=some (z (bs (fnT m)))/\(1<=m->W.cell? ⟨1,m*3+1,none⟩=some (k y (Hx m))/\W.cell? ⟨1,m*3+2,none⟩=some (k y (MO m))):=by
   intro m h2;have hm:m=0\/m=1\/m=2\/m=3\/m=4\/m=5\/m=6\/m=7\/m=8\/m=9\/m=10:=by omega
   rcases hm with rfl | rfl | rfl | rfl | rfl | rfl | rfl | rfl | rfl | rfl | rfl
   ·have t:=go e0 (h0 0 (by omega));exact⟨t.1,fun h=>by omega⟩
   ·have t:=go e1 (h0 1 (by omega));exact⟨t.1,fun _=>t.2⟩
   ·have t:=go e2 (h0 2 (by omega));exact⟨t.1,fun _=>t.2⟩
   ·have t:=go e3 (h0 3 (by omega));exact⟨t.1,fun _=>t.2⟩
   ·have t:=go e4 (h0 4 (by omega));exact⟨t.1,fun _=>t.2⟩
   ·have t:=go e5 (h0 5 (by omega));exact⟨t.1,fun _=>t.2⟩
   ·have t:=go e6 (h0 6 (by omega));exact⟨t.1,fun _=>t.2⟩
   ·have t:=go e7 (h0 7 (by omega));exact⟨t.1,fun _=>t.2⟩
   ·have t:=go e8 (h0 8 (by omega));exact⟨t.1,fun _=>t.2⟩
   ·have t:=go e9 (h0 9 (by omega));exact⟨t.1,fun _=>t.2⟩
   ·have t:=go H1 (h0 10 (by omega));exact⟨t.1,fun _=>t.2⟩
  exact⟨fun m h1 h2=>⟨_,(h4 m h2).1,((h4 m h2).2 h1).1,((h4 m h2).2 h1).2⟩,fun m h2=>(h4 m h2).1⟩
theorem vt_of{r: List (String × DataW Unit)} (h : F prog (("internal/strconv.uint64pow10", Rows.laid_internal_strconv_uint64pow10) :: r) W) : VarT W := by
 rw[powD]at h;exact Lib.tabIs_of_head gPow tPow underlying307 underlying189 cU cA h
theorem mx_of(h:W.ShapedOpen prog):MX W:=
 cell_of_shapedOpen_int h (of_decide_eq_true (by kernel_rfl)) (zero:= #[k y 0]) (t:=3) (by kernel_rfl) rfl (by kernel_rfl) (by kernel_rfl) underlying3
theorem Qdj{enc:B × Value->H}{a:Assume}{C:Checked}{os:Os}{f:FuncId}{fn:Func}{s:ChangeSpec}{conds:List PathCond}{apart fresh handsOn again:Bool}{X:World->Array Value->Prop}
  (hX: ∀(w w':World) (args:Array Value),w.heap=w'.heap->X w args->X w' args)
  (own:ownKnob C.prog.godebug=none) (started:os.Started) (noInit:C.prog.inits.idxOf? f=none) (hfn:C.prog.funcs[f]? =some fn)
  (witness: ∃(w:World) (tape:Tape) (i:Input),w.os=os/\(w.forCall tape i).Shaped C.prog/\i.vars= []/\Input.okWide C.prog (w.forCall tape i) .any w.heap.size f i/\
   ((s.pre enc C.prog fn conds apart (w.forCall tape i).memory i.args/\X (w.forCall tape i).memory i.args)/\sizedMet enc C.prog fn (OpenSpec.ofChange s) apart (w.forCall tape i).memory i.args)/\a.holds C.prog (lone (Frame.enter C.prog f i.args .normal) [] (w.forCall tape i)))
  (contract: ∀(W:World) (base:Nat) (args:Array Value) (ds gs:List (DataW H)) (before:List MemPlace),
   (∀(j:Nat) t v,fn.params[j]? =some t->args[j]? =some v->Value.okWide C.prog W .any base t v)->
   DataW.Whole enc C.prog fn.params.toList s.vars apart W args.toList ds gs before->
   X W args->W.ShapedOpen C.prog->
   Calls C.prog f args W fun e W'=> ∃v,e= I v/\s.post enc C.prog fn apart fresh handsOn again W args v W'):
  ReturnsInHanded a C os f .any (fun w args=>(s.pre enc C.prog fn conds apart w args/\X w args)/\sizedMet enc C.prog fn (OpenSpec.ofChange s) apart w args) (s.post enc C.prog fn apart fresh handsOn again):=by
 refine returnsInHanded_of_calls own started noInit witness ?_;intro w tape i _ hsh _ hok hpre hholds;obtain⟨_,_,_,h3,h1,_,_,_,_,h0⟩:=hok;have e:h3=fn:=c (h1.symm.trans hfn);subst e;obtain⟨⟨⟨ds,gs,before,hw,hc⟩,hx⟩,hz⟩:=hpre;have h2:=DataW.Whole.of_heap (w':=w.forCall tape i) (by rfl) hw
 refine(contract (w.forCall tape i) w.heap.size i.args ds gs before h0 h2 (hX _ _ _ (by rfl) hx) hsh).mono fun e W' ⟨v,he,hp⟩=> ?_;subst he;exact ChangeSpec.post_blind hp
theorem Qw6 : prog.globalNamed "strconv.ErrSyntax" = some 2 := by kernel_rfl
theorem Qw7 : prog.globalNamed "strconv.ErrRange" = some 3 := by kernel_rfl
theorem Qv6:(prog.globals[2]?).map (·.type)=some 205:=by kernel_rfl
theorem Qv7:(prog.globals[3]?).map (·.type)=some 205:=by kernel_rfl
theorem cER:prog.cellsOf 298=1:=by kernel_rfl
theorem Qxv:prog.cellsOf 9=1:=by kernel_rfl
theorem Qsm : "*" ++ "errors.errorString" = "*errors.errorString" := by decide
theorem Qnj (u : B) (h : prog.typeName? 3 u = some "*errors.errorString") : u = 296 :=
 typeName_ptr_named (nm := "errors.errorString") (by rw [Qsm]; kernel_rfl) (by kernel_rfl) (by decide) u (by rw [Qsm]; exact h)
theorem Qxt{r: List (String × DataW Unit)} (h : F prog (("strconv.ErrRange", Rows.laid_strconv_ErrRange) :: ("strconv.ErrSyntax", Rows.laid_strconv_ErrSyntax) :: r) W) : (∃ tp p, W.var? prog "strconv.ErrSyntax" = some #[.iface tp p]) /\ (∃ tp p, W.var? prog "strconv.ErrRange" = some #[.iface tp p]) := by
 obtain⟨a0,s0,h1,-,-,-⟩:=laid_sentinel h Qw7 Qv7 underlying205 Qnj underlying296 underlying298 rfl rfl underlying9 cER Qxv;obtain⟨a1,s1,h0,-,-,-⟩:=laid_sentinel h.tail Qw6 Qv6 underlying205 Qnj underlying296 underlying298 rfl rfl underlying9 cER Qxv;exact⟨⟨_,_,h0⟩,⟨_,_,h1⟩⟩
theorem fl_of{r: List (String × DataW Unit)} (h : F prog (("loop.example/g00267/impl.functions", Rows.laid_loop_example_g00267_impl_functions) :: r) W) : FTL W := by
 have h8:=(Qu0 h).1;obtain⟨ps,⟨g0,t0,h4,f0,p0,q0,h3,h7,h6,h9,_,_⟩,_,_⟩:=h;obtain rfl:=c (gFun.symm.trans h3);obtain rfl:=c (tFun.symm.trans h7);obtain⟨xs,m1,rfl,h5,hlen,hn,h2⟩:=DataW.trod_array underlying220 h9;rw[Qxw]at h2;have hx:_=xs.map (·.1):=Dp (G h5).1
 have h1: ∀j,W.cell? ⟨1,j,none⟩=h4[j]?:=fun j=>World.var?_cell h3 h6 j;match xs,hn,hx,h2 with
 | [x0,x1,x2,x3,x4,x5,x6,x7,x8,x9,x10],_,hx,h2=>
  simp only[List.map_cons,List.map_nil,List.cons.injEq,and_true]at hx;obtain⟨e0,e1,e2,e3,e4,e5,e6,e7,e8,e9,e10⟩:=hx
  have go: ∀{m:Nat} {x:DataW Unit × List MemPlace} {s:List UInt8} {a b:Int},DataW.agg [.lit (.string s),.lit (.int .i64 a),.lit (.int .i64 b)]=x.1->
    DataW.trod (fun _=>()) prog W 0 (fun _=>true) false m1 219 (List.take 3 (List.drop (m*3) h4.toList))=some x->
    W.cell? ⟨1,m*3,none⟩=some (z (bs s))/\W.cell? ⟨1,m*3+1,none⟩=some (k y a)/\W.cell? ⟨1,m*3+2,none⟩=some (k y b):=fun{m x s a b} e h=>Qn8 (p:=x.2) h1 (by rw[h,e])
  have t0:=go e0 (h2 0 (by omega));refine⟨fun m=>if m=0 then 0 else Hx m,fun m=>if m=0 then 0 else MO m,fun m hm=> ?_⟩;by_cases h0:m=0
  ·subst h0;exact t0.2
  ·obtain⟨s,_,c1,c2⟩:=h8 m (by omega) hm;simp only;rw[nG h0,nG h0];exact⟨c1,c2⟩
end Go.Proofs.YtomadadmakdkgaaGreatDoor
