import Derived.Test.YtbdhinckiccniaaGreatDoorFnDE
import Derived.OpenShut
import Derived.Deep.Slices
import Derived.ChangeSame
import Derived.ChangeSlices
import Derived.ChangeVars
import Derived.MakeChecks
import Derived.Test.YtbdhinckiccniaaGreatDoorGzeA
import Derived.Test.YtbdhinckiccniaaGreatDoorBase
import Derived.Test.YtbdhinckiccniaaGreatDoorRows
import Derived.Test.YtbdhinckiccniaaGreatDoorGas
import Derived.LaidMore
import Derived.Stop.LaidErr
import Derived.Lib.LaidTab
import Derived.Shelf.Vars
import Derived.Handed
import Derived.HandedShaped
import Derived.Test.YtbdhinckiccniaaGreatDoorGau
set_option linter.unusedSimpArgs false
set_option linter.unusedVariables false
set_option maxRecDepth 100000
namespace Go.Proofs.YtbdhinckiccniaaGreatDoor
open Go.ChangeShapes Go.WideShapes Go.ChangeAt Go.RowKit Go.Joins
theorem NK {H:Type} {enc:TypeId × Value→H} {P:Program} {w:World} {base:Nat} {spare:Nat→Bool} {held:Bool} {t:TypeId} {f0 f1 f2:Field} {fuel:Nat} {cs:List Value} {x:DataW H × List MemPlace} (ht:P.underlying t=some (.struct #[f0,f1,f2])) (h:DataW.trod enc P w base spare held fuel t cs=some x):
  ∃y0 y1 y2 n,x=(.agg [y0.1,y1.1,y2.1],y0.2++(y1.2++y2.2))∧DataW.trod enc P w base spare held n f0.type ((cs.drop f0.offset).take (P.cellsOf f0.type))=some y0∧
   DataW.trod enc P w base spare held n f1.type ((cs.drop f1.offset).take (P.cellsOf f1.type))=some y1∧DataW.trod enc P w base spare held n f2.type ((cs.drop f2.offset).take (P.cellsOf f2.type))=some y2:=by
 obtain⟨xs,n,_,rfl,hl,hlen,hf⟩:=DataW.trod_struct ht h;match xs,hlen with
 | [y0,y1,y2],_=>exact⟨y0,y1,y2,n,by simp,by simpa using hf 0 f0 rfl,by simpa using hf 1 f1 rfl,by simpa using hf 2 f2 rfl⟩
theorem gFun : Tryz.prog.globalNamed "loop.example/g00267/impl.functions" = some 2 := by kernel_rfl
theorem tFun:(Tryz.prog.globals[2]?).map (·.type)=some 265:=by kernel_rfl
theorem Qvx:Tryz.prog.cellsOf 264=3:=by kernel_rfl
theorem Qvv:Tryz.prog.cellsOf 9=1:=by kernel_rfl
theorem cInt:Tryz.prog.cellsOf 3=1:=by kernel_rfl
def Co (W:World) (A:Option Addr) (len:Nat):Prop:=len≤maxLen∧ ∀i,i<len→ ∃b o v,A=some ⟨b,o,none⟩∧W.cell? ⟨b,o+i,none⟩=some (.int .u8 v)∧0≤v∧v≤255
theorem Qq4:Tryz.prog.cellsOf 5=1:=by kernel_rfl
theorem Qt6 {H:Type} {enc:TypeId × Value→H} {W:World} {r:Reach} {b0 base:Nat} {held:Bool} {v:Value} {d:DataW H} {p:List MemPlace}
  (hv:Value.okWide Tryz.prog W r b0 22 v) (h:DataW.Trod enc Tryz.prog W base (fun _=>true) held 22 v d p):
  ∃A len cap,v= .slice A len cap∧Co W A len:=by
 obtain⟨a0,len,cap,rfl⟩:=okWide_slice Tryz.underlying22 hv;obtain⟨fuel,hf⟩:=h;refine⟨a0,len,cap,rfl,?_⟩;rcases open_ints Tryz.underlying22 Tryz.underlying5 Qq4 hf with⟨hcs,hx⟩ | ⟨a,len',cap',zs,hcs,_,hl,hm,hz,hx,hcell,hwz⟩
 ·simp [Value.cells]at hcs;obtain⟨rfl,rfl,rfl⟩:=hcs;exact⟨Nat.zero_le _,fun i hi=>absurd hi (Nat.not_lt_zero _)⟩
 ·simp [Value.cells]at hcs;obtain⟨rfl,rfl,rfl⟩:=hcs;simp at hz;refine⟨Nat.le_trans hl hm,fun i hi=> ?_⟩;obtain⟨b,off,rfl,hc⟩:=Go.ints_at hcell (by omega);have hwf:=hwz (zs.getD i 0) (by rw [List.getD_eq_getElem?_getD,List.getElem?_eq_getElem (by omega)];exact List.getElem_mem _);refine⟨b,off,zs.getD i 0,rfl,hc i (by omega),?_⟩
  have hb:IntKind.u8.min=0∧IntKind.u8.max=255:=⟨by kernel_rfl,by kernel_rfl⟩;simp only [Lit.wf,hb.1,hb.2,Bool.and_eq_true,decide_eq_true_eq]at hwf;exact hwf
theorem NI {H:Type} {a b:List (DataW H)} (h:DataW.agg a= .agg b):a=b:=by cases h;rfl
theorem gOps : Tryz.prog.globalNamed "loop.example/g00267/impl.operators" = some 1 := by kernel_rfl
theorem tOps:(Tryz.prog.globals[1]?).map (·.type)=some 262:=by kernel_rfl
theorem cOps:Tryz.prog.cellsOf 261=2:=by kernel_rfl
theorem Qts:Tryz.prog.cellsOf 2=1:=by kernel_rfl
theorem gPow : Tryz.prog.globalNamed "internal/strconv.uint64pow10" = some 5 := by kernel_rfl
theorem tPow:(Tryz.prog.globals[5]?).map (·.type)=some 282:=by kernel_rfl
theorem cU:Tryz.prog.cellsOf 183=1:=by kernel_rfl
theorem cA:Tryz.prog.cellsOf 282=20:=by kernel_rfl
theorem powD:(Rows.laid_internal_strconv_uint64pow10:DataW Unit)=Lib.tabData .u64 Lib.pow10Tab:=by kernel_rfl
theorem Qrq {s:ByteArray} {l:List UInt8} (h:l=s.data.toList):s=bs l:=by rw [h];rfl
theorem Qso {H:Type} {enc:TypeId × Value→H} {W:World} {base:Nat} {sp:Nat→Bool} {held:Bool} {fuel:Nat} {cs:Array Value} {s:List UInt8} {a:Int} {p:List MemPlace} {m g:Nat}
  (hc: ∀j,W.cell? ⟨g,j,none⟩=cs[j]?) (h:DataW.trod enc Tryz.prog W base sp held fuel 261 ((cs.toList.drop (m*2)).take 2)=some (.agg [.lit (.string s),.lit (.int .i64 a)],p)):
  W.cell? ⟨g,m*2,none⟩=some (.string (bs s))∧W.cell? ⟨g,m*2+1,none⟩=some (.int .i64 a):=by
 obtain⟨y0,y1,n,e,_,q0,q1⟩:=trod_struct2 Tryz.underlying261 h;simp only [Qvv,Qts,List.drop_zero]at q0 q1;obtain⟨s',e0,d0,_⟩:=DataW.trod_string Tryz.underlying9 q0;obtain⟨x1,e1,d1,_⟩:=DataW.trod_int Tryz.underlying2 q1;rw [d0,d1]at e;simp at e;obtain⟨⟨es,rfl⟩,_⟩:=e
 have k0:=congrArg (fun l=>l[0]?) e0;have k1:=congrArg (fun l=>l[0]?) e1;simp only [List.getElem?_take,List.getElem?_drop]at k0 k1;rw [←Qrq (s:=s') es];refine⟨?_,?_⟩
 ·rw [hc];simpa using k0
 ·rw [hc];simpa using k1
theorem Qm3 {H:Type} {enc:TypeId × Value→H} {W:World} {base:Nat} {sp:Nat→Bool} {held:Bool} {fuel:Nat} {cs:Array Value} {s:List UInt8} {a b:Int} {p:List MemPlace} {m g:Nat}
  (hc: ∀j,W.cell? ⟨g,j,none⟩=cs[j]?) (h:DataW.trod enc Tryz.prog W base sp held fuel 264 ((cs.toList.drop (m*3)).take 3)=some (.agg [.lit (.string s),.lit (.int .i64 a),.lit (.int .i64 b)],p)):
  W.cell? ⟨g,m*3,none⟩=some (.string (bs s))∧W.cell? ⟨g,m*3+1,none⟩=some (.int .i64 a)∧W.cell? ⟨g,m*3+2,none⟩=some (.int .i64 b):=by
 obtain⟨y0,y1,y2,n,e,q0,q1,q2⟩:=NK Tryz.underlying264 h;simp only [Qvv,cInt,List.drop_zero]at q0 q1 q2;obtain⟨s',e0,d0,_⟩:=DataW.trod_string Tryz.underlying9 q0;obtain⟨x1,e1,d1,_⟩:=DataW.trod_int Tryz.underlying3 q1;obtain⟨x2,e2,d2,_⟩:=DataW.trod_int Tryz.underlying3 q2;rw [d0,d1,d2]at e;simp at e
 obtain⟨⟨es,rfl,rfl⟩,_⟩:=e;have k0:=congrArg (fun l=>l[0]?) e0;have k1:=congrArg (fun l=>l[0]?) e1;have k2:=congrArg (fun l=>l[0]?) e2;simp only [List.getElem?_take,List.getElem?_drop]at k0 k1 k2;rw [←Qrq (s:=s') es];refine⟨?_,?_,?_⟩
 ·rw [hc];simpa using k0
 ·rw [hc];simpa using k1
 ·rw [hc];simpa using k2
theorem ot_of {r : List (String × DataW Unit)} {W : World} (h : laidMet Tryz.prog (("loop.example/g00267/impl.operators", Rows.laid_loop_example_g00267_impl_operators) :: r) W) : OT W := by
 obtain⟨ps,⟨g0,t0,cs0,f0,p0,q0,hg0,ht0,hv0,hd0,_,_⟩,_,_⟩:=h;obtain rfl:=Option.some.inj (gOps.symm.trans hg0);obtain rfl:=Option.some.inj (tOps.symm.trans ht0);obtain⟨xs,m1,rfl,hx1,hlen,hn,hel⟩:=DataW.trod_array Tryz.underlying262 hd0;rw [cOps]at hel;have hx:_=xs.map (·.1):=NI (Prod.mk.inj hx1).1;have hcell: ∀j,W.cell? ⟨1,j,none⟩=cs0[j]?:=fun j=>World.var?_cell hg0 hv0 j
 match xs,hn,hx,hel with
 | [x0,x1,x2,x3,x4,x5,x6,x7,x8,x9,x10,x11],_,hx,hel=>
  simp only [List.map_cons,List.map_nil,List.cons.injEq,and_true]at hx;obtain⟨e0,e1,e2,e3,e4,e5,e6,e7,e8,e9,e10,e11⟩:=hx
  have go: ∀{m:Nat} {x:DataW Unit × List MemPlace} {s:List UInt8} {a:Int},DataW.agg [.lit (.string s),.lit (.int .i64 a)]=x.1→
    DataW.trod (fun _=>()) Tryz.prog W 0 (fun _=>true) false m1 261 (List.take 2 (List.drop (m*2) cs0.toList))=some x→
    W.cell? ⟨1,m*2,none⟩=some (.string (bs s))∧W.cell? ⟨1,m*2+1,none⟩=some (.int .i64 a):=fun{m x s a} e h=>Qso (p:=x.2) hcell (by rw [h,e])
  intro m h2;have hm:m=0∨m=1∨m=2∨m=3∨m=4∨m=5∨m=6∨m=7∨m=8∨m=9∨m=10∨m=11:=by omega
  rcases hm with rfl | rfl | rfl | rfl | rfl | rfl | rfl | rfl | rfl | rfl | rfl | rfl
  ·exact go e0 (hel 0 (by omega))
  ·exact go e1 (hel 1 (by omega))
  ·exact go e2 (hel 2 (by omega))
  ·exact go e3 (hel 3 (by omega))
  ·exact go e4 (hel 4 (by omega))
  ·exact go e5 (hel 5 (by omega))
  ·exact go e6 (hel 6 (by omega))
  ·exact go e7 (hel 7 (by omega))
  ·exact go e8 (hel 8 (by omega))
  ·exact go e9 (hel 9 (by omega))
  ·exact go e10 (hel 10 (by omega))
  ·exact go e11 (hel 11 (by omega))
theorem Qte {r : List (String × DataW Unit)} {W : World} (h : laidMet Tryz.prog (("loop.example/g00267/impl.functions", Rows.laid_loop_example_g00267_impl_functions) :: r) W) : FT W ∧ FTN W := by
 obtain⟨ps,⟨g0,t0,cs0,f0,p0,q0,hg0,ht0,hv0,hd0,_,_⟩,_,_⟩:=h;obtain rfl:=Option.some.inj (gFun.symm.trans hg0);obtain rfl:=Option.some.inj (tFun.symm.trans ht0);obtain⟨xs,m1,rfl,hx1,hlen,hn,hel⟩:=DataW.trod_array Tryz.underlying265 hd0;rw [Qvx]at hel;have hx:_=xs.map (·.1):=NI (Prod.mk.inj hx1).1;have hcell: ∀j,W.cell? ⟨2,j,none⟩=cs0[j]?:=fun j=>World.var?_cell hg0 hv0 j
 match xs,hn,hx,hel with
 | [x0,x1,x2,x3,x4,x5,x6,x7,x8,x9,x10],_,hx,hel=>
  simp only [List.map_cons,List.map_nil,List.cons.injEq,and_true]at hx;obtain⟨e0,e1,e2,e3,e4,e5,e6,e7,e8,e9,e10⟩:=hx
  have go: ∀{m:Nat} {x:DataW Unit × List MemPlace} {s:List UInt8} {a b:Int},DataW.agg [.lit (.string s),.lit (.int .i64 a),.lit (.int .i64 b)]=x.1→
    DataW.trod (fun _=>()) Tryz.prog W 0 (fun _=>true) false m1 264 (List.take 3 (List.drop (m*3) cs0.toList))=some x→
    W.cell? ⟨2,m*3,none⟩=some (.string (bs s))∧W.cell? ⟨2,m*3+1,none⟩=some (.int .i64 a)∧W.cell? ⟨2,m*3+2,none⟩=some (.int .i64 b):=fun{m x s a b} e h=>Qm3 (p:=x.2) hcell (by rw [h,e])
  have all: ∀m:Nat,m≤10→W.cell? ⟨2,m*3,none⟩=some (.string (bs (fnT m)))∧(1≤m→W.cell? ⟨2,m*3+1,none⟩=some (.int .i64 (VN m))∧W.cell? ⟨2,m*3+2,none⟩=some (.int .i64 (Uy m))):=by
   intro m h2;have hm:m=0∨m=1∨m=2∨m=3∨m=4∨m=5∨m=6∨m=7∨m=8∨m=9∨m=10:=by omega
   rcases hm with rfl | rfl | rfl | rfl | rfl | rfl | rfl | rfl | rfl | rfl | rfl
   ·have t:=go e0 (hel 0 (by omega));exact⟨t.1,fun h=>by omega⟩
   ·have t:=go e1 (hel 1 (by omega));exact⟨t.1,fun _=>t.2⟩
   ·have t:=go e2 (hel 2 (by omega));exact⟨t.1,fun _=>t.2⟩
   ·have t:=go e3 (hel 3 (by omega));exact⟨t.1,fun _=>t.2⟩
   ·have t:=go e4 (hel 4 (by omega));exact⟨t.1,fun _=>t.2⟩
   ·have t:=go e5 (hel 5 (by omega));exact⟨t.1,fun _=>t.2⟩
   ·have t:=go e6 (hel 6 (by omega));exact⟨t.1,fun _=>t.2⟩
   ·have t:=go e7 (hel 7 (by omega));exact⟨t.1,fun _=>t.2⟩
   ·have t:=go e8 (hel 8 (by omega));exact⟨t.1,fun _=>t.2⟩
   ·have t:=go e9 (hel 9 (by omega));exact⟨t.1,fun _=>t.2⟩
   ·have t:=go e10 (hel 10 (by omega));exact⟨t.1,fun _=>t.2⟩
  exact⟨fun m h1 h2=>⟨_,(all m h2).1,((all m h2).2 h1).1,((all m h2).2 h1).2⟩,fun m h2=>(all m h2).1⟩
theorem vt_of {r : List (String × DataW Unit)} {W : World} (h : laidMet Tryz.prog (("internal/strconv.uint64pow10", Rows.laid_internal_strconv_uint64pow10) :: r) W) : VarT W := by
 rw [powD]at h;exact Lib.tabIs_of_head gPow tPow Tryz.underlying282 Tryz.underlying183 cU cA h
theorem mx_of {W:World} (h:W.ShapedOpen Tryz.prog):MX W:=
 cell_of_shapedOpen_int h (of_decide_eq_true (by kernel_rfl)) (zero:= #[.int .i64 0]) (t:=3) (by kernel_rfl) rfl (by kernel_rfl) (by kernel_rfl) Tryz.underlying3
theorem Qcy {H:Type} {enc:TypeId × Value→H} {a:Assume} {C:Checked} {os:Os} {f:FuncId} {fn:Func} {s:ChangeSpec} {conds:List PathCond} {apart fresh handsOn again:Bool} {X:World→Array Value→Prop}
  (hX: ∀(w w':World) (args:Array Value),w.heap=w'.heap→X w args→X w' args)
  (own:ownKnob C.prog.godebug=none) (started:os.Started) (noInit:C.prog.inits.idxOf? f=none) (hfn:C.prog.funcs[f]? =some fn)
  (witness: ∃(w:World) (tape:Tape) (i:Input),w.os=os∧(w.forCall tape i).Shaped C.prog∧i.vars= []∧Input.okWide C.prog (w.forCall tape i) .any w.heap.size f i∧
   ((s.pre enc C.prog fn conds apart (w.forCall tape i).memory i.args∧X (w.forCall tape i).memory i.args)∧sizedMet enc C.prog fn (OpenSpec.ofChange s) apart (w.forCall tape i).memory i.args)∧a.holds C.prog (lone (Frame.enter C.prog f i.args .normal) [] (w.forCall tape i)))
  (contract: ∀(W:World) (base:Nat) (args:Array Value) (ds gs:List (DataW H)) (before:List MemPlace),
   (∀(j:Nat) t v,fn.params[j]? =some t→args[j]? =some v→Value.okWide C.prog W .any base t v)→
   DataW.Whole enc C.prog fn.params.toList s.vars apart W args.toList ds gs before→
   X W args→W.ShapedOpen C.prog→
   Calls C.prog f args W fun e W'=> ∃v,e= .returned v∧s.post enc C.prog fn apart fresh handsOn again W args v W'):
  ReturnsInHanded a C os f .any (fun w args=>(s.pre enc C.prog fn conds apart w args∧X w args)∧sizedMet enc C.prog fn (OpenSpec.ofChange s) apart w args) (s.post enc C.prog fn apart fresh handsOn again):=by
 refine returnsInHanded_of_calls own started noInit witness ?_;intro w tape i _ hsh _ hok hpre hholds;obtain⟨_,_,_,fn',hfn',_,_,_,_,hval⟩:=hok;have e:fn'=fn:=Option.some.inj (hfn'.symm.trans hfn);subst e;obtain⟨⟨⟨ds,gs,before,hw,hc⟩,hx⟩,hz⟩:=hpre;have hw':=DataW.Whole.of_heap (w':=w.forCall tape i) (by rfl) hw
 refine(contract (w.forCall tape i) w.heap.size i.args ds gs before hval hw' (hX _ _ _ (by rfl) hx) hsh).mono fun e W' ⟨v,he,hp⟩=> ?_;subst he;exact ChangeSpec.post_blind hp
theorem Qvb : Tryz.prog.globalNamed "strconv.ErrSyntax" = some 3 := by kernel_rfl
theorem Qvc : Tryz.prog.globalNamed "strconv.ErrRange" = some 4 := by kernel_rfl
theorem Qud:(Tryz.prog.globals[3]?).map (·.type)=some 167:=by kernel_rfl
theorem Que:(Tryz.prog.globals[4]?).map (·.type)=some 167:=by kernel_rfl
theorem cER:Tryz.prog.cellsOf 300=1:=by kernel_rfl
theorem Qvw:Tryz.prog.cellsOf 9=1:=by kernel_rfl
theorem Qrf : "*" ++ "errors.errorString" = "*errors.errorString" := by decide
theorem Qmf (u : TypeId) (h : Tryz.prog.typeName? 3 u = some "*errors.errorString") : u = 298 :=
 typeName_ptr_named (nm := "errors.errorString") (by rw [Qrf]; kernel_rfl) (by kernel_rfl) (by decide) u (by rw [Qrf]; exact h)
theorem Qvt {r : List (String × DataW Unit)} {W : World} (h : laidMet Tryz.prog (("strconv.ErrRange", Rows.laid_strconv_ErrRange) :: ("strconv.ErrSyntax", Rows.laid_strconv_ErrSyntax) :: r) W) : (∃ tp p, W.var? Tryz.prog "strconv.ErrSyntax" = some #[.iface tp p]) ∧ (∃ tp p, W.var? Tryz.prog "strconv.ErrRange" = some #[.iface tp p]) := by
 obtain⟨a0,s0,hv0,-,-,-⟩:=laid_sentinel h Qvc Que Tryz.underlying167 Qmf Tryz.underlying298 Tryz.underlying300 rfl rfl Tryz.underlying9 cER Qvw;obtain⟨a1,s1,hv1,-,-,-⟩:=laid_sentinel h.tail Qvb Qud Tryz.underlying167 Qmf Tryz.underlying298 Tryz.underlying300 rfl rfl Tryz.underlying9 cER Qvw;exact⟨⟨_,_,hv1⟩,⟨_,_,hv0⟩⟩
theorem fl_of {r : List (String × DataW Unit)} {W : World} (h : laidMet Tryz.prog (("loop.example/g00267/impl.functions", Rows.laid_loop_example_g00267_impl_functions) :: r) W) : FTL W := by
 have hft:=(Qte h).1;obtain⟨ps,⟨g0,t0,cs0,f0,p0,q0,hg0,ht0,hv0,hd0,_,_⟩,_,_⟩:=h;obtain rfl:=Option.some.inj (gFun.symm.trans hg0);obtain rfl:=Option.some.inj (tFun.symm.trans ht0);obtain⟨xs,m1,rfl,hx1,hlen,hn,hel⟩:=DataW.trod_array Tryz.underlying265 hd0;rw [Qvx]at hel;have hx:_=xs.map (·.1):=NI (Prod.mk.inj hx1).1
 have hcell: ∀j,W.cell? ⟨2,j,none⟩=cs0[j]?:=fun j=>World.var?_cell hg0 hv0 j;match xs,hn,hx,hel with
 | [x0,x1,x2,x3,x4,x5,x6,x7,x8,x9,x10],_,hx,hel=>
  simp only [List.map_cons,List.map_nil,List.cons.injEq,and_true]at hx;obtain⟨e0,e1,e2,e3,e4,e5,e6,e7,e8,e9,e10⟩:=hx
  have go: ∀{m:Nat} {x:DataW Unit × List MemPlace} {s:List UInt8} {a b:Int},DataW.agg [.lit (.string s),.lit (.int .i64 a),.lit (.int .i64 b)]=x.1→
    DataW.trod (fun _=>()) Tryz.prog W 0 (fun _=>true) false m1 264 (List.take 3 (List.drop (m*3) cs0.toList))=some x→
    W.cell? ⟨2,m*3,none⟩=some (.string (bs s))∧W.cell? ⟨2,m*3+1,none⟩=some (.int .i64 a)∧W.cell? ⟨2,m*3+2,none⟩=some (.int .i64 b):=fun{m x s a b} e h=>Qm3 (p:=x.2) hcell (by rw [h,e])
  have t0:=go e0 (hel 0 (by omega));refine⟨fun m=>if m=0 then 0 else VN m,fun m=>if m=0 then 0 else Uy m,fun m hm=> ?_⟩;by_cases h0:m=0
  ·subst h0;exact t0.2
  ·obtain⟨s,_,c1,c2⟩:=hft m (by omega) hm;simp only;rw [if_neg h0,if_neg h0];exact⟨c1,c2⟩
end Go.Proofs.YtbdhinckiccniaaGreatDoor
