import Derived.Test.YtdcokcbolecanaaGreatDoorGzn
import Derived.Test.YtdcokcbolecanaaGreatDoorGau
import Derived.Test.YtdcokcbolecanaaGreatDoorGar
import Derived.Test.YtdcokcbolecanaaGreatDoorGzp
import Derived.Test.YtdcokcbolecanaaGreatDoorGze
import Derived.Test.YtdcokcbolecanaaGreatDoorGzm
import Derived.Test.YtdcokcbolecanaaGreatDoorMn
import Derived.Test.YtdcokcbolecanaaGreatDoorVsC
import Derived.Test.YtdcokcbolecanaaGreatDoorGzk
set_option linter.unusedSimpArgs false
set_option linter.unusedVariables false
set_option maxHeartbeats 16000000
set_option maxRecDepth 100000
namespace Go.Proofs.YtdcokcbolecanaaGreatDoor
open Go.RowKit Go.Maps
def Rvh (L:List VR) (a y:Int):Prop:=a∈QT L∧ ∀P:Int→Prop,P a→(∀(x:VR) (u:Int),P x.id→x∈L→u∈x.ups→u∈QT L→P u)→P y
theorem Rvh.up {L:List VR} {a u:Int} {x:VR} (h:Rvh L a x.id) (hx:x∈L) (hu:u∈x.ups) (hm:u∈QT L):Rvh L a u:=⟨h.1,fun P h1 h2=>h2 x u (h.2 P h1 h2) hx hu hm⟩
theorem Rvh.ind {L:List VR} {a y:Int} (P:Int→Prop) (h:Rvh L a y) (h1:P a) (h2: ∀(x:VR) (u:Int),P x.id→x∈L→u∈x.ups→u∈QT L→P u):P y:=h.2 P h1 h2
theorem Rvh.start {L:List VR} {a y:Int} (h:Rvh L a y):a∈QT L:=h.1
theorem Rvh.trans {L:List VR} {a b y:Int} (h:Rvh L a b) (h2:Rvh L b y):Rvh L a y:=h2.ind (fun y=>Rvh L a y) h (fun _ _ ih hx hu hm=>Rvh.up ih hx hu hm)
structure DgFacts (d:DG):Prop where
 asc:YM ltV d.vs=true
 lo: ∀x∈d.vs,1≤x.id
 hi: ∀x∈d.vs,x.id<d.next
 nx:d.next≤1000000000
 nv:d.vs.length≤40
 nb:d.bs.length≤8
 ups: ∀x∈d.vs,∀u∈x.ups,u∈QT d.vs
 two: ∀x∈d.vs,x.ups.length≤2
 hd: ∀x∈d.bs,x.h∈QT d.vs
theorem dag_facts {d:DG} (h:Xe d=true):DgFacts d:=by
 have hnx:d.next≤1000000000:=Classical.byContradiction fun h9=>by rw [Qd9 (Or.inr (by omega))]at h;cases h
 have hasc:YM ltV d.vs=true:=by
  cases ha:YM ltV d.vs with
  | true=>rfl
  | false=>rw [Ys (Kc ha)]at h;cases h
 refine⟨hasc,?_,?_,hnx,?_,?_,?_,?_,?_⟩
 ·intro x hx;obtain⟨t,ht,rfl⟩:=List.mem_iff_getElem.1 hx;exact Classical.byContradiction fun h9=>by rw [Qku (List.getElem?_eq_getElem ht) (Or.inl (by omega))]at h;cases h
 ·intro x hx;obtain⟨t,ht,rfl⟩:=List.mem_iff_getElem.1 hx;exact Classical.byContradiction fun h9=>by rw [Qku (List.getElem?_eq_getElem ht) (Or.inr (by omega))]at h;cases h
 ·exact Classical.byContradiction fun h9=>by rw [Dt (Or.inr (by omega))]at h;cases h
 ·exact Classical.byContradiction fun h9=>by rw [Du (Or.inr (by omega))]at h;cases h
 ·intro x hx u hu;obtain⟨t,ht,rfl⟩:=List.mem_iff_getElem.1 hx;obtain⟨k,hk,rfl⟩:=List.mem_iff_getElem.1 hu;exact Classical.byContradiction fun h9=>by rw [Qfg (List.getElem?_eq_getElem ht) (List.getElem?_eq_getElem hk) (Or.inr h9)]at h;cases h
 ·intro x hx;obtain⟨t,ht,rfl⟩:=List.mem_iff_getElem.1 hx;exact Classical.byContradiction fun h9=>by rw [EN (List.getElem?_eq_getElem ht) (by omega)]at h;cases h
 ·intro x hx;obtain⟨t,ht,rfl⟩:=List.mem_iff_getElem.1 hx;exact Classical.byContradiction fun h9=>by rw [Qfh (List.getElem?_eq_getElem ht) (Or.inr h9)]at h;cases h
theorem ids_mem {L:List VR} {a:Int} (h:a∈QT L): ∃x,x∈L∧x.id=a:=by
 obtain⟨x,hx,e⟩:=List.mem_map.1 h;exact⟨x,hx,e⟩
theorem mem_ids {L:List VR} {x:VR} (h:x∈L):x.id∈QT L:=List.mem_map.2 ⟨x,h,rfl⟩
structure Fd (L:List VR) (l xs l':List Int):Prop where
 sub: ∀y∈l,y∈l'
 got: ∀x∈xs,x∈QT L→x∈l'
 new: ∀y∈l',y∈l∨((∃x∈xs,Rvh L x y)∧ ∀v∈L,v.id=y→ ∀u∈v.ups,u∈QT L→u∈l')
theorem Fd.all {L:List VR} {xs l':List Int} (h:Fd L [] xs l') (y:Int):y∈l'↔ ∃x∈xs,Rvh L x y:=by
 constructor
 ·intro hy;rcases h.new y hy with h1 | ⟨h1,_⟩
  ·cases h1
  ·exact h1
 ·rintro⟨x,hx,hr⟩;refine hr.ind (fun y=>y∈l') (h.got x hx hr.start) (fun v u ih hv hu hm=> ?_);rcases h.new v.id ih with h1 | ⟨_,h2⟩
  ·cases h1
  ·exact h2 v hv rfl u hu hm
end Go.Proofs.YtdcokcbolecanaaGreatDoor
namespace Go.Proofs.YtdcokcbolecanaaGreatDoor
open Go.RowKit
theorem GI.var {W:World} (h:GI W):VarT W:=h.gt.vt
end Go.Proofs.YtdcokcbolecanaaGreatDoor
namespace Go.Proofs.YtdcokcbolecanaaGreatDoor
open Go.RowKit Go.Maps
def sDag:ByteArray:=⟨#[100,97,103,32]⟩
def sBr:ByteArray:=⟨#[98,114,97,110,99,104,32]⟩
def sVr:ByteArray:=⟨#[118,101,114,115,105,111,110,32]⟩
def sSp:ByteArray:=⟨#[32]⟩
def sNl:ByteArray:=⟨#[10]⟩
def dgLn (n:Int):ByteArray:=sDag++itB n
def brLn (b:BR):ByteArray:=sBr++b.n++sSp++itB b.h
def upLn:List Int→ByteArray→ByteArray
 | [],a=>a
 | u::r,a=>upLn r (a++(sSp++itB u))
def vrLn (x:VR):ByteArray:=upLn x.ups (sVr++itB x.id)
def clLn (x:VR) (i:Nat):ByteArray:=plB (x.C i) (x.R i)++sSp++x.S i
def clLs (x:VR) (t:Nat):List ByteArray:=(List.range t).map (clLn x)
def vrLs (x:VR):List ByteArray:=vrLn x::clLs x x.m
def dgLs (d:DG):List ByteArray:=dgLn d.next::(d.bs.map brLn++d.vs.flatMap vrLs)
theorem upLn_snoc (u:Int): ∀(l:List Int) (a:ByteArray),upLn (l++ [u]) a=upLn l a++(sSp++itB u)
 | [],a=>rfl
 | z::l,a=>upLn_snoc u l _
theorem take_at {l:List Int} {k:Nat} {y:Int} (h:l[k]? =some y):l.take (k+1)=l.take k++ [y]:=by rw [List.take_add_one,h];rfl
theorem clLs_succ (x:VR) (t:Nat):clLs x (t+1)=clLs x t++ [clLn x t]:=by unfold clLs;rw [List.range_succ,List.map_append];rfl
theorem clLs_len (x:VR) (t:Nat):(clLs x t).length=t:=by unfold clLs;simp
structure DgTx (d:DG):Prop where
 n0:0≤d.next
 nx:d.next≤1000000000
 nv:d.vs.length≤40
 nb:d.bs.length≤8
 bn: ∀x∈d.bs,x.n.size≤12
 bh: ∀x∈d.bs,0≤x.h∧x.h≤1000000000
 id: ∀x∈d.vs,0≤x.id∧x.id≤1000000000
 up: ∀x∈d.vs,∀u∈x.ups,0≤u∧u≤1000000000
 two: ∀x∈d.vs,x.ups.length≤2
 m: ∀x∈d.vs,x.m≤120
 s: ∀x∈d.vs,∀i,i<x.m→(x.S i).size≤200
theorem dgLn_size {n:Int} (h:0≤n) (h1:n≤1000000000):(dgLn n).size≤300:=by
 unfold dgLn;rw [ByteArray.size_append];have:=itB_sz h h1;have:sDag.size=4:=rfl;omega
theorem brLn_size {b:BR} (hn:b.n.size≤12) (h:0≤b.h∧b.h≤1000000000):(brLn b).size≤300:=by
 unfold brLn;rw [ByteArray.size_append,ByteArray.size_append,ByteArray.size_append];have:=itB_sz h.1 h.2;have:sBr.size=7:=rfl;have:sSp.size=1:=rfl;omega
theorem upLn_size: ∀(l:List Int) (a:ByteArray),(∀u∈l,0≤u∧u≤1000000000)→(upLn l a).size≤a.size+l.length*20
 | [],a,_=>by simp [upLn]
 | u::l,a,h=>by
  have h1:=upLn_size l (a++(sSp++itB u)) (fun z hz=>h z (by simp [hz]));have h2:=h u (by simp);rw [ByteArray.size_append,ByteArray.size_append]at h1;have:=itB_sz h2.1 h2.2;have:sSp.size=1:=rfl;have:(u::l).length=l.length+1:=rfl;show(upLn l (a++(sSp++itB u))).size≤_
  omega
theorem vrLn_size {d:DG} (h:DgTx d) {x:VR} (hx:x∈d.vs):(vrLn x).size≤300:=by
 unfold vrLn;have h1:=upLn_size x.ups (sVr++itB x.id) (h.up x hx);rw [ByteArray.size_append]at h1;have:=itB_sz (h.id x hx).1 (h.id x hx).2;have:sVr.size=8:=rfl;have:=h.two x hx;omega
theorem clLn_size {d:DG} (h:DgTx d) {x:VR} (hx:x∈d.vs) {i:Nat} (hi:i<x.m):(clLn x i).size≤300:=by
 unfold clLn;rw [ByteArray.size_append,ByteArray.size_append];have:=Qlj (x.C i) (x.R i);have:=h.s x hx i hi;have:sSp.size=1:=rfl;omega
theorem catL_size: ∀(ps:List ByteArray),(∀p∈ps,p.size≤300)→(UC ps).length≤ps.length*301
 | [],_=>by simp [UC]
 | p::r,h=>by
  have h1:=catL_size r (fun q hq=>h q (by simp [hq]));have h2:=h p (by simp);have e:UC (p::r)=(p.data.toList++ [10])++UC r:=by simp [UC]
  have h3:p.data.toList.length=p.size:=Array.length_toList;rw [e,List.length_append,List.length_append,h3];simp only [List.length_cons,List.length_nil];omega
def LnOk (ps:List ByteArray) (n:Nat):Prop:=(∀p∈ps,p.size≤300)∧ps.length≤n
theorem LnOk.cat {ps:List ByteArray} {n:Nat} (h:LnOk ps n):(UC ps).length≤n*301:=Nat.le_trans (catL_size ps h.1) (Nat.mul_le_mul_right _ h.2)
theorem LnOk.snoc {ps:List ByteArray} {n:Nat} {p:ByteArray} (h:LnOk ps n) (hp:p.size≤300):LnOk (ps++ [p]) (n+1):=
 ⟨fun q hq=>by
  rcases List.mem_append.1 hq with hq | hq
  ·exact h.1 q hq
  ·rw [List.mem_singleton.1 hq];exact hp,by rw [List.length_append];have:=h.2;simp;omega⟩
def bLs (d:DG) (t:Nat):List ByteArray:=dgLn d.next::(d.bs.take t).map brLn
def vLs (d:DG) (t:Nat):List ByteArray:=bLs d d.bs.length++(d.vs.take t).flatMap vrLs
theorem bLs_succ {d:DG} {t:Nat} {x:BR} (hx:d.bs[t]? =some x):bLs d (t+1)=bLs d t++ [brLn x]:=by
 unfold bLs;rw [List.take_add_one,hx];simp
theorem vLs_succ {d:DG} {t:Nat} {x:VR} (hx:d.vs[t]? =some x):vLs d (t+1)=(vLs d t++ [vrLn x])++clLs x x.m:=by
 unfold vLs;rw [List.take_add_one,hx];simp [vrLs]
theorem vLs_zero (d:DG):vLs d 0=bLs d d.bs.length:=by unfold vLs;simp
theorem vLs_all (d:DG):vLs d d.vs.length=dgLs d:=by unfold vLs bLs dgLs;simp
theorem bLs_ok {d:DG} (h:DgTx d) (t:Nat):LnOk (bLs d t) 9:=by
 refine⟨fun p hp=> ?_,?_⟩
 ·rcases List.mem_cons.1 hp with rfl | hp
  ·exact dgLn_size h.n0 h.nx
  ·obtain⟨b,hb,rfl⟩:=List.mem_map.1 hp;have hb':=List.mem_of_mem_take hb;exact brLn_size (h.bn b hb') (h.bh b hb')
 ·unfold bLs;have:=h.nb;simp [List.length_take];omega
theorem vrLs_ok {d:DG} (h:DgTx d) {x:VR} (hx:x∈d.vs):LnOk (vrLs x) 121:=by
 refine⟨fun p hp=> ?_,?_⟩
 ·rcases List.mem_cons.1 hp with rfl | hp
  ·exact vrLn_size h hx
  ·obtain⟨i,hi,rfl⟩:=List.mem_map.1 hp;exact clLn_size h hx (List.mem_range.1 hi)
 ·unfold vrLs;have:=h.m x hx;rw [List.length_cons,clLs_len];omega
theorem flat_ok {d:DG} (h:DgTx d): ∀L:List VR,(∀x∈L,x∈d.vs)→LnOk (L.flatMap vrLs) (L.length*121)
 | [],_=>⟨fun p hp=>absurd hp (by simp),by simp⟩
 | x::L,hL=>by
  have h1:=flat_ok h L (fun y hy=>hL y (by simp [hy]));have h2:=vrLs_ok h (hL x (by simp));refine⟨fun p hp=> ?_,?_⟩
  ·rw [List.flatMap_cons]at hp;rcases List.mem_append.1 hp with hp | hp
   ·exact h2.1 p hp
   ·exact h1.1 p hp
  ·rw [List.flatMap_cons,List.length_append];have:=h1.2;have:=h2.2;have:(x::L).length=L.length+1:=rfl;omega
theorem vLs_ok {d:DG} (h:DgTx d) (t:Nat):LnOk (vLs d t) 5000:=by
 have h1:=bLs_ok h d.bs.length;have h2:=flat_ok h (d.vs.take t) (fun x hx=>List.mem_of_mem_take hx);refine⟨fun p hp=> ?_,?_⟩
 ·rcases List.mem_append.1 hp with hp | hp
  ·exact h1.1 p hp
  ·exact h2.1 p hp
 ·unfold vLs;rw [List.length_append];have:=h1.2;have:=h2.2;have:(d.vs.take t).length≤40:=by rw [List.length_take];have:=h.nv;omega
  omega
theorem cl_ok {d:DG} (h:DgTx d) {ps:List ByteArray} {n:Nat} {x:VR} (hx:x∈d.vs) (hp:LnOk ps n) {t:Nat} (ht:t≤x.m):LnOk (ps++clLs x t) (n+t):=by
 refine⟨fun p hq=> ?_,?_⟩
 ·rcases List.mem_append.1 hq with hq | hq
  ·exact hp.1 p hq
  ·obtain⟨i,hi,rfl⟩:=List.mem_map.1 hq;exact clLn_size h hx (Nat.lt_of_lt_of_le (List.mem_range.1 hi) ht)
 ·rw [List.length_append,clLs_len];have:=hp.2;omega
def dgTx (d:DG):ByteArray:=if Xe d=true then⟨(UC (dgLs d)).toArray⟩else⟨#[]⟩
theorem own_lim {s:ByteArray} (h:Md s=true):s.size≤200:=by
 unfold Md inF at h;by_cases hr:Qx s=true
 ·unfold Qx at hr;simp only [Bool.and_eq_true,decide_eq_true_eq]at hr;exact hr.1
 ·rw [if_neg hr]at h;cases h
theorem cl_lim {C R:Nat→Int} {S:Nat→ByteArray} {n:Nat} (h:Zf C R S n=true):n≤120∧ ∀i,i<n→(S i).size≤200:=by
 unfold Zf at h;simp only [Bool.and_eq_true,decide_eq_true_eq]at h;refine⟨h.1.1,fun i hi=> ?_⟩;have h9:=List.all_eq_true.1 h.2 i (List.mem_range.2 hi);unfold Yo at h9;simp only [Bool.and_eq_true]at h9;exact own_lim h9.2
theorem dag_tx {d:DG} (h:Xe d=true):DgTx d:=by
 have hf:=dag_facts h;simp only [Xe,Bool.and_eq_true,decide_eq_true_eq]at h;obtain⟨h0,h1,h2,h3⟩:=h
 have hid: ∀y∈QT d.vs,0≤y∧y≤1000000000:=fun y hy=>by
  obtain⟨x,hx,e⟩:=ids_mem hy;have a1:=hf.lo x hx;have a2:=hf.hi x hx;rw [←e];exact⟨by omega,by omega⟩
 have hcl: ∀x∈d.vs,Zf x.C x.R x.S x.m=true:=fun x hx=>by
  obtain⟨i,hi,e⟩:=List.mem_iff_getElem.1 hx;have hx2:d.vs[i]? =some x:=by rw [List.getElem?_eq_getElem hi,e]
  cases hv:XS d.next (QT (d.vs.take i)) x with
  | false=>rw [ZR hx2 hv]at h2;cases h2
  | true=>
   simp only [XS,Bool.and_eq_true]at hv;exact hv.2.2.2
 have hbr: ∀x∈d.bs,YZ (QT d.vs) x=true:=fun x hx=>by
  simp only [UD,Bool.and_eq_true]at h3;exact List.all_eq_true.1 h3.2.2 x hx
 refine⟨by omega,h1,hf.nv,hf.nb,fun x hx=> ?_,fun x hx=>hid _ (hf.hd x hx),fun x hx=>hid _ (mem_ids hx),fun x hx u hu=>hid _ (hf.ups x hx u hu),hf.two,fun x hx=>(cl_lim (hcl x hx)).1,fun x hx=>(cl_lim (hcl x hx)).2⟩;have h9:=hbr x hx;simp only [YZ,Bool.and_eq_true]at h9;have h8:=h9.1;simp only [nmB,Bool.and_eq_true,decide_eq_true_eq]at h8;exact h8.1.2
theorem ba_ass3 (a b c:ByteArray):a++b++c=a++(b++c):=by apply ByteArray.ext;simp
def catB (ps:List ByteArray):ByteArray:=⟨(UC ps).toArray⟩
theorem catB_snoc (ps:List ByteArray) (p:ByteArray):catB ps++p++sNl=catB (ps++ [p]):=by
 apply ByteArray.ext;apply Array.ext';simp [catB,Qlp,Qlo,sNl]
theorem catB_size (ps:List ByteArray):(catB ps).size=(UC ps).length:=by show((UC ps).toArray).size=_;simp
theorem catB_lim {ps:List ByteArray} {n:Nat} (h:LnOk ps n):(catB ps).size≤n*301:=by rw [catB_size];exact h.cat
theorem sizes:sBr.size=7∧sVr.size=8∧sDag.size=4∧sSp.size=1∧sNl.size=1:=⟨rfl,rfl,rfl,rfl,rfl⟩
theorem spec_DagText {v:Value} {d:DG} (w:World) (h:DgRow w v d) (hk:DgOk d):
  Calls Tryz.prog 5 #[v] w fun e w'=>e= .returned (.string (dgTx d))∧Below w.heap.size w w':=by
 obtain⟨A1,n1,c1,A2,n2,c2,rfl⟩:=h.agg;have HR:Hid (DgRow w (.agg #[.int .i64 d.next,.slice A1 n1 c1,.slice A2 n2 c2]) d):=h;obtain⟨r1,e1,r2,e2⟩:=h.open;have R1:Hid (VrRow w A1 d.vs):=r1;have R2:Hid (ZT w A2 d.bs):=r2;have E1:Hid (d.vs.length=n1):=e1;have E2:Hid (d.bs.length=n2):=e2
 have HK:Hid (DgOk d):=hk;obtain⟨f,HFF⟩: ∃f:Bool,Hid (Xe d=f):=⟨_,rfl⟩;obtain⟨sb1,sb2,sb3,sb4,sb5⟩:=sizes;clear h r1 r2 e1 e2 hk;go_enter Tryz.func5,Tryz.ntmps5;go_wp2_with fail
 obtain⟨X,HX⟩: ∃X,Hid (w.alloc (.cells #[.int .i64 d.next,.slice A1 n1 c1,.slice A2 n2 c2] 31)=X):=⟨_,rfl⟩;rw [HX.out];have x0:X.cell? ⟨w.heap.size,0,none⟩=some (.int .i64 d.next):=by rw [←HX.out];go_simp
 have x1:X.cell? ⟨w.heap.size,1,none⟩=some (.slice A1 n1 c1):=by rw [←HX.out];go_simp
 have x2:X.cell? ⟨w.heap.size,2,none⟩=some (.slice A2 n2 c2):=by rw [←HX.out];go_simp
 have zX:w.heap.size<X.heap.size:=by rw [←HX.out];simp
 have KX:Hid (Below w.heap.size w X):=by rw [←HX.out];show Below _ _ _;go_grown
 clear HX;refine(Qiu _ (HR.out.below KX.out) HK.out).mono ?_;rintro e u0 ⟨rfl,hb⟩;replace x0:=cy hb x0;replace x1:=cy hb x1;replace x2:=cy hb x2;replace zX:w.heap.size<u0.heap.size:=Nat.lt_of_lt_of_le zX hb.size
 replace KX:=hd (Qb KX.out hb);clear hb;rw [HFF.out];cases f
 ·go_wp2_with fail
  go_ret;exact⟨Qm (by rw [dgTx,if_neg (by rw [HFF.out];decide)]),KX.out⟩
 have HT:Hid (DgTx d):=dag_tx HFF.out;have hn1:n1≤40:=by rw [←E1.out];exact HT.out.nv
 have hn2:n2≤8:=by rw [←E2.out];exact HT.out.nb
 have iz:=itB_sz HT.out.n0 HT.out.nx;obtain⟨ka1,HKA1⟩: ∃k,Hid (sDag++itB d.next=k):=⟨_,rfl⟩;have zka1:ka1.size=sDag.size+(itB d.next).size:=by rw [←HKA1.out,ByteArray.size_append]
 have rka1: ∀W,(Op.stringOp .add (⟨#[100,97,103,32]⟩:ByteArray) (itB d.next)).run Tryz.prog W= .ok (.string ka1) W:=fun W=>by rw [←HKA1.out];exact run_string_add_sum W _ _ (by have:(⟨#[100,97,103,32]⟩:ByteArray).size=4:=rfl;omega)
 obtain⟨ka2,HKA2⟩: ∃k,Hid (ka1++sNl=k):=⟨_,rfl⟩;have zka2:ka2.size=ka1.size+(sNl).size:=by rw [←HKA2.out,ByteArray.size_append]
 have rka2: ∀W,(Op.stringOp .add ka1 (⟨#[10]⟩:ByteArray)).run Tryz.prog W= .ok (.string ka2) W:=fun W=>by rw [←HKA2.out];exact run_string_add_sum W _ _ (by have:(⟨#[10]⟩:ByteArray).size=1:=rfl;omega)
 have HC0:Hid (ka2=catB (bLs d 0)):=by
  show _=_;rw [←HKA2.out,←HKA1.out];have h9:=catB_snoc [] (dgLn d.next);have h8:catB []++dgLn d.next=dgLn d.next:=by apply ByteArray.ext;simp [catB,UC]
  rw [h8]at h9;exact h9.trans (by unfold bLs;simp)
 go_wp2_with fail
 refine(spec_l1DecN d.next _ HT.out.n0 HT.out.nx).mono ?_;rintro e u1 ⟨rfl,hb⟩;replace x0:=cy hb x0;replace x1:=cy hb x1;replace x2:=cy hb x2;replace zX:w.heap.size<u1.heap.size:=Nat.lt_of_lt_of_le zX hb.size;replace KX:=hd (Qb KX.out hb)
 clear hb;have X0:Hid (u1.cell? ⟨w.heap.size,1,none⟩=some (.slice A1 n1 c1)∧u1.cell? ⟨w.heap.size,2,none⟩=some (.slice A2 n2 c2)∧w.heap.size<u1.heap.size):=⟨x1,x2,zX⟩;go_wp2_with fail
 clear x0 x1 x2 zX rka1 rka2 zka1 zka2 HKA1 HKA2 iz;go_loopw [3,4] (fun q i wr=> ∃t:Nat,t≤n2∧q= .string (catB (bLs d t))∧i= .int .i64 t∧Below u1.heap.size u1 wr) (fun _ i _=>n2-(intOf i).toNat)
 case atStart=>exact⟨0,Nat.zero_le _,by rw [HC0.out],rfl,Below.refl _ _⟩
 case round=>
  obtain⟨t,ht,rfl,rfl,hbel⟩:=hrel;have KW:Hid (Below u1.heap.size u1 wr):=hbel;have KA:=hd (Qb KX.out hbel);have y1:=cy hbel X0.out.1;have y2:=cy hbel X0.out.2.1;have yz:w.heap.size<wr.heap.size:=Nat.lt_of_lt_of_le X0.out.2.2 hbel.size;have hcs:=catB_lim (bLs_ok HT.out t)
  obtain⟨c,HCT⟩: ∃c,Hid (catB (bLs d t)=c):=⟨_,rfl⟩;rw [HCT.out]at hcs;rw [HCT.out];clear hbel;by_cases hlt:t<n2
  ·obtain⟨x,hx⟩:=ZF E2.out hlt;have HXT:Hid (d.bs[t]? =some x):=hx;have hxm:=List.mem_of_getElem? hx;have hnm:=HT.out.bn x hxm;have HHD:Hid (0≤x.h∧x.h≤1000000000):=HT.out.bh x hxm;have iz:=itB_sz HHD.out.1 HHD.out.2;obtain⟨b,o,rfl,hl,hc⟩:=R2.out.2 t x hx
   have b0:w.cell? ⟨b,o+t*2,none⟩=some (.string x.n):=hc 0 _ rfl;have b1:w.cell? ⟨b,o+t*2+1,none⟩=some (.int .i64 x.h):=hc 1 _ rfl;rw [←KA.out.cell (p:=⟨_,_,none⟩) hl]at b0 b1;have hl2:b<wr.heap.size:=Nat.lt_of_lt_of_le hl KA.out.size;have q0:(0:Int)≤(t:Int):=by omega
   have q1:(t:Int)<(n2:Int):=by omega
   clear hx hxm hc hl;obtain⟨kb1,HKB1⟩: ∃k,Hid (c++sBr=k):=⟨_,rfl⟩;have zkb1:kb1.size=c.size+(sBr).size:=by rw [←HKB1.out,ByteArray.size_append]
   have rkb1: ∀W,(Op.stringOp .add c (⟨#[98,114,97,110,99,104,32]⟩:ByteArray)).run Tryz.prog W= .ok (.string kb1) W:=fun W=>by rw [←HKB1.out];exact run_string_add_sum W _ _ (by have:(⟨#[98,114,97,110,99,104,32]⟩:ByteArray).size=7:=rfl;omega)
   obtain⟨kb2,HKB2⟩: ∃k,Hid (kb1++x.n=k):=⟨_,rfl⟩;have zkb2:kb2.size=kb1.size+(x.n).size:=by rw [←HKB2.out,ByteArray.size_append]
   have rkb2: ∀W,(Op.stringOp .add kb1 (x.n)).run Tryz.prog W= .ok (.string kb2) W:=fun W=>by rw [←HKB2.out];exact run_string_add_sum W _ _ (by omega)
   obtain⟨kb3,HKB3⟩: ∃k,Hid (kb2++sSp=k):=⟨_,rfl⟩;have zkb3:kb3.size=kb2.size+(sSp).size:=by rw [←HKB3.out,ByteArray.size_append]
   have rkb3: ∀W,(Op.stringOp .add kb2 (⟨#[32]⟩:ByteArray)).run Tryz.prog W= .ok (.string kb3) W:=fun W=>by rw [←HKB3.out];exact run_string_add_sum W _ _ (by have:(⟨#[32]⟩:ByteArray).size=1:=rfl;omega)
   obtain⟨kb4,HKB4⟩: ∃k,Hid (kb3++itB x.h=k):=⟨_,rfl⟩;have zkb4:kb4.size=kb3.size+(itB x.h).size:=by rw [←HKB4.out,ByteArray.size_append]
   have rkb4: ∀W,(Op.stringOp .add kb3 (itB x.h)).run Tryz.prog W= .ok (.string kb4) W:=fun W=>by rw [←HKB4.out];exact run_string_add_sum W _ _ (by omega)
   obtain⟨kb5,HKB5⟩: ∃k,Hid (kb4++sNl=k):=⟨_,rfl⟩;have zkb5:kb5.size=kb4.size+(sNl).size:=by rw [←HKB5.out,ByteArray.size_append]
   have rkb5: ∀W,(Op.stringOp .add kb4 (⟨#[10]⟩:ByteArray)).run Tryz.prog W= .ok (.string kb5) W:=fun W=>by rw [←HKB5.out];exact run_string_add_sum W _ _ (by have:(⟨#[10]⟩:ByteArray).size=1:=rfl;omega)
   have HC1:Hid (kb5=catB (bLs d (t+1))):=by
    show _=_;rw [bLs_succ HXT.out,←catB_snoc,HCT.out,←HKB5.out,←HKB4.out,←HKB3.out,←HKB2.out,←HKB1.out];unfold brLn;simp only [ba_ass3]
   go_upto_region 7 with fail
   have VE0:Hid (wr.drew.cell? ⟨w.heap.size,2,none⟩=some (.slice (some ⟨b,o,none⟩) n2 c2)∧wr.drew.cell? ⟨b,o+t*2,none⟩=some (.string x.n)∧wr.drew.cell? ⟨b,o+t*2+1,none⟩=some (.int .i64 x.h)∧w.heap.size<wr.drew.heap.size∧b<wr.drew.heap.size):=⟨y2,b0,b1,yz,hl2⟩;have KD:Hid (Below u1.heap.size u1 wr.drew):=KW.out.drew;clear y1 y2 b0 b1 yz hl2;refine wp_region_held_drew (S:=(fun w'=>w'.cell? ⟨w.heap.size,2,none⟩=some (.slice (some ⟨b,o,none⟩) n2 c2)∧w'.cell? ⟨b,o+t*2,none⟩=some (.string x.n)∧w'.cell? ⟨b,o+t*2+1,none⟩=some (.int .i64 x.h)∧w.heap.size<w'.heap.size∧b<w'.heap.size)) (by kernel_rfl) VE0.out (fun hHeld=> ?_);refine tkA 0 ?_;refine tkB 1 ?_;refine tkA 2 ?_
   refine tkB 3 ?_;refine tkA 4 ?_;refine tkB 5 ?_;refine tkA 6 ?_;refine tkB 7 ?_;refine tkA 8 ?_;refine tkB 9 ?_
   refine tkA 10 ?_;refine tkB 11 ?_;refine tkA 12 ?_;refine tkB 13 ?_;refine tkA 14 ?_;refine tkB 15 ?_;refine rqA 16 (fun Kq hKq=> ?_)
   go_simp;refine(spec_l1DecN x.h _ HHD.out.1 HHD.out.2).mono ?_;rintro e q1 ⟨rfl,hb⟩;have VE9:Hid (q1.cell? ⟨w.heap.size,2,none⟩=some (.slice (some ⟨b,o,none⟩) n2 c2)∧q1.cell? ⟨b,o+t*2,none⟩=some (.string x.n)∧q1.cell? ⟨b,o+t*2+1,none⟩=some (.int .i64 x.h)∧w.heap.size<q1.heap.size∧b<q1.heap.size):=⟨cy hb VE0.out.1,cy hb VE0.out.2.1,cy hb VE0.out.2.2.1,Nat.lt_of_lt_of_le VE0.out.2.2.2.1 hb.size,Nat.lt_of_lt_of_le VE0.out.2.2.2.2 hb.size⟩;have K1:=hd (Qb KD.out hb);clear hb;refine hkB hKq (VE9.out) fun hHeld=> ?_
   clear hKq Kq;refine tkA 17 ?_;refine tkB 18 ?_;refine tkB 19 ?_;refine wpAnyH_done (by kernel_rfl) ?_ _;clear hHeld;go_wp2_with fail
   go_roundw
   case rel=>exact⟨t+1,by omega,by rw [HC1.out],by go_num,K1.out⟩
   case measure=>simp [intOf];omega
  ·have h1: ¬(t:Int)<(n2:Int):=by omega
   obtain rfl:n2=t:=by omega
   have HCV:Hid (c=catB (vLs d 0)):=by show _=_;rw [←HCT.out,vLs_zero,E2.out]
   go_wp2_with fail
   clear HCT hcs y1 y2 yz;go_loopw [3,5] (fun q i wq=> ∃t:Nat,t≤n1∧q= .string (catB (vLs d t))∧i= .int .i64 t∧Below u1.heap.size u1 wq) (fun _ i _=>n1-(intOf i).toNat)
   case atStart=>exact⟨0,Nat.zero_le _,by rw [HCV.out],rfl,KW.out⟩
   case round=>
    rename World=>wv
    obtain⟨t,ht',rfl,rfl,hbel⟩:=hrel;clear HCV KW KA;have KV:Hid (Below u1.heap.size u1 wv):=hbel;have KB:=hd (Qb KX.out hbel);have y1:=cy hbel X0.out.1;have yz:w.heap.size<wv.heap.size:=Nat.lt_of_lt_of_le X0.out.2.2 hbel.size;have hcs:=catB_lim (vLs_ok HT.out t)
    obtain⟨c,HCT⟩: ∃c,Hid (catB (vLs d t)=c):=⟨_,rfl⟩;rw [HCT.out]at hcs;rw [HCT.out];clear hbel;by_cases hlt:t<n1
    ·obtain⟨x,hx⟩:=ZF E1.out hlt;have HXT:Hid (d.vs[t]? =some x):=hx;have HXM:Hid (x∈d.vs):=List.mem_of_getElem? hx;have HID:Hid (0≤x.id∧x.id≤1000000000):=HT.out.id x HXM.out;have iz:=itB_sz HID.out.1 HID.out.2;obtain⟨b,o,u,uc,s,sc,rfl,hl,b0,b1,b2,ru,rs⟩:=R1.out.2 t x hx;have RU:Hid (IntRow w u x.ups):=ru
     have RS:Hid (ClRow w s x.m x.C x.R x.S):=rs;obtain⟨un,HUN⟩: ∃un,Hid (x.ups.length=un):=⟨_,rfl⟩;obtain⟨mn,HMN⟩: ∃mn,Hid (x.m=mn):=⟨_,rfl⟩;rw [HUN.out]at b1;rw [HMN.out]at b2;have hun:un≤2:=by rw [←HUN.out];exact HT.out.two x HXM.out
     have hmn:mn≤120:=by rw [←HMN.out];exact HT.out.m x HXM.out
     rw [←KB.out.cell (p:=⟨_,_,none⟩) hl]at b0 b1 b2;have hl2:b<wv.heap.size:=Nat.lt_of_lt_of_le hl KB.out.size;have q0:(0:Int)≤(t:Int):=by omega
     have q1:(t:Int)<(n1:Int):=by omega
     clear hx hl ru rs;obtain⟨kc1,HKC1⟩: ∃k,Hid (c++sVr=k):=⟨_,rfl⟩;have zkc1:kc1.size=c.size+(sVr).size:=by rw [←HKC1.out,ByteArray.size_append]
     have rkc1: ∀W,(Op.stringOp .add c (⟨#[118,101,114,115,105,111,110,32]⟩:ByteArray)).run Tryz.prog W= .ok (.string kc1) W:=fun W=>by rw [←HKC1.out];exact run_string_add_sum W _ _ (by have:(⟨#[118,101,114,115,105,111,110,32]⟩:ByteArray).size=8:=rfl;omega)
     obtain⟨kc2,HKC2⟩: ∃k,Hid (kc1++itB x.id=k):=⟨_,rfl⟩;have zkc2:kc2.size=kc1.size+(itB x.id).size:=by rw [←HKC2.out,ByteArray.size_append]
     have rkc2: ∀W,(Op.stringOp .add kc1 (itB x.id)).run Tryz.prog W= .ok (.string kc2) W:=fun W=>by rw [←HKC2.out];exact run_string_add_sum W _ _ (by omega)
     go_wp2_with fail
     obtain⟨Z,HZ⟩: ∃Z,Hid (wv.alloc (.cells #[.int .i64 x.id,.slice u un uc,.slice s mn sc] 44)=Z):=⟨_,rfl⟩;rw [HZ.out];have hb:Below wv.heap.size wv Z:=by rw [←HZ.out];exact(Below.refl _ _).alloc (Nat.le_refl _) _
     have z1:Z.cell? ⟨wv.heap.size,1,none⟩=some (.slice u un uc):=by rw [←HZ.out];go_simp
     have z2:Z.cell? ⟨wv.heap.size,2,none⟩=some (.slice s mn sc):=by rw [←HZ.out];go_simp
     have zz:wv.heap.size<Z.heap.size:=by rw [←HZ.out];simp
     have KZ:Hid (Below u1.heap.size u1 Z):=KV.out.trans (hb.mono KV.out.size);clear HZ hb y1 yz b0 b1 b2 hl2;refine(spec_l1DecN x.id _ HID.out.1 HID.out.2).mono ?_;rintro e u2 ⟨rfl,hb⟩;have ZC:Hid (u2.cell? ⟨wv.heap.size,1,none⟩=some (.slice u un uc)∧u2.cell? ⟨wv.heap.size,2,none⟩=some (.slice s mn sc)∧wv.heap.size<u2.heap.size):=⟨cy hb z1,cy hb z2,Nat.lt_of_lt_of_le zz hb.size⟩;have K2:=hd (Qb KZ.out hb);clear hb z1 z2 zz KZ KV
     have HV2:Hid (kc2=c++upLn (x.ups.take 0) (sVr++itB x.id)):=by
      show _=_;rw [←HKC2.out,←HKC1.out,ba_ass3];rfl
     go_wp2_with fail
     clear rkc1 rkc2 zkc1 zkc2 HKC1 HKC2;go_loopw [3,7] (fun q i wq=> ∃k:Nat,k≤un∧q= .string (c++upLn (x.ups.take k) (sVr++itB x.id))∧i= .int .i64 k∧Below u2.heap.size u2 wq) (fun _ i _=>un-(intOf i).toNat)
     case atStart=>exact⟨0,Nat.zero_le _,by rw [HV2.out],rfl,Below.refl _ _⟩
     case round=>
      rename World=>wt
      obtain⟨k,hk',rfl,rfl,hbel⟩:=hrel;have KT:Hid (Below u2.heap.size u2 wt):=hbel;have KC:Hid (Below w.heap.size w wt):=KX.out.trans ((Qb K2.out hbel).mono (Nat.le_of_lt X0.out.2.2));have g1:=cy hbel ZC.out.1;have g2:=cy hbel ZC.out.2.1;have gz:wv.heap.size<wt.heap.size:=Nat.lt_of_lt_of_le ZC.out.2.2 hbel.size;have hus:=upLn_size (x.ups.take k) (sVr++itB x.id) (fun z hz=>HT.out.up x HXM.out z (List.mem_of_mem_take hz))
      have hut:(x.ups.take k).length≤2:=by rw [List.length_take,HUN.out];omega
      rw [ByteArray.size_append]at hus;obtain⟨p,HPT⟩: ∃p,Hid (c++upLn (x.ups.take k) (sVr++itB x.id)=p):=⟨_,rfl⟩;have hps:p.size=c.size+(upLn (x.ups.take k) (sVr++itB x.id)).size:=by rw [←HPT.out,ByteArray.size_append]
      rw [HPT.out];clear hbel;by_cases hlt':k<un
      ·obtain⟨y,hy⟩:=ZF HUN.out hlt';have HYT:Hid (x.ups[k]? =some y):=hy;have HYB:Hid (0≤y∧y≤1000000000):=HT.out.up x HXM.out y (List.mem_of_getElem? hy);have iy:=itB_sz HYB.out.1 HYB.out.2;obtain⟨ub,uo,rfl,hul,cu⟩:=Jj RU.out hy;rw [←KC.out.cell (p:=⟨_,_,none⟩) hul]at cu;have hul2:ub<wt.heap.size:=Nat.lt_of_lt_of_le hul KC.out.size
       have j0:(0:Int)≤(k:Int):=by omega
       have j1:(k:Int)<(un:Int):=by omega
       clear hy hul;obtain⟨kd1,HKD1⟩: ∃k,Hid (p++sSp=k):=⟨_,rfl⟩;have zkd1:kd1.size=p.size+(sSp).size:=by rw [←HKD1.out,ByteArray.size_append]
       have rkd1: ∀W,(Op.stringOp .add p (⟨#[32]⟩:ByteArray)).run Tryz.prog W= .ok (.string kd1) W:=fun W=>by rw [←HKD1.out];exact run_string_add_sum W _ _ (by have:(⟨#[32]⟩:ByteArray).size=1:=rfl;omega)
       obtain⟨kd2,HKD2⟩: ∃k,Hid (kd1++itB y=k):=⟨_,rfl⟩;have zkd2:kd2.size=kd1.size+(itB y).size:=by rw [←HKD2.out,ByteArray.size_append]
       have rkd2: ∀W,(Op.stringOp .add kd1 (itB y)).run Tryz.prog W= .ok (.string kd2) W:=fun W=>by rw [←HKD2.out];exact run_string_add_sum W _ _ (by omega)
       have HU2:Hid (kd2=c++upLn (x.ups.take (k+1)) (sVr++itB x.id)):=by
        show _=_;rw [take_at HYT.out,upLn_snoc,←HKD2.out,←HKD1.out,←HPT.out];simp only [ba_ass3]
       go_wp2_with fail
       refine(spec_l1DecN y _ HYB.out.1 HYB.out.2).mono ?_;rintro e u3 ⟨rfl,hb⟩;have K3:=hd (Qb KT.out hb);clear hb g1 g2 gz cu hul2;go_wp2_with fail
       go_roundw
       case rel=>exact⟨k+1,by omega,by rw [HU2.out],by go_num,K3.out⟩
       case measure=>simp [intOf];omega
      ·have h2: ¬(k:Int)<(un:Int):=by omega
       obtain rfl:un=k:=by omega
       have HPV:Hid (p=c++vrLn x):=by show _=_;rw [←HPT.out,←HUN.out,List.take_length];rfl
       obtain⟨ke1,HKE1⟩: ∃k,Hid (p++sNl=k):=⟨_,rfl⟩;have zke1:ke1.size=p.size+(sNl).size:=by rw [←HKE1.out,ByteArray.size_append]
       have rke1: ∀W,(Op.stringOp .add p (⟨#[10]⟩:ByteArray)).run Tryz.prog W= .ok (.string ke1) W:=fun W=>by rw [←HKE1.out];exact run_string_add_sum W _ _ (by have:(⟨#[10]⟩:ByteArray).size=1:=rfl;omega)
       have HL0:Hid (ke1=catB ((vLs d t++ [vrLn x])++clLs x 0)):=by
        show _=_;rw [←HKE1.out,HPV.out,←HCT.out,catB_snoc];simp [clLs]
       go_wp2_with fail
       clear rke1 zke1 HKE1 HPT HPV hps hus hut g1 g2 gz;go_loopw [3,8] (fun q i wq=> ∃k:Nat,k≤mn∧q= .string (catB ((vLs d t++ [vrLn x])++clLs x k))∧i= .int .i64 k∧Below u2.heap.size u2 wq) (fun _ i _=>mn-(intOf i).toNat)
       case atStart=>exact⟨0,Nat.zero_le _,by rw [HL0.out],rfl,KT.out⟩
       case round=>
        rename World=>ws
        obtain⟨k,hk',rfl,rfl,hbel⟩:=hrel;clear KT KC;have KS:Hid (Below u2.heap.size u2 ws):=hbel;have KE:Hid (Below w.heap.size w ws):=KX.out.trans ((Qb K2.out hbel).mono (Nat.le_of_lt X0.out.2.2));have g2:=cy hbel ZC.out.2.1;have gz:wv.heap.size<ws.heap.size:=Nat.lt_of_lt_of_le ZC.out.2.2 hbel.size;have hls:=catB_lim (cl_ok HT.out HXM.out ((vLs_ok HT.out t).snoc (vrLn_size HT.out HXM.out)) (t:=k) (by rw [HMN.out];exact hk'))
        obtain⟨p,HPT⟩: ∃p,Hid (catB ((vLs d t++ [vrLn x])++clLs x k)=p):=⟨_,rfl⟩;rw [HPT.out]at hls;rw [HPT.out];clear hbel;by_cases hlt':k<mn
        ·have hkm:k<x.m:=by rw [HMN.out];exact hlt'
         have hss:=HT.out.s x HXM.out k hkm;obtain⟨sb,so,rfl,hsl,d0,d1,d2,_⟩:=RS.out.2 k hkm;rw [←KE.out.cell (p:=⟨_,_,none⟩) hsl]at d0 d1 d2;have hsl2:sb<ws.heap.size:=Nat.lt_of_lt_of_le hsl KE.out.size;obtain⟨cx,HCX⟩: ∃cx,Hid (x.C k=cx):=⟨_,rfl⟩;obtain⟨rx,HRX⟩: ∃rx,Hid (x.R k=rx):=⟨_,rfl⟩;obtain⟨sx,HSX⟩: ∃sx,Hid (x.S k=sx):=⟨_,rfl⟩
         rw [HCX.out]at d0;rw [HRX.out]at d1;rw [HSX.out]at d2 hss;have ip:=Qlj cx rx;have j0:(0:Int)≤(k:Int):=by omega
         have j1:(k:Int)<(mn:Int):=by omega
         clear hsl hkm;obtain⟨kf1,HKF1⟩: ∃k,Hid (p++plB cx rx=k):=⟨_,rfl⟩;have zkf1:kf1.size=p.size+(plB cx rx).size:=by rw [←HKF1.out,ByteArray.size_append]
         have rkf1: ∀W,(Op.stringOp .add p (plB cx rx)).run Tryz.prog W= .ok (.string kf1) W:=fun W=>by rw [←HKF1.out];exact run_string_add_sum W _ _ (by omega)
         obtain⟨kf2,HKF2⟩: ∃k,Hid (kf1++sSp=k):=⟨_,rfl⟩;have zkf2:kf2.size=kf1.size+(sSp).size:=by rw [←HKF2.out,ByteArray.size_append]
         have rkf2: ∀W,(Op.stringOp .add kf1 (⟨#[32]⟩:ByteArray)).run Tryz.prog W= .ok (.string kf2) W:=fun W=>by rw [←HKF2.out];exact run_string_add_sum W _ _ (by have:(⟨#[32]⟩:ByteArray).size=1:=rfl;omega)
         obtain⟨kf3,HKF3⟩: ∃k,Hid (kf2++sx=k):=⟨_,rfl⟩;have zkf3:kf3.size=kf2.size+(sx).size:=by rw [←HKF3.out,ByteArray.size_append]
         have rkf3: ∀W,(Op.stringOp .add kf2 (sx)).run Tryz.prog W= .ok (.string kf3) W:=fun W=>by rw [←HKF3.out];exact run_string_add_sum W _ _ (by omega)
         obtain⟨kf4,HKF4⟩: ∃k,Hid (kf3++sNl=k):=⟨_,rfl⟩;have zkf4:kf4.size=kf3.size+(sNl).size:=by rw [←HKF4.out,ByteArray.size_append]
         have rkf4: ∀W,(Op.stringOp .add kf3 (⟨#[10]⟩:ByteArray)).run Tryz.prog W= .ok (.string kf4) W:=fun W=>by rw [←HKF4.out];exact run_string_add_sum W _ _ (by have:(⟨#[10]⟩:ByteArray).size=1:=rfl;omega)
         have HL1:Hid (kf4=catB ((vLs d t++ [vrLn x])++clLs x (k+1))):=by
          show _=_;rw [clLs_succ,←List.append_assoc,←catB_snoc,HPT.out,←HKF4.out,←HKF3.out,←HKF2.out,←HKF1.out];unfold clLn;rw [HCX.out,HRX.out,HSX.out];simp only [ba_ass3]
         go_upto_region 21 with fail
         have VE0:Hid (ws.drew.cell? ⟨wv.heap.size,2,none⟩=some (.slice (some ⟨sb,so,none⟩) mn sc)∧ws.drew.cell? ⟨sb,so+k*3,none⟩=some (.int .i64 cx)∧ws.drew.cell? ⟨sb,so+k*3+1,none⟩=some (.int .i64 rx)∧ws.drew.cell? ⟨sb,so+k*3+2,none⟩=some (.string sx)∧wv.heap.size<ws.drew.heap.size∧sb<ws.drew.heap.size):=⟨g2,d0,d1,d2,gz,hsl2⟩;have KD:Hid (Below u2.heap.size u2 ws.drew):=KS.out.drew;clear g2 d0 d1 d2 gz hsl2;refine wp_region_held_drew (S:=(fun w'=>w'.cell? ⟨wv.heap.size,2,none⟩=some (.slice (some ⟨sb,so,none⟩) mn sc)∧w'.cell? ⟨sb,so+k*3,none⟩=some (.int .i64 cx)∧w'.cell? ⟨sb,so+k*3+1,none⟩=some (.int .i64 rx)∧w'.cell? ⟨sb,so+k*3+2,none⟩=some (.string sx)∧wv.heap.size<w'.heap.size∧sb<w'.heap.size)) (by kernel_rfl) VE0.out (fun hHeld=> ?_);refine tkA 0 ?_;refine tkB 1 ?_;refine tkA 2 ?_
         refine tkB 3 ?_;refine tkA 4 ?_;refine tkB 5 ?_;refine tkA 6 ?_;refine tkB 7 ?_;refine tkA 11 ?_;refine tkB 12 ?_
         refine tkA 13 ?_;refine tkB 14 ?_;refine tkA 15 ?_;refine tkB 16 ?_;refine rqA 8 (fun Kq hKq=> ?_);go_simp;refine(Qbw cx rx _).mono ?_
         rintro e q1 ⟨rfl,hb⟩;have VE9:Hid (q1.cell? ⟨wv.heap.size,2,none⟩=some (.slice (some ⟨sb,so,none⟩) mn sc)∧q1.cell? ⟨sb,so+k*3,none⟩=some (.int .i64 cx)∧q1.cell? ⟨sb,so+k*3+1,none⟩=some (.int .i64 rx)∧q1.cell? ⟨sb,so+k*3+2,none⟩=some (.string sx)∧wv.heap.size<q1.heap.size∧sb<q1.heap.size):=⟨cy hb VE0.out.1,cy hb VE0.out.2.1,cy hb VE0.out.2.2.1,cy hb VE0.out.2.2.2.1,Nat.lt_of_lt_of_le VE0.out.2.2.2.2.1 hb.size,Nat.lt_of_lt_of_le VE0.out.2.2.2.2.2 hb.size⟩;have K1:=hd (Qb KD.out hb);clear hb;refine hkB hKq (VE9.out) fun hHeld=> ?_;clear hKq Kq;refine tkA 9 ?_
         refine tkB 10 ?_;refine tkA 17 ?_;refine tkB 18 ?_;refine tkB 19 ?_;refine wpAnyH_done (by kernel_rfl) ?_ _;clear hHeld;go_wp2_with fail
         go_roundw
         case rel=>exact⟨k+1,by omega,by rw [HL1.out],by go_num,K1.out⟩
         case measure=>simp [intOf];omega
        ·have h3: ¬(k:Int)<(mn:Int):=by omega
         obtain rfl:mn=k:=by omega
         have HNX:Hid (p=catB (vLs d (t+1))):=by show _=_;rw [vLs_succ HXT.out,HMN.out,HPT.out]
         have KF:=hd (Qb K2.out KS.out);go_wp2_with fail
         go_roundw
         case rel=>exact⟨t+1,by omega,by rw [HNX.out],by go_num,KF.out⟩
         case measure=>simp [intOf];omega
    ·have h2: ¬(t:Int)<(n1:Int):=by omega
     obtain rfl:n1=t:=by omega
     go_wp2_with fail
     go_ret;exact⟨Qm (by rw [dgTx,if_pos HFF.out,←HCT.out,←E1.out,vLs_all];rfl),KB.out⟩
theorem infoStrT:(Tryz.prog.info? 9).map (fun i=>(i.zero,i.size,i.bytes))=some (some (.string ⟨#[]⟩),1,16):=by kernel_rfl
theorem wpList_app_s {ops:Array Oper} {rest:List Oper} {o:Oper} {a:Act} {Q:Exit→Act→World→Prop} {W:World} (hgd:o.guard=none) (s x:Operand) (ho:o.op= .call {callee:= .builtin .append,args:= #[s,x],argTypes:= #[54,54]}) (B:Nat) (v:Value) (n:Nat) (l:List ByteArray) (hs:a.eval s=v)
  (hown:W.ownsRow B 9 1 v n (l.map Value.string)) (p:ByteArray) (g:Nat) (hx:a.eval x= .slice (some ⟨g,0,none⟩) 1 1) (hc:W.cell? ⟨g,0,none⟩=some (.string p)) (hn:n≤1099511627776) (hB:B≤W.heap.size)
  (h: ∀v' w',w'.ownsRow B 9 1 v' (n+1) ((l++ [p]).map Value.string)→W.grownBy w' v.ownBlock→wpList Tryz.prog ops Q rest (a.put o.dst v') w'):wpList Tryz.prog ops Q (o::rest) a W:=by
 obtain⟨i0,hi,iz0,iz1,iz2⟩:=info_parts infoStrT;refine wpList_append_own W hgd s x 54 ho B 9 i0 (.string ⟨#[]⟩) 1 16 Tryz.underlying54 hi iz0 iz1 iz2 rfl (by decide) v n _ hs hown ⟨g,0,none⟩ 1 1 [.string p] hx rfl ?_ ?_ ?_ ?_ hB ?_
 ·intro q u hq;match q,hq with
  | 0,hq=>simp at hq;subst hq;simpa [Addr.add]using hc
 ·intro u hu;simp at hu;subst hu;rfl
 ·unfold maxLen;omega
 ·omega
 ·intro v' w3 hown' hgrow _;refine h v' w3 ?_ hgrow;rw [List.map_append];exact hown'
theorem step_app_s {W:World} {ops:Array Oper} {o:Oper} {a:Act} {K:Act→World→Prop} {Q:Exit→Act→World→Prop} {E:Prop} (hgd:o.guard=none) (s x:Operand) (ho:o.op= .call {callee:= .builtin .append,args:= #[s,x],argTypes:= #[54,54]}) (B:Nat) (hB:B≤W.heap.size) (v:Value) (n:Nat) (l:List ByteArray) (hs:a.eval s=v)
  (hown:W.ownsRow B 9 1 v n (l.map Value.string)) (p:ByteArray) (g:Nat) (hx:a.eval x= .slice (some ⟨g,0,none⟩) 1 1) (hc:W.cell? ⟨g,0,none⟩=some (.string p)) (hn:n≤1099511627776)
  (h: ∀A' c' w',w'.ownsRow B 9 1 (.slice A' (n+1) c') (n+1) ((l++ [p]).map Value.string)→W.grownBy w' v.ownBlock→K (a.put o.dst (.slice A' (n+1) c')) w'):
  if Region.wanted o (yielded ops a.tmps)=true then Oper.wp Tryz.prog o a W K Q else E:=by
 obtain⟨i0,hi,iz0,iz1,iz2⟩:=info_parts infoStrT;have hw:Region.wanted o (yielded ops a.tmps)=true:=by simp [Region.wanted,hgd]
 rw [if_pos hw];refine wp_append_own W s x 54 ho B 9 i0 (.string ⟨#[]⟩) 1 16 Tryz.underlying54 hi iz0 iz1 iz2 rfl (by decide) v n _ hs hown ⟨g,0,none⟩ 1 1 [.string p] hx rfl ?_ ?_ (by unfold maxLen;omega) (by omega) hB ?_
 ·intro q u hq;match q,hq with
  | 0,hq=>simp at hq;subst hq;simpa [Addr.add]using hc
 ·intro u hu;simp at hu;subst hu;rfl
 ·intro v' w' ho' hg' _;obtain⟨A',cap',rfl,_,_⟩:=Qo ho';exact h A' cap' w' (by rw [List.map_append];exact ho') hg'
theorem impl_headLine {x:VR} {u s:Option Addr} {un uc mn sc:Nat} (w:World) (hu:IntRow w u x.ups) (hun:x.ups.length=un) (hid:0≤x.id∧x.id≤1000000000) (hup: ∀z∈x.ups,0≤z∧z≤1000000000) (h2:un≤2) (hv:VarT w):
  Calls Tryz.prog 18 #[.agg #[.int .i64 x.id,.slice u un uc,.slice s mn sc]] w fun e w'=>e= .returned (.string (vrLn x))∧Below w.heap.size w w':=by
 have RU:Hid (IntRow w u x.ups):=hu;have HUN:Hid (x.ups.length=un):=hun;have HID:Hid (0≤x.id∧x.id≤1000000000):=hid;have HUP:Hid (∀z∈x.ups,0≤z∧z≤1000000000):=hup;have HV:Hid (VarT w):=hv;have iz:=itB_sz hid.1 hid.2;obtain⟨sb1,sb2,sb3,sb4,sb5⟩:=sizes
 clear hu hun hid hup hv;go_enter Tryz.func18,Tryz.ntmps18;go_wp2_with fail
 obtain⟨X,HX⟩: ∃X,Hid (w.alloc (.cells #[.int .i64 x.id,.slice u un uc,.slice s mn sc] 44)=X):=⟨_,rfl⟩;rw [HX.out];have x1:X.cell? ⟨w.heap.size,1,none⟩=some (.slice u un uc):=by rw [←HX.out];go_simp
 have zX:w.heap.size<X.heap.size:=by rw [←HX.out];simp
 have KX:Hid (Below w.heap.size w X):=by rw [←HX.out];show Below _ _ _;go_grown
 clear HX;refine(Qfb x.id _ (by have:=HID.out;omega) (by have:=HID.out;omega) (HV.out.below KX.out)).mono ?_;rintro e u1 ⟨rfl,hb⟩;replace x1:=cy hb x1;replace zX:w.heap.size<u1.heap.size:=Nat.lt_of_lt_of_le zX hb.size;replace KX:=hd (Qb KX.out hb);clear hb
 obtain⟨ka1,HKA1⟩: ∃k,Hid (sVr++itB x.id=k):=⟨_,rfl⟩;have zka1:ka1.size=sVr.size+(itB x.id).size:=by rw [←HKA1.out,ByteArray.size_append]
 have rka1: ∀W,(Op.stringOp .add (⟨#[118,101,114,115,105,111,110,32]⟩:ByteArray) (itB x.id)).run Tryz.prog W= .ok (.string ka1) W:=fun W=>by rw [←HKA1.out];exact run_string_add_sum W _ _ (by have:(⟨#[118,101,114,115,105,111,110,32]⟩:ByteArray).size=8:=rfl;omega)
 have HP0:Hid (ka1=upLn (x.ups.take 0) (sVr++itB x.id)):=by show _=_;rw [←HKA1.out];rfl
 go_wp2_with fail
 clear rka1 zka1 HKA1;go_loopw [3,13] (fun q i wr=> ∃k:Nat,k≤un∧q= .string (upLn (x.ups.take k) (sVr++itB x.id))∧i= .int .i64 k∧Below w.heap.size w wr) (fun _ i _=>un-(intOf i).toNat)
 case atStart=>exact⟨0,Nat.zero_le _,by rw [HP0.out],rfl,KX.out⟩
 case round=>
  obtain⟨k,hk,rfl,rfl,hbel⟩:=hrel;have KW:Hid (Below w.heap.size w wr):=hbel;have hus:=upLn_size (x.ups.take k) (sVr++itB x.id) (fun z hz=>HUP.out z (List.mem_of_mem_take hz));have hut:(x.ups.take k).length≤2:=by rw [List.length_take,HUN.out];omega
  rw [ByteArray.size_append]at hus;obtain⟨p,HPT⟩: ∃p,Hid (upLn (x.ups.take k) (sVr++itB x.id)=p):=⟨_,rfl⟩;rw [HPT.out]at hus;rw [HPT.out];by_cases hlt:k<un
  ·obtain⟨y,hy⟩:=ZF HUN.out hlt;have HYT:Hid (x.ups[k]? =some y):=hy;have HYB:Hid (0≤y∧y≤1000000000):=HUP.out y (List.mem_of_getElem? hy);have iy:=itB_sz HYB.out.1 HYB.out.2;obtain⟨ub,uo,rfl,hul,cu⟩:=Jj RU.out hy;rw [←hbel.cell (p:=⟨_,_,none⟩) hul]at cu;have hul2:ub<wr.heap.size:=Nat.lt_of_lt_of_le hul hbel.size
   have j0:(0:Int)≤(k:Int):=by omega
   have j1:(k:Int)<(un:Int):=by omega
   clear hy hul hbel;obtain⟨ky,HKY⟩: ∃ky,Hid (sSp++itB y=ky):=⟨_,rfl⟩;have zky:ky.size=sSp.size+(itB y).size:=by rw [←HKY.out,ByteArray.size_append]
   have rky: ∀W,(Op.stringOp .add (⟨#[32]⟩:ByteArray) (itB y)).run Tryz.prog W= .ok (.string ky) W:=fun W=>by rw [←HKY.out];exact run_string_add_sum W _ _ (by have:(⟨#[32]⟩:ByteArray).size=1:=rfl;omega)
   obtain⟨kz,HKZ⟩: ∃kz,Hid (p++ky=kz):=⟨_,rfl⟩;have rkz: ∀W,(Op.stringOp .add p ky).run Tryz.prog W= .ok (.string kz) W:=fun W=>by rw [←HKZ.out];exact run_string_add_sum W _ _ (by omega)
   have HN:Hid (kz=upLn (x.ups.take (k+1)) (sVr++itB x.id)):=by show _=_;rw [take_at HYT.out,upLn_snoc,HPT.out,HKY.out,HKZ.out]
   go_wp2_with fail
   refine(Qfb y _ (by have:=HYB.out;omega) (by have:=HYB.out;omega) (HV.out.below KW.out)).mono ?_;rintro e u2 ⟨rfl,hb⟩;have K2:=hd (Qb KW.out hb);clear hb cu hul2;go_wp2_with fail
   go_roundw
   case rel=>exact⟨k+1,by omega,by rw [HN.out],by go_num,K2.out⟩
   case measure=>simp [intOf];omega
  ·have h1: ¬(k:Int)<(un:Int):=by omega
   obtain rfl:un=k:=by omega
   go_wp2_with fail
   go_ret;exact⟨Qm (by rw [←HPT.out,←HUN.out,List.take_length];rfl),hbel⟩
theorem impl_DagText {v:Value} {d:DG} (w:World) (h:DgRow w v d) (hk:DgOk d) (hl:DgLil d) (hg:GI w):
  Calls Tryz.prog 7 #[v] w fun e w'=>e= .returned (.string (dgTx d))∧Below w.heap.size w w':=by
 obtain⟨A1,n1,c1,A2,n2,c2,rfl⟩:=h.agg;have HR:Hid (DgRow w (.agg #[.int .i64 d.next,.slice A1 n1 c1,.slice A2 n2 c2]) d):=h;obtain⟨r1,e1,r2,e2⟩:=h.open;have R1:Hid (VrRow w A1 d.vs):=r1;have R2:Hid (ZT w A2 d.bs):=r2;have E1:Hid (d.vs.length=n1):=e1;have E2:Hid (d.bs.length=n2):=e2
 have HK:Hid (DgOk d):=hk;have HL:Hid (DgLil d):=hl;have HG:Hid (GI w):=hg;obtain⟨f,HFF⟩: ∃f:Bool,Hid (Xe d=f):=⟨_,rfl⟩;obtain⟨sb1,sb2,sb3,sb4,sb5⟩:=sizes;clear h r1 r2 e1 e2 hk hl hg;go_enter Tryz.func7,Tryz.ntmps7
 go_wp2_with fail
 obtain⟨X,HX⟩: ∃X,Hid (w.alloc (.cells #[.int .i64 d.next,.slice A1 n1 c1,.slice A2 n2 c2] 31)=X):=⟨_,rfl⟩;rw [HX.out];have x0:X.cell? ⟨w.heap.size,0,none⟩=some (.int .i64 d.next):=by rw [←HX.out];go_simp
 have x1:X.cell? ⟨w.heap.size,1,none⟩=some (.slice A1 n1 c1):=by rw [←HX.out];go_simp
 have x2:X.cell? ⟨w.heap.size,2,none⟩=some (.slice A2 n2 c2):=by rw [←HX.out];go_simp
 have zX:w.heap.size<X.heap.size:=by rw [←HX.out];simp
 have KX:Hid (Below w.heap.size w X):=by rw [←HX.out];show Below _ _ _;go_grown
 clear HX;refine(Qi5 _ (HR.out.below KX.out) HK.out HL.out (HG.out.below KX.out)).mono ?_;rintro e u0 ⟨rfl,hb⟩;replace x0:=cy hb x0;replace x1:=cy hb x1;replace x2:=cy hb x2;replace zX:w.heap.size<u0.heap.size:=Nat.lt_of_lt_of_le zX hb.size
 replace KX:=hd (Qb KX.out hb);clear hb;rw [HFF.out];cases f
 ·go_wp2_with fail
  go_ret;exact⟨Qm (by rw [dgTx,if_neg (by rw [HFF.out];decide)]),KX.out⟩
 have HT:Hid (DgTx d):=dag_tx HFF.out;have hn1:n1≤40:=by rw [←E1.out];exact HT.out.nv
 have hn2:n2≤8:=by rw [←E2.out];exact HT.out.nb
 have iz:=itB_sz HT.out.n0 HT.out.nx;obtain⟨ka1,HKA1⟩: ∃k,Hid (sDag++itB d.next=k):=⟨_,rfl⟩;have zka1:ka1.size=sDag.size+(itB d.next).size:=by rw [←HKA1.out,ByteArray.size_append]
 have rka1: ∀W,(Op.stringOp .add (⟨#[100,97,103,32]⟩:ByteArray) (itB d.next)).run Tryz.prog W= .ok (.string ka1) W:=fun W=>by rw [←HKA1.out];exact run_string_add_sum W _ _ (by have:(⟨#[100,97,103,32]⟩:ByteArray).size=4:=rfl;omega)
 go_wp2_with fail
 refine(Qfb d.next _ (by have:=HT.out.n0;omega) (by have:=HT.out.nx;omega) (HG.out.below KX.out).var).mono ?_;rintro e u1 ⟨rfl,hb⟩;replace x0:=cy hb x0;replace x1:=cy hb x1;replace x2:=cy hb x2;replace zX:w.heap.size<u1.heap.size:=Nat.lt_of_lt_of_le zX hb.size;replace KX:=hd (Qb KX.out hb)
 clear hb;have X0:Hid (u1.cell? ⟨w.heap.size,1,none⟩=some (.slice A1 n1 c1)∧u1.cell? ⟨w.heap.size,2,none⟩=some (.slice A2 n2 c2)∧w.heap.size<u1.heap.size):=⟨x1,x2,zX⟩;have HB0:Hid (bLs d 0= [ka1]):=by show _=_;unfold bLs;rw [←HKA1.out];simp;rfl
 have HO0:Hid ((u1.alloc (.cells #[.string ka1] 9)).ownsRow u1.heap.size 9 1 (.slice (some ⟨u1.heap.size,0,none⟩) 1 1) 1 ((bLs d 0).map Value.string)):=by rw [HB0.out];exact World.ownsRow_lit u1 _ 1 (Nat.le_refl _) (by unfold maxLen;omega) rfl
 go_wp2_with fail
 clear x0 rka1 zka1 HKA1 iz;go_loopw [3,21] (fun q i wr=> ∃(t:Nat) (A:Option Addr) (k c:Nat),t≤n2∧q= .slice A k c∧i= .int .i64 t∧(bLs d t).length=k∧wr.ownsRow u1.heap.size 9 1 (.slice A k c) k ((bLs d t).map Value.string)∧Below u1.heap.size u1 wr) (fun _ i _=>n2-(intOf i).toNat)
 case atStart=>exact⟨0,_,1,1,Nat.zero_le _,rfl,rfl,by rw [HB0.out];rfl,HO0.out,(Below.refl _ _).alloc (Nat.le_refl _) _⟩
 case round=>
  obtain⟨t,A,kk,cc,ht,rfl,rfl,hkl,hown,hbel⟩:=hrel;have KW:Hid (Below u1.heap.size u1 wr):=hbel;have KA:=hd (Qb KX.out hbel);have hsv:=hbel.size;have y1:=cy hbel X0.out.1;have yz:w.heap.size<wr.heap.size:=Nat.lt_of_lt_of_le X0.out.2.2 hbel.size;have hk9:kk≤9:=by rw [←hkl];exact(bLs_ok HT.out t).2
  have HKK:Hid ((bLs d t).length=kk):=hkl;have HOW:Hid (wr.ownsRow u1.heap.size 9 1 (.slice A kk cc) kk ((bLs d t).map Value.string)):=hown;clear hbel hkl hown;by_cases hlt:t<n2
  ·obtain⟨x,hx⟩:=ZF E2.out hlt;have HXT:Hid (d.bs[t]? =some x):=hx;have hxm:=List.mem_of_getElem? hx;have hnm:=HT.out.bn x hxm;have HHD:Hid (0≤x.h∧x.h≤1000000000):=HT.out.bh x hxm;have iz:=itB_sz HHD.out.1 HHD.out.2;obtain⟨b,o,rfl,hl,hc⟩:=R2.out.2 t x hx
   have b0:w.cell? ⟨b,o+t*2,none⟩=some (.string x.n):=hc 0 _ rfl;have b1:w.cell? ⟨b,o+t*2+1,none⟩=some (.int .i64 x.h):=hc 1 _ rfl;rw [←KA.out.cell (p:=⟨_,_,none⟩) hl]at b0 b1;have hl2:b<wr.heap.size:=Nat.lt_of_lt_of_le hl KA.out.size;have q0:(0:Int)≤(t:Int):=by omega
   have q1:(t:Int)<(n2:Int):=by omega
   clear hx hxm hc hl;obtain⟨kb1,HKB1⟩: ∃k,Hid (sBr++x.n=k):=⟨_,rfl⟩;have zkb1:kb1.size=sBr.size+(x.n).size:=by rw [←HKB1.out,ByteArray.size_append]
   have rkb1: ∀W,(Op.stringOp .add (⟨#[98,114,97,110,99,104,32]⟩:ByteArray) (x.n)).run Tryz.prog W= .ok (.string kb1) W:=fun W=>by rw [←HKB1.out];exact run_string_add_sum W _ _ (by have:(⟨#[98,114,97,110,99,104,32]⟩:ByteArray).size=7:=rfl;omega)
   obtain⟨kb2,HKB2⟩: ∃k,Hid (kb1++sSp=k):=⟨_,rfl⟩;have zkb2:kb2.size=kb1.size+(sSp).size:=by rw [←HKB2.out,ByteArray.size_append]
   have rkb2: ∀W,(Op.stringOp .add kb1 (⟨#[32]⟩:ByteArray)).run Tryz.prog W= .ok (.string kb2) W:=fun W=>by rw [←HKB2.out];exact run_string_add_sum W _ _ (by have:(⟨#[32]⟩:ByteArray).size=1:=rfl;omega)
   obtain⟨kb3,HKB3⟩: ∃k,Hid (kb2++itB x.h=k):=⟨_,rfl⟩;have zkb3:kb3.size=kb2.size+(itB x.h).size:=by rw [←HKB3.out,ByteArray.size_append]
   have rkb3: ∀W,(Op.stringOp .add kb2 (itB x.h)).run Tryz.prog W= .ok (.string kb3) W:=fun W=>by rw [←HKB3.out];exact run_string_add_sum W _ _ (by omega)
   have HBS:Hid (bLs d (t+1)=bLs d t++ [kb3]):=by show _=_;rw [bLs_succ HXT.out,←HKB3.out,←HKB2.out,←HKB1.out];rfl
   go_upto_region 7 with fail
   obtain⟨V,HV⟩: ∃V,Hid (wr.alloc (.cells #[.string x.n,.int .i64 x.h] 40)=V):=⟨_,rfl⟩;rw [HV.out];have v0:V.cell? ⟨wr.heap.size,0,none⟩=some (.string x.n):=by rw [←HV.out];go_simp
   have v1:V.cell? ⟨wr.heap.size,1,none⟩=some (.int .i64 x.h):=by rw [←HV.out];go_simp
   have vz:wr.heap.size<V.heap.size:=by rw [←HV.out];simp
   have hbV:Below wr.heap.size wr V:=by rw [←HV.out];exact(Below.refl _ _).alloc (Nat.le_refl _) _
   have VE0:Hid (V.drew.cell? ⟨wr.heap.size,0,none⟩=some (.string x.n)∧V.drew.cell? ⟨wr.heap.size,1,none⟩=some (.int .i64 x.h)∧wr.heap.size<V.drew.heap.size):=⟨v0,v1,vz⟩;have KD:Hid (Below u1.heap.size u1 V.drew):=(KW.out.trans (hbV.mono hsv)).drew;have OD:=hd (Ql (Ql HOW.out hbV) ((Below.refl _ _).drew));have NB:Hid (some wr.heap.size≠(Value.slice A kk cc).ownBlock):=fun e=>by have:=(HOW.out.lt _ e.symm).2;omega
   have hdz:u1.heap.size≤V.drew.heap.size:=KD.out.size;clear y1 yz b0 b1 hl2 v0 v1 vz hbV HV;refine wp_region_held_drew (S:=(fun w'=>w'.cell? ⟨wr.heap.size,0,none⟩=some (.string x.n)∧w'.cell? ⟨wr.heap.size,1,none⟩=some (.int .i64 x.h)∧wr.heap.size<w'.heap.size)) (by kernel_rfl) VE0.out (fun hHeld=> ?_);refine tkA 0 ?_;refine tkB 1 ?_;refine tkA 2 ?_;refine tkB 3 ?_
   refine tkA 4 ?_;refine tkB 5 ?_;refine tkB 6 ?_;refine rqA 7 (fun Kq hKq=> ?_);go_simp;refine(Qfb x.h _ (by have:=HHD.out;omega) (by have:=HHD.out;omega) (HG.out.below (Qb KX.out KD.out)).var).mono ?_;rintro e q1 ⟨rfl,hb⟩
   have Vq1:Hid (q1.cell? ⟨wr.heap.size,0,none⟩=some (.string x.n)∧q1.cell? ⟨wr.heap.size,1,none⟩=some (.int .i64 x.h)∧wr.heap.size<q1.heap.size):=⟨cy hb VE0.out.1,cy hb VE0.out.2.1,Nat.lt_of_lt_of_le VE0.out.2.2 hb.size⟩;have K1:=hd (Qb KD.out hb);have O1:=hd (Ql OD.out hb);have h1z:u1.heap.size≤q1.heap.size:=K1.out.size;clear hb;refine hkB hKq (Vq1.out) fun hHeld=> ?_;clear hKq Kq
   refine tkB 8 ?_;refine rqA 9 (fun Kq hKq=> ?_);go_simp;obtain⟨q2,HQ2⟩: ∃q,Hid (q1.alloc (.cells #[.string kb3] 9)=q):=⟨_,rfl⟩;rw [HQ2.out];have hb:Below q1.heap.size q1 q2:=by rw [←HQ2.out];exact(Below.refl _ _).alloc (Nat.le_refl _) _
   have Vq2:Hid (q2.cell? ⟨wr.heap.size,0,none⟩=some (.string x.n)∧q2.cell? ⟨wr.heap.size,1,none⟩=some (.int .i64 x.h)∧wr.heap.size<q2.heap.size):=⟨cy hb Vq1.out.1,cy hb Vq1.out.2.1,Nat.lt_of_lt_of_le Vq1.out.2.2 hb.size⟩;have s2:Hid (q2.cell? ⟨q1.heap.size,0,none⟩=some (.string kb3)):=by rw [←HQ2.out];show _=_;go_simp
   have K2:=hd (Qb K1.out hb);have O2:=hd (Ql O1.out hb);clear hb HQ2;refine hkB hKq (Vq2.out) fun hHeld=> ?_;clear hKq Kq;refine rqA 10 (fun Kq hKq=> ?_);refine step_app_s (by rfl) _ _ (by rfl) u1.heap.size K2.out.size (.slice A kk cc) kk (bLs d t) (by rfl) O2.out kb3 q1.heap.size (by rfl) s2.out (by omega) ?_
   intro D3 f3 q3 ho hg;have Vq3:Hid (q3.cell? ⟨wr.heap.size,0,none⟩=some (.string x.n)∧q3.cell? ⟨wr.heap.size,1,none⟩=some (.int .i64 x.h)∧wr.heap.size<q3.heap.size):=⟨hg.cell Vq2.out.1 NB.out,hg.cell Vq2.out.2.1 NB.out,Nat.lt_of_lt_of_le Vq2.out.2.2 hg.size⟩;have O3:Hid (q3.ownsRow u1.heap.size 9 1 (.slice D3 (kk+1) f3) (kk+1) ((bLs d t++ [kb3]).map Value.string)):=ho;have K3:=hd (K2.out.grown hg K2.out.size (fun j hj=>(O2.out.lt j hj).1));clear ho hg;refine hkB hKq (Vq3.out) fun hHeld=> ?_;clear hKq Kq
   refine tkB 11 ?_;refine wpAnyH_done (by kernel_rfl) ?_ _;clear hHeld;have HL3:Hid ((bLs d (t+1)).length=kk+1):=by show _=_;rw [HBS.out,List.length_append,HKK.out];rfl
   go_wp2_with fail
   go_roundw
   case rel=>exact⟨t+1,D3,kk+1,f3,by omega,rfl,by go_num,HL3.out,by rw [HBS.out];exact O3.out,K3.out⟩
   case measure=>simp [intOf];omega
  ·have h1: ¬(t:Int)<(n2:Int):=by omega
   obtain rfl:n2=t:=by omega
   have HBV:Hid (bLs d n2=vLs d 0):=by show _=_;rw [vLs_zero,E2.out]
   rw [HBV.out]at HOW HKK;go_wp2_with fail
   clear y1 yz;go_loopw [3,40] (fun q i wq=> ∃(t:Nat) (A:Option Addr) (k c:Nat),t≤n1∧q= .slice A k c∧i= .int .i64 t∧(vLs d t).length=k∧wq.ownsRow u1.heap.size 9 1 (.slice A k c) k ((vLs d t).map Value.string)∧Below u1.heap.size u1 wq) (fun _ i _=>n1-(intOf i).toNat)
   case atStart=>exact⟨0,A,kk,cc,Nat.zero_le _,rfl,rfl,HKK.out,HOW.out,KW.out⟩
   case round=>
    rename World=>wv
    clear HOW HKK KW KA HBV hk9 hsv;obtain⟨t,A,kk,cc,ht',rfl,rfl,hkl,hown,hbel⟩:=hrel;have KV:Hid (Below u1.heap.size u1 wv):=hbel;have KB:=hd (Qb KX.out hbel);have hsv:=hbel.size;have hk9:kk≤5000:=by rw [←hkl];exact(vLs_ok HT.out t).2
    have HKK:Hid ((vLs d t).length=kk):=hkl;have HOW:Hid (wv.ownsRow u1.heap.size 9 1 (.slice A kk cc) kk ((vLs d t).map Value.string)):=hown;clear hbel hkl hown;by_cases hlt:t<n1
    ·obtain⟨x,hx⟩:=ZF E1.out hlt;have HXT:Hid (d.vs[t]? =some x):=hx;have HXM:Hid (x∈d.vs):=List.mem_of_getElem? hx;obtain⟨b,o,u,uc,s,sc,rfl,hl,b0,b1,b2,ru,rs⟩:=R1.out.2 t x hx;have RU:Hid (IntRow w u x.ups):=ru;have RS:Hid (ClRow w s x.m x.C x.R x.S):=rs;obtain⟨un,HUN⟩: ∃un,Hid (x.ups.length=un):=⟨_,rfl⟩
     obtain⟨mn,HMN⟩: ∃mn,Hid (x.m=mn):=⟨_,rfl⟩;rw [HUN.out]at b1;rw [HMN.out]at b2;have hun:un≤2:=by rw [←HUN.out];exact HT.out.two x HXM.out
     have hmn:mn≤120:=by rw [←HMN.out];exact HT.out.m x HXM.out
     rw [←KB.out.cell (p:=⟨_,_,none⟩) hl]at b0 b1 b2;have hl2:b<wv.heap.size:=Nat.lt_of_lt_of_le hl KB.out.size;have q0:(0:Int)≤(t:Int):=by omega
     have q1:(t:Int)<(n1:Int):=by omega
     clear hx hl ru rs;go_wp2_with fail
     obtain⟨Z,HZ⟩: ∃Z,Hid (wv.alloc (.cells #[.int .i64 x.id,.slice u un uc,.slice s mn sc] 44)=Z):=⟨_,rfl⟩;rw [HZ.out];have hb:Below wv.heap.size wv Z:=by rw [←HZ.out];exact(Below.refl _ _).alloc (Nat.le_refl _) _
     have z2:Z.cell? ⟨wv.heap.size,2,none⟩=some (.slice s mn sc):=by rw [←HZ.out];go_simp
     have zz:wv.heap.size<Z.heap.size:=by rw [←HZ.out];simp
     have KZ:Hid (Below u1.heap.size u1 Z):=KV.out.trans (hb.mono hsv);have OZ:=hd (Ql HOW.out hb);have NZ:Hid (some wv.heap.size≠(Value.slice A kk cc).ownBlock):=fun e=>by have:=(HOW.out.lt _ e.symm).2;omega
     clear HZ hb b0 b1 b2 hl2;refine(impl_headLine _ (RU.out.below (Qb KX.out KZ.out)) HUN.out (HT.out.id x HXM.out) (HT.out.up x HXM.out) hun (HG.out.below (Qb KX.out KZ.out)).var).mono ?_;rintro e u2 ⟨rfl,hb⟩;replace z2:=cy hb z2;replace zz:wv.heap.size<u2.heap.size:=Nat.lt_of_lt_of_le zz hb.size;have K2:=hd (Qb KZ.out hb);have O2:=hd (Ql OZ.out hb)
     have hs2:u1.heap.size≤u2.heap.size:=K2.out.size;obtain⟨vl,HVL⟩: ∃vl,Hid (vrLn x=vl):=⟨_,rfl⟩;rw [HVL.out];clear hb OZ KZ
     go_wp2_with (first
      | (at_builtin;refine wpList_app_s rfl _ _ rfl u1.heap.size (.slice A kk cc) kk (vLs d t) rfl (O2.out.alloc _) vl u2.heap.size rfl (by simp [go_sem]) (by omega) (by simp;omega) ?_)
      | fail)
     intro va q6 ho hg;obtain⟨A6,c6,rfl,_,_⟩:=Qo ho;have hba:Below u2.heap.size u2 (u2.alloc (.cells #[.string vl] 9)):=(Below.refl _ _).alloc (Nat.le_refl _) _;have O6:Hid (q6.ownsRow u1.heap.size 9 1 (.slice A6 (kk+1) c6) (kk+1) (((vLs d t++ [vrLn x])++clLs x 0).map Value.string)):=by rw [HVL.out,show clLs x 0= []from rfl,List.append_nil,List.map_append];exact ho
     have K6:Hid (Below u1.heap.size u1 q6):=(K2.out.alloc hs2 _).grown hg (by simp;omega) (fun j hj=>(O2.out.lt j hj).1);have ZC:Hid (q6.cell? ⟨wv.heap.size,2,none⟩=some (.slice s mn sc)∧wv.heap.size<q6.heap.size):=⟨hg.cell (cy hba z2) NZ.out,Nat.lt_of_lt_of_le zz (Nat.le_trans hba.size hg.size)⟩;have w2:=ZC.out.1;have wz:=ZC.out.2;have HBW:Hid (u1.heap.size≤wv.heap.size):=hsv;clear ho hg hba z2 zz K2 O2 NZ KV HOW;go_wp2_with fail
     clear w2 wz;go_loopw [3,52] (fun q i wq=> ∃(k:Nat) (A:Option Addr) (m c:Nat),k≤mn∧q= .slice A m c∧i= .int .i64 k∧m=kk+1+k∧wq.ownsRow u1.heap.size 9 1 (.slice A m c) m (((vLs d t++ [vrLn x])++clLs x k).map Value.string)∧Below u1.heap.size u1 wq) (fun _ i _=>mn-(intOf i).toNat)
     case atStart=>exact⟨0,A6,kk+1,c6,Nat.zero_le _,rfl,rfl,rfl,O6.out,K6.out⟩
     case round=>
      rename World=>ws
      clear O6 K6 ZC;obtain⟨k,A,m9,cc9,hk',rfl,rfl,hm9,hown,hbel⟩:=hrel;have KS:Hid (Below u1.heap.size u1 ws):=hbel;have KE:=hd (Qb KX.out hbel);have hsw:=hbel.size;have HOW:Hid (ws.ownsRow u1.heap.size 9 1 (.slice A m9 cc9) m9 (((vLs d t++ [vrLn x])++clLs x k).map Value.string)):=hown;have HM9:Hid (m9=kk+1+k):=hm9
      have hmb:m9≤6000:=by omega
      clear hown hbel hm9;by_cases hlt':k<mn
      ·have hkm:k<x.m:=by rw [HMN.out];exact hlt'
       have hss:=HT.out.s x HXM.out k hkm;obtain⟨sb,so,rfl,hsl,d0,d1,d2,_⟩:=RS.out.2 k hkm;rw [←KE.out.cell (p:=⟨_,_,none⟩) hsl]at d0 d1 d2;have hsl2:sb<ws.heap.size:=Nat.lt_of_lt_of_le hsl KE.out.size;obtain⟨cx,HCX⟩: ∃cx,Hid (x.C k=cx):=⟨_,rfl⟩;obtain⟨rx,HRX⟩: ∃rx,Hid (x.R k=rx):=⟨_,rfl⟩;obtain⟨sx,HSX⟩: ∃sx,Hid (x.S k=sx):=⟨_,rfl⟩
       rw [HCX.out]at d0;rw [HRX.out]at d1;rw [HSX.out]at d2 hss;have ip:=Qlj cx rx;have j0:(0:Int)≤(k:Int):=by omega
       have j1:(k:Int)<(mn:Int):=by omega
       clear hsl hkm;obtain⟨kf1,HKF1⟩: ∃k,Hid (plB cx rx=k):=⟨_,rfl⟩;rw [HKF1.out]at ip;obtain⟨kf2,HKF2⟩: ∃k,Hid (kf1++sSp=k):=⟨_,rfl⟩;have zkf2:kf2.size=kf1.size+(sSp).size:=by rw [←HKF2.out,ByteArray.size_append]
       have rkf2: ∀W,(Op.stringOp .add kf1 (⟨#[32]⟩:ByteArray)).run Tryz.prog W= .ok (.string kf2) W:=fun W=>by rw [←HKF2.out];exact run_string_add_sum W _ _ (by have:(⟨#[32]⟩:ByteArray).size=1:=rfl;omega)
       obtain⟨kf3,HKF3⟩: ∃k,Hid (kf2++sx=k):=⟨_,rfl⟩;have zkf3:kf3.size=kf2.size+(sx).size:=by rw [←HKF3.out,ByteArray.size_append]
       have rkf3: ∀W,(Op.stringOp .add kf2 (sx)).run Tryz.prog W= .ok (.string kf3) W:=fun W=>by rw [←HKF3.out];exact run_string_add_sum W _ _ (by omega)
       have HLS:Hid ((vLs d t++ [vrLn x])++clLs x (k+1)=((vLs d t++ [vrLn x])++clLs x k)++ [kf3]):=by
        show _=_;rw [clLs_succ,←List.append_assoc,←HKF3.out,←HKF2.out,←HKF1.out];unfold clLn;rw [HCX.out,HRX.out,HSX.out]
       go_upto_region 16 with fail
       obtain⟨V,HV⟩: ∃V,Hid (ws.alloc (.cells #[.int .i64 cx,.int .i64 rx,.string sx] 49)=V):=⟨_,rfl⟩;rw [HV.out];have v0:V.cell? ⟨ws.heap.size,0,none⟩=some (.int .i64 cx):=by rw [←HV.out];go_simp
       have v1:V.cell? ⟨ws.heap.size,1,none⟩=some (.int .i64 rx):=by rw [←HV.out];go_simp
       have v2:V.cell? ⟨ws.heap.size,2,none⟩=some (.string sx):=by rw [←HV.out];go_simp
       have vz:ws.heap.size<V.heap.size:=by rw [←HV.out];simp
       have hbV:Below ws.heap.size ws V:=by rw [←HV.out];exact(Below.refl _ _).alloc (Nat.le_refl _) _
       have VE0:Hid (V.drew.cell? ⟨ws.heap.size,0,none⟩=some (.int .i64 cx)∧V.drew.cell? ⟨ws.heap.size,1,none⟩=some (.int .i64 rx)∧V.drew.cell? ⟨ws.heap.size,2,none⟩=some (.string sx)∧ws.heap.size<V.drew.heap.size):=⟨v0,v1,v2,vz⟩;have KD:Hid (Below u1.heap.size u1 V.drew):=(KS.out.trans (hbV.mono hsw)).drew;have OD:=hd (Ql (Ql HOW.out hbV) ((Below.refl _ _).drew));have NB:Hid (some ws.heap.size≠(Value.slice A m9 cc9).ownBlock):=fun e=>by have:=(HOW.out.lt _ e.symm).2;omega
       have hdz:u1.heap.size≤V.drew.heap.size:=KD.out.size;clear d0 d1 d2 hsl2 v0 v1 v2 vz hbV HV;refine wp_region_held_drew (S:=(fun w'=>w'.cell? ⟨ws.heap.size,0,none⟩=some (.int .i64 cx)∧w'.cell? ⟨ws.heap.size,1,none⟩=some (.int .i64 rx)∧w'.cell? ⟨ws.heap.size,2,none⟩=some (.string sx)∧ws.heap.size<w'.heap.size)) (by kernel_rfl) VE0.out (fun hHeld=> ?_);refine tkA 0 ?_;refine tkB 1 ?_;refine tkA 2 ?_;refine tkB 3 ?_
       refine tkA 6 ?_;refine tkB 7 ?_;refine rqA 4 (fun Kq hKq=> ?_);go_simp;refine(Qby cx rx _).mono ?_;rintro e q1 ⟨rfl,hb⟩;have Vq1:Hid (q1.cell? ⟨ws.heap.size,0,none⟩=some (.int .i64 cx)∧q1.cell? ⟨ws.heap.size,1,none⟩=some (.int .i64 rx)∧q1.cell? ⟨ws.heap.size,2,none⟩=some (.string sx)∧ws.heap.size<q1.heap.size):=⟨cy hb VE0.out.1,cy hb VE0.out.2.1,cy hb VE0.out.2.2.1,Nat.lt_of_lt_of_le VE0.out.2.2.2 hb.size⟩
       have K1:=hd (Qb KD.out hb);have O1:=hd (Ql OD.out hb);have h1z:u1.heap.size≤q1.heap.size:=K1.out.size;rw [HKF1.out];clear hb;refine hkB hKq (Vq1.out) fun hHeld=> ?_;clear hKq Kq
       refine tkA 5 ?_;refine tkB 8 ?_;refine rqA 9 (fun Kq hKq=> ?_);go_simp;obtain⟨q2,HQ2⟩: ∃q,Hid (q1.alloc (.cells #[.string kf3] 9)=q):=⟨_,rfl⟩;rw [HQ2.out];have hb:Below q1.heap.size q1 q2:=by rw [←HQ2.out];exact(Below.refl _ _).alloc (Nat.le_refl _) _
       have Vq2:Hid (q2.cell? ⟨ws.heap.size,0,none⟩=some (.int .i64 cx)∧q2.cell? ⟨ws.heap.size,1,none⟩=some (.int .i64 rx)∧q2.cell? ⟨ws.heap.size,2,none⟩=some (.string sx)∧ws.heap.size<q2.heap.size):=⟨cy hb Vq1.out.1,cy hb Vq1.out.2.1,cy hb Vq1.out.2.2.1,Nat.lt_of_lt_of_le Vq1.out.2.2.2 hb.size⟩;have s2:Hid (q2.cell? ⟨q1.heap.size,0,none⟩=some (.string kf3)):=by rw [←HQ2.out];show _=_;go_simp
       have K2:=hd (Qb K1.out hb);have O2:=hd (Ql O1.out hb);clear hb HQ2;refine hkB hKq (Vq2.out) fun hHeld=> ?_;clear hKq Kq;refine rqA 10 (fun Kq hKq=> ?_);refine step_app_s (by rfl) _ _ (by rfl) u1.heap.size K2.out.size (.slice A m9 cc9) m9 (((vLs d t++ [vrLn x])++clLs x k)) (by rfl) O2.out kf3 q1.heap.size (by rfl) s2.out (by omega) ?_
       intro D3 f3 q3 ho hg;have Vq3:Hid (q3.cell? ⟨ws.heap.size,0,none⟩=some (.int .i64 cx)∧q3.cell? ⟨ws.heap.size,1,none⟩=some (.int .i64 rx)∧q3.cell? ⟨ws.heap.size,2,none⟩=some (.string sx)∧ws.heap.size<q3.heap.size):=⟨hg.cell Vq2.out.1 NB.out,hg.cell Vq2.out.2.1 NB.out,hg.cell Vq2.out.2.2.1 NB.out,Nat.lt_of_lt_of_le Vq2.out.2.2.2 hg.size⟩;have O3:Hid (q3.ownsRow u1.heap.size 9 1 (.slice D3 (m9+1) f3) (m9+1) ((((vLs d t++ [vrLn x])++clLs x k)++ [kf3]).map Value.string)):=ho;have K3:=hd (K2.out.grown hg K2.out.size (fun j hj=>(O2.out.lt j hj).1));clear ho hg;refine hkB hKq (Vq3.out) fun hHeld=> ?_;clear hKq Kq
       refine tkB 11 ?_;refine wpAnyH_done (by kernel_rfl) ?_ _;clear hHeld;go_wp2_with fail
       go_roundw
       case rel=>exact⟨k+1,D3,m9+1,f3,by omega,rfl,by go_num,by have:=HM9.out;omega,by rw [HLS.out];exact O3.out,K3.out⟩
       case measure=>simp [intOf];omega
      ·have h3: ¬(k:Int)<(mn:Int):=by omega
       obtain rfl:mn=k:=by omega
       have HVN:Hid ((vLs d t++ [vrLn x])++clLs x mn=vLs d (t+1)):=by show _=_;rw [vLs_succ HXT.out,HMN.out]
       rw [HVN.out]at HOW
       have HLN:Hid ((vLs d (t+1)).length=m9):=by
        show _=_;rw [←HVN.out,List.length_append,List.length_append,clLs_len,HKK.out,HM9.out];rfl
       go_wp2_with fail
       go_roundw
       case rel=>exact⟨t+1,A,m9,cc9,by omega,rfl,by go_num,HLN.out,HOW.out,KS.out⟩
       case measure=>simp [intOf];omega
    ·have h2: ¬(t:Int)<(n1:Int):=by omega
     obtain rfl:n1=t:=by omega
     have HVA:Hid (vLs d n1=dgLs d):=by show _=_;rw [←E1.out,vLs_all]
     have hcl:=(vLs_ok HT.out n1).cat;rw [HVA.out]at HOW HKK hcl;have hne:dgLs d≠ []:=by unfold dgLs;simp
     obtain⟨jn,HJN⟩: ∃jn,Hid ((⟨(Lib.join ((dgLs d).map (·.data.toList)) [10]).toArray⟩:ByteArray)=jn):=⟨_,rfl⟩;have hjz:jn.size+1=(UC (dgLs d)).length:=by rw [←Qc9 _ hne,←HJN.out];show((Lib.join ((dgLs d).map (·.data.toList)) [10]).toArray).size+1=_;simp
     have rj: ∀W,(Op.stringOp .add jn (⟨#[10]⟩:ByteArray)).run Tryz.prog W= .ok (.string (dgTx d)) W:=fun W=>by
      have e9:dgTx d=jn++(⟨#[10]⟩:ByteArray):=by
       rw [dgTx,if_pos HFF.out,←HJN.out,←De _ hne];apply ByteArray.ext;simp
      rw [e9];exact run_string_add_sum W _ _ (by have:(⟨#[10]⟩:ByteArray).size=1:=rfl;omega)
     go_wp2_with fail
     refine(Qeo _ HOW.out HKK.out hne (by omega) (by omega)).mono ?_;rintro e u9 ⟨rfl,hb⟩;rw [HJN.out];have K9:=hd (Qb KB.out hb);clear hb;go_wp2_with fail
     go_ret;exact⟨rfl,K9.out⟩
end Go.Proofs.YtdcokcbolecanaaGreatDoor
namespace Go.Proofs.YtdcokcbolecanaaGreatDoor
open Go.RowKit
theorem law_FnExactDagText (v:Value) (d:DG) (w:World) (h:DgRow w v d) (hk:DgOk d) (hg:GI w):Calls Tryz.prog 3 #[v] w fun e w'=>
  e= .returned (.bool true)∧Below w.heap.size w w':=by
 obtain⟨A,n,c,B,m,q,rfl⟩:=h.agg;have HR:Hid (DgRow w (.agg #[.int .i64 d.next,.slice A n c,.slice B m q]) d):=h;have HK:Hid (DgOk d):=hk;have HG:Hid (GI w):=hg;obtain⟨f,HFF⟩: ∃f:ByteArray,Hid (f=dgTx d):=⟨_,rfl⟩;have e1:(f.toList==f.toList)=true:=by simp
 clear h hk hg;go_enter Tryz.func3,Tryz.ntmps3;go_wp2_with fail
 obtain⟨X,HX⟩: ∃X,Hid (w.alloc (.cells #[.int .i64 d.next,.slice A n c,.slice B m q] 25)=X):=⟨_,rfl⟩;rw [HX.out];have c_0:X.cell? ⟨w.heap.size,0,none⟩=some (.int .i64 d.next):=by rw [←HX.out];go_simp
 have c_1:X.cell? ⟨w.heap.size,1,none⟩=some (.slice A n c):=by rw [←HX.out];go_simp
 have c_2:X.cell? ⟨w.heap.size,2,none⟩=some (.slice B m q):=by rw [←HX.out];go_simp
 have zX:w.heap.size<X.heap.size:=by rw [←HX.out];simp
 have KX:Hid (Below w.heap.size w X):=by rw [←HX.out];show Below _ _ _;go_grown
 clear HX;refine(Qi2 _ (HR.out.below KX.out) HK.out).mono ?_;rintro e u1 ⟨z,rfl,hz,hb⟩;replace c_0:=cy hb c_0;replace c_1:=cy hb c_1;replace c_2:=cy hb c_2;replace zX:w.heap.size<u1.heap.size:=Nat.lt_of_lt_of_le zX hb.size
 replace KX:=hd (Qb KX.out hb);clear hb;by_cases hneg:z<0
 ·go_wp2_with fail
  go_ret;exact⟨rfl,KX.out⟩
 have HL:Hid (DgLil d):=hz (by omega);clear hz;go_wp2_with fail
 refine(Qi1 _ (HR.out.below KX.out) HL.out).mono ?_;rintro e u2 ⟨v2,rfl,ho,hb⟩;have hr:=ho.row HK.out;obtain⟨A2,n2,c2,B2,m2,q2,rfl⟩:=hr.agg;have R1:Hid (DgRow u2 (.agg #[.int .i64 d.next,.slice A2 n2 c2,.slice B2 m2 q2]) d):=hr;replace c_0:=cy hb c_0;replace c_1:=cy hb c_1
 replace c_2:=cy hb c_2;replace zX:w.heap.size<u2.heap.size:=Nat.lt_of_lt_of_le zX hb.size;replace KX:=hd (Qb KX.out hb);clear hb hr ho;go_wp2_with fail
 refine(spec_DagText _ R1.out HK.out).mono ?_;rintro e u3 ⟨rfl,hb⟩;rw [←HFF.out];replace c_0:=cy hb c_0;replace c_1:=cy hb c_1;replace c_2:=cy hb c_2;replace zX:w.heap.size<u3.heap.size:=Nat.lt_of_lt_of_le zX hb.size
 replace KX:=hd (Qb KX.out hb);clear hb R1;go_wp2_with fail
 refine(Qi1 _ (HR.out.below KX.out) HL.out).mono ?_;rintro e u4 ⟨v4,rfl,ho,hb⟩;have hr:=ho.row HK.out;obtain⟨A4,n4,c4,B4,m4,q4,rfl⟩:=hr.agg;have R2:Hid (DgRow u4 (.agg #[.int .i64 d.next,.slice A4 n4 c4,.slice B4 m4 q4]) d):=hr;replace c_0:=cy hb c_0;replace c_1:=cy hb c_1
 replace c_2:=cy hb c_2;replace zX:w.heap.size<u4.heap.size:=Nat.lt_of_lt_of_le zX hb.size;replace KX:=hd (Qb KX.out hb);clear hb hr ho;go_wp2_with fail
 obtain⟨Y,HY⟩: ∃X,Hid (u4.alloc (.cells #[.int .i64 d.next,.slice A4 n4 c4,.slice B4 m4 q4] 31)=X):=⟨_,rfl⟩;rw [HY.out];have hb:Below u4.heap.size u4 Y:=by rw [←HY.out];go_grown
 have d_0:Y.cell? ⟨u4.heap.size,0,none⟩=some (.int .i64 d.next):=by rw [←HY.out];go_simp
 have d_1:Y.cell? ⟨u4.heap.size,1,none⟩=some (.slice A4 n4 c4):=by rw [←HY.out];go_simp
 have d_2:Y.cell? ⟨u4.heap.size,2,none⟩=some (.slice B4 m4 q4):=by rw [←HY.out];go_simp
 have zY:u4.heap.size<Y.heap.size:=by rw [←HY.out];simp
 replace c_0:=cy hb c_0;replace c_1:=cy hb c_1;replace c_2:=cy hb c_2;replace zX:w.heap.size<Y.heap.size:=Nat.lt_of_lt_of_le zX hb.size;replace KX:=hd (Qb KX.out hb);replace R2:=hd (R2.out.below hb);clear hb HY
 refine(impl_DagText _ R2.out HK.out HL.out (HG.out.below KX.out)).mono ?_;rintro e u5 ⟨rfl,hb⟩;rw [←HFF.out];replace c_0:=cy hb c_0;replace c_1:=cy hb c_1;replace c_2:=cy hb c_2;replace d_0:=cy hb d_0
 replace d_1:=cy hb d_1;replace d_2:=cy hb d_2;replace zX:w.heap.size<u5.heap.size:=Nat.lt_of_lt_of_le zX hb.size;replace zY:u4.heap.size<u5.heap.size:=Nat.lt_of_lt_of_le zY hb.size;replace KX:=hd (Qb KX.out hb);replace R2:=hd (R2.out.below hb);clear hb
 go_wp2_with fail
 go_region_held3 (fun w'=>(∀bq oq,bq<u5.heap.size→w'.cell? ⟨bq,oq,none⟩=u5.cell? ⟨bq,oq,none⟩)∧u5.heap.size≤w'.heap.size∧Below u5.heap.size u5 w')
  (exact Qk (Nat.le_refl _) (by go_grown))
  (first
  | (go_at_call 6;refine(Qi1 _ (HR.out.below (Qb KX.out (by go_grown))) HL.out).mono ?_;rintro e y1 ⟨v6,rfl,ho,hb⟩;have R3:Hid (DgRow y1 v6 d):=ho.row HK.out;obtain⟨hk1,hz1⟩:=Qe (B:=u5.heap.size) (X:=u5) (by go_grown) (by go_size) hb;clear hb ho)
  | (go_at_call 8;refine(Qi3 _ (R2.out.below hk1) R3.out).mono ?_;rintro e y2 ⟨rfl,hb⟩;obtain⟨hk2,hz2⟩:=Qe (B:=u5.heap.size) (X:=u5) hk1 hz1 hb;clear hb))
 all_goals
  go_wp2_with fail
  go_ret;exact⟨rfl,Qb KX.out (by go_grown)⟩
end Go.Proofs.YtdcokcbolecanaaGreatDoor
