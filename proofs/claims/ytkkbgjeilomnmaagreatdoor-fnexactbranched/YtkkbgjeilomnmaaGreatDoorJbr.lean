import Derived.Test.YtkkbgjeilomnmaaGreatDoorGzn
import Derived.Test.YtkkbgjeilomnmaaGreatDoorVsC
import Derived.Test.YtkkbgjeilomnmaaGreatDoorGzj
import Derived.Test.YtkkbgjeilomnmaaGreatDoorGzk
import Derived.Laws.AppendOwnNone
import Derived.WideShapes
import Derived.Test.YtkkbgjeilomnmaaGreatDoorMn
import Derived.Test.YtkkbgjeilomnmaaGreatDoorGaa
import Derived.Test.YtkkbgjeilomnmaaGreatDoorGzm
import Derived.Lib.Bytealg
import Derived.Sort.Statements
import Derived.Test.YtkkbgjeilomnmaaGreatDoorShelfB
import Derived.Shelf.SlSortCmp.WholeK
import Derived.Shelf.Small.Strs
set_option linter.unusedSimpArgs false
set_option linter.unusedVariables false
set_option maxHeartbeats 16000000
set_option maxRecDepth 100000
namespace Go.Proofs.YtkkbgjeilomnmaaGreatDoor
open Go.RowKit Go.Maps
def Rvh (L:List VR) (a y:Int):Prop:=a∈QS L∧ ∀P:Int→Prop,P a→(∀(x:VR) (u:Int),P x.id→x∈L→u∈x.ups→u∈QS L→P u)→P y
theorem Rvh.up {L:List VR} {a u:Int} {x:VR} (h:Rvh L a x.id) (hx:x∈L) (hu:u∈x.ups) (hm:u∈QS L):Rvh L a u:=⟨h.1,fun P h1 h2=>h2 x u (h.2 P h1 h2) hx hu hm⟩
theorem Rvh.ind {L:List VR} {a y:Int} (P:Int→Prop) (h:Rvh L a y) (h1:P a) (h2: ∀(x:VR) (u:Int),P x.id→x∈L→u∈x.ups→u∈QS L→P u):P y:=h.2 P h1 h2
theorem Rvh.mem {L:List VR} {a y:Int} (h:Rvh L a y):y∈QS L:=h.ind (fun y=>y∈QS L) h.1 (fun _ _ _ _ _ hm=>hm)
theorem Rvh.start {L:List VR} {a y:Int} (h:Rvh L a y):a∈QS L:=h.1
theorem Rvh.trans {L:List VR} {a b y:Int} (h:Rvh L a b) (h2:Rvh L b y):Rvh L a y:=h2.ind (fun y=>Rvh L a y) h (fun _ _ ih hx hu hm=>Rvh.up ih hx hu hm)
structure DgFacts (d:DG):Prop where
 asc:YK ltV d.vs=true
 lo: ∀x∈d.vs,1≤x.id
 hi: ∀x∈d.vs,x.id<d.next
 nx:d.next≤1000000000
 nv:d.vs.length≤40
 nb:d.bs.length≤8
 ups: ∀x∈d.vs,∀u∈x.ups,u∈QS d.vs
 two: ∀x∈d.vs,x.ups.length≤2
 hd: ∀x∈d.bs,x.h∈QS d.vs
theorem dag_facts {d:DG} (h:Xb d=true):DgFacts d:=by
 have hnx:d.next≤1000000000:=Classical.byContradiction fun h9=>by rw [Qdt (Or.inr (by omega))]at h;cases h
 have hasc:YK ltV d.vs=true:=by
  cases ha:YK ltV d.vs with
  | true=>rfl
  | false=>rw [Yq (VX ha)]at h;cases h
 refine⟨hasc,?_,?_,hnx,?_,?_,?_,?_,?_⟩
 ·intro x hx;obtain⟨t,ht,rfl⟩:=List.mem_iff_getElem.1 hx;exact Classical.byContradiction fun h9=>by rw [Qka (List.getElem?_eq_getElem ht) (Or.inl (by omega))]at h;cases h
 ·intro x hx;obtain⟨t,ht,rfl⟩:=List.mem_iff_getElem.1 hx;exact Classical.byContradiction fun h9=>by rw [Qka (List.getElem?_eq_getElem ht) (Or.inr (by omega))]at h;cases h
 ·exact Classical.byContradiction fun h9=>by rw [Dj (Or.inr (by omega))]at h;cases h
 ·exact Classical.byContradiction fun h9=>by rw [Dk (Or.inr (by omega))]at h;cases h
 ·intro x hx u hu;obtain⟨t,ht,rfl⟩:=List.mem_iff_getElem.1 hx;obtain⟨k,hk,rfl⟩:=List.mem_iff_getElem.1 hu;exact Classical.byContradiction fun h9=>by rw [Qey (List.getElem?_eq_getElem ht) (List.getElem?_eq_getElem hk) (Or.inr h9)]at h;cases h
 ·intro x hx;obtain⟨t,ht,rfl⟩:=List.mem_iff_getElem.1 hx;exact Classical.byContradiction fun h9=>by rw [Ez (List.getElem?_eq_getElem ht) (by omega)]at h;cases h
 ·intro x hx;obtain⟨t,ht,rfl⟩:=List.mem_iff_getElem.1 hx;exact Classical.byContradiction fun h9=>by rw [Qez (List.getElem?_eq_getElem ht) (Or.inr h9)]at h;cases h
theorem ids_mem {L:List VR} {a:Int} (h:a∈QS L): ∃x,x∈L∧x.id=a:=by
 obtain⟨x,hx,e⟩:=List.mem_map.1 h;exact⟨x,hx,e⟩
theorem mem_ids {L:List VR} {x:VR} (h:x∈L):x.id∈QS L:=List.mem_map.2 ⟨x,h,rfl⟩
structure Fd (L:List VR) (l xs l':List Int):Prop where
 sub: ∀y∈l,y∈l'
 got: ∀x∈xs,x∈QS L→x∈l'
 new: ∀y∈l',y∈l∨((∃x∈xs,Rvh L x y)∧ ∀v∈L,v.id=y→ ∀u∈v.ups,u∈QS L→u∈l')
theorem Fd.nil (L:List VR) (l:List Int):Fd L l [] l:=⟨fun _ h=>h,fun _ h=>absurd h (by simp),fun _ h=>Or.inl h⟩
theorem Fd.all {L:List VR} {xs l':List Int} (h:Fd L [] xs l') (y:Int):y∈l'↔ ∃x∈xs,Rvh L x y:=by
 constructor
 ·intro hy;rcases h.new y hy with h1 | ⟨h1,_⟩
  ·cases h1
  ·exact h1
 ·rintro⟨x,hx,hr⟩;refine hr.ind (fun y=>y∈l') (h.got x hx hr.start) (fun v u ih hv hu hm=> ?_);rcases h.new v.id ih with h1 | ⟨_,h2⟩
  ·cases h1
  ·exact h2 v hv rfl u hu hm
def outL (S:List Int) (L:List VR):List Int:=(QS L).filter fun y=>decide (y∈S)
theorem outL_mem {S:List Int} {L:List VR} {y:Int}:y∈outL S L↔y∈QS L∧y∈S:=by
 unfold outL;rw [List.mem_filter,decide_eq_true_eq]
def IsAb (L:List VR) (a:Int) (ls:List Int):Prop:= ∃S:List Int,(∀y,y∈S↔Rvh L a y)∧ls=outL S L
theorem IsAb.mem {L:List VR} {a y:Int} {ls:List Int} (h:IsAb L a ls):y∈ls↔Rvh L a y:=by
 obtain⟨S,hS,rfl⟩:=h;rw [outL_mem,hS];exact⟨fun h=>h.2,fun h=>⟨h.mem,h⟩⟩
theorem IsAb.nil {L:List VR} {a:Int} {ls:List Int} (h:IsAb L a ls) (ha:a∉QS L):ls= []:=by
 refine List.eq_nil_iff_forall_not_mem.2 fun y hy=> ?_;exact ha (h.mem.1 hy).start
def FindI (L:List VR) (id r:Int):Prop:=(r= -1∧id∉QS L)∨ ∃(k:Nat) (x:VR),r=(k:Int)∧L[k]? =some x∧x.id=id
theorem FindI.neg {L:List VR} {id r:Int} (h:FindI L id r) (hr:r<0):id∉QS L:=by
 rcases h with⟨_,h⟩ | ⟨k,x,rfl,_⟩
 ·exact h
 ·omega
theorem FindI.pos {L:List VR} {id r:Int} (h:FindI L id r) (hr: ¬r<0):id∈QS L:=by
 rcases h with⟨rfl,h⟩ | ⟨k,x,rfl,hx,rfl⟩
 ·omega
 ·exact mem_ids (List.mem_of_getElem? hx)
theorem FindI.at {L:List VR} {id r:Int} (h:FindI L id r) (hm:id∈QS L): ∃(k:Nat) (x:VR),r=(k:Int)∧L[k]? =some x∧x.id=id:=by
 rcases h with⟨_,h⟩ | h
 ·exact absurd hm h
 ·exact h
theorem spec_l10FindX {v:Value} {d:DG} (id:Int) (w:World) (h:DgRow w v d):
  Calls Tryz.prog 43 #[v,.int .i64 id] w fun e w'=> ∃r:Int,e= .returned (.int .i64 r)∧FindI d.vs id r∧Below w.heap.size w w':=by
 obtain⟨A1,n1,c1,A2,n2,c2,rfl⟩:=h.agg;obtain⟨r1,e1,r2,e2⟩:=h.open;have R1:Hid (VrRow w A1 d.vs):=r1;have E1:Hid (d.vs.length=n1):=e1;have hn:=r1.1;rw [e1]at hn;unfold maxLen at hn
 clear h r1 r2 e1 e2;go_enter Tryz.func43,Tryz.ntmps43;go_wp2_with fail
 obtain⟨X,HX⟩: ∃X,Hid (w.alloc (.cells #[.int .i64 d.next,.slice A1 n1 c1,.slice A2 n2 c2] 32)=X):=⟨_,rfl⟩;rw [HX.out];have x1:X.cell? ⟨w.heap.size,1,none⟩=some (.slice A1 n1 c1):=by rw [←HX.out];go_simp
 have zX:w.heap.size<X.heap.size:=by rw [←HX.out];simp
 have hbX:Below w.heap.size w X:=by rw [←HX.out];go_grown
 clear HX;go_loopw [5] (fun i wr=> ∃k:Nat,k≤n1∧i= .int .i64 k∧(∀(t:Nat) x,t<k→d.vs[t]? =some x→x.id≠id)∧Below X.heap.size X wr) (fun i _=>n1-(intOf i).toNat)
 case atStart=>exact⟨0,Nat.zero_le _,rfl,fun t x ht=>by omega,Below.refl _ _⟩
 case round=>
  obtain⟨k,hk,rfl,hall,hbel⟩:=hrel;have HA:Hid (∀(t:Nat) x,t<k→d.vs[t]? =some x→x.id≠id):=hall;have KX:=hd (Qb hbX hbel);have KB:Hid (Below X.heap.size X wr):=hbel;have y1:wr.cell? ⟨w.heap.size,1,none⟩=some (.slice A1 n1 c1):=cy hbel x1;have zw:w.heap.size<wr.heap.size:=Nat.lt_of_lt_of_le zX hbel.size;clear hall hbel
  by_cases hlt:k<n1
  ·obtain⟨x,hx⟩:=ZD E1.out hlt;have HX:Hid (d.vs[k]? =some x):=hx;obtain⟨b,o,u,uc,s,sc,rfl,hl,c0,_,_,_,_⟩:=R1.out.2 k x hx;rw [←KX.out.cell (p:=⟨_,_,none⟩) hl]at c0;have hl2:b<wr.heap.size:=Nat.lt_of_lt_of_le hl KX.out.size;have h0:(0:Int)≤(k:Int):=by omega
   have h1:(k:Int)<(n1:Int):=by omega
   clear hx;by_cases he:x.id=id
   ·go_wp2_with fail
    go_ret;exact⟨_,rfl,Or.inr ⟨k,x,rfl,HX.out,he⟩,KX.out⟩
   ·have he2:(x.id==id)=false:=by simpa using he
    go_wp2_with fail
    go_roundw
    case rel=>exact⟨k+1,by omega,by go_num,fun t y ht hy=>by
     by_cases e:t=k
     ·subst e;rw [HX.out]at hy;cases hy;exact he
     ·exact HA.out t y (by omega) hy,KB.out⟩
    case measure=>simp [intOf];omega
  ·have h1: ¬(k:Int)<(n1:Int):=by omega
   go_wp2_with fail
   go_ret
   exact⟨_,rfl,Or.inl ⟨rfl,fun hm=>by
    obtain⟨x,hx,he⟩:=List.mem_map.1 hm;obtain⟨t,ht,rfl⟩:=List.mem_iff_getElem.1 hx
    exact HA.out t _ (by have:=E1.out;omega) (List.getElem?_eq_getElem ht) he⟩,KX.out⟩
section
variable {ops:Array Oper} {rest:List Oper} {o:Oper} {a:Act} {Q:Exit→Act→World→Prop}
end
def VBox (W:World) (B g:Nat) (i:Int) (u:Option Addr) (n c:Nat) (s:Option Addr) (m k:Nat):Prop:=W.ownsRow B 89 3 (.slice (some ⟨g,0,none⟩) 1 1) 1 [.int .i64 i,.slice u n c,.slice s m k]
theorem VBox.lit {W:World} {B:Nat} (hB:B≤W.heap.size) (i:Int) (u:Option Addr) (n c:Nat) (s:Option Addr) (m k:Nat):VBox (W.alloc (.cells #[.int .i64 i,.slice u n c,.slice s m k] 89)) B W.heap.size i u n c s m k:=World.ownsRow_lit W _ 1 hB (by unfold maxLen;omega) rfl
theorem VBox.put {W:World} {B g:Nat} {i:Int} {u:Option Addr} {n c:Nat} {s:Option Addr} {m k:Nat} (h:VBox W B g i u n c s m k) (i':Int) (u':Option Addr) (n' c':Nat) (s':Option Addr) (m' k':Nat):
  VBox (((W.setCell ⟨g,0,none⟩ (.int .i64 i')).setCell ⟨g,1,none⟩ (.slice u' n' c')).setCell ⟨g,2,none⟩ (.slice s' m' k')) B g i' u' n' c' s' m' k':=by
 have:=(MR [.int .i64 i',.slice u' n' c',.slice s' m' k'] W 0 _ h).1;simpa [Ua,Kp,VBox]using this
theorem VBox.below {W W':World} {B g:Nat} {i:Int} {u:Option Addr} {n c:Nat} {s:Option Addr} {m k:Nat} (h:VBox W B g i u n c s m k) (hb:Below W.heap.size W W'):VBox W' B g i u n c s m k:=Ql h hb
theorem VBox.ups {W:World} {B g:Nat} {i:Int} {u:Option Addr} {n c:Nat} {s:Option Addr} {m k:Nat} (h:VBox W B g i u n c s m k):W.cell? ⟨g,1,none⟩=some (.slice u n c)∧g<W.heap.size:=by
 obtain⟨A,cap,e,_,hc⟩:=Qo h;obtain⟨g',e',_,hl,c1,_⟩:=hc 1 (by omega);cases e;cases e'
 exact⟨c1,hl⟩
def headF (L:List BR) (s:ByteArray):Int:=match L.find? (fun x=>decide (x.n=s))with | some x=>x.h | none=>0
theorem headF_at {L:List BR} {s:ByteArray} {k:Nat} {x:BR} (hx:L[k]? =some x) (he:x.n=s) (h: ∀(t:Nat) y,t<k→L[t]? =some y→y.n≠s):headF L s=x.h:=by
 have e:L.find? (fun x=>decide (x.n=s))=some x:=by
  obtain⟨hk,hx2⟩:=List.getElem?_eq_some_iff.1 hx;refine List.find?_eq_some_iff_getElem.2 ⟨by simpa using he,k,hk,hx2,fun j hj=> ?_⟩;have:=h j (L[j]'(by omega)) hj (List.getElem?_eq_getElem (by omega));simpa using this
 rw [headF,e]
theorem headF_no {L:List BR} {s:ByteArray} (h: ∀(t:Nat) y,t<L.length→L[t]? =some y→y.n≠s):headF L s=0:=by
 have e:L.find? (fun x=>decide (x.n=s))=none:=by
  rw [List.find?_eq_none];intro x hx;obtain⟨t,ht,rfl⟩:=List.mem_iff_getElem.1 hx;simpa using h t _ ht (List.getElem?_eq_getElem ht)
 rw [headF,e]
theorem spec_l10Head {v:Value} {d:DG} (s:ByteArray) (w:World) (h:DgRow w v d) (hx:DgOk d):
  Calls Tryz.prog 25 #[v,.string s] w fun e w'=>e= .returned (.int .i64 (headF d.bs s))∧Below w.heap.size w w':=by
 obtain⟨A1,n1,c1,A2,n2,c2,rfl⟩:=h.agg;obtain⟨r1,e1,r2,e2⟩:=h.open;have R1:Hid (ZT w A2 d.bs):=r2;have E1:Hid (d.bs.length=n2):=e2;have hn:=r2.1;rw [e2]at hn;unfold maxLen at hn
 clear h r1 r2 e1 e2;go_enter Tryz.func25,Tryz.ntmps25;go_wp2_with fail
 obtain⟨X,HX⟩: ∃X,Hid (w.alloc (.cells #[.int .i64 d.next,.slice A1 n1 c1,.slice A2 n2 c2] 32)=X):=⟨_,rfl⟩;rw [HX.out];have x1:X.cell? ⟨w.heap.size,2,none⟩=some (.slice A2 n2 c2):=by rw [←HX.out];go_simp
 have zX:w.heap.size<X.heap.size:=by rw [←HX.out];simp
 have hbX:Below w.heap.size w X:=by rw [←HX.out];go_grown
 clear HX;go_loopw [5] (fun i wr=> ∃k:Nat,k≤n2∧i= .int .i64 k∧(∀(t:Nat) x,t<k→d.bs[t]? =some x→x.n≠s)∧Below X.heap.size X wr) (fun i _=>n2-(intOf i).toNat)
 case atStart=>exact⟨0,Nat.zero_le _,rfl,fun t x ht=>by omega,Below.refl _ _⟩
 case round=>
  obtain⟨k,hk,rfl,hall,hbel⟩:=hrel;have HA:Hid (∀(t:Nat) x,t<k→d.bs[t]? =some x→x.n≠s):=hall;have KX:=hd (Qb hbX hbel);have KB:Hid (Below X.heap.size X wr):=hbel;have y1:wr.cell? ⟨w.heap.size,2,none⟩=some (.slice A2 n2 c2):=cy hbel x1;have zw:w.heap.size<wr.heap.size:=Nat.lt_of_lt_of_le zX hbel.size;clear hall hbel
  by_cases hlt:k<n2
  ·obtain⟨x,hx⟩:=ZD E1.out hlt;have HX:Hid (d.bs[k]? =some x):=hx;obtain⟨b,o,rfl,hl,hc⟩:=R1.out.2 k x hx;have c0:w.cell? ⟨b,o+k*2,none⟩=some (.string x.n):=hc 0 _ rfl;have c1:w.cell? ⟨b,o+k*2+1,none⟩=some (.int .i64 x.h):=hc 1 _ rfl;rw [←KX.out.cell (p:=⟨_,_,none⟩) hl]at c0 c1;have hl2:b<wr.heap.size:=Nat.lt_of_lt_of_le hl KX.out.size
   have h0:(0:Int)≤(k:Int):=by omega
   have h1:(k:Int)<(n2:Int):=by omega
   clear hx hc;by_cases he:x.n=s
   ·have he2:=XA he;go_wp2_with fail
    go_ret;exact⟨Qt (headF_at HX.out he HA.out).symm,KX.out⟩
   ·have he2:=Qr he;go_wp2_with fail
    go_roundw
    case rel=>exact⟨k+1,by omega,by go_num,fun t y ht hy=>by
     by_cases e:t=k
     ·subst e;rw [HX.out]at hy;cases hy;exact he
     ·exact HA.out t y (by omega) hy,KB.out⟩
    case measure=>simp [intOf];omega
  ·have h1: ¬(k:Int)<(n2:Int):=by omega
   go_wp2_with fail
   go_ret;exact⟨Qt (headF_no fun t y ht hy=>HA.out t y (by have:=E1.out;omega) hy).symm,KX.out⟩
theorem impl_head {v:Value} {d:DG} (s:ByteArray) (w:World) (h:DgRow w v d) (hx:DgOk d):
  Calls Tryz.prog 59 #[v,.string s] w fun e w'=>e= .returned (.int .i64 (headF d.bs s))∧Below w.heap.size w w':=by
 obtain⟨A1,n1,c1,A2,n2,c2,rfl⟩:=h.agg;obtain⟨r1,e1,r2,e2⟩:=h.open;have R1:Hid (ZT w A2 d.bs):=r2;have E1:Hid (d.bs.length=n2):=e2;have hn:=r2.1;rw [e2]at hn;unfold maxLen at hn
 clear h r1 r2 e1 e2;go_enter Tryz.func59,Tryz.ntmps59;go_wp2_with fail
 go_loopw [10] (fun i wr=> ∃k:Nat,k≤n2∧i= .int .i64 k∧(∀(t:Nat) x,t<k→d.bs[t]? =some x→x.n≠s)∧Below w.heap.size w wr) (fun i _=>n2-(intOf i).toNat)
 case atStart=>exact⟨0,Nat.zero_le _,rfl,fun t x ht=>by omega,by go_grown⟩
 case round=>
  obtain⟨k,hk,rfl,hall,hbel⟩:=hrel;have HA:Hid (∀(t:Nat) x,t<k→d.bs[t]? =some x→x.n≠s):=hall;have KX:Hid (Below w.heap.size w wr):=hbel;clear hall hbel;by_cases hlt:k<n2
  ·obtain⟨x,hx⟩:=ZD E1.out hlt;have HX:Hid (d.bs[k]? =some x):=hx;obtain⟨b,o,rfl,hl,hc⟩:=R1.out.2 k x hx;have c0:w.cell? ⟨b,o+k*2,none⟩=some (.string x.n):=hc 0 _ rfl;have c1:w.cell? ⟨b,o+k*2+1,none⟩=some (.int .i64 x.h):=hc 1 _ rfl;rw [←KX.out.cell (p:=⟨_,_,none⟩) hl]at c0 c1;have hl2:b<wr.heap.size:=Nat.lt_of_lt_of_le hl KX.out.size
   have h0:(0:Int)≤(k:Int):=by omega
   have h1:(k:Int)<(n2:Int):=by omega
   have KA:Hid (Below w.heap.size w (wr.alloc (.cells #[.string x.n,.int .i64 x.h] 79))):=KX.out.alloc KX.out.size _;clear hx hc;by_cases he:x.n=s
   ·have he2:=XA he;go_wp2_with fail
    go_ret;exact⟨Qt (headF_at HX.out he HA.out).symm,KX.out.alloc KX.out.size _⟩
   ·have he2:=Qr he;go_wp2_with fail
    go_roundw
    case rel=>exact⟨k+1,by omega,by go_num,fun t y ht hy=>by
     by_cases e:t=k
     ·subst e;rw [HX.out]at hy;cases hy;exact he
     ·exact HA.out t y (by omega) hy,KA.out⟩
    case measure=>simp [intOf];omega
  ·have h1: ¬(k:Int)<(n2:Int):=by omega
   go_wp2_with fail
   go_ret;exact⟨Qt (headF_no fun t y ht hy=>HA.out t y (by have:=E1.out;omega) hy).symm,KX.out⟩
def itMk (k:Int) (n:Nat):List Int:=(List.range n).map fun(i:Nat)=>k+(i:Int)
theorem itMk_len (k:Int) (n:Nat):(itMk k n).length=n:=by simp [itMk]
theorem itMk_at (k:Int) {n t:Nat} (h:t<n):(itMk k n)[t]? =some (k+(t:Int)):=by simp [itMk,h]
theorem laws_markInt64S {B n:Nat} {v:Value} {xs:List Value} (k:Int) (w:World) (h:w.ownsRow B 2 1 v n xs) (hn:n≤1048576) (h0:0≤k) (h1:k≤1099511627776000):
  Calls Tryz.prog 67 #[v,.int .i64 k] w fun e w'=>e= .returned (.int .i64 (k+(n:Int)))∧w'.ownsRow B 2 1 v n ((itMk k n).map (Value.int .i64))∧w.grownBy w' v.ownBlock:=by
 have HO:Hid (w.ownsRow B 2 1 v n xs):=h;obtain⟨A,cap,rfl,_,_⟩:=Qo h;clear h;obtain⟨LL,HLL⟩: ∃LL,Hid ((itMk k n).map (Value.int .i64)=LL):=⟨_,rfl⟩;have HLA:Hid (∀t:Nat,t<n→LL[t]? =some (.int .i64 (k+(t:Int)))):=fun t ht=>by rw [←HLL.out,List.getElem?_map,itMk_at k ht];rfl
 have HLN:Hid (LL.length=n):=by show _=_;rw [←HLL.out,List.length_map,itMk_len]
 rw [HLL.out];go_enter Tryz.func67,Tryz.ntmps67;go_wp2_with fail
 go_loopw [1,5] (fun q i wr=> ∃t:Nat,t≤n∧i= .int .i64 t∧q= .int .i64 (k+(t:Int))∧(∃ys,wr.ownsRow B 2 1 (.slice A n cap) n ys∧ ∀j,j<t→ys[j]? =LL[j]?)∧w.grownBy wr (Value.slice A n cap).ownBlock) (fun _ i _=>n-(intOf i).toNat)
 case atStart=>exact⟨0,Nat.zero_le _,rfl,by simp,⟨xs,HO.out,fun j hj=>by omega⟩,World.grownBy.refl _ _⟩
 case round=>
  clear HO;obtain⟨t,ht,rfl,rfl,⟨ys,hown,hys⟩,hgr⟩:=hrel;by_cases hlt:t<n
  ·obtain⟨A',cap',e,_,hc⟩:=Qo hown;cases e
   have hl:=hown.1;obtain⟨g,rfl,_,hg,d0,f0⟩:=hc t (by omega);obtain⟨z,hz⟩: ∃z,ys[t]? =some z:=⟨_,List.getElem?_eq_getElem (by omega)⟩;rw [hz]at d0
   have HT:Hid (∃zs,(wr.setCell ⟨g,t,none⟩ (.int .i64 (k+(t:Int)))).ownsRow B 2 1 (.slice (some ⟨g,0,none⟩) n cap) n zs∧(∀j,j<t+1→zs[j]? =LL[j]?)∧wr.grownBy (wr.setCell ⟨g,t,none⟩ (.int .i64 (k+(t:Int)))) (some g)):=by
    refine⟨_,(hown.stored t (.int .i64 (k+(t:Int)))).1,fun j hj=> ?_,(hown.stored t (.int .i64 (k+(t:Int)))).2⟩;by_cases e:j=t
    ·subst e;rw [List.getElem?_set_self (by omega),HLA.out j hlt]
    ·rw [List.getElem?_set_ne (by omega)];exact hys j (by omega)
   have HG:Hid (w.grownBy wr (some g)):=hgr;clear hgr hown hys hz hc hl;have q0:(0:Int)≤(t:Int):=by omega
   have q1:(t:Int)<(n:Int):=by omega
   go_wp2_with fail
   all_goals
    go_roundw
    case rel=>
     obtain⟨zs,z1,z2,z3⟩:=HT.out;exact⟨t+1,by omega,by simp,by first | rfl | (congr 1;omega),⟨zs,z1,z2⟩,XV HG.out z3⟩
    case measure=>simp [intOf];omega
  ·have h1: ¬(t:Int)<(n:Int):=by omega
   obtain rfl:t=n:=by omega
   have HE:Hid (ys=LL):=Em (n:=t) (by have:=hown.1;omega) HLN.out hys;rw [HE.out]at hown;go_wp2_with fail
   go_ret;exact⟨rfl,hown,hgr⟩
theorem laws_heldInt64S {A:Option Addr} {n cap:Nat} (k:Int) (w:World) (h:IntRow w A (itMk k n)) (hn:n≤1048576) (h0:0≤k) (h1:k≤1099511627776000):
  Calls Tryz.prog 68 #[.slice A n cap,.int .i64 k] w fun e w'=>e= .returned (.int .i64 (k+(n:Int)))∧w'=w:=by
 have HR:Hid (IntRow w A (itMk k n)):=h;clear h;go_enter Tryz.func68,Tryz.ntmps68;go_wp2_with fail
 go_loopw [1,5] (fun q i wr=> ∃t:Nat,t≤n∧i= .int .i64 t∧q= .int .i64 (k+(t:Int))∧wr=w) (fun _ i _=>n-(intOf i).toNat)
 case atStart=>exact⟨0,Nat.zero_le _,rfl,by simp,rfl⟩
 case round=>
  obtain⟨t,ht,rfl,rfl,hw⟩:=hrel;subst hw;by_cases hlt:t<n
  ·obtain⟨b,o,rfl,hl,hc⟩:=HR.out.2 t (by rw [itMk_len];exact hlt);have e0:(itMk k n).getD t 0=k+(t:Int):=by rw [List.getD_eq_getElem?_getD,itMk_at k hlt];rfl
   rw [e0]at hc;clear e0;have q0:(0:Int)≤(t:Int):=by omega
   have q1:(t:Int)<(n:Int):=by omega
   go_wp2_with fail
   go_roundw
   case rel=>exact⟨t+1,by omega,by simp,by first | rfl | (congr 1;omega),by trivial⟩
   case measure=>simp [intOf];omega
  ·have h1: ¬(t:Int)<(n:Int):=by omega
   obtain rfl:t=n:=by omega
   go_wp2_with fail
   go_ret;exact⟨rfl,rfl⟩
end Go.Proofs.YtkkbgjeilomnmaaGreatDoor
namespace Go.Proofs.YtkkbgjeilomnmaaGreatDoor
open Go.RowKit
structure CE where
 c:Int
 r:Int
 s:ByteArray
def ceL (x:CE):List Value:= [.int .i64 x.c,.int .i64 x.r,.string x.s]
theorem ceL_len (x:CE):(ceL x).length=3:=rfl
abbrev CeRow (W:World) (A:Option Addr) (L:List CE):Prop:=RowAt 3 ceL W A L
def ceMk (k:Int):CE:=⟨k,(k+1),mtx (k+1+1)⟩
theorem laws_markCellS {B n:Nat} {v:Value} {xs:List Value} (k0:Int) (w:World) (h:w.ownsRow B 67 3 v n xs) (hn:n≤1048576) (hk0:0<k0) (hk1:k0≤70368744177664):
  Calls Tryz.prog 15 #[v,.int .i64 k0] w fun e w'=>e= .returned (.int .i64 (k0+(n:Int)*3))∧w'.ownsRow B 67 3 v n (Jf ceL (mkL ceMk 3 k0 n))∧w.grownBy w' v.ownBlock:=by
 have HO:Hid (w.ownsRow B 67 3 v n xs):=h;obtain⟨A,cap,rfl,_,_⟩:=Qo h;clear h;obtain⟨LL,HLL⟩: ∃LL,Hid (mkL ceMk 3 k0 n=LL):=⟨_,rfl⟩;rw [HLL.out];go_enter Tryz.func15,Tryz.ntmps15;go_wp2_with fail
 go_loopw [1,5] (fun q i wr=> ∃t:Nat,t≤n∧i= .int .i64 t∧q= .int .i64 (k0+(t:Int)*3)∧(∃ys,wr.ownsRow B 67 3 (.slice A n cap) n ys∧ ∀j,j<t*3→ys[j]? =(Jf ceL LL)[j]?)∧w.grownBy wr (Value.slice A n cap).ownBlock) (fun _ i _=>n-(intOf i).toNat)
 case atStart=>exact⟨0,Nat.zero_le _,rfl,by simp,⟨xs,HO.out,fun j hj=>by omega⟩,World.grownBy.refl _ _⟩
 case round=>
  clear HO;obtain⟨t,ht,rfl,rfl,⟨ys,hown,hys⟩,hgr⟩:=hrel;by_cases hlt:t<n
  ·obtain⟨k,HK⟩: ∃k:Int,Hid (k0+(t:Int)*3=k):=⟨_,rfl⟩;have hp0:0<k:=by have:=HK.out;omega
   have hp1:k≤70378744177664:=by have:=HK.out;omega
   have HX:Hid (∀j,j<3→(Jf ceL LL)[t*3+j]? =(ceL (ceMk k))[j]?):=fun j hj=>by
    rw [←HLL.out,Nb ceL_len j hj,mkL_at _ _ _ _ _ hlt,←HK.out];rfl
   rw [HK.out]
   obtain⟨g,rfl⟩: ∃g,A=some ⟨g,0,none⟩:=by
    obtain⟨A',cap',e,_,hc⟩:=Qo hown;cases e
    obtain⟨g,e,_⟩:=hc (t*3) (by omega);exact⟨g,e⟩
   have HA0:Hid (∃ys,wr.ownsRow B 67 3 (.slice (some ⟨g,0,none⟩) n cap) n ys∧(∀j,j<t*3→ys[j]? =(Jf ceL LL)[j]?)∧w.grownBy wr (some g)):=⟨ys,hown,hys,hgr⟩;clear hown hys hgr;have q0:(0:Int)≤(t:Int):=by omega
   have q1:(t:Int)<(n:Int):=by omega
   obtain⟨ys0,o0,p0,r0⟩:=HA0.out;obtain⟨A',cap',e,_,hc⟩:=Qo o0;cases e
   obtain⟨gg,e0,_,hg0,d0,f0⟩:=hc (t*3) (by omega);cases e0
   clear hc;have hl:=o0.1;obtain⟨x0,y0⟩: ∃x,ys0[t*3]? =some x:=⟨_,List.getElem?_eq_getElem (by omega)⟩;rw [y0]at d0;clear y0 hl
   have HP0:Hid (∃ys,((wr.setCell ⟨g,t*3,none⟩ (.int .i64 (k)))).ownsRow B 67 3 (.slice (some ⟨g,0,none⟩) n cap) n ys∧(∀j,j<t*3+1→ys[j]? =(Jf ceL LL)[j]?)∧w.grownBy ((wr.setCell ⟨g,t*3,none⟩ (.int .i64 (k)))) (some g)):=by
    obtain⟨oq,gq⟩:=o0.stored (t*3) (.int .i64 (k));refine⟨_,oq,fun j hj=> ?_,XV r0 gq⟩;by_cases e:t*3=j
    ·subst e;rw [List.getElem?_set_self (by have:=o0.1;omega)];exact(HX.out 0 (by omega)).symm
    ·rw [List.getElem?_set_ne e];exact p0 j (by omega)
   clear o0 p0 r0;clear HA0;obtain⟨ys1,o1,p1,r1⟩:=HP0.out;obtain⟨A',cap',e,_,hc⟩:=Qo o1;cases e
   obtain⟨gg,e1,_,hg1,d1,f1⟩:=hc (t*3+1) (by omega);cases e1
   clear hc;have hl:=o1.1;obtain⟨x1,y1⟩: ∃x,ys1[t*3+1]? =some x:=⟨_,List.getElem?_eq_getElem (by omega)⟩;rw [y1]at d1;clear y1 hl
   have HP1:Hid (∃ys,(((wr.setCell ⟨g,t*3,none⟩ (.int .i64 (k))).setCell ⟨g,t*3+1,none⟩ (.int .i64 (k+1)))).ownsRow B 67 3 (.slice (some ⟨g,0,none⟩) n cap) n ys∧(∀j,j<t*3+2→ys[j]? =(Jf ceL LL)[j]?)∧w.grownBy (((wr.setCell ⟨g,t*3,none⟩ (.int .i64 (k))).setCell ⟨g,t*3+1,none⟩ (.int .i64 (k+1)))) (some g)):=by
    obtain⟨oq,gq⟩:=o1.stored (t*3+1) (.int .i64 (k+1));refine⟨_,oq,fun j hj=> ?_,XV r1 gq⟩;by_cases e:t*3+1=j
    ·subst e;rw [List.getElem?_set_self (by have:=o1.1;omega)];exact(HX.out 1 (by omega)).symm
    ·rw [List.getElem?_set_ne e];exact p1 j (by omega)
   clear o1 p1 r1;clear HP0;go_wp2_with fail
   refine(Qbo _ _ (by omega) (by omega)).mono ?_;rintro e w2 ⟨rfl,hb⟩
   have HB2:Hid (∃ys,w2.ownsRow B 67 3 (.slice (some ⟨g,0,none⟩) n cap) n ys∧(∀j,j<t*3+2→ys[j]? =(Jf ceL LL)[j]?)∧w.grownBy w2 (some g)):=by
    obtain⟨z,o1,p1,g1⟩:=HP1.out;exact⟨z,Ql o1 hb,p1,XV g1 (Qh8 _ hb)⟩
   clear hb HP1 d0 f0 d1 f1;obtain⟨ys2,o2,p2,r2⟩:=HB2.out;obtain⟨A',cap',e,_,hc⟩:=Qo o2;cases e
   obtain⟨gg,e2,_,hg2,d2,f2⟩:=hc (t*3+2) (by omega);cases e2
   clear hc;have hl:=o2.1;obtain⟨x2,y2⟩: ∃x,ys2[t*3+2]? =some x:=⟨_,List.getElem?_eq_getElem (by omega)⟩;rw [y2]at d2;clear y2 hl
   have HP2:Hid (∃ys,((w2.setCell ⟨g,t*3+2,none⟩ (.string (mtx (k+1+1))))).ownsRow B 67 3 (.slice (some ⟨g,0,none⟩) n cap) n ys∧(∀j,j<t*3+3→ys[j]? =(Jf ceL LL)[j]?)∧w.grownBy ((w2.setCell ⟨g,t*3+2,none⟩ (.string (mtx (k+1+1))))) (some g)):=by
    obtain⟨oq,gq⟩:=o2.stored (t*3+2) (.string (mtx (k+1+1)));refine⟨_,oq,fun j hj=> ?_,XV r2 gq⟩;by_cases e:t*3+2=j
    ·subst e;rw [List.getElem?_set_self (by have:=o2.1;omega)];exact(HX.out 2 (by omega)).symm
    ·rw [List.getElem?_set_ne e];exact p2 j (by omega)
   clear o2 p2 r2;clear HB2;go_wp2_with fail
   all_goals
    go_roundw
    case rel=>
     obtain⟨z,o1,p1,g1⟩:=HP2.out;exact⟨t+1,by omega,by simp,by have:=HK.out;congr 1;omega,⟨z,o1,fun j hj=>p1 j (by omega)⟩,g1⟩
    case measure=>simp [intOf];omega
  ·have h1: ¬(t:Int)<(n:Int):=by omega
   obtain rfl:t=n:=by omega
   go_wp2_with fail
   go_ret;exact⟨rfl,by rw [Qhq ceL_len hown.1 (by rw [←HLL.out];exact Ql6 _ _ _ _) hys]at hown;exact hown,hgr⟩
theorem laws_heldCellS {A:Option Addr} {n cap:Nat} (k0:Int) (w:World) (h:CeRow w A (mkL ceMk 3 k0 n)) (hn:n≤1048576) (hk0:0<k0) (hk1:k0≤70368744177664):
  Calls Tryz.prog 69 #[.slice A n cap,.int .i64 k0] w fun e w'=>e= .returned (.int .i64 (k0+(n:Int)*3))∧Below w.heap.size w w':=by
 have HR:Hid (CeRow w A (mkL ceMk 3 k0 n)):=h;clear h;go_enter Tryz.func69,Tryz.ntmps69;go_wp2_with fail
 go_loopw [1,5] (fun q i wr=> ∃t:Nat,t≤n∧i= .int .i64 t∧q= .int .i64 (k0+(t:Int)*3)∧Below w.heap.size w wr) (fun _ i _=>n-(intOf i).toNat)
 case atStart=>exact⟨0,Nat.zero_le _,rfl,by simp,Below.refl _ _⟩
 case round=>
  obtain⟨t,ht,rfl,rfl,hbel⟩:=hrel;by_cases hlt:t<n
  ·obtain⟨k,HK⟩: ∃k:Int,Hid (k0+(t:Int)*3=k):=⟨_,rfl⟩;have hp0:0<k:=by have:=HK.out;omega
   have hp1:k≤70378744177664:=by have:=HK.out;omega
   have hx:=mkL_at ceMk 3 k0 n t hlt;have hkk:k0+(t:Int)*((3:Nat):Int)=k:=HK.out;rw [hkk]at hx;rw [HK.out];obtain⟨b,o,rfl,hl,hc⟩:=HR.out.2 t _ hx;have HC0:Hid (w.cell? ⟨b,o+t*3,none⟩=some (.int .i64 (k))):=hc 0 _ rfl;have HC1:Hid (w.cell? ⟨b,o+t*3+1,none⟩=some (.int .i64 (k+1))):=hc 1 _ rfl
   have HC2:Hid (w.cell? ⟨b,o+t*3+2,none⟩=some (.string (mtx (k+1+1)))):=hc 2 _ rfl;clear hc hx hkk;have hlw:=hbel.size;have hl2:b<wr.heap.size:=Nat.lt_of_lt_of_le hl hlw;have c0:=HC0.out;rw [←hbel.cell (p:=⟨_,_,none⟩) hl]at c0;have c1:=HC1.out
   rw [←hbel.cell (p:=⟨_,_,none⟩) hl]at c1;have c2:=HC2.out;rw [←hbel.cell (p:=⟨_,_,none⟩) hl]at c2;have q0:(0:Int)≤(t:Int):=by omega
   have q1:(t:Int)<(n:Int):=by omega
   have HB:Hid (Below w.heap.size w wr):=hbel;clear hbel;go_wp2_with fail
   go_region_held3 (fun w'=>(∀bq oq,bq<wr.heap.size→w'.cell? ⟨bq,oq,none⟩=wr.cell? ⟨bq,oq,none⟩)∧wr.heap.size≤w'.heap.size∧Below wr.heap.size wr w')
    (exact Qj (Nat.le_refl _) (by go_grown))
    (first
    | (go_at_call 39;refine(Qbo _ _ (by omega) (by omega)).mono ?_;rintro e v0 ⟨rfl,hb⟩;obtain⟨hk0,hz0⟩:=Qe (B:=wr.heap.size) (X:=wr) (by go_grown) (by go_size) hb;have hW0: ∀b o,b<wr.heap.size→v0.cell? ⟨b,o,none⟩=wr.cell? ⟨b,o,none⟩:=(fun b o h=>hk0.cell (p:=⟨b,o,none⟩) h);clear hb))
   all_goals go_wp2_with fail
   all_goals
    go_roundw
    case rel=>exact⟨t+1,by omega,by simp,by have:=HK.out;congr 1;omega,Qb HB.out (by go_grown)⟩
    case measure=>simp [intOf];omega
  ·have h1: ¬(t:Int)<(n:Int):=by omega
   obtain rfl:t=n:=by omega
   go_wp2_with fail
   go_ret;exact⟨rfl,hbel⟩
def brMk (k:Int):BR:=⟨mtx k,(k+1)⟩
theorem laws_markBranchS {B n:Nat} {v:Value} {xs:List Value} (k0:Int) (w:World) (h:w.ownsRow B 79 2 v n xs) (hn:n≤1048576) (hk0:0<k0) (hk1:k0≤70368744177664):
  Calls Tryz.prog 38 #[v,.int .i64 k0] w fun e w'=>e= .returned (.int .i64 (k0+(n:Int)*2))∧w'.ownsRow B 79 2 v n (Jf brL (mkL brMk 2 k0 n))∧w.grownBy w' v.ownBlock:=by
 have HO:Hid (w.ownsRow B 79 2 v n xs):=h;obtain⟨A,cap,rfl,_,_⟩:=Qo h;clear h;obtain⟨LL,HLL⟩: ∃LL,Hid (mkL brMk 2 k0 n=LL):=⟨_,rfl⟩;rw [HLL.out];go_enter Tryz.func38,Tryz.ntmps38;go_wp2_with fail
 go_loopw [1,5] (fun q i wr=> ∃t:Nat,t≤n∧i= .int .i64 t∧q= .int .i64 (k0+(t:Int)*2)∧(∃ys,wr.ownsRow B 79 2 (.slice A n cap) n ys∧ ∀j,j<t*2→ys[j]? =(Jf brL LL)[j]?)∧w.grownBy wr (Value.slice A n cap).ownBlock) (fun _ i _=>n-(intOf i).toNat)
 case atStart=>exact⟨0,Nat.zero_le _,rfl,by simp,⟨xs,HO.out,fun j hj=>by omega⟩,World.grownBy.refl _ _⟩
 case round=>
  clear HO;obtain⟨t,ht,rfl,rfl,⟨ys,hown,hys⟩,hgr⟩:=hrel;by_cases hlt:t<n
  ·obtain⟨k,HK⟩: ∃k:Int,Hid (k0+(t:Int)*2=k):=⟨_,rfl⟩;have hp0:0<k:=by have:=HK.out;omega
   have hp1:k≤70378744177664:=by have:=HK.out;omega
   have HX:Hid (∀j,j<2→(Jf brL LL)[t*2+j]? =(brL (brMk k))[j]?):=fun j hj=>by
    rw [←HLL.out,Nb Ni j hj,mkL_at _ _ _ _ _ hlt,←HK.out];rfl
   rw [HK.out]
   obtain⟨g,rfl⟩: ∃g,A=some ⟨g,0,none⟩:=by
    obtain⟨A',cap',e,_,hc⟩:=Qo hown;cases e
    obtain⟨g,e,_⟩:=hc (t*2) (by omega);exact⟨g,e⟩
   have HA0:Hid (∃ys,wr.ownsRow B 79 2 (.slice (some ⟨g,0,none⟩) n cap) n ys∧(∀j,j<t*2→ys[j]? =(Jf brL LL)[j]?)∧w.grownBy wr (some g)):=⟨ys,hown,hys,hgr⟩;clear hown hys hgr;have q0:(0:Int)≤(t:Int):=by omega
   have q1:(t:Int)<(n:Int):=by omega
   go_wp2_with fail
   refine(Qbo _ _ (by omega) (by omega)).mono ?_;rintro e w2 ⟨rfl,hb⟩
   have HB0:Hid (∃ys,w2.ownsRow B 79 2 (.slice (some ⟨g,0,none⟩) n cap) n ys∧(∀j,j<t*2→ys[j]? =(Jf brL LL)[j]?)∧w.grownBy w2 (some g)):=by
    obtain⟨z,o1,p1,g1⟩:=HA0.out;exact⟨z,Ql o1 hb,p1,XV g1 (Qh8 _ hb)⟩
   clear hb HA0;obtain⟨ys0,o0,p0,r0⟩:=HB0.out;obtain⟨A',cap',e,_,hc⟩:=Qo o0;cases e
   obtain⟨gg,e0,_,hg0,d0,f0⟩:=hc (t*2) (by omega);cases e0
   clear hc;have hl:=o0.1;obtain⟨x0,y0⟩: ∃x,ys0[t*2]? =some x:=⟨_,List.getElem?_eq_getElem (by omega)⟩;rw [y0]at d0;clear y0 hl
   have HP0:Hid (∃ys,((w2.setCell ⟨g,t*2,none⟩ (.string (mtx (k))))).ownsRow B 79 2 (.slice (some ⟨g,0,none⟩) n cap) n ys∧(∀j,j<t*2+1→ys[j]? =(Jf brL LL)[j]?)∧w.grownBy ((w2.setCell ⟨g,t*2,none⟩ (.string (mtx (k))))) (some g)):=by
    obtain⟨oq,gq⟩:=o0.stored (t*2) (.string (mtx (k)));refine⟨_,oq,fun j hj=> ?_,XV r0 gq⟩;by_cases e:t*2=j
    ·subst e;rw [List.getElem?_set_self (by have:=o0.1;omega)];exact(HX.out 0 (by omega)).symm
    ·rw [List.getElem?_set_ne e];exact p0 j (by omega)
   clear o0 p0 r0;clear HB0;obtain⟨ys1,o1,p1,r1⟩:=HP0.out;obtain⟨A',cap',e,_,hc⟩:=Qo o1;cases e
   obtain⟨gg,e1,_,hg1,d1,f1⟩:=hc (t*2+1) (by omega);cases e1
   clear hc;have hl:=o1.1;obtain⟨x1,y1⟩: ∃x,ys1[t*2+1]? =some x:=⟨_,List.getElem?_eq_getElem (by omega)⟩;rw [y1]at d1;clear y1 hl
   have HP1:Hid (∃ys,(((w2.setCell ⟨g,t*2,none⟩ (.string (mtx (k)))).setCell ⟨g,t*2+1,none⟩ (.int .i64 (k+1)))).ownsRow B 79 2 (.slice (some ⟨g,0,none⟩) n cap) n ys∧(∀j,j<t*2+2→ys[j]? =(Jf brL LL)[j]?)∧w.grownBy (((w2.setCell ⟨g,t*2,none⟩ (.string (mtx (k)))).setCell ⟨g,t*2+1,none⟩ (.int .i64 (k+1)))) (some g)):=by
    obtain⟨oq,gq⟩:=o1.stored (t*2+1) (.int .i64 (k+1));refine⟨_,oq,fun j hj=> ?_,XV r1 gq⟩;by_cases e:t*2+1=j
    ·subst e;rw [List.getElem?_set_self (by have:=o1.1;omega)];exact(HX.out 1 (by omega)).symm
    ·rw [List.getElem?_set_ne e];exact p1 j (by omega)
   clear o1 p1 r1;clear HP0;go_wp2_with fail
   all_goals
    go_roundw
    case rel=>
     obtain⟨z,o1,p1,g1⟩:=HP1.out;exact⟨t+1,by omega,by simp,by have:=HK.out;congr 1;omega,⟨z,o1,fun j hj=>p1 j (by omega)⟩,g1⟩
    case measure=>simp [intOf];omega
  ·have h1: ¬(t:Int)<(n:Int):=by omega
   obtain rfl:t=n:=by omega
   go_wp2_with fail
   go_ret;exact⟨rfl,by rw [Qhq Ni hown.1 (by rw [←HLL.out];exact Ql6 _ _ _ _) hys]at hown;exact hown,hgr⟩
theorem laws_heldBranchS {A:Option Addr} {n cap:Nat} (k0:Int) (w:World) (h:ZT w A (mkL brMk 2 k0 n)) (hn:n≤1048576) (hk0:0<k0) (hk1:k0≤70368744177664):
  Calls Tryz.prog 41 #[.slice A n cap,.int .i64 k0] w fun e w'=>e= .returned (.int .i64 (k0+(n:Int)*2))∧Below w.heap.size w w':=by
 have HR:Hid (ZT w A (mkL brMk 2 k0 n)):=h;clear h;go_enter Tryz.func41,Tryz.ntmps41;go_wp2_with fail
 go_loopw [1,5] (fun q i wr=> ∃t:Nat,t≤n∧i= .int .i64 t∧q= .int .i64 (k0+(t:Int)*2)∧Below w.heap.size w wr) (fun _ i _=>n-(intOf i).toNat)
 case atStart=>exact⟨0,Nat.zero_le _,rfl,by simp,Below.refl _ _⟩
 case round=>
  obtain⟨t,ht,rfl,rfl,hbel⟩:=hrel;by_cases hlt:t<n
  ·obtain⟨k,HK⟩: ∃k:Int,Hid (k0+(t:Int)*2=k):=⟨_,rfl⟩;have hp0:0<k:=by have:=HK.out;omega
   have hp1:k≤70378744177664:=by have:=HK.out;omega
   have hx:=mkL_at brMk 2 k0 n t hlt;have hkk:k0+(t:Int)*((2:Nat):Int)=k:=HK.out;rw [hkk]at hx;rw [HK.out];obtain⟨b,o,rfl,hl,hc⟩:=HR.out.2 t _ hx;have HC0:Hid (w.cell? ⟨b,o+t*2,none⟩=some (.string (mtx (k)))):=hc 0 _ rfl;have HC1:Hid (w.cell? ⟨b,o+t*2+1,none⟩=some (.int .i64 (k+1))):=hc 1 _ rfl
   clear hc hx hkk;have hlw:=hbel.size;have hl2:b<wr.heap.size:=Nat.lt_of_lt_of_le hl hlw;have c0:=HC0.out;rw [←hbel.cell (p:=⟨_,_,none⟩) hl]at c0;have c1:=HC1.out;rw [←hbel.cell (p:=⟨_,_,none⟩) hl]at c1
   have q0:(0:Int)≤(t:Int):=by omega
   have q1:(t:Int)<(n:Int):=by omega
   have HB:Hid (Below w.heap.size w wr):=hbel;clear hbel;go_wp2_with fail
   go_region_held3 (fun w'=>(∀bq oq,bq<wr.heap.size→w'.cell? ⟨bq,oq,none⟩=wr.cell? ⟨bq,oq,none⟩)∧wr.heap.size≤w'.heap.size∧Below wr.heap.size wr w')
    (exact Qj (Nat.le_refl _) (by go_grown))
    (first
    | (go_at_call 39;refine(Qbo _ _ (by omega) (by omega)).mono ?_;rintro e v0 ⟨rfl,hb⟩;obtain⟨hk0,hz0⟩:=Qe (B:=wr.heap.size) (X:=wr) (by go_grown) (by go_size) hb;have hW0: ∀b o,b<wr.heap.size→v0.cell? ⟨b,o,none⟩=wr.cell? ⟨b,o,none⟩:=(fun b o h=>hk0.cell (p:=⟨b,o,none⟩) h);clear hb))
   all_goals go_wp2_with fail
   all_goals
    go_roundw
    case rel=>exact⟨t+1,by omega,by simp,by have:=HK.out;congr 1;omega,Qb HB.out (by go_grown)⟩
    case measure=>simp [intOf];omega
  ·have h1: ¬(t:Int)<(n:Int):=by omega
   obtain rfl:t=n:=by omega
   go_wp2_with fail
   go_ret;exact⟨rfl,hbel⟩
end Go.Proofs.YtkkbgjeilomnmaaGreatDoor
namespace Go.Proofs.YtkkbgjeilomnmaaGreatDoor
open Go.RowKit Go.Maps
def Shp (w w':World):Prop:= ∀(k:Nat) (e:TypeId) (cur:Array Value),w.heap[k]? =some (.cells cur e (0,0))→ ∃cur':Array Value,w'.heap[k]? =some (.cells cur' e (0,0))∧cur'.size=cur.size
theorem Shp.refl (w:World):Shp w w:=fun k e cur h=>⟨cur,h,rfl⟩
theorem Shp.trans {a b c:World} (h:Shp a b) (h':Shp b c):Shp a c:=fun k e cur hk=>by
 obtain⟨c1,h1,e1⟩:=h k e cur hk;obtain⟨c2,h2,e2⟩:=h' k e c1 h1;exact⟨c2,h2,e2.trans e1⟩
theorem heap_lt {w:World} {k:Nat} {o:Obj} (h:w.heap[k]? =some o):k<w.heap.size:=(Array.getElem?_eq_some_iff.1 h).1
theorem Shp.below {w w':World} (hb:Below w.heap.size w w'):Shp w w':=fun k e cur h=>⟨cur,by rw [hb.block k (heap_lt h)];exact h,rfl⟩
theorem Shp.own {w w':World} {B n s:Nat} {e:TypeId} {v:Value} {xs ys:List Value} (h:w.ownsRow B e s v n xs) (h':w'.ownsRow B e s v n ys) (hg:w.grownBy w' v.ownBlock):Shp w w':=fun k e2 cur hk=>by
 by_cases e1:some k=v.ownBlock
 ·rcases h.2 with⟨rfl,_⟩ | ⟨g,cap,c1,rfl,_,hc1,_,_,hs1,_⟩
  ·cases e1
  ·cases e1
   rcases h'.2 with⟨e9,_⟩ | ⟨g',cap',c2,e9,_,hc2,_,_,hs2,_⟩
   ·cases e9
   ·cases e9
    rw [hc1]at hk;cases hk
    exact⟨c2,hc2,hs2.trans hs1.symm⟩
 ·exact⟨cur,by rw [hg.block k (heap_lt hk) e1];exact hk,rfl⟩
def OwnIn (lo hi:Nat) (w:World) (e:TypeId) (s:Nat) (v:Value) (n:Nat):Prop:=(∃xs,w.ownsRow lo e s v n xs)∧ ∀k,v.ownBlock=some k→k<hi
theorem OwnIn.shp {lo hi n s:Nat} {w w':World} {e:TypeId} {v:Value} (h:OwnIn lo hi w e s v n) (hs:Shp w w'):OwnIn lo hi w' e s v n:=by
 obtain⟨⟨xs,h1⟩,h2⟩:=h;refine⟨?_,h2⟩;rcases h1.2 with⟨rfl,rfl⟩ | ⟨g,cap,cur,rfl,hb,hg,h3,h4,h5,_⟩
 ·exact⟨[],⟨by simp,Or.inl ⟨rfl,rfl⟩⟩⟩
 ·obtain⟨c2,hc2,e2⟩:=hs g e cur hg;refine⟨c2.toList.take (n*s),?_,Or.inr ⟨g,cap,c2,rfl,hb,hc2,h3,h4,e2.trans h5,rfl⟩⟩;rw [List.length_take,Array.length_toList,e2,h5];exact Nat.min_eq_left (Nat.mul_le_mul_right _ h3)
structure FrX (lo hi:Nat) (w w':World):Prop where
 os:w'.os=w.os
 tape:w'.tape=w.tape
 output:w'.output=w.output
 size:w.heap.size≤w'.heap.size
 block: ∀k,k<w.heap.size→(k<lo∨hi≤k)→w'.heap[k]? =w.heap[k]?
 shp:Shp w w'
theorem FrX.refl (lo hi:Nat) (w:World):FrX lo hi w w:=⟨rfl,rfl,rfl,Nat.le_refl _,fun _ _ _=>rfl,Shp.refl w⟩
theorem FrX.trans {lo hi:Nat} {a b c:World} (h:FrX lo hi a b) (h':FrX lo hi b c):FrX lo hi a c:=
 ⟨h'.os.trans h.os,h'.tape.trans h.tape,h'.output.trans h.output,Nat.le_trans h.size h'.size,fun k hk ho=>(h'.block k (Nat.lt_of_lt_of_le hk h.size) ho).trans (h.block k hk ho),h.shp.trans h'.shp⟩
theorem FrX.below {lo hi:Nat} {w w':World} (hb:Below w.heap.size w w'):FrX lo hi w w':=⟨hb.os,hb.tape,hb.output,hb.size,fun k hk _=>hb.block k hk,Shp.below hb⟩
theorem FrX.own {lo hi n s:Nat} {w w':World} {e:TypeId} {v:Value} {xs ys:List Value} (h:w.ownsRow lo e s v n xs) (hh: ∀k,v.ownBlock=some k→k<hi) (h':w'.ownsRow lo e s v n ys) (hg:w.grownBy w' v.ownBlock):FrX lo hi w w':=
 ⟨hg.os,hg.tape,hg.output,hg.size,fun k hk ho=>hg.block k hk (fun e=>by
  have h1:=(h.lt k e.symm).1;have h2:=hh k e.symm
  omega),Shp.own h h' hg⟩
def VrIn (lo hi:Nat) (w:World) (ys:List Value) (L:List VR):Prop:=
 ∀(i:Nat) x,L[i]? =some x→ ∃u uc s sc,ys[i*3+1]? =some (.slice u x.ups.length uc)∧ys[i*3+2]? =some (.slice s x.m sc)∧OwnIn lo hi w 2 1 (.slice u x.ups.length uc) x.ups.length∧OwnIn lo hi w 67 3 (.slice s x.m sc) x.m
theorem laws_markVersionS {lo hi n:Nat} {v:Value} {ys:List Value} {L:List VR} (k0:Int) (w:World) (h:w.ownsRow lo 89 3 v n ys) (hh: ∀k,v.ownBlock=some k→k<hi) (hL:L.length=n) (hp:VrIn lo hi w ys L) (hl: ∀x∈L,JS x) (hn:n≤1048576) (h0:0<k0) (h1:k0≤1000):
  Calls Tryz.prog 37 #[v,.int .i64 k0] w fun e w'=> ∃k:Int,e= .returned (.int .i64 k)∧0<k∧k≤8796093022208∧FrX lo hi w w':=by
 have HO:Hid (w.ownsRow lo 89 3 v n ys):=h;have HH:Hid (∀k,v.ownBlock=some k→k<hi):=hh;have HL:Hid (L.length=n):=hL;have HP:Hid (VrIn lo hi w ys L):=hp;have HI:Hid (∀x∈L,JS x):=hl;obtain⟨A,cap,rfl,_,_⟩:=Qo h;clear h hh hL hp hl
 go_enter Tryz.func37,Tryz.ntmps37;go_wp2_with fail
 go_loopw [1,5] (fun q i wr=> ∃(t:Nat) (k:Int) (zs:List Value),t≤n∧i= .int .i64 t∧q= .int .i64 k∧0<k∧k≤1000+(t:Int)*4194305∧wr.ownsRow lo 89 3 (.slice A n cap) n zs∧(∀i,i<n→zs[i*3+1]? =ys[i*3+1]?∧zs[i*3+2]? =ys[i*3+2]?)∧FrX lo hi w wr) (fun _ i _=>n-(intOf i).toNat)
 case atStart=>exact⟨0,k0,ys,Nat.zero_le _,rfl,rfl,h0,by omega,HO.out,fun i hi=>⟨rfl,rfl⟩,FrX.refl _ _ _⟩
 case round=>
  obtain⟨t,k,zs,ht,rfl,rfl,hk0,hk1,hown,hzs,hfr⟩:=hrel;by_cases hlt:t<n
  ·obtain⟨x,hx⟩:=ZD HL.out hlt;have HXL:Hid (JS x):=HI.out x (List.mem_of_getElem? hx);obtain⟨u,uc,s,sc,y1,y2,hu,hs⟩:=HP.out t x hx;have HU:Hid (OwnIn lo hi w 2 1 (.slice u x.ups.length uc) x.ups.length):=hu;have HS:Hid (OwnIn lo hi w 67 3 (.slice s x.m sc) x.m):=hs;obtain⟨un,HUN⟩: ∃un,Hid (x.ups.length=un):=⟨_,rfl⟩;obtain⟨mn,HMN⟩: ∃mn,Hid (x.m=mn):=⟨_,rfl⟩
   have hun:un≤1048576:=by rw [←HUN.out];exact HXL.out.1
   have hmn:mn≤1048576:=by rw [←HMN.out];exact HXL.out.2
   rw [HUN.out]at HU y1;rw [HMN.out]at HS y2;obtain⟨A',cap',e,_,hc⟩:=Qo hown;cases e
   have hl9:=hown.1;obtain⟨g,rfl,_,hg,d0,f0⟩:=hc (t*3) (by omega);obtain⟨z0,hz0⟩: ∃z,zs[t*3]? =some z:=⟨_,List.getElem?_eq_getElem (by omega)⟩;rw [hz0]at d0;have d1:wr.cell? ⟨g,t*3+1,none⟩=some (.slice u un uc):=by rw [hown.cellAt (t*3+1) (by omega),(hzs t hlt).1,y1]
   have HK1:Hid (k≤1000+(t:Int)*4194305):=hk1;have hk2:k≤8796093022208:=by omega
   have HT:Hid (∃zs,(wr.setCell ⟨g,t*3,none⟩ (.int .i64 k)).ownsRow lo 89 3 (.slice (some ⟨g,0,none⟩) n cap) n zs∧(∀i,i<n→zs[i*3+1]? =ys[i*3+1]?∧zs[i*3+2]? =ys[i*3+2]?)∧FrX lo hi w (wr.setCell ⟨g,t*3,none⟩ (.int .i64 k))):=by
    obtain⟨oq,gq⟩:=hown.stored (t*3) (.int .i64 k);refine⟨_,oq,fun i hi=> ?_,hfr.trans (FrX.own hown HH.out oq gq)⟩;rw [List.getElem?_set_ne (by omega),List.getElem?_set_ne (by omega)];exact hzs i hi
   clear hown hzs hfr hc hz0 hx hu hs hl9 hk1;obtain⟨Y,HY⟩: ∃Y,Hid (wr.setCell ⟨g,t*3,none⟩ (.int .i64 k)=Y):=⟨_,rfl⟩;rw [HY.out]at HT;obtain⟨zs1,ho1,hz1,hf1⟩:=HT.out;have O1:Hid (Y.ownsRow lo 89 3 (.slice (some ⟨g,0,none⟩) n cap) n zs1):=ho1;have Z1:Hid (∀i,i<n→zs1[i*3+1]? =ys[i*3+1]?∧zs1[i*3+2]? =ys[i*3+2]?):=hz1;have F1:Hid (FrX lo hi w Y):=hf1
   have q0:(0:Int)≤(t:Int):=by omega
   have q1:(t:Int)<(n:Int):=by omega
   clear ho1 hz1 hf1 HT;go_wp2_with fail
   rw [HY.out];obtain⟨⟨us,hus⟩,huh⟩:=HU.out.shp F1.out.shp;have HUS:Hid (Y.ownsRow lo 2 1 (.slice u un uc) un us):=hus;have HUH:Hid (∀q,(Value.slice u un uc).ownBlock=some q→q<hi):=huh;clear hus huh;refine(laws_markInt64S _ Y HUS.out hun (by omega) (by omega)).mono ?_;rintro e w2 ⟨rfl,ho2,hg2⟩
   have F2:Hid (FrX lo hi w w2):=F1.out.trans (FrX.own HUS.out HUH.out ho2 hg2);have O2:Hid (w2.ownsRow lo 89 3 (.slice (some ⟨g,0,none⟩) n cap) n zs1):=O1.out.kept hg2 (Qkt O1.out HUS.out (by decide));have d2:w2.cell? ⟨g,t*3+2,none⟩=some (.slice s mn sc):=by rw [O2.out.cellAt (t*3+2) (by omega),(Z1.out t hlt).2,y2]
   have hg2':g<w2.heap.size:=(O2.out.lt g rfl).2;clear ho2 hg2 d1 d0 f0 hg;go_wp2_with fail
   obtain⟨⟨ss,hss⟩,hsh⟩:=HS.out.shp F2.out.shp;have HSS:Hid (w2.ownsRow lo 67 3 (.slice s mn sc) mn ss):=hss;have HSH:Hid (∀q,(Value.slice s mn sc).ownBlock=some q→q<hi):=hsh;clear hss hsh;refine(laws_markCellS _ w2 HSS.out hmn (by omega) (by omega)).mono ?_;rintro e w3 ⟨rfl,ho3,hg3⟩;have F3:Hid (FrX lo hi w w3):=F2.out.trans (FrX.own HSS.out HSH.out ho3 hg3)
   have O3:Hid (w3.ownsRow lo 89 3 (.slice (some ⟨g,0,none⟩) n cap) n zs1):=O2.out.kept hg3 (Qkt O2.out HSS.out (by decide));clear ho3 hg3 d2 hg2';go_wp2_with fail
   go_roundw
   case rel=>exact⟨t+1,_,zs1,by omega,by go_num,rfl,by omega,by have:=HK1.out;omega,O3.out,Z1.out,F3.out⟩
   case measure=>simp [intOf];omega
  ·have h1: ¬(t:Int)<(n:Int):=by omega
   go_wp2_with fail
   go_ret;exact⟨k,rfl,hk0,by omega,hfr⟩
theorem FrX.cell {lo hi b o:Nat} {w w':World} {x:Value} (hf:FrX lo hi w w') (hk:b<lo∨hi≤b) (c:w.cell? ⟨b,o,none⟩=some x):w'.cell? ⟨b,o,none⟩=some x:=
 (World.cell?_of_block (hf.block b (World.block_lt_of_cell? w ⟨b,o,none⟩ c) hk)).trans c
theorem FrX.toBelow {lo hi B:Nat} {w w':World} (hf:FrX lo hi w w') (hB:B≤lo) (hw:B≤w.heap.size):Below B w w':=⟨hf.os,hf.tape,hf.output,hf.size,fun k hk=>hf.block k (by omega) (Or.inl (by omega))⟩
theorem FrX.keep {lo hi B n s:Nat} {w w':World} {e:TypeId} {v:Value} {xs:List Value} (hf:FrX lo hi w w') (h:w.ownsRow B e s v n xs) (hk: ∀k,v.ownBlock=some k→k<lo∨hi≤k):w'.ownsRow B e s v n xs:=by
 refine⟨h.1,?_⟩;rcases h.2 with hn | ⟨g,cap,cur,rfl,hb,hg,rest⟩
 ·exact .inl hn
 ·exact .inr ⟨g,cap,cur,rfl,hb,by rw [hf.block g (heap_lt hg) (hk g rfl)];exact hg,rest⟩
theorem ownIn_of {lo B n s:Nat} {W0 w:World} {e:TypeId} {v:Value} {xs:List Value} (h:W0.ownsRow B e s v n xs) (hB:lo≤B) (hb:Below W0.heap.size W0 w):OwnIn lo W0.heap.size w e s v n:=
 ⟨⟨xs,Zc (Ql h hb) hB⟩,fun k hk=>(h.lt k hk).2⟩
theorem laws_markDagK {v:Value} {d:DG} {B:Nat} {W0:World} (w:World) (h:DgOwn W0 B v d) (hb:Below W0.heap.size W0 w) (hl:DgLil d):
  Calls Tryz.prog 14 #[v,.int .i64 1] w fun e w'=> ∃k:Int,e= .returned (.int .i64 k)∧0<k∧k≤70368744177664∧FrX B W0.heap.size w w':=by
 obtain⟨v1,v2,ys,B1,rfl,hB,h1,h2,h3⟩:=h;obtain⟨n1,HN1⟩: ∃n1,Hid (d.vs.length=n1):=⟨_,rfl⟩;obtain⟨n2,HN2⟩: ∃n2,Hid (d.bs.length=n2):=⟨_,rfl⟩;have HZ1:Hid (n1≤1048576):=by rw [←HN1.out];exact hl.nv
 have HZ2:Hid (n2≤1048576):=by rw [←HN2.out];exact hl.nb
 rw [HN1.out]at h1;rw [HN2.out]at h3;have HLL:Hid (∀x∈d.vs,JS x):=hl.v
 have HIN:Hid (∀W,Shp w W→VrIn B W0.heap.size W ys d.vs):=fun W hs i x hx=>by
  obtain⟨u,uc,s,sc,_,y1,y2,k1,k2⟩:=h2 i x (List.getElem?_eq_some_iff.1 hx).1 hx;exact⟨u,uc,s,sc,y1,y2,(ownIn_of k1 (by omega) hb).shp hs,(ownIn_of k2 (by omega) hb).shp hs⟩
 have O1:=hd (Zc (Ql h1 hb) hB);have H1:Hid (∀k,v1.ownBlock=some k→k<W0.heap.size):=fun k hk=>(h1.lt k hk).2;have I3:Hid (OwnIn B W0.heap.size w 79 2 v2 n2):=ownIn_of h3 (Nat.le_refl _) hb;obtain⟨A1,c1,rfl,_,_⟩:=Qo h1;obtain⟨A2,c2,rfl,_,_⟩:=Qo h3;have HWZ:Hid (W0.heap.size≤w.heap.size):=hb.size;clear h1 h2 h3 hl hb hB
 go_enter Tryz.func14,Tryz.ntmps14;go_wp2_with fail
 obtain⟨X,HX⟩: ∃X,Hid (w.alloc (.cells #[.int .i64 d.next,.slice A1 n1 c1,.slice A2 n2 c2] 32)=X):=⟨_,rfl⟩;rw [HX.out];have x2:X.cell? ⟨w.heap.size,2,none⟩=some (.slice A2 n2 c2):=by rw [←HX.out];go_simp
 have zX:w.heap.size<X.heap.size:=by rw [←HX.out];simp
 have KX:Hid (Below w.heap.size w X):=by rw [←HX.out];show Below _ _ _;go_grown
 clear HX;refine(laws_markVersionS 1 X (Ql O1.out KX.out) H1.out HN1.out (HIN.out X (Shp.below KX.out)) HLL.out HZ1.out (by omega) (by omega)).mono ?_;rintro e w1 ⟨k,rfl,hk0,hk1,hf⟩;have F1:Hid (FrX B W0.heap.size w w1):=(FrX.below KX.out).trans hf;replace x2:=hf.cell (Or.inr HWZ.out) x2;replace zX:w.heap.size<w1.heap.size:=Nat.lt_of_lt_of_le zX hf.size;clear hf KX
 obtain⟨⟨bs,hbs⟩,hbh⟩:=I3.out.shp F1.out.shp;have OB:Hid (w1.ownsRow B 79 2 (.slice A2 n2 c2) n2 bs):=hbs;have HBH:Hid (∀q,(Value.slice A2 n2 c2).ownBlock=some q→q<W0.heap.size):=hbh;clear hbs hbh;go_wp2_with fail
 refine(laws_markBranchS k w1 OB.out HZ2.out hk0 (by omega)).mono ?_;rintro e w2 ⟨rfl,ho,hg⟩;have F2:Hid (FrX B W0.heap.size w w2):=F1.out.trans (FrX.own OB.out HBH.out ho hg);clear ho hg;go_wp2_with fail
 go_ret;exact⟨_,rfl,by omega,by have:=HZ2.out;omega,F2.out⟩
end Go.Proofs.YtkkbgjeilomnmaaGreatDoor
namespace Go.Proofs.YtkkbgjeilomnmaaGreatDoor
open Go.RowKit
theorem run_append_nilC {P:Program} {w:World} (base:Nat) (t ty e:TypeId) (i:TypeInfo) (size c:Nat) (ht:P.underlying t=some (.slice e)) (hi:P.info? e=some i)
  (v:Value) (n:Nat) (xs:List Value) (hown:w.ownsRow base e size v n xs):(Builtin.append_ #[t,t] ty #[v,.slice none 0 c]).run P w= .ok v w:=by
 rcases hown.2 with⟨rfl,rfl⟩ | ⟨g,cap,cur,rfl,_,_,hnc,_⟩
 ·simp [Builtin.append_,run_underlying ht,sizeOf,typeInfo,hi,Builtin.lenOf,Builtin.firstCells]
 ·simp [Builtin.append_,run_underlying ht,sizeOf,typeInfo,hi,Builtin.lenOf,Builtin.firstCells,hnc,storeCells]
section
variable {P:Program} {ops:Array Oper} {rest:List Oper} {o:Oper} {a:Act} {Q:Exit→Act→World→Prop}
theorem wpList_append_nilC {w:World} (hgd:o.guard=none) (s x:Operand) (t:TypeId)
  (ho:o.op= .call {callee:= .builtin .append,args:= #[s,x],argTypes:= #[t,t]})
  (base:Nat) (e:TypeId) (i:TypeInfo) (size c:Nat) (ht:P.underlying t=some (.slice e)) (hi:P.info? e=some i)
  (v:Value) (n:Nat) (xs:List Value) (hs:a.eval s=v) (hown:w.ownsRow base e size v n xs) (hx:a.eval x= .slice none 0 c)
  (h:wpList P ops Q rest (a.put o.dst v) w):wpList P ops Q (o::rest) a w:=by
 refine wpList_plain hgd fun K hK=> ?_;have hrun:=run_append_nilC (P:=P) (w:=w) base t o.type e i size c ht hi v n xs hown;unfold Oper.wp;simp [execOp,ho,resolve,invoke,builtin,hs,hx,hrun,Result.andThen];exact hK _ _ h
theorem wpList_copyG {W:World} (t e:TypeId) (i:TypeInfo) (z:Value) (size bytes:Nat) (ht:P.underlying t=some (.slice e)) (hi:P.info? e=some i) (hz:i.zero=some z) (hsize:i.size=size) (hby:i.bytes=bytes) (hzs:z.cells.size=size) (hsz:0<size)
  (hgd:o.guard=none) (s x:Operand) (ho:o.op= .call {callee:= .builtin .append,args:= #[s,x],argTypes:= #[t,t]}) (B:Nat) (hB:B≤W.heap.size) (v:Value) (hs:a.eval s=v) (hown:W.ownsRow B e size v 0 [])
  (A:Option Addr) (n c:Nat) (xs:List Value) (hx:a.eval x= .slice A n c) (hl:xs.length=n*size) (hA:A=none→n=0) (hc: ∀ad,A=some ad→ ∀j u,xs[j]? =some u→W.cell? (ad.add j)=some u) (h1: ∀u∈xs,u.oneCell'=true) (hn:n≤maxLen) (hb:n*bytes≤140737488355328)
  (h: ∀A' c' w',w'.ownsRow B e size (.slice A' n c') n xs→W.grownBy w' v.ownBlock→wpList P ops Q rest (a.put o.dst (.slice A' n c')) w'):wpList P ops Q (o::rest) a W:=by
 cases A with
 | none=>
  have hn0:=hA rfl;subst hn0;have hxs:xs= []:=by cases xs with | nil=>rfl | cons y ys=>simp at hl
  subst hxs;obtain⟨A',cap',rfl,_,_⟩:=Qo hown;exact wpList_append_nilC hgd s x t ho B e i size c ht hi _ 0 [] hs hown hx (h _ _ W hown (World.grownBy.refl _ _))
 | some ad=>
  refine wpList_append_own W hgd s x t ho B e i z size bytes ht hi hz hsize hby hzs hsz v 0 [] hs hown ad n c xs hx hl (hc ad rfl) h1 (by omega) (by rw [Nat.zero_add];exact hb) hB ?_;intro v' w' ho' hg' _;rw [Nat.zero_add,List.nil_append]at ho';obtain⟨A',cap',rfl,_,_⟩:=Qo ho';exact h A' cap' w' ho' hg'
end
theorem cl_cells {W:World} {A:Option Addr} {n:Nat} {C R:Nat→Int} {S:Nat→ByteArray} (h:ClRow W A n C R S): ∀ad,A=some ad→ ∀j u,(clX C R S n)[j]? =some u→W.cell? (ad.add j)=some u:=by
 intro ad hA j u hu;have hj:j<n*3:=by rw [←EB C R S n];exact(List.getElem?_eq_some_iff.1 hu).1
 obtain⟨b,o,e,_,c0,c1,c2,_⟩:=h.2 (j/3) (by omega);rw [hA]at e;cases e
 have e1:j=(j/3)*3+j%3:=by omega
 have hm:j%3<3:=by omega
 rw [e1,KJ C R S n (j/3) (j%3) (by omega) hm]at hu
 have e2:(⟨b,o,none⟩:Addr).add j=⟨b,o+j/3*3+j%3,none⟩:=by
  rw [Go.WideShapes.add_plain];congr 1
  omega
 rw [e2];rcases(show j%3=0∨j%3=1∨j%3=2 by omega)with h9 | h9 | h9
 ·rw [h9]at hu ⊢;cases hu;exact c0
 ·rw [h9]at hu ⊢;cases hu;exact c1
 ·rw [h9]at hu ⊢;cases hu;exact c2
theorem cl_none {W:World} {A:Option Addr} {n:Nat} {C R:Nat→Int} {S:Nat→ByteArray} (h:ClRow W A n C R S) (hA:A=none):n=0:=by
 cases n with
 | zero=>rfl
 | succ m=>obtain⟨b,o,e,_⟩:=h.2 0 (by omega);rw [hA]at e;cases e
theorem clX_one (C R:Nat→Int) (S:Nat→ByteArray) (n:Nat): ∀u∈clX C R S n,u.oneCell'=true:=by
 intro u hu;obtain⟨i,_,hi⟩:=List.mem_flatMap.1 hu;simp only [List.mem_cons,List.not_mem_nil,or_false]at hi;rcases hi with rfl | rfl | rfl<;>rfl
theorem impl_listCopyC {A:Option Addr} {n c:Nat} {C R:Nat→Int} {S:Nat→ByteArray} (w:World) (h:ClRow w A n C R S) (hn:n≤1048576):
  Calls Tryz.prog 95 #[.slice A n c] w fun e w'=> ∃A' c',e= .returned (.slice A' n c')∧w'.ownsRow w.heap.size 67 3 (.slice A' n c') n (clX C R S n)∧Below w.heap.size w w':=by
 have HR:Hid (ClRow w A n C R S):=h;obtain⟨i0,hi,iz0,iz1,iz2⟩:=info_parts Qj3;clear h;go_enter Tryz.func95,Tryz.ntmps95
 go_wp2_with (first
  | (at_builtin;refine wpList_copyG 36 67 i0 (.agg #[.int .i64 0,.int .i64 0,.string ⟨#[]⟩]) 3 32 Tryz.underlying36 hi iz0 iz1 iz2 rfl (by decide) rfl _ _ rfl w.heap.size (Nat.le_refl _) _ rfl (World.ownsRow_nil _ _ _ _) A n c (clX C R S n) rfl (EB C R S n) (cl_none HR.out) (cl_cells HR.out) (clX_one C R S n) HR.out.1 (by omega) ?_)
  | fail)
 intro A' c' w' ho hg;have HO:Hid (w'.ownsRow w.heap.size 67 3 (.slice A' n c') n (clX C R S n)):=ho;have HB:Hid (Below w.heap.size w w'):=(Below.refl _ _).grown hg (Nat.le_refl _) (fun j hj=>by cases hj);clear ho hg;go_wp2_with fail
 go_ret;exact⟨A',c',rfl,HO.out,HB.out⟩
end Go.Proofs.YtkkbgjeilomnmaaGreatDoor
namespace Go.Proofs.YtkkbgjeilomnmaaGreatDoor
open Go.RowKit Go.Maps
def blkAt (ys:List Value) (a:Nat):Option Nat:=match ys[a]? with | some v=>v.ownBlock | none=>none
def sepAt (ys:List Value) (a b:Nat):Prop:=blkAt ys a=none∨blkAt ys a≠blkAt ys b
def VrApt (ys:List Value) (n:Nat):Prop:= ∀i j,i<n→j<n→i≠j→sepAt ys (i*3+1) (j*3+1)∧sepAt ys (i*3+2) (j*3+2)
theorem blkAt_some {ys:List Value} {a:Nat} {v:Value} (h:ys[a]? =some v):blkAt ys a=v.ownBlock:=by rw [blkAt,h]
theorem VrApt.same {ys zs:List Value} {n:Nat} (h:VrApt ys n) (he: ∀i,i<n→zs[i*3+1]? =ys[i*3+1]?∧zs[i*3+2]? =ys[i*3+2]?):VrApt zs n:=fun i j hi hj hij=>by
 have h1:=h i j hi hj hij;unfold sepAt blkAt at h1 ⊢;rw [(he i hi).1,(he i hi).2,(he j hj).1,(he j hj).2];exact h1
def VrLt (ys:List Value) (n hi:Nat):Prop:= ∀i,i<n→(∀q,blkAt ys (i*3+1)=some q→q<hi)∧ ∀q,blkAt ys (i*3+2)=some q→q<hi
theorem VrLt.same {ys zs:List Value} {n hi:Nat} (h:VrLt ys n hi) (he: ∀i,i<n→zs[i*3+1]? =ys[i*3+1]?∧zs[i*3+2]? =ys[i*3+2]?):VrLt zs n hi:=fun i hi=>by
 have h1:=h i hi;unfold blkAt at h1 ⊢;rw [(he i hi).1,(he i hi).2];exact h1
theorem VrPart.ltB {W:World} {B n:Nat} {ys:List Value} {L:List VR} (h:VrPart W B ys L n) (hL:L.length=n):VrLt ys n W.heap.size:=fun i hi=>by
 obtain⟨x,hx⟩:=ZD hL hi;obtain⟨u,uc,s,sc,_,y1,y2,k1,k2⟩:=h i x hi hx;rw [blkAt_some y1,blkAt_some y2];exact⟨fun q hq=>(k1.lt q hq).2,fun q hq=>(k2.lt q hq).2⟩
def DgO (W:World) (B:Nat) (v:Value) (d:DG):Prop:= ∃v1 v2 ys,v= .agg #[.int .i64 d.next,v1,v2]∧W.ownsRow B 89 3 v1 d.vs.length ys∧VrPart W B ys d.vs d.vs.length∧VrApt ys d.vs.length∧W.ownsRow B 79 2 v2 d.bs.length (Jf brL d.bs)
theorem DgO.row {W:World} {B:Nat} {v:Value} {d:DG} (h:DgO W B v d) (hx:DgOk d):DgRow W v d:=by
 obtain⟨v1,v2,ys,rfl,h1,h2,_,h3⟩:=h;obtain⟨A1,c1,rfl,_,_⟩:=Qo h1;obtain⟨A2,c2,rfl,_,_⟩:=Qo h3;exact⟨A1,c1,A2,c2,rfl,EO h1 rfl h2 hx.v,RowAt.of_own Ni h3 rfl⟩
theorem DgO.below {W W':World} {B:Nat} {v:Value} {d:DG} (h:DgO W B v d) (hb:Below W.heap.size W W'):DgO W' B v d:=by
 obtain⟨v1,v2,ys,rfl,h1,h2,h4,h3⟩:=h;exact⟨v1,v2,ys,rfl,Ql h1 hb,h2.below hb,h4,Ql h3 hb⟩
theorem DgO.mono {W:World} {B B':Nat} {v:Value} {d:DG} (h:DgO W B v d) (hB:B'≤B):DgO W B' v d:=by
 obtain⟨v1,v2,ys,rfl,h1,h2,h4,h3⟩:=h;refine⟨v1,v2,ys,rfl,Zc h1 hB,fun i x hi hx=> ?_,h4,Zc h3 hB⟩;obtain⟨u,uc,s,sc,y0,y1,y2,k1,k2⟩:=h2 i x hi hx;exact⟨u,uc,s,sc,y0,y1,y2,Zc k1 hB,Zc k2 hB⟩
theorem DgO.frx {W W':World} {lo hi B:Nat} {v:Value} {d:DG} (h:DgO W B v d) (hf:FrX lo hi W W') (hB:hi≤B):DgO W' B v d:=by
 obtain⟨v1,v2,ys,rfl,h1,h2,h4,h3⟩:=h;refine⟨v1,v2,ys,rfl,hf.keep h1 (fun k hk=>Or.inr (Nat.le_trans hB (h1.lt k hk).1)),fun i x hi hx=> ?_,h4,hf.keep h3 (fun k hk=>Or.inr (Nat.le_trans hB (h3.lt k hk).1))⟩;obtain⟨u,uc,s,sc,y0,y1,y2,k1,k2⟩:=h2 i x hi hx;exact⟨u,uc,s,sc,y0,y1,y2,hf.keep k1 (fun k hk=>Or.inr (Nat.le_trans hB (k1.lt k hk).1)),hf.keep k2 (fun k hk=>Or.inr (Nat.le_trans hB (k2.lt k hk).1))⟩
def kvN (L:List VR) (k0:Int):Nat→Int
 | 0=>k0
 | i+1=>kvN L k0 i+(match L[i]? with | some x=>1+(x.ups.length:Int)+(x.m:Int)*3 | none=>0)
theorem kvN_succ {L:List VR} {k0:Int} {i:Nat} {x:VR} (hx:L[i]? =some x):kvN L k0 (i+1)=kvN L k0 i+1+(x.ups.length:Int)+(x.m:Int)*3:=by
 rw [kvN,hx];show _+(1+(x.ups.length:Int)+(x.m:Int)*3)=_;omega
theorem kvN_bd {L:List VR} {k0:Int} (hl: ∀x∈L,JS x): ∀i:Nat,k0≤kvN L k0 i∧kvN L k0 i≤k0+(i:Int)*4194305
 | 0=>by simp [kvN]
 | i+1=>by
  have ih:=kvN_bd (k0:=k0) hl i;rw [kvN];cases hx:L[i]? with
  | none=>simp only;omega
  | some x=>
   have h1:=hl x (List.mem_of_getElem? hx);have h2:=h1.1;have h3:=h1.2;simp only;omega
def VrMk (W:World) (B:Nat) (zs:List Value) (L:List VR) (k0:Int) (a b c:Nat):Prop:=
 ∀(i:Nat) x,L[i]? =some x→(i<a→zs[i*3]? =some (.int .i64 (kvN L k0 i)))∧ ∃u uc s sc,zs[i*3+1]? =some (.slice u x.ups.length uc)∧zs[i*3+2]? =some (.slice s x.m sc)∧
  (∃us,W.ownsRow B 2 1 (.slice u x.ups.length uc) x.ups.length us∧(i<b→us=(itMk (kvN L k0 i+1) x.ups.length).map (Value.int .i64)))∧
  (∃ss,W.ownsRow B 67 3 (.slice s x.m sc) x.m ss∧(i<c→ss=Jf ceL (mkL ceMk 3 (kvN L k0 i+1+(x.ups.length:Int)) x.m)))
theorem VrMk.start {W:World} {B:Nat} {ys:List Value} {L:List VR} {k0:Int} (h:VrPart W B ys L L.length):VrMk W B ys L k0 0 0 0:=fun i x hx=>by
 obtain⟨u,uc,s,sc,y0,y1,y2,k1,k2⟩:=h i x (List.getElem?_eq_some_iff.1 hx).1 hx;exact⟨fun h=>by omega,u,uc,s,sc,y1,y2,⟨_,k1,fun h=>by omega⟩,⟨_,k2,fun h=>by omega⟩⟩
theorem VrMk.below {W W':World} {B:Nat} {zs:List Value} {L:List VR} {k0:Int} {a b c:Nat} (h:VrMk W B zs L k0 a b c) (hb:Below W.heap.size W W'):VrMk W' B zs L k0 a b c:=fun i x hx=>by
 obtain⟨h0,u,uc,s,sc,y1,y2,⟨us,h1,e1⟩,⟨ss,h2,e2⟩⟩:=h i x hx;exact⟨h0,u,uc,s,sc,y1,y2,⟨us,Ql h1 hb,e1⟩,⟨ss,Ql h2 hb,e2⟩⟩
theorem VrMk.setId {W:World} {B g n cap t:Nat} {zs:List Value} {L:List VR} {k0:Int} {b c:Nat} (h:VrMk W B zs L k0 t b c) (ho:W.ownsRow B 89 3 (.slice (some ⟨g,0,none⟩) n cap) n zs) (hL:L.length=n) (ht:t<n):
  VrMk (W.setCell ⟨g,t*3,none⟩ (.int .i64 (kvN L k0 t))) B (zs.set (t*3) (.int .i64 (kvN L k0 t))) L k0 (t+1) b c:=fun i x hx=>by
 obtain⟨oq,gq⟩:=ho.stored (t*3) (.int .i64 (kvN L k0 t));have hl:=ho.1;obtain⟨h0,u,uc,s,sc,y1,y2,⟨us,h1,e1⟩,⟨ss,h2,e2⟩⟩:=h i x hx;refine⟨fun hi=> ?_,u,uc,s,sc,by rw [List.getElem?_set_ne (by omega)];exact y1,by rw [List.getElem?_set_ne (by omega)];exact y2,⟨us,h1.kept gq (Qkt h1 ho (by decide)),e1⟩,⟨ss,h2.kept gq (Qkt h2 ho (by decide)),e2⟩⟩;by_cases e:i=t
 ·subst e;rw [List.getElem?_set_self (by omega)]
 ·rw [List.getElem?_set_ne (by omega)];exact h0 (by omega)
theorem VrMk.setUps {W W':World} {B n t:Nat} {zs:List Value} {L:List VR} {k0:Int} {a c:Nat} {x:VR} {u:Option Addr} {uc:Nat} {us0:List Value} (h:VrMk W B zs L k0 a t c) (hp:VrApt zs n) (hL:L.length=n) (hx:L[t]? =some x) (hu:zs[t*3+1]? =some (.slice u x.ups.length uc)) (h0:W.ownsRow B 2 1 (.slice u x.ups.length uc) x.ups.length us0)
  (ho:W'.ownsRow B 2 1 (.slice u x.ups.length uc) x.ups.length ((itMk (kvN L k0 t+1) x.ups.length).map (Value.int .i64))) (hg:W.grownBy W' (Value.slice u x.ups.length uc).ownBlock):VrMk W' B zs L k0 a (t+1) c:=fun i y hy=>by
 obtain⟨h1,u',uc',s,sc,y1,y2,⟨us,k1,e1⟩,⟨ss,k2,e2⟩⟩:=h i y hy;refine⟨h1,u',uc',s,sc,y1,y2,?_,⟨ss,k2.kept hg (Qkt k2 h0 (by decide)),e2⟩⟩;by_cases e:i=t
 ·subst e;rw [hx]at hy;cases hy;rw [hu]at y1;cases y1;exact⟨_,ho,fun _=>rfl⟩
 ·refine⟨us,k1.kept hg ?_,fun hi=>e1 (by omega)⟩;have:=(hp i t (by rw [←hL];exact(List.getElem?_eq_some_iff.1 hy).1) (by rw [←hL];exact(List.getElem?_eq_some_iff.1 hx).1) e).1;unfold sepAt at this;rw [blkAt_some y1,blkAt_some hu]at this;exact this
theorem VrMk.setCells {W W':World} {B n t:Nat} {zs:List Value} {L:List VR} {k0:Int} {a b:Nat} {x:VR} {s:Option Addr} {sc:Nat} {ss0:List Value} (h:VrMk W B zs L k0 a b t) (hp:VrApt zs n) (hL:L.length=n) (hx:L[t]? =some x) (hu:zs[t*3+2]? =some (.slice s x.m sc)) (h0:W.ownsRow B 67 3 (.slice s x.m sc) x.m ss0)
  (ho:W'.ownsRow B 67 3 (.slice s x.m sc) x.m (Jf ceL (mkL ceMk 3 (kvN L k0 t+1+(x.ups.length:Int)) x.m))) (hg:W.grownBy W' (Value.slice s x.m sc).ownBlock):VrMk W' B zs L k0 a b (t+1):=fun i y hy=>by
 obtain⟨h1,u',uc',s',sc',y1,y2,⟨us,k1,e1⟩,⟨ss,k2,e2⟩⟩:=h i y hy;refine⟨h1,u',uc',s',sc',y1,y2,⟨us,k1.kept hg (Qkt k1 h0 (by decide)),e1⟩,?_⟩;by_cases e:i=t
 ·subst e;rw [hx]at hy;cases hy;rw [hu]at y2;cases y2;exact⟨_,ho,fun _=>rfl⟩
 ·refine⟨ss,k2.kept hg ?_,fun hi=>e2 (by omega)⟩;have:=(hp i t (by rw [←hL];exact(List.getElem?_eq_some_iff.1 hy).1) (by rw [←hL];exact(List.getElem?_eq_some_iff.1 hx).1) e).2;unfold sepAt at this;rw [blkAt_some y2,blkAt_some hu]at this;exact this
theorem laws_markVersionSS {B n hi:Nat} {v:Value} {ys:List Value} {L:List VR} (k0:Int) (w:World) (h:w.ownsRow B 89 3 v n ys) (hL:L.length=n) (hp:VrPart w B ys L n) (ha:VrApt ys n) (hl: ∀x∈L,JS x) (hn:n≤1048576) (hh: ∀k,v.ownBlock=some k→k<hi) (hlt:VrLt ys n hi) (h0:0<k0) (h1:k0≤1000):
  Calls Tryz.prog 37 #[v,.int .i64 k0] w fun e w'=>e= .returned (.int .i64 (kvN L k0 n))∧(∃zs,w'.ownsRow B 89 3 v n zs∧VrMk w' B zs L k0 n n n)∧FrX B hi w w':=by
 have HO:Hid (w.ownsRow B 89 3 v n ys):=h;have HL:Hid (L.length=n):=hL;have HP:Hid (VrMk w B ys L k0 0 0 0):=VrMk.start (by rw [hL];exact hp);have HA:Hid (VrApt ys n):=ha;have HI:Hid (∀x∈L,JS x):=hl;have HH:Hid (∀k,v.ownBlock=some k→k<hi):=hh;have HLT:Hid (VrLt ys n hi):=hlt
 obtain⟨A,cap,rfl,_,_⟩:=Qo h;clear h hL hp ha hl hh hlt;go_enter Tryz.func37,Tryz.ntmps37;go_wp2_with fail
 go_loopw [1,5] (fun q i wr=> ∃(t:Nat) (zs:List Value),t≤n∧i= .int .i64 t∧q= .int .i64 (kvN L k0 t)∧wr.ownsRow B 89 3 (.slice A n cap) n zs∧VrMk wr B zs L k0 t t t∧VrApt zs n∧VrLt zs n hi∧FrX B hi w wr) (fun _ i _=>n-(intOf i).toNat)
 case atStart=>exact⟨0,ys,Nat.zero_le _,rfl,rfl,HO.out,HP.out,HA.out,HLT.out,FrX.refl _ _ _⟩
 case round=>
  obtain⟨t,zs,ht,rfl,rfl,hown,hmk,hap,hlz,hfr⟩:=hrel;by_cases hlt:t<n
  ·obtain⟨x,hx⟩:=ZD HL.out hlt;have HXT:Hid (L[t]? =some x):=hx;have HXL:Hid (JS x):=HI.out x (List.mem_of_getElem? hx);obtain⟨k,HKV⟩: ∃k,Hid (kvN L k0 t=k):=⟨_,rfl⟩;have hkb:=kvN_bd (k0:=k0) HI.out t;rw [HKV.out]at hkb;have hk0:0<k:=by omega
   have hk1:k≤8796093022208:=by omega
   obtain⟨_,u,uc,s,sc,y1,y2,_,_⟩:=hmk t x hx;have Y1:Hid (zs[t*3+1]? =some (.slice u x.ups.length uc)):=y1;have Y2:Hid (zs[t*3+2]? =some (.slice s x.m sc)):=y2;obtain⟨un,HUN⟩: ∃un,Hid (x.ups.length=un):=⟨_,rfl⟩;obtain⟨mn,HMN⟩: ∃mn,Hid (x.m=mn):=⟨_,rfl⟩;have hun:un≤1048576:=by rw [←HUN.out];exact HXL.out.1
   have hmn:mn≤1048576:=by rw [←HMN.out];exact HXL.out.2
   obtain⟨A',cap',e,_,hc⟩:=Qo hown;cases e
   have hl9:=hown.1;obtain⟨g,rfl,_,hg,d0,f0⟩:=hc (t*3) (by omega);obtain⟨z0,hz0⟩: ∃z,zs[t*3]? =some z:=⟨_,List.getElem?_eq_getElem (by omega)⟩;rw [hz0]at d0;have d1:wr.cell? ⟨g,t*3+1,none⟩=some (.slice u un uc):=by rw [hown.cellAt (t*3+1) (by omega),y1,HUN.out]
   obtain⟨Y,HY⟩: ∃Y,Hid (wr.setCell ⟨g,t*3,none⟩ (.int .i64 k)=Y):=⟨_,rfl⟩;obtain⟨zs1,HZ1⟩: ∃zs1,Hid (zs.set (t*3) (.int .i64 k)=zs1):=⟨_,rfl⟩;obtain⟨oq,gq⟩:=hown.stored (t*3) (.int .i64 k);have O1:Hid (Y.ownsRow B 89 3 (.slice (some ⟨g,0,none⟩) n cap) n zs1):=by rw [←HY.out,←HZ1.out];exact oq
   have M1:Hid (VrMk Y B zs1 L k0 (t+1) t t):=by
    have h9:=hmk.setId hown HL.out hlt;rw [HKV.out,HY.out,HZ1.out]at h9;exact h9
   have P1:Hid (VrApt zs1 n):=hap.same (fun i hi=>by rw [←HZ1.out,List.getElem?_set_ne (by omega),List.getElem?_set_ne (by omega)];exact⟨rfl,rfl⟩);have F1:Hid (FrX B hi w Y):=hfr.trans (by rw [←HY.out];exact FrX.own hown HH.out oq gq);have L1:Hid (VrLt zs1 n hi):=hlz.same (fun i hi=>by rw [←HZ1.out,List.getElem?_set_ne (by omega),List.getElem?_set_ne (by omega)];exact⟨rfl,rfl⟩);have Y1':Hid (zs1[t*3+1]? =some (.slice u x.ups.length uc)):=by rw [←HZ1.out,List.getElem?_set_ne (by omega)];exact y1
   have Y2':Hid (zs1[t*3+2]? =some (.slice s x.m sc)):=by rw [←HZ1.out,List.getElem?_set_ne (by omega)];exact y2
   clear hown hmk hap hfr hlz hc hz0 hx hl9 y1 y2 oq gq;have q0:(0:Int)≤(t:Int):=by omega
   have q1:(t:Int)<(n:Int):=by omega
   rw [HKV.out];go_wp2_with fail
   rw [HY.out];obtain⟨_,u',uc',s',sc',e1,e2,⟨us,hus,_⟩,_⟩:=M1.out t x HXT.out;rw [Y1'.out]at e1;cases e1;have US:Hid (Y.ownsRow B 2 1 (.slice u x.ups.length uc) x.ups.length us):=hus;have US':Hid (Y.ownsRow B 2 1 (.slice u un uc) un us):=by rw [←HUN.out];exact hus
   clear hus e2;refine(laws_markInt64S (k+1) Y US'.out hun (by omega) (by omega)).mono ?_;rintro e w2 ⟨rfl,ho2,hg2⟩;have ho2':w2.ownsRow B 2 1 (.slice u x.ups.length uc) x.ups.length ((itMk (kvN L k0 t+1) x.ups.length).map (Value.int .i64)):=by rw [HUN.out,HKV.out];exact ho2
   have hg2':Y.grownBy w2 (Value.slice u x.ups.length uc).ownBlock:=by rw [HUN.out];exact hg2
   have M2:Hid (VrMk w2 B zs1 L k0 (t+1) (t+1) t):=M1.out.setUps P1.out HL.out HXT.out Y1'.out US.out ho2' hg2';have F2:Hid (FrX B hi w w2):=F1.out.trans (FrX.own US.out (fun q hq=>(L1.out t hlt).1 q (by rw [blkAt_some Y1'.out];exact hq)) ho2' hg2');have O2:Hid (w2.ownsRow B 89 3 (.slice (some ⟨g,0,none⟩) n cap) n zs1):=O1.out.kept hg2 (Qkt O1.out US'.out (by decide));have d2:w2.cell? ⟨g,t*3+2,none⟩=some (.slice s mn sc):=by rw [O2.out.cellAt (t*3+2) (by omega),Y2'.out,HMN.out]
   have hgz:g<w2.heap.size:=(O2.out.lt g rfl).2;clear ho2 hg2 ho2' hg2' d1 d0 f0 hg O1 M1 F1 US US';go_wp2_with fail
   obtain⟨_,u',uc',s',sc',e1,e2,_,⟨ss,hss,_⟩⟩:=M2.out t x HXT.out;rw [Y2'.out]at e2;cases e2;have SS:Hid (w2.ownsRow B 67 3 (.slice s x.m sc) x.m ss):=hss;have SS':Hid (w2.ownsRow B 67 3 (.slice s mn sc) mn ss):=by rw [←HMN.out];exact hss
   clear hss e1;refine(laws_markCellS (k+1+(un:Int)) w2 SS'.out hmn (by omega) (by omega)).mono ?_;rintro e w3 ⟨rfl,ho3,hg3⟩;have ho3':w3.ownsRow B 67 3 (.slice s x.m sc) x.m (Jf ceL (mkL ceMk 3 (kvN L k0 t+1+(x.ups.length:Int)) x.m)):=by rw [HMN.out,HKV.out,HUN.out];exact ho3
   have hg3':w2.grownBy w3 (Value.slice s x.m sc).ownBlock:=by rw [HMN.out];exact hg3
   have M3:Hid (VrMk w3 B zs1 L k0 (t+1) (t+1) (t+1)):=M2.out.setCells P1.out HL.out HXT.out Y2'.out SS.out ho3' hg3';have F3:Hid (FrX B hi w w3):=F2.out.trans (FrX.own SS.out (fun q hq=>(L1.out t hlt).2 q (by rw [blkAt_some Y2'.out];exact hq)) ho3' hg3');have O3:Hid (w3.ownsRow B 89 3 (.slice (some ⟨g,0,none⟩) n cap) n zs1):=O2.out.kept hg3 (Qkt O2.out SS'.out (by decide));have HKS:Hid (k+1+(un:Int)+(mn:Int)*3=kvN L k0 (t+1)):=by show _=_;rw [kvN_succ HXT.out,HKV.out,HUN.out,HMN.out]
   clear ho3 hg3 ho3' hg3' d2 hgz O2 M2 F2 SS SS';go_wp2_with fail
   go_roundw
   case rel=>exact⟨t+1,zs1,by omega,by go_num,by rw [←HKS.out],O3.out,M3.out,P1.out,L1.out,F3.out⟩
   case measure=>simp [intOf];omega
  ·have h1: ¬(t:Int)<(n:Int):=by omega
   obtain rfl:t=n:=by omega
   go_wp2_with fail
   go_ret;exact⟨rfl,⟨zs,hown,hmk⟩,hfr⟩
theorem int_own1 {W:World} {B n:Nat} {e:TypeId} {A:Option Addr} {cap:Nat} {l:List Int} (hn:l.length=n) (h:W.ownsRow B e 1 (.slice A n cap) n (l.map (Value.int .i64))):IntRow W A l:=by
 subst hn;exact Xr h
theorem laws_heldVersionS {B n cap:Nat} {A:Option Addr} {zs:List Value} {L:List VR} (k0:Int) (w:World) (h:w.ownsRow B 89 3 (.slice A n cap) n zs) (hL:L.length=n) (hm:VrMk w B zs L k0 n n n) (hl: ∀x∈L,JS x) (hn:n≤1048576) (h0:0<k0) (h1:k0≤1000):
  Calls Tryz.prog 40 #[.slice A n cap,.int .i64 k0] w fun e w'=>e= .returned (.int .i64 (kvN L k0 n))∧Below w.heap.size w w':=by
 have HO:Hid (w.ownsRow B 89 3 (.slice A n cap) n zs):=h;have HL:Hid (L.length=n):=hL;have HM:Hid (VrMk w B zs L k0 n n n):=hm;have HI:Hid (∀x∈L,JS x):=hl;clear h hL hm hl;go_enter Tryz.func40,Tryz.ntmps40;go_wp2_with fail
 go_loopw [1,5] (fun q i wr=> ∃t:Nat,t≤n∧i= .int .i64 t∧q= .int .i64 (kvN L k0 t)∧Below w.heap.size w wr) (fun _ i _=>n-(intOf i).toNat)
 case atStart=>exact⟨0,Nat.zero_le _,rfl,rfl,Below.refl _ _⟩
 case round=>
  obtain⟨t,ht,rfl,rfl,hbel⟩:=hrel;by_cases hlt:t<n
  ·obtain⟨x,hx⟩:=ZD HL.out hlt;have HXT:Hid (L[t]? =some x):=hx;have HXL:Hid (JS x):=HI.out x (List.mem_of_getElem? hx);obtain⟨k,HKV⟩: ∃k,Hid (kvN L k0 t=k):=⟨_,rfl⟩;have hkb:=kvN_bd (k0:=k0) HI.out t;rw [HKV.out]at hkb;have hk0:0<k:=by omega
   have hk1:k≤8796093022208:=by omega
   obtain⟨y0,u,uc,s,sc,y1,y2,⟨us,hus,eus⟩,⟨ss,hss,ess⟩⟩:=HM.out t x hx;rw [eus hlt]at hus;rw [ess hlt]at hss;replace y0:=y0 hlt;obtain⟨un,HUN⟩: ∃un,Hid (x.ups.length=un):=⟨_,rfl⟩;obtain⟨mn,HMN⟩: ∃mn,Hid (x.m=mn):=⟨_,rfl⟩;rw [HKV.out,HUN.out]at hus
   rw [HKV.out,HUN.out,HMN.out]at hss;rw [HKV.out]at y0;rw [HUN.out]at y1;rw [HMN.out]at y2;have hun:un≤1048576:=by rw [←HUN.out];exact HXL.out.1
   have hmn:mn≤1048576:=by rw [←HMN.out];exact HXL.out.2
   have HUS:Hid (IntRow w u (itMk (k+1) un)):=int_own1 (itMk_len _ _) hus;have HSS:Hid (CeRow w s (mkL ceMk 3 (k+1+(un:Int)) mn)):=RowAt.of_own ceL_len hss (Ql6 _ _ _ _);have O1:=hd (Ql HO.out hbel);obtain⟨A',cap',e,_,hc⟩:=Qo O1.out;cases e
   obtain⟨g,rfl,_,hg,d0,_⟩:=hc (t*3) (by omega);rw [y0]at d0;have d1:wr.cell? ⟨g,t*3+1,none⟩=some (.slice u un uc):=by rw [O1.out.cellAt (t*3+1) (by omega),y1]
   have d2:wr.cell? ⟨g,t*3+2,none⟩=some (.slice s mn sc):=by rw [O1.out.cellAt (t*3+2) (by omega),y2]
   have q0:(0:Int)≤(t:Int):=by omega
   have q1:(t:Int)<(n:Int):=by omega
   have HB:Hid (Below w.heap.size w wr):=hbel;have e0:(k !=k)=false:=by simp
   clear hx hus hss eus ess hc hbel y0 y1 y2;rw [HKV.out];go_wp2_with fail
   refine(laws_heldInt64S (k+1) _ (HUS.out.below HB.out) hun (by omega) (by omega)).mono ?_;rintro e w1 ⟨rfl,hw⟩;subst w1;have n1: ¬k+1+(un:Int)<0:=by omega
   go_wp2_with fail
   refine(laws_heldCellS (k+1+(un:Int)) _ (HSS.out.below HB.out) hmn (by omega) (by omega)).mono ?_;rintro e w2 ⟨rfl,hb⟩;have HB2:=hd (Qb HB.out hb);have n2: ¬k+1+(un:Int)+(mn:Int)*3<0:=by omega
   have HKS:Hid (k+1+(un:Int)+(mn:Int)*3=kvN L k0 (t+1)):=by show _=_;rw [kvN_succ HXT.out,HKV.out,HUN.out,HMN.out]
   clear hb;go_wp2_with fail
   go_roundw
   case rel=>exact⟨t+1,by omega,by go_num,by rw [←HKS.out],HB2.out⟩
   case measure=>simp [intOf];omega
  ·have h1: ¬(t:Int)<(n:Int):=by omega
   obtain rfl:t=n:=by omega
   go_wp2_with fail
   go_ret;exact⟨rfl,hbel⟩
def DgMk (W:World) (B:Nat) (v:Value) (d:DG):Prop:= ∃v1 v2 zs,v= .agg #[.int .i64 d.next,v1,v2]∧W.ownsRow B 89 3 v1 d.vs.length zs∧VrMk W B zs d.vs 1 d.vs.length d.vs.length d.vs.length∧W.ownsRow B 79 2 v2 d.bs.length (Jf brL (mkL brMk 2 (kvN d.vs 1 d.vs.length) d.bs.length))
theorem DgMk.below {W W':World} {B:Nat} {v:Value} {d:DG} (h:DgMk W B v d) (hb:Below W.heap.size W W'):DgMk W' B v d:=by
 obtain⟨v1,v2,zs,rfl,h1,h2,h3⟩:=h;exact⟨v1,v2,zs,rfl,Ql h1 hb,h2.below hb,Ql h3 hb⟩
def kdN (d:DG):Int:=kvN d.vs 1 d.vs.length+(d.bs.length:Int)*2
theorem kdN_pos {d:DG} (hl:DgLil d):0<kdN d:=by
 have:=(kvN_bd (k0:=1) hl.v d.vs.length).1;unfold kdN;omega
def DgOH (W:World) (B hi:Nat) (v:Value) (d:DG):Prop:= ∃v1 v2 ys,v= .agg #[.int .i64 d.next,v1,v2]∧W.ownsRow B 89 3 v1 d.vs.length ys∧VrPart W B ys d.vs d.vs.length∧VrApt ys d.vs.length∧W.ownsRow B 79 2 v2 d.bs.length (Jf brL d.bs)∧(∀k,v1.ownBlock=some k→k<hi)∧VrLt ys d.vs.length hi∧ ∀k,v2.ownBlock=some k→k<hi
theorem DgO.toH {W:World} {B:Nat} {v:Value} {d:DG} (h:DgO W B v d):DgOH W B W.heap.size v d:=by
 obtain⟨v1,v2,ys,rfl,h1,h2,h4,h3⟩:=h;exact⟨v1,v2,ys,rfl,h1,h2,h4,h3,fun k hk=>(h1.lt k hk).2,h2.ltB rfl,fun k hk=>(h3.lt k hk).2⟩
theorem DgOH.toO {W:World} {B hi:Nat} {v:Value} {d:DG} (h:DgOH W B hi v d):DgO W B v d:=by
 obtain⟨v1,v2,ys,rfl,h1,h2,h4,h3,_⟩:=h;exact⟨v1,v2,ys,rfl,h1,h2,h4,h3⟩
theorem DgOH.below {W W':World} {B hi:Nat} {v:Value} {d:DG} (h:DgOH W B hi v d) (hb:Below W.heap.size W W'):DgOH W' B hi v d:=by
 obtain⟨v1,v2,ys,rfl,h1,h2,h4,h3,b⟩:=h;exact⟨v1,v2,ys,rfl,Ql h1 hb,h2.below hb,h4,Ql h3 hb,b⟩
theorem DgOH.frx {W W':World} {lo hi' hi B:Nat} {v:Value} {d:DG} (h:DgOH W B hi v d) (hf:FrX lo hi' W W') (hB:hi'≤B):DgOH W' B hi v d:=by
 obtain⟨v1,v2,ys,rfl,h1,h2,h4,h3,b⟩:=h;refine⟨v1,v2,ys,rfl,hf.keep h1 (fun k hk=>Or.inr (Nat.le_trans hB (h1.lt k hk).1)),fun i x hi hx=> ?_,h4,hf.keep h3 (fun k hk=>Or.inr (Nat.le_trans hB (h3.lt k hk).1)),b⟩;obtain⟨u,uc,s,sc,y0,y1,y2,k1,k2⟩:=h2 i x hi hx;exact⟨u,uc,s,sc,y0,y1,y2,hf.keep k1 (fun k hk=>Or.inr (Nat.le_trans hB (k1.lt k hk).1)),hf.keep k2 (fun k hk=>Or.inr (Nat.le_trans hB (k2.lt k hk).1))⟩
theorem laws_markDagS {v:Value} {d:DG} {B hi:Nat} (w:World) (h:DgOH w B hi v d) (hw:hi≤w.heap.size) (hl:DgLil d):
  Calls Tryz.prog 14 #[v,.int .i64 1] w fun e w'=>e= .returned (.int .i64 (kdN d))∧DgMk w' B v d∧FrX B hi w w':=by
 obtain⟨v1,v2,ys,rfl,h1,h2,h4,h3,b1,b2,b3⟩:=h;obtain⟨n1,HN1⟩: ∃n1,Hid (d.vs.length=n1):=⟨_,rfl⟩;obtain⟨n2,HN2⟩: ∃n2,Hid (d.bs.length=n2):=⟨_,rfl⟩;have HZ1:Hid (n1≤1048576):=by rw [←HN1.out];exact hl.nv
 have HZ2:Hid (n2≤1048576):=by rw [←HN2.out];exact hl.nb
 rw [HN1.out]at h1 h2 h4 b2;rw [HN2.out]at h3;have HLL:Hid (∀x∈d.vs,JS x):=hl.v;have O1:Hid (w.ownsRow B 89 3 v1 n1 ys):=h1;have P1:Hid (VrPart w B ys d.vs n1):=h2;have Q1:Hid (VrApt ys n1):=h4;have O3:Hid (w.ownsRow B 79 2 v2 n2 (Jf brL d.bs)):=h3
 have H1:Hid (∀k,v1.ownBlock=some k→k<hi):=b1;have H3:Hid (∀k,v2.ownBlock=some k→k<hi):=b3;have H2:Hid (VrLt ys n1 hi):=b2;have HHW:Hid (hi≤w.heap.size):=hw;obtain⟨A1,c1,rfl,_,_⟩:=Qo h1;obtain⟨A2,c2,rfl,_,_⟩:=Qo h3;obtain⟨kn,HKN⟩: ∃kn,Hid (kvN d.vs 1 n1=kn):=⟨_,rfl⟩
 have hkb:=kvN_bd (k0:=1) HLL.out n1;rw [HKN.out]at hkb;have hz1:=HZ1.out;have HE:Hid (kdN d=kn+(n2:Int)*2):=by show _=_;rw [kdN,HN1.out,HN2.out,HKN.out]
 rw [HE.out];clear h1 h2 h3 h4 hl b1 b2 b3 hw;go_enter Tryz.func14,Tryz.ntmps14;go_wp2_with fail
 obtain⟨X,HX⟩: ∃X,Hid (w.alloc (.cells #[.int .i64 d.next,.slice A1 n1 c1,.slice A2 n2 c2] 32)=X):=⟨_,rfl⟩;rw [HX.out];have x2:X.cell? ⟨w.heap.size,2,none⟩=some (.slice A2 n2 c2):=by rw [←HX.out];go_simp
 have zX:w.heap.size<X.heap.size:=by rw [←HX.out];simp
 have KX:Hid (Below w.heap.size w X):=by rw [←HX.out];show Below _ _ _;go_grown
 clear HX;refine(laws_markVersionSS 1 X (Ql O1.out KX.out) HN1.out (P1.out.below KX.out) Q1.out HLL.out HZ1.out H1.out H2.out (by omega) (by omega)).mono ?_;rintro e w1 ⟨rfl,⟨zs,ho1,hm1⟩,hf⟩;have F1:Hid (FrX B hi w w1):=(FrX.below KX.out).trans hf;have M1:Hid (VrMk w1 B zs d.vs 1 n1 n1 n1):=hm1;have V1:Hid (w1.ownsRow B 89 3 (.slice A1 n1 c1) n1 zs):=ho1;replace x2:=hf.cell (Or.inr HHW.out) x2
 replace zX:w.heap.size<w1.heap.size:=Nat.lt_of_lt_of_le zX hf.size;clear hf KX ho1 hm1;rw [HKN.out];obtain⟨⟨bs,hbs⟩,_⟩:=(show OwnIn B hi w 79 2 (.slice A2 n2 c2) n2 from⟨⟨_,O3.out⟩,H3.out⟩).shp F1.out.shp;have OB:Hid (w1.ownsRow B 79 2 (.slice A2 n2 c2) n2 bs):=hbs;clear hbs;go_wp2_with fail
 refine(laws_markBranchS kn w1 OB.out HZ2.out (by omega) (by omega)).mono ?_;rintro e w2 ⟨rfl,ho,hg⟩;have F2:Hid (FrX B hi w w2):=F1.out.trans (FrX.own OB.out H3.out ho hg)
 have HMK:Hid (DgMk w2 B (.agg #[.int .i64 d.next,.slice A1 n1 c1,.slice A2 n2 c2]) d):=by
  refine⟨_,_,zs,rfl,?_,?_,?_⟩
  ·rw [HN1.out];exact V1.out.kept hg (Qkt V1.out OB.out (by decide))
  ·rw [HN1.out];intro i x hx;obtain⟨h0,u,uc,s,sc,y1,y2,⟨us,k1,e1⟩,⟨ss,k2,e2⟩⟩:=M1.out i x hx;exact⟨h0,u,uc,s,sc,y1,y2,⟨us,k1.kept hg (Qkt k1 OB.out (by decide)),e1⟩,⟨ss,k2.kept hg (Qkt k2 OB.out (by decide)),e2⟩⟩
  ·rw [HN1.out,HN2.out,HKN.out];exact ho
 clear ho hg;go_wp2_with fail
 go_ret;exact⟨rfl,HMK.out,F2.out⟩
theorem laws_heldDag {v:Value} {d:DG} {B:Nat} (w:World) (h:DgMk w B v d) (hl:DgLil d):
  Calls Tryz.prog 16 #[v,.int .i64 1] w fun e w'=>e= .returned (.int .i64 (kdN d))∧Below w.heap.size w w':=by
 obtain⟨v1,v2,zs,rfl,h1,h2,h3⟩:=h;obtain⟨n1,HN1⟩: ∃n1,Hid (d.vs.length=n1):=⟨_,rfl⟩;obtain⟨n2,HN2⟩: ∃n2,Hid (d.bs.length=n2):=⟨_,rfl⟩;have HZ1:Hid (n1≤1048576):=by rw [←HN1.out];exact hl.nv
 have HZ2:Hid (n2≤1048576):=by rw [←HN2.out];exact hl.nb
 obtain⟨kn,HKN⟩: ∃kn,Hid (kvN d.vs 1 n1=kn):=⟨_,rfl⟩;rw [HN1.out]at h1 h2 h3;rw [HN2.out,HKN.out]at h3;have HLL:Hid (∀x∈d.vs,JS x):=hl.v;have O1:Hid (w.ownsRow B 89 3 v1 n1 zs):=h1;have M1:Hid (VrMk w B zs d.vs 1 n1 n1 n1):=h2;obtain⟨A1,c1,rfl,_,_⟩:=Qo h1
 obtain⟨A2,c2,rfl,_,_⟩:=Qo h3;have O3:Hid (ZT w A2 (mkL brMk 2 kn n2)):=RowAt.of_own Ni h3 (Ql6 _ _ _ _);have hkb:=kvN_bd (k0:=1) HLL.out n1;rw [HKN.out]at hkb;have hz1:=HZ1.out;have hz2:=HZ2.out;have HE:Hid (kdN d=kn+(n2:Int)*2):=by show _=_;rw [kdN,HN1.out,HN2.out,HKN.out]
 rw [HE.out];clear h1 h2 h3 hl;go_enter Tryz.func16,Tryz.ntmps16;go_wp2_with fail
 obtain⟨X,HX⟩: ∃X,Hid (w.alloc (.cells #[.int .i64 d.next,.slice A1 n1 c1,.slice A2 n2 c2] 32)=X):=⟨_,rfl⟩;rw [HX.out];have x2:X.cell? ⟨w.heap.size,2,none⟩=some (.slice A2 n2 c2):=by rw [←HX.out];go_simp
 have zX:w.heap.size<X.heap.size:=by rw [←HX.out];simp
 have KX:Hid (Below w.heap.size w X):=by rw [←HX.out];show Below _ _ _;go_grown
 clear HX;refine(laws_heldVersionS 1 X (Ql O1.out KX.out) HN1.out (M1.out.below KX.out) HLL.out HZ1.out (by omega) (by omega)).mono ?_;rintro e w1 ⟨rfl,hb⟩;replace x2:=cy hb x2;replace zX:w.heap.size<w1.heap.size:=Nat.lt_of_lt_of_le zX hb.size;replace KX:=hd (Qb KX.out hb);clear hb
 rw [HKN.out];have n1': ¬kn<0:=by omega
 go_wp2_with fail
 refine(laws_heldBranchS kn w1 (O3.out.below KX.out) HZ2.out (by omega) (by omega)).mono ?_;rintro e w2 ⟨rfl,hb⟩;have K2:=hd (Qb KX.out hb);have n2': ¬kn+(n2:Int)*2<0:=by omega
 clear hb;go_wp2_with fail
 go_ret;exact⟨rfl,K2.out⟩
theorem grown_set (W:World) (g o:Nat) (x:Value):W.grownBy (W.setCell ⟨g,o,none⟩ x) (some g):=by
 refine⟨rfl,rfl,rfl,by simp,fun k hk hne=> ?_⟩;have:k≠g:=fun e=>hne (by rw [e]);simp [World.setCell,Array.getElem?_modify,Ne.symm this]
theorem own_setT {W:World} {B n s g o:Nat} {e t:TypeId} {v x:Value} {xs:List Value} {c:Array Value} {r:Nat × Nat} (h:W.ownsRow B e s v n xs) (hg:W.heap[g]? =some (.cells c t r)) (hne:e≠t):(W.setCell ⟨g,o,none⟩ x).ownsRow B e s v n xs:=
 h.kept (grown_set W g o x) (by
  rcases h.2 with⟨rfl,_⟩ | ⟨g',cap,cur,rfl,_,hg',_⟩
  ·exact Or.inl rfl
  ·right
   intro e9;simp only [Value.ownBlock,Option.some.injEq]at e9;subst e9;rw [hg]at hg';simp only [Option.some.injEq,Obj.cells.injEq]at hg'
   exact hne hg'.2.1.symm)
theorem blk_set {W:World} {g o:Nat} {c:Array Value} {t:TypeId} {r:Nat × Nat} {x:Value} (h:W.heap[g]? =some (.cells c t r)): ∃c',(W.setCell ⟨g,o,none⟩ x).heap[g]? =some (.cells c' t r):=by
 refine⟨c.setIfInBounds o x,?_⟩;have hl:=(Array.getElem?_eq_some_iff.1 h).1;simp [World.setCell,Array.getElem?_modify,h]
theorem own_blk_ne {W:World} {B n s g:Nat} {e t:TypeId} {v:Value} {xs:List Value} {c:Array Value} {r:Nat × Nat} (h:W.ownsRow B e s v n xs) (hg:W.heap[g]? =some (.cells c t r)) (hne:e≠t):some g≠v.ownBlock:=by
 intro e9;rcases h.2 with⟨rfl,_⟩ | ⟨g',cap,cur,rfl,_,hg',_⟩
 ·cases e9
 ·simp only [Value.ownBlock,Option.some.injEq]at e9;subst e9;rw [hg]at hg';simp only [Option.some.injEq,Obj.cells.injEq]at hg';exact hne hg'.2.1.symm
structure NBx (B g:Nat) (nx:Int) (v2:Value) (nb:Nat) (bs:List BR) (X u:World):Prop where
 c0:u.cell? ⟨g,0,none⟩=some (.int .i64 nx)
 c1: ∃x,u.cell? ⟨g,1,none⟩=some x
 c2:u.cell? ⟨g,2,none⟩=some v2
 nf: ∀o,u.frozen? ⟨g,o,none⟩=false
 gb: ∃c r,u.heap[g]? =some (.cells c 32 r)
 o2:u.ownsRow B 79 2 v2 nb (Jf brL bs)
 bel:Below B X u
theorem NBx.below {B g nb:Nat} {nx:Int} {v2:Value} {bs:List BR} {X u u':World} (h:NBx B g nx v2 nb bs X u) (hB:B≤u.heap.size) (hb:Below u.heap.size u u'):NBx B g nx v2 nb bs X u':=by
 obtain⟨c0,⟨x1,c1⟩,c2,nf,⟨c,r,gb⟩,o2,bl⟩:=h;have hg:=heap_lt gb;exact⟨cy hb c0,⟨x1,cy hb c1⟩,cy hb c2,fun o=>(hb.frozen (p:=⟨g,o,none⟩) hg).trans (nf o),⟨c,r,(hb.block g hg).trans gb⟩,Ql o2 hb,bl.trans (hb.mono hB)⟩
theorem NBx.grown {B g nb n:Nat} {nx:Int} {v1 v2:Value} {bs:List BR} {ys:List Value} {X u u':World} (h:NBx B g nx v2 nb bs X u) (hB:B≤u.heap.size) (hv:u.ownsRow B 89 3 v1 n ys) (hg:u.grownBy u' v1.ownBlock):NBx B g nx v2 nb bs X u':=by
 obtain⟨c0,⟨x1,c1⟩,c2,nf,⟨c,r,gb⟩,o2,bl⟩:=h;have hgl:=heap_lt gb;have hne:some g≠v1.ownBlock:=own_blk_ne hv gb (by decide);have hk: ∀{o:Nat} {x:Value},u.cell? ⟨g,o,none⟩=some x→u'.cell? ⟨g,o,none⟩=some x:=fun c=>(World.cell?_of_block (hg.block g hgl hne)).trans c;refine⟨hk c0,⟨x1,hk c1⟩,hk c2,fun o=>(World.frozen?_of_block (hg.block g hgl hne)).trans (nf o),⟨c,r,(hg.block g hgl hne).trans gb⟩,o2.kept hg (Qkt o2 hv (by decide)),bl.grown hg hB (fun q hq=>(hv.lt q hq).1)⟩
theorem NBx.set {B g nb:Nat} {nx:Int} {v2:Value} {bs:List BR} {X u:World} (h:NBx B g nx v2 nb bs X u) (hB:B≤g) (x:Value):NBx B g nx v2 nb bs X (u.setCell ⟨g,1,none⟩ x)∧(u.setCell ⟨g,1,none⟩ x).cell? ⟨g,1,none⟩=some x:=by
 obtain⟨c0,⟨x1,c1⟩,c2,nf,⟨c,r,gb⟩,o2,bl⟩:=h;have hs:(u.setCell ⟨g,1,none⟩ x).cell? ⟨g,1,none⟩=some x:=World.cell?_setCell_same _ _ _ (by rw [c1]);refine⟨⟨?_,⟨x,hs⟩,?_,fun o=>by simpa using nf o,?_,own_setT o2 gb (by decide),bl.setCell hB _⟩,hs⟩
 ·rw [World.cell?_setCell_other _ _ _ _ (by intro e;cases e)];exact c0
 ·rw [World.cell?_setCell_other _ _ _ _ (by intro e;cases e)];exact c2
 ·obtain⟨c',h'⟩:=blk_set (o:=1) (x:=x) gb;exact⟨c',r,h'⟩
structure CpL (B g:Nat) (nx:Int) (v2:Value) (nb:Nat) (bs:List BR) (X:World) (L:List VR) (t:Nat) (u:World):Prop where
 nb:NBx B g nx v2 nb bs X u
 vs: ∃v1 ys,u.cell? ⟨g,1,none⟩=some v1∧u.ownsRow B 89 3 v1 t ys∧VrPart u B ys L t∧VrApt ys t
theorem VrPart.snoc {W:World} {B t:Nat} {ys:List Value} {L:List VR} {x:VR} {u s:Option Addr} {uc sc:Nat} (h:VrPart W B ys L t) (hl:ys.length=t*3) (hx:L[t]? =some x)
  (h1:W.ownsRow B 2 1 (.slice u x.ups.length uc) x.ups.length (x.ups.map (Value.int .i64))) (h2:W.ownsRow B 67 3 (.slice s x.m sc) x.m (clX x.C x.R x.S x.m)):
  VrPart W B (ys++ [.int .i64 x.id,.slice u x.ups.length uc,.slice s x.m sc]) L (t+1):=fun i y hi hy=>by
 by_cases e:i=t
 ·subst e;rw [hx]at hy;cases hy;refine⟨u,uc,s,sc,?_,?_,?_,h1,h2⟩
  ·rw [List.getElem?_append_right (by omega),hl,Nat.sub_self];rfl
  ·rw [List.getElem?_append_right (by omega),hl,show i*3+1-i*3=1 by omega];rfl
  ·rw [List.getElem?_append_right (by omega),hl,show i*3+2-i*3=2 by omega];rfl
 ·obtain⟨u',uc',s',sc',y0,y1,y2,k1,k2⟩:=h i y (by omega) hy;exact⟨u',uc',s',sc',by rw [List.getElem?_append_left (by omega)];exact y0,by rw [List.getElem?_append_left (by omega)];exact y1,by rw [List.getElem?_append_left (by omega)];exact y2,k1,k2⟩
theorem VrApt.snoc {ys:List Value} {t hi:Nat} {a b c:Value} (h:VrApt ys t) (hl:ys.length=t*3) (hlt:VrLt ys t hi) (hb: ∀q,b.ownBlock=some q→hi≤q) (hc: ∀q,c.ownBlock=some q→hi≤q):VrApt (ys++ [a,b,c]) (t+1):=by
 have e1:blkAt (ys++ [a,b,c]) (t*3+1)=b.ownBlock:=blkAt_some (by rw [List.getElem?_append_right (by omega),hl,show t*3+1-t*3=1 by omega];rfl);have e2:blkAt (ys++ [a,b,c]) (t*3+2)=c.ownBlock:=blkAt_some (by rw [List.getElem?_append_right (by omega),hl,show t*3+2-t*3=2 by omega];rfl)
 have eo: ∀i,i<t→ ∀k,k<3→blkAt (ys++ [a,b,c]) (i*3+k)=blkAt ys (i*3+k):=fun i hi k hk=>by
  unfold blkAt;rw [List.getElem?_append_left (by omega)]
 have far: ∀{p q:Option Nat},(∀k,p=some k→k<hi)→(∀k,q=some k→hi≤k)→(p=none∨p≠q)∧(q=none∨q≠p):=fun{p q} h1 h2=>by
  cases p with
  | none=>exact⟨Or.inl rfl,by cases q with | none=>exact Or.inl rfl | some k=>exact Or.inr (by simp)⟩
  | some k=>
   cases q with
   | none=>exact⟨Or.inr (by simp),Or.inl rfl⟩
   | some m=>
    have h3:=h1 k rfl;have h4:=h2 m rfl;exact⟨Or.inr (by simp;omega),Or.inr (by simp;omega)⟩
 intro i j hi' hj hij;unfold sepAt;by_cases ei:i=t
 ·subst ei;have hj':j<i:=by omega
  rw [e1,e2,eo j hj' 1 (by omega),eo j hj' 2 (by omega)];exact⟨(far (hlt j hj').1 hb).2,(far (hlt j hj').2 hc).2⟩
 ·have hi2:i<t:=by omega
  rw [eo i hi2 1 (by omega),eo i hi2 2 (by omega)];by_cases ej:j=t
  ·subst ej;rw [e1,e2];exact⟨(far (hlt i hi2).1 hb).1,(far (hlt i hi2).2 hc).1⟩
  ·have hj2:j<t:=by omega
   rw [eo j hj2 1 (by omega),eo j hj2 2 (by omega)];exact h i j hi2 hj2 hij
theorem VrPart.keptV {W W':World} {B n t:Nat} {ys zs:List Value} {L:List VR} {v1:Value} (h:VrPart W B ys L t) (hv:W.ownsRow B 89 3 v1 n zs) (hg:W.grownBy W' v1.ownBlock):VrPart W' B ys L t:=fun i x hi hx=>by
 obtain⟨u,uc,s,sc,y0,y1,y2,k1,k2⟩:=h i x hi hx;exact⟨u,uc,s,sc,y0,y1,y2,k1.kept hg (Qkt k1 hv (by decide)),k2.kept hg (Qkt k2 hv (by decide))⟩
theorem VrPart.setD {W:World} {B t g o:Nat} {ys:List Value} {L:List VR} {c:Array Value} {r:Nat × Nat} {x:Value} (h:VrPart W B ys L t) (hg:W.heap[g]? =some (.cells c 32 r)):VrPart (W.setCell ⟨g,o,none⟩ x) B ys L t:=fun i y hi hy=>by
 obtain⟨u,uc,s,sc,y0,y1,y2,k1,k2⟩:=h i y hi hy;exact⟨u,uc,s,sc,y0,y1,y2,own_setT k1 hg (by decide),own_setT k2 hg (by decide)⟩
theorem CpL.next {B g nb t hi:Nat} {nx:Int} {v2 v':Value} {bs:List BR} {X q:World} {L:List VR} {x:VR} {ys:List Value} {u s:Option Addr} {uc sc:Nat} (h:NBx B g nx v2 nb bs X q) (hBg:B≤g) (hBh:B≤hi) (hv:q.ownsRow B 89 3 v' (t+1) (ys++ [.int .i64 x.id,.slice u x.ups.length uc,.slice s x.m sc])) (hl:ys.length=t*3) (hx:L[t]? =some x)
  (hp:VrPart q B ys L t) (ha:VrApt ys t) (hlt:VrLt ys t hi) (h1:q.ownsRow hi 2 1 (.slice u x.ups.length uc) x.ups.length (x.ups.map (Value.int .i64))) (h2:q.ownsRow hi 67 3 (.slice s x.m sc) x.m (clX x.C x.R x.S x.m)):
  CpL B g nx v2 nb bs X L (t+1) (q.setCell ⟨g,1,none⟩ v'):=by
 obtain⟨n1,n2⟩:=h.set hBg v';obtain⟨c,r,gb⟩:=h.gb;refine⟨n1,v',_,n2,own_setT hv gb (by decide),VrPart.setD (hp.snoc hl hx (Zc h1 hBh) (Zc h2 hBh)) gb,ha.snoc hl hlt (fun q hq=>(h1.lt q hq).1) (fun q hq=>(h2.lt q hq).1)⟩
def VCell (W:World) (g:Nat) (i:Int) (a b:Value):Prop:=W.cell? ⟨g,0,none⟩=some (.int .i64 i)∧W.cell? ⟨g,1,none⟩=some a∧W.cell? ⟨g,2,none⟩=some b
theorem VCell.below {W W':World} {g:Nat} {i:Int} {a b:Value} (h:VCell W g i a b) (hb:Below W.heap.size W W'):VCell W' g i a b:=⟨cy hb h.1,cy hb h.2.1,cy hb h.2.2⟩
theorem VCell.at {W:World} {i:Int} {a b:Value}:VCell (W.alloc (.cells #[.int .i64 i,a,b] 89)) W.heap.size i a b:=by
 refine⟨?_,?_,?_⟩<;>simp
theorem step_app_vr {W:World} {ops:Array Oper} {o:Oper} {a:Act} {K:Act→World→Prop} {Q:Exit→Act→World→Prop} {E:Prop} (hgd:o.guard=none) (s x:Operand) (ho:o.op= .call {callee:= .builtin .append,args:= #[s,x],argTypes:= #[29,29]}) (B:Nat) (v:Value) (n:Nat) (xs:List Value) (hs:a.eval s=v)
  (hown:W.ownsRow B 89 3 v n xs) (i:Int) (ua:Option Addr) (un uc:Nat) (sa:Option Addr) (sn sc:Nat) (g:Nat) (hx:a.eval x= .slice (some ⟨g,0,none⟩) 1 1) (hc:VCell W g i (.slice ua un uc) (.slice sa sn sc)) (hn:n≤1099511627776) (hB:B≤W.heap.size)
  (h: ∀v' w',w'.ownsRow B 89 3 v' (n+1) (xs++ [.int .i64 i,.slice ua un uc,.slice sa sn sc])→W.grownBy w' v.ownBlock→K (a.put o.dst v') w'):
  if Region.wanted o (yielded ops a.tmps)=true then Oper.wp Tryz.prog o a W K Q else E:=by
 have hw:Region.wanted o (yielded ops a.tmps)=true:=by simp [Region.wanted,hgd]
 rw [if_pos hw];obtain⟨i0,hi,iz0,iz1,iz2⟩:=info_parts Qj2;obtain⟨c0,c1,c2⟩:=hc;refine wp_append_own W s x 29 ho B 89 i0 (.agg #[.int .i64 0,.slice none 0 0,.slice none 0 0]) 3 56 Tryz.underlying29 hi iz0 iz1 iz2 rfl (by decide) v n xs hs hown ⟨g,0,none⟩ 1 1 [.int .i64 i,.slice ua un uc,.slice sa sn sc] hx rfl ?_ ?_ ?_ ?_ hB ?_
 ·intro q u hq;match q,hq with
  | 0,hq=>simp at hq;subst hq;simpa [Addr.add]using c0
  | 1,hq=>simp at hq;subst hq;simpa [Addr.add]using c1
  | 2,hq=>simp at hq;subst hq;simpa [Addr.add]using c2
 ·intro u hu;simp at hu;rcases hu with rfl | rfl | rfl<;>rfl
 ·unfold maxLen;omega
 ·omega
 ·intro v' w3 hown' hgrow _;exact h v' w3 hown' hgrow
theorem int_cellsA {W:World} {A:Option Addr} {l:List Int} (h:IntRow W A l): ∀ad,A=some ad→ ∀j u,(l.map (Value.int .i64))[j]? =some u→W.cell? (ad.add j)=some u:=by
 intro ad hA j u hu;have hj:j<l.length:=by have:=(List.getElem?_eq_some_iff.1 hu).1;rwa [List.length_map]at this
 obtain⟨b,o,e,_,c⟩:=h.2 j hj;rw [hA]at e;cases e
 rw [Qel l j hj]at hu;cases hu
 rw [Go.WideShapes.add_plain];exact c
theorem int_none {W:World} {A:Option Addr} {l:List Int} (h:IntRow W A l) (hA:A=none):l.length=0:=by
 cases l with
 | nil=>rfl
 | cons x r=>obtain⟨b,o,e,_⟩:=h.2 0 (by simp);rw [hA]at e;cases e
theorem int_oneC (l:List Int): ∀u∈l.map (Value.int .i64),u.oneCell'=true:=by
 intro u hu;obtain⟨i,_,rfl⟩:=List.mem_map.1 hu;rfl
theorem impl_listCopyI {A:Option Addr} {n c:Nat} {l:List Int} (w:World) (h:IntRow w A l) (hL:l.length=n) (hn:n≤1048576):
  Calls Tryz.prog 94 #[.slice A n c] w fun e w'=> ∃A' c',e= .returned (.slice A' n c')∧w'.ownsRow w.heap.size 2 1 (.slice A' n c') n (l.map (Value.int .i64))∧Below w.heap.size w w':=by
 have HR:Hid (IntRow w A l):=h;have HL:Hid (l.length=n):=hL;have HX:Hid ((l.map (Value.int .i64)).length=n*1):=by show _=_;rw [List.length_map,hL];omega
 obtain⟨i0,hi,iz0,iz1,iz2⟩:=info_parts MY;clear h hL;go_enter Tryz.func94,Tryz.ntmps94
 go_wp2_with (first
  | (at_builtin;refine wpList_copyG 62 2 i0 (.int .i64 0) 1 8 Tryz.underlying62 hi iz0 iz1 iz2 rfl (by decide) rfl _ _ rfl w.heap.size (Nat.le_refl _) _ rfl (World.ownsRow_nil _ _ _ _) A n c (l.map (Value.int .i64)) rfl HX.out (fun e=>HL.out.symm.trans (int_none HR.out e)) (int_cellsA HR.out) (int_oneC l) (by unfold maxLen;omega) (by omega) ?_)
  | fail)
 intro A' c' w' ho hg;have HO:Hid (w'.ownsRow w.heap.size 2 1 (.slice A' n c') n (l.map (Value.int .i64))):=ho;have HB:Hid (Below w.heap.size w w'):=(Below.refl _ _).grown hg (Nat.le_refl _) (fun j hj=>by cases hj);clear ho hg;go_wp2_with fail
 go_ret;exact⟨A',c',rfl,HO.out,HB.out⟩
theorem br_cells {W:World} {A:Option Addr} {L:List BR} (h:ZT W A L): ∀ad,A=some ad→ ∀j u,(Jf brL L)[j]? =some u→W.cell? (ad.add j)=some u:=by
 intro ad hA j u hu;have hj:j<L.length*2:=by rw [←Db Ni];exact(List.getElem?_eq_some_iff.1 hu).1
 have e:j=(j/2)*2+j%2:=by omega
 have hm:j%2<2:=by omega
 rw [e,Nb Ni _ hm]at hu;cases hx:L[j/2]? with
 | none=>rw [hx]at hu;cases hu
 | some x=>
  rw [hx]at hu;obtain⟨b,o,e',_,hc⟩:=h.2 _ x hx;rw [hA]at e';cases e'
  have:=hc _ u hu
  have e2:(⟨b,o,none⟩:Addr).add j=⟨b,o+j/2*2+j%2,none⟩:=by
   rw [Go.WideShapes.add_plain];congr 1
   omega
  rw [e2];exact this
theorem br_none {W:World} {A:Option Addr} {L:List BR} (h:ZT W A L) (hA:A=none):L.length=0:=by
 cases L with
 | nil=>rfl
 | cons x r=>obtain⟨b,o,e,_⟩:=h.2 0 x (by simp);rw [hA]at e;cases e
theorem br_oneC (L:List BR): ∀u∈Jf brL L,u.oneCell'=true:=by
 intro u hu;obtain⟨x,_,hx⟩:=List.mem_flatMap.1 hu;simp only [brL,List.mem_cons,List.not_mem_nil,or_false]at hx;rcases hx with rfl | rfl<;>rfl
theorem impl_listCopyB {A:Option Addr} {n c:Nat} {L:List BR} (w:World) (h:ZT w A L) (hL:L.length=n) (hn:n≤1048576):
  Calls Tryz.prog 93 #[.slice A n c] w fun e w'=> ∃A' c',e= .returned (.slice A' n c')∧w'.ownsRow w.heap.size 79 2 (.slice A' n c') n (Jf brL L)∧Below w.heap.size w w':=by
 have HR:Hid (ZT w A L):=h;have HL:Hid (L.length=n):=hL;have HX:Hid ((Jf brL L).length=n*2):=by show _=_;rw [Db Ni,hL]
 obtain⟨i0,hi,iz0,iz1,iz2⟩:=info_parts Qj4;clear h hL;go_enter Tryz.func93,Tryz.ntmps93
 go_wp2_with (first
  | (at_builtin;refine wpList_copyG 30 79 i0 (.agg #[.string ⟨#[]⟩,.int .i64 0]) 2 24 Tryz.underlying30 hi iz0 iz1 iz2 rfl (by decide) rfl _ _ rfl w.heap.size (Nat.le_refl _) _ rfl (World.ownsRow_nil _ _ _ _) A n c (Jf brL L) rfl HX.out (fun e=>HL.out.symm.trans (br_none HR.out e)) (br_cells HR.out) (br_oneC L) (by unfold maxLen;omega) (by omega) ?_)
  | fail)
 intro A' c' w' ho hg;have HO:Hid (w'.ownsRow w.heap.size 79 2 (.slice A' n c') n (Jf brL L)):=ho;have HB:Hid (Below w.heap.size w w'):=(Below.refl _ _).grown hg (Nat.le_refl _) (fun j hj=>by cases hj);clear ho hg;go_wp2_with fail
 go_ret;exact⟨A',c',rfl,HO.out,HB.out⟩
theorem NBx.lit {B nb:Nat} {nx:Int} {A2:Option Addr} {c2:Nat} {bs:List BR} {X q:World} (hB:B≤q.heap.size) (hb:Below B X q) (ho:q.ownsRow B 79 2 (.slice A2 nb c2) nb (Jf brL bs)) (L:List VR):
  CpL B q.heap.size nx (.slice A2 nb c2) nb bs X L 0 (q.alloc (.cells #[.int .i64 nx,.slice none 0 0,.slice A2 nb c2] 32)):=
 ⟨⟨by simp,⟨.slice none 0 0,by simp⟩,by simp,fun o=>by simp,⟨_,_,heap_alloc_new q _⟩,ho.alloc _,hb.alloc hB _⟩,.slice none 0 0,[],by simp,World.ownsRow_nil _ _ _ _,fun i x hi=>by omega,fun i j hi=>by omega⟩
theorem CpL.put {B g nb:Nat} {nx:Int} {A2:Option Addr} {c2:Nat} {bs:List BR} {X q:World} {a b c:Value} (gb:q.heap[g]? =some (.cells #[a,b,c] 32 (0,0))) (hB:B≤g) (hb:Below B X q) (ho:q.ownsRow B 79 2 (.slice A2 nb c2) nb (Jf brL bs)) (L:List VR):
  CpL B g nx (.slice A2 nb c2) nb bs X L 0 (((q.setCell ⟨g,0,none⟩ (.int .i64 nx)).setCell ⟨g,1,none⟩ (.slice none 0 0)).setCell ⟨g,2,none⟩ (.slice A2 nb c2)):=by
 have h0:q.ownsRow B 32 3 (.slice (some ⟨g,0,none⟩) 1 1) 1 [a,b,c]:=⟨rfl,Or.inr ⟨g,1,#[a,b,c],rfl,hB,gb,Nat.le_refl _,by unfold maxLen;omega,rfl,rfl⟩⟩;obtain⟨h1,h2⟩:=MR [.int .i64 nx,.slice none 0 0,.slice A2 nb c2] q 0 _ h0;simp only [Ua,Kp,List.set_cons_zero,List.set_cons_succ,Nat.zero_add,Nat.reduceAdd]at h1 h2;have hz:B≤q.heap.size:=Nat.le_trans hB (Nat.le_of_lt (heap_lt gb));have e0:=h1.cellAt 0 (by omega);have e1:=h1.cellAt 1 (by omega);have e2:=h1.cellAt 2 (by omega)
 refine⟨⟨e0,⟨_,e1⟩,e2,fun o=>h1.frozenAt o,?_,ho.kept h2 (Qkt ho h0 (by decide)),hb.grown h2 hz (fun j hj=>by cases hj;exact hB)⟩,.slice none 0 0,[],e1,World.ownsRow_nil _ _ _ _,fun i x hi=>by omega,fun i j hi=>by omega⟩;rcases h1.2 with⟨e9,_⟩ | ⟨g',cap,cur,e9,_,hg',_⟩
 ·cases e9
 ·cases e9;exact⟨cur,_,hg'⟩
theorem DgO.setB {W:World} {B g o:Nat} {v x:Value} {d:DG} (h:DgO W B v d) (hg:g<B):DgO (W.setCell ⟨g,o,none⟩ x) B v d:=by
 have key: ∀{e:TypeId} {s n:Nat} {v:Value} {xs:List Value},W.ownsRow B e s v n xs→(W.setCell ⟨g,o,none⟩ x).ownsRow B e s v n xs:=fun{e s n v xs} h=>h.kept (grown_set W g o x) (by
  cases hv:v.ownBlock with
  | none=>exact Or.inl rfl
  | some q=>exact Or.inr (fun e=>by have:=(h.lt q hv).1;cases e;omega))
 obtain⟨v1,v2,ys,rfl,h1,h2,h4,h3⟩:=h;refine⟨v1,v2,ys,rfl,key h1,fun i y hi hy=> ?_,h4,key h3⟩;obtain⟨u,uc,s,sc,y0,y1,y2,k1,k2⟩:=h2 i y hi hy;exact⟨u,uc,s,sc,y0,y1,y2,key k1,key k2⟩
theorem impl_dcopied {v:Value} {d:DG} (w:World) (h:DgRow w v d) (hl:DgLil d):
  Calls Tryz.prog 60 #[v] w fun e w'=> ∃v',e= .returned v'∧DgO w' w.heap.size v' d∧Below w.heap.size w w':=by
 obtain⟨A1,n1,c1,A2,n2,c2,rfl⟩:=h.agg;obtain⟨r1,e1,r2,e2⟩:=h.open;have R1:Hid (VrRow w A1 d.vs):=r1;have R2:Hid (ZT w A2 d.bs):=r2;have E1:Hid (d.vs.length=n1):=e1;have E2:Hid (d.bs.length=n2):=e2;have HL:Hid (DgLil d):=hl
 have hn1:n1≤1048576:=by rw [←e1];exact hl.nv
 have hn2:n2≤1048576:=by rw [←e2];exact hl.nb
 clear h r1 r2 e1 e2 hl;go_enter Tryz.func60,Tryz.ntmps60;go_upto_region 1 with fail
 obtain⟨X,HX⟩: ∃X,Hid ((w.alloc (.cells #[.int .i64 d.next,.slice A1 n1 c1,.slice A2 n2 c2] 32)).alloc (.cells #[.int .i64 0,.slice none 0 0,.slice none 0 0] 32)=X):=⟨_,rfl⟩;rw [HX.out];have x0:X.cell? ⟨w.heap.size,0,none⟩=some (.int .i64 d.next):=by rw [←HX.out];go_simp
 have x1:X.cell? ⟨w.heap.size,1,none⟩=some (.slice A1 n1 c1):=by rw [←HX.out];go_simp
 have x2:X.cell? ⟨w.heap.size,2,none⟩=some (.slice A2 n2 c2):=by rw [←HX.out];go_simp
 have p0:X.cell? ⟨w.heap.size+1,0,none⟩=some (.int .i64 0):=by rw [←HX.out];go_simp
 have p1:X.cell? ⟨w.heap.size+1,1,none⟩=some (.slice none 0 0):=by rw [←HX.out];go_simp
 have p2:X.cell? ⟨w.heap.size+1,2,none⟩=some (.slice none 0 0):=by rw [←HX.out];go_simp
 have pf: ∀o,X.frozen? ⟨w.heap.size+1,o,none⟩=false:=fun o=>by rw [←HX.out];go_simp
 have ZX:Hid (X.heap.size=w.heap.size+2):=by rw [←HX.out];show _=_;simp
 have zX0:w.heap.size<X.heap.size:=by have:=ZX.out;omega
 have zX1:w.heap.size+1<X.heap.size:=by have:=ZX.out;omega
 have KX:Hid (Below w.heap.size w X):=by rw [←HX.out];show Below _ _ _;go_grown
 clear HX;go_cut [3] (fun p wx=> ∃g A3 c3,p= .pointer (some ⟨g,0,none⟩)∧X.heap.size≤g∧CpL X.heap.size g d.next (.slice A3 n2 c3) n2 d.bs X d.vs 0 wx)
 case first=>
  go_region_held3 (fun w'=>(∀bq oq,bq<X.heap.size→w'.cell? ⟨bq,oq,none⟩=X.cell? ⟨bq,oq,none⟩)∧X.heap.size≤w'.heap.size∧Below X.heap.size X w')
   (exact Qj (Nat.le_refl _) (by go_grown))
   (first
   | (go_at_call 93;refine(impl_listCopyB _ (R2.out.below (Qb KX.out (by go_grown))) E2.out hn2).mono ?_;rintro e y1 ⟨A3,c3,rfl,ho,hb⟩;have HBB:Hid (Below _ _ y1):=hb;have HOB:Hid (y1.ownsRow X.heap.size 79 2 (.slice A3 n2 c3) n2 (Jf brL d.bs)):=Zc ho (by go_size);obtain⟨hk1,hz1⟩:=Qe (B:=X.heap.size) (X:=X) (by go_grown) (by go_size) hb;have HK1:Hid (Below X.heap.size X y1):=hk1;obtain⟨hC,hF,hL,hE⟩:=kp hb;(try simp only [World.size_drew]at hC hF hL hE);(try (refine cutLt (x:=X.heap.size) ?_ hb.size (fun hq=> ?_);(focus (go_size;done))));clear hb ho))
  all_goals
   go_wp2_with fail
   go_meet
  ·exact⟨_,A3,c3,rfl,hz1,NBx.lit hz1 HK1.out HOB.out _⟩
  ·exact⟨_,A3,c3,rfl,Nat.le_refl _,CpL.put ((HBB.out.block _ (by simp)).trans (heap_alloc_new X _)) (Nat.le_refl _) HK1.out HOB.out _⟩
 case rest=>
 obtain⟨g,A3,c3,rfl,hg,hcp⟩:=hcut;have HCP:Hid (CpL X.heap.size g d.next (.slice A3 n2 c3) n2 d.bs X d.vs 0 wc):=hcp;have k0:=cy hcp.nb.bel x0;have k1:=cy hcp.nb.bel x1;have k2:=cy hcp.nb.bel x2;have zc:w.heap.size<wc.heap.size:=Nat.lt_of_lt_of_le zX0 hcp.nb.bel.size;clear hcp
 go_wp2_with fail
 go_loopw [15] (fun i wr=> ∃t:Nat,t≤n1∧i= .int .i64 t∧CpL X.heap.size g d.next (.slice A3 n2 c3) n2 d.bs X d.vs t wr) (fun i _=>n1-(intOf i).toNat)
 case atStart=>exact⟨0,Nat.zero_le _,rfl,HCP.out⟩
 case round=>
  clear HCP k0 k1 k2 zc;obtain⟨t,ht,rfl,hcp⟩:=hrel;have HN:Hid (NBx X.heap.size g d.next (.slice A3 n2 c3) n2 d.bs X wr):=hcp.nb;obtain⟨v1,ys,hv1,ho1,hp1,ha1⟩:=hcp.vs;obtain⟨E1',f1,rfl,_,_⟩:=Qo ho1;have HBX:Hid (Below X.heap.size X wr):=hcp.nb.bel;have HNG:Hid (∃c r,wr.heap[g]? =some (.cells c 32 r)):=hcp.nb.gb
  have hg0:X.heap.size≤g:=hg;have zr:X.heap.size≤wr.heap.size:=HBX.out.size;clear hcp;by_cases hlt:t<n1
  ·obtain⟨x,hx⟩:=ZD E1.out hlt;have HXT:Hid (d.vs[t]? =some x):=hx;have HXL:Hid (JS x):=HL.out.v x (List.mem_of_getElem? hx);obtain⟨vb,vo,u,uc,s,sc,rfl,hvl,a0,a1,a2,ru,rs⟩:=R1.out.2 t x hx;have RU:Hid (IntRow w u x.ups):=ru;have RS:Hid (ClRow w s x.m x.C x.R x.S):=rs;obtain⟨un,HUN⟩: ∃un,Hid (x.ups.length=un):=⟨_,rfl⟩
   obtain⟨mn,HMN⟩: ∃mn,Hid (x.m=mn):=⟨_,rfl⟩;have hun:un≤1048576:=by rw [←HUN.out];exact HXL.out.1
   have hmn:mn≤1048576:=by rw [←HMN.out];exact HXL.out.2
   rw [HUN.out]at a1;rw [HMN.out]at a2;have KR:Hid (Below w.heap.size w wr):=KX.out.trans (HBX.out.mono (by omega));rw [←KR.out.cell (p:=⟨_,_,none⟩) hvl]at a0 a1 a2;have hvz:vb<wr.heap.size:=Nat.lt_of_lt_of_le hvl KR.out.size;have q0:(0:Int)≤(t:Int):=by omega
   have q1:(t:Int)<(n1:Int):=by omega
   have HYL:Hid (ys.length=t*3):=ho1.1;have HAP:Hid (VrApt ys t):=ha1
   have HLT:Hid (VrLt ys t wr.heap.size):=fun i hi=>by
    obtain⟨y,hy⟩:=ZD E1.out (show i<n1 by omega);obtain⟨u',uc',s',sc',_,y1,y2,k1,k2⟩:=hp1 i y hi hy;rw [blkAt_some y1,blkAt_some y2];exact⟨fun q hq=>(k1.lt q hq).2,fun q hq=>(k2.lt q hq).2⟩
   have HV1:Hid (∀k,(Value.slice E1' t f1).ownBlock=some k→k<wr.heap.size):=fun k hk=>(ho1.lt k hk).2;clear hx ru rs ha1;go_upto_region 5 with fail
   obtain⟨w5,HW5⟩: ∃w5,Hid (wr.alloc (.cells #[.int .i64 x.id,.slice u un uc,.slice s mn sc] 89)=w5):=⟨_,rfl⟩;rw [HW5.out];have hb5:Below wr.heap.size wr w5:=by rw [←HW5.out];exact(Below.refl _ _).alloc (Nat.le_refl _) _
   have VE0:Hid ((w5.drew.cell? ⟨wr.heap.size,0,none⟩=some (.int .i64 x.id)∧w5.drew.cell? ⟨wr.heap.size,1,none⟩=some (.slice u un uc)∧w5.drew.cell? ⟨wr.heap.size,2,none⟩=some (.slice s mn sc))∧wr.heap.size<w5.drew.heap.size):=by
    rw [←HW5.out];exact⟨VCell.at,by simp⟩
   have hb6:Below wr.heap.size wr w5.drew:=hb5.drew;have S0:=hd (HN.out.below zr hb6);have lb0:X.heap.size≤w5.drew.heap.size:=Nat.le_trans zr hb6.size;have RV0:=hd (Ql ho1 hb6);have PV0:Hid (VrPart w5.drew X.heap.size ys d.vs t):=hp1.below hb6;have nn0:w5.drew.cell? ⟨g,1,none⟩=some (.slice E1' t f1):=cy hb6 hv1;clear hb5 hb6 ho1 hp1 hv1 HN a0 a1 a2 hvz
   refine wp_region_held_drew (S:=(fun w'=>(w'.cell? ⟨wr.heap.size,0,none⟩=some (.int .i64 x.id)∧w'.cell? ⟨wr.heap.size,1,none⟩=some (.slice u un uc)∧w'.cell? ⟨wr.heap.size,2,none⟩=some (.slice s mn sc))∧wr.heap.size<w'.heap.size)) (by kernel_rfl) VE0.out (fun hHeld=> ?_);have hgV:g<wr.heap.size:=by obtain⟨c,r,gb⟩:=HNG.out;exact heap_lt gb
   refine tkA 0 ?_;refine tkB 2 ?_;refine tkA 3 ?_;refine tkB 4 ?_;refine tkA 5 ?_;refine tkB 7 ?_;refine tkB 8 ?_
   refine rqB 1 6 (fun Kq hKq=> ?_) (fun Kq hKq=> ?_)
   ·go_simp;refine hkB hKq (VE0.out) fun hHeld=> ?_;clear hKq Kq;refine rqA 6 (fun Kq hKq=> ?_);go_simp;refine(impl_listCopyI _ (RU.out.below (KX.out.trans (S0.out.bel.mono (by omega)))) HUN.out hun).mono ?_;rintro e q1 ⟨D1,e1,rfl,ho,hb⟩
    have N1:=hd (Zc ho (Nat.le_of_lt VE0.out.2));have S1:=hd (S0.out.below lb0 hb);have lb1:X.heap.size≤q1.heap.size:=Nat.le_trans lb0 hb.size;have RV1:=hd (Ql RV0.out hb);have PV1:=hd (PV0.out.below hb);have VE1:Hid ((q1.cell? ⟨wr.heap.size,0,none⟩=some (.int .i64 x.id)∧q1.cell? ⟨wr.heap.size,1,none⟩=some (.slice u un uc)∧q1.cell? ⟨wr.heap.size,2,none⟩=some (.slice s mn sc))∧wr.heap.size<q1.heap.size):=⟨⟨cy hb VE0.out.1.1,cy hb VE0.out.1.2.1,cy hb VE0.out.1.2.2⟩,Nat.lt_of_lt_of_le VE0.out.2 hb.size⟩;have nn1:q1.cell? ⟨g,1,none⟩=some (.slice E1' t f1):=cy hb nn0
    clear hb ho;refine hkB hKq (VE1.out) fun hHeld=> ?_;clear hKq Kq;refine rqA 9 (fun Kq hKq=> ?_);go_simp;refine(impl_listCopyC _ (show ClRow _ _ mn _ _ _ from by rw [←HMN.out];exact RS.out.below (KX.out.trans (S1.out.bel.mono (by omega)))) hmn).mono ?_;rintro e q2 ⟨D2,e2,rfl,ho,hb⟩
    have N2:=hd (Zc ho (Nat.le_of_lt VE1.out.2));have S2:=hd (S1.out.below lb1 hb);have lb2:X.heap.size≤q2.heap.size:=Nat.le_trans lb1 hb.size;have RV2:=hd (Ql RV1.out hb);have PV2:=hd (PV1.out.below hb);have VE2:Hid ((q2.cell? ⟨wr.heap.size,0,none⟩=some (.int .i64 x.id)∧q2.cell? ⟨wr.heap.size,1,none⟩=some (.slice u un uc)∧q2.cell? ⟨wr.heap.size,2,none⟩=some (.slice s mn sc))∧wr.heap.size<q2.heap.size):=⟨⟨cy hb VE1.out.1.1,cy hb VE1.out.1.2.1,cy hb VE1.out.1.2.2⟩,Nat.lt_of_lt_of_le VE1.out.2 hb.size⟩;have nn2:q2.cell? ⟨g,1,none⟩=some (.slice E1' t f1):=cy hb nn1
    have UO2:=hd (Ql N1.out hb);clear hb ho;refine hkB hKq (VE2.out) fun hHeld=> ?_;clear hKq Kq;refine tkB 10 ?_;refine rqA 11 (fun Kq hKq=> ?_);go_simp
    obtain⟨q3,HQ3⟩: ∃q,Hid (q2.alloc (.cells #[.int .i64 x.id,.slice D1 un e1,.slice D2 mn e2] 89)=q):=⟨_,rfl⟩;rw [HQ3.out];have hb:Below q2.heap.size q2 q3:=by rw [←HQ3.out];exact(Below.refl _ _).alloc (Nat.le_refl _) _
    have VC3:Hid (VCell q3 q2.heap.size x.id (.slice D1 un e1) (.slice D2 mn e2)):=by rw [←HQ3.out];exact VCell.at
    have S3:=hd (S2.out.below lb2 hb);have lb3:X.heap.size≤q3.heap.size:=Nat.le_trans lb2 hb.size;have RV3:=hd (Ql RV2.out hb);have PV3:=hd (PV2.out.below hb);have VE3:Hid ((q3.cell? ⟨wr.heap.size,0,none⟩=some (.int .i64 x.id)∧q3.cell? ⟨wr.heap.size,1,none⟩=some (.slice u un uc)∧q3.cell? ⟨wr.heap.size,2,none⟩=some (.slice s mn sc))∧wr.heap.size<q3.heap.size):=⟨⟨cy hb VE2.out.1.1,cy hb VE2.out.1.2.1,cy hb VE2.out.1.2.2⟩,Nat.lt_of_lt_of_le VE2.out.2 hb.size⟩;have nn3:q3.cell? ⟨g,1,none⟩=some (.slice E1' t f1):=cy hb nn2;have UO3:=hd (Ql UO2.out hb)
    have CO3:=hd (Ql N2.out hb);clear hb;refine hkB hKq (VE3.out) fun hHeld=> ?_;clear hKq Kq;refine rqA 12 (fun Kq hKq=> ?_);refine step_app_vr (by rfl) _ _ (by rfl) X.heap.size (.slice E1' t f1) t ys (by rfl) RV3.out x.id D1 un e1 D2 mn e2 q2.heap.size (by rfl) VC3.out (by omega) lb3 ?_;intro va4 q4 ho hg
    obtain⟨F4,h4,rfl,_,_⟩:=Qo ho;have S4:=hd (S3.out.grown lb3 RV3.out hg);have hne4:some wr.heap.size≠(Value.slice E1' t f1).ownBlock:=fun e=>Nat.lt_irrefl _ (HV1.out _ e.symm);have VE4:Hid ((q4.cell? ⟨wr.heap.size,0,none⟩=some (.int .i64 x.id)∧q4.cell? ⟨wr.heap.size,1,none⟩=some (.slice u un uc)∧q4.cell? ⟨wr.heap.size,2,none⟩=some (.slice s mn sc))∧wr.heap.size<q4.heap.size):=⟨⟨hg.cell VE3.out.1.1 hne4,hg.cell VE3.out.1.2.1 hne4,hg.cell VE3.out.1.2.2 hne4⟩,Nat.lt_of_lt_of_le VE3.out.2 hg.size⟩
    have EE4:Hid (CpL X.heap.size g d.next (.slice A3 n2 c3) n2 d.bs X d.vs (t+1) (q4.setCell ⟨g,1,none⟩ (.slice F4 (t+1) h4))):=by
     refine CpL.next (x:=x) (ys:=ys) (u:=D1) (uc:=e1) (s:=D2) (sc:=e2) S4.out hg0 zr ?_ HYL.out HXT.out (PV3.out.keptV RV3.out hg) HAP.out HLT.out ?_ ?_
     ·rw [HUN.out,HMN.out];exact ho
     ·rw [HUN.out];exact UO3.out.kept hg (Qkt UO3.out RV3.out (by decide))
     ·rw [HMN.out];exact CO3.out.kept hg (Qkt CO3.out RV3.out (by decide))
    obtain⟨gx4,gc4⟩:=S4.out.c1;have gf4:=S4.out.nf 1;have gl4:g<q4.heap.size:=World.block_lt_of_cell? q4 ⟨g,1,none⟩ gc4;clear hg ho;refine hkB hKq (VE4.out) fun hHeld=> ?_;clear hKq Kq;refine tkB 13 ?_
    refine rqA 14 (fun Kq hKq=> ?_);go_simp;have VE5:Hid (((q4.setCell ⟨g,1,none⟩ (.slice F4 (t+1) h4)).cell? ⟨wr.heap.size,0,none⟩=some (.int .i64 x.id)∧(q4.setCell ⟨g,1,none⟩ (.slice F4 (t+1) h4)).cell? ⟨wr.heap.size,1,none⟩=some (.slice u un uc)∧(q4.setCell ⟨g,1,none⟩ (.slice F4 (t+1) h4)).cell? ⟨wr.heap.size,2,none⟩=some (.slice s mn sc))∧wr.heap.size<(q4.setCell ⟨g,1,none⟩ (.slice F4 (t+1) h4)).heap.size):=⟨⟨(World.cell?_setCell_other _ _ _ _ (by intro e;cases e<;>exact absurd hgV (Nat.lt_irrefl _))).trans VE4.out.1.1,(World.cell?_setCell_other _ _ _ _ (by intro e;cases e<;>exact absurd hgV (Nat.lt_irrefl _))).trans VE4.out.1.2.1,(World.cell?_setCell_other _ _ _ _ (by intro e;cases e<;>exact absurd hgV (Nat.lt_irrefl _))).trans VE4.out.1.2.2⟩,by simpa using VE4.out.2⟩;refine hkB hKq (VE5.out) fun hHeld=> ?_;clear hKq Kq;refine wpAnyH_done (by kernel_rfl) ?_ _;clear hHeld
    go_wp2_with fail
    go_roundw
    case rel=>exact⟨t+1,by omega,by go_num,EE4.out⟩
    case measure=>simp [intOf];omega
   ·go_simp;refine(impl_listCopyI _ (RU.out.below (KX.out.trans (S0.out.bel.mono (by omega)))) HUN.out hun).mono ?_;rintro e q6 ⟨D6,e6,rfl,ho,hb⟩;have N6:=hd (Zc ho (Nat.le_of_lt VE0.out.2));have S6:=hd (S0.out.below lb0 hb);have lb6:X.heap.size≤q6.heap.size:=Nat.le_trans lb0 hb.size;have RV6:=hd (Ql RV0.out hb)
    have PV6:=hd (PV0.out.below hb);have VE6:Hid ((q6.cell? ⟨wr.heap.size,0,none⟩=some (.int .i64 x.id)∧q6.cell? ⟨wr.heap.size,1,none⟩=some (.slice u un uc)∧q6.cell? ⟨wr.heap.size,2,none⟩=some (.slice s mn sc))∧wr.heap.size<q6.heap.size):=⟨⟨cy hb VE0.out.1.1,cy hb VE0.out.1.2.1,cy hb VE0.out.1.2.2⟩,Nat.lt_of_lt_of_le VE0.out.2 hb.size⟩;have nn6:q6.cell? ⟨g,1,none⟩=some (.slice E1' t f1):=cy hb nn0;clear hb ho;refine hkB hKq (VE6.out) fun hHeld=> ?_;clear hKq Kq;refine rqB 1 9 (fun Kq hKq=> ?_) (fun Kq hKq=> ?_)
    ·go_simp;refine hkB hKq (VE6.out) fun hHeld=> ?_;clear hKq Kq;refine rqA 9 (fun Kq hKq=> ?_);go_simp;refine(impl_listCopyC _ (show ClRow _ _ mn _ _ _ from by rw [←HMN.out];exact RS.out.below (KX.out.trans (S6.out.bel.mono (by omega)))) hmn).mono ?_;rintro e q7 ⟨D7,e7,rfl,ho,hb⟩
     have N7:=hd (Zc ho (Nat.le_of_lt VE6.out.2));have S7:=hd (S6.out.below lb6 hb);have lb7:X.heap.size≤q7.heap.size:=Nat.le_trans lb6 hb.size;have RV7:=hd (Ql RV6.out hb);have PV7:=hd (PV6.out.below hb);have VE7:Hid ((q7.cell? ⟨wr.heap.size,0,none⟩=some (.int .i64 x.id)∧q7.cell? ⟨wr.heap.size,1,none⟩=some (.slice u un uc)∧q7.cell? ⟨wr.heap.size,2,none⟩=some (.slice s mn sc))∧wr.heap.size<q7.heap.size):=⟨⟨cy hb VE6.out.1.1,cy hb VE6.out.1.2.1,cy hb VE6.out.1.2.2⟩,Nat.lt_of_lt_of_le VE6.out.2 hb.size⟩;have nn7:q7.cell? ⟨g,1,none⟩=some (.slice E1' t f1):=cy hb nn6
     have UO7:=hd (Ql N6.out hb);clear hb ho;refine hkB hKq (VE7.out) fun hHeld=> ?_;clear hKq Kq;refine tkB 10 ?_;refine rqA 11 (fun Kq hKq=> ?_);go_simp
     obtain⟨q8,HQ8⟩: ∃q,Hid (q7.alloc (.cells #[.int .i64 x.id,.slice D6 un e6,.slice D7 mn e7] 89)=q):=⟨_,rfl⟩;rw [HQ8.out];have hb:Below q7.heap.size q7 q8:=by rw [←HQ8.out];exact(Below.refl _ _).alloc (Nat.le_refl _) _
     have VC8:Hid (VCell q8 q7.heap.size x.id (.slice D6 un e6) (.slice D7 mn e7)):=by rw [←HQ8.out];exact VCell.at
     have S8:=hd (S7.out.below lb7 hb);have lb8:X.heap.size≤q8.heap.size:=Nat.le_trans lb7 hb.size;have RV8:=hd (Ql RV7.out hb);have PV8:=hd (PV7.out.below hb);have VE8:Hid ((q8.cell? ⟨wr.heap.size,0,none⟩=some (.int .i64 x.id)∧q8.cell? ⟨wr.heap.size,1,none⟩=some (.slice u un uc)∧q8.cell? ⟨wr.heap.size,2,none⟩=some (.slice s mn sc))∧wr.heap.size<q8.heap.size):=⟨⟨cy hb VE7.out.1.1,cy hb VE7.out.1.2.1,cy hb VE7.out.1.2.2⟩,Nat.lt_of_lt_of_le VE7.out.2 hb.size⟩;have nn8:q8.cell? ⟨g,1,none⟩=some (.slice E1' t f1):=cy hb nn7;have UO8:=hd (Ql UO7.out hb)
     have CO8:=hd (Ql N7.out hb);clear hb;refine hkB hKq (VE8.out) fun hHeld=> ?_;clear hKq Kq;refine rqA 12 (fun Kq hKq=> ?_);refine step_app_vr (by rfl) _ _ (by rfl) X.heap.size (.slice E1' t f1) t ys (by rfl) RV8.out x.id D6 un e6 D7 mn e7 q7.heap.size (by rfl) VC8.out (by omega) lb8 ?_;intro va9 q9 ho hg
     obtain⟨F9,h9,rfl,_,_⟩:=Qo ho;have S9:=hd (S8.out.grown lb8 RV8.out hg);have hne9:some wr.heap.size≠(Value.slice E1' t f1).ownBlock:=fun e=>Nat.lt_irrefl _ (HV1.out _ e.symm);have VE9:Hid ((q9.cell? ⟨wr.heap.size,0,none⟩=some (.int .i64 x.id)∧q9.cell? ⟨wr.heap.size,1,none⟩=some (.slice u un uc)∧q9.cell? ⟨wr.heap.size,2,none⟩=some (.slice s mn sc))∧wr.heap.size<q9.heap.size):=⟨⟨hg.cell VE8.out.1.1 hne9,hg.cell VE8.out.1.2.1 hne9,hg.cell VE8.out.1.2.2 hne9⟩,Nat.lt_of_lt_of_le VE8.out.2 hg.size⟩
     have EE9:Hid (CpL X.heap.size g d.next (.slice A3 n2 c3) n2 d.bs X d.vs (t+1) (q9.setCell ⟨g,1,none⟩ (.slice F9 (t+1) h9))):=by
      refine CpL.next (x:=x) (ys:=ys) (u:=D6) (uc:=e6) (s:=D7) (sc:=e7) S9.out hg0 zr ?_ HYL.out HXT.out (PV8.out.keptV RV8.out hg) HAP.out HLT.out ?_ ?_
      ·rw [HUN.out,HMN.out];exact ho
      ·rw [HUN.out];exact UO8.out.kept hg (Qkt UO8.out RV8.out (by decide))
      ·rw [HMN.out];exact CO8.out.kept hg (Qkt CO8.out RV8.out (by decide))
     obtain⟨gx9,gc9⟩:=S9.out.c1;have gf9:=S9.out.nf 1;have gl9:g<q9.heap.size:=World.block_lt_of_cell? q9 ⟨g,1,none⟩ gc9;clear hg ho;refine hkB hKq (VE9.out) fun hHeld=> ?_;clear hKq Kq;refine tkB 13 ?_
     refine rqA 14 (fun Kq hKq=> ?_);go_simp;have VE10:Hid (((q9.setCell ⟨g,1,none⟩ (.slice F9 (t+1) h9)).cell? ⟨wr.heap.size,0,none⟩=some (.int .i64 x.id)∧(q9.setCell ⟨g,1,none⟩ (.slice F9 (t+1) h9)).cell? ⟨wr.heap.size,1,none⟩=some (.slice u un uc)∧(q9.setCell ⟨g,1,none⟩ (.slice F9 (t+1) h9)).cell? ⟨wr.heap.size,2,none⟩=some (.slice s mn sc))∧wr.heap.size<(q9.setCell ⟨g,1,none⟩ (.slice F9 (t+1) h9)).heap.size):=⟨⟨(World.cell?_setCell_other _ _ _ _ (by intro e;cases e<;>exact absurd hgV (Nat.lt_irrefl _))).trans VE9.out.1.1,(World.cell?_setCell_other _ _ _ _ (by intro e;cases e<;>exact absurd hgV (Nat.lt_irrefl _))).trans VE9.out.1.2.1,(World.cell?_setCell_other _ _ _ _ (by intro e;cases e<;>exact absurd hgV (Nat.lt_irrefl _))).trans VE9.out.1.2.2⟩,by simpa using VE9.out.2⟩;refine hkB hKq (VE10.out) fun hHeld=> ?_;clear hKq Kq;refine wpAnyH_done (by kernel_rfl) ?_ _;clear hHeld
     go_wp2_with fail
     go_roundw
     case rel=>exact⟨t+1,by omega,by go_num,EE9.out⟩
     case measure=>simp [intOf];omega
    ·go_simp;refine(impl_listCopyC _ (show ClRow _ _ mn _ _ _ from by rw [←HMN.out];exact RS.out.below (KX.out.trans (S6.out.bel.mono (by omega)))) hmn).mono ?_;rintro e q11 ⟨D11,e11,rfl,ho,hb⟩;have N11:=hd (Zc ho (Nat.le_of_lt VE6.out.2));have S11:=hd (S6.out.below lb6 hb);have lb11:X.heap.size≤q11.heap.size:=Nat.le_trans lb6 hb.size;have RV11:=hd (Ql RV6.out hb)
     have PV11:=hd (PV6.out.below hb);have VE11:Hid ((q11.cell? ⟨wr.heap.size,0,none⟩=some (.int .i64 x.id)∧q11.cell? ⟨wr.heap.size,1,none⟩=some (.slice u un uc)∧q11.cell? ⟨wr.heap.size,2,none⟩=some (.slice s mn sc))∧wr.heap.size<q11.heap.size):=⟨⟨cy hb VE6.out.1.1,cy hb VE6.out.1.2.1,cy hb VE6.out.1.2.2⟩,Nat.lt_of_lt_of_le VE6.out.2 hb.size⟩;have nn11:q11.cell? ⟨g,1,none⟩=some (.slice E1' t f1):=cy hb nn6;have UO11:=hd (Ql N6.out hb);clear hb ho;refine hkB hKq (VE11.out) fun hHeld=> ?_;clear hKq Kq
     refine tkB 10 ?_;refine rqB 1 11 (fun Kq hKq=> ?_) (fun Kq hKq=> ?_)
     ·go_simp;refine hkB hKq (VE11.out) fun hHeld=> ?_;clear hKq Kq;refine rqA 11 (fun Kq hKq=> ?_);go_simp;obtain⟨q12,HQ12⟩: ∃q,Hid (q11.alloc (.cells #[.int .i64 x.id,.slice D6 un e6,.slice D11 mn e11] 89)=q):=⟨_,rfl⟩;rw [HQ12.out]
      have hb:Below q11.heap.size q11 q12:=by rw [←HQ12.out];exact(Below.refl _ _).alloc (Nat.le_refl _) _
      have VC12:Hid (VCell q12 q11.heap.size x.id (.slice D6 un e6) (.slice D11 mn e11)):=by rw [←HQ12.out];exact VCell.at
      have S12:=hd (S11.out.below lb11 hb);have lb12:X.heap.size≤q12.heap.size:=Nat.le_trans lb11 hb.size;have RV12:=hd (Ql RV11.out hb);have PV12:=hd (PV11.out.below hb);have VE12:Hid ((q12.cell? ⟨wr.heap.size,0,none⟩=some (.int .i64 x.id)∧q12.cell? ⟨wr.heap.size,1,none⟩=some (.slice u un uc)∧q12.cell? ⟨wr.heap.size,2,none⟩=some (.slice s mn sc))∧wr.heap.size<q12.heap.size):=⟨⟨cy hb VE11.out.1.1,cy hb VE11.out.1.2.1,cy hb VE11.out.1.2.2⟩,Nat.lt_of_lt_of_le VE11.out.2 hb.size⟩;have nn12:q12.cell? ⟨g,1,none⟩=some (.slice E1' t f1):=cy hb nn11;have UO12:=hd (Ql UO11.out hb)
      have CO12:=hd (Ql N11.out hb);clear hb;refine hkB hKq (VE12.out) fun hHeld=> ?_;clear hKq Kq;refine rqA 12 (fun Kq hKq=> ?_);refine step_app_vr (by rfl) _ _ (by rfl) X.heap.size (.slice E1' t f1) t ys (by rfl) RV12.out x.id D6 un e6 D11 mn e11 q11.heap.size (by rfl) VC12.out (by omega) lb12 ?_;intro va13 q13 ho hg
      obtain⟨F13,h13,rfl,_,_⟩:=Qo ho;have S13:=hd (S12.out.grown lb12 RV12.out hg);have hne13:some wr.heap.size≠(Value.slice E1' t f1).ownBlock:=fun e=>Nat.lt_irrefl _ (HV1.out _ e.symm);have VE13:Hid ((q13.cell? ⟨wr.heap.size,0,none⟩=some (.int .i64 x.id)∧q13.cell? ⟨wr.heap.size,1,none⟩=some (.slice u un uc)∧q13.cell? ⟨wr.heap.size,2,none⟩=some (.slice s mn sc))∧wr.heap.size<q13.heap.size):=⟨⟨hg.cell VE12.out.1.1 hne13,hg.cell VE12.out.1.2.1 hne13,hg.cell VE12.out.1.2.2 hne13⟩,Nat.lt_of_lt_of_le VE12.out.2 hg.size⟩
      have EE13:Hid (CpL X.heap.size g d.next (.slice A3 n2 c3) n2 d.bs X d.vs (t+1) (q13.setCell ⟨g,1,none⟩ (.slice F13 (t+1) h13))):=by
       refine CpL.next (x:=x) (ys:=ys) (u:=D6) (uc:=e6) (s:=D11) (sc:=e11) S13.out hg0 zr ?_ HYL.out HXT.out (PV12.out.keptV RV12.out hg) HAP.out HLT.out ?_ ?_
       ·rw [HUN.out,HMN.out];exact ho
       ·rw [HUN.out];exact UO12.out.kept hg (Qkt UO12.out RV12.out (by decide))
       ·rw [HMN.out];exact CO12.out.kept hg (Qkt CO12.out RV12.out (by decide))
      obtain⟨gx13,gc13⟩:=S13.out.c1;have gf13:=S13.out.nf 1;have gl13:g<q13.heap.size:=World.block_lt_of_cell? q13 ⟨g,1,none⟩ gc13;clear hg ho;refine hkB hKq (VE13.out) fun hHeld=> ?_;clear hKq Kq;refine tkB 13 ?_
      refine rqA 14 (fun Kq hKq=> ?_);go_simp;have VE14:Hid (((q13.setCell ⟨g,1,none⟩ (.slice F13 (t+1) h13)).cell? ⟨wr.heap.size,0,none⟩=some (.int .i64 x.id)∧(q13.setCell ⟨g,1,none⟩ (.slice F13 (t+1) h13)).cell? ⟨wr.heap.size,1,none⟩=some (.slice u un uc)∧(q13.setCell ⟨g,1,none⟩ (.slice F13 (t+1) h13)).cell? ⟨wr.heap.size,2,none⟩=some (.slice s mn sc))∧wr.heap.size<(q13.setCell ⟨g,1,none⟩ (.slice F13 (t+1) h13)).heap.size):=⟨⟨(World.cell?_setCell_other _ _ _ _ (by intro e;cases e<;>exact absurd hgV (Nat.lt_irrefl _))).trans VE13.out.1.1,(World.cell?_setCell_other _ _ _ _ (by intro e;cases e<;>exact absurd hgV (Nat.lt_irrefl _))).trans VE13.out.1.2.1,(World.cell?_setCell_other _ _ _ _ (by intro e;cases e<;>exact absurd hgV (Nat.lt_irrefl _))).trans VE13.out.1.2.2⟩,by simpa using VE13.out.2⟩;refine hkB hKq (VE14.out) fun hHeld=> ?_;clear hKq Kq;refine wpAnyH_done (by kernel_rfl) ?_ _;clear hHeld
      go_wp2_with fail
      go_roundw
      case rel=>exact⟨t+1,by omega,by go_num,EE13.out⟩
      case measure=>simp [intOf];omega
     ·go_simp;obtain⟨q15,HQ15⟩: ∃q,Hid (q11.alloc (.cells #[.int .i64 x.id,.slice D6 un e6,.slice D11 mn e11] 89)=q):=⟨_,rfl⟩;rw [HQ15.out];have hb:Below q11.heap.size q11 q15:=by rw [←HQ15.out];exact(Below.refl _ _).alloc (Nat.le_refl _) _
      have VC15:Hid (VCell q15 q11.heap.size x.id (.slice D6 un e6) (.slice D11 mn e11)):=by rw [←HQ15.out];exact VCell.at
      have S15:=hd (S11.out.below lb11 hb);have lb15:X.heap.size≤q15.heap.size:=Nat.le_trans lb11 hb.size;have RV15:=hd (Ql RV11.out hb);have PV15:=hd (PV11.out.below hb);have VE15:Hid ((q15.cell? ⟨wr.heap.size,0,none⟩=some (.int .i64 x.id)∧q15.cell? ⟨wr.heap.size,1,none⟩=some (.slice u un uc)∧q15.cell? ⟨wr.heap.size,2,none⟩=some (.slice s mn sc))∧wr.heap.size<q15.heap.size):=⟨⟨cy hb VE11.out.1.1,cy hb VE11.out.1.2.1,cy hb VE11.out.1.2.2⟩,Nat.lt_of_lt_of_le VE11.out.2 hb.size⟩;have nn15:q15.cell? ⟨g,1,none⟩=some (.slice E1' t f1):=cy hb nn11;have UO15:=hd (Ql UO11.out hb)
      have CO15:=hd (Ql N11.out hb);clear hb;refine hkB hKq (VE15.out) fun hHeld=> ?_;clear hKq Kq;refine rqA 1 (fun Kq hKq=> ?_);go_simp;refine hkB hKq (VE15.out) fun hHeld=> ?_
      clear hKq Kq;refine rqA 12 (fun Kq hKq=> ?_);refine step_app_vr (by rfl) _ _ (by rfl) X.heap.size (.slice E1' t f1) t ys (by rfl) RV15.out x.id D6 un e6 D11 mn e11 q11.heap.size (by rfl) VC15.out (by omega) lb15 ?_;intro va16 q16 ho hg;obtain⟨F16,h16,rfl,_,_⟩:=Qo ho;have S16:=hd (S15.out.grown lb15 RV15.out hg);have hne16:some wr.heap.size≠(Value.slice E1' t f1).ownBlock:=fun e=>Nat.lt_irrefl _ (HV1.out _ e.symm)
      have VE16:Hid ((q16.cell? ⟨wr.heap.size,0,none⟩=some (.int .i64 x.id)∧q16.cell? ⟨wr.heap.size,1,none⟩=some (.slice u un uc)∧q16.cell? ⟨wr.heap.size,2,none⟩=some (.slice s mn sc))∧wr.heap.size<q16.heap.size):=⟨⟨hg.cell VE15.out.1.1 hne16,hg.cell VE15.out.1.2.1 hne16,hg.cell VE15.out.1.2.2 hne16⟩,Nat.lt_of_lt_of_le VE15.out.2 hg.size⟩
      have EE16:Hid (CpL X.heap.size g d.next (.slice A3 n2 c3) n2 d.bs X d.vs (t+1) (q16.setCell ⟨g,1,none⟩ (.slice F16 (t+1) h16))):=by
       refine CpL.next (x:=x) (ys:=ys) (u:=D6) (uc:=e6) (s:=D11) (sc:=e11) S16.out hg0 zr ?_ HYL.out HXT.out (PV15.out.keptV RV15.out hg) HAP.out HLT.out ?_ ?_
       ·rw [HUN.out,HMN.out];exact ho
       ·rw [HUN.out];exact UO15.out.kept hg (Qkt UO15.out RV15.out (by decide))
       ·rw [HMN.out];exact CO15.out.kept hg (Qkt CO15.out RV15.out (by decide))
      obtain⟨gx16,gc16⟩:=S16.out.c1;have gf16:=S16.out.nf 1;have gl16:g<q16.heap.size:=World.block_lt_of_cell? q16 ⟨g,1,none⟩ gc16;clear hg ho;refine hkB hKq (VE16.out) fun hHeld=> ?_;clear hKq Kq;refine tkB 13 ?_
      refine rqA 14 (fun Kq hKq=> ?_);go_simp;have VE17:Hid (((q16.setCell ⟨g,1,none⟩ (.slice F16 (t+1) h16)).cell? ⟨wr.heap.size,0,none⟩=some (.int .i64 x.id)∧(q16.setCell ⟨g,1,none⟩ (.slice F16 (t+1) h16)).cell? ⟨wr.heap.size,1,none⟩=some (.slice u un uc)∧(q16.setCell ⟨g,1,none⟩ (.slice F16 (t+1) h16)).cell? ⟨wr.heap.size,2,none⟩=some (.slice s mn sc))∧wr.heap.size<(q16.setCell ⟨g,1,none⟩ (.slice F16 (t+1) h16)).heap.size):=⟨⟨(World.cell?_setCell_other _ _ _ _ (by intro e;cases e<;>exact absurd hgV (Nat.lt_irrefl _))).trans VE16.out.1.1,(World.cell?_setCell_other _ _ _ _ (by intro e;cases e<;>exact absurd hgV (Nat.lt_irrefl _))).trans VE16.out.1.2.1,(World.cell?_setCell_other _ _ _ _ (by intro e;cases e<;>exact absurd hgV (Nat.lt_irrefl _))).trans VE16.out.1.2.2⟩,by simpa using VE16.out.2⟩;refine hkB hKq (VE17.out) fun hHeld=> ?_;clear hKq Kq;refine wpAnyH_done (by kernel_rfl) ?_ _;clear hHeld
      go_wp2_with fail
      go_roundw
      case rel=>exact⟨t+1,by omega,by go_num,EE16.out⟩
      case measure=>simp [intOf];omega
  ·have h1: ¬(t:Int)<(n1:Int):=by omega
   obtain rfl:t=n1:=by omega
   have b0:=HN.out.c0;have b2:=HN.out.c2;have m0:=cy HBX.out p0;have m1:=cy HBX.out p1;have m2:=cy HBX.out p2
   have mf: ∀o,wr.frozen? ⟨w.heap.size+1,o,none⟩=false:=fun o=>by
    rw [HBX.out.frozen (p:=⟨w.heap.size+1,o,none⟩) zX1];exact pf o
   have mz:w.heap.size+1<wr.heap.size:=Nat.lt_of_lt_of_le zX1 zr;have gz:g<wr.heap.size:=World.block_lt_of_cell? wr ⟨g,0,none⟩ b0
   have HD:Hid (DgO wr X.heap.size (.agg #[.int .i64 d.next,.slice E1' t f1,.slice A3 n2 c3]) d):=by
    refine⟨_,_,ys,rfl,?_,?_,?_,?_⟩
    ·rw [E1.out];exact ho1
    ·rw [E1.out];exact hp1
    ·rw [E1.out];exact ha1
    ·rw [E2.out];exact HN.out.o2
   have KR:Hid (Below w.heap.size w wr):=KX.out.trans (HBX.out.mono (by omega));clear ho1 hp1 ha1 HN;go_wp2_with fail
   refine bodyPost_ret (v:= .agg #[.int .i64 d.next,.slice E1' t f1,.slice A3 n2 c3]) ?_ rfl ⟨_,rfl,?_,?_⟩
   ·simp (maxDischargeDepth:=9) [results,Tryz.results60,go_sem, *]
   ·exact(((HD.out.setB zX1).setB zX1).setB zX1).mono (by omega)
   ·exact((KR.out.setCell (by show w.heap.size≤w.heap.size+1;omega) _).setCell (by show w.heap.size≤w.heap.size+1;omega) _).setCell (by show w.heap.size≤w.heap.size+1;omega) _
def DgV (W:World) (B:Nat) (v1:Value) (L:List VR) (n:Nat):Prop:= ∃ys,W.ownsRow B 89 3 v1 n ys∧VrPart W B ys L n∧VrApt ys n
theorem DgV.below {W W':World} {B n:Nat} {v1:Value} {L:List VR} (h:DgV W B v1 L n) (hb:Below W.heap.size W W'):DgV W' B v1 L n:=by
 obtain⟨ys,h1,h2,h3⟩:=h;exact⟨ys,Ql h1 hb,h2.below hb,h3⟩
theorem DgV.keptB {W W':World} {B m n:Nat} {v1 v2:Value} {L:List VR} {zs:List Value} (h:DgV W B v1 L n) (hv:W.ownsRow B 79 2 v2 m zs) (hg:W.grownBy W' v2.ownBlock):DgV W' B v1 L n:=by
 obtain⟨ys,h1,h2,h3⟩:=h;refine⟨ys,h1.kept hg (Qkt h1 hv (by decide)),fun i x hi hx=> ?_,h3⟩;obtain⟨u,uc,s,sc,y0,y1,y2,k1,k2⟩:=h2 i x hi hx;exact⟨u,uc,s,sc,y0,y1,y2,k1.kept hg (Qkt k1 hv (by decide)),k2.kept hg (Qkt k2 hv (by decide))⟩
theorem DgO.parts {W:World} {B:Nat} {v:Value} {d:DG} (h:DgO W B v d): ∃A1 c1 A2 c2,v= .agg #[.int .i64 d.next,.slice A1 d.vs.length c1,.slice A2 d.bs.length c2]∧DgV W B (.slice A1 d.vs.length c1) d.vs d.vs.length∧W.ownsRow B 79 2 (.slice A2 d.bs.length c2) d.bs.length (Jf brL d.bs):=by
 obtain⟨v1,v2,ys,rfl,h1,h2,h4,h3⟩:=h;obtain⟨A1,c1,rfl,_,_⟩:=Qo h1;obtain⟨A2,c2,rfl,_,_⟩:=Qo h3;exact⟨A1,c1,A2,c2,rfl,⟨ys,h1,h2,h4⟩,h3⟩
theorem DgO.setD {W:World} {B g o:Nat} {v x:Value} {d:DG} {c:Array Value} {r:Nat × Nat} (h:DgO W B v d) (hg:W.heap[g]? =some (.cells c 32 r)):DgO (W.setCell ⟨g,o,none⟩ x) B v d:=by
 obtain⟨v1,v2,ys,rfl,h1,h2,h4,h3⟩:=h;exact⟨v1,v2,ys,rfl,own_setT h1 hg (by decide),VrPart.setD h2 hg,h4,own_setT h3 hg (by decide)⟩
def CmR (B:Nat) (w':World) (r:DG × Int × Int) (e:Ending):Prop:= ∃v',e= .returned (.tuple #[v',.int .i64 r.2.1,.int .i64 r.2.2])∧DgO w' B v' r.1
def noD:DG:=⟨0,[],[]⟩
theorem noD_own (W:World) (B:Nat):DgO W B (.agg #[.int .i64 0,.slice none 0 0,.slice none 0 0]) noD:=
 ⟨_,_,[],rfl,World.ownsRow_nil _ _ _ _,fun i x hi=>absurd hi (Nat.not_lt_zero _),fun i j hi=>absurd hi (Nat.not_lt_zero _),World.ownsRow_nil _ _ _ _⟩
theorem step_copyG {P:Program} {W:World} {ops:Array Oper} {o:Oper} {a:Act} {K:Act→World→Prop} {Q:Exit→Act→World→Prop} {E:Prop} (t e:TypeId) (i:TypeInfo) (z:Value) (size bytes:Nat) (ht:P.underlying t=some (.slice e)) (hi:P.info? e=some i) (hz:i.zero=some z) (hsize:i.size=size) (hby:i.bytes=bytes) (hzs:z.cells.size=size) (hsz:0<size)
  (hgd:o.guard=none) (s x:Operand) (ho:o.op= .call {callee:= .builtin .append,args:= #[s,x],argTypes:= #[t,t]}) (B:Nat) (hB:B≤W.heap.size) (v:Value) (hs:a.eval s=v) (hown:W.ownsRow B e size v 0 [])
  (A:Option Addr) (n c:Nat) (xs:List Value) (hx:a.eval x= .slice A n c) (hl:xs.length=n*size) (hA:A=none→n=0) (hc: ∀ad,A=some ad→ ∀j u,xs[j]? =some u→W.cell? (ad.add j)=some u) (h1: ∀u∈xs,u.oneCell'=true) (hn:n≤maxLen) (hb:n*bytes≤140737488355328)
  (h: ∀A' c' w',w'.ownsRow B e size (.slice A' n c') n xs→W.grownBy w' v.ownBlock→K (a.put o.dst (.slice A' n c')) w'):
  if Region.wanted o (yielded ops a.tmps)=true then Oper.wp P o a W K Q else E:=by
 have hw:Region.wanted o (yielded ops a.tmps)=true:=by simp [Region.wanted,hgd]
 rw [if_pos hw];cases A with
 | none=>
  have hn0:=hA rfl;subst hn0;have hxs:xs= []:=by cases xs with | nil=>rfl | cons y ys=>simp at hl
  subst hxs;obtain⟨A',cap',rfl,_,_⟩:=Qo hown;have hrun:=run_append_nilC (P:=P) (w:=W) B t o.type e i size c ht hi _ 0 [] hown;unfold Oper.wp;simp [execOp,ho,resolve,invoke,builtin,hs,hx,hrun,Result.andThen];exact h _ _ W hown (World.grownBy.refl _ _)
 | some ad=>
  refine wp_append_own W s x t ho B e i z size bytes ht hi hz hsize hby hzs hsz v 0 [] hs hown ad n c xs hx hl (hc ad rfl) h1 (by omega) (by rw [Nat.zero_add];exact hb) hB ?_;intro v' w' ho' hg' _;rw [Nat.zero_add,List.nil_append]at ho';obtain⟨A',cap',rfl,_,_⟩:=Qo ho';exact h A' cap' w' ho' hg'
theorem wpList_app_vr {W:World} {ops:Array Oper} {rest:List Oper} {o:Oper} {a:Act} {Q:Exit→Act→World→Prop} (hgd:o.guard=none) (s x:Operand) (ho:o.op= .call {callee:= .builtin .append,args:= #[s,x],argTypes:= #[29,29]}) (B:Nat) (v:Value) (n:Nat) (xs:List Value) (hs:a.eval s=v)
  (hown:W.ownsRow B 89 3 v n xs) (i:Int) (ua:Option Addr) (un uc:Nat) (sa:Option Addr) (sn sc:Nat) (g:Nat) (hx:a.eval x= .slice (some ⟨g,0,none⟩) 1 1) (hc:VCell W g i (.slice ua un uc) (.slice sa sn sc)) (hn:n≤1099511627776) (hB:B≤W.heap.size)
  (h: ∀v' w',w'.ownsRow B 89 3 v' (n+1) (xs++ [.int .i64 i,.slice ua un uc,.slice sa sn sc])→W.grownBy w' v.ownBlock→wpList Tryz.prog ops Q rest (a.put o.dst v') w'):wpList Tryz.prog ops Q (o::rest) a W:=by
 obtain⟨i0,hi,iz0,iz1,iz2⟩:=info_parts Qj2;obtain⟨c0,c1,c2⟩:=hc;refine wpList_append_own W hgd s x 29 ho B 89 i0 (.agg #[.int .i64 0,.slice none 0 0,.slice none 0 0]) 3 56 Tryz.underlying29 hi iz0 iz1 iz2 rfl (by decide) v n xs hs hown ⟨g,0,none⟩ 1 1 [.int .i64 i,.slice ua un uc,.slice sa sn sc] hx rfl ?_ ?_ ?_ ?_ hB ?_
 ·intro q u hq;match q,hq with
  | 0,hq=>simp at hq;subst hq;simpa [Addr.add]using c0
  | 1,hq=>simp at hq;subst hq;simpa [Addr.add]using c1
  | 2,hq=>simp at hq;subst hq;simpa [Addr.add]using c2
 ·intro u hu;simp at hu;rcases hu with rfl | rfl | rfl<;>rfl
 ·unfold maxLen;omega
 ·omega
 ·intro v' w3 hown' hgrow _;exact h v' w3 hown' hgrow
theorem spec_l10Copy {v:Value} {d:DG} (w:World) (h:DgRow w v d) (hl:DgLil d):
  Calls Tryz.prog 26 #[v] w fun e w'=> ∃v',e= .returned v'∧DgO w' w.heap.size v' d∧Below w.heap.size w w':=by
 obtain⟨A1,n1,c1,A2,n2,c2,rfl⟩:=h.agg;obtain⟨r1,e1,r2,e2⟩:=h.open;have R1:Hid (VrRow w A1 d.vs):=r1;have R2:Hid (ZT w A2 d.bs):=r2;have E1:Hid (d.vs.length=n1):=e1;have E2:Hid (d.bs.length=n2):=e2;have HL:Hid (DgLil d):=hl
 have hn1:n1≤1048576:=by rw [←e1];exact hl.nv
 have hn2:n2≤1048576:=by rw [←e2];exact hl.nb
 clear h r1 r2 e1 e2 hl;go_enter Tryz.func26,Tryz.ntmps26;go_upto_region 1 with fail
 obtain⟨X,HX⟩: ∃X,Hid ((w.alloc (.cells #[.int .i64 d.next,.slice A1 n1 c1,.slice A2 n2 c2] 32)).alloc (.cells #[.int .i64 0,.slice none 0 0,.slice none 0 0] 32)=X):=⟨_,rfl⟩;rw [HX.out];have x0:X.cell? ⟨w.heap.size,0,none⟩=some (.int .i64 d.next):=by rw [←HX.out];go_simp
 have x1:X.cell? ⟨w.heap.size,1,none⟩=some (.slice A1 n1 c1):=by rw [←HX.out];go_simp
 have x2:X.cell? ⟨w.heap.size,2,none⟩=some (.slice A2 n2 c2):=by rw [←HX.out];go_simp
 have p0:X.cell? ⟨w.heap.size+1,0,none⟩=some (.int .i64 0):=by rw [←HX.out];go_simp
 have p1:X.cell? ⟨w.heap.size+1,1,none⟩=some (.slice none 0 0):=by rw [←HX.out];go_simp
 have p2:X.cell? ⟨w.heap.size+1,2,none⟩=some (.slice none 0 0):=by rw [←HX.out];go_simp
 have pf: ∀o,X.frozen? ⟨w.heap.size+1,o,none⟩=false:=fun o=>by rw [←HX.out];go_simp
 have ZX:Hid (X.heap.size=w.heap.size+2):=by rw [←HX.out];show _=_;simp
 have zX0:w.heap.size<X.heap.size:=by have:=ZX.out;omega
 have zX1:w.heap.size+1<X.heap.size:=by have:=ZX.out;omega
 have KX:Hid (Below w.heap.size w X):=by rw [←HX.out];show Below _ _ _;go_grown
 clear HX;obtain⟨i0,hi,iz0,iz1,iz2⟩:=info_parts Qj4;have HFL:Hid ((Jf brL d.bs).length=n2*2):=by show _=_;rw [Db Ni,E2.out]
 have VE0:Hid (X.drew.cell? ⟨w.heap.size,0,none⟩=some (.int .i64 d.next)∧X.drew.cell? ⟨w.heap.size,2,none⟩=some (.slice A2 n2 c2)∧X.heap.size≤X.drew.heap.size):=⟨x0,x2,Nat.le_refl _⟩;have BX0:Hid (Below X.heap.size X X.drew):=(Below.refl _ _).drew;go_cut [3] (fun p wx=> ∃g A3 c3,p= .pointer (some ⟨g,0,none⟩)∧X.heap.size≤g∧CpL X.heap.size g d.next (.slice A3 n2 c3) n2 d.bs X d.vs 0 wx)
 case first=>
  refine wp_region_held_drew (S:=(fun w'=>w'.cell? ⟨w.heap.size,0,none⟩=some (.int .i64 d.next)∧w'.cell? ⟨w.heap.size,2,none⟩=some (.slice A2 n2 c2)∧X.heap.size≤w'.heap.size)) (by kernel_rfl) VE0.out (fun hHeld=> ?_);refine tkA 0 ?_;refine tkB 1 ?_;refine tkA 3 ?_;refine tkB 4 ?_;refine rqB 2 7 (fun Kq hKq=> ?_) (fun Kq hKq=> ?_)
  ·go_simp;obtain⟨q1,HQ1⟩: ∃q,Hid ((X.alloc (.cells #[] 79)).drew=q):=⟨_,rfl⟩;rw [HQ1.out];have hb:Below X.drew.heap.size X.drew q1:=by rw [←HQ1.out];exact(Below.refl _ _).alloc (Nat.le_refl _) _
   have EA1:Hid (q1.ownsRow X.heap.size 79 2 (.slice (some ⟨X.heap.size,0,none⟩) 0 0) 0 []):=by rw [←HQ1.out];exact Qku (W:=X.drew) VE0.out.2.2 rfl
   have VE1:Hid (q1.cell? ⟨w.heap.size,0,none⟩=some (.int .i64 d.next)∧q1.cell? ⟨w.heap.size,2,none⟩=some (.slice A2 n2 c2)∧X.heap.size≤q1.heap.size):=⟨cy hb VE0.out.1,cy hb VE0.out.2.1,Nat.le_trans VE0.out.2.2 hb.size⟩;have BX1:Hid (Below X.heap.size X q1):=BX0.out.trans (hb.mono VE0.out.2.2);clear hb;refine hkB hKq (VE1.out) fun hHeld=> ?_;clear hKq Kq;refine rqB 5 7 (fun Kq hKq=> ?_) (fun Kq hKq=> ?_)
   ·refine step_copyG 30 79 i0 (.agg #[.string ⟨#[]⟩,.int .i64 0]) 2 24 Tryz.underlying30 hi iz0 iz1 iz2 rfl (by decide) (by rfl) _ _ (by rfl) X.heap.size VE1.out.2.2 _ (by rfl) EA1.out A2 n2 c2 (Jf brL d.bs) (by rfl) HFL.out (fun e=>E2.out.symm.trans (br_none R2.out e)) (br_cells (R2.out.below (KX.out.trans (BX1.out.mono (by omega))))) (br_oneC d.bs) (by unfold maxLen;omega) (by omega) ?_;intro A3 c3 q2 ho hg;have CA2:Hid (q2.ownsRow X.heap.size 79 2 (.slice A3 n2 c3) n2 (Jf brL d.bs)):=ho;have hne2:some w.heap.size≠(Value.ownBlock (.slice (some ⟨X.heap.size,0,none⟩) 0 0)):=fun e=>by have:=(EA1.out.lt _ e.symm).1;omega
    have VE2:Hid (q2.cell? ⟨w.heap.size,0,none⟩=some (.int .i64 d.next)∧q2.cell? ⟨w.heap.size,2,none⟩=some (.slice A2 n2 c2)∧X.heap.size≤q2.heap.size):=⟨hg.cell VE1.out.1 hne2,hg.cell VE1.out.2.1 hne2,Nat.le_trans VE1.out.2.2 hg.size⟩;have BX2:=hd (BX1.out.grown hg VE1.out.2.2 (fun j hj=>(EA1.out.lt j hj).1));clear ho hg;refine hkB hKq (VE2.out) fun hHeld=> ?_;clear hKq Kq;refine tkB 6 ?_;refine rqA 7 (fun Kq hKq=> ?_)
    go_simp;obtain⟨q3,HQ3⟩: ∃q,Hid (q2.alloc (.cells #[.int .i64 0,.slice none 0 0,.slice none 0 0] 32)=q):=⟨_,rfl⟩;rw [HQ3.out];have hb:Below q2.heap.size q2 q3:=by rw [←HQ3.out];exact(Below.refl _ _).alloc (Nat.le_refl _) _
    have GA3:Hid (q3.heap[q2.heap.size]? =some (.cells #[.int .i64 0,.slice none 0 0,.slice none 0 0] 32 (0,0))):=by rw [←HQ3.out];exact heap_alloc_new q2 _
    have GL3:X.heap.size≤q2.heap.size:=VE2.out.2.2;have VE3:Hid (q3.cell? ⟨w.heap.size,0,none⟩=some (.int .i64 d.next)∧q3.cell? ⟨w.heap.size,2,none⟩=some (.slice A2 n2 c2)∧X.heap.size≤q3.heap.size):=⟨cy hb VE2.out.1,cy hb VE2.out.2.1,Nat.le_trans VE2.out.2.2 hb.size⟩;have BX3:Hid (Below X.heap.size X q3):=BX2.out.trans (hb.mono VE2.out.2.2);have CO3:=hd (Ql CA2.out hb);clear hb;refine hkB hKq (VE3.out) fun hHeld=> ?_;clear hKq Kq
    refine rqA 8 (fun Kq hKq=> ?_);have h0:q3.ownsRow X.heap.size 32 3 (.slice (some ⟨q2.heap.size,0,none⟩) 1 1) 1 [.int .i64 0,.slice none 0 0,.slice none 0 0]:=⟨rfl,Or.inr ⟨_,1,#[.int .i64 0,.slice none 0 0,.slice none 0 0],rfl,GL3,GA3.out,Nat.le_refl _,by unfold maxLen;omega,rfl,rfl⟩⟩;have g0:q3.cell? ⟨q2.heap.size,0,none⟩=some (.int .i64 0):=h0.cellAt 0 (by omega);have g1:q3.cell? ⟨q2.heap.size,1,none⟩=some (.slice none 0 0):=h0.cellAt 1 (by omega);have g2:q3.cell? ⟨q2.heap.size,2,none⟩=some (.slice none 0 0):=h0.cellAt 2 (by omega);have gf: ∀o,q3.frozen? ⟨q2.heap.size,o,none⟩=false:=fun o=>h0.frozenAt o;have gz:q2.heap.size<q3.heap.size:=heap_lt GA3.out
    have CP:=CpL.put (nx:=d.next) GA3.out GL3 BX3.out CO3.out d.vs;clear h0;go_simp;obtain⟨q4,HQ4⟩: ∃q,Hid (((q3.setCell ⟨q2.heap.size,0,none⟩ (.int .i64 d.next)).setCell ⟨q2.heap.size,1,none⟩ (.slice none 0 0)).setCell ⟨q2.heap.size,2,none⟩ (.slice A3 n2 c3)=q):=⟨_,rfl⟩;rw [HQ4.out];rw [HQ4.out]at CP;have VE4:Hid (q4.cell? ⟨w.heap.size,0,none⟩=some (.int .i64 d.next)∧q4.cell? ⟨w.heap.size,2,none⟩=some (.slice A2 n2 c2)∧X.heap.size≤q4.heap.size):=⟨cy CP.nb.bel x0,cy CP.nb.bel x2,CP.nb.bel.size⟩
    have HCP:Hid (CpL X.heap.size q2.heap.size d.next (.slice A3 n2 c3) n2 d.bs X d.vs 0 q4):=CP;clear CP g0 g1 g2 gf;refine hkB hKq (VE4.out) fun hHeld=> ?_;clear hKq Kq;refine wpAnyH_done (by kernel_rfl) ?_ _;clear hHeld;go_wp2_with fail
    go_meet;exact⟨_,A3,c3,rfl,GL3,HCP.out⟩
   ·go_simp;obtain⟨q5,HQ5⟩: ∃q,Hid (q1.alloc (.cells #[.int .i64 0,.slice none 0 0,.slice none 0 0] 32)=q):=⟨_,rfl⟩;rw [HQ5.out];have hb:Below q1.heap.size q1 q5:=by rw [←HQ5.out];exact(Below.refl _ _).alloc (Nat.le_refl _) _
    have GA5:Hid (q5.heap[q1.heap.size]? =some (.cells #[.int .i64 0,.slice none 0 0,.slice none 0 0] 32 (0,0))):=by rw [←HQ5.out];exact heap_alloc_new q1 _
    have GL5:X.heap.size≤q1.heap.size:=VE1.out.2.2;have VE5:Hid (q5.cell? ⟨w.heap.size,0,none⟩=some (.int .i64 d.next)∧q5.cell? ⟨w.heap.size,2,none⟩=some (.slice A2 n2 c2)∧X.heap.size≤q5.heap.size):=⟨cy hb VE1.out.1,cy hb VE1.out.2.1,Nat.le_trans VE1.out.2.2 hb.size⟩;have BX5:Hid (Below X.heap.size X q5):=BX1.out.trans (hb.mono VE1.out.2.2);have EO5:=hd (Ql EA1.out hb);clear hb;refine hkB hKq (VE5.out) fun hHeld=> ?_;clear hKq Kq
    refine rqA 5 (fun Kq hKq=> ?_);refine step_copyG 30 79 i0 (.agg #[.string ⟨#[]⟩,.int .i64 0]) 2 24 Tryz.underlying30 hi iz0 iz1 iz2 rfl (by decide) (by rfl) _ _ (by rfl) X.heap.size VE5.out.2.2 _ (by rfl) EO5.out A2 n2 c2 (Jf brL d.bs) (by rfl) HFL.out (fun e=>E2.out.symm.trans (br_none R2.out e)) (br_cells (R2.out.below (KX.out.trans (BX5.out.mono (by omega))))) (br_oneC d.bs) (by unfold maxLen;omega) (by omega) ?_;intro A3 c3 q6 ho hg;have CA6:Hid (q6.ownsRow X.heap.size 79 2 (.slice A3 n2 c3) n2 (Jf brL d.bs)):=ho;have hne6:some w.heap.size≠(Value.ownBlock (.slice (some ⟨X.heap.size,0,none⟩) 0 0)):=fun e=>by have:=(EO5.out.lt _ e.symm).1;omega
    have VE6:Hid (q6.cell? ⟨w.heap.size,0,none⟩=some (.int .i64 d.next)∧q6.cell? ⟨w.heap.size,2,none⟩=some (.slice A2 n2 c2)∧X.heap.size≤q6.heap.size):=⟨hg.cell VE5.out.1 hne6,hg.cell VE5.out.2.1 hne6,Nat.le_trans VE5.out.2.2 hg.size⟩;have BX6:=hd (BX5.out.grown hg VE5.out.2.2 (fun j hj=>(EO5.out.lt j hj).1));have GB6:Hid (q6.heap[q1.heap.size]? =some (.cells #[.int .i64 0,.slice none 0 0,.slice none 0 0] 32 (0,0))):=(hg.block _ (heap_lt GA5.out) (own_blk_ne EO5.out GA5.out (by decide))).trans GA5.out;clear ho hg;refine hkB hKq (VE6.out) fun hHeld=> ?_;clear hKq Kq;refine tkB 6 ?_
    refine rqA 8 (fun Kq hKq=> ?_);have h0:q6.ownsRow X.heap.size 32 3 (.slice (some ⟨q1.heap.size,0,none⟩) 1 1) 1 [.int .i64 0,.slice none 0 0,.slice none 0 0]:=⟨rfl,Or.inr ⟨_,1,#[.int .i64 0,.slice none 0 0,.slice none 0 0],rfl,GL5,GB6.out,Nat.le_refl _,by unfold maxLen;omega,rfl,rfl⟩⟩;have g0:q6.cell? ⟨q1.heap.size,0,none⟩=some (.int .i64 0):=h0.cellAt 0 (by omega);have g1:q6.cell? ⟨q1.heap.size,1,none⟩=some (.slice none 0 0):=h0.cellAt 1 (by omega);have g2:q6.cell? ⟨q1.heap.size,2,none⟩=some (.slice none 0 0):=h0.cellAt 2 (by omega);have gf: ∀o,q6.frozen? ⟨q1.heap.size,o,none⟩=false:=fun o=>h0.frozenAt o;have gz:q1.heap.size<q6.heap.size:=heap_lt GB6.out
    have CP:=CpL.put (nx:=d.next) GB6.out GL5 BX6.out CA6.out d.vs;clear h0;go_simp;obtain⟨q7,HQ7⟩: ∃q,Hid (((q6.setCell ⟨q1.heap.size,0,none⟩ (.int .i64 d.next)).setCell ⟨q1.heap.size,1,none⟩ (.slice none 0 0)).setCell ⟨q1.heap.size,2,none⟩ (.slice A3 n2 c3)=q):=⟨_,rfl⟩;rw [HQ7.out];rw [HQ7.out]at CP;have VE7:Hid (q7.cell? ⟨w.heap.size,0,none⟩=some (.int .i64 d.next)∧q7.cell? ⟨w.heap.size,2,none⟩=some (.slice A2 n2 c2)∧X.heap.size≤q7.heap.size):=⟨cy CP.nb.bel x0,cy CP.nb.bel x2,CP.nb.bel.size⟩
    have HCP:Hid (CpL X.heap.size q1.heap.size d.next (.slice A3 n2 c3) n2 d.bs X d.vs 0 q7):=CP;clear CP g0 g1 g2 gf;refine hkB hKq (VE7.out) fun hHeld=> ?_;clear hKq Kq;refine wpAnyH_done (by kernel_rfl) ?_ _;clear hHeld;go_wp2_with fail
    go_meet;exact⟨_,A3,c3,rfl,GL5,HCP.out⟩
  ·go_simp;obtain⟨q8,HQ8⟩: ∃q,Hid ((X.alloc (.cells #[.int .i64 0,.slice none 0 0,.slice none 0 0] 32)).drew=q):=⟨_,rfl⟩;rw [HQ8.out];have hb:Below X.drew.heap.size X.drew q8:=by rw [←HQ8.out];exact(Below.refl _ _).alloc (Nat.le_refl _) _
   have GA8:Hid (q8.heap[X.heap.size]? =some (.cells #[.int .i64 0,.slice none 0 0,.slice none 0 0] 32 (0,0))):=by rw [←HQ8.out];exact heap_alloc_new X.drew _
   have GL8:X.heap.size≤X.heap.size:=VE0.out.2.2;have VE8:Hid (q8.cell? ⟨w.heap.size,0,none⟩=some (.int .i64 d.next)∧q8.cell? ⟨w.heap.size,2,none⟩=some (.slice A2 n2 c2)∧X.heap.size≤q8.heap.size):=⟨cy hb VE0.out.1,cy hb VE0.out.2.1,Nat.le_trans VE0.out.2.2 hb.size⟩;have BX8:Hid (Below X.heap.size X q8):=BX0.out.trans (hb.mono VE0.out.2.2);clear hb;refine hkB hKq (VE8.out) fun hHeld=> ?_;clear hKq Kq;refine rqA 2 (fun Kq hKq=> ?_)
   go_simp;obtain⟨q9,HQ9⟩: ∃q,Hid (q8.alloc (.cells #[] 79)=q):=⟨_,rfl⟩;rw [HQ9.out];have hb:Below q8.heap.size q8 q9:=by rw [←HQ9.out];exact(Below.refl _ _).alloc (Nat.le_refl _) _
   have EA9:Hid (q9.ownsRow X.heap.size 79 2 (.slice (some ⟨q8.heap.size,0,none⟩) 0 0) 0 []):=by rw [←HQ9.out];exact Qku (W:=q8) VE8.out.2.2 rfl
   have VE9:Hid (q9.cell? ⟨w.heap.size,0,none⟩=some (.int .i64 d.next)∧q9.cell? ⟨w.heap.size,2,none⟩=some (.slice A2 n2 c2)∧X.heap.size≤q9.heap.size):=⟨cy hb VE8.out.1,cy hb VE8.out.2.1,Nat.le_trans VE8.out.2.2 hb.size⟩;have BX9:Hid (Below X.heap.size X q9):=BX8.out.trans (hb.mono VE8.out.2.2);have GB9:Hid (q9.heap[X.heap.size]? =some (.cells #[.int .i64 0,.slice none 0 0,.slice none 0 0] 32 (0,0))):=(hb.block _ (heap_lt GA8.out)).trans GA8.out;clear hb;refine hkB hKq (VE9.out) fun hHeld=> ?_;clear hKq Kq;refine rqA 5 (fun Kq hKq=> ?_)
   refine step_copyG 30 79 i0 (.agg #[.string ⟨#[]⟩,.int .i64 0]) 2 24 Tryz.underlying30 hi iz0 iz1 iz2 rfl (by decide) (by rfl) _ _ (by rfl) X.heap.size VE9.out.2.2 _ (by rfl) EA9.out A2 n2 c2 (Jf brL d.bs) (by rfl) HFL.out (fun e=>E2.out.symm.trans (br_none R2.out e)) (br_cells (R2.out.below (KX.out.trans (BX9.out.mono (by omega))))) (br_oneC d.bs) (by unfold maxLen;omega) (by omega) ?_;intro A3 c3 q10 ho hg;have CA10:Hid (q10.ownsRow X.heap.size 79 2 (.slice A3 n2 c3) n2 (Jf brL d.bs)):=ho;have hne10:some w.heap.size≠(Value.ownBlock (.slice (some ⟨q8.heap.size,0,none⟩) 0 0)):=fun e=>by have:=(EA9.out.lt _ e.symm).1;omega
   have VE10:Hid (q10.cell? ⟨w.heap.size,0,none⟩=some (.int .i64 d.next)∧q10.cell? ⟨w.heap.size,2,none⟩=some (.slice A2 n2 c2)∧X.heap.size≤q10.heap.size):=⟨hg.cell VE9.out.1 hne10,hg.cell VE9.out.2.1 hne10,Nat.le_trans VE9.out.2.2 hg.size⟩;have BX10:=hd (BX9.out.grown hg VE9.out.2.2 (fun j hj=>(EA9.out.lt j hj).1));have GB10:Hid (q10.heap[X.heap.size]? =some (.cells #[.int .i64 0,.slice none 0 0,.slice none 0 0] 32 (0,0))):=(hg.block _ (heap_lt GB9.out) (own_blk_ne EA9.out GB9.out (by decide))).trans GB9.out;clear ho hg;refine hkB hKq (VE10.out) fun hHeld=> ?_;clear hKq Kq;refine tkB 6 ?_
   refine rqA 8 (fun Kq hKq=> ?_);have h0:q10.ownsRow X.heap.size 32 3 (.slice (some ⟨X.heap.size,0,none⟩) 1 1) 1 [.int .i64 0,.slice none 0 0,.slice none 0 0]:=⟨rfl,Or.inr ⟨_,1,#[.int .i64 0,.slice none 0 0,.slice none 0 0],rfl,GL8,GB10.out,Nat.le_refl _,by unfold maxLen;omega,rfl,rfl⟩⟩;have g0:q10.cell? ⟨X.heap.size,0,none⟩=some (.int .i64 0):=h0.cellAt 0 (by omega);have g1:q10.cell? ⟨X.heap.size,1,none⟩=some (.slice none 0 0):=h0.cellAt 1 (by omega);have g2:q10.cell? ⟨X.heap.size,2,none⟩=some (.slice none 0 0):=h0.cellAt 2 (by omega);have gf: ∀o,q10.frozen? ⟨X.heap.size,o,none⟩=false:=fun o=>h0.frozenAt o;have gz:X.heap.size<q10.heap.size:=heap_lt GB10.out
   have CP:=CpL.put (nx:=d.next) GB10.out GL8 BX10.out CA10.out d.vs;clear h0;go_simp;obtain⟨q11,HQ11⟩: ∃q,Hid (((q10.setCell ⟨X.heap.size,0,none⟩ (.int .i64 d.next)).setCell ⟨X.heap.size,1,none⟩ (.slice none 0 0)).setCell ⟨X.heap.size,2,none⟩ (.slice A3 n2 c3)=q):=⟨_,rfl⟩;rw [HQ11.out];rw [HQ11.out]at CP;have VE11:Hid (q11.cell? ⟨w.heap.size,0,none⟩=some (.int .i64 d.next)∧q11.cell? ⟨w.heap.size,2,none⟩=some (.slice A2 n2 c2)∧X.heap.size≤q11.heap.size):=⟨cy CP.nb.bel x0,cy CP.nb.bel x2,CP.nb.bel.size⟩
   have HCP:Hid (CpL X.heap.size X.heap.size d.next (.slice A3 n2 c3) n2 d.bs X d.vs 0 q11):=CP;clear CP g0 g1 g2 gf;refine hkB hKq (VE11.out) fun hHeld=> ?_;clear hKq Kq;refine wpAnyH_done (by kernel_rfl) ?_ _;clear hHeld;go_wp2_with fail
   go_meet;exact⟨_,A3,c3,rfl,GL8,HCP.out⟩
 case rest=>
 obtain⟨g,A3,c3,rfl,hg,hcp⟩:=hcut;have HCP:Hid (CpL X.heap.size g d.next (.slice A3 n2 c3) n2 d.bs X d.vs 0 wc):=hcp;have k0:=cy hcp.nb.bel x0;have k1:=cy hcp.nb.bel x1;have k2:=cy hcp.nb.bel x2;have zc:w.heap.size<wc.heap.size:=Nat.lt_of_lt_of_le zX0 hcp.nb.bel.size;clear hcp
 go_wp2_with fail
 go_loopw [4] (fun i wr=> ∃t:Nat,t≤n1∧i= .int .i64 t∧CpL X.heap.size g d.next (.slice A3 n2 c3) n2 d.bs X d.vs t wr) (fun i _=>n1-(intOf i).toNat)
 case atStart=>exact⟨0,Nat.zero_le _,rfl,HCP.out⟩
 case round=>
  clear HCP k0 k1 k2 zc;obtain⟨t,ht,rfl,hcp⟩:=hrel;have HN:Hid (NBx X.heap.size g d.next (.slice A3 n2 c3) n2 d.bs X wr):=hcp.nb;obtain⟨v1,ys,hv1,ho1,hp1,ha1⟩:=hcp.vs;obtain⟨E1',f1,rfl,_,_⟩:=Qo ho1;have HBX:Hid (Below X.heap.size X wr):=hcp.nb.bel;have HNG:Hid (∃c r,wr.heap[g]? =some (.cells c 32 r)):=hcp.nb.gb
  have hg0:X.heap.size≤g:=hg;have zr:X.heap.size≤wr.heap.size:=HBX.out.size;have y1:=cy HBX.out x1;have zw:w.heap.size<wr.heap.size:=by omega
  clear hcp;by_cases hlt:t<n1
  ·obtain⟨x,hx⟩:=ZD E1.out hlt;have HXT:Hid (d.vs[t]? =some x):=hx;have HXL:Hid (JS x):=HL.out.v x (List.mem_of_getElem? hx);obtain⟨vb,vo,u,uc,s,sc,rfl,hvl,a0,a1,a2,ru,rs⟩:=R1.out.2 t x hx;have RU:Hid (IntRow w u x.ups):=ru;have RS:Hid (ClRow w s x.m x.C x.R x.S):=rs;obtain⟨un,HUN⟩: ∃un,Hid (x.ups.length=un):=⟨_,rfl⟩
   obtain⟨mn,HMN⟩: ∃mn,Hid (x.m=mn):=⟨_,rfl⟩;have hun:un≤1048576:=by rw [←HUN.out];exact HXL.out.1
   have hmn:mn≤1048576:=by rw [←HMN.out];exact HXL.out.2
   rw [HUN.out]at a1;rw [HMN.out]at a2;have KR:Hid (Below w.heap.size w wr):=KX.out.trans (HBX.out.mono (by omega));rw [←KR.out.cell (p:=⟨_,_,none⟩) hvl]at a0 a1 a2;have hvz:vb<wr.heap.size:=Nat.lt_of_lt_of_le hvl KR.out.size;have q0:(0:Int)≤(t:Int):=by omega
   have q1:(t:Int)<(n1:Int):=by omega
   have HYL:Hid (ys.length=t*3):=ho1.1;have HAP:Hid (VrApt ys t):=ha1
   have HLT:Hid (VrLt ys t wr.heap.size):=fun i hi=>by
    obtain⟨y,hy⟩:=ZD E1.out (show i<n1 by omega);obtain⟨u',uc',s',sc',_,y1,y2,k1,k2⟩:=hp1 i y hi hy;rw [blkAt_some y1,blkAt_some y2];exact⟨fun q hq=>(k1.lt q hq).2,fun q hq=>(k2.lt q hq).2⟩
   have HV1:Hid (∀k,(Value.slice E1' t f1).ownBlock=some k→k<wr.heap.size):=fun k hk=>(ho1.lt k hk).2;clear hx ru rs ha1;go_upto_region 6 with fail
   obtain⟨q0,HQ0⟩: ∃q,Hid (wr.alloc (.cells #[.int .i64 x.id,.slice u un uc,.slice s mn sc] 89)=q):=⟨_,rfl⟩;rw [HQ0.out];have hb:Below wr.heap.size wr q0:=by rw [←HQ0.out];exact(Below.refl _ _).alloc (Nat.le_refl _) _
   have Sr:Hid (NBx X.heap.size g d.next (.slice A3 n2 c3) n2 d.bs X wr):=HN.out;have lbr:X.heap.size≤wr.heap.size:=zr;have lwr:wr.heap.size≤wr.heap.size:=Nat.le_refl _;have RVr:Hid (wr.ownsRow X.heap.size 89 3 (.slice E1' t f1) t ys):=ho1;have PVr:Hid (VrPart wr X.heap.size ys d.vs t):=hp1;have nnr:=hv1;have OW0:Hid (q0.ownsRow wr.heap.size 89 3 (.slice (some ⟨wr.heap.size,0,none⟩) 1 1) 1 [.int .i64 x.id,.slice u un uc,.slice s mn sc]):=by rw [←HQ0.out];exact World.ownsRow_lit wr _ 1 (Nat.le_refl _) (by unfold maxLen;omega) rfl
   have HVN:Hid ((Value.slice E1' t f1).ownBlock=none∨(Value.slice E1' t f1).ownBlock≠(Value.slice (some ⟨wr.heap.size,0,none⟩) 1 1).ownBlock):=by
    cases e9:(Value.slice E1' t f1).ownBlock with
    | none=>exact Or.inl rfl
    | some k=>exact Or.inr fun e=>by have:=HV1.out k e9;have e2:k=wr.heap.size:=Option.some.inj e;omega
   have hgV:g<wr.heap.size:=by obtain⟨c,r,gb⟩:=HNG.out;exact heap_lt gb
   have HGN:Hid (some g≠(Value.slice (some ⟨wr.heap.size,0,none⟩) 1 1).ownBlock):=fun e=>by have e2:g=wr.heap.size:=Option.some.inj e;omega
   have S0:=hd (Sr.out.below lbr hb);have lb0:X.heap.size≤q0.heap.size:=Nat.le_trans lbr hb.size;have RV0:=hd (Ql RVr.out hb);have PV0:=hd (PVr.out.below hb);have nn0:q0.cell? ⟨g,1,none⟩=some (.slice E1' t f1):=cy hb nnr;have lw0:wr.heap.size≤q0.heap.size:=Nat.le_trans lwr hb.size;clear hb HQ0 ho1 hp1 hv1 HN a0 a1 a2 hvz Sr RVr PVr nnr
   have b0:q0.cell? ⟨wr.heap.size,0,none⟩=some (.int .i64 x.id):=OW0.out.cellAt 0 (by omega);have b1:q0.cell? ⟨wr.heap.size,1,none⟩=some (.slice u un uc):=OW0.out.cellAt 1 (by omega);have b2:q0.cell? ⟨wr.heap.size,2,none⟩=some (.slice s mn sc):=OW0.out.cellAt 2 (by omega);have bf: ∀o,q0.frozen? ⟨wr.heap.size,o,none⟩=false:=fun o=>OW0.out.frozenAt o;have bz:wr.heap.size<q0.heap.size:=World.block_lt_of_cell? q0 ⟨wr.heap.size,0,none⟩ b0;obtain⟨iI,hiI,iI0,iI1,iI2⟩:=info_parts MY;obtain⟨iC,hiC,iC0,iC1,iC2⟩:=info_parts Qj3
   have HUX:Hid ((x.ups.map (Value.int .i64)).length=un*1):=by show _=_;rw [List.length_map,HUN.out];omega
   have KE:Hid (∀o:Obj,Below w.heap.size w (q0.alloc o)):=fun o=>(KX.out.trans (S0.out.bel.mono (by omega))).trans (((Below.refl q0.heap.size q0).alloc (Nat.le_refl _) o).mono (by omega));go_wp2_with (first | (at_builtin;refine wpList_copyG 62 2 iI (.int .i64 0) 1 8 Tryz.underlying62 hiI iI0 iI1 iI2 rfl (by decide) rfl _ _ rfl wr.heap.size (by simp;omega) _ rfl (Qku lw0 rfl) u un uc (x.ups.map (Value.int .i64)) rfl HUX.out (fun e=>HUN.out.symm.trans (int_none RU.out e)) (int_cellsA (RU.out.below (KE.out _))) (int_oneC x.ups) (by unfold maxLen;omega) (by omega) ?_) | fail)
   intro A4 c4 q1 ho hg;have UO1:Hid (q1.ownsRow wr.heap.size 2 1 (.slice A4 un c4) un (x.ups.map (Value.int .i64))):=ho;have hb:Below q0.heap.size q0 q1:=((Below.refl _ _).alloc (Nat.le_refl _) _).grown hg (by simp) (fun j hj=>by cases hj;exact Nat.le_refl _);have S1:=hd (S0.out.below lb0 hb);have lb1:X.heap.size≤q1.heap.size:=Nat.le_trans lb0 hb.size;have RV1:=hd (Ql RV0.out hb);have PV1:=hd (PV0.out.below hb)
   have nn1:q1.cell? ⟨g,1,none⟩=some (.slice E1' t f1):=cy hb nn0;have OW1:=hd (Ql OW0.out hb);have lw1:wr.heap.size≤q1.heap.size:=Nat.le_trans lw0 hb.size;clear hb ho hg;clear b0 b1 b2 bf bz;have b0:q1.cell? ⟨wr.heap.size,0,none⟩=some (.int .i64 x.id):=OW1.out.cellAt 0 (by omega);have b1:q1.cell? ⟨wr.heap.size,1,none⟩=some (.slice u un uc):=OW1.out.cellAt 1 (by omega)
   have b2:q1.cell? ⟨wr.heap.size,2,none⟩=some (.slice s mn sc):=OW1.out.cellAt 2 (by omega);have bf: ∀o,q1.frozen? ⟨wr.heap.size,o,none⟩=false:=fun o=>OW1.out.frozenAt o;have bz:wr.heap.size<q1.heap.size:=World.block_lt_of_cell? q1 ⟨wr.heap.size,0,none⟩ b0;obtain⟨q2,HQ2⟩: ∃q,Hid (q1.setCell ⟨wr.heap.size,1,none⟩ (.slice A4 un c4)=q):=⟨_,rfl⟩;obtain⟨q2,HQ2⟩: ∃q,Hid (q1.setCell ⟨wr.heap.size,1,none⟩ (.slice A4 un c4)=q):=⟨_,rfl⟩;obtain⟨oq,gq⟩:=OW1.out.stored 1 (.slice A4 un c4);rw [HQ2.out]at oq gq
   have OW2:Hid (q2.ownsRow wr.heap.size 89 3 (.slice (some ⟨wr.heap.size,0,none⟩) 1 1) 1 [.int .i64 x.id,.slice A4 un c4,.slice s mn sc]):=oq;have ox:=Zc OW1.out zr;have S2:=hd (S1.out.grown lb1 ox gq);have lb2:X.heap.size≤q2.heap.size:=Nat.le_trans lb1 gq.size;have lw2:wr.heap.size≤q2.heap.size:=Nat.le_trans lw1 gq.size;have RV2:Hid (q2.ownsRow X.heap.size 89 3 (.slice E1' t f1) t ys):=RV1.out.kept gq HVN.out;have PV2:Hid (VrPart q2 X.heap.size ys d.vs t):=PV1.out.keptV ox gq
   have nn2:q2.cell? ⟨g,1,none⟩=some (.slice E1' t f1):=gq.cell nn1 HGN.out;have UO2:Hid (q2.ownsRow wr.heap.size 2 1 (.slice A4 un c4) un (x.ups.map (Value.int .i64))):=UO1.out.kept gq (Qkt UO1.out OW1.out (by decide));clear oq gq ox;have gz1:g<q1.heap.size:=Nat.lt_of_lt_of_le hgV lw1;go_upto_region 7 with fail
   rw [HQ2.out];clear b0 b1 b2 bf bz;clear HQ2 gz1;have b0:q2.cell? ⟨wr.heap.size,0,none⟩=some (.int .i64 x.id):=OW2.out.cellAt 0 (by omega);have b1:q2.cell? ⟨wr.heap.size,1,none⟩=some (.slice A4 un c4):=OW2.out.cellAt 1 (by omega);have b2:q2.cell? ⟨wr.heap.size,2,none⟩=some (.slice s mn sc):=OW2.out.cellAt 2 (by omega);have bf: ∀o,q2.frozen? ⟨wr.heap.size,o,none⟩=false:=fun o=>OW2.out.frozenAt o
   have bz:wr.heap.size<q2.heap.size:=World.block_lt_of_cell? q2 ⟨wr.heap.size,0,none⟩ b0;have KE2:Hid (∀o:Obj,Below w.heap.size w (q2.alloc o)):=fun o=>(KX.out.trans (S2.out.bel.mono (by omega))).trans (((Below.refl q2.heap.size q2).alloc (Nat.le_refl _) o).mono (by omega));have RS2:Hid (∀o:Obj,ClRow (q2.alloc o) s mn x.C x.R x.S):=fun o=>by rw [←HMN.out];exact RS.out.below (KE2.out o)
   go_wp2_with (first | (at_builtin;refine wpList_copyG 36 67 iC (.agg #[.int .i64 0,.int .i64 0,.string ⟨#[]⟩]) 3 32 Tryz.underlying36 hiC iC0 iC1 iC2 rfl (by decide) rfl _ _ rfl wr.heap.size (by simp;omega) _ rfl (Qku lw2 rfl) s mn sc (clX x.C x.R x.S mn) rfl (EB x.C x.R x.S mn) (cl_none (RS2.out (.cells #[] 0))) (cl_cells (RS2.out _)) (clX_one x.C x.R x.S mn) (by unfold maxLen;omega) (by omega) ?_) | fail)
   intro A5 c5 q3 ho hg;have CO3:Hid (q3.ownsRow wr.heap.size 67 3 (.slice A5 mn c5) mn (clX x.C x.R x.S mn)):=ho;have hb:Below q2.heap.size q2 q3:=((Below.refl _ _).alloc (Nat.le_refl _) _).grown hg (by simp) (fun j hj=>by cases hj;exact Nat.le_refl _);have S3:=hd (S2.out.below lb2 hb);have lb3:X.heap.size≤q3.heap.size:=Nat.le_trans lb2 hb.size;have RV3:=hd (Ql RV2.out hb);have PV3:=hd (PV2.out.below hb)
   have nn3:q3.cell? ⟨g,1,none⟩=some (.slice E1' t f1):=cy hb nn2;have OW3:=hd (Ql OW2.out hb);have lw3:wr.heap.size≤q3.heap.size:=Nat.le_trans lw2 hb.size;have UO3:=hd (Ql UO2.out hb);clear hb ho hg;clear b0 b1 b2 bf bz;have b0:q3.cell? ⟨wr.heap.size,0,none⟩=some (.int .i64 x.id):=OW3.out.cellAt 0 (by omega)
   have b1:q3.cell? ⟨wr.heap.size,1,none⟩=some (.slice A4 un c4):=OW3.out.cellAt 1 (by omega);have b2:q3.cell? ⟨wr.heap.size,2,none⟩=some (.slice s mn sc):=OW3.out.cellAt 2 (by omega);have bf: ∀o,q3.frozen? ⟨wr.heap.size,o,none⟩=false:=fun o=>OW3.out.frozenAt o;have bz:wr.heap.size<q3.heap.size:=World.block_lt_of_cell? q3 ⟨wr.heap.size,0,none⟩ b0;obtain⟨q4,HQ4⟩: ∃q,Hid (q3.setCell ⟨wr.heap.size,2,none⟩ (.slice A5 mn c5)=q):=⟨_,rfl⟩;obtain⟨q4,HQ4⟩: ∃q,Hid (q3.setCell ⟨wr.heap.size,2,none⟩ (.slice A5 mn c5)=q):=⟨_,rfl⟩;obtain⟨oq,gq⟩:=OW3.out.stored 2 (.slice A5 mn c5)
   rw [HQ4.out]at oq gq;have OW4:Hid (q4.ownsRow wr.heap.size 89 3 (.slice (some ⟨wr.heap.size,0,none⟩) 1 1) 1 [.int .i64 x.id,.slice A4 un c4,.slice A5 mn c5]):=oq;have ox:=Zc OW3.out zr;have S4:=hd (S3.out.grown lb3 ox gq);have lb4:X.heap.size≤q4.heap.size:=Nat.le_trans lb3 gq.size;have lw4:wr.heap.size≤q4.heap.size:=Nat.le_trans lw3 gq.size;have RV4:Hid (q4.ownsRow X.heap.size 89 3 (.slice E1' t f1) t ys):=RV3.out.kept gq HVN.out
   have PV4:Hid (VrPart q4 X.heap.size ys d.vs t):=PV3.out.keptV ox gq;have nn4:q4.cell? ⟨g,1,none⟩=some (.slice E1' t f1):=gq.cell nn3 HGN.out;have UO4:Hid (q4.ownsRow wr.heap.size 2 1 (.slice A4 un c4) un (x.ups.map (Value.int .i64))):=UO3.out.kept gq (Qkt UO3.out OW3.out (by decide));have CO4:Hid (q4.ownsRow wr.heap.size 67 3 (.slice A5 mn c5) mn (clX x.C x.R x.S mn)):=CO3.out.kept gq (Qkt CO3.out OW3.out (by decide));clear oq gq ox;go_upto_region 8 with fail
   rw [HQ4.out];clear b0 b1 b2 bf bz;clear HQ4;have b0:q4.cell? ⟨wr.heap.size,0,none⟩=some (.int .i64 x.id):=OW4.out.cellAt 0 (by omega);have b1:q4.cell? ⟨wr.heap.size,1,none⟩=some (.slice A4 un c4):=OW4.out.cellAt 1 (by omega);have b2:q4.cell? ⟨wr.heap.size,2,none⟩=some (.slice A5 mn c5):=OW4.out.cellAt 2 (by omega);have bf: ∀o,q4.frozen? ⟨wr.heap.size,o,none⟩=false:=fun o=>OW4.out.frozenAt o
   have bz:wr.heap.size<q4.heap.size:=World.block_lt_of_cell? q4 ⟨wr.heap.size,0,none⟩ b0;have gz4:g<q4.heap.size:=Nat.lt_of_lt_of_le hgV lw4;obtain⟨q5,HQ5⟩: ∃q,Hid (q4.alloc (.cells #[.int .i64 x.id,.slice A4 un c4,.slice A5 mn c5] 89)=q):=⟨_,rfl⟩;have hb:Below q4.heap.size q4 q5:=by rw [←HQ5.out];exact(Below.refl _ _).alloc (Nat.le_refl _) _
   have VC5:Hid (VCell q5 q4.heap.size x.id (.slice A4 un c4) (.slice A5 mn c5)):=by rw [←HQ5.out];exact VCell.at
   have S5:=hd (S4.out.below lb4 hb);have lb5:X.heap.size≤q5.heap.size:=Nat.le_trans lb4 hb.size;have RV5:=hd (Ql RV4.out hb);have PV5:=hd (PV4.out.below hb);have nn5:q5.cell? ⟨g,1,none⟩=some (.slice E1' t f1):=cy hb nn4;have OW5:=hd (Ql OW4.out hb);have lw5:wr.heap.size≤q5.heap.size:=Nat.le_trans lw4 hb.size
   have UO5:=hd (Ql UO4.out hb);have CO5:=hd (Ql CO4.out hb);clear hb;go_wp2_with (first | (at_builtin;rw [HQ5.out];refine wpList_app_vr rfl _ _ rfl X.heap.size (.slice E1' t f1) t ys rfl RV5.out x.id A4 un c4 A5 mn c5 q4.heap.size rfl VC5.out (by omega) lb5 ?_) | fail)
   intro va q6 ho hg;obtain⟨F6,h6,rfl,_,_⟩:=Qo ho;have S6:=hd (S5.out.grown lb5 RV5.out hg)
   have EE6:Hid (CpL X.heap.size g d.next (.slice A3 n2 c3) n2 d.bs X d.vs (t+1) (q6.setCell ⟨g,1,none⟩ (.slice F6 (t+1) h6))):=by
    refine CpL.next (x:=x) (ys:=ys) (u:=A4) (uc:=c4) (s:=A5) (sc:=c5) S6.out hg0 zr ?_ HYL.out HXT.out (PV5.out.keptV RV5.out hg) HAP.out HLT.out ?_ ?_
    ·rw [HUN.out,HMN.out];exact ho
    ·rw [HUN.out];exact UO5.out.kept hg (Qkt UO5.out RV5.out (by decide))
    ·rw [HMN.out];exact CO5.out.kept hg (Qkt CO5.out RV5.out (by decide))
   obtain⟨gx6,gc6⟩:=S6.out.c1;have gf6:=S6.out.nf 1;have gl6:g<q6.heap.size:=World.block_lt_of_cell? q6 ⟨g,1,none⟩ gc6;clear hg ho;clear b0 b1 b2 bf bz;clear nn5 nn4 nn3 nn2 nn1 nn0;go_wp2_with fail
   go_roundw
   case rel=>exact⟨t+1,by omega,by go_num,EE6.out⟩
   case measure=>simp [intOf];omega
  ·have h1: ¬(t:Int)<(n1:Int):=by omega
   obtain rfl:t=n1:=by omega
   have b0:=HN.out.c0;have b2:=HN.out.c2;have m0:=cy HBX.out p0;have m1:=cy HBX.out p1;have m2:=cy HBX.out p2
   have mf: ∀o,wr.frozen? ⟨w.heap.size+1,o,none⟩=false:=fun o=>by
    rw [HBX.out.frozen (p:=⟨w.heap.size+1,o,none⟩) zX1];exact pf o
   have mz:w.heap.size+1<wr.heap.size:=Nat.lt_of_lt_of_le zX1 zr;have gz:g<wr.heap.size:=World.block_lt_of_cell? wr ⟨g,0,none⟩ b0
   have HD:Hid (DgO wr X.heap.size (.agg #[.int .i64 d.next,.slice E1' t f1,.slice A3 n2 c3]) d):=by
    refine⟨_,_,ys,rfl,?_,?_,?_,?_⟩
    ·rw [E1.out];exact ho1
    ·rw [E1.out];exact hp1
    ·rw [E1.out];exact ha1
    ·rw [E2.out];exact HN.out.o2
   have KR:Hid (Below w.heap.size w wr):=KX.out.trans (HBX.out.mono (by omega));clear ho1 hp1 ha1 HN;go_wp2_with fail
   refine bodyPost_ret (v:= .agg #[.int .i64 d.next,.slice E1' t f1,.slice A3 n2 c3]) ?_ rfl ⟨_,rfl,?_,?_⟩
   ·simp (maxDischargeDepth:=9) [results,Tryz.results26,go_sem, *]
   ·exact(((HD.out.setB zX1).setB zX1).setB zX1).mono (by omega)
   ·exact((KR.out.setCell (by show w.heap.size≤w.heap.size+1;omega) _).setCell (by show w.heap.size≤w.heap.size+1;omega) _).setCell (by show w.heap.size≤w.heap.size+1;omega) _
theorem noD_ok:DgOk noD:=⟨fun _ hx=>(List.not_mem_nil hx).elim,fun _ hx=>(List.not_mem_nil hx).elim,fun _ hx=>(List.not_mem_nil hx).elim⟩
theorem noD_lil:DgLil noD:=⟨fun _ hx=>(List.not_mem_nil hx).elim,fun _ hx=>(List.not_mem_nil hx).elim,Nat.zero_le _,Nat.zero_le _⟩
theorem laws_szDagL {v:Value} {d:DG} (w:World) (h:DgRow w v d) (hx:DgOk d):
  Calls Tryz.prog 6 #[v,.int .i64 1048576] w fun e w'=> ∃z:Int,e= .returned (.int .i64 z)∧z≤1048576∧(0≤z→DgLil d)∧Below w.heap.size w w':=by
 obtain⟨A1,n1,c1,A2,n2,c2,rfl⟩:=h.agg;obtain⟨r1,e1,r2,e2⟩:=h.open;have R1:Hid (VrRow w A1 d.vs):=r1;have R2:Hid (ZT w A2 d.bs):=r2;have E1:Hid (d.vs.length=n1):=e1;have E2:Hid (d.bs.length=n2):=e2;have HX:Hid (DgOk d):=hx
 clear h r1 r2 e1 e2 hx;go_enter Tryz.func6,Tryz.ntmps6;go_wp2_with fail
 refine(Kt _ (R1.out.below (by go_grown)) E1.out).mono ?_;rintro e u1 ⟨z,rfl,hz1,hz,hb⟩;obtain⟨hc,hf,hC,hF,hzz,hk,l0⟩:=bk1 (w:=w) (by go_grown) (by go_size) hb;clear hb;by_cases hneg:z<0
 ·go_wp2_with fail
  go_ret;exact⟨_,rfl,by omega,fun h=>by omega,hk⟩
 have HV:Hid (n1≤1048576∧ ∀x∈d.vs,JS x):=hz (by omega);clear hz;go_wp2_with fail
 refine(Hg _ _ (R2.out.below hk) E2.out HX.out.b (by omega) (by omega)).mono ?_;rintro e u2 ⟨z2,rfl,hz2,hz3,hb⟩;have K2:=hd (Qb hk hb);clear hb;by_cases hneg2:z2<0
 ·go_wp2_with fail
  go_ret;exact⟨_,rfl,by omega,fun h=>by omega,K2.out⟩
 have HB:Hid (n2≤1048576∧ ∀x∈d.bs,VA x):=hz3 (by omega);clear hz3;go_wp2_with fail
 go_ret;exact⟨_,rfl,by omega,fun _=>⟨HV.out.2,HB.out.2,by rw [E1.out];exact HV.out.1,by rw [E2.out];exact HB.out.1⟩,K2.out⟩
theorem wf_of {z:Int} (h0:0≤z) (h1:z≤1000000000):(Lit.int .i64 z).wf=true:=by
 simp [Lit.wf,IntKind.min,IntKind.max,IntKind.signed,IntKind.bits];omega
theorem CmR.open {B:Nat} {w':World} {D:DG} {i1 i2:Int} {e:Ending} (h:CmR B w' (D,i1,i2) e): ∃A1 n1 c1 A2 n2 c2,e= .returned (.tuple #[.agg #[.int .i64 D.next,.slice A1 n1 c1,.slice A2 n2 c2],.int .i64 i1,.int .i64 i2])∧DgO w' B (.agg #[.int .i64 D.next,.slice A1 n1 c1,.slice A2 n2 c2]) D:=by
 obtain⟨v',rfl,ho⟩:=h;obtain⟨A1,c1,A2,c2,rfl,_,_⟩:=ho.parts;exact⟨_,_,_,_,_,_,rfl,ho⟩
end Go.Proofs.YtkkbgjeilomnmaaGreatDoor
namespace Go.Proofs.YtkkbgjeilomnmaaGreatDoor
open Go.RowKit
theorem bl_irrefl (l:List UInt8):Op.bytesLess l l=false:=by
 induction l with
 | nil=>rfl
 | cons a x ih=>simp [Op.bytesLess,ih]
theorem bl_asymm: ∀(l m:List UInt8),Op.bytesLess l m=true→Op.bytesLess m l=false
 | [],[],h=>by simp [Op.bytesLess]at h
 | _::_,[],h=>by simp [Op.bytesLess]at h
 | [],_::_,_=>rfl
 | a::x,b::y,h=>by
  simp only [Op.bytesLess,Bool.or_eq_true,Bool.and_eq_true,decide_eq_true_eq,beq_iff_eq]at h;simp only [Op.bytesLess,Bool.or_eq_false_iff,Bool.and_eq_false_iff,decide_eq_false_iff_not,beq_eq_false_iff_ne];rcases h with h | ⟨rfl,h⟩
  ·rw [UInt8.lt_iff_toNat_lt]at h;refine⟨fun hq=> ?_,Or.inl fun hq=> ?_⟩
   ·rw [UInt8.lt_iff_toNat_lt]at hq;omega
   ·rw [hq]at h;omega
  ·exact⟨fun hq=>by rw [UInt8.lt_iff_toNat_lt]at hq;omega,Or.inr (bl_asymm x y h)⟩
theorem bl_tri: ∀(l m:List UInt8),Op.bytesLess l m=false→Op.bytesLess m l=false→l=m
 | [],[],_,_=>rfl
 | _::_,[],_,h=>by simp [Op.bytesLess]at h
 | [],_::_,h,_=>by simp [Op.bytesLess]at h
 | a::x,b::y,h,h'=>by
  simp only [Op.bytesLess,Bool.or_eq_false_iff,Bool.and_eq_false_iff,decide_eq_false_iff_not,beq_eq_false_iff_ne]at h h'
  have e:a=b:=by
   obtain⟨h1,_⟩:=h;obtain⟨h2,_⟩:=h';rw [UInt8.lt_iff_toNat_lt]at h1 h2;exact UInt8.toNat_inj.1 (by omega)
  subst e;have h1:=h.2.resolve_left (fun hq=>hq rfl);have h2:=h'.2.resolve_left (fun hq=>hq rfl);rw [bl_tri x y h1 h2]
theorem bl_trans: ∀(l m n:List UInt8),Op.bytesLess l m=true→Op.bytesLess m n=true→Op.bytesLess l n=true
 | _,[],_,h,_=>by simp [Op.bytesLess]at h
 | _,_::_,[],_,h=>by simp [Op.bytesLess]at h
 | [],_::_,_::_,_,_=>rfl
 | a::x,b::y,c::z,h,h'=>by
  simp only [Op.bytesLess,Bool.or_eq_true,Bool.and_eq_true,decide_eq_true_eq,beq_iff_eq]at h h' ⊢;rcases h with h | ⟨rfl,h⟩<;>rcases h' with h' | ⟨rfl,h'⟩
  ·left
   rw [UInt8.lt_iff_toNat_lt]at h h' ⊢;omega
  ·exact Or.inl h
  ·exact Or.inl h'
  ·exact Or.inr ⟨rfl,bl_trans x y z h h'⟩
theorem toList_inj {s t:ByteArray} (h:s.toList=t.toList):s=t:=Qi2 (by simp [h])
end Go.Proofs.YtkkbgjeilomnmaaGreatDoor
namespace Go.Proofs.YtkkbgjeilomnmaaGreatDoor
open Go.RowKit Go.Maps
def insB (s:ByteArray) (h:Int):List BR→List BR
 | []=> [⟨s,h⟩]
 | x::r=>if Op.bytesLess s.toList x.n.toList=true then⟨s,h⟩::x::r else x::insB s h r
theorem insB_perm (s:ByteArray) (h:Int): ∀L:List BR,(insB s h L).Perm (L++ [⟨s,h⟩])
 | []=>List.Perm.refl _
 | x::r=>by
  rw [insB];split
  ·exact(List.perm_append_comm (l₁:= [(⟨s,h⟩:BR)]) (l₂:=x::r))
  ·exact(insB_perm s h r).cons x
theorem insB_mem {s:ByteArray} {h:Int} {L:List BR} {y:BR}:y∈insB s h L↔y∈L∨y=⟨s,h⟩:=by
 rw [(insB_perm s h L).mem_iff,List.mem_append,List.mem_singleton]
theorem insB_len (s:ByteArray) (h:Int) (L:List BR):(insB s h L).length=L.length+1:=by rw [(insB_perm s h L).length_eq,List.length_append];rfl
theorem insB_no {s:ByteArray} {h:Int}: ∀{L:List BR},(∀x∈L,Op.bytesLess s.toList x.n.toList=false)→insB s h L=L++ [⟨s,h⟩]
 | [],_=>rfl
 | x::r,hx=>by
  rw [insB,if_neg (by rw [hx x (by simp)];decide),insB_no (fun y hy=>hx y (by simp [hy]))];rfl
theorem insB_at {s:ByteArray} {h:Int} {x:BR}: ∀{L:List BR},(∀y∈L,Op.bytesLess s.toList y.n.toList=false)→Op.bytesLess s.toList x.n.toList=true→insB s h (L++ [x])=L++ [⟨s,h⟩,x]
 | [],_,hx=>by show insB s h [x]=_;rw [insB,if_pos hx];rfl
 | y::r,hy,hx=>by
  show insB s h (y::(r++ [x]))=_;rw [insB,if_neg (by rw [hy y (by simp)];decide),insB_at (fun z hz=>hy z (by simp [hz])) hx];rfl
theorem insB_more {s:ByteArray} {h:Int} {x:BR}: ∀{L:List BR},(∃y∈L,Op.bytesLess s.toList y.n.toList=true)→insB s h (L++ [x])=insB s h L++ [x]
 | [],hy=>by obtain⟨y,hy,_⟩:=hy;cases hy
 | y::r,hy=>by
  show insB s h (y::(r++ [x]))=_;by_cases e:Op.bytesLess s.toList y.n.toList=true
  ·rw [insB,if_pos e,insB,if_pos e];rfl
  ·obtain⟨z,hz,hlt⟩:=hy
   have hz2:z∈r:=by
    rcases List.mem_cons.1 hz with rfl | hz
    ·exact absurd hlt e
    ·exact hz
   rw [insB,if_neg e,insB,if_neg e,insB_more ⟨z,hz2,hlt⟩];rfl
def insT (s:ByteArray) (h:Int) (L:List BR) (t:Nat):List BR:=if(L.take t).any (fun x=>Op.bytesLess s.toList x.n.toList)=true then insB s h (L.take t)else L.take t
theorem any_take {s:ByteArray} {L:List BR} {t:Nat} {x:BR} (hx:L[t]? =some x):(L.take (t+1)).any (fun x=>Op.bytesLess s.toList x.n.toList)=((L.take t).any (fun x=>Op.bytesLess s.toList x.n.toList) || Op.bytesLess s.toList x.n.toList):=by
 rw [List.take_add_one,hx,List.any_append];simp
theorem insT_put {s:ByteArray} {h:Int} {L:List BR} {t:Nat} {x:BR} (hx:L[t]? =some x) (hdq:(L.take t).any (fun x=>Op.bytesLess s.toList x.n.toList)=false) (hlt:Op.bytesLess s.toList x.n.toList=true):insT s h L (t+1)=(insT s h L t++ [⟨s,h⟩])++ [x]:=by
 unfold insT;rw [any_take hx,hdq,hlt,if_pos (by decide),if_neg (by decide),List.take_add_one,hx];show insB s h (L.take t++ [x])=_;rw [insB_at (fun y hy=>by have:=List.any_eq_false.1 hdq y hy;simpa using this) hlt,List.append_assoc];rfl
theorem insT_on {s:ByteArray} {h:Int} {L:List BR} {t:Nat} {x:BR} (hx:L[t]? =some x) (hdq:(L.take t).any (fun x=>Op.bytesLess s.toList x.n.toList)=true∨Op.bytesLess s.toList x.n.toList=false):insT s h L (t+1)=insT s h L t++ [x]:=by
 unfold insT;rw [any_take hx,List.take_add_one,hx];by_cases e:(L.take t).any (fun x=>Op.bytesLess s.toList x.n.toList)=true
 ·rw [e,Bool.true_or,if_pos rfl,if_pos rfl];obtain⟨y,hy,hlt⟩:=List.any_eq_true.1 e;exact insB_more ⟨y,hy,hlt⟩
 ·have e1:(L.take t).any (fun x=>Op.bytesLess s.toList x.n.toList)=false:=by simpa using e
  rw [e1,hdq.resolve_left e,if_neg (by decide),if_neg (by decide)];rfl
theorem insT_end {s:ByteArray} {h:Int} {L:List BR} (hdq:L.any (fun x=>Op.bytesLess s.toList x.n.toList)=false):insT s h L L.length++ [⟨s,h⟩]=insB s h L:=by
 unfold insT;rw [List.take_length,hdq,if_neg (by decide),insB_no (fun y hy=>by have:=List.any_eq_false.1 hdq y hy;simpa using this)]
theorem insT_done {s:ByteArray} {h:Int} {L:List BR} (hdq:L.any (fun x=>Op.bytesLess s.toList x.n.toList)=true):insT s h L L.length=insB s h L:=by
 unfold insT;rw [List.take_length,hdq,if_pos rfl]
theorem insT_len {s:ByteArray} {h:Int} {L:List BR} {t:Nat}:(insT s h L t).length≤t+1:=by
 unfold insT;split
 ·rw [insB_len,List.length_take];omega
 ·rw [List.length_take];omega
theorem ltB_tri {x y:BR} (h1:ltB x y=false) (h2:ltB y x=false):x.n=y.n:=toList_inj (bl_tri _ _ h1 h2)
theorem asc_pw {L:List BR} (h:YK ltB L=true):L.Pairwise (fun x y=>ltB x y=true):=by
 induction L with
 | nil=>exact List.Pairwise.nil
 | cons x r ih=>
  cases r with
  | nil=>exact List.pairwise_singleton _ _
  | cons y q=>
   have hh:ltB x y=true∧YK ltB (y::q)=true:=by simpa [YK]using h
   have h2:=ih hh.2;refine List.Pairwise.cons (fun z hz=> ?_) h2;rcases List.mem_cons.1 hz with rfl | hz
   ·exact hh.1
   ·exact bl_trans _ _ _ hh.1 ((List.pairwise_cons.1 h2).1 z hz)
theorem insB_pw {s:ByteArray} {h:Int}: ∀{L:List BR},L.Pairwise (fun x y=>ltB x y=true)→(∀x∈L,x.n≠s)→(insB s h L).Pairwise (fun x y=>ltB x y=true)
 | [],_,_=>List.pairwise_singleton _ _
 | x::r,hp,hn=>by
  have hp2:=List.pairwise_cons.1 hp;rw [insB];by_cases e:Op.bytesLess s.toList x.n.toList=true
  ·rw [if_pos e];refine List.Pairwise.cons (fun z hz=> ?_) hp;rcases List.mem_cons.1 hz with rfl | hz
   ·exact e
   ·exact bl_trans _ _ _ e (hp2.1 z hz)
  ·rw [if_neg e]
   have e1:Op.bytesLess x.n.toList s.toList=true:=by
    cases h9:Op.bytesLess x.n.toList s.toList with
    | true=>rfl
    | false=>exact absurd (toList_inj (bl_tri _ _ h9 (by simpa using e))) (hn x (by simp))
   refine List.Pairwise.cons (fun z hz=> ?_) (insB_pw hp2.2 (fun y hy=>hn y (by simp [hy])));rcases insB_mem.1 hz with hz | rfl
   ·exact hp2.1 z hz
   ·exact e1
theorem pw_one {L M:List BR} (hp:L.Perm M) (h1:L.Pairwise (fun x y=>ltB x y=true)) (h2:M.Pairwise (fun x y=>ltB x y=true)):L=M:=by
 induction L generalizing M with
 | nil=>exact(List.nil_perm.1 hp).symm
 | cons x r ih=>
  cases M with
  | nil=>exact absurd hp (by simp)
  | cons y q=>
   have a1:=List.pairwise_cons.1 h1;have b1:=List.pairwise_cons.1 h2
   have e:x=y:=by
    rcases List.mem_cons.1 (hp.mem_iff.1 (List.mem_cons_self (a:=x) (l:=r)))with e | hx
    ·exact e
    ·rcases List.mem_cons.1 (hp.mem_iff.2 (List.mem_cons_self (a:=y) (l:=q)))with e | hy
     ·exact e.symm
     ·have h8:ltB y x=true:=b1.1 x hx;have h9:ltB y x=false:=bl_asymm _ _ (a1.1 y hy);rw [h9]at h8;cases h8
   subst e;rw [ih ((List.perm_cons x).1 hp) a1.2 b1.2]
theorem sorted_ins {s:ByteArray} {h:Int} {L M:List BR} (ha:YK ltB L=true) (hn: ∀x∈L,x.n≠s) (hp:M.Perm (L++ [⟨s,h⟩])) (hs:M.Pairwise (fun x y=>ltB y x=false)):M=insB s h L:=by
 have h1:=insB_pw (h:=h) (asc_pw ha) hn;have hp2:M.Perm (insB s h L):=hp.trans (insB_perm s h L).symm;refine pw_one hp2 ?_ h1
 have hnd:M.Pairwise (fun x y=>x.n≠y.n):=by
  refine(hp2.pairwise_iff (fun h=>Ne.symm h)).2 (h1.imp fun hlt e=> ?_);rw [ltB,e,bl_irrefl]at hlt;cases hlt
 refine(hs.and hnd).imp fun h9=> ?_;cases h8:ltB _ _ with
 | true=>rfl
 | false=>exact absurd (ltB_tri h8 h9.1) h9.2
def bcD (d:DG) (s:ByteArray) (h:Int):DG × Int:=
 if nmB s=false∨headF d.bs s≠0 then(d,7)else if h∉QS d.vs then(d,3)else if 8≤d.bs.length then(d,5)else(⟨d.next,d.vs,insB s h d.bs⟩,0)
def bcA (d:DG) (s:ByteArray) (h:Int):DG × Int:=if Xb d=true then bcD d s h else(noD,1)
theorem headF_none {L:List BR} {s:ByteArray} (h:headF L s=0) (hz: ∀x∈L,x.h≠0): ∀x∈L,x.n≠s:=by
 intro x hx e;unfold headF at h;cases hf:L.find? (fun x=>decide (x.n=s))with
 | none=>exact absurd (List.find?_eq_none.1 hf x hx) (by simp [e])
 | some y=>
  rw [hf]at h;exact hz y (List.mem_of_find?_eq_some hf) h
theorem cb_lt: ∀a b:List UInt8,decide (Lib.compareBytes a b<0)=Op.bytesLess a b
 | [],[]=>by simp [Lib.compareBytes,Op.bytesLess]
 | [],_::_=>by simp [Lib.compareBytes,Op.bytesLess]
 | _::_,[]=>by simp [Lib.compareBytes,Op.bytesLess]
 | a::x,b::y=>by
  rw [Lib.compareBytes,Op.bytesLess];by_cases h1:a<b
  ·rw [if_pos h1];simp [h1]
  ·rw [if_neg h1];by_cases h2:b<a
   ·have hne: ¬a=b:=fun e=>by
     subst e;rw [UInt8.lt_iff_toNat_lt]at h2;omega
    rw [if_pos h2];simp [h1,hne]
   ·have e:a=b:=by
     rw [UInt8.lt_iff_toNat_lt]at h1 h2;exact UInt8.toNat_inj.1 (by omega)
    subst e;rw [if_neg h2,cb_lt x y];simp
def brC (x y:BR):Int:=Lib.compareBytes x.n.data.toList y.n.data.toList
theorem brC_lt (x y:BR):ltOf brC x y=ltB x y:=by
 show decide (Lib.compareBytes x.n.data.toList y.n.data.toList<0)=_;rw [cb_lt,ltB,Lib.toList_data,Lib.toList_data]
theorem brC_swo:Go.Sort.SWO (ltOf brC) where
 irrefl x:=by rw [brC_lt];exact bl_irrefl _
 trans x y z h1 h2:=by rw [brC_lt]at*;exact bl_trans _ _ _ h1 h2
 ntrans x y z h1 h2:=by
  rw [brC_lt]at*;cases h:ltB x z with
  | false=>rfl
  | true=>
   cases h3:ltB y x with
   | true=>rw [show ltB y z=true from bl_trans _ _ _ h3 h]at h2;cases h2
   | false=>
    have e:=ltB_tri h1 h3;rw [show ltB y z=ltB x z by unfold ltB;rw [e],h]at h2;cases h2
theorem br_closure (x y:BR) (W:World):Calls Tryz.prog 74 #[.agg #[.string x.n,.int .i64 x.h],.agg #[.string y.n,.int .i64 y.h]] W fun e w'=>e= .returned (.int .i64 (brC x y))∧ ∃q os',w'=Go.Sort.grow (W.drewN q) os':=by
 have hcon:=fun W'=>Any.strings_Compare Tryz.lay106b x.n y.n W';change∀W',Calls Tryz.prog 75 _ _ _ at hcon;obtain⟨r,HR⟩: ∃r,Hid (brC x y=r):=⟨_,rfl⟩;change∀W',Calls Tryz.prog 75 _ W' (fun e w'=>e= .returned (.int .i64 (brC x y))∧w'=W')at hcon;rw [HR.out]at hcon ⊢;go_enter Tryz.func74,Tryz.ntmps74;go_wp2_with (go_at_call 75;refine(hcon _).mono ?_;rintro e w' ⟨rfl,rfl⟩)
 go_ret;exact⟨rfl,0,_,by rw [Go.Sort.alloc_eq_grow,Go.Sort.alloc_eq_grow,Go.Sort.grow_grow];rfl⟩
theorem flatK_eq [Inhabited BR] (L:List BR):Go.Sort.flatK brL 2 L.toArray=(Jf brL L).toArray:=by
 refine Go.Sort.ext_get! (by simp [Db Ni]) fun t ht=> ?_;have ht':t<L.length*2:=by simpa using ht
 rw [Go.Sort.get_flatK _ _ _ t (by simpa using ht')];have hi:t/2<L.length:=by omega
 have e:t/2*2+t%2=t:=by omega
 have h9:=Nb Ni (t%2) (by omega) L (t/2);rw [e,List.getElem?_eq_getElem hi]at h9;have hl:t<(Jf brL L).length:=by rw [Db Ni];exact ht'
 rw [List.getElem?_eq_getElem hl]at h9;have h8:t%2<(brL L[t/2]).length:=by rw [Ni];omega
 simp only [Option.bind_some]at h9;rw [List.getElem?_eq_getElem h8]at h9;rw [getElem!_pos (Jf brL L).toArray t (by simpa using hl),getElem!_pos L.toArray (t/2) (by simpa using hi)];simp only [List.getElem_toArray];rw [getElem!_pos (brL L[t/2]) (t%2) h8];exact(Option.some.inj h9).symm
theorem heap_sortB {w:World} {g m:Nat} {os:Array Obj} {cur:Array Value} {e:TypeId} {fr:Nat × Nat} [Inhabited BR] (d:Array BR) (hb:w.heap[g]? =some (.cells cur e fr)):(sortWorldK brL 2 w g 0 m d os).heap[g]? =some (.cells (Go.Sort.putCells id 0 (Go.Sort.flatK brL 2 d) cur) e fr):=by
 have hg:g<w.heap.size:=(Array.getElem?_eq_some_iff.1 hb).1;unfold sortWorldK;rw [Go.Sort.heap_grow_old _ _ (by simpa [Go.Sort.putRowK]using hg)];simp [Go.Sort.putRowK,Go.Sort.putRow,Go.Sort.mapBlock,Go.Sort.ahead,Array.getElem?_modify,hb,Go.Sort.onCells]
theorem grown_sortB {w:World} {g m:Nat} {os:Array Obj} [Inhabited BR] (d:Array BR):w.grownBy (sortWorldK brL 2 w g 0 m d os) (some g):=by
 unfold sortWorldK;refine⟨rfl,rfl,rfl,by simp [Go.Sort.putRowK],fun k hk hne=> ?_⟩;rw [Go.Sort.heap_grow_old _ _ (by simpa [Go.Sort.putRowK]using hk)];have:g≠k:=fun e=>hne (by rw [e]);simp [Go.Sort.putRowK,Go.Sort.putRow,Go.Sort.mapBlock,Go.Sort.ahead,Array.getElem?_modify,this]
theorem take_putB (cur:Array Value) (ts:List Value) (h:ts.length≤cur.size):(Go.Sort.putCells id 0 ts.toArray cur).toList.take ts.length=ts:=by
 apply List.ext_getElem?;intro j;by_cases hj:j<ts.length
 ·rw [List.getElem?_take_of_lt hj,Array.getElem?_toList];simp [Go.Sort.putCells,hj,show j<cur.size by omega]
 ·rw [List.getElem?_take_eq_none (by omega),List.getElem?_eq_none (by omega)]
theorem sort_branches {W:World} {B g n cap:Nat} {L:List BR} (h:W.ownsRow B 79 2 (.slice (some ⟨g,0,none⟩) n cap) n (Jf brL L)) (hL:L.length=n) (hn:n≤1000):
  Calls Tryz.prog 73 #[.slice (some ⟨g,0,none⟩) n cap,.func (.func 74) #[] #[]] W fun e w'=>e= .returned (.tuple #[])∧ ∃M:List BR,M.Perm L∧M.Pairwise (fun x y=>ltB y x=false)∧w'.ownsRow B 79 2 (.slice (some ⟨g,0,none⟩) n cap) n (Jf brL M)∧W.grownBy w' (some g):=by
 haveI:Inhabited BR:=⟨⟨⟨#[]⟩,0⟩⟩
 rcases h.2 with⟨e,_⟩ | ⟨g',cap',cur,e,hB,hb,h1,h2,h3,h4⟩
 ·cases e
 cases e
 have eg: ∀args w,(callFunc 74 args).run Tryz.prog w= .ok (.enter 74 args) w:=enters_of Tryz.func74 (by kernel_rfl) rfl
 have hH:Go.Sort.HoldsK brL 2 W g 0 L.toArray:=by
  unfold Go.Sort.HoldsK;rw [flatK_eq];intro j hj;have hj':j<n*2:=by rw [←h.1];simpa using hj
  refine⟨?_,by rw [Nat.zero_add];exact h.frozenAt j⟩;rw [Nat.zero_add,h.cellAt j hj',getElem!_pos _ j hj];have hl:j<(Jf brL L).length:=by simpa using hj
  rw [List.getElem?_eq_getElem hl];simp
 have hcmp:CmpLays Tryz.prog 74 #[] brL 2 brC g 0 L.toArray.size W:=fun _ _ _ _ x y=>br_closure x y _;have hcon:=AnyQ.slices_SortFunc Tryz.sortBr 2 Tryz.isAgg79 Tryz.sizeOf79 brL Ni (fun x v hv=>by simp [brL]at hv;rcases hv with rfl | rfl<;>rfl) brC brC_swo 74 #[] g 0 cap L.toArray W eg hcmp hH (Array.getElem?_eq_some_iff.1 hb).1 (by simp;omega);rw [show L.toArray.size=n by simp [hL]]at hcon;change Calls Tryz.prog 73 _ _ _ at hcon;refine hcon.mono ?_;rintro e w' ⟨rfl,d',m,os,⟨hs,_,hp⟩,hso,rfl⟩;have hs':d'.size=n:=by rw [hs];simp [hL]
 have hp':d'.toList.Perm L:=by
  have e1:(d'.extract 0 n)=d':=by rw [←hs'];simp
  have e2:(L.toArray.extract 0 n)=L.toArray:=by rw [←hL];simp
  rw [e1,e2]at hp;simpa using hp
 have ed:d'.toList.toArray=d':=by simp
 refine⟨rfl,d'.toList,hp',?_,?_,grown_sortB d'⟩
 ·rw [List.pairwise_iff_getElem];intro i j hi hj hij;have h9:=hso i j (Nat.zero_le _) hij (by rw [←hs'];simpa using hj);rw [brC_lt,getElem!_pos d' j (by simpa using hj),getElem!_pos d' i (by simpa using hi)]at h9;simpa using h9
 ·refine⟨by rw [Db Ni];simp [hs'],.inr ⟨g,cap,_,rfl,hB,heap_sortB d' hb,h1,h2,by simp [Go.Sort.putCells,h3],?_⟩⟩;have hf:Go.Sort.flatK brL 2 d'=(Jf brL d'.toList).toArray:=by rw [←flatK_eq,ed]
  have hl:(Jf brL d'.toList).length=n*2:=by rw [Db Ni];simp [hs']
  rw [hf,←hl];refine take_putB cur _ ?_;rw [hl,h3];exact Nat.mul_le_mul_right _ h1
theorem hyd {p:Prop} (h:p):Hid p:=h
theorem DgV.setT {W:World} {B n g o:Nat} {v x:Value} {L:List VR} {c:Array Value} {r:Nat × Nat} (h:DgV W B v L n) (hg:W.heap[g]? =some (.cells c 32 r)):DgV (W.setCell ⟨g,o,none⟩ x) B v L n:=by
 obtain⟨ys,h1,h2,h4⟩:=h;refine⟨ys,own_setT h1 hg (by decide),fun i y hi hy=> ?_,h4⟩;obtain⟨u,uc,s,sc,y0,y1,y2,k1,k2⟩:=h2 i y hi hy;exact⟨u,uc,s,sc,y0,y1,y2,own_setT k1 hg (by decide),own_setT k2 hg (by decide)⟩
theorem wpList_app_br {ops:Array Oper} {rest:List Oper} {o:Oper} {a:Act} {Q:Exit→Act→World→Prop} {W:World} (hgd:o.guard=none) (s x:Operand) (ho:o.op= .call {callee:= .builtin .append,args:= #[s,x],argTypes:= #[30,30]}) (B:Nat) (v:Value) (n:Nat) (L:List BR) (hs:a.eval s=v)
  (hown:W.ownsRow B 79 2 v n (Jf brL L)) (nm:ByteArray) (hdq:Int) (g:Nat) (hx:a.eval x= .slice (some ⟨g,0,none⟩) 1 1) (h0:W.cell? ⟨g,0,none⟩=some (.string nm)) (h1:W.cell? ⟨g,1,none⟩=some (.int .i64 hdq)) (hn:n≤1099511627776) (hB:B≤W.heap.size)
  (h: ∀v' w',w'.ownsRow B 79 2 v' (n+1) (Jf brL (L++ [⟨nm,hdq⟩]))→W.grownBy w' v.ownBlock→wpList Tryz.prog ops Q rest (a.put o.dst v') w'):wpList Tryz.prog ops Q (o::rest) a W:=by
 obtain⟨i0,hi,iz0,iz1,iz2⟩:=info_parts Qj4;refine wpList_append_own W hgd s x 30 ho B 79 i0 (.agg #[.string ⟨#[]⟩,.int .i64 0]) 2 24 Tryz.underlying30 hi iz0 iz1 iz2 rfl (by decide) v n _ hs hown ⟨g,0,none⟩ 1 1 [.string nm,.int .i64 hdq] hx rfl ?_ ?_ ?_ ?_ hB ?_
 ·intro q u hq;match q,hq with
  | 0,hq=>simp at hq;subst hq;simpa [Addr.add]using h0
  | 1,hq=>simp at hq;subst hq;simpa [Addr.add]using h1
 ·intro u hu;simp at hu;rcases hu with rfl | rfl<;>rfl
 ·unfold maxLen;omega
 ·omega
 ·intro v' w3 hown' hgrow _;refine h v' w3 ?_ hgrow;rw [Qkv];exact hown'
theorem impl_versionMapOf9 {A:Option Addr} {n cap:Nat} {L:List VR} (w:World) (h:VrRow w A L) (hL:L.length=n) (hw: ∀x∈L,(Lit.int .i64 x.id).wf=true) (hn:n≤1048576):
  Calls Tryz.prog 71 #[.slice A n cap] w fun e w'=> ∃b,e= .returned (.map (some b))∧VMap w' b n (QS L)∧Below w.heap.size w w':=
 (Va w h hL hw hn).mono fun _ _ ⟨e,hv,hb⟩=>⟨_,e,hv,hb⟩
def BcR (B:Nat) (w':World) (r:DG × Int) (e:Ending):Prop:= ∃v',e= .returned (.tuple #[v',.int .i64 r.2])∧DgO w' B v' r.1
theorem impl_branched {v:Value} {d:DG} (s:ByteArray) (fr:Int) (w:World) (h:DgRow w v d) (hk:DgOk d) (hl:DgLil d) (hf:DgFacts d) (has:YK ltB d.bs=true) (hs:s.size≤maxLen) (hfr:(Lit.int .i64 fr).wf=true):
  Calls Tryz.prog 44 #[v,.string s,.int .i64 fr] w fun e w'=>BcR w.heap.size w' (bcD d s fr) e∧Below w.heap.size w w':=by
 obtain⟨A1,n1,c1,A2,n2,c2,rfl⟩:=h.agg;have HD:Hid (DgRow w (.agg #[.int .i64 d.next,.slice A1 n1 c1,.slice A2 n2 c2]) d):=h;obtain⟨r1,e1,r2,e2⟩:=h.open;have HR1:Hid (VrRow w A1 d.vs):=r1;have HR2:Hid (ZT w A2 d.bs):=r2;have E1:Hid (d.vs.length=n1):=e1;have E2:Hid (d.bs.length=n2):=e2
 have HK:Hid (DgOk d):=hk;have HL:Hid (DgLil d):=hl;have HF:Hid (DgFacts d):=hf;have HAS:Hid (YK ltB d.bs=true):=has;have HWI:Hid (∀x∈d.vs,(Lit.int .i64 x.id).wf=true):=fun x hx=>wf_of (by have:=hf.lo x hx;omega) (by have:=hf.hi x hx;have:=hf.nx;omega);have hn1:n1≤40:=by rw [←e1];exact hf.nv
 have hn2:n2≤8:=by rw [←e2];exact hf.nb
 clear h r1 r2 e1 e2 hk hl hf has;go_enter Tryz.func44,Tryz.ntmps44;go_wp2_with fail
 obtain⟨X,HX⟩: ∃X,Hid ((w.alloc (.cells #[.int .i64 d.next,.slice A1 n1 c1,.slice A2 n2 c2] 32)).alloc (.cells #[.int .i64 0,.slice none 0 0,.slice none 0 0] 32)=X):=⟨_,rfl⟩;rw [HX.out];have x0:X.cell? ⟨w.heap.size,0,none⟩=some (.int .i64 d.next):=by rw [←HX.out];go_simp
 have x1:X.cell? ⟨w.heap.size,1,none⟩=some (.slice A1 n1 c1):=by rw [←HX.out];go_simp
 have x2:X.cell? ⟨w.heap.size,2,none⟩=some (.slice A2 n2 c2):=by rw [←HX.out];go_simp
 have p0:X.cell? ⟨w.heap.size+1,0,none⟩=some (.int .i64 0):=by rw [←HX.out];go_simp
 have p1:X.cell? ⟨w.heap.size+1,1,none⟩=some (.slice none 0 0):=by rw [←HX.out];go_simp
 have p2:X.cell? ⟨w.heap.size+1,2,none⟩=some (.slice none 0 0):=by rw [←HX.out];go_simp
 have pf: ∀o,X.frozen? ⟨w.heap.size+1,o,none⟩=false:=fun o=>by rw [←HX.out];go_simp
 have ZX:Hid (X.heap.size=w.heap.size+2):=by rw [←HX.out];show _=_;simp
 have zX0:w.heap.size<X.heap.size:=by have:=ZX.out;omega
 have zX1:w.heap.size+1<X.heap.size:=by have:=ZX.out;omega
 have KX:Hid (Below w.heap.size w X):=by rw [←HX.out];show Below _ _ _;go_grown
 clear HX;refine(impl_dcopied _ (HD.out.below KX.out) HL.out).mono ?_;rintro e u1 ⟨v',rfl,ho,hb⟩;have DO:Hid (DgO u1 X.heap.size v' d):=ho;obtain⟨A3,c3,A4,c4,rfl,hv,hbr⟩:=ho.parts;simp only [E1.out,E2.out]at hv hbr DO ⊢;have DV:Hid (DgV u1 X.heap.size (.slice A3 n1 c3) d.vs n1):=hv
 have DB:Hid (u1.ownsRow X.heap.size 79 2 (.slice A4 n2 c4) n2 (Jf brL d.bs)):=hbr;have ZB:Hid (w.heap.size+2≤X.heap.size):=by show _≤_;omega
 have ZU:Hid (X.heap.size≤u1.heap.size):=hb.size;replace x0:=cy hb x0;replace x1:=cy hb x1;replace x2:=cy hb x2;replace p0:=cy hb p0;replace p1:=cy hb p1;replace p2:=cy hb p2
 replace pf: ∀o,u1.frozen? ⟨w.heap.size+1,o,none⟩=false:=fun o=>(hb.frozen (p:=⟨w.heap.size+1,o,none⟩) zX1).trans (pf o);replace zX0:w.heap.size<u1.heap.size:=Nat.lt_of_lt_of_le zX0 hb.size;replace zX1:w.heap.size+1<u1.heap.size:=Nat.lt_of_lt_of_le zX1 hb.size;replace KX:=hd (Qb KX.out hb);clear hb ho hv hbr;go_wp2_with fail
 obtain⟨Y,HY⟩: ∃Y,Hid (u1.alloc (.cells #[.int .i64 d.next,.slice A3 n1 c3,.slice A4 n2 c4] 32)=Y):=⟨_,rfl⟩;rw [HY.out];have hb:Below u1.heap.size u1 Y:=by rw [←HY.out];exact(Below.refl _ _).alloc (Nat.le_refl _) _
 have g0:Y.cell? ⟨u1.heap.size,0,none⟩=some (.int .i64 d.next):=by rw [←HY.out];go_simp
 have g1:Y.cell? ⟨u1.heap.size,1,none⟩=some (.slice A3 n1 c3):=by rw [←HY.out];go_simp
 have g2:Y.cell? ⟨u1.heap.size,2,none⟩=some (.slice A4 n2 c4):=by rw [←HY.out];go_simp
 have gf: ∀o,Y.frozen? ⟨u1.heap.size,o,none⟩=false:=fun o=>by rw [←HY.out];go_simp
 have GB:Hid (∃c r,Y.heap[u1.heap.size]? =some (.cells c 32 r)):=⟨_,_,by rw [←HY.out];exact heap_alloc_new u1 _⟩;have gz:u1.heap.size<Y.heap.size:=by rw [←HY.out];simp
 clear HY;replace x0:=cy hb x0;replace x1:=cy hb x1;replace x2:=cy hb x2;replace p0:=cy hb p0;replace p1:=cy hb p1;replace p2:=cy hb p2
 replace pf: ∀o,Y.frozen? ⟨w.heap.size+1,o,none⟩=false:=fun o=>(hb.frozen (p:=⟨w.heap.size+1,o,none⟩) zX1).trans (pf o);replace zX0:w.heap.size<Y.heap.size:=Nat.lt_of_lt_of_le zX0 hb.size;replace zX1:w.heap.size+1<Y.heap.size:=Nat.lt_of_lt_of_le zX1 hb.size;replace KX:=hd (Qb KX.out hb);replace DO:=hyd (DO.out.below hb);replace DB:=hyd (Ql DB.out hb);replace DV:=hyd (DV.out.below hb)
 clear hb;have zb:=ZB.out;have zu:=ZU.out;refine(Oa s _ hs).mono ?_;rintro e u2 ⟨rfl,rfl⟩;obtain⟨nb,HNB⟩: ∃nb:Bool,Hid (nmB s=nb):=⟨_,rfl⟩;rw [HNB.out]
 cases nb
 ·have HV:Hid (bcD d s fr=(d,7)):=by show _=_;rw [bcD,if_pos (Or.inl HNB.out)]
  go_wp2_with fail
  refine bodyPost_ret (v:= .tuple #[.agg #[.int .i64 d.next,.slice A3 n1 c3,.slice A4 n2 c4],.int .i64 7]) ?_ rfl ⟨?_,?_⟩
  ·simp (maxDischargeDepth:=9) [results,Tryz.results44,go_sem, *]
  ·rw [HV.out];exact⟨_,rfl,(((DO.out.setB (by omega)).setB (by omega)).setB (by omega)).mono (by omega)⟩
  ·exact((KX.out.setCell (by show w.heap.size≤w.heap.size+1;omega) _).setCell (by show w.heap.size≤w.heap.size+1;omega) _).setCell (by show w.heap.size≤w.heap.size+1;omega) _
 go_wp2_with fail
 refine(impl_head s _ (HD.out.below KX.out) HK.out).mono ?_;rintro e u3 ⟨rfl,hb⟩;replace x0:=cy hb x0;replace x1:=cy hb x1;replace x2:=cy hb x2;replace p0:=cy hb p0;replace p1:=cy hb p1
 replace p2:=cy hb p2;replace pf: ∀o,u3.frozen? ⟨w.heap.size+1,o,none⟩=false:=fun o=>(hb.frozen (p:=⟨w.heap.size+1,o,none⟩) zX1).trans (pf o);replace zX0:w.heap.size<u3.heap.size:=Nat.lt_of_lt_of_le zX0 hb.size;replace zX1:w.heap.size+1<u3.heap.size:=Nat.lt_of_lt_of_le zX1 hb.size;replace KX:=hd (Qb KX.out hb);replace g0:=cy hb g0;replace g1:=cy hb g1
 replace g2:=cy hb g2;replace gf: ∀o,u3.frozen? ⟨u1.heap.size,o,none⟩=false:=fun o=>(hb.frozen (p:=⟨u1.heap.size,o,none⟩) gz).trans (gf o);replace GB:Hid (∃c r,u3.heap[u1.heap.size]? =some (.cells c 32 r)):=by obtain⟨cc,rr,g9⟩:=GB.out;exact⟨cc,rr,by rw [hb.block _ gz];exact g9⟩
 replace gz:u1.heap.size<u3.heap.size:=Nat.lt_of_lt_of_le gz hb.size;replace DO:=hyd (DO.out.below hb);replace DB:=hyd (Ql DB.out hb);replace DV:=hyd (DV.out.below hb);clear hb;obtain⟨hh,HH⟩: ∃hh:Int,Hid (headF d.bs s=hh):=⟨_,rfl⟩;rw [HH.out]
 by_cases h0:hh=0
 case neg=>
  have h0':(hh !=0)=true:=by simpa using h0
  have HV:Hid (bcD d s fr=(d,7)):=by show _=_;rw [bcD,if_pos (Or.inr (by rw [HH.out];exact h0))]
  go_wp2_with fail
  refine bodyPost_ret (v:= .tuple #[.agg #[.int .i64 d.next,.slice A3 n1 c3,.slice A4 n2 c4],.int .i64 7]) ?_ rfl ⟨?_,?_⟩
  ·simp (maxDischargeDepth:=9) [results,Tryz.results44,go_sem, *]
  ·rw [HV.out];exact⟨_,rfl,(((DO.out.setB (by omega)).setB (by omega)).setB (by omega)).mono (by omega)⟩
  ·exact((KX.out.setCell (by show w.heap.size≤w.heap.size+1;omega) _).setCell (by show w.heap.size≤w.heap.size+1;omega) _).setCell (by show w.heap.size≤w.heap.size+1;omega) _
 have h0':(hh !=0)=false:=by simpa using h0
 have HC1:Hid (¬(nmB s=false∨headF d.bs s≠0)):=by
  rintro(h9 | h9)
  ·rw [HNB.out]at h9;cases h9
  ·exact h9 (HH.out.trans h0)
 have HNO:Hid (∀x∈d.bs,x.n≠s):=headF_none (HH.out.trans h0) (fun x hx e=>by
  obtain⟨y,hy,e2⟩:=ids_mem (HF.out.hd x hx);have:=HF.out.lo y hy
  omega)
 go_wp2_with fail
 refine(impl_versionMapOf9 _ (HR1.out.below KX.out) E1.out HWI.out (by omega)).mono ?_;rintro e u4 ⟨b9,rfl,hM,hb⟩;have HM:Hid (VMap u4 b9 n1 (QS d.vs)):=hM;replace x0:=cy hb x0;replace x1:=cy hb x1;replace x2:=cy hb x2;replace p0:=cy hb p0
 replace p1:=cy hb p1;replace p2:=cy hb p2;replace pf: ∀o,u4.frozen? ⟨w.heap.size+1,o,none⟩=false:=fun o=>(hb.frozen (p:=⟨w.heap.size+1,o,none⟩) zX1).trans (pf o);replace zX0:w.heap.size<u4.heap.size:=Nat.lt_of_lt_of_le zX0 hb.size;replace zX1:w.heap.size+1<u4.heap.size:=Nat.lt_of_lt_of_le zX1 hb.size;replace KX:=hd (Qb KX.out hb);replace g0:=cy hb g0
 replace g1:=cy hb g1;replace g2:=cy hb g2;replace gf: ∀o,u4.frozen? ⟨u1.heap.size,o,none⟩=false:=fun o=>(hb.frozen (p:=⟨u1.heap.size,o,none⟩) gz).trans (gf o);replace GB:Hid (∃c r,u4.heap[u1.heap.size]? =some (.cells c 32 r)):=by obtain⟨cc,rr,g9⟩:=GB.out;exact⟨cc,rr,by rw [hb.block _ gz];exact g9⟩
 replace gz:u1.heap.size<u4.heap.size:=Nat.lt_of_lt_of_le gz hb.size;replace DO:=hyd (DO.out.below hb);replace DB:=hyd (Ql DB.out hb);replace DV:=hyd (DV.out.below hb);clear hb hM;go_wp2_with fail
 refine(Gn fr _ HM.out hfr).mono ?_;rintro e u5 ⟨rfl,hb⟩;replace x0:=cy hb x0;replace x1:=cy hb x1;replace x2:=cy hb x2;replace p0:=cy hb p0;replace p1:=cy hb p1
 replace p2:=cy hb p2;replace pf: ∀o,u5.frozen? ⟨w.heap.size+1,o,none⟩=false:=fun o=>(hb.frozen (p:=⟨w.heap.size+1,o,none⟩) zX1).trans (pf o);replace zX0:w.heap.size<u5.heap.size:=Nat.lt_of_lt_of_le zX0 hb.size;replace zX1:w.heap.size+1<u5.heap.size:=Nat.lt_of_lt_of_le zX1 hb.size;replace KX:=hd (Qb KX.out hb);replace g0:=cy hb g0;replace g1:=cy hb g1
 replace g2:=cy hb g2;replace gf: ∀o,u5.frozen? ⟨u1.heap.size,o,none⟩=false:=fun o=>(hb.frozen (p:=⟨u1.heap.size,o,none⟩) gz).trans (gf o);replace GB:Hid (∃c r,u5.heap[u1.heap.size]? =some (.cells c 32 r)):=by obtain⟨cc,rr,g9⟩:=GB.out;exact⟨cc,rr,by rw [hb.block _ gz];exact g9⟩
 replace gz:u1.heap.size<u5.heap.size:=Nat.lt_of_lt_of_le gz hb.size;replace DO:=hyd (DO.out.below hb);replace DB:=hyd (Ql DB.out hb);replace DV:=hyd (DV.out.below hb);clear hb HM;by_cases hin:fr∈QS d.vs
 case neg=>
  have hdi:decide (fr∈QS d.vs)=false:=decide_eq_false hin;have HV:Hid (bcD d s fr=(d,3)):=by show _=_;rw [bcD,if_neg HC1.out,if_pos hin]
  go_wp2_with fail
  refine bodyPost_ret (v:= .tuple #[.agg #[.int .i64 d.next,.slice A3 n1 c3,.slice A4 n2 c4],.int .i64 3]) ?_ rfl ⟨?_,?_⟩
  ·simp (maxDischargeDepth:=9) [results,Tryz.results44,go_sem, *]
  ·rw [HV.out];exact⟨_,rfl,(((DO.out.setB (by omega)).setB (by omega)).setB (by omega)).mono (by omega)⟩
  ·exact((KX.out.setCell (by show w.heap.size≤w.heap.size+1;omega) _).setCell (by show w.heap.size≤w.heap.size+1;omega) _).setCell (by show w.heap.size≤w.heap.size+1;omega) _
 have hdi:decide (fr∈QS d.vs)=true:=decide_eq_true hin;have HIN:Hid (¬fr∉QS d.vs):=fun h=>h hin;clear hin;by_cases h8:n2=8
 ·have h8':(8:Int)≤(n2:Int):=by omega
  have h8b:((n2:Int)==8)=true:=by rw [h8];rfl
  have HV:Hid (bcD d s fr=(d,5)):=by show _=_;rw [bcD,if_neg HC1.out,if_neg HIN.out,if_pos (by rw [E2.out];omega)]
  go_wp2_with fail
  refine bodyPost_ret (v:= .tuple #[.agg #[.int .i64 d.next,.slice A3 n1 c3,.slice A4 n2 c4],.int .i64 5]) ?_ rfl ⟨?_,?_⟩
  ·simp (maxDischargeDepth:=9) [results,Tryz.results44,go_sem, *]
  ·rw [HV.out];exact⟨_,rfl,(((DO.out.setB (by omega)).setB (by omega)).setB (by omega)).mono (by omega)⟩
  ·exact((KX.out.setCell (by show w.heap.size≤w.heap.size+1;omega) _).setCell (by show w.heap.size≤w.heap.size+1;omega) _).setCell (by show w.heap.size≤w.heap.size+1;omega) _
 have h8': ¬(8:Int)≤(n2:Int):=by omega
 have h8b:((n2:Int)==8)=false:=by rw [beq_eq_false_iff_ne];omega
 have HV:Hid (bcD d s fr=(⟨d.next,d.vs,insB s fr d.bs⟩,0)):=by show _=_;rw [bcD,if_neg HC1.out,if_neg HIN.out,if_neg (by rw [E2.out];omega)]
 obtain⟨BA,HBA⟩: ∃BA,Hid (d.bs++ [(⟨s,fr⟩:BR)]=BA):=⟨_,rfl⟩
 go_wp2_with (first
  | (at_builtin;refine wpList_app_br rfl _ _ rfl X.heap.size (.slice A4 n2 c4) n2 d.bs rfl (DB.out.alloc _) s fr u5.heap.size rfl (by simp [go_sem]) (by simp [go_sem]) (by omega) (by simp;omega) ?_)
  | fail)
 intro va q6 ho hg;obtain⟨F6,h6,rfl,_,hc6⟩:=Qo ho;obtain⟨gB,rfl,_⟩:=hc6 0 (by omega);rw [HBA.out]at ho;have hba:Below u5.heap.size u5 (u5.alloc (.cells #[.string s,.int .i64 fr] 79)):=(Below.refl _ _).alloc (Nat.le_refl _) _;have OB6:Hid (q6.ownsRow X.heap.size 79 2 (.slice (some ⟨gB,0,none⟩) (n2+1) h6) (n2+1) (Jf brL BA)):=ho;have DV6:Hid (DgV q6 X.heap.size (.slice A3 n1 c3) d.vs n1):=(DV.out.below hba).keptB (Ql DB.out hba) hg
 have hne: ∀z,z<X.heap.size∨z=u1.heap.size→some z≠(Value.slice A4 n2 c4).ownBlock:=fun z hz e=>by
  rcases hz with hz | rfl
  ·have:=(DB.out.lt z e.symm).1;omega
  ·obtain⟨cc,rr,g9⟩:=GB.out;exact own_blk_ne DB.out g9 (by decide) e
 have N0:=hne _ (Or.inl (show w.heap.size+1<X.heap.size by omega));have N8:=hne _ (Or.inr rfl);have pc: ∀{o:Nat} {y:Value},u5.cell? ⟨w.heap.size+1,o,none⟩=some y→q6.cell? ⟨w.heap.size+1,o,none⟩=some y:=fun h9=>hg.cell (cy hba h9) N0;have gc: ∀{o:Nat} {y:Value},u5.cell? ⟨u1.heap.size,o,none⟩=some y→q6.cell? ⟨u1.heap.size,o,none⟩=some y:=fun h9=>hg.cell (cy hba h9) N8;replace p0:=pc p0;replace p1:=pc p1;replace p2:=pc p2
 replace g0:=gc g0;replace g1:=gc g1;replace g2:=gc g2;have blk6: ∀z,z<u5.heap.size→some z≠(Value.slice A4 n2 c4).ownBlock→q6.heap[z]? =u5.heap[z]?:=fun z hz hn=>(hg.block z (Nat.lt_of_lt_of_le hz hba.size) hn).trans (hba.block z hz);replace pf: ∀o,q6.frozen? ⟨w.heap.size+1,o,none⟩=false:=fun o=>(World.frozen?_of_block (blk6 _ zX1 N0)).trans (pf o);replace gf: ∀o,q6.frozen? ⟨u1.heap.size,o,none⟩=false:=fun o=>(World.frozen?_of_block (blk6 _ gz N8)).trans (gf o);replace GB:Hid (∃c r,q6.heap[u1.heap.size]? =some (.cells c 32 r)):=by obtain⟨cc,rr,g9⟩:=GB.out;exact⟨cc,rr,by rw [blk6 _ gz N8];exact g9⟩
 have K6:Hid (Below w.heap.size w q6):=(Qb KX.out hba).grown hg (Nat.le_trans (Nat.le_of_lt zX0) hba.size) (fun j hj=>by have:=(DB.out.lt j hj).1;omega);have sz6:u5.heap.size≤q6.heap.size:=Nat.le_trans hba.size hg.size;replace zX1:w.heap.size+1<q6.heap.size:=Nat.lt_of_lt_of_le zX1 sz6;replace gz:u1.heap.size<q6.heap.size:=Nat.lt_of_lt_of_le gz sz6;clear ho hg hba hc6 blk6 pc gc hne x0 x1 x2;go_wp2_with fail
 obtain⟨q7,HQ7⟩: ∃q,Hid (q6.setCell ⟨u1.heap.size,2,none⟩ (.slice (some ⟨gB,0,none⟩) (n2+1) h6)=q):=⟨_,rfl⟩;rw [HQ7.out];obtain⟨cc,rr,gb⟩:=GB.out;have OB7:Hid (q7.ownsRow X.heap.size 79 2 (.slice (some ⟨gB,0,none⟩) (n2+1) h6) (n2+1) (Jf brL BA)):=by rw [←HQ7.out];exact own_setT OB6.out gb (by decide)
 have DV7:Hid (DgV q7 X.heap.size (.slice A3 n1 c3) d.vs n1):=by rw [←HQ7.out];exact DV6.out.setT gb
 have K7:Hid (Below w.heap.size w q7):=by rw [←HQ7.out];exact K6.out.setCell (by show w.heap.size≤u1.heap.size;omega) _
 have hcn: ∀o o':Nat,(⟨w.heap.size+1,o,none⟩:Addr)≠⟨u1.heap.size,o',none⟩:=fun o o' e=>by injection e with e1;omega
 have hc0: ∀o:Nat,o≠2→(⟨u1.heap.size,o,none⟩:Addr)≠⟨u1.heap.size,2,none⟩:=fun o ho e=>by injection e with e1 e2;exact ho e2
 replace p0:q7.cell? ⟨w.heap.size+1,0,none⟩=some (.int .i64 0):=by rw [←HQ7.out,World.cell?_setCell_other _ _ _ _ (Ne.symm (hcn _ _))];exact p0
 replace p1:q7.cell? ⟨w.heap.size+1,1,none⟩=some (.slice none 0 0):=by rw [←HQ7.out,World.cell?_setCell_other _ _ _ _ (Ne.symm (hcn _ _))];exact p1
 replace p2:q7.cell? ⟨w.heap.size+1,2,none⟩=some (.slice none 0 0):=by rw [←HQ7.out,World.cell?_setCell_other _ _ _ _ (Ne.symm (hcn _ _))];exact p2
 replace pf: ∀o,q7.frozen? ⟨w.heap.size+1,o,none⟩=false:=fun o=>by rw [←HQ7.out];simpa using pf o
 replace g0:q7.cell? ⟨u1.heap.size,0,none⟩=some (.int .i64 d.next):=by rw [←HQ7.out,World.cell?_setCell_other _ _ _ _ (Ne.symm (hc0 0 (by decide)))];exact g0
 replace g1:q7.cell? ⟨u1.heap.size,1,none⟩=some (.slice A3 n1 c3):=by rw [←HQ7.out,World.cell?_setCell_other _ _ _ _ (Ne.symm (hc0 1 (by decide)))];exact g1
 replace g2:q7.cell? ⟨u1.heap.size,2,none⟩=some (.slice (some ⟨gB,0,none⟩) (n2+1) h6):=by rw [←HQ7.out];exact World.cell?_setCell_same _ _ _ (by rw [g2])
 replace zX1:w.heap.size+1<q7.heap.size:=by rw [←HQ7.out];simpa using zX1
 replace gz:u1.heap.size<q7.heap.size:=by rw [←HQ7.out];simpa using gz
 have GB7:Hid (∃c r,q7.heap[u1.heap.size]? =some (.cells c 32 r)):=by
  obtain⟨c',h'⟩:=blk_set (o:=2) (x:= .slice (some ⟨gB,0,none⟩) (n2+1) h6) gb;exact⟨c',rr,by rw [←HQ7.out];exact h'⟩
 clear HQ7 gb GB OB6 DV6 K6;refine(sort_branches OB7.out (by rw [←HBA.out,List.length_append,E2.out];rfl) (by omega)).mono ?_;rintro e q8 ⟨rfl,M,hpm,hps,ho,hg⟩;have HM:Hid (M=insB s fr d.bs):=sorted_ins HAS.out HNO.out (by rw [HBA.out];exact hpm) hps;rw [HM.out]at ho;have OB8:Hid (q8.ownsRow X.heap.size 79 2 (.slice (some ⟨gB,0,none⟩) (n2+1) h6) (n2+1) (Jf brL (insB s fr d.bs))):=ho;have DV8:Hid (DgV q8 X.heap.size (.slice A3 n1 c3) d.vs n1):=DV7.out.keptB OB7.out hg
 obtain⟨cc,rr,gb⟩:=GB7.out;have N8:=own_blk_ne OB7.out gb (by decide);have N0:some (w.heap.size+1)≠(Value.slice (some ⟨gB,0,none⟩) (n2+1) h6).ownBlock:=fun e=>by have:=(OB7.out.lt _ e.symm).1;omega
 have K8:Hid (Below w.heap.size w q8):=K7.out.grown hg (Nat.le_of_lt (Nat.lt_of_succ_lt zX1)) (fun j hj=>by have:=(OB7.out.lt j hj).1;omega);replace p0:=hg.cell p0 N0;replace p1:=hg.cell p1 N0;replace p2:=hg.cell p2 N0;replace g0:=hg.cell g0 N8;replace g1:=hg.cell g1 N8;replace g2:=hg.cell g2 N8
 replace pf: ∀o,q8.frozen? ⟨w.heap.size+1,o,none⟩=false:=fun o=>(World.frozen?_of_block (hg.block _ zX1 N0)).trans (pf o);replace zX1:w.heap.size+1<q8.heap.size:=Nat.lt_of_lt_of_le zX1 hg.size;replace gz:u1.heap.size<q8.heap.size:=Nat.lt_of_lt_of_le gz hg.size;have HLN:Hid ((insB s fr d.bs).length=n2+1):=by show _=_;rw [insB_len,E2.out]
 have HDO:Hid (DgO q8 X.heap.size (.agg #[.int .i64 d.next,.slice A3 n1 c3,.slice (some ⟨gB,0,none⟩) (n2+1) h6]) ⟨d.next,d.vs,insB s fr d.bs⟩):=by
  obtain⟨ys,k1,k2,k3⟩:=DV8.out;refine⟨_,_,ys,rfl,?_,?_,?_,?_⟩
  ·show q8.ownsRow _ _ _ _ d.vs.length _;rw [E1.out];exact k1
  ·show VrPart q8 _ ys d.vs d.vs.length;rw [E1.out];exact k2
  ·show VrApt ys d.vs.length;rw [E1.out];exact k3
  ·show q8.ownsRow _ _ _ _ (insB s fr d.bs).length _;rw [HLN.out];exact OB8.out
 clear ho hg hpm hps gb;go_wp2_with fail
 refine bodyPost_ret (v:= .tuple #[.agg #[.int .i64 d.next,.slice A3 n1 c3,.slice (some ⟨gB,0,none⟩) (n2+1) h6],.int .i64 0]) ?_ rfl ⟨?_,?_⟩
 ·simp (maxDischargeDepth:=9) [results,Tryz.results44,go_sem, *]
 ·rw [HV.out];exact⟨_,rfl,(((HDO.out.setB (by omega)).setB (by omega)).setB (by omega)).mono (by omega)⟩
 ·exact((K8.out.setCell (by show w.heap.size≤w.heap.size+1;omega) _).setCell (by show w.heap.size≤w.heap.size+1;omega) _).setCell (by show w.heap.size≤w.heap.size+1;omega) _
theorem dag_asc {d:DG} (h:Xb d=true):YK ltB d.bs=true:=by
 simp only [Xb,Bool.and_eq_true]at h;cases e:YK ltB d.bs with
 | true=>rfl
 | false=>rw [Dr e]at h;simp at h
theorem DgO.setTb {W:World} {B g o:Nat} {v x:Value} {d:DG} {c:Array Value} {r:Nat × Nat} (h:DgO W B v d) (hg:W.heap[g]? =some (.cells c 32 r)):DgO (W.setCell ⟨g,o,none⟩ x) B v d:=by
 obtain⟨v1,v2,ys,rfl,h1,h2,h4,h3⟩:=h;refine⟨v1,v2,ys,rfl,own_setT h1 hg (by decide),fun i x hi hx=> ?_,h4,own_setT h3 hg (by decide)⟩;obtain⟨u,uc,s,sc,y0,y1,y2,k1,k2⟩:=h2 i x hi hx;exact⟨u,uc,s,sc,y0,y1,y2,own_setT k1 hg (by decide),own_setT k2 hg (by decide)⟩
theorem bcA_ok {d:DG} {s:ByteArray} {fr:Int} (hk:DgOk d) (hl:DgLil d) (hs:s.size≤1048576) (hfr:(Lit.int .i64 fr).wf=true):DgOk (bcA d s fr).1∧DgLil (bcA d s fr).1:=by
 unfold bcA;by_cases hd:Xb d=true
 ·rw [if_pos hd];have hf:=dag_facts hd;unfold bcD;split
  ·exact⟨hk,hl⟩
  split
  ·exact⟨hk,hl⟩
  split
  ·exact⟨hk,hl⟩
  ·refine⟨⟨hk.v,fun x hx=> ?_,fun x hx=> ?_⟩,⟨hl.v,fun x hx=> ?_,hl.nv,?_⟩⟩
   ·rcases insB_mem.1 hx with hx | rfl
    ·exact hk.b x hx
    ·show s.size≤maxLen;unfold maxLen;omega
   ·rcases insB_mem.1 hx with hx | rfl
    ·exact hk.h x hx
    ·exact hfr
   ·rcases insB_mem.1 hx with hx | rfl
    ·exact hl.b x hx
    ·exact hs
   ·show(insB s fr d.bs).length≤1048576;rw [insB_len];have:=hf.nb;omega
 ·rw [if_neg hd];exact⟨noD_ok,noD_lil⟩
theorem BcR.open {B:Nat} {w':World} {D:DG} {i1:Int} {e:Ending} (h:BcR B w' (D,i1) e): ∃A1 n1 c1 A2 n2 c2,e= .returned (.tuple #[.agg #[.int .i64 D.next,.slice A1 n1 c1,.slice A2 n2 c2],.int .i64 i1])∧DgO w' B (.agg #[.int .i64 D.next,.slice A1 n1 c1,.slice A2 n2 c2]) D:=by
 obtain⟨v',rfl,ho⟩:=h;obtain⟨A1,c1,A2,c2,rfl,_,_⟩:=ho.parts;exact⟨_,_,_,_,_,_,rfl,ho⟩
theorem impl_Branched {v:Value} {d:DG} (s:ByteArray) (fr:Int) (w:World) (h:DgRow w v d) (hk:DgOk d) (hl:DgLil d) (hs:s.size≤maxLen) (hfr:(Lit.int .i64 fr).wf=true) (hg:GI w):
  Calls Tryz.prog 18 #[v,.string s,.int .i64 fr] w fun e w'=>BcR w.heap.size w' (bcA d s fr) e∧Below w.heap.size w w':=by
 obtain⟨A1,n1,c1,A2,n2,c2,rfl⟩:=h.agg;have HD:Hid (DgRow w (.agg #[.int .i64 d.next,.slice A1 n1 c1,.slice A2 n2 c2]) d):=h;have HK:Hid (DgOk d):=hk;have HL:Hid (DgLil d):=hl;have HG:Hid (GI w):=hg;have HFR:Hid ((Lit.int .i64 fr).wf=true):=hfr;obtain⟨f,HFF⟩: ∃f:Bool,Hid (Xb d=f):=⟨_,rfl⟩
 clear h hk hl hg hfr;go_enter Tryz.func18,Tryz.ntmps18;go_wp2_with fail
 obtain⟨X,HX⟩: ∃X,Hid ((w.alloc (.cells #[.int .i64 d.next,.slice A1 n1 c1,.slice A2 n2 c2] 32)).alloc (.cells #[.int .i64 0,.slice none 0 0,.slice none 0 0] 32)=X):=⟨_,rfl⟩;rw [HX.out];have x0:X.cell? ⟨w.heap.size,0,none⟩=some (.int .i64 d.next):=by rw [←HX.out];go_simp
 have x1:X.cell? ⟨w.heap.size,1,none⟩=some (.slice A1 n1 c1):=by rw [←HX.out];go_simp
 have x2:X.cell? ⟨w.heap.size,2,none⟩=some (.slice A2 n2 c2):=by rw [←HX.out];go_simp
 have p0:X.cell? ⟨w.heap.size+1,0,none⟩=some (.int .i64 0):=by rw [←HX.out];go_simp
 have p1:X.cell? ⟨w.heap.size+1,1,none⟩=some (.slice none 0 0):=by rw [←HX.out];go_simp
 have p2:X.cell? ⟨w.heap.size+1,2,none⟩=some (.slice none 0 0):=by rw [←HX.out];go_simp
 have pf: ∀o,X.frozen? ⟨w.heap.size+1,o,none⟩=false:=fun o=>by rw [←HX.out];go_simp
 have ZX:Hid (X.heap.size=w.heap.size+2):=by rw [←HX.out];show _=_;simp
 have zX0:w.heap.size<X.heap.size:=by have:=ZX.out;omega
 have zX1:w.heap.size+1<X.heap.size:=by have:=ZX.out;omega
 have KX:Hid (Below w.heap.size w X):=by rw [←HX.out];show Below _ _ _;go_grown
 clear HX;refine(Qin _ (HD.out.below KX.out) HK.out HL.out (HG.out.below KX.out)).mono ?_;rintro e u1 ⟨rfl,hb⟩;replace x0:=cy hb x0;replace x1:=cy hb x1;replace x2:=cy hb x2;replace p0:=cy hb p0
 replace p1:=cy hb p1;replace p2:=cy hb p2;replace pf: ∀o,u1.frozen? ⟨w.heap.size+1,o,none⟩=false:=fun o=>(hb.frozen (p:=⟨w.heap.size+1,o,none⟩) zX1).trans (pf o);replace zX0:w.heap.size<u1.heap.size:=Nat.lt_of_lt_of_le zX0 hb.size;replace zX1:w.heap.size+1<u1.heap.size:=Nat.lt_of_lt_of_le zX1 hb.size;replace KX:=hd (Qb KX.out hb);clear hb
 rw [HFF.out];cases f
 ·have HV:Hid (bcA d s fr=(noD,1)):=by show _=_;rw [bcA,if_neg (by rw [HFF.out];decide)]
  go_wp2_with fail
  refine bodyPost_ret (v:= .tuple #[.agg #[.int .i64 0,.slice none 0 0,.slice none 0 0],.int .i64 1]) ?_ rfl ⟨?_,?_⟩
  ·simp (maxDischargeDepth:=9) [results,Tryz.results18,go_sem, *]
  ·rw [HV.out];exact⟨_,rfl,noD_own _ _⟩
  ·exact((KX.out.setCell (by show w.heap.size≤w.heap.size+1;omega) _).setCell (by show w.heap.size≤w.heap.size+1;omega) _).setCell (by show w.heap.size≤w.heap.size+1;omega) _
 have HV:Hid (bcA d s fr=bcD d s fr):=by show _=_;rw [bcA,if_pos HFF.out]
 obtain⟨⟨D,i1⟩,HA⟩: ∃r,Hid (bcD d s fr=r):=⟨_,rfl⟩;go_wp2_with fail
 refine(impl_branched s fr _ (HD.out.below KX.out) HK.out HL.out (dag_facts HFF.out) (dag_asc HFF.out) hs HFR.out).mono ?_;rintro e u2 ⟨hr,hb⟩;rw [HA.out]at hr;obtain⟨A5,n5,c5,A6,n6,c6,rfl,ho⟩:=hr.open;have HO:Hid (DgO u2 u1.heap.size (.agg #[.int .i64 D.next,.slice A5 n5 c5,.slice A6 n6 c6]) D):=ho;have zz:w.heap.size+2≤u1.heap.size:=by omega
 replace x0:=cy hb x0;replace x1:=cy hb x1;replace x2:=cy hb x2;replace p0:=cy hb p0;replace p1:=cy hb p1;replace p2:=cy hb p2;replace pf: ∀o,u2.frozen? ⟨w.heap.size+1,o,none⟩=false:=fun o=>(hb.frozen (p:=⟨w.heap.size+1,o,none⟩) zX1).trans (pf o)
 replace zX0:w.heap.size<u2.heap.size:=Nat.lt_of_lt_of_le zX0 hb.size;replace zX1:w.heap.size+1<u2.heap.size:=Nat.lt_of_lt_of_le zX1 hb.size;replace KX:=hd (Qb KX.out hb);clear hb ho hr;go_wp2_with fail
 refine bodyPost_ret (v:= .tuple #[.agg #[.int .i64 D.next,.slice A5 n5 c5,.slice A6 n6 c6],.int .i64 i1]) ?_ rfl ⟨?_,?_⟩
 ·simp (maxDischargeDepth:=9) [results,Tryz.results18,go_sem, *]
 ·rw [HV.out,HA.out];exact⟨_,rfl,(((HO.out.setB (by omega)).setB (by omega)).setB (by omega)).mono (by omega)⟩
 ·exact((KX.out.setCell (by show w.heap.size≤w.heap.size+1;omega) _).setCell (by show w.heap.size≤w.heap.size+1;omega) _).setCell (by show w.heap.size≤w.heap.size+1;omega) _
theorem spec_Branched {v:Value} {d:DG} (s:ByteArray) (fr:Int) (w:World) (h:DgRow w v d) (hk:DgOk d) (hl:DgLil d) (hs:s.size≤maxLen):
  Calls Tryz.prog 17 #[v,.string s,.int .i64 fr] w fun e w'=>BcR w.heap.size w' (bcA d s fr) e∧Below w.heap.size w w':=by
 obtain⟨A1,n1,c1,A2,n2,c2,rfl⟩:=h.agg;have HD:Hid (DgRow w (.agg #[.int .i64 d.next,.slice A1 n1 c1,.slice A2 n2 c2]) d):=h;obtain⟨r1,e1,r2,e2⟩:=h.open;have HR1:Hid (VrRow w A1 d.vs):=r1;have HR2:Hid (ZT w A2 d.bs):=r2;have E1:Hid (d.vs.length=n1):=e1;have E2:Hid (d.bs.length=n2):=e2
 have HK:Hid (DgOk d):=hk;have HL:Hid (DgLil d):=hl;clear h r1 r2 e1 e2 hk hl;obtain⟨f,HFF⟩: ∃f:Bool,Hid (Xb d=f):=⟨_,rfl⟩;go_enter Tryz.func17,Tryz.ntmps17;go_wp2_with fail
 obtain⟨X,HX⟩: ∃X,Hid ((w.alloc (.cells #[.int .i64 d.next,.slice A1 n1 c1,.slice A2 n2 c2] 32)).alloc (.cells #[.int .i64 0,.slice none 0 0,.slice none 0 0] 32)=X):=⟨_,rfl⟩;rw [HX.out];have x0:X.cell? ⟨w.heap.size,0,none⟩=some (.int .i64 d.next):=by rw [←HX.out];go_simp
 have x1:X.cell? ⟨w.heap.size,1,none⟩=some (.slice A1 n1 c1):=by rw [←HX.out];go_simp
 have x2:X.cell? ⟨w.heap.size,2,none⟩=some (.slice A2 n2 c2):=by rw [←HX.out];go_simp
 have p0:X.cell? ⟨w.heap.size+1,0,none⟩=some (.int .i64 0):=by rw [←HX.out];go_simp
 have p1:X.cell? ⟨w.heap.size+1,1,none⟩=some (.slice none 0 0):=by rw [←HX.out];go_simp
 have p2:X.cell? ⟨w.heap.size+1,2,none⟩=some (.slice none 0 0):=by rw [←HX.out];go_simp
 have pf: ∀o,X.frozen? ⟨w.heap.size+1,o,none⟩=false:=fun o=>by rw [←HX.out];go_simp
 have ZX:Hid (X.heap.size=w.heap.size+2):=by rw [←HX.out];show _=_;simp
 have zX0:w.heap.size<X.heap.size:=by have:=ZX.out;omega
 have zX1:w.heap.size+1<X.heap.size:=by have:=ZX.out;omega
 have KX:Hid (Below w.heap.size w X):=by rw [←HX.out];show Below _ _ _;go_grown
 clear HX;refine(Qic _ (HD.out.below KX.out) HK.out).mono ?_;rintro e u0 ⟨rfl,hb⟩;replace x0:=cy hb x0;replace x1:=cy hb x1;replace x2:=cy hb x2;replace p0:=cy hb p0
 replace p1:=cy hb p1;replace p2:=cy hb p2;replace pf: ∀o,u0.frozen? ⟨w.heap.size+1,o,none⟩=false:=fun o=>(hb.frozen (p:=⟨w.heap.size+1,o,none⟩) zX1).trans (pf o);replace zX0:w.heap.size<u0.heap.size:=Nat.lt_of_lt_of_le zX0 hb.size;replace zX1:w.heap.size+1<u0.heap.size:=Nat.lt_of_lt_of_le zX1 hb.size;replace KX:=hd (Qb KX.out hb);clear hb
 rw [HFF.out];cases f
 ·have HV:Hid (bcA d s fr=(noD,1)):=by show _=_;rw [bcA,if_neg (by rw [HFF.out];decide)]
  go_wp2_with fail
  refine bodyPost_ret (v:= .tuple #[.agg #[.int .i64 0,.slice none 0 0,.slice none 0 0],.int .i64 1]) ?_ rfl ⟨?_,?_⟩
  ·simp (maxDischargeDepth:=9) [results,Tryz.results17,go_sem, *]
  ·rw [HV.out];exact⟨_,rfl,noD_own _ _⟩
  ·exact((KX.out.setCell (by show w.heap.size≤w.heap.size+1;omega) _).setCell (by show w.heap.size≤w.heap.size+1;omega) _).setCell (by show w.heap.size≤w.heap.size+1;omega) _
 have HVA:Hid (bcA d s fr=bcD d s fr):=by show _=_;rw [bcA,if_pos HFF.out]
 have HF:Hid (DgFacts d):=dag_facts HFF.out;have hn1:n1≤40:=by rw [←E1.out];exact HF.out.nv
 have hn2:n2≤8:=by rw [←E2.out];exact HF.out.nb
 go_wp2_with fail
 refine(spec_l10Copy _ (HD.out.below KX.out) HL.out).mono ?_;rintro e u1 ⟨v',rfl,ho,hb⟩;have DO:Hid (DgO u1 u0.heap.size v' d):=ho;obtain⟨A3,c3,A4,c4,rfl,hv,hbr⟩:=ho.parts;simp only [E1.out,E2.out]at hv hbr DO ⊢;have DV:Hid (DgV u1 u0.heap.size (.slice A3 n1 c3) d.vs n1):=hv;have DB:Hid (u1.ownsRow u0.heap.size 79 2 (.slice A4 n2 c4) n2 (Jf brL d.bs)):=hbr
 have ZB:Hid (w.heap.size+2≤u0.heap.size):=by show _≤_;omega
 have ZU:Hid (u0.heap.size≤u1.heap.size):=hb.size;replace x0:=cy hb x0;replace x1:=cy hb x1;replace x2:=cy hb x2;replace p0:=cy hb p0;replace p1:=cy hb p1;replace p2:=cy hb p2
 replace pf: ∀o,u1.frozen? ⟨w.heap.size+1,o,none⟩=false:=fun o=>(hb.frozen (p:=⟨w.heap.size+1,o,none⟩) zX1).trans (pf o);replace zX0:w.heap.size<u1.heap.size:=Nat.lt_of_lt_of_le zX0 hb.size;replace zX1:w.heap.size+1<u1.heap.size:=Nat.lt_of_lt_of_le zX1 hb.size;replace KX:=hd (Qb KX.out hb);clear hb ho hv hbr;go_wp2_with fail
 obtain⟨Y,HY⟩: ∃Y,Hid (u1.alloc (.cells #[.int .i64 d.next,.slice A3 n1 c3,.slice A4 n2 c4] 32)=Y):=⟨_,rfl⟩;rw [HY.out];have hb:Below u1.heap.size u1 Y:=by rw [←HY.out];exact(Below.refl _ _).alloc (Nat.le_refl _) _
 have g0:Y.cell? ⟨u1.heap.size,0,none⟩=some (.int .i64 d.next):=by rw [←HY.out];go_simp
 have g1:Y.cell? ⟨u1.heap.size,1,none⟩=some (.slice A3 n1 c3):=by rw [←HY.out];go_simp
 have g2:Y.cell? ⟨u1.heap.size,2,none⟩=some (.slice A4 n2 c4):=by rw [←HY.out];go_simp
 have gf: ∀o,Y.frozen? ⟨u1.heap.size,o,none⟩=false:=fun o=>by rw [←HY.out];go_simp
 have GB:Hid (∃c r,Y.heap[u1.heap.size]? =some (.cells c 32 r)):=⟨_,_,by rw [←HY.out];exact heap_alloc_new u1 _⟩;have gz:u1.heap.size<Y.heap.size:=by rw [←HY.out];simp
 clear HY;replace x0:=cy hb x0;replace x1:=cy hb x1;replace x2:=cy hb x2;replace p0:=cy hb p0;replace p1:=cy hb p1;replace p2:=cy hb p2
 replace pf: ∀o,Y.frozen? ⟨w.heap.size+1,o,none⟩=false:=fun o=>(hb.frozen (p:=⟨w.heap.size+1,o,none⟩) zX1).trans (pf o);replace zX0:w.heap.size<Y.heap.size:=Nat.lt_of_lt_of_le zX0 hb.size;replace zX1:w.heap.size+1<Y.heap.size:=Nat.lt_of_lt_of_le zX1 hb.size;replace KX:=hd (Qb KX.out hb);replace DO:=hyd (DO.out.below hb);replace DB:=hyd (Ql DB.out hb);replace DV:=hyd (DV.out.below hb)
 clear hb;have zb:=ZB.out;have zu:=ZU.out;refine(Mu s _ hs).mono ?_;rintro e u2 ⟨rfl,rfl⟩;obtain⟨nb,HNB⟩: ∃nb:Bool,Hid (nmB s=nb):=⟨_,rfl⟩;rw [HNB.out]
 cases nb
 ·have HV:Hid (bcD d s fr=(d,7)):=by show _=_;rw [bcD,if_pos (Or.inl HNB.out)]
  go_wp2_with fail
  refine bodyPost_ret (v:= .tuple #[.agg #[.int .i64 d.next,.slice A3 n1 c3,.slice A4 n2 c4],.int .i64 7]) ?_ rfl ⟨?_,?_⟩
  ·simp (maxDischargeDepth:=9) [results,Tryz.results17,go_sem, *]
  ·rw [HVA.out,HV.out];exact⟨_,rfl,(((DO.out.setB (by omega)).setB (by omega)).setB (by omega)).mono (by omega)⟩
  ·exact((KX.out.setCell (by show w.heap.size≤w.heap.size+1;omega) _).setCell (by show w.heap.size≤w.heap.size+1;omega) _).setCell (by show w.heap.size≤w.heap.size+1;omega) _
 go_wp2_with fail
 refine(spec_l10Head s _ (HD.out.below KX.out) HK.out).mono ?_;rintro e u3 ⟨rfl,hb⟩;replace x0:=cy hb x0;replace x1:=cy hb x1;replace x2:=cy hb x2;replace p0:=cy hb p0;replace p1:=cy hb p1
 replace p2:=cy hb p2;replace pf: ∀o,u3.frozen? ⟨w.heap.size+1,o,none⟩=false:=fun o=>(hb.frozen (p:=⟨w.heap.size+1,o,none⟩) zX1).trans (pf o);replace zX0:w.heap.size<u3.heap.size:=Nat.lt_of_lt_of_le zX0 hb.size;replace zX1:w.heap.size+1<u3.heap.size:=Nat.lt_of_lt_of_le zX1 hb.size;replace KX:=hd (Qb KX.out hb);replace g0:=cy hb g0;replace g1:=cy hb g1
 replace g2:=cy hb g2;replace gf: ∀o,u3.frozen? ⟨u1.heap.size,o,none⟩=false:=fun o=>(hb.frozen (p:=⟨u1.heap.size,o,none⟩) gz).trans (gf o);replace GB:Hid (∃c r,u3.heap[u1.heap.size]? =some (.cells c 32 r)):=by obtain⟨cc,rr,g9⟩:=GB.out;exact⟨cc,rr,by rw [hb.block _ gz];exact g9⟩
 replace gz:u1.heap.size<u3.heap.size:=Nat.lt_of_lt_of_le gz hb.size;replace DO:=hyd (DO.out.below hb);replace DB:=hyd (Ql DB.out hb);replace DV:=hyd (DV.out.below hb);clear hb;obtain⟨hh,HH⟩: ∃hh:Int,Hid (headF d.bs s=hh):=⟨_,rfl⟩;rw [HH.out]
 by_cases h0:hh=0
 case neg=>
  have h0':(hh !=0)=true:=by simpa using h0
  have HV:Hid (bcD d s fr=(d,7)):=by show _=_;rw [bcD,if_pos (Or.inr (by rw [HH.out];exact h0))]
  go_wp2_with fail
  refine bodyPost_ret (v:= .tuple #[.agg #[.int .i64 d.next,.slice A3 n1 c3,.slice A4 n2 c4],.int .i64 7]) ?_ rfl ⟨?_,?_⟩
  ·simp (maxDischargeDepth:=9) [results,Tryz.results17,go_sem, *]
  ·rw [HVA.out,HV.out];exact⟨_,rfl,(((DO.out.setB (by omega)).setB (by omega)).setB (by omega)).mono (by omega)⟩
  ·exact((KX.out.setCell (by show w.heap.size≤w.heap.size+1;omega) _).setCell (by show w.heap.size≤w.heap.size+1;omega) _).setCell (by show w.heap.size≤w.heap.size+1;omega) _
 have h0':(hh !=0)=false:=by simpa using h0
 have HC1:Hid (¬(nmB s=false∨headF d.bs s≠0)):=by
  rintro(h9 | h9)
  ·rw [HNB.out]at h9;cases h9
  ·exact h9 (HH.out.trans h0)
 have HNO:Hid (∀x∈d.bs,x.n≠s):=headF_none (HH.out.trans h0) (fun x hx e=>by
  obtain⟨y,hy,e2⟩:=ids_mem (HF.out.hd x hx);have:=HF.out.lo y hy
  omega)
 go_wp2_with fail
 refine(spec_l10FindX fr _ (HD.out.below KX.out)).mono ?_;rintro e u5 ⟨rr,rfl,hri,hb⟩;have HRI:Hid (FindI d.vs fr rr):=hri;replace x0:=cy hb x0;replace x1:=cy hb x1;replace x2:=cy hb x2;replace p0:=cy hb p0
 replace p1:=cy hb p1;replace p2:=cy hb p2;replace pf: ∀o,u5.frozen? ⟨w.heap.size+1,o,none⟩=false:=fun o=>(hb.frozen (p:=⟨w.heap.size+1,o,none⟩) zX1).trans (pf o);replace zX0:w.heap.size<u5.heap.size:=Nat.lt_of_lt_of_le zX0 hb.size;replace zX1:w.heap.size+1<u5.heap.size:=Nat.lt_of_lt_of_le zX1 hb.size;replace KX:=hd (Qb KX.out hb);replace g0:=cy hb g0
 replace g1:=cy hb g1;replace g2:=cy hb g2;replace gf: ∀o,u5.frozen? ⟨u1.heap.size,o,none⟩=false:=fun o=>(hb.frozen (p:=⟨u1.heap.size,o,none⟩) gz).trans (gf o);replace GB:Hid (∃c r,u5.heap[u1.heap.size]? =some (.cells c 32 r)):=by obtain⟨cc,rr,g9⟩:=GB.out;exact⟨cc,rr,by rw [hb.block _ gz];exact g9⟩
 replace gz:u1.heap.size<u5.heap.size:=Nat.lt_of_lt_of_le gz hb.size;replace DO:=hyd (DO.out.below hb);replace DB:=hyd (Ql DB.out hb);replace DV:=hyd (DV.out.below hb);clear hb hri;by_cases hr0:rr<0
 ·have hin:fr∉QS d.vs:=HRI.out.neg hr0;have HV:Hid (bcD d s fr=(d,3)):=by show _=_;rw [bcD,if_neg HC1.out,if_pos hin]
  go_wp2_with fail
  refine bodyPost_ret (v:= .tuple #[.agg #[.int .i64 d.next,.slice A3 n1 c3,.slice A4 n2 c4],.int .i64 3]) ?_ rfl ⟨?_,?_⟩
  ·simp (maxDischargeDepth:=9) [results,Tryz.results17,go_sem, *]
  ·rw [HVA.out,HV.out];exact⟨_,rfl,(((DO.out.setB (by omega)).setB (by omega)).setB (by omega)).mono (by omega)⟩
  ·exact((KX.out.setCell (by show w.heap.size≤w.heap.size+1;omega) _).setCell (by show w.heap.size≤w.heap.size+1;omega) _).setCell (by show w.heap.size≤w.heap.size+1;omega) _
 have hin:fr∈QS d.vs:=HRI.out.pos hr0;have HIN:Hid (¬fr∉QS d.vs):=fun h=>h hin;clear hin;by_cases h8:n2=8
 ·have h8':(8:Int)≤(n2:Int):=by omega
  have h8b:((n2:Int)==8)=true:=by rw [h8];rfl
  have HV:Hid (bcD d s fr=(d,5)):=by show _=_;rw [bcD,if_neg HC1.out,if_neg HIN.out,if_pos (by rw [E2.out];omega)]
  go_wp2_with fail
  refine bodyPost_ret (v:= .tuple #[.agg #[.int .i64 d.next,.slice A3 n1 c3,.slice A4 n2 c4],.int .i64 5]) ?_ rfl ⟨?_,?_⟩
  ·simp (maxDischargeDepth:=9) [results,Tryz.results17,go_sem, *]
  ·rw [HVA.out,HV.out];exact⟨_,rfl,(((DO.out.setB (by omega)).setB (by omega)).setB (by omega)).mono (by omega)⟩
  ·exact((KX.out.setCell (by show w.heap.size≤w.heap.size+1;omega) _).setCell (by show w.heap.size≤w.heap.size+1;omega) _).setCell (by show w.heap.size≤w.heap.size+1;omega) _
 have h8': ¬(8:Int)≤(n2:Int):=by omega
 have h8b:((n2:Int)==8)=false:=by rw [beq_eq_false_iff_ne];omega
 have HV:Hid (bcD d s fr=(⟨d.next,d.vs,insB s fr d.bs⟩,0)):=by show _=_;rw [bcD,if_neg HC1.out,if_neg HIN.out,if_neg (by rw [E2.out];omega)]
 have HE0:Hid ((u5.alloc (.cells #[] 79)).ownsRow u5.heap.size 79 2 (.slice (some ⟨u5.heap.size,0,none⟩) 0 0) 0 []):=Qku (Nat.le_refl _) rfl;have X2:Hid (u5.cell? ⟨w.heap.size,2,none⟩=some (.slice A2 n2 c2)):=x2;have ZW:Hid (w.heap.size<u5.heap.size):=zX0;clear x0 x1 HC1 HIN HNB HH;go_wp2_with fail
 go_loopw [9,10,11] (fun q b i wr=> ∃(t:Nat) (A:Option Addr) (k c:Nat),t≤n2∧q= .slice A k c∧b= .bool ((d.bs.take t).any (fun x=>Op.bytesLess s.toList x.n.toList))∧i= .int .i64 t∧(insT s fr d.bs t).length=k∧k≤t+1∧wr.ownsRow u5.heap.size 79 2 (.slice A k c) k (Jf brL (insT s fr d.bs t))∧Below u5.heap.size u5 wr) (fun _ _ i _=>n2-(intOf i).toNat)
 case atStart=>exact⟨0,_,0,0,Nat.zero_le _,rfl,rfl,rfl,rfl,Nat.zero_le _,HE0.out,(Below.refl _ _).alloc (Nat.le_refl _) _⟩
 case round=>
  obtain⟨t,A,k,c,ht,rfl,rfl,rfl,hkl,hkt,hown,hbel⟩:=hrel;obtain⟨LT,HLT⟩: ∃LT,Hid (insT s fr d.bs t=LT):=⟨_,rfl⟩;rw [HLT.out]at hkl hown;have HOW:Hid (wr.ownsRow u5.heap.size 79 2 (.slice A k c) k (Jf brL LT)):=hown;have HKL:Hid (LT.length=k):=hkl;have KV:Hid (Below u5.heap.size u5 wr):=hbel;have hsv:=hbel.size
  have KA:=hd (Qb KX.out hbel);have y2:=cy hbel X2.out;have yz:w.heap.size<wr.heap.size:=Nat.lt_of_lt_of_le ZW.out hsv;obtain⟨dn,HDN⟩: ∃dn:Bool,Hid ((d.bs.take t).any (fun x=>Op.bytesLess s.toList x.n.toList)=dn):=⟨_,rfl⟩;rw [HDN.out];clear hown hkl hbel;by_cases hlt:t<n2
  ·obtain⟨x,hx⟩:=ZD E2.out hlt;have HXT:Hid (d.bs[t]? =some x):=hx;have HXN:Hid (x.n≠s):=HNO.out x (List.mem_of_getElem? hx);obtain⟨b,o,rfl,hl,hc⟩:=HR2.out.2 t x hx;have b0:w.cell? ⟨b,o+t*2,none⟩=some (.string x.n):=hc 0 _ rfl;have b1:w.cell? ⟨b,o+t*2+1,none⟩=some (.int .i64 x.h):=hc 1 _ rfl;rw [←KA.out.cell (p:=⟨_,_,none⟩) hl]at b0 b1
   have hl2:b<wr.heap.size:=Nat.lt_of_lt_of_le hl KA.out.size;have HBL:Hid (b<w.heap.size):=hl;have q0:(0:Int)≤(t:Int):=by omega
   have q1:(t:Int)<(n2:Int):=by omega
   have heq:(x.n.toList==s.toList)=false:=by
    rw [beq_eq_false_iff_ne];exact fun e=>HXN.out (toList_inj e)
   obtain⟨lt,HLS⟩: ∃lt:Bool,Hid (Op.bytesLess s.toList x.n.toList=lt):=⟨_,rfl⟩
   have hrev:Op.bytesLess x.n.toList s.toList= !lt:=by
    cases lt with
    | true=>exact bl_asymm _ _ HLS.out
    | false=>
     cases h9:Op.bytesLess x.n.toList s.toList with
     | true=>rfl
     | false=>exact absurd (toList_inj (bl_tri _ _ h9 HLS.out)) HXN.out
   have HDN1:Hid ((d.bs.take (t+1)).any (fun x=>Op.bytesLess s.toList x.n.toList)=(dn || lt)):=by show _=_;rw [any_take HXT.out,HDN.out,HLS.out]
   clear hx hc hl;by_cases hput:dn=false∧lt=true
   ·obtain⟨rfl,rfl⟩:=hput;have HI:Hid (insT s fr d.bs (t+1)=(LT++ [⟨s,fr⟩])++ [x]):=by show _=_;rw [insT_put HXT.out HDN.out HLS.out,HLT.out]
    have hrev2:Op.bytesLess x.n.toList s.toList=false:=hrev;clear hrev
    go_wp2_with (first
     | (at_builtin;refine wpList_app_br rfl _ _ rfl u5.heap.size (.slice A k c) (k) (LT) rfl (HOW.out.alloc _) s fr wr.heap.size rfl (by simp [go_sem]) (by simp [go_sem]) (by omega) (by simp;omega) ?_)
     | fail)
    intro va q6 ho hg;obtain⟨Fq6,hq6,rfl,_,_⟩:=Qo ho;have hba:Below wr.heap.size wr (wr.alloc (.cells #[.string s,.int .i64 fr] 79)):=(Below.refl _ _).alloc (Nat.le_refl _) _;have HO6:Hid (q6.ownsRow u5.heap.size 79 2 (.slice Fq6 (k+1) hq6) (k+1) (Jf brL (LT++ [⟨s,fr⟩]))):=ho;have K6:Hid (Below u5.heap.size u5 q6):=(KV.out.alloc hsv _).grown hg (by simp;omega) (fun j hj=>(HOW.out.lt j hj).1);have nB:some b≠(Value.slice A k c).ownBlock:=fun e=>by have h8:=(HOW.out.lt _ e.symm).1;have h9:=HBL.out;have h7:=ZW.out;omega
    have nW:some w.heap.size≠(Value.slice A k c).ownBlock:=fun e=>by have h8:=(HOW.out.lt _ e.symm).1;have h7:=ZW.out;omega
    replace b0:=hg.cell (cy hba b0) nB;replace b1:=hg.cell (cy hba b1) nB;replace y2:=hg.cell (cy hba y2) nW;have sz6:wr.heap.size≤q6.heap.size:=Nat.le_trans hba.size hg.size;replace hl2:b<q6.heap.size:=Nat.lt_of_lt_of_le hl2 sz6;replace yz:w.heap.size<q6.heap.size:=Nat.lt_of_lt_of_le yz sz6;have hsq:u5.heap.size≤q6.heap.size:=Nat.le_trans hsv sz6
    clear ho hg hba
    go_wp2_with (first
     | (at_builtin;refine wpList_app_br rfl _ _ rfl u5.heap.size (.slice Fq6 (k+1) hq6) ((k+1)) (LT++ [⟨s,fr⟩]) rfl (HO6.out.alloc _) x.n x.h q6.heap.size rfl (by simp [go_sem]) (by simp [go_sem]) (by omega) (by simp;omega) ?_)
     | fail)
    intro va q7 ho hg;obtain⟨Fq7,hq7,rfl,_,_⟩:=Qo ho;have HO7:Hid (q7.ownsRow u5.heap.size 79 2 (.slice Fq7 (k+1+1) hq7) (k+1+1) (Jf brL (insT s fr d.bs (t+1)))):=by rw [HI.out,List.append_assoc];exact ho
    have HL7:Hid ((insT s fr d.bs (t+1)).length=k+1+1):=by show _=_;rw [HI.out,List.length_append,List.length_append,HKL.out];rfl
    have hk7:k+1+1≤t+1+1:=by rw [←HL7.out];exact insT_len
    have K7:Hid (Below u5.heap.size u5 q7):=(K6.out.alloc hsq _).grown hg (by simp;omega) (fun j hj=>(HO6.out.lt j hj).1);clear ho hg;go_wp2_with fail
    go_roundw
    case rel=>exact⟨t+1,Fq7,k+1+1,hq7,by omega,rfl,by rw [HDN1.out];rfl,by go_num,HL7.out,hk7,HO7.out,K7.out⟩
    case measure=>simp [intOf];omega
   ·have HI:Hid (insT s fr d.bs (t+1)=LT++ [x]):=by
     show _=_;rw [insT_on HXT.out (by rw [HDN.out,HLS.out];cases dn<;>cases lt<;>simp_all),HLT.out]
    have hgo:dn=true∨(dn=false∧lt=false):=by cases dn<;>cases lt<;>simp_all
    rcases hgo with rfl | ⟨rfl,rfl⟩
    ·clear hrev hput
     go_wp2_with (first
      | (at_builtin;refine wpList_app_br rfl _ _ rfl u5.heap.size (.slice A k c) (k) (LT) rfl (HOW.out.alloc _) x.n x.h wr.heap.size rfl (by simp [go_sem]) (by simp [go_sem]) (by omega) (by simp;omega) ?_)
      | fail)
     intro va q6 ho hg;obtain⟨Fq6,hq6,rfl,_,_⟩:=Qo ho;have HO6:Hid (q6.ownsRow u5.heap.size 79 2 (.slice Fq6 (k+1) hq6) (k+1) (Jf brL (insT s fr d.bs (t+1)))):=by rw [HI.out];exact ho
     have HL6:Hid ((insT s fr d.bs (t+1)).length=k+1):=by show _=_;rw [HI.out,List.length_append,HKL.out];rfl
     have hk6:k+1≤t+1+1:=by omega
     have K6:Hid (Below u5.heap.size u5 q6):=(KV.out.alloc hsv _).grown hg (by simp;omega) (fun j hj=>(HOW.out.lt j hj).1);clear ho hg;go_wp2_with fail
     go_roundw
     case rel=>exact⟨t+1,Fq6,k+1,hq6,by omega,rfl,by rw [HDN1.out];rfl,by go_num,HL6.out,hk6,HO6.out,K6.out⟩
     case measure=>simp [intOf];omega
    ·have hrev2:Op.bytesLess x.n.toList s.toList=true:=hrev;clear hrev hput
     go_wp2_with (first
      | (at_builtin;refine wpList_app_br rfl _ _ rfl u5.heap.size (.slice A k c) (k) (LT) rfl (HOW.out.alloc _) x.n x.h wr.heap.size rfl (by simp [go_sem]) (by simp [go_sem]) (by omega) (by simp;omega) ?_)
      | fail)
     intro va q6 ho hg;obtain⟨Fq6,hq6,rfl,_,_⟩:=Qo ho;have HO6:Hid (q6.ownsRow u5.heap.size 79 2 (.slice Fq6 (k+1) hq6) (k+1) (Jf brL (insT s fr d.bs (t+1)))):=by rw [HI.out];exact ho
     have HL6:Hid ((insT s fr d.bs (t+1)).length=k+1):=by show _=_;rw [HI.out,List.length_append,HKL.out];rfl
     have hk6:k+1≤t+1+1:=by omega
     have K6:Hid (Below u5.heap.size u5 q6):=(KV.out.alloc hsv _).grown hg (by simp;omega) (fun j hj=>(HOW.out.lt j hj).1);clear ho hg;go_wp2_with fail
     go_roundw
     case rel=>exact⟨t+1,Fq6,k+1,hq6,by omega,rfl,by rw [HDN1.out];rfl,by go_num,HL6.out,hk6,HO6.out,K6.out⟩
     case measure=>simp [intOf];omega
  ·have h1: ¬(t:Int)<(n2:Int):=by omega
   obtain rfl:n2=t:=by omega
   have HAN:Hid (d.bs.any (fun x=>Op.bytesLess s.toList x.n.toList)=dn):=by show _=_;rw [←HDN.out,←E2.out,List.take_length]
   cases dn
   ·have HI:Hid (LT++ [⟨s,fr⟩]=insB s fr d.bs):=by show _=_;rw [←insT_end HAN.out,E2.out,HLT.out]
    have hkn:k=n2:=by
     have h9:=congrArg List.length HI.out;rw [List.length_append,HKL.out,insB_len,E2.out]at h9;have: [(⟨s,fr⟩:BR)].length=1:=rfl;omega
    subst hkn
    go_wp2_with (first
     | (at_builtin;refine wpList_app_br rfl _ _ rfl u5.heap.size (.slice A k c) (k) (LT) rfl (HOW.out.alloc _) s fr wr.heap.size rfl (by simp [go_sem]) (by simp [go_sem]) (by omega) (by simp;omega) ?_)
     | fail)
    intro va q6 ho hg;obtain⟨Fq6,hq6,rfl,_,_⟩:=Qo ho;have OBF:Hid (q6.ownsRow u5.heap.size 79 2 (.slice Fq6 (k+1) hq6) (k+1) (Jf brL (insB s fr d.bs))):=by rw [←HI.out];exact ho
    have KFB:Hid (Below u5.heap.size u5 q6):=(KV.out.alloc hsv _).grown hg (by simp;omega) (fun j hj=>(HOW.out.lt j hj).1);clear ho hg;have HLN:Hid ((insB s fr d.bs).length=k+1):=by show _=_;rw [insB_len,E2.out]
    have DVV:=hd (DV.out.below KFB.out);have g0':=cy KFB.out g0;have g1':=cy KFB.out g1;have g2':=cy KFB.out g2;have gf': ∀o,q6.frozen? ⟨u1.heap.size,o,none⟩=false:=fun o=>((KFB.out).frozen (p:=⟨u1.heap.size,o,none⟩) gz).trans (gf o);have gz':u1.heap.size<q6.heap.size:=Nat.lt_of_lt_of_le gz (KFB.out).size;have p0':=cy KFB.out p0
    have p1':=cy KFB.out p1;have p2':=cy KFB.out p2;have pf': ∀o,q6.frozen? ⟨w.heap.size+1,o,none⟩=false:=fun o=>((KFB.out).frozen (p:=⟨w.heap.size+1,o,none⟩) zX1).trans (pf o);have pz':w.heap.size+1<q6.heap.size:=Nat.lt_of_lt_of_le zX1 (KFB.out).size;have hne5:w.heap.size+1<u1.heap.size:=by omega
    obtain⟨cc,rr9,gb⟩:=GB.out
    have GBV:Hid (q6.heap[u1.heap.size]? =some (.cells cc 32 rr9)):=by
     show _=_;rw [(KFB.out).block _ gz];exact gb
    have HDO:Hid (DgO q6 u0.heap.size (.agg #[.int .i64 d.next,.slice A3 n1 c3,.slice Fq6 (k+1) hq6]) ⟨d.next,d.vs,insB s fr d.bs⟩):=by
     obtain⟨ys,k1,k2,k3⟩:=DVV.out;refine⟨_,_,ys,rfl,?_,?_,?_,?_⟩
     ·show World.ownsRow _ _ _ _ _ d.vs.length _;rw [E1.out];exact k1
     ·show VrPart _ _ ys d.vs d.vs.length;rw [E1.out];exact k2
     ·show VrApt ys d.vs.length;rw [E1.out];exact k3
     ·show World.ownsRow _ _ _ _ _ (insB s fr d.bs).length _;rw [HLN.out];exact Zc OBF.out (by omega)
    have KF:=hd (Qb KX.out (KFB.out));clear gb g0 g1 g2 gf gz p0 p1 p2 pf;go_wp2_with fail
    refine bodyPost_ret (v:= .tuple #[.agg #[.int .i64 d.next,.slice A3 n1 c3,.slice Fq6 (k+1) hq6],.int .i64 0]) ?_ rfl ⟨?_,?_⟩
    ·simp (maxDischargeDepth:=9) [results,Tryz.results17,go_sem, *]
    ·rw [HVA.out,HV.out];exact⟨_,rfl,((((HDO.out.setTb GBV.out).setB (by omega)).setB (by omega)).setB (by omega)).mono (by omega)⟩
    ·exact(((KF.out.setCell (by show w.heap.size≤u1.heap.size;omega) _).setCell (by show w.heap.size≤w.heap.size+1;omega) _).setCell (by show w.heap.size≤w.heap.size+1;omega) _).setCell (by show w.heap.size≤w.heap.size+1;omega) _
   ·have HI:Hid (LT=insB s fr d.bs):=by show _=_;rw [←insT_done HAN.out,E2.out,HLT.out]
    have hkn:k=n2+1:=by
     have h9:=congrArg List.length HI.out;rw [HKL.out,insB_len,E2.out]at h9;exact h9
    subst hkn;have OBF:Hid (wr.ownsRow u5.heap.size 79 2 (.slice A (n2+1) c) (n2+1) (Jf brL (insB s fr d.bs))):=by rw [←HI.out];exact HOW.out
    have KFB:Hid (Below u5.heap.size u5 wr):=KV.out;have HLN:Hid ((insB s fr d.bs).length=n2+1):=by show _=_;rw [insB_len,E2.out]
    have DVV:=hd (DV.out.below KFB.out);have g0':=cy KFB.out g0;have g1':=cy KFB.out g1;have g2':=cy KFB.out g2;have gf': ∀o,wr.frozen? ⟨u1.heap.size,o,none⟩=false:=fun o=>((KFB.out).frozen (p:=⟨u1.heap.size,o,none⟩) gz).trans (gf o);have gz':u1.heap.size<wr.heap.size:=Nat.lt_of_lt_of_le gz (KFB.out).size;have p0':=cy KFB.out p0
    have p1':=cy KFB.out p1;have p2':=cy KFB.out p2;have pf': ∀o,wr.frozen? ⟨w.heap.size+1,o,none⟩=false:=fun o=>((KFB.out).frozen (p:=⟨w.heap.size+1,o,none⟩) zX1).trans (pf o);have pz':w.heap.size+1<wr.heap.size:=Nat.lt_of_lt_of_le zX1 (KFB.out).size;have hne5:w.heap.size+1<u1.heap.size:=by omega
    obtain⟨cc,rr9,gb⟩:=GB.out
    have GBV:Hid (wr.heap[u1.heap.size]? =some (.cells cc 32 rr9)):=by
     show _=_;rw [(KFB.out).block _ gz];exact gb
    have HDO:Hid (DgO wr u0.heap.size (.agg #[.int .i64 d.next,.slice A3 n1 c3,.slice A (n2+1) c]) ⟨d.next,d.vs,insB s fr d.bs⟩):=by
     obtain⟨ys,k1,k2,k3⟩:=DVV.out;refine⟨_,_,ys,rfl,?_,?_,?_,?_⟩
     ·show World.ownsRow _ _ _ _ _ d.vs.length _;rw [E1.out];exact k1
     ·show VrPart _ _ ys d.vs d.vs.length;rw [E1.out];exact k2
     ·show VrApt ys d.vs.length;rw [E1.out];exact k3
     ·show World.ownsRow _ _ _ _ _ (insB s fr d.bs).length _;rw [HLN.out];exact Zc OBF.out (by omega)
    have KF:=hd (Qb KX.out (KFB.out));clear gb g0 g1 g2 gf gz p0 p1 p2 pf;go_wp2_with fail
    refine bodyPost_ret (v:= .tuple #[.agg #[.int .i64 d.next,.slice A3 n1 c3,.slice A (n2+1) c],.int .i64 0]) ?_ rfl ⟨?_,?_⟩
    ·simp (maxDischargeDepth:=9) [results,Tryz.results17,go_sem, *]
    ·rw [HVA.out,HV.out];exact⟨_,rfl,((((HDO.out.setTb GBV.out).setB (by omega)).setB (by omega)).setB (by omega)).mono (by omega)⟩
    ·exact(((KF.out.setCell (by show w.heap.size≤u1.heap.size;omega) _).setCell (by show w.heap.size≤w.heap.size+1;omega) _).setCell (by show w.heap.size≤w.heap.size+1;omega) _).setCell (by show w.heap.size≤w.heap.size+1;omega) _
def Bx (W:World) (b:Nat) (x y z:Value):Prop:=W.cell? ⟨b,0,none⟩=some x∧W.cell? ⟨b,1,none⟩=some y∧W.cell? ⟨b,2,none⟩=some z∧b<W.heap.size
theorem Bx.new {w:World} {t:TypeId} {x y z:Value}:Bx (w.alloc (.cells #[x,y,z] t)) w.heap.size x y z:=by
 refine⟨?_,?_,?_,?_⟩<;>simp [go_sem]
theorem Bx.below {W W':World} {b:Nat} {x y z:Value} (h:Bx W b x y z) (hb:Below W.heap.size W W'):Bx W' b x y z:=⟨cy hb h.1,cy hb h.2.1,cy hb h.2.2.1,Nat.lt_of_lt_of_le h.2.2.2 hb.size⟩
theorem Bx.frx {W W':World} {b lo hi:Nat} {x y z:Value} (h:Bx W b x y z) (hf:FrX lo hi W W') (hk:b<lo∨hi≤b):Bx W' b x y z:=⟨hf.cell hk h.1,hf.cell hk h.2.1,hf.cell hk h.2.2.1,Nat.lt_of_lt_of_le h.2.2.2 hf.size⟩
theorem law_FnExactBranched (v:Value) (s:ByteArray) (fr:Int) (d:DG) (w:World) (hs:s.size≤maxLen) (hwf:(Lit.int .i64 fr).wf=true) (h:DgRow w v d) (hk:DgOk d) (hg:GI w):Calls Tryz.prog 4 #[v,.string s,.int .i64 fr] w fun e w'=>
  e= .returned (.bool true)∧Below w.heap.size w w':=by
 obtain⟨A,n,c,B,m,q,rfl⟩:=h.agg;have HR:Hid (DgRow w (.agg #[.int .i64 d.next,.slice A n c,.slice B m q]) d):=h;have HK:Hid (DgOk d):=hk;have HG:Hid (GI w):=hg;have HWF:Hid ((Lit.int .i64 fr).wf=true):=hwf;have HSM:Hid (s.size≤maxLen):=hs;obtain⟨⟨D,i1⟩,HA⟩: ∃r,Hid (bcA d s fr=r):=⟨_,rfl⟩
 have eb1:(i1 !=i1)=false:=by simp
 clear hwf;clear h hk hg;unfold maxLen at hs;by_cases hbig:(1048576:Int)<(s.size:Int)
 ·go_enter Tryz.func4,Tryz.ntmps4;go_wp2_with fail
  go_ret;exact⟨rfl,by go_grown⟩
 go_enter Tryz.func4,Tryz.ntmps4;go_wp2_with fail
 obtain⟨X,HY⟩: ∃X,Hid (w.alloc (.cells #[.int .i64 d.next,.slice A n c,.slice B m q] 25)=X):=⟨_,rfl⟩;rw [HY.out];have hb:Below w.heap.size w X:=by rw [←HY.out];go_grown
 have C3:Hid (Bx X w.heap.size (.int .i64 d.next) (.slice A n c) (.slice B m q)):=by rw [←HY.out];exact Bx.new
 have KX:Hid (Below w.heap.size w X):=hb;clear hb HY;refine(laws_szDagL _ (HR.out.below KX.out) HK.out).mono ?_;rintro e u0 ⟨z,rfl,hz1,hz,hb⟩;replace C3:=hd (C3.out.below hb);replace KX:=hd (Qb KX.out hb);clear hb
 by_cases hneg:z<0
 ·go_wp2_with fail
  go_ret;exact⟨rfl,KX.out⟩
 have HL:Hid (DgLil d):=hz (by omega);clear hz;have h9:=bcA_ok (s:=s) HK.out HL.out (by omega) HWF.out;rw [HA.out]at h9;have HKD:Hid (DgOk D):=h9.1;have HLD:Hid (DgLil D):=h9.2;clear h9
 obtain⟨c3_0,c3_1,c3_2,c3_z⟩:=C3.out;go_wp2_with fail
 clear c3_0 c3_1 c3_2 c3_z;refine(Qij _ (HR.out.below KX.out) HL.out).mono ?_;rintro e u2 ⟨v2,rfl,ho,hb⟩;have hr:=ho.row HK.out;obtain⟨a1,a2,a3,a4,a5,a6,rfl⟩:=hr.agg;have R1:Hid (DgRow u2 (.agg #[.int .i64 d.next,.slice a1 a2 a3,.slice a4 a5 a6]) d):=hr;replace C3:=hd (C3.out.below hb)
 replace KX:=hd (Qb KX.out hb);clear hb hr ho;go_wp2_with fail
 refine(spec_Branched s fr _ R1.out HK.out HL.out HSM.out).mono ?_;rintro e u4 ⟨hs,hb⟩;rw [HA.out]at hs;obtain⟨W1,W2,W3,W4,W5,W6,rfl,ho⟩:=hs.open;have OW:Hid (DgO u4 u2.heap.size (.agg #[.int .i64 D.next,.slice W1 W2 W3,.slice W4 W5 W6]) D):=ho;replace C3:=hd (C3.out.below hb);replace KX:=hd (Qb KX.out hb)
 replace R1:=hd (R1.out.below hb);clear hs ho;clear hb R1;have KZ:=hd (Nat.le_of_lt C3.out.2.2.2);obtain⟨c3_0,c3_1,c3_2,c3_z⟩:=C3.out;go_wp2_with fail
 clear c3_0 c3_1 c3_2 c3_z;obtain⟨Y1,HY⟩: ∃X,Hid (u4.alloc (.cells #[.int .i64 D.next,.slice W1 W2 W3,.slice W4 W5 W6] 32)=X):=⟨_,rfl⟩;rw [HY.out];have hb:Below u4.heap.size u4 Y1:=by rw [←HY.out];go_grown
 have C8:Hid (Bx Y1 u4.heap.size (.int .i64 D.next) (.slice W1 W2 W3) (.slice W4 W5 W6)):=by rw [←HY.out];exact Bx.new
 replace C3:=hd (C3.out.below hb);replace KX:=hd (Qb KX.out hb);have QW:Hid (Below u4.heap.size u4 Y1):=hb;have z1:w.heap.size≤u4.heap.size∧u4.heap.size<Y1.heap.size:=⟨KZ.out,C8.out.2.2.2⟩;have Z1:=hd z1;clear hb HY z1;refine(Qij _ (HR.out.below KX.out) HL.out).mono ?_
 rintro e u5 ⟨v2,rfl,ho,hb⟩;have hr:=ho.row HK.out;obtain⟨x1,x2,x3,x4,x5,x6,rfl⟩:=hr.agg;have R2:Hid (DgRow u5 (.agg #[.int .i64 d.next,.slice x1 x2 x3,.slice x4 x5 x6]) d):=hr;have OX:Hid (DgOwn u5 Y1.heap.size (.agg #[.int .i64 d.next,.slice x1 x2 x3,.slice x4 x5 x6]) d):=ho;have Z2:=hd hb.size;replace C3:=hd (C3.out.below hb)
 replace KX:=hd (Qb KX.out hb);replace C8:=hd (C8.out.below hb);replace QW:=hd (Qb QW.out hb);clear hb hr ho;go_wp2_with fail
 obtain⟨Y2,HY⟩: ∃X,Hid (u5.alloc (.cells #[.int .i64 d.next,.slice x1 x2 x3,.slice x4 x5 x6] 32)=X):=⟨_,rfl⟩;rw [HY.out];have hb:Below u5.heap.size u5 Y2:=by rw [←HY.out];go_grown
 have C11:Hid (Bx Y2 u5.heap.size (.int .i64 d.next) (.slice x1 x2 x3) (.slice x4 x5 x6)):=by rw [←HY.out];exact Bx.new
 replace C3:=hd (C3.out.below hb);replace KX:=hd (Qb KX.out hb);replace C8:=hd (C8.out.below hb);replace QW:=hd (Qb QW.out hb);replace R2:=hd (R2.out.below hb);have QX:Hid (Below u5.heap.size u5 Y2):=hb;have Z3:=hd C11.out.2.2.2
 clear hb HY;have Z4:=hd (Nat.le_refl Y2.heap.size);refine(impl_Branched s fr _ R2.out HK.out HL.out HSM.out HWF.out (HG.out.below KX.out)).mono ?_;rintro e u7 ⟨hs,hb⟩;rw [HA.out]at hs;obtain⟨G1,G2,G3,G4,G5,G6,rfl,ho⟩:=hs.open;have OG:Hid (DgOH u7 Y2.heap.size u7.heap.size (.agg #[.int .i64 D.next,.slice G1 G2 G3,.slice G4 G5 G6]) D):=ho.toH
 have ZZ:Hid (w.heap.size≤u4.heap.size∧u4.heap.size<Y1.heap.size∧Y1.heap.size≤u5.heap.size∧u5.heap.size<Y2.heap.size∧Y2.heap.size≤Y2.heap.size∧Y2.heap.size≤u7.heap.size):=⟨Z1.out.1,Z1.out.2,Z2.out,Z3.out,Z4.out,hb.size⟩;replace C3:=hd (C3.out.below hb);replace KX:=hd (Qb KX.out hb);replace C8:=hd (C8.out.below hb);replace QW:=hd (Qb QW.out hb);replace R2:=hd (R2.out.below hb);replace C11:=hd (C11.out.below hb)
 replace QX:=hd (Qb QX.out hb);clear hb hs ho Z1 Z2 Z3 Z4;obtain⟨c8_0,c8_1,c8_2,c8_z⟩:=C8.out;go_wp2_with fail
 clear c8_0 c8_1 c8_2 c8_z;obtain⟨Y3,HY⟩: ∃X,Hid (u7.alloc (.cells #[.int .i64 D.next,.slice G1 G2 G3,.slice G4 G5 G6] 32)=X):=⟨_,rfl⟩;rw [HY.out];have hb:Below u7.heap.size u7 Y3:=by rw [←HY.out];go_grown
 have C13:Hid (Bx Y3 u7.heap.size (.int .i64 D.next) (.slice G1 G2 G3) (.slice G4 G5 G6)):=by rw [←HY.out];exact Bx.new
 replace C3:=hd (C3.out.below hb);replace KX:=hd (Qb KX.out hb);replace C8:=hd (C8.out.below hb);replace QW:=hd (Qb QW.out hb);replace R2:=hd (R2.out.below hb);replace C11:=hd (C11.out.below hb);replace QX:=hd (Qb QX.out hb)
 replace OG:=hd (OG.out.below hb);clear hb HY;refine(Qil _ (OG.out.toO.row HKD.out) ((OW.out.below QW.out).row HKD.out)).mono ?_;rintro e u8 ⟨rfl,hb⟩;replace C3:=hd (C3.out.below hb);replace KX:=hd (Qb KX.out hb);replace C8:=hd (C8.out.below hb)
 replace QW:=hd (Qb QW.out hb);replace R2:=hd (R2.out.below hb);replace C11:=hd (C11.out.below hb);replace QX:=hd (Qb QX.out hb);replace OG:=hd (OG.out.below hb);replace C13:=hd (C13.out.below hb);clear hb
 obtain⟨c3_0,c3_1,c3_2,c3_z⟩:=C3.out;obtain⟨c11_0,c11_1,c11_2,c11_z⟩:=C11.out;go_upto_region 12 with fail
 go_cut [56] (fun q wx=>q= .bool false∧Below u8.heap.size u8 wx)
 case first=>
  go_region_held3 (fun w'=>(∀bq oq,bq<u8.heap.size→w'.cell? ⟨bq,oq,none⟩=u8.cell? ⟨bq,oq,none⟩)∧u8.heap.size≤w'.heap.size∧Below u8.heap.size u8 w')
   (exact Qj (Nat.le_refl _) (by go_grown))
   (first
   | (go_at_call 9;refine(Qij _ (HR.out.below (Qb KX.out (by go_grown))) HL.out).mono ?_;rintro e y1 ⟨v6,rfl,ho,hb⟩;have R3:Hid (DgRow y1 v6 d):=ho.row HK.out;obtain⟨hk1,hz1⟩:=Qe (B:=u8.heap.size) (X:=u8) (by go_grown) (by go_size) hb;clear hb ho)
   | (go_at_call 12;refine(Qil _ (R2.out.below hk1) R3.out).mono ?_;rintro e y2 ⟨rfl,hb⟩;obtain⟨hk2,hz2⟩:=Qe (B:=u8.heap.size) (X:=u8) hk1 hz1 hb;clear hb))
  all_goals
   go_wp2_with fail
   go_meet;exact⟨rfl,by go_grown⟩
 case rest=>
 obtain⟨rfl,hb⟩:=hcut;clear c3_0 c3_1 c3_2 c3_z;clear c11_0 c11_1 c11_2 c11_z;replace C3:=hd (C3.out.below hb);replace KX:=hd (Qb KX.out hb);replace C8:=hd (C8.out.below hb);replace QW:=hd (Qb QW.out hb)
 replace C11:=hd (C11.out.below hb);replace QX:=hd (Qb QX.out hb);replace OG:=hd (OG.out.below hb);replace C13:=hd (C13.out.below hb);clear hb R2;obtain⟨c11_0,c11_1,c11_2,c11_z⟩:=C11.out;go_wp2_with fail
 clear c11_0 c11_1 c11_2 c11_z;refine(laws_markDagK _ OX.out QX.out HL.out).mono ?_;rintro e w11 ⟨k7,rfl,hk7,hk7b,hf⟩;have z3:=C3.out.2.2.2;have z8:=C8.out.2.2.2;replace KX:=hd (KX.out.trans (hf.toBelow (B:=w.heap.size) (by have:=ZZ.out;omega) (by omega)));replace QW:=hd (QW.out.trans (hf.toBelow (B:=u4.heap.size) (by have:=ZZ.out;omega) (by omega)))
 clear z3 z8;replace C3:=hd (C3.out.frx hf (by have:=ZZ.out;omega));replace C8:=hd (C8.out.frx hf (by have:=ZZ.out;omega));replace C13:=hd (C13.out.frx hf (by have:=ZZ.out;omega));replace OG:=hd (OG.out.frx hf (by have:=ZZ.out;omega));clear hf C11 QX OX;have hk8: ¬k7<0:=by omega
 clear hk7b;obtain⟨c13_0,c13_1,c13_2,c13_z⟩:=C13.out;obtain⟨c8_0,c8_1,c8_2,c8_z⟩:=C8.out;go_wp2_with fail
 clear c13_0 c13_1 c13_2 c13_z;clear c8_0 c8_1 c8_2 c8_z;refine(Qil _ (OG.out.toO.row HKD.out) ((OW.out.below QW.out).row HKD.out)).mono ?_;rintro e u13 ⟨rfl,hb⟩;replace C3:=hd (C3.out.below hb);replace KX:=hd (Qb KX.out hb);replace C8:=hd (C8.out.below hb)
 replace QW:=hd (Qb QW.out hb);replace OG:=hd (OG.out.below hb);replace C13:=hd (C13.out.below hb);clear hb;obtain⟨c13_0,c13_1,c13_2,c13_z⟩:=C13.out;go_wp2_with fail
 clear c13_0 c13_1 c13_2 c13_z;refine(laws_markDagS _ OG.out (Nat.le_of_lt C13.out.2.2.2) HLD.out).mono ?_;rintro e w14 ⟨rfl,hmk,hf⟩;have z3:=C3.out.2.2.2;have z8:=C8.out.2.2.2;replace KX:=hd (KX.out.trans (hf.toBelow (B:=w.heap.size) (by have:=ZZ.out;omega) (by omega)));replace QW:=hd (QW.out.trans (hf.toBelow (B:=u4.heap.size) (by have:=ZZ.out;omega) (by omega)))
 clear z3 z8;replace C3:=hd (C3.out.frx hf (by have:=ZZ.out;omega));replace C8:=hd (C8.out.frx hf (by have:=ZZ.out;omega));replace C13:=hd (C13.out.frx hf (by have:=ZZ.out;omega));have MK:Hid (DgMk w14 Y2.heap.size (.agg #[.int .i64 D.next,.slice G1 G2 G3,.slice G4 G5 G6]) D):=hmk;clear hf hmk OG;obtain⟨mv,HMV⟩: ∃mv:Int,Hid (kdN D=mv):=⟨_,rfl⟩
 have hmv0: ¬mv<0:=by have h9:=kdN_pos HLD.out;rw [HMV.out]at h9;omega
 have hmv1:(mv !=mv)=false:=by simp
 rw [HMV.out];obtain⟨c13_0,c13_1,c13_2,c13_z⟩:=C13.out;go_wp2_with fail
 clear c13_0 c13_1 c13_2 c13_z;refine(laws_heldDag _ MK.out HLD.out).mono ?_;rintro e u15 ⟨rfl,hb⟩;replace C3:=hd (C3.out.below hb);replace KX:=hd (Qb KX.out hb);replace C8:=hd (C8.out.below hb);replace QW:=hd (Qb QW.out hb)
 replace C13:=hd (C13.out.below hb);replace MK:=hd (MK.out.below hb);clear hb;rw [HMV.out];obtain⟨c3_0,c3_1,c3_2,c3_z⟩:=C3.out;go_wp2_with fail
 clear c3_0 c3_1 c3_2 c3_z;refine(Qij _ (HR.out.below KX.out) HL.out).mono ?_;rintro e u16 ⟨v2,rfl,ho,hb⟩;have hr:=ho.row HK.out;obtain⟨f1,f2,f3,f4,f5,f6,rfl⟩:=hr.agg;have R4:Hid (DgRow u16 (.agg #[.int .i64 d.next,.slice f1 f2 f3,.slice f4 f5 f6]) d):=hr;replace C3:=hd (C3.out.below hb)
 replace KX:=hd (Qb KX.out hb);replace C8:=hd (C8.out.below hb);replace QW:=hd (Qb QW.out hb);replace C13:=hd (C13.out.below hb);replace MK:=hd (MK.out.below hb);clear hb hr ho;go_wp2_with fail
 refine(impl_Branched s fr _ R4.out HK.out HL.out HSM.out HWF.out (HG.out.below KX.out)).mono ?_;rintro e u18 ⟨hs,hb⟩;rw [HA.out]at hs;obtain⟨H1,H2,H3,H4,H5,H6,rfl,ho⟩:=hs.open;have OH:Hid (DgO u18 u16.heap.size (.agg #[.int .i64 D.next,.slice H1 H2 H3,.slice H4 H5 H6]) D):=ho;replace C3:=hd (C3.out.below hb);replace KX:=hd (Qb KX.out hb)
 replace C8:=hd (C8.out.below hb);replace QW:=hd (Qb QW.out hb);replace C13:=hd (C13.out.below hb);replace MK:=hd (MK.out.below hb);replace R4:=hd (R4.out.below hb);clear hs ho hb R4;obtain⟨c8_0,c8_1,c8_2,c8_z⟩:=C8.out
 go_wp2_with fail
 clear c8_0 c8_1 c8_2 c8_z;obtain⟨Y4,HY⟩: ∃X,Hid (u18.alloc (.cells #[.int .i64 D.next,.slice H1 H2 H3,.slice H4 H5 H6] 32)=X):=⟨_,rfl⟩;rw [HY.out];have hb:Below u18.heap.size u18 Y4:=by rw [←HY.out];go_grown
 have C19:Hid (Bx Y4 u18.heap.size (.int .i64 D.next) (.slice H1 H2 H3) (.slice H4 H5 H6)):=by rw [←HY.out];exact Bx.new
 replace C3:=hd (C3.out.below hb);replace KX:=hd (Qb KX.out hb);replace C8:=hd (C8.out.below hb);replace QW:=hd (Qb QW.out hb);replace C13:=hd (C13.out.below hb);replace MK:=hd (MK.out.below hb);replace OH:=hd (OH.out.below hb)
 clear hb HY;refine(Qil _ (OH.out.row HKD.out) ((OW.out.below QW.out).row HKD.out)).mono ?_;rintro e u19 ⟨rfl,hb⟩;replace C3:=hd (C3.out.below hb);replace KX:=hd (Qb KX.out hb);replace C8:=hd (C8.out.below hb);replace QW:=hd (Qb QW.out hb)
 replace C13:=hd (C13.out.below hb);replace MK:=hd (MK.out.below hb);replace OH:=hd (OH.out.below hb);replace C19:=hd (C19.out.below hb);clear hb;obtain⟨c13_0,c13_1,c13_2,c13_z⟩:=C13.out;go_wp2_with fail
 clear c13_0 c13_1 c13_2 c13_z;refine(laws_heldDag _ MK.out HLD.out).mono ?_;rintro e u20 ⟨rfl,hb⟩;replace C3:=hd (C3.out.below hb);replace KX:=hd (Qb KX.out hb);replace C8:=hd (C8.out.below hb);replace QW:=hd (Qb QW.out hb)
 replace C13:=hd (C13.out.below hb);replace MK:=hd (MK.out.below hb);replace OH:=hd (OH.out.below hb);replace C19:=hd (C19.out.below hb);clear hb;rw [HMV.out];go_wp2_with fail
 go_ret;exact⟨rfl,KX.out⟩
end Go.Proofs.YtkkbgjeilomnmaaGreatDoor
