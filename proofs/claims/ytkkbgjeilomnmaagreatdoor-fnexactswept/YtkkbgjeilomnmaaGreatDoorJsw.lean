import Derived.Test.YtkkbgjeilomnmaaGreatDoorGzn
import Derived.Test.YtkkbgjeilomnmaaGreatDoorVsC
import Derived.Maps.RangeWalk
import Derived.Test.YtkkbgjeilomnmaaGreatDoorShelfI
import Derived.Shelf.SlIterI.Nil
import Derived.Test.YtkkbgjeilomnmaaGreatDoorGzj
import Derived.Test.YtkkbgjeilomnmaaGreatDoorGzk
import Derived.Laws.AppendOwnNone
import Derived.WideShapes
import Derived.Test.YtkkbgjeilomnmaaGreatDoorMn
set_option linter.unusedSimpArgs false
set_option linter.unusedVariables false
set_option maxHeartbeats 16000000
set_option maxRecDepth 100000
namespace Go.Proofs.YtkkbgjeilomnmaaGreatDoor
open Go.RowKit Go.Maps
def Rvh (L:List VR) (a y:Int):Prop:=a∈QS L∧ ∀P:Int→Prop,P a→(∀(x:VR) (u:Int),P x.id→x∈L→u∈x.ups→u∈QS L→P u)→P y
theorem Rvh.self {L:List VR} {a:Int} (h:a∈QS L):Rvh L a a:=⟨h,fun P h1 _=>h1⟩
theorem Rvh.up {L:List VR} {a u:Int} {x:VR} (h:Rvh L a x.id) (hx:x∈L) (hu:u∈x.ups) (hm:u∈QS L):Rvh L a u:=⟨h.1,fun P h1 h2=>h2 x u (h.2 P h1 h2) hx hu hm⟩
theorem Rvh.ind {L:List VR} {a y:Int} (P:Int→Prop) (h:Rvh L a y) (h1:P a) (h2: ∀(x:VR) (u:Int),P x.id→x∈L→u∈x.ups→u∈QS L→P u):P y:=h.2 P h1 h2
theorem Rvh.mem {L:List VR} {a y:Int} (h:Rvh L a y):y∈QS L:=h.ind (fun y=>y∈QS L) h.1 (fun _ _ _ _ _ hm=>hm)
theorem Rvh.start {L:List VR} {a y:Int} (h:Rvh L a y):a∈QS L:=h.1
theorem Rvh.trans {L:List VR} {a b y:Int} (h:Rvh L a b) (h2:Rvh L b y):Rvh L a y:=h2.ind (fun y=>Rvh L a y) h (fun _ _ ih hx hu hm=>Rvh.up ih hx hu hm)
structure DgFacts (d:DG):Prop where
 asc:YK ltV d.vs=true
 lo: ∀x∈d.vs,1≤x.id
 hi: ∀x∈d.vs,x.id<d.next
 nx:d.next≤1000000000
 nv:d.vs.length≤40
 nb:d.bs.length≤8
 ups: ∀x∈d.vs,∀u∈x.ups,u∈QS d.vs
 two: ∀x∈d.vs,x.ups.length≤2
 hd: ∀x∈d.bs,x.h∈QS d.vs
theorem dag_facts {d:DG} (h:Xb d=true):DgFacts d:=by
 have hnx:d.next≤1000000000:=Classical.byContradiction fun h9=>by rw [Qdt (Or.inr (by omega))]at h;cases h
 have hasc:YK ltV d.vs=true:=by
  cases ha:YK ltV d.vs with
  | true=>rfl
  | false=>rw [Yq (VX ha)]at h;cases h
 refine⟨hasc,?_,?_,hnx,?_,?_,?_,?_,?_⟩
 ·intro x hx;obtain⟨t,ht,rfl⟩:=List.mem_iff_getElem.1 hx;exact Classical.byContradiction fun h9=>by rw [Qka (List.getElem?_eq_getElem ht) (Or.inl (by omega))]at h;cases h
 ·intro x hx;obtain⟨t,ht,rfl⟩:=List.mem_iff_getElem.1 hx;exact Classical.byContradiction fun h9=>by rw [Qka (List.getElem?_eq_getElem ht) (Or.inr (by omega))]at h;cases h
 ·exact Classical.byContradiction fun h9=>by rw [Dj (Or.inr (by omega))]at h;cases h
 ·exact Classical.byContradiction fun h9=>by rw [Dk (Or.inr (by omega))]at h;cases h
 ·intro x hx u hu;obtain⟨t,ht,rfl⟩:=List.mem_iff_getElem.1 hx;obtain⟨k,hk,rfl⟩:=List.mem_iff_getElem.1 hu;exact Classical.byContradiction fun h9=>by rw [Qey (List.getElem?_eq_getElem ht) (List.getElem?_eq_getElem hk) (Or.inr h9)]at h;cases h
 ·intro x hx;obtain⟨t,ht,rfl⟩:=List.mem_iff_getElem.1 hx;exact Classical.byContradiction fun h9=>by rw [Ez (List.getElem?_eq_getElem ht) (by omega)]at h;cases h
 ·intro x hx;obtain⟨t,ht,rfl⟩:=List.mem_iff_getElem.1 hx;exact Classical.byContradiction fun h9=>by rw [Qez (List.getElem?_eq_getElem ht) (Or.inr h9)]at h;cases h
theorem asc_inj {L:List VR} (h:YK ltV L=true) {i j:Nat} {x y:VR} (hx:L[i]? =some x) (hy:L[j]? =some y) (e:x.id=y.id):i=j:=by
 rcases Nat.lt_trichotomy i j with h1 | h1 | h1
 ·have:=GO h i j x y h1 hx hy;omega
 ·exact h1
 ·have:=GO h j i y x h1 hy hx;omega
theorem asc_one {L:List VR} (h:YK ltV L=true) {x y:VR} (hx:x∈L) (hy:y∈L) (e:x.id=y.id):x=y:=by
 obtain⟨i,hi,rfl⟩:=List.mem_iff_getElem.1 hx;obtain⟨j,hj,rfl⟩:=List.mem_iff_getElem.1 hy;have:=asc_inj h (List.getElem?_eq_getElem hi) (List.getElem?_eq_getElem hj) e;subst this;rfl
theorem ids_mem {L:List VR} {a:Int} (h:a∈QS L): ∃x,x∈L∧x.id=a:=by
 obtain⟨x,hx,e⟩:=List.mem_map.1 h;exact⟨x,hx,e⟩
theorem mem_ids {L:List VR} {x:VR} (h:x∈L):x.id∈QS L:=List.mem_map.2 ⟨x,h,rfl⟩
theorem idx_of {L:List VR} {x:VR} (h:x∈L): ∃k:Nat,L[k]? =some x:=by
 obtain⟨k,hk,e⟩:=List.mem_iff_getElem.1 h;exact⟨k,by rw [List.getElem?_eq_getElem hk,e]⟩
def leftN (L:List VR) (l:List Int):Nat:=L.countP fun x=>decide (x.id∉l)
theorem leftN_le (L:List VR) (l:List Int):leftN L l≤L.length:=List.countP_le_length
theorem leftN_add {L:List VR} {l:List Int} {a:Int} (h:a∈QS L) (hn:a∉l):leftN L (l++ [a])+1≤leftN L l:=by
 unfold leftN;induction L with
 | nil=>simp [QS]at h
 | cons x r ih=>
  have mono: ∀r:List VR,r.countP (fun x=>decide (x.id∉l++ [a]))≤r.countP (fun x=>decide (x.id∉l)):=fun r=>List.countP_mono_left fun y _ hy=>by
   simp at hy ⊢;exact hy.1
  by_cases e:x.id=a
  ·have e1:(x::r).countP (fun x=>decide (x.id∉l++ [a]))=r.countP (fun x=>decide (x.id∉l++ [a])):=List.countP_cons_of_neg (by simp [e]);have e2:(x::r).countP (fun x=>decide (x.id∉l))=r.countP (fun x=>decide (x.id∉l))+1:=List.countP_cons_of_pos (by simpa [e]using hn);have:=mono r;omega
  ·have ha:a∈QS r:=by
    rcases List.mem_cons.1 (show a∈x.id::QS r from h)with h | h
    ·exact absurd h.symm e
    ·exact h
   have h3:=ih ha;by_cases hx:x.id∉l
   ·have e1:(x::r).countP (fun x=>decide (x.id∉l++ [a]))=r.countP (fun x=>decide (x.id∉l++ [a]))+1:=List.countP_cons_of_pos (by simp [e,hx]);have e2:(x::r).countP (fun x=>decide (x.id∉l))=r.countP (fun x=>decide (x.id∉l))+1:=List.countP_cons_of_pos (by simp [hx]);omega
   ·have e1:(x::r).countP (fun x=>decide (x.id∉l++ [a]))=r.countP (fun x=>decide (x.id∉l++ [a])):=List.countP_cons_of_neg (by simp at hx;simp [hx]);have e2:(x::r).countP (fun x=>decide (x.id∉l))=r.countP (fun x=>decide (x.id∉l)):=List.countP_cons_of_neg (by simpa using hx);omega
structure Fd (L:List VR) (l xs l':List Int):Prop where
 sub: ∀y∈l,y∈l'
 got: ∀x∈xs,x∈QS L→x∈l'
 new: ∀y∈l',y∈l∨((∃x∈xs,Rvh L x y)∧ ∀v∈L,v.id=y→ ∀u∈v.ups,u∈QS L→u∈l')
theorem Fd.nil (L:List VR) (l:List Int):Fd L l [] l:=⟨fun _ h=>h,fun _ h=>absurd h (by simp),fun _ h=>Or.inl h⟩
theorem Fd.skip {L : List VR} {l xs l' : List Int} {x : Int} (h : Fd L l xs l') (hx : x ∈ QS L → x ∈ l') : Fd L l (xs ++ [x]) l' :=
  ⟨h.sub, fun y hy hm => by
    rcases List.mem_append.1 hy with hy | hy
    · exact h.got y hy hm
    · obtain rfl := List.mem_singleton.1 hy; exact hx hm,
   fun y hy => by
    rcases h.new y hy with h1 | ⟨⟨z, hz, hr⟩, h2⟩
    · exact Or.inl h1
    · exact Or.inr ⟨⟨z, List.mem_append.2 (Or.inl hz), hr⟩, h2⟩⟩
theorem Fd.step {L : List VR} {l xs l1 l2 : List Int} {v : VR} (ha : YK ltV L = true) (hv : v ∈ L) (h : Fd L l xs l1) (h2 : Fd L (l1 ++ [v.id]) v.ups l2) : Fd L l (xs ++ [v.id]) l2 :=
  have hs : ∀ y ∈ l1, y ∈ l2 := fun y hy => h2.sub y (List.mem_append.2 (Or.inl hy));have hself : Rvh L v.id v.id := Rvh.self (mem_ids hv)
  ⟨fun y hy => hs y (h.sub y hy), fun y hy hm => by
    rcases List.mem_append.1 hy with hy | hy
    · exact hs y (h.got y hy hm)
    · obtain rfl := List.mem_singleton.1 hy; exact h2.sub _ (by simp),
   fun y hy => by
    rcases h2.new y hy with h3 | ⟨⟨z, hz, hr⟩, h4⟩
    · rcases List.mem_append.1 h3 with h3 | h3
      · rcases h.new y h3 with h5 | ⟨⟨z, hz, hr⟩, h6⟩
        · exact Or.inl h5
        · exact Or.inr ⟨⟨z, List.mem_append.2 (Or.inl hz), hr⟩, fun v hv e u hu hm => hs u (h6 v hv e u hu hm)⟩
      · obtain rfl := List.mem_singleton.1 h3
        refine Or.inr ⟨⟨v.id, by simp, hself⟩, fun x hx e u hu hm => ?_⟩;rw [asc_one ha hx hv e] at hu;exact h2.got u hu hm
    · exact Or.inr ⟨⟨v.id, by simp, Rvh.trans (Rvh.up hself hv hz hr.start) hr⟩, h4⟩⟩
theorem Fd.all {L:List VR} {xs l':List Int} (h:Fd L [] xs l') (y:Int):y∈l'↔ ∃x∈xs,Rvh L x y:=by
 constructor
 ·intro hy;rcases h.new y hy with h1 | ⟨h1,_⟩
  ·cases h1
  ·exact h1
 ·rintro⟨x,hx,hr⟩;refine hr.ind (fun y=>y∈l') (h.got x hx hr.start) (fun v u ih hv hu hm=> ?_);rcases h.new v.id ih with h1 | ⟨_,h2⟩
  ·cases h1
  ·exact h2 v hv rfl u hu hm
def outL (S:List Int) (L:List VR):List Int:=(QS L).filter fun y=>decide (y∈S)
theorem outL_mem {S:List Int} {L:List VR} {y:Int}:y∈outL S L↔y∈QS L∧y∈S:=by
 unfold outL;rw [List.mem_filter,decide_eq_true_eq]
theorem outL_len (S:List Int) (L:List VR):(outL S L).length≤L.length:=by
 unfold outL;have:=List.length_filter_le (fun y=>decide (y∈S)) (QS L);unfold QS at this ⊢;rw [List.length_map]at this;exact this
theorem outL_same {S S':List Int} {L:List VR} (h: ∀y,y∈S↔y∈S'):outL S L=outL S' L:=by
 unfold outL;apply List.filter_congr;intro y _;by_cases hy:y∈S
 ·rw [decide_eq_true hy,decide_eq_true ((h y).1 hy)]
 ·rw [decide_eq_false hy,decide_eq_false (fun h9=>hy ((h y).2 h9))]
def IsAb (L:List VR) (a:Int) (ls:List Int):Prop:= ∃S:List Int,(∀y,y∈S↔Rvh L a y)∧ls=outL S L
theorem ab_ex (L:List VR) (a:Int): ∃ls,IsAb L a ls:=by
 classical
 refine⟨_,(QS L).filter (fun y=>decide (Rvh L a y)),fun y=> ?_,rfl⟩;rw [List.mem_filter,decide_eq_true_eq];exact⟨fun h=>h.2,fun h=>⟨h.mem,h⟩⟩
theorem IsAb.mem {L:List VR} {a y:Int} {ls:List Int} (h:IsAb L a ls):y∈ls↔Rvh L a y:=by
 obtain⟨S,hS,rfl⟩:=h;rw [outL_mem,hS];exact⟨fun h=>h.2,fun h=>⟨h.mem,h⟩⟩
theorem IsAb.nil {L:List VR} {a:Int} {ls:List Int} (h:IsAb L a ls) (ha:a∉QS L):ls= []:=by
 refine List.eq_nil_iff_forall_not_mem.2 fun y hy=> ?_;exact ha (h.mem.1 hy).start
theorem IsAb.len {L:List VR} {a:Int} {ls:List Int} (h:IsAb L a ls):ls.length≤L.length:=by
 obtain⟨S,_,rfl⟩:=h;exact outL_len S L
theorem spec_l10Has {A:Option Addr} {n cap:Nat} {l:List Int} (x:Int) (w:World) (h:IntRow w A l) (hL:l.length=n):
  Calls Tryz.prog 77 #[.slice A n cap,.int .i64 x] w fun e w'=>e= .returned (.bool (decide (x∈l)))∧w'=w:=by
 have HR:Hid (IntRow w A l):=h;have HL:Hid (l.length=n):=hL;have hn:=h.1;rw [hL]at hn;unfold maxLen at hn;clear h hL;go_enter Tryz.func77,Tryz.ntmps77
 go_wp2_with fail
 go_loopw [5] (fun i wr=> ∃t:Nat,t≤n∧i= .int .i64 t∧(∀(j:Nat) y,j<t→l[j]? =some y→y≠x)∧wr=w) (fun i _=>n-(intOf i).toNat)
 case atStart=>exact⟨0,Nat.zero_le _,rfl,fun j y hj=>by omega,rfl⟩
 case round=>
  obtain⟨t,ht,rfl,hno,hw⟩:=hrel;have HNO:Hid (∀(j:Nat) y,j<t→l[j]? =some y→y≠x):=hno;subst hw;clear hno;by_cases hlt:t<n
  ·obtain⟨y,hy⟩:=ZD HL.out hlt;have HY:Hid (l[t]? =some y):=hy;obtain⟨b,o,rfl,hl,c0⟩:=Je HR.out hy;clear hy;have q0:(0:Int)≤(t:Int):=by omega
   have q1:(t:Int)<(n:Int):=by omega
   by_cases he:y=x
   ·go_wp2_with fail
    go_ret;exact⟨Qa (decide_eq_true (by rw [←he];exact List.mem_of_getElem? HY.out)).symm,rfl⟩
   ·have he2:(y==x)=false:=by simpa using he
    go_wp2_with fail
    go_roundw
    case rel=>exact⟨t+1,by omega,by go_num,fun j u hj hu=>by
     by_cases e:j=t
     ·subst e;rw [HY.out]at hu;cases hu;exact he
     ·exact HNO.out j u (by omega) hu,by trivial⟩
    case measure=>simp [intOf];omega
  ·have h1: ¬(t:Int)<(n:Int):=by omega
   go_wp2_with fail
   go_ret;refine⟨Qa (decide_eq_false fun hm=> ?_).symm,rfl⟩;obtain⟨j,hj,e⟩:=List.mem_iff_getElem.1 hm;exact HNO.out j _ (by have:=HL.out;omega) (List.getElem?_eq_getElem hj) e
def FindI (L:List VR) (id r:Int):Prop:=(r= -1∧id∉QS L)∨ ∃(k:Nat) (x:VR),r=(k:Int)∧L[k]? =some x∧x.id=id
theorem FindI.at {L:List VR} {id r:Int} (h:FindI L id r) (hm:id∈QS L): ∃(k:Nat) (x:VR),r=(k:Int)∧L[k]? =some x∧x.id=id:=by
 rcases h with⟨_,h⟩ | h
 ·exact absurd hm h
 ·exact h
theorem spec_l10FindX {v:Value} {d:DG} (id:Int) (w:World) (h:DgRow w v d):
  Calls Tryz.prog 43 #[v,.int .i64 id] w fun e w'=> ∃r:Int,e= .returned (.int .i64 r)∧FindI d.vs id r∧Below w.heap.size w w':=by
 obtain⟨A1,n1,c1,A2,n2,c2,rfl⟩:=h.agg;obtain⟨r1,e1,r2,e2⟩:=h.open;have R1:Hid (VrRow w A1 d.vs):=r1;have E1:Hid (d.vs.length=n1):=e1;have hn:=r1.1;rw [e1]at hn;unfold maxLen at hn
 clear h r1 r2 e1 e2;go_enter Tryz.func43,Tryz.ntmps43;go_wp2_with fail
 obtain⟨X,HX⟩: ∃X,Hid (w.alloc (.cells #[.int .i64 d.next,.slice A1 n1 c1,.slice A2 n2 c2] 32)=X):=⟨_,rfl⟩;rw [HX.out];have x1:X.cell? ⟨w.heap.size,1,none⟩=some (.slice A1 n1 c1):=by rw [←HX.out];go_simp
 have zX:w.heap.size<X.heap.size:=by rw [←HX.out];simp
 have hbX:Below w.heap.size w X:=by rw [←HX.out];go_grown
 clear HX;go_loopw [5] (fun i wr=> ∃k:Nat,k≤n1∧i= .int .i64 k∧(∀(t:Nat) x,t<k→d.vs[t]? =some x→x.id≠id)∧Below X.heap.size X wr) (fun i _=>n1-(intOf i).toNat)
 case atStart=>exact⟨0,Nat.zero_le _,rfl,fun t x ht=>by omega,Below.refl _ _⟩
 case round=>
  obtain⟨k,hk,rfl,hall,hbel⟩:=hrel;have HA:Hid (∀(t:Nat) x,t<k→d.vs[t]? =some x→x.id≠id):=hall;have KX:=hd (Qb hbX hbel);have KB:Hid (Below X.heap.size X wr):=hbel;have y1:wr.cell? ⟨w.heap.size,1,none⟩=some (.slice A1 n1 c1):=cy hbel x1;have zw:w.heap.size<wr.heap.size:=Nat.lt_of_lt_of_le zX hbel.size;clear hall hbel
  by_cases hlt:k<n1
  ·obtain⟨x,hx⟩:=ZD E1.out hlt;have HX:Hid (d.vs[k]? =some x):=hx;obtain⟨b,o,u,uc,s,sc,rfl,hl,c0,_,_,_,_⟩:=R1.out.2 k x hx;rw [←KX.out.cell (p:=⟨_,_,none⟩) hl]at c0;have hl2:b<wr.heap.size:=Nat.lt_of_lt_of_le hl KX.out.size;have h0:(0:Int)≤(k:Int):=by omega
   have h1:(k:Int)<(n1:Int):=by omega
   clear hx;by_cases he:x.id=id
   ·go_wp2_with fail
    go_ret;exact⟨_,rfl,Or.inr ⟨k,x,rfl,HX.out,he⟩,KX.out⟩
   ·have he2:(x.id==id)=false:=by simpa using he
    go_wp2_with fail
    go_roundw
    case rel=>exact⟨k+1,by omega,by go_num,fun t y ht hy=>by
     by_cases e:t=k
     ·subst e;rw [HX.out]at hy;cases hy;exact he
     ·exact HA.out t y (by omega) hy,KB.out⟩
    case measure=>simp [intOf];omega
  ·have h1: ¬(k:Int)<(n1:Int):=by omega
   go_wp2_with fail
   go_ret
   exact⟨_,rfl,Or.inl ⟨rfl,fun hm=>by
    obtain⟨x,hx,he⟩:=List.mem_map.1 hm;obtain⟨t,ht,rfl⟩:=List.mem_iff_getElem.1 hx
    exact HA.out t _ (by have:=E1.out;omega) (List.getElem?_eq_getElem ht) he⟩,KX.out⟩
theorem spec_l10FindAt {v:Value} {d:DG} {k:Nat} {x:VR} (w:World) (h:DgRow w v d) (hf:DgFacts d) (hx:d.vs[k]? =some x):
  Calls Tryz.prog 43 #[v,.int .i64 x.id] w fun e w'=>e= .returned (.int .i64 (k:Int))∧Below w.heap.size w w':=by
 refine(spec_l10FindX x.id w h).mono ?_;rintro e w1 ⟨r,rfl,hr,hb⟩;obtain⟨j,y,rfl,hy,e⟩:=hr.at (mem_ids (List.mem_of_getElem? hx));have:=asc_inj hf.asc hy hx e;subst this;exact⟨rfl,hb⟩
section
variable {ops:Array Oper} {rest:List Oper} {o:Oper} {a:Act} {Q:Exit→Act→World→Prop}
theorem wpList_app_int {W:World} (hgd:o.guard=none) (s x:Operand) (ho:o.op= .call {callee:= .builtin .append,args:= #[s,x],argTypes:= #[62,62]}) (B:Nat) (v:Value) (n:Nat) (l:List Int) (hs:a.eval s=v)
  (hown:W.ownsRow B 2 1 v n (l.map (Value.int .i64))) (z:Int) (hx:a.eval x= .slice (some ⟨W.heap.size,0,none⟩) 1 1) (hn:n≤1099511627776) (hB:B≤W.heap.size)
  (h: ∀v' w',w'.ownsRow B 2 1 v' (n+1) ((l++ [z]).map (Value.int .i64))→(W.alloc (.cells #[.int .i64 z] 2)).grownBy w' v.ownBlock→(∀w0,Below B w0 W→Below B w0 w')→wpList Tryz.prog ops Q rest (a.put o.dst v') w'):
  wpList Tryz.prog ops Q (o::rest) a (W.alloc (.cells #[.int .i64 z] 2)):=by
 obtain⟨i0,hi,iz0,iz1,iz2⟩:=info_parts MY;refine wpList_append_own _ hgd _ _ 62 ho B 2 i0 (.int .i64 0) 1 8 Tryz.underlying62 hi iz0 iz1 iz2 rfl (by decide) v n _ hs (hown.alloc _) ⟨W.heap.size,0,none⟩ 1 1 [.int .i64 z] hx rfl ?_ ?_ ?_ ?_ ?_ ?_
 ·intro q u hq;match q,hq with
  | 0,hq=>simp at hq;subst hq;simp [Addr.add]
 ·intro u hu;simp at hu;subst hu;rfl
 ·unfold maxLen;omega
 ·omega
 ·simp;omega
 ·intro v' w3 hown' hgrow _;refine h v' w3 ?_ hgrow (fun w0 hb=>(hb.alloc hB _).grown hgrow (by simp;omega) (fun q hq=>(hown.lt q hq).1));rw [List.map_append];exact hown'
end
theorem own_neT {W:World} {B B':Nat} {e e':TypeId} {s s' n n':Nat} {v v':Value} {xs xs':List Value} (h:W.ownsRow B e s v n xs) (h':W.ownsRow B' e' s' v' n' xs') (hne:e≠e'):v.ownBlock=none∨v.ownBlock≠v'.ownBlock:=by
 rcases h.2 with⟨rfl,_⟩ | ⟨g,cap,cur,rfl,_,hg,_⟩
 ·exact Or.inl rfl
 ·right
  rcases h'.2 with⟨rfl,_⟩ | ⟨g',cap',cur',rfl,_,hg',_⟩
  ·intro e;cases e
  ·intro e9;cases e9
   rw [hg]at hg';cases hg'
   exact hne rfl
def VBox (W:World) (B g:Nat) (i:Int) (u:Option Addr) (n c:Nat) (s:Option Addr) (m k:Nat):Prop:=W.ownsRow B 89 3 (.slice (some ⟨g,0,none⟩) 1 1) 1 [.int .i64 i,.slice u n c,.slice s m k]
theorem VBox.made {W:World} {B:Nat} (hB:B≤W.heap.size):VBox (W.alloc (.cells #[.int .i64 0,.slice none 0 0,.slice none 0 0] 89)) B W.heap.size 0 none 0 0 none 0 0:=World.ownsRow_lit W _ 1 hB (by unfold maxLen;omega) rfl
theorem VBox.madeD {W:World} {B:Nat} (hB:B≤W.heap.size):VBox (W.alloc (.cells #[.int .i64 0,.slice none 0 0,.slice none 0 0] 89)).drew B W.heap.size 0 none 0 0 none 0 0:=VBox.made hB
theorem VBox.lit {W:World} {B:Nat} (hB:B≤W.heap.size) (i:Int) (u:Option Addr) (n c:Nat) (s:Option Addr) (m k:Nat):VBox (W.alloc (.cells #[.int .i64 i,.slice u n c,.slice s m k] 89)) B W.heap.size i u n c s m k:=World.ownsRow_lit W _ 1 hB (by unfold maxLen;omega) rfl
theorem int_ownN {W:World} {B n:Nat} {e:TypeId} {A:Option Addr} {cap:Nat} {l:List Int} (hn:l.length=n) (h:W.ownsRow B e 1 (.slice A n cap) n (l.map (Value.int .i64))):IntRow W A l:=by
 subst hn;exact Xr h
theorem VBox.put {W:World} {B g:Nat} {i:Int} {u:Option Addr} {n c:Nat} {s:Option Addr} {m k:Nat} (h:VBox W B g i u n c s m k) (i':Int) (u':Option Addr) (n' c':Nat) (s':Option Addr) (m' k':Nat):
  VBox (((W.setCell ⟨g,0,none⟩ (.int .i64 i')).setCell ⟨g,1,none⟩ (.slice u' n' c')).setCell ⟨g,2,none⟩ (.slice s' m' k')) B g i' u' n' c' s' m' k':=by
 have:=(MR [.int .i64 i',.slice u' n' c',.slice s' m' k'] W 0 _ h).1;simpa [Ua,Kp,VBox]using this
theorem VBox.below {W W':World} {B g:Nat} {i:Int} {u:Option Addr} {n c:Nat} {s:Option Addr} {m k:Nat} (h:VBox W B g i u n c s m k) (hb:Below W.heap.size W W'):VBox W' B g i u n c s m k:=Ql h hb
theorem VBox.ups {W:World} {B g:Nat} {i:Int} {u:Option Addr} {n c:Nat} {s:Option Addr} {m k:Nat} (h:VBox W B g i u n c s m k):W.cell? ⟨g,1,none⟩=some (.slice u n c)∧g<W.heap.size:=by
 obtain⟨A,cap,e,_,hc⟩:=Qo h;obtain⟨g',e',_,hl,c1,_⟩:=hc 1 (by omega);cases e;cases e'
 exact⟨c1,hl⟩
structure Wk (L:List VR) (a:Int) (S:List Int) (t:Nat):Prop where
 hd:a∈S
 rc: ∀y∈S,Rvh L a y
 cl: ∀(j:Nat) y,j<t→S[j]? =some y→ ∀v∈L,v.id=y→ ∀u∈v.ups,u∈S
structure Wi (L:List VR) (a:Int) (S0:List Int) (x:VR) (k:Nat) (S:List Int):Prop where
 pre: ∃r,S=S0++r
 rc: ∀y∈S,Rvh L a y
 got: ∀(j:Nat) u,j<k→x.ups[j]? =some u→u∈S
theorem Wk.start {L:List VR} {a:Int} (h:a∈QS L):Wk L a [a] 0:=⟨by simp,fun y hy=>by obtain rfl:=List.mem_singleton.1 hy;exact Rvh.self h,fun j y hj=>by omega⟩
theorem Wk.inn {L:List VR} {a:Int} {S:List Int} {t:Nat} {x:VR} (h:Wk L a S t):Wi L a S x 0 S:=⟨⟨[],by simp⟩,h.rc,fun j u hj=>by omega⟩
theorem Wi.old {L:List VR} {a:Int} {S0 S:List Int} {x:VR} {k:Nat} {u:Int} (h:Wi L a S0 x k S) (hu:x.ups[k]? =some u) (hm:u∈S):Wi L a S0 x (k+1) S:=
 ⟨h.pre,h.rc,fun j z hj hz=>by
  by_cases e:j=k
  ·subst e;rw [hu]at hz;cases hz;exact hm
  ·exact h.got j z (by omega) hz⟩
theorem Wi.add {L : List VR} {a : Int} {S0 S : List Int} {x : VR} {k : Nat} {u : Int} (h : Wi L a S0 x k S) (hx : x ∈ L) (hxs : x.id ∈ S) (hu : x.ups[k]? = some u) (hm : u ∈ QS L) : Wi L a S0 x (k + 1) (S ++ [u]) :=
  ⟨by obtain ⟨r, e⟩ := h.pre; exact ⟨r ++ [u], by rw [e, List.append_assoc]⟩, fun y hy => by
    rcases List.mem_append.1 hy with hy | hy
    · exact h.rc y hy
    · obtain rfl := List.mem_singleton.1 hy; exact Rvh.up (h.rc _ hxs) hx (List.mem_of_getElem? hu) hm,
   fun j z hj hz => by
    by_cases e : j = k
    · subst e; rw [hu] at hz; cases hz; simp
    · exact List.mem_append.2 (Or.inl (h.got j z (by omega) hz))⟩
theorem Wi.mem {L:List VR} {a:Int} {S0 S:List Int} {x:VR} {k:Nat} (h:Wi L a S0 x k S) {y:Int} (hy:y∈S0):y∈S:=by
 obtain⟨r,e⟩:=h.pre;rw [e];exact List.mem_append.2 (Or.inl hy)
theorem Wi.len {L:List VR} {a:Int} {S0 S:List Int} {x:VR} {k:Nat} (h:Wi L a S0 x k S):S0.length≤S.length:=by
 obtain⟨r,e⟩:=h.pre;rw [e];simp
theorem Wi.out {L:List VR} {a:Int} {S0 S:List Int} {x:VR} {t:Nat} (ha:YK ltV L=true) (h0:Wk L a S0 t) (hx:x∈L) (hs:S0[t]? =some x.id) (h:Wi L a S0 x x.ups.length S):Wk L a S (t+1):=
 ⟨h.mem h0.hd,h.rc,fun j y hj hy v hv e u hu=>by
  obtain⟨r,e2⟩:=h.pre;have hl:t<S0.length:=(List.getElem?_eq_some_iff.1 hs).1;have hy0:S0[j]? =some y:=by rw [e2,List.getElem?_append_left (by omega)]at hy;exact hy
  by_cases ej:j=t
  ·subst ej;rw [hs]at hy0;have:v=x:=asc_one ha hv hx (by rw [e];exact(Option.some.inj hy0).symm);subst this;obtain⟨i,hi,rfl⟩:=List.mem_iff_getElem.1 hu;exact h.got i _ hi (List.getElem?_eq_getElem hi)
  ·exact h.mem (h0.cl j y (by omega) hy0 v hv e u hu)⟩
theorem Wk.all {L:List VR} {a:Int} {S:List Int} (h:Wk L a S S.length) (y:Int):y∈S↔Rvh L a y:=by
 refine⟨h.rc y,fun hr=> ?_⟩;refine hr.ind (fun y=>y∈S) h.hd (fun v u ih hv hu hm=> ?_);obtain⟨j,hj,e⟩:=List.mem_iff_getElem.1 ih;exact h.cl j v.id hj (by rw [List.getElem?_eq_getElem hj,e]) v hv rfl u hu
theorem outL_eq {L:List VR} {a:Int} {S ls:List Int} (h:Wk L a S S.length) (hl:IsAb L a ls):outL S L=ls:=by
 obtain⟨S',hS,rfl⟩:=hl;exact outL_same (fun y=>by rw [h.all,hS])
theorem outL_take {S:List Int} {L:List VR} {t:Nat} {x:VR} (hx:L[t]? =some x):outL S (L.take (t+1))=outL S (L.take t)++(if x.id∈S then [x.id]else []):=by
 unfold outL;rw [OV hx,List.filter_append];by_cases h:x.id∈S
 ·simp [h]
 ·simp [h]
theorem spec_l10Above {v:Value} {d:DG} {ls:List Int} (a:Int) (w:World) (h:DgRow w v d) (hf:DgFacts d) (ha:a∈QS d.vs) (hab:IsAb d.vs a ls):
  Calls Tryz.prog 76 #[v,.int .i64 a] w fun e w'=> ∃r,e= .returned r∧w'.ownsRow w.heap.size 2 1 r ls.length (ls.map (Value.int .i64))∧Below w.heap.size w w':=by
 obtain⟨A1,n1,c1,A2,n2,c2,rfl⟩:=h.agg;have HD:Hid (DgRow w (.agg #[.int .i64 d.next,.slice A1 n1 c1,.slice A2 n2 c2]) d):=h;obtain⟨r1,e1,r2,e2⟩:=h.open;have R1:Hid (VrRow w A1 d.vs):=r1;have E1:Hid (d.vs.length=n1):=e1;have HF:Hid (DgFacts d):=hf;have HA:Hid (a∈QS d.vs):=ha
 have HAB:Hid (IsAb d.vs a ls):=hab;have hn40:n1≤40:=by rw [←e1];exact hf.nv
 clear h r1 r2 e1 e2 hf ha hab;go_enter Tryz.func76,Tryz.ntmps76;go_wp2_with fail
 obtain⟨X,HX⟩: ∃X,Hid (w.alloc (.cells #[.int .i64 d.next,.slice A1 n1 c1,.slice A2 n2 c2] 32)=X):=⟨_,rfl⟩;rw [HX.out];have x0:X.cell? ⟨w.heap.size,0,none⟩=some (.int .i64 d.next):=by rw [←HX.out];go_simp
 have x1:X.cell? ⟨w.heap.size,1,none⟩=some (.slice A1 n1 c1):=by rw [←HX.out];go_simp
 have x2:X.cell? ⟨w.heap.size,2,none⟩=some (.slice A2 n2 c2):=by rw [←HX.out];go_simp
 have ZX:Hid (X.heap.size=w.heap.size+1):=by rw [←HX.out];simp [Hid]
 have zX:w.heap.size<X.heap.size:=by rw [←HX.out];simp
 have KX:Hid (Below w.heap.size w X):=by rw [←HX.out];show Below _ _ _;go_grown
 clear HX;have HO0:Hid ((X.alloc (.cells #[.int .i64 a] 2)).ownsRow X.heap.size 2 1 (.slice (some ⟨X.heap.size,0,none⟩) 1 1) 1 ([a].map (Value.int .i64))):=World.ownsRow_lit X _ 1 (Nat.le_refl _) (by unfold maxLen;omega) rfl;go_loopw [5,6] (fun q i wr=> ∃(t:Nat) (S:List Int),t≤S.length∧i= .int .i64 t∧Wk d.vs a S t∧S.length+leftN d.vs S≤n1∧wr.ownsRow X.heap.size 2 1 q S.length (S.map (Value.int .i64))∧Below X.heap.size X wr) (fun _ i _=>n1-(intOf i).toNat)
 case atStart=>
  refine⟨0,[a],by simp,rfl,Wk.start HA.out,?_,by rw [←ZX.out];exact HO0.out,by go_grown⟩;have h1:=leftN_add (l:= []) HA.out (by simp);have h2:=leftN_le d.vs [];have h3:=E1.out;simp only [List.nil_append,List.length_singleton]at h1 ⊢;omega
 case round=>
  obtain⟨t,S,ht,rfl,hwk,hcnt,hown,hbel⟩:=hrel;have HWK:Hid (Wk d.vs a S t):=hwk;obtain⟨A5,q5,rfl,_,_⟩:=Qo hown;obtain⟨sn,HSN⟩: ∃sn,Hid (S.length=sn):=⟨_,rfl⟩;obtain⟨sl,HSL⟩: ∃sl,Hid (leftN d.vs S=sl):=⟨_,rfl⟩;rw [HSN.out]at ht hown hcnt;rw [HSL.out]at hcnt
  have HO:Hid (wr.ownsRow X.heap.size 2 1 (.slice A5 sn q5) sn (S.map (Value.int .i64))):=hown;have HB:Hid (Below X.heap.size X wr):=hbel;have zr:X.heap.size≤wr.heap.size:=hbel.size;clear hwk hown;rw [HSN.out];by_cases hlt:t<sn
  ·obtain⟨y,hy⟩:=ZD HSN.out hlt;have HY:Hid (S[t]? =some y):=hy;have HYM:Hid (y∈QS d.vs):=(HWK.out.rc y (List.mem_of_getElem? hy)).mem
   have hIR:IntRow wr A5 S:=by
    have h9:=HO.out;rw [←HSN.out]at h9;exact Xr h9
   have HIR:Hid (IntRow wr A5 S):=hIR;obtain⟨b,o,rfl,hl,cs⟩:=Je hIR hy;have q0:(0:Int)≤(t:Int):=by omega
   have q1:(t:Int)<(sn:Int):=by omega
   obtain⟨x,hxm,rfl⟩:=ids_mem HYM.out;obtain⟨k,hxk⟩:=idx_of hxm;have HXK:Hid (d.vs[k]? =some x):=hxk;have hkn:k<n1:=by have:=(List.getElem?_eq_some_iff.1 hxk).1;have:=E1.out;omega
   obtain⟨vb,vo,u,uc,s,sc,rfl,hvl,c0,c1',c2',ru,_⟩:=R1.out.2 k x hxk;have RU:Hid (IntRow w u x.ups):=ru;have b0:wr.cell? ⟨w.heap.size,0,none⟩=some (.int .i64 d.next):=cy hbel x0;have b1:wr.cell? ⟨w.heap.size,1,none⟩=some (.slice (some ⟨vb,vo,none⟩) n1 c1):=cy hbel x1;have b2:wr.cell? ⟨w.heap.size,2,none⟩=some (.slice A2 n2 c2):=cy hbel x2;have KR:=hd (Qb KX.out hbel);have HDR:=hd (HD.out.below KR.out)
   have hwz:w.heap.size<wr.heap.size:=by omega
   have hvz:vb<wr.heap.size:=by omega
   have k0:(0:Int)≤(k:Int):=by omega
   have k1:(k:Int)<(n1:Int):=by omega
   rw [←KR.out.cell (p:=⟨_,_,none⟩) hvl]at c0 c1' c2';obtain⟨un,HUN⟩: ∃un,Hid (x.ups.length=un):=⟨_,rfl⟩;rw [HUN.out]at c1';have hun:un≤2:=by rw [←HUN.out];exact HF.out.two x hxm
   clear hIR hy hbel ru hxk hxm;go_upto_region 5 with fail
   go_cut [7] (fun p wx=> ∃g:Nat,p= .pointer (some ⟨g,0,none⟩)∧VBox wx X.heap.size g x.id u un uc s x.m sc∧Below wr.heap.size wr wx)
   case first=>
    go_region_held3 (fun w'=>(∀bq oq,bq<wr.heap.size→w'.cell? ⟨bq,oq,none⟩=wr.cell? ⟨bq,oq,none⟩)∧wr.heap.size≤w'.heap.size∧Below wr.heap.size wr w')
     (exact Qj (Nat.le_refl _) (by go_grown))
     (first
     | (go_at_call 43;refine(spec_l10FindAt _ (HDR.out.below (by go_grown)) HF.out HXK.out).mono ?_;rintro e y1 ⟨rfl,hb⟩;have HBB:Hid (Below _ _ y1):=hb;obtain⟨hk1,hz1⟩:=Qe (B:=wr.heap.size) (X:=wr) (by go_grown) (by go_size) hb;obtain⟨hC,hF,hL,hE⟩:=kp hb;(try simp only [World.size_drew]at hC hF hL hE);(try (refine cutLt (x:=wr.heap.size) ?_ hb.size (fun hq=> ?_);(focus (go_size;done))));clear hb))
    all_goals
     go_wp2_with fail
     go_meet
    ·exact⟨_,rfl,VBox.lit (by omega) _ _ _ _ _ _ _,by go_grown⟩
    ·exact⟨_,rfl,VBox.put (VBox.below (VBox.madeD (W:=wr) zr) HBB.out) _ _ _ _ _ _ _,by go_grown⟩
   case rest=>
    obtain⟨g,rfl,hvb,hbx⟩:=hcut;have HVB:Hid (VBox wc X.heap.size g x.id u un uc s x.m sc):=hvb;have HOc:=hd (Ql HO.out hbx);have HBc:Hid (Below X.heap.size X wc):=HB.out.trans (hbx.mono zr);clear hvb hbx c0 c1' c2' b0 b1 b2 HDR KR HIR cs hl hvz hwz HO HB zr;go_wp2_with fail
    go_loopw [5,8] (fun q i wq=> ∃(k':Nat) (S':List Int),k'≤un∧i= .int .i64 k'∧Wi d.vs a S x k' S'∧S'.length+leftN d.vs S'≤n1∧wq.ownsRow X.heap.size 2 1 q S'.length (S'.map (Value.int .i64))∧VBox wq X.heap.size g x.id u un uc s x.m sc∧Below X.heap.size X wq) (fun _ i _=>un-(intOf i).toNat)
    case atStart=>exact⟨0,S,Nat.zero_le _,rfl,HWK.out.inn,by rw [HSN.out,HSL.out];exact hcnt,by rw [HSN.out];exact HOc.out,HVB.out,HBc.out⟩
    case round=>
     clear HVB HOc HBc;obtain⟨k',S',hk',rfl,hwi,hcnt',hown',hvb',hbel'⟩:=hrel;have HWI:Hid (Wi d.vs a S x k' S'):=hwi;obtain⟨A6,q6,rfl,_,_⟩:=Qo hown';obtain⟨tn,HTN⟩: ∃tn,Hid (S'.length=tn):=⟨_,rfl⟩;obtain⟨tl,HTL⟩: ∃tl,Hid (leftN d.vs S'=tl):=⟨_,rfl⟩;rw [HTN.out]at hown' hcnt'
     rw [HTL.out]at hcnt';have HO':Hid (wr.ownsRow X.heap.size 2 1 (.slice A6 tn q6) tn (S'.map (Value.int .i64))):=hown';have HB':Hid (Below X.heap.size X wr):=hbel';have HV':Hid (VBox wr X.heap.size g x.id u un uc s x.m sc):=hvb';have HIR':Hid (IntRow wr A6 S'):=int_ownN HTN.out hown';have zr':X.heap.size≤wr.heap.size:=hbel'.size;obtain⟨cg,hgl⟩:=hvb'.ups
     clear hwi hown' hvb';rw [HTN.out];by_cases hlt':k'<un
     ·obtain⟨z,hz⟩:=ZD HUN.out hlt';have HZ:Hid (x.ups[k']? =some z):=hz;have HZM:Hid (z∈QS d.vs):=HF.out.ups x (List.mem_of_getElem? HXK.out) z (List.mem_of_getElem? hz);obtain⟨ub,uo,rfl,hul,cu⟩:=Je RU.out hz;rw [←(Qb KX.out hbel').cell (p:=⟨_,_,none⟩) hul]at cu;have hul2:ub<wr.heap.size:=by have:=(Qb KX.out hbel').size;omega
      have p0:(0:Int)≤(k':Int):=by omega
      have p1:(k':Int)<(un:Int):=by omega
      clear hz hbel';by_cases hzs:z∈S'
      ·have hdz:decide (z∈S')=true:=decide_eq_true hzs;have HZS:Hid (z∈S'):=hzs;clear hzs;go_wp2_with fail
       refine(spec_l10Has z _ HIR'.out HTN.out).mono ?_;rintro e w1 ⟨rfl,hw⟩;subst w1;rw [hdz];go_wp2_with fail
       go_roundw
       case rel=>exact⟨k'+1,S',by omega,by go_num,HWI.out.old HZ.out HZS.out,by rw [HTN.out,HTL.out];exact hcnt',by rw [HTN.out];exact HO'.out,HV'.out,HB'.out⟩
       case measure=>simp [intOf];omega
      ·have hdz:decide (z∈S')=false:=decide_eq_false hzs;have HZS:Hid (z∉S'):=hzs;clear hzs;have HLA:Hid (leftN d.vs (S'++ [z])+1≤tl):=by rw [←HTL.out];exact leftN_add HZM.out HZS.out
       go_wp2_with fail
       refine(spec_l10Has z _ HIR'.out HTN.out).mono ?_;rintro e w1 ⟨rfl,hw⟩;subst w1;rw [hdz]
       go_wp2_with (first
        | (at_builtin;refine wpList_app_int rfl _ _ rfl X.heap.size _ tn S' rfl HO'.out z rfl (by omega) zr' ?_)
        | go_in)
       intro v' w3 hown3 hg3 hbb
       have HO3:Hid (w3.ownsRow X.heap.size 2 1 v' (S'++ [z]).length ((S'++ [z]).map (Value.int .i64))):=by
        show World.ownsRow _ _ _ _ _ _ _;rw [List.length_append,HTN.out,List.map_append];exact hown3
       have HB3:Hid (Below X.heap.size X w3):=hbb X HB'.out;have HV3:Hid (VBox w3 X.heap.size g x.id (some ⟨ub,uo,none⟩) un uc s x.m sc):=World.ownsRow.kept (World.ownsRow.alloc HV'.out _) hg3 (own_neT HV'.out HO'.out (by decide));clear hown3 hg3 hbb;go_wp2_with fail
       go_roundw
       case rel=>exact⟨k'+1,S'++ [z],by omega,by go_num,HWI.out.add (List.mem_of_getElem? HXK.out) (HWI.out.mem (List.mem_of_getElem? HY.out)) HZ.out HZM.out,by have:=HLA.out;rw [List.length_append,HTN.out];simp;omega,HO3.out,HV3.out,HB3.out⟩
       case measure=>simp [intOf];omega
     ·have h1: ¬(k':Int)<(un:Int):=by omega
      obtain rfl:k'=un:=by omega
      have HWO:Hid (Wk d.vs a S' (t+1)):=Wi.out HF.out.asc HWK.out (List.mem_of_getElem? HXK.out) HY.out (by rw [HUN.out];exact HWI.out);have HTL2:Hid (sn≤tn):=by rw [←HTN.out,←HSN.out];exact HWI.out.len
      clear hbel';go_wp2_with fail
      go_roundw
      case rel=>exact⟨t+1,S',by have:=HTL2.out;rw [HTN.out];omega,by go_num,HWO.out,by rw [HTN.out,HTL.out];exact hcnt',by rw [HTN.out];exact HO'.out,HB'.out⟩
      case measure=>simp [intOf];omega
  ·have h1: ¬(t:Int)<(sn:Int):=by omega
   obtain rfl:t=sn:=by omega
   have HE:Hid (outL S d.vs=ls):=outL_eq (by rw [HSN.out];exact HWK.out) HAB.out;have HIS:Hid (IntRow wr A5 S):=int_ownN HSN.out HO.out;have HBW:=hd (Qb KX.out hbel);have b1:wr.cell? ⟨w.heap.size,1,none⟩=some (.slice A1 n1 c1):=cy hbel x1;have hwz:w.heap.size<wr.heap.size:=by omega
   clear hbel HO HWK;obtain⟨Y,hY⟩: ∃Y,Y=wr:=⟨_,rfl⟩;subst hY;go_wp2_with fail
   go_loopw [9,10] (fun q i wq=> ∃(k:Nat) (C:List Int),k≤n1∧i= .int .i64 k∧outL S (d.vs.take k)=C∧wq.ownsRow Y.heap.size 2 1 q C.length (C.map (Value.int .i64))∧Below Y.heap.size Y wq) (fun _ i _=>n1-(intOf i).toNat)
   case atStart=>exact⟨0,[],Nat.zero_le _,rfl,rfl,Qku (Nat.le_refl _) rfl,by go_grown⟩
   case round=>
    obtain⟨k,C,hk,rfl,hC,hown,hbel⟩:=hrel;have HC:Hid (outL S (d.vs.take k)=C):=hC
    have hCl:C.length≤n1:=by
     rw [←hC];have:=outL_len S (d.vs.take k);have h9:(d.vs.take k).length≤k:=by simp;omega
     omega
    obtain⟨cn,HCN⟩: ∃cn,Hid (C.length=cn):=⟨_,rfl⟩;rw [HCN.out]at hown hCl;obtain⟨A7,q7,rfl,_,_⟩:=Qo hown;have HO:Hid (wr.ownsRow Y.heap.size 2 1 (.slice A7 cn q7) cn (C.map (Value.int .i64))):=hown;have HBY:Hid (Below Y.heap.size Y wr):=hbel;have zr':Y.heap.size≤wr.heap.size:=hbel.size;have d1:wr.cell? ⟨w.heap.size,1,none⟩=some (.slice A1 n1 c1):=cy hbel b1
    clear hC hown;by_cases hlt':k<n1
    ·obtain⟨x,hx⟩:=ZD E1.out hlt';have HX:Hid (d.vs[k]? =some x):=hx;obtain⟨vb,vo,u,uc,s,sc,rfl,hvl,c0,_,_,_,_⟩:=R1.out.2 k x hx;rw [←(Qb HBW.out hbel).cell (p:=⟨_,_,none⟩) hvl]at c0;have hvz:vb<wr.heap.size:=by have:=(Qb HBW.out hbel).size;omega
     have p0:(0:Int)≤(k:Int):=by omega
     have p1:(k:Int)<(n1:Int):=by omega
     clear hx;by_cases hin:x.id∈S
     ·have hdz:decide (x.id∈S)=true:=decide_eq_true hin;have HST:Hid (outL S (d.vs.take (k+1))=C++ [x.id]):=by show _=_;rw [outL_take HX.out,if_pos hin,HC.out]
      clear hin;go_wp2_with fail
      refine(spec_l10Has x.id _ (HIS.out.below hbel) HSN.out).mono ?_;rintro e w1 ⟨rfl,hw⟩;subst w1;rw [hdz];clear hbel
      go_wp2_with (first
       | (at_builtin;refine wpList_app_int rfl _ _ rfl Y.heap.size _ cn C rfl HO.out x.id rfl (by omega) zr' ?_)
       | go_in)
      intro v' w3 hown3 hg3 hbb
      have HO3:Hid (w3.ownsRow Y.heap.size 2 1 v' (C++ [x.id]).length ((C++ [x.id]).map (Value.int .i64))):=by
       show World.ownsRow _ _ _ _ _ _ _;rw [List.length_append,HCN.out,List.map_append];exact hown3
      have HB3:Hid (Below Y.heap.size Y w3):=hbb Y HBY.out;clear hown3 hg3 hbb;go_wp2_with fail
      go_roundw
      case rel=>exact⟨k+1,C++ [x.id],by omega,by go_num,HST.out,HO3.out,HB3.out⟩
      case measure=>simp [intOf];omega
     ·have hdz:decide (x.id∈S)=false:=decide_eq_false hin;have HST:Hid (outL S (d.vs.take (k+1))=C):=by show _=_;rw [outL_take HX.out,if_neg hin,HC.out,List.append_nil]
      clear hin;go_wp2_with fail
      refine(spec_l10Has x.id _ (HIS.out.below hbel) HSN.out).mono ?_;rintro e w1 ⟨rfl,hw⟩;subst w1;rw [hdz];clear hbel;go_wp2_with fail
      go_roundw
      case rel=>exact⟨k+1,C,by omega,by go_num,HST.out,by rw [HCN.out];exact HO.out,HBY.out⟩
      case measure=>simp [intOf];omega
    ·have h2: ¬(k:Int)<(n1:Int):=by omega
     obtain rfl:k=n1:=by omega
     have HCE:Hid (C=ls):=by
      show _=_;rw [←HE.out,←HC.out,←E1.out,List.take_length]
     clear hbel;go_wp2_with fail
     go_ret;refine⟨_,rfl,?_,Qb HBW.out HBY.out⟩;rw [←HCE.out,HCN.out];exact Zc HO.out (by omega)
def VrAg (w0:World) (x:VR) (v:Value):Prop:= ∃u uc s sc,v= .agg #[.int .i64 x.id,.slice u x.ups.length uc,.slice s x.m sc]∧IntRow w0 u x.ups∧ClRow w0 s x.m x.C x.R x.S
def VMapW (L:List VR) (w0 w:World) (b n:Nat) (l:List Int):Prop:= ∃D,w.ownsMap Tryz.prog 2 vmE b n D∧IsMap D∧(∀d,(Lit.int .i64 d).wf=true→Maps.has D (.int .i64 d)=decide (d∈l))∧
 ∀x∈L,x.id∈l→ ∃v,D.atKey (.int .i64 x.id) (.held (.agg #[.int .i64 0,.slice none 0 0,.slice none 0 0]))= .held v∧VrAg w0 x v
theorem VMapW.map {L:List VR} {w0 w:World} {b n:Nat} {l:List Int} (h:VMapW L w0 w b n l):VMap w b n l:=by
 obtain⟨D,h1,h2,h3,_⟩:=h;exact⟨D,h1,h2,h3⟩
theorem VMapW.kept {L:List VR} {w0 w w':World} {b n:Nat} {l:List Int} {row:Option Nat} (h:VMapW L w0 w b n l) (hg:w.grownBy w' row) (hr:some b≠row):VMapW L w0 w' b n l:=by
 obtain⟨D,h1,h2,h3,h4⟩:=h;exact⟨D,h1.kept hg hr,h2,h3,h4⟩
theorem VMapW.below {L:List VR} {w0 w w':World} {b n:Nat} {l:List Int} (h:VMapW L w0 w b n l) (hb:Below w.heap.size w w'):VMapW L w0 w' b n l:=h.kept (row:=none) (Qh8 none hb) (by simp)
theorem VrAg.below {w0 w1:World} {x:VR} {v:Value} (h:VrAg w0 x v) (hb:Below w0.heap.size w0 w1):VrAg w1 x v:=by
 obtain⟨u,uc,s,sc,e,h1,h2⟩:=h;exact⟨u,uc,s,sc,e,h1.below hb,h2.below hb⟩
theorem VMapW.base {L:List VR} {w0 w1 w:World} {b n:Nat} {l:List Int} (h:VMapW L w0 w b n l) (hb:Below w0.heap.size w0 w1):VMapW L w1 w b n l:=by
 obtain⟨D,h1,h2,h3,h4⟩:=h;refine⟨D,h1,h2,h3,fun x hx hl=> ?_⟩;obtain⟨v,e,hv⟩:=h4 x hx hl;exact⟨v,e,hv.below hb⟩
theorem VMapW.put {L:List VR} {w0 w':World} {b n:Nat} {l:List Int} {D:DataW Value} {x:VR} {v:Value} (ha:YK ltV L=true) (hx:x∈L) (hD:IsMap D) (hdq:(Lit.int .i64 x.id).wf=true) (h: ∀e,(Lit.int .i64 e).wf=true→Maps.has D (.int .i64 e)=decide (e∈l))
  (h4: ∀y∈L,y.id∈l→ ∃v,D.atKey (.int .i64 y.id) (.held (.agg #[.int .i64 0,.slice none 0 0,.slice none 0 0]))= .held v∧VrAg w0 y v) (hv:VrAg w0 x v)
  (ho:w'.ownsMap Tryz.prog 2 vmE b n (D.put (.int .i64 x.id) (.held v))):VMapW L w0 w' b n (l++ [x.id]):=by
 refine⟨_,ho,?_,Qdb _ hD hdq h,fun y hy hl=> ?_⟩
 ·obtain⟨es,rfl⟩:=hD;exact⟨_,rfl⟩
 ·by_cases e:y.id=x.id
  ·have:=asc_one ha hy hx e;subst this;exact⟨v,by rw [atKey_put_same hD (Qlu _ hdq)],hv⟩
  ·obtain⟨v',e1,hv'⟩:=h4 y hy (by
    rcases List.mem_append.1 hl with h9 | h9
    ·exact h9
    ·exact absurd (List.mem_singleton.1 h9) e)
   exact⟨v',by rw [atKey_put_other (by intro h9;injection h9 with h8 h7;exact e (by first | exact h7 | exact h7.symm)),e1],hv'⟩
theorem VMapW.look {L:List VR} {w0 w:World} {b n:Nat} {l:List Int} (h:VMapW L w0 w b n l) {x:VR} (hx:x∈L) (hl:x.id∈l) (hdq:(Lit.int .i64 x.id).wf=true):
  ∃v,VrAg w0 x v∧ ∀w',Below w.heap.size w w'∨(∃fb,w.grownBy w' (some fb)∧b≠fb)→(Instr.lookup 108 (.map (some b)) (.int .i64 x.id) false).run Tryz.prog w'= .ok v w':=by
 obtain⟨D,h1,h2,h3,h4⟩:=h;obtain⟨v,e,hv⟩:=h4 x hx hl;refine⟨v,hv,fun w' hw=> ?_⟩
 have ho:w'.ownsMap Tryz.prog 2 vmE b n D:=by
  rcases hw with hw | ⟨fb,hw,hne⟩
  ·exact h1.kept (Qh8 none hw) (by simp)
  ·exact h1.kept hw (by intro e;cases e;exact hne rfl)
 obtain⟨u,ps,hr,hu⟩:=ho.lookup keyedI Tryz.underlying108 (Qiz w') (Bm _ _ _ _ _ _ _) (Qim hdq);rw [e]at hu;obtain⟨d0,u0,n0,c0,s0,m0,k0,rfl,e2⟩:=Qfh hu;simp only [Prod.mk.injEq,DataW.held.injEq]at e2;rw [hr,←e2.1]
theorem impl_versionMapOfW {A:Option Addr} {n cap:Nat} {L:List VR} (w:World) (h:VrRow w A L) (hL:L.length=n) (hw: ∀x∈L,(Lit.int .i64 x.id).wf=true) (ha:YK ltV L=true) (hn:n≤1048576):
  Calls Tryz.prog 71 #[.slice A n cap] w fun e w'=>e= .returned (.map (some w.heap.size))∧VMapW L w w' w.heap.size n (QS L)∧Below w.heap.size w w':=by
 have HR:Hid (VrRow w A L):=h;have HL:Hid (L.length=n):=hL;have HW:Hid (∀x∈L,(Lit.int .i64 x.id).wf=true):=hw;have HAS:Hid (YK ltV L=true):=ha;clear h hL hw ha;have hmm:= @run_makeMap Tryz.prog;go_enter Tryz.func71,Tryz.ntmps71
 go_wp2_with fail
 go_loopw [9] (fun i wr=> ∃k:Nat,k≤n∧i= .int .i64 k∧VMapW L w wr w.heap.size k (QS (L.take k))∧Below w.heap.size w wr) (fun i _=>n-(intOf i).toNat)
 case atStart=>exact⟨0,Nat.zero_le _,rfl,⟨_,World.ownsMap_made _ _ _ _,⟨_,rfl⟩,fun d _=>by simp [QS];rfl,fun x _ hl=>by simp [QS]at hl⟩,by go_grown⟩
 case round=>
  obtain⟨k,hk,rfl,hv,hbel⟩:=hrel;by_cases hlt:k<n
  ·obtain⟨D,ho,hD,hh,hvs⟩:=hv;have HO:Hid (wr.ownsMap Tryz.prog 2 vmE w.heap.size k D):=ho;have HD:Hid (IsMap D):=hD;have HH:Hid (∀d,(Lit.int .i64 d).wf=true→Maps.has D (.int .i64 d)=decide (d∈QS (L.take k))):=hh;have HVS:Hid (∀y∈L,y.id∈QS (L.take k)→ ∃v,D.atKey (.int .i64 y.id) (.held (.agg #[.int .i64 0,.slice none 0 0,.slice none 0 0]))= .held v∧VrAg w y v):=hvs;obtain⟨x,hx⟩:=ZD HL.out hlt;have HX:Hid (L[k]? =some x):=hx
   have HXM:Hid (x∈L):=List.mem_of_getElem? hx;have HXW:Hid ((Lit.int .i64 x.id).wf=true):=HW.out x (List.mem_of_getElem? hx);obtain⟨b,o,u,uc,s,sc,rfl,hl,c0,c1,c2,ru,rs⟩:=HR.out.2 k x hx;have HAG:Hid (VrAg w x (.agg #[.int .i64 x.id,.slice u x.ups.length uc,.slice s x.m sc])):=⟨u,uc,s,sc,rfl,ru,rs⟩;clear ho hD hh hx hvs ru rs;have hs:=hbel.size;rw [←hbel.cell (p:=⟨_,_,none⟩) hl]at c0 c1 c2
   have hl2:b<wr.heap.size:=Nat.lt_of_lt_of_le hl hs;have h0:(0:Int)≤(k:Int):=by omega
   have h1:(k:Int)<(n:Int):=by omega
   go_wp2_with (first
    | (at_mapUpdate;refine wpList_mapUpdate_own _ rfl _ _ _ 108 rfl 2 89 keyedI Tryz.underlying108 vmE w.heap.size k _ rfl (HO.out.alloc _) (by unfold maxLen;omega) _ _ (.int .i64 x.id) rfl rfl (Qim HXW.out) _ [] (Bm _ _ _ _ _ _ _) ?_;intro w1 hown1 hgrow1)
    | go_in)
   have R2:Below w.heap.size w w1:=Below.grown (hbel.alloc hs _) hgrow1 (by simp;omega) (fun j hj=>by cases hj;exact Nat.le_refl _);have HV1:Hid (VMapW L w w1 w.heap.size (k+1) (QS (L.take (k+1)))):=by rw [OV HX.out];exact VMapW.put (w':=w1) HAS.out HXM.out HD.out HXW.out HH.out HVS.out HAG.out hown1
   go_roundw
   case rel=>exact⟨k+1,by omega,by go_num,HV1.out,R2⟩
   case measure=>simp [intOf];omega
  ·have h1: ¬(k:Int)<(n:Int):=by omega
   obtain rfl:k=n:=by omega
   have HV:Hid (VMapW L w wr w.heap.size k (QS L)):=by rw [←HL.out,List.take_length]at hv;rw [←HL.out];exact hv
   clear hv;go_wp2_with fail
   go_ret;exact⟨rfl,HV.out,hbel⟩
theorem vr_ups (i:Int) (u s:Option Addr) (n c m k:Nat) (w:World):(Instr.field 89 (.agg #[.int .i64 i,.slice u n c,.slice s m k]) 1).run Tryz.prog w= .ok (.slice u n c) w:=by kernel_rfl
structure FndI (W0:World) (bv bf bn mb fb:Nat) (w:World):Prop where
 cv:w.cell? ⟨bv,0,none⟩=some (.map (some mb))
 cf:w.cell? ⟨bf,0,none⟩=some (.map (some fb))
 cn:w.cell? ⟨bn,0,none⟩=some (.func (.func 104) #[] #[.pointer (some ⟨bv,0,none⟩),.pointer (some ⟨bf,0,none⟩),.pointer (some ⟨bn,0,none⟩)])
 bl:Below W0.heap.size W0 w
theorem FndI.below {W0:World} {bv bf bn mb fb:Nat} {w w':World} (h:FndI W0 bv bf bn mb fb w) (hb:Below w.heap.size w w'):FndI W0 bv bf bn mb fb w':=
 ⟨cy hb h.cv,cy hb h.cf,cy hb h.cn,h.bl.trans (hb.mono h.bl.size)⟩
theorem cyg {W w':World} {b o fb:Nat} {x:Value} (hg:W.grownBy w' (some fb)) (hne:b≠fb) (c:W.cell? ⟨b,o,none⟩=some x):w'.cell? ⟨b,o,none⟩=some x:=
 (World.cell?_of_block (hg.block b (World.block_lt_of_cell? W ⟨b,o,none⟩ c) (fun e=>hne (Option.some.inj e)))).trans c
theorem FndI.grown {W0:World} {bv bf bn mb fb:Nat} {w w':World} (h:FndI W0 bv bf bn mb fb w) (hg:w.grownBy w' (some fb)) (hv:bv≠fb) (hf:bf≠fb) (hn:bn≠fb) (h0:W0.heap.size≤fb):FndI W0 bv bf bn mb fb w':=
 ⟨cyg hg hv h.cv,cyg hg hf h.cf,cyg hg hn h.cn,h.bl.grown hg h.bl.size (fun j hj=>by cases hj;exact h0)⟩
def FndP (L:List VR) (W0:World) (bv bf bn mb fb:Nat) (l xs:List Int) (w':World):Prop:= ∃z' l',FndI W0 bv bf bn mb fb w'∧VMapW L W0 w' fb z' l'∧leftN L l'≤leftN L l∧z'+leftN L l'≤1000∧Fd L l xs l'
def FindC (L:List VR) (W0:World) (bv bf bn mb fb m:Nat):Prop:=
 ∀(w:World) (u:Option Addr) (xs:List Int) (n c:Nat) (l:List Int) (z:Nat),xs.length=n→IntRow W0 u xs→(∀x∈xs,(Lit.int .i64 x).wf=true)→FndI W0 bv bf bn mb fb w→VMapW L W0 w fb z l→leftN L l≤m→z+leftN L l≤1000→
  Calls Tryz.prog 104 #[.slice u n c,.pointer (some ⟨bv,0,none⟩),.pointer (some ⟨bf,0,none⟩),.pointer (some ⟨bn,0,none⟩)] w fun e w'=>
   e= .returned (.tuple #[])∧FndP L W0 bv bf bn mb fb l xs w'
theorem take_succ_at {xs:List Int} {k:Nat} {x:Int} (hx:xs[k]? =some x):xs.take (k+1)=xs.take k++ [x]:=by rw [List.take_add_one,hx];rfl
theorem find_step {L:List VR} {W0:World} {bv bf bn mb fb m mn:Nat} (ha:YK ltV L=true) (hwf: ∀x∈L,(Lit.int .i64 x.id).wf=true) (hup: ∀x∈L,∀u∈x.ups,(Lit.int .i64 u).wf=true)
  (hM:VMapW L W0 W0 mb mn (QS L)) (hv:bv≠fb) (hf:bf≠fb) (hn:bn≠fb) (h0:W0.heap.size≤fb) (hm0:mb<W0.heap.size) (ih: ∀m',m'<m→FindC L W0 bv bf bn mb fb m'):FindC L W0 bv bf bn mb fb m:=by
 intro w u xs n c l z hL hR hw hI hF hm hz;have HAS:Hid (YK ltV L=true):=ha;have HWF:Hid (∀x∈L,(Lit.int .i64 x.id).wf=true):=hwf;have HUP:Hid (∀x∈L,∀u∈x.ups,(Lit.int .i64 u).wf=true):=hup;have HM:Hid (VMapW L W0 W0 mb mn (QS L)):=hM;have HNE:Hid (bv≠fb∧bf≠fb∧bn≠fb∧W0.heap.size≤fb∧mb<W0.heap.size):=⟨hv,hf,hn,h0,hm0⟩;have IH:Hid (∀m',m'<m→FindC L W0 bv bf bn mb fb m'):=ih
 have HL:Hid (xs.length=n):=hL;have HR:Hid (IntRow W0 u xs):=hR;have HW:Hid (∀x∈xs,(Lit.int .i64 x).wf=true):=hw;have HI:Hid (FndI W0 bv bf bn mb fb w):=hI;have HF:Hid (VMapW L W0 w fb z l):=hF;have HMZ:Hid (leftN L l≤m∧z+leftN L l≤1000):=⟨hm,hz⟩;have hn9:=hR.1
 rw [hL]at hn9;unfold maxLen at hn9;clear ha hwf hup hM hv hf hn h0 hm0 ih hL hR hw hI hF hm hz;go_enter Tryz.func104,Tryz.ntmps104;go_wp2_with fail
 go_loopw [9] (fun i wr=> ∃(k:Nat) (z1:Nat) (l1:List Int),k≤n∧i= .int .i64 k∧FndI W0 bv bf bn mb fb wr∧VMapW L W0 wr fb z1 l1∧leftN L l1≤leftN L l∧z1+leftN L l1≤1000∧Fd L l (xs.take k) l1) (fun i _=>n-(intOf i).toNat)
 case atStart=>exact⟨0,z,l,Nat.zero_le _,rfl,HI.out,HF.out,Nat.le_refl _,HMZ.out.2,Fd.nil _ _⟩
 case round=>
  obtain⟨k,z1,l1,hk,rfl,hI1,hF1,hle,hz1,hfd⟩:=hrel;have I1:Hid (FndI W0 bv bf bn mb fb wr):=hI1;have F1:Hid (VMapW L W0 wr fb z1 l1):=hF1;have LZ:Hid (leftN L l1≤leftN L l∧z1+leftN L l1≤1000):=⟨hle,hz1⟩;have FD:Hid (Fd L l (xs.take k) l1):=hfd;by_cases hlt:k<n
  ·obtain⟨x,hx⟩:=ZD HL.out hlt;have HX:Hid (xs[k]? =some x):=hx;have HXW:Hid ((Lit.int .i64 x).wf=true):=HW.out x (List.mem_of_getElem? hx);obtain⟨b,o,rfl,hl,cs⟩:=Je HR.out hx;have hb0:=hI1.bl;rw [←hb0.cell (p:=⟨_,_,none⟩) hl]at cs;have hl2:b<wr.heap.size:=Nat.lt_of_lt_of_le hl hb0.size
   have q0:(0:Int)≤(k:Int):=by omega
   have q1:(k:Int)<(n:Int):=by omega
   have cv:=hI1.cv;clear hx hI1 hF1 hle hz1 hfd hb0;by_cases hin:x∈QS L
   ·have HIN:Hid (x∈QS L):=hin;have hdi:decide (x∈QS L)=true:=decide_eq_true hin;clear hin;by_cases hfo:x∈l1
    ·have hdf:decide (x∈l1)=true:=decide_eq_true hfo;have HFO:Hid (x∈l1):=hfo;clear hfo;go_wp2_with fail
     refine(Gn x _ (HM.out.map.below I1.out.bl) HXW.out).mono ?_;rintro e w1 ⟨rfl,hb⟩;rw [hdi];have I2:=hd (I1.out.below hb);have F2:=hd (F1.out.below hb);have cf:=I2.out.cf;clear hb
     go_wp2_with fail
     refine(Gn x _ F2.out.map HXW.out).mono ?_;rintro e w2 ⟨rfl,hb⟩;rw [hdf];have I3:=hd (I2.out.below hb);have F3:=hd (F2.out.below hb);clear hb;go_wp2_with fail
     go_roundw
     case rel=>exact⟨k+1,z1,l1,by omega,by go_num,I3.out,F3.out,LZ.out.1,LZ.out.2,by rw [take_succ_at HX.out];exact FD.out.skip (fun _=>HFO.out)⟩
     case measure=>simp [intOf];omega
    ·have hdf:decide (x∈l1)=false:=decide_eq_false hfo;have HFO:Hid (x∉l1):=hfo;clear hfo;obtain⟨y,hym,rfl⟩:=ids_mem HIN.out;have HYM:Hid (y∈L):=hym;obtain⟨v,hag,hlk⟩:=HM.out.look hym HIN.out HXW.out;have HAG:Hid (VrAg W0 y v):=hag
     obtain⟨yu,yuc,ys,ysc,rfl,hyu,_⟩:=hag;have HYU:Hid (IntRow W0 yu y.ups):=hyu;have HLK:Hid (∀w',Below W0.heap.size W0 w'→(Instr.lookup 108 (.map (some mb)) (.int .i64 y.id) false).run Tryz.prog w'= .ok (.agg #[.int .i64 y.id,.slice yu y.ups.length yuc,.slice ys y.m ysc]) w'):=fun w' h=>hlk w' (Or.inl h);obtain⟨yn,HYN⟩: ∃yn,Hid (y.ups.length=yn):=⟨_,rfl⟩;have HLT:Hid (leftN L (l1++ [y.id])+1≤leftN L l1):=leftN_add HIN.out HFO.out;clear hym hyu hlk;go_wp2_with fail
     refine(Gn y.id _ (HM.out.map.below I1.out.bl) HXW.out).mono ?_;rintro e w1 ⟨rfl,hb⟩;rw [hdi];have I2:=hd (I1.out.below hb);have F2:=hd (F1.out.below hb);have cf:=I2.out.cf;clear hb
     go_wp2_with fail
     refine(Gn y.id _ F2.out.map HXW.out).mono ?_;rintro e w2 ⟨rfl,hb⟩;rw [hdf];have I3:=hd (I2.out.below hb);have F3:=hd (F2.out.below hb);have cv2:=I3.out.cv;have cf2:=I3.out.cf
     have lk2:=HLK.out w2 I3.out.bl;rw [HYN.out]at lk2;clear hb;obtain⟨D,ho,hD,hh,hvs⟩:=F3.out;have HO:Hid (w2.ownsMap Tryz.prog 2 vmE fb z1 D):=ho;have HD:Hid (IsMap D):=hD;have HH:Hid (∀d,(Lit.int .i64 d).wf=true→Maps.has D (.int .i64 d)=decide (d∈l1)):=hh
     have HVS:Hid (∀y∈L,y.id∈l1→ ∃v,D.atKey (.int .i64 y.id) (.held (.agg #[.int .i64 0,.slice none 0 0,.slice none 0 0]))= .held v∧VrAg W0 y v):=hvs;have hz9:z1≤1000:=by have:=LZ.out.2;omega
     clear ho hD hh hvs
     go_wp2_with (first
      | (at_mapUpdate;refine wpList_mapUpdate_own _ rfl _ _ _ 108 rfl 2 89 keyedI Tryz.underlying108 vmE fb z1 _ rfl HO.out (by unfold maxLen;omega) _ _ (.int .i64 y.id) rfl rfl (Qim HXW.out) _ [] (Bm _ _ _ _ _ _ _) ?_;intro w3 hown3 hgrow3;have I4:Hid (FndI W0 bv bf bn mb fb w3):=I3.out.grown hgrow3 HNE.out.1 HNE.out.2.1 HNE.out.2.2.1 HNE.out.2.2.2.1;have F4:Hid (VMapW L W0 w3 fb (z1+1) (l1++ [y.id])):=(by rw [←HYN.out]at hown3;exact VMapW.put HAS.out HYM.out HD.out HXW.out HH.out HVS.out HAG.out hown3);have cv3:=I4.out.cv;have cn3:=I4.out.cn;have lk3:=HLK.out w3 I4.out.bl;rw [HYN.out]at lk3;have fl3:=vr_ups y.id yu ys yn yuc y.m ysc w3;clear hown3 hgrow3)
      | fail)
     refine(IH.out (leftN L (l1++ [y.id])) (by have:=HLT.out;have:=LZ.out.1;have:=HMZ.out.1;omega) w3 yu y.ups yn yuc (l1++ [y.id]) (z1+1) HYN.out HYU.out (HUP.out y HYM.out) I4.out F4.out (Nat.le_refl _) (by have:=HLT.out;have:=LZ.out.2;omega)).mono ?_;rintro e w4 ⟨rfl,z4,l4,hI4,hF4,hle4,hz4,hfd4⟩;have HE:Hid (FndI W0 bv bf bn mb fb w4∧VMapW L W0 w4 fb z4 l4∧leftN L l4≤leftN L l∧z4+leftN L l4≤1000∧Fd L l (xs.take (k+1)) l4):=⟨hI4,hF4,by have:=HLT.out;have:=LZ.out.1;omega,hz4,by rw [take_succ_at HX.out];exact Fd.step HAS.out HYM.out FD.out hfd4⟩;clear hI4 hF4 hle4 hz4 hfd4;go_wp2_with fail
     go_roundw
     case rel=>exact⟨k+1,z4,l4,by omega,by go_num,HE.out.1,HE.out.2.1,HE.out.2.2.1,HE.out.2.2.2.1,HE.out.2.2.2.2⟩
     case measure=>simp [intOf];omega
   ·have hdi:decide (x∈QS L)=false:=decide_eq_false hin;have HIN:Hid (x∉QS L):=hin;clear hin;go_wp2_with fail
    refine(Gn x _ (HM.out.map.below I1.out.bl) HXW.out).mono ?_;rintro e w1 ⟨rfl,hb⟩;rw [hdi];have I2:=hd (I1.out.below hb);have F2:=hd (F1.out.below hb);clear hb;go_wp2_with fail
    go_roundw
    case rel=>exact⟨k+1,z1,l1,by omega,by go_num,I2.out,F2.out,LZ.out.1,LZ.out.2,by rw [take_succ_at HX.out];exact FD.out.skip (fun h=>absurd h HIN.out)⟩
    case measure=>simp [intOf];omega
  ·have h1: ¬(k:Int)<(n:Int):=by omega
   obtain rfl:k=n:=by omega
   clear hI1 hF1 hle hz1 hfd;go_wp2_with fail
   go_returns
   refine⟨rfl,z1,l1,I1.out,F1.out,LZ.out.1,LZ.out.2,?_⟩;have:=FD.out;rwa [←HL.out,List.take_length]at this
theorem find_all {L:List VR} {W0:World} {bv bf bn mb fb mn:Nat} (ha:YK ltV L=true) (hwf: ∀x∈L,(Lit.int .i64 x.id).wf=true) (hup: ∀x∈L,∀u∈x.ups,(Lit.int .i64 u).wf=true)
  (hM:VMapW L W0 W0 mb mn (QS L)) (hv:bv≠fb) (hf:bf≠fb) (hn:bn≠fb) (h0:W0.heap.size≤fb) (hm0:mb<W0.heap.size) (m:Nat):FindC L W0 bv bf bn mb fb m:=by
 induction m using Nat.strongRecOn with
 | _ m ih=>exact find_step ha hwf hup hM hv hf hn h0 hm0 ih
def AbvP (L:List VR) (w:World) (xs:List Int) (w':World):Prop:= ∃z l,z≤1000∧VMapW L w w' (w.heap.size+1) z l∧(∀y,y∈l↔ ∃x∈xs,Rvh L x y)∧Below w.heap.size w w'
theorem impl_above {L:List VR} {mb mn:Nat} {u:Option Addr} {xs:List Int} {n c:Nat} (w:World) (ha:YK ltV L=true) (hwf: ∀x∈L,(Lit.int .i64 x.id).wf=true) (hup: ∀x∈L,∀u∈x.ups,(Lit.int .i64 u).wf=true)
  (hM:VMapW L w w mb mn (QS L)) (hm0:mb<w.heap.size) (hR:IntRow w u xs) (hL:xs.length=n) (hw: ∀x∈xs,(Lit.int .i64 x).wf=true) (h40:L.length≤40):
  Calls Tryz.prog 78 #[.map (some mb),.slice u n c] w fun e w'=>e= .returned (.map (some (w.heap.size+1)))∧AbvP L w xs w':=by
 have HAS:Hid (YK ltV L=true):=ha;have HWF:Hid (∀x∈L,(Lit.int .i64 x.id).wf=true):=hwf;have HUP:Hid (∀x∈L,∀u∈x.ups,(Lit.int .i64 u).wf=true):=hup;have HM:Hid (VMapW L w w mb mn (QS L)):=hM;have HM0:Hid (mb<w.heap.size):=hm0;have HR:Hid (IntRow w u xs):=hR;have HL:Hid (xs.length=n):=hL
 have HW:Hid (∀x∈xs,(Lit.int .i64 x).wf=true):=hw;have H40:Hid (L.length≤40):=h40;clear ha hwf hup hM hm0 hR hL hw h40;have hmm:= @run_makeMap Tryz.prog;have hmf: ∀(fn:Fn) (first cap:Array Value) (w:World),(Instr.makeFunc fn first cap).run Tryz.prog w= .ok (.func fn first cap) w:=fun _ _ _ _=>rfl;have hsf: ∀(a:Addr) (fn:Fn) (first cap:Array Value) (w:World),(store a (.func fn first cap)).run Tryz.prog w=stored Tryz.prog w a (.func fn first cap) .plain:=fun a fn first cap w=>run_store Tryz.prog w a _ _ rfl;go_enter Tryz.func78,Tryz.ntmps78
 go_wp2_with fail
 obtain⟨X,HX⟩: ∃X,Hid (((((w.alloc (.cells #[.map (some mb)] 108)).alloc (.map #[] 0)).alloc (.cells #[.map (some (w.heap.size+1))] 108)).alloc (.cells #[.func (.func 104) #[] #[.pointer (some ⟨w.heap.size,0,none⟩),.pointer (some ⟨w.heap.size+1+1,0,none⟩),.pointer (some ⟨w.heap.size+1+1+1,0,none⟩)]] 143))=X):=⟨_,rfl⟩;rw [HX.out];have HB:Hid (Below w.heap.size w X):=by rw [←HX.out];show Below _ _ _;go_grown
 have HI:Hid (FndI w w.heap.size (w.heap.size+1+1) (w.heap.size+1+1+1) mb (w.heap.size+1) X):=by
  refine⟨?_,?_,?_,HB.out⟩
  ·rw [←HX.out];go_simp
  ·rw [←HX.out];go_simp
  ·rw [←HX.out];go_simp
 have HE:Hid (VMapW L w X (w.heap.size+1) 0 []):=by
  rw [←HX.out];refine⟨.map [],by rw [show w.heap.size+1=(w.alloc (.cells #[.map (some mb)] 108)).heap.size by simp];exact((World.ownsMap_made (w.alloc (.cells #[.map (some mb)] 108)) _ _ _).alloc _).alloc _,⟨_,rfl⟩,fun d _=>by simp;rfl,fun x _ hl=>absurd hl (by simp)⟩
 clear HX;refine(find_all HAS.out HWF.out HUP.out HM.out (by omega) (by omega) (by omega) (by omega) HM0.out (leftN L []) X u xs n c [] 0 HL.out HR.out HW.out HI.out HE.out (Nat.le_refl _) (by have h1:=leftN_le L [];have h2:=H40.out;omega)).mono ?_;rintro e w1 ⟨rfl,z1,l1,hI1,hF1,hle,hz1,hfd⟩;have HP:Hid (AbvP L w xs w1):=⟨z1,l1,by omega,hF1,hfd.all,hI1.bl⟩;have cf:=hI1.cf;clear hI1 hF1 hle hz1 hfd HI HE HB;go_wp2_with fail
 go_ret;exact⟨rfl,HP.out⟩
end Go.Proofs.YtkkbgjeilomnmaaGreatDoor
namespace Go.Proofs.YtkkbgjeilomnmaaGreatDoor
open Go.RowKit Go.Maps Go.Sort Go.Shelf
theorem sortsI (m : Nat) : AnyZI.SortsIn Tryz.prog Tryz.sortedI_ren Fence.wide m :=
  ⟨fun blk off cap ss W hH hblk hsz => callsIn_wide.2 (AnyM.slices_Sort_int Tryz.sortI blk off cap ss W hH hblk hsz),
   fun p cap W => callsIn_wide.2 (AnyM.slices_Sort_int_none Tryz.sortI p cap W)⟩
theorem mapsKeysI (mb:Option Nat) (W:World):CallsIn Fence.wide 5 Tryz.prog 132 #[.map mb] W fun e w'=>e= .returned (.func (.func 155) #[] #[.pointer (some ⟨W.heap.size,0,none⟩)])∧w'=W.alloc (.cells #[.map mb] 108):=
 AnyZI.keys_in Tryz.keysI Fence.wide 5 trivial rfl mb W
theorem sortedKeysI {H:Type} (b nn:Nat) (D0:DataW H) (R:Value→Option (DataW H × List MemPlace)) (w:World) (hown:w.ownsMap Tryz.prog 2 R b nn D0) (hmax:Maps.size D0≤maxLen) (hbytes:Maps.size D0*8≤140737488355328):
  CallsIn Fence.wide 5 Tryz.prog 131 #[.func (.func 155) #[] #[.pointer (some ⟨w.heap.size,0,none⟩)]] (w.alloc (.cells #[.map (some b)] 108)) fun e w'=> ∃(v:Value) (ss:List Int),e= .returned v∧ss.Perm (intKeys D0)∧
   w'.ownsRow (w.alloc (.cells #[.map (some b)] 108)).heap.size 2 1 v ss.length ((ss.mergeSort (fun x y=>decide (x≤y))).map encZ)∧(v= .slice none 0 0↔ss= [])∧Below (w.alloc (.cells #[.map (some b)] 108)).heap.size (w.alloc (.cells #[.map (some b)] 108)) w':=by
 have hbl:=hown.lt
 have hseq:SeqGives Fence.wide 2 Tryz.prog 155 #[.pointer (some ⟨w.heap.size,0,none⟩)] encZ (fun ss=>ss.Perm (intKeys D0)) (Maps.size D0) (w.alloc (.cells #[.map (some b)] 108)):=
  AnyZI.keys_gives (ρ:=Tryz.keysI_ren) {Tryz.keysI with} Fence.wide _ trivial rfl (by omega) w.heap.size b nn D0 _ (by simp) (by simp) (by
   obtain⟨es,clock,hb,Ft,hs,hD⟩:=hown
   exact⟨es,clock,(Below.heap_alloc _ _ b hbl).trans hb,Ft,hs,hD⟩)
 exact AnyZI.sorted_in Tryz.sortedI Fence.wide 5 trivial trivial trivial trivial rfl (by omega) (sortsI _) (enters_of Tryz.func154 (by kernel_rfl) rfl) 155 #[.pointer (some ⟨w.heap.size,0,none⟩)] trivial (enters_of Tryz.func155 (by kernel_rfl) rfl) _ _ hmax hbytes _ hseq
theorem sorted_ids {w:World} {b n:Nat} {D:DataW Value} {l ls ss:List Int} (ho:w.ownsMap Tryz.prog 2 vmE b n D) (hh: ∀d,(Lit.int .i64 d).wf=true→Maps.has D (.int .i64 d)=decide (d∈l)) (hw: ∀y∈l,(Lit.int .i64 y).wf=true)
  (hls:ls.Pairwise (· < ·)) (hm: ∀y,y∈ls↔y∈l) (hp:ss.Perm (intKeys D)):ss.mergeSort (fun x y=>decide (x≤y))=ls∧ss.length=ls.length:=by
 have hnd:ls.Nodup:=hls.imp (fun h=>Int.ne_of_lt h)
 have hc:CollectedI D (fun _=>false) ls:=⟨hnd,fun x=>by
  rw [hm];constructor
  ·intro hx;exact⟨by rw [hh x (hw x hx)];exact decide_eq_true hx,rfl⟩
  ·rintro⟨hx,_⟩
   have hwf:(Lit.int .i64 x).wf=true:=by
    refine intKeys_wf ho Tryz.underlying2 x ?_;obtain⟨es,rfl,_⟩:=ho.keysOf;rw [has_eq,List.any_eq_true]at hx;obtain⟨p,hp,hk⟩:=hx;refine List.mem_map.2 ⟨p,hp,?_⟩;obtain⟨p1,p2⟩:=p;cases p1<;>simp_all [Lit.sameKey,Go.intOf]
   rw [hh x hwf]at hx
   exact of_decide_eq_true hx⟩
 have hq:=hc.perm ho keyedI Tryz.underlying2 (fun _=>rfl);have h2:ss.Perm ls:=hp.trans hq.symm;refine⟨?_,h2.length_eq⟩;show ss.mergeSort leI=_;rw [mergeSort_of_perm_i h2];apply List.mergeSort_of_pairwise;exact hls.imp (fun h=>by simpa using Int.le_of_lt h)
theorem impl_ids {b n:Nat} {l ls:List Int} (w:World) (h:VMap w b n l) (hn:n≤1000) (hw: ∀y∈l,(Lit.int .i64 y).wf=true) (hls:ls.Pairwise (· < ·)) (hm: ∀y,y∈ls↔y∈l):
  Calls Tryz.prog 105 #[.map (some b)] w fun e w'=> ∃A c,e= .returned (.slice A ls.length c)∧w'.ownsRow w.heap.size 2 1 (.slice A ls.length c) ls.length (ls.map (Value.int .i64))∧Below w.heap.size w w':=by
 obtain⟨D,ho,hD,hh⟩:=h;have HO:Hid (w.ownsMap Tryz.prog 2 vmE b n D):=ho;have HH:Hid (∀d,(Lit.int .i64 d).wf=true→Maps.has D (.int .i64 d)=decide (d∈l)):=hh;have HW:Hid (∀y∈l,(Lit.int .i64 y).wf=true):=hw;have HLS:Hid (ls.Pairwise (· < ·)):=hls;have HM:Hid (∀y,y∈ls↔y∈l):=hm;have hsz:Maps.size D≤1000:=Nat.le_trans ho.size_le hn
 clear ho hD hh hw hls hm;go_enter Tryz.func105,Tryz.ntmps105
 go_wp2_with (first
  | (go_at_call 132;refine(callsIn_wide.1 (mapsKeysI _ _)).mono ?_;rintro e w' ⟨rfl,rfl⟩)
  | (go_at_call 131;refine(callsIn_wide.1 (sortedKeysI b n D vmE w HO.out (by unfold maxLen;omega) (by omega))).mono ?_;rintro e w1 ⟨v,ss,rfl,hS,hrow,hnil,hb⟩;obtain⟨es,el⟩:=sorted_ids HO.out HH.out HW.out HLS.out HM.out hS;rw [es,el,World.size_alloc]at hrow;have HRW:Hid (w1.ownsRow w.heap.size 2 1 v ls.length (ls.map (Value.int .i64))):=Zc hrow (Nat.le_succ _);have HB1:Hid (Below w.heap.size w w1):=Below.trans (by go_grown) (hb.mono (by simp));obtain⟨vA,vc,rfl,x1,x2⟩:=Qo HRW.out;clear hS hrow hnil hb x1 x2 es el))
 go_ret;exact⟨vA,vc,rfl,HRW.out,HB1.out⟩
def AbvI (d:DG) (id:Int) (ls:List Int):Prop:=(Xb d=true→IsAb d.vs id ls)∧(Xb d=false→ls= [])
theorem AbvI.len {d:DG} {id:Int} {ls:List Int} (h:AbvI d id ls) (hl:DgLil d):ls.length≤1048576:=by
 cases hd:Xb d with
 | false=>rw [h.2 hd];exact Nat.zero_le _
 | true=>exact Nat.le_trans (h.1 hd).len hl.nv
end Go.Proofs.YtkkbgjeilomnmaaGreatDoor
namespace Go.Proofs.YtkkbgjeilomnmaaGreatDoor
open Go.RowKit Go.Maps
def itMk (k:Int) (n:Nat):List Int:=(List.range n).map fun(i:Nat)=>k+(i:Int)
theorem itMk_len (k:Int) (n:Nat):(itMk k n).length=n:=by simp [itMk]
theorem itMk_at (k:Int) {n t:Nat} (h:t<n):(itMk k n)[t]? =some (k+(t:Int)):=by simp [itMk,h]
theorem laws_markInt64S {B n:Nat} {v:Value} {xs:List Value} (k:Int) (w:World) (h:w.ownsRow B 2 1 v n xs) (hn:n≤1048576) (h0:0≤k) (h1:k≤1099511627776000):
  Calls Tryz.prog 67 #[v,.int .i64 k] w fun e w'=>e= .returned (.int .i64 (k+(n:Int)))∧w'.ownsRow B 2 1 v n ((itMk k n).map (Value.int .i64))∧w.grownBy w' v.ownBlock:=by
 have HO:Hid (w.ownsRow B 2 1 v n xs):=h;obtain⟨A,cap,rfl,_,_⟩:=Qo h;clear h;obtain⟨LL,HLL⟩: ∃LL,Hid ((itMk k n).map (Value.int .i64)=LL):=⟨_,rfl⟩;have HLA:Hid (∀t:Nat,t<n→LL[t]? =some (.int .i64 (k+(t:Int)))):=fun t ht=>by rw [←HLL.out,List.getElem?_map,itMk_at k ht];rfl
 have HLN:Hid (LL.length=n):=by show _=_;rw [←HLL.out,List.length_map,itMk_len]
 rw [HLL.out];go_enter Tryz.func67,Tryz.ntmps67;go_wp2_with fail
 go_loopw [1,5] (fun q i wr=> ∃t:Nat,t≤n∧i= .int .i64 t∧q= .int .i64 (k+(t:Int))∧(∃ys,wr.ownsRow B 2 1 (.slice A n cap) n ys∧ ∀j,j<t→ys[j]? =LL[j]?)∧w.grownBy wr (Value.slice A n cap).ownBlock) (fun _ i _=>n-(intOf i).toNat)
 case atStart=>exact⟨0,Nat.zero_le _,rfl,by simp,⟨xs,HO.out,fun j hj=>by omega⟩,World.grownBy.refl _ _⟩
 case round=>
  clear HO;obtain⟨t,ht,rfl,rfl,⟨ys,hown,hys⟩,hgr⟩:=hrel;by_cases hlt:t<n
  ·obtain⟨A',cap',e,_,hc⟩:=Qo hown;cases e
   have hl:=hown.1;obtain⟨g,rfl,_,hg,d0,f0⟩:=hc t (by omega);obtain⟨z,hz⟩: ∃z,ys[t]? =some z:=⟨_,List.getElem?_eq_getElem (by omega)⟩;rw [hz]at d0
   have HT:Hid (∃zs,(wr.setCell ⟨g,t,none⟩ (.int .i64 (k+(t:Int)))).ownsRow B 2 1 (.slice (some ⟨g,0,none⟩) n cap) n zs∧(∀j,j<t+1→zs[j]? =LL[j]?)∧wr.grownBy (wr.setCell ⟨g,t,none⟩ (.int .i64 (k+(t:Int)))) (some g)):=by
    refine⟨_,(hown.stored t (.int .i64 (k+(t:Int)))).1,fun j hj=> ?_,(hown.stored t (.int .i64 (k+(t:Int)))).2⟩;by_cases e:j=t
    ·subst e;rw [List.getElem?_set_self (by omega),HLA.out j hlt]
    ·rw [List.getElem?_set_ne (by omega)];exact hys j (by omega)
   have HG:Hid (w.grownBy wr (some g)):=hgr;clear hgr hown hys hz hc hl;have q0:(0:Int)≤(t:Int):=by omega
   have q1:(t:Int)<(n:Int):=by omega
   go_wp2_with fail
   all_goals
    go_roundw
    case rel=>
     obtain⟨zs,z1,z2,z3⟩:=HT.out;exact⟨t+1,by omega,by simp,by first | rfl | (congr 1;omega),⟨zs,z1,z2⟩,XV HG.out z3⟩
    case measure=>simp [intOf];omega
  ·have h1: ¬(t:Int)<(n:Int):=by omega
   obtain rfl:t=n:=by omega
   have HE:Hid (ys=LL):=Em (n:=t) (by have:=hown.1;omega) HLN.out hys;rw [HE.out]at hown;go_wp2_with fail
   go_ret;exact⟨rfl,hown,hgr⟩
theorem laws_heldInt64S {A:Option Addr} {n cap:Nat} (k:Int) (w:World) (h:IntRow w A (itMk k n)) (hn:n≤1048576) (h0:0≤k) (h1:k≤1099511627776000):
  Calls Tryz.prog 68 #[.slice A n cap,.int .i64 k] w fun e w'=>e= .returned (.int .i64 (k+(n:Int)))∧w'=w:=by
 have HR:Hid (IntRow w A (itMk k n)):=h;clear h;go_enter Tryz.func68,Tryz.ntmps68;go_wp2_with fail
 go_loopw [1,5] (fun q i wr=> ∃t:Nat,t≤n∧i= .int .i64 t∧q= .int .i64 (k+(t:Int))∧wr=w) (fun _ i _=>n-(intOf i).toNat)
 case atStart=>exact⟨0,Nat.zero_le _,rfl,by simp,rfl⟩
 case round=>
  obtain⟨t,ht,rfl,rfl,hw⟩:=hrel;subst hw;by_cases hlt:t<n
  ·obtain⟨b,o,rfl,hl,hc⟩:=HR.out.2 t (by rw [itMk_len];exact hlt);have e0:(itMk k n).getD t 0=k+(t:Int):=by rw [List.getD_eq_getElem?_getD,itMk_at k hlt];rfl
   rw [e0]at hc;clear e0;have q0:(0:Int)≤(t:Int):=by omega
   have q1:(t:Int)<(n:Int):=by omega
   go_wp2_with fail
   go_roundw
   case rel=>exact⟨t+1,by omega,by simp,by first | rfl | (congr 1;omega),by trivial⟩
   case measure=>simp [intOf];omega
  ·have h1: ¬(t:Int)<(n:Int):=by omega
   obtain rfl:t=n:=by omega
   go_wp2_with fail
   go_ret;exact⟨rfl,rfl⟩
end Go.Proofs.YtkkbgjeilomnmaaGreatDoor
namespace Go.Proofs.YtkkbgjeilomnmaaGreatDoor
open Go.RowKit
structure CE where
 c:Int
 r:Int
 s:ByteArray
def ceL (x:CE):List Value:= [.int .i64 x.c,.int .i64 x.r,.string x.s]
theorem ceL_len (x:CE):(ceL x).length=3:=rfl
abbrev CeRow (W:World) (A:Option Addr) (L:List CE):Prop:=RowAt 3 ceL W A L
def ceMk (k:Int):CE:=⟨k,(k+1),mtx (k+1+1)⟩
theorem laws_markCellS {B n:Nat} {v:Value} {xs:List Value} (k0:Int) (w:World) (h:w.ownsRow B 67 3 v n xs) (hn:n≤1048576) (hk0:0<k0) (hk1:k0≤70368744177664):
  Calls Tryz.prog 15 #[v,.int .i64 k0] w fun e w'=>e= .returned (.int .i64 (k0+(n:Int)*3))∧w'.ownsRow B 67 3 v n (Jf ceL (mkL ceMk 3 k0 n))∧w.grownBy w' v.ownBlock:=by
 have HO:Hid (w.ownsRow B 67 3 v n xs):=h;obtain⟨A,cap,rfl,_,_⟩:=Qo h;clear h;obtain⟨LL,HLL⟩: ∃LL,Hid (mkL ceMk 3 k0 n=LL):=⟨_,rfl⟩;rw [HLL.out];go_enter Tryz.func15,Tryz.ntmps15;go_wp2_with fail
 go_loopw [1,5] (fun q i wr=> ∃t:Nat,t≤n∧i= .int .i64 t∧q= .int .i64 (k0+(t:Int)*3)∧(∃ys,wr.ownsRow B 67 3 (.slice A n cap) n ys∧ ∀j,j<t*3→ys[j]? =(Jf ceL LL)[j]?)∧w.grownBy wr (Value.slice A n cap).ownBlock) (fun _ i _=>n-(intOf i).toNat)
 case atStart=>exact⟨0,Nat.zero_le _,rfl,by simp,⟨xs,HO.out,fun j hj=>by omega⟩,World.grownBy.refl _ _⟩
 case round=>
  clear HO;obtain⟨t,ht,rfl,rfl,⟨ys,hown,hys⟩,hgr⟩:=hrel;by_cases hlt:t<n
  ·obtain⟨k,HK⟩: ∃k:Int,Hid (k0+(t:Int)*3=k):=⟨_,rfl⟩;have hp0:0<k:=by have:=HK.out;omega
   have hp1:k≤70378744177664:=by have:=HK.out;omega
   have HX:Hid (∀j,j<3→(Jf ceL LL)[t*3+j]? =(ceL (ceMk k))[j]?):=fun j hj=>by
    rw [←HLL.out,Nb ceL_len j hj,mkL_at _ _ _ _ _ hlt,←HK.out];rfl
   rw [HK.out]
   obtain⟨g,rfl⟩: ∃g,A=some ⟨g,0,none⟩:=by
    obtain⟨A',cap',e,_,hc⟩:=Qo hown;cases e
    obtain⟨g,e,_⟩:=hc (t*3) (by omega);exact⟨g,e⟩
   have HA0:Hid (∃ys,wr.ownsRow B 67 3 (.slice (some ⟨g,0,none⟩) n cap) n ys∧(∀j,j<t*3→ys[j]? =(Jf ceL LL)[j]?)∧w.grownBy wr (some g)):=⟨ys,hown,hys,hgr⟩;clear hown hys hgr;have q0:(0:Int)≤(t:Int):=by omega
   have q1:(t:Int)<(n:Int):=by omega
   obtain⟨ys0,o0,p0,r0⟩:=HA0.out;obtain⟨A',cap',e,_,hc⟩:=Qo o0;cases e
   obtain⟨gg,e0,_,hg0,d0,f0⟩:=hc (t*3) (by omega);cases e0
   clear hc;have hl:=o0.1;obtain⟨x0,y0⟩: ∃x,ys0[t*3]? =some x:=⟨_,List.getElem?_eq_getElem (by omega)⟩;rw [y0]at d0;clear y0 hl
   have HP0:Hid (∃ys,((wr.setCell ⟨g,t*3,none⟩ (.int .i64 (k)))).ownsRow B 67 3 (.slice (some ⟨g,0,none⟩) n cap) n ys∧(∀j,j<t*3+1→ys[j]? =(Jf ceL LL)[j]?)∧w.grownBy ((wr.setCell ⟨g,t*3,none⟩ (.int .i64 (k)))) (some g)):=by
    obtain⟨oq,gq⟩:=o0.stored (t*3) (.int .i64 (k));refine⟨_,oq,fun j hj=> ?_,XV r0 gq⟩;by_cases e:t*3=j
    ·subst e;rw [List.getElem?_set_self (by have:=o0.1;omega)];exact(HX.out 0 (by omega)).symm
    ·rw [List.getElem?_set_ne e];exact p0 j (by omega)
   clear o0 p0 r0;clear HA0;obtain⟨ys1,o1,p1,r1⟩:=HP0.out;obtain⟨A',cap',e,_,hc⟩:=Qo o1;cases e
   obtain⟨gg,e1,_,hg1,d1,f1⟩:=hc (t*3+1) (by omega);cases e1
   clear hc;have hl:=o1.1;obtain⟨x1,y1⟩: ∃x,ys1[t*3+1]? =some x:=⟨_,List.getElem?_eq_getElem (by omega)⟩;rw [y1]at d1;clear y1 hl
   have HP1:Hid (∃ys,(((wr.setCell ⟨g,t*3,none⟩ (.int .i64 (k))).setCell ⟨g,t*3+1,none⟩ (.int .i64 (k+1)))).ownsRow B 67 3 (.slice (some ⟨g,0,none⟩) n cap) n ys∧(∀j,j<t*3+2→ys[j]? =(Jf ceL LL)[j]?)∧w.grownBy (((wr.setCell ⟨g,t*3,none⟩ (.int .i64 (k))).setCell ⟨g,t*3+1,none⟩ (.int .i64 (k+1)))) (some g)):=by
    obtain⟨oq,gq⟩:=o1.stored (t*3+1) (.int .i64 (k+1));refine⟨_,oq,fun j hj=> ?_,XV r1 gq⟩;by_cases e:t*3+1=j
    ·subst e;rw [List.getElem?_set_self (by have:=o1.1;omega)];exact(HX.out 1 (by omega)).symm
    ·rw [List.getElem?_set_ne e];exact p1 j (by omega)
   clear o1 p1 r1;clear HP0;go_wp2_with fail
   refine(Qbo _ _ (by omega) (by omega)).mono ?_;rintro e w2 ⟨rfl,hb⟩
   have HB2:Hid (∃ys,w2.ownsRow B 67 3 (.slice (some ⟨g,0,none⟩) n cap) n ys∧(∀j,j<t*3+2→ys[j]? =(Jf ceL LL)[j]?)∧w.grownBy w2 (some g)):=by
    obtain⟨z,o1,p1,g1⟩:=HP1.out;exact⟨z,Ql o1 hb,p1,XV g1 (Qh8 _ hb)⟩
   clear hb HP1 d0 f0 d1 f1;obtain⟨ys2,o2,p2,r2⟩:=HB2.out;obtain⟨A',cap',e,_,hc⟩:=Qo o2;cases e
   obtain⟨gg,e2,_,hg2,d2,f2⟩:=hc (t*3+2) (by omega);cases e2
   clear hc;have hl:=o2.1;obtain⟨x2,y2⟩: ∃x,ys2[t*3+2]? =some x:=⟨_,List.getElem?_eq_getElem (by omega)⟩;rw [y2]at d2;clear y2 hl
   have HP2:Hid (∃ys,((w2.setCell ⟨g,t*3+2,none⟩ (.string (mtx (k+1+1))))).ownsRow B 67 3 (.slice (some ⟨g,0,none⟩) n cap) n ys∧(∀j,j<t*3+3→ys[j]? =(Jf ceL LL)[j]?)∧w.grownBy ((w2.setCell ⟨g,t*3+2,none⟩ (.string (mtx (k+1+1))))) (some g)):=by
    obtain⟨oq,gq⟩:=o2.stored (t*3+2) (.string (mtx (k+1+1)));refine⟨_,oq,fun j hj=> ?_,XV r2 gq⟩;by_cases e:t*3+2=j
    ·subst e;rw [List.getElem?_set_self (by have:=o2.1;omega)];exact(HX.out 2 (by omega)).symm
    ·rw [List.getElem?_set_ne e];exact p2 j (by omega)
   clear o2 p2 r2;clear HB2;go_wp2_with fail
   all_goals
    go_roundw
    case rel=>
     obtain⟨z,o1,p1,g1⟩:=HP2.out;exact⟨t+1,by omega,by simp,by have:=HK.out;congr 1;omega,⟨z,o1,fun j hj=>p1 j (by omega)⟩,g1⟩
    case measure=>simp [intOf];omega
  ·have h1: ¬(t:Int)<(n:Int):=by omega
   obtain rfl:t=n:=by omega
   go_wp2_with fail
   go_ret;exact⟨rfl,by rw [Qhq ceL_len hown.1 (by rw [←HLL.out];exact Ql6 _ _ _ _) hys]at hown;exact hown,hgr⟩
theorem laws_heldCellS {A:Option Addr} {n cap:Nat} (k0:Int) (w:World) (h:CeRow w A (mkL ceMk 3 k0 n)) (hn:n≤1048576) (hk0:0<k0) (hk1:k0≤70368744177664):
  Calls Tryz.prog 69 #[.slice A n cap,.int .i64 k0] w fun e w'=>e= .returned (.int .i64 (k0+(n:Int)*3))∧Below w.heap.size w w':=by
 have HR:Hid (CeRow w A (mkL ceMk 3 k0 n)):=h;clear h;go_enter Tryz.func69,Tryz.ntmps69;go_wp2_with fail
 go_loopw [1,5] (fun q i wr=> ∃t:Nat,t≤n∧i= .int .i64 t∧q= .int .i64 (k0+(t:Int)*3)∧Below w.heap.size w wr) (fun _ i _=>n-(intOf i).toNat)
 case atStart=>exact⟨0,Nat.zero_le _,rfl,by simp,Below.refl _ _⟩
 case round=>
  obtain⟨t,ht,rfl,rfl,hbel⟩:=hrel;by_cases hlt:t<n
  ·obtain⟨k,HK⟩: ∃k:Int,Hid (k0+(t:Int)*3=k):=⟨_,rfl⟩;have hp0:0<k:=by have:=HK.out;omega
   have hp1:k≤70378744177664:=by have:=HK.out;omega
   have hx:=mkL_at ceMk 3 k0 n t hlt;have hkk:k0+(t:Int)*((3:Nat):Int)=k:=HK.out;rw [hkk]at hx;rw [HK.out];obtain⟨b,o,rfl,hl,hc⟩:=HR.out.2 t _ hx;have HC0:Hid (w.cell? ⟨b,o+t*3,none⟩=some (.int .i64 (k))):=hc 0 _ rfl;have HC1:Hid (w.cell? ⟨b,o+t*3+1,none⟩=some (.int .i64 (k+1))):=hc 1 _ rfl
   have HC2:Hid (w.cell? ⟨b,o+t*3+2,none⟩=some (.string (mtx (k+1+1)))):=hc 2 _ rfl;clear hc hx hkk;have hlw:=hbel.size;have hl2:b<wr.heap.size:=Nat.lt_of_lt_of_le hl hlw;have c0:=HC0.out;rw [←hbel.cell (p:=⟨_,_,none⟩) hl]at c0;have c1:=HC1.out
   rw [←hbel.cell (p:=⟨_,_,none⟩) hl]at c1;have c2:=HC2.out;rw [←hbel.cell (p:=⟨_,_,none⟩) hl]at c2;have q0:(0:Int)≤(t:Int):=by omega
   have q1:(t:Int)<(n:Int):=by omega
   have HB:Hid (Below w.heap.size w wr):=hbel;clear hbel;go_wp2_with fail
   go_region_held3 (fun w'=>(∀bq oq,bq<wr.heap.size→w'.cell? ⟨bq,oq,none⟩=wr.cell? ⟨bq,oq,none⟩)∧wr.heap.size≤w'.heap.size∧Below wr.heap.size wr w')
    (exact Qj (Nat.le_refl _) (by go_grown))
    (first
    | (go_at_call 39;refine(Qbo _ _ (by omega) (by omega)).mono ?_;rintro e v0 ⟨rfl,hb⟩;obtain⟨hk0,hz0⟩:=Qe (B:=wr.heap.size) (X:=wr) (by go_grown) (by go_size) hb;have hW0: ∀b o,b<wr.heap.size→v0.cell? ⟨b,o,none⟩=wr.cell? ⟨b,o,none⟩:=(fun b o h=>hk0.cell (p:=⟨b,o,none⟩) h);clear hb))
   all_goals go_wp2_with fail
   all_goals
    go_roundw
    case rel=>exact⟨t+1,by omega,by simp,by have:=HK.out;congr 1;omega,Qb HB.out (by go_grown)⟩
    case measure=>simp [intOf];omega
  ·have h1: ¬(t:Int)<(n:Int):=by omega
   obtain rfl:t=n:=by omega
   go_wp2_with fail
   go_ret;exact⟨rfl,hbel⟩
def brMk (k:Int):BR:=⟨mtx k,(k+1)⟩
theorem laws_markBranchS {B n:Nat} {v:Value} {xs:List Value} (k0:Int) (w:World) (h:w.ownsRow B 79 2 v n xs) (hn:n≤1048576) (hk0:0<k0) (hk1:k0≤70368744177664):
  Calls Tryz.prog 38 #[v,.int .i64 k0] w fun e w'=>e= .returned (.int .i64 (k0+(n:Int)*2))∧w'.ownsRow B 79 2 v n (Jf brL (mkL brMk 2 k0 n))∧w.grownBy w' v.ownBlock:=by
 have HO:Hid (w.ownsRow B 79 2 v n xs):=h;obtain⟨A,cap,rfl,_,_⟩:=Qo h;clear h;obtain⟨LL,HLL⟩: ∃LL,Hid (mkL brMk 2 k0 n=LL):=⟨_,rfl⟩;rw [HLL.out];go_enter Tryz.func38,Tryz.ntmps38;go_wp2_with fail
 go_loopw [1,5] (fun q i wr=> ∃t:Nat,t≤n∧i= .int .i64 t∧q= .int .i64 (k0+(t:Int)*2)∧(∃ys,wr.ownsRow B 79 2 (.slice A n cap) n ys∧ ∀j,j<t*2→ys[j]? =(Jf brL LL)[j]?)∧w.grownBy wr (Value.slice A n cap).ownBlock) (fun _ i _=>n-(intOf i).toNat)
 case atStart=>exact⟨0,Nat.zero_le _,rfl,by simp,⟨xs,HO.out,fun j hj=>by omega⟩,World.grownBy.refl _ _⟩
 case round=>
  clear HO;obtain⟨t,ht,rfl,rfl,⟨ys,hown,hys⟩,hgr⟩:=hrel;by_cases hlt:t<n
  ·obtain⟨k,HK⟩: ∃k:Int,Hid (k0+(t:Int)*2=k):=⟨_,rfl⟩;have hp0:0<k:=by have:=HK.out;omega
   have hp1:k≤70378744177664:=by have:=HK.out;omega
   have HX:Hid (∀j,j<2→(Jf brL LL)[t*2+j]? =(brL (brMk k))[j]?):=fun j hj=>by
    rw [←HLL.out,Nb Ni j hj,mkL_at _ _ _ _ _ hlt,←HK.out];rfl
   rw [HK.out]
   obtain⟨g,rfl⟩: ∃g,A=some ⟨g,0,none⟩:=by
    obtain⟨A',cap',e,_,hc⟩:=Qo hown;cases e
    obtain⟨g,e,_⟩:=hc (t*2) (by omega);exact⟨g,e⟩
   have HA0:Hid (∃ys,wr.ownsRow B 79 2 (.slice (some ⟨g,0,none⟩) n cap) n ys∧(∀j,j<t*2→ys[j]? =(Jf brL LL)[j]?)∧w.grownBy wr (some g)):=⟨ys,hown,hys,hgr⟩;clear hown hys hgr;have q0:(0:Int)≤(t:Int):=by omega
   have q1:(t:Int)<(n:Int):=by omega
   go_wp2_with fail
   refine(Qbo _ _ (by omega) (by omega)).mono ?_;rintro e w2 ⟨rfl,hb⟩
   have HB0:Hid (∃ys,w2.ownsRow B 79 2 (.slice (some ⟨g,0,none⟩) n cap) n ys∧(∀j,j<t*2→ys[j]? =(Jf brL LL)[j]?)∧w.grownBy w2 (some g)):=by
    obtain⟨z,o1,p1,g1⟩:=HA0.out;exact⟨z,Ql o1 hb,p1,XV g1 (Qh8 _ hb)⟩
   clear hb HA0;obtain⟨ys0,o0,p0,r0⟩:=HB0.out;obtain⟨A',cap',e,_,hc⟩:=Qo o0;cases e
   obtain⟨gg,e0,_,hg0,d0,f0⟩:=hc (t*2) (by omega);cases e0
   clear hc;have hl:=o0.1;obtain⟨x0,y0⟩: ∃x,ys0[t*2]? =some x:=⟨_,List.getElem?_eq_getElem (by omega)⟩;rw [y0]at d0;clear y0 hl
   have HP0:Hid (∃ys,((w2.setCell ⟨g,t*2,none⟩ (.string (mtx (k))))).ownsRow B 79 2 (.slice (some ⟨g,0,none⟩) n cap) n ys∧(∀j,j<t*2+1→ys[j]? =(Jf brL LL)[j]?)∧w.grownBy ((w2.setCell ⟨g,t*2,none⟩ (.string (mtx (k))))) (some g)):=by
    obtain⟨oq,gq⟩:=o0.stored (t*2) (.string (mtx (k)));refine⟨_,oq,fun j hj=> ?_,XV r0 gq⟩;by_cases e:t*2=j
    ·subst e;rw [List.getElem?_set_self (by have:=o0.1;omega)];exact(HX.out 0 (by omega)).symm
    ·rw [List.getElem?_set_ne e];exact p0 j (by omega)
   clear o0 p0 r0;clear HB0;obtain⟨ys1,o1,p1,r1⟩:=HP0.out;obtain⟨A',cap',e,_,hc⟩:=Qo o1;cases e
   obtain⟨gg,e1,_,hg1,d1,f1⟩:=hc (t*2+1) (by omega);cases e1
   clear hc;have hl:=o1.1;obtain⟨x1,y1⟩: ∃x,ys1[t*2+1]? =some x:=⟨_,List.getElem?_eq_getElem (by omega)⟩;rw [y1]at d1;clear y1 hl
   have HP1:Hid (∃ys,(((w2.setCell ⟨g,t*2,none⟩ (.string (mtx (k)))).setCell ⟨g,t*2+1,none⟩ (.int .i64 (k+1)))).ownsRow B 79 2 (.slice (some ⟨g,0,none⟩) n cap) n ys∧(∀j,j<t*2+2→ys[j]? =(Jf brL LL)[j]?)∧w.grownBy (((w2.setCell ⟨g,t*2,none⟩ (.string (mtx (k)))).setCell ⟨g,t*2+1,none⟩ (.int .i64 (k+1)))) (some g)):=by
    obtain⟨oq,gq⟩:=o1.stored (t*2+1) (.int .i64 (k+1));refine⟨_,oq,fun j hj=> ?_,XV r1 gq⟩;by_cases e:t*2+1=j
    ·subst e;rw [List.getElem?_set_self (by have:=o1.1;omega)];exact(HX.out 1 (by omega)).symm
    ·rw [List.getElem?_set_ne e];exact p1 j (by omega)
   clear o1 p1 r1;clear HP0;go_wp2_with fail
   all_goals
    go_roundw
    case rel=>
     obtain⟨z,o1,p1,g1⟩:=HP1.out;exact⟨t+1,by omega,by simp,by have:=HK.out;congr 1;omega,⟨z,o1,fun j hj=>p1 j (by omega)⟩,g1⟩
    case measure=>simp [intOf];omega
  ·have h1: ¬(t:Int)<(n:Int):=by omega
   obtain rfl:t=n:=by omega
   go_wp2_with fail
   go_ret;exact⟨rfl,by rw [Qhq Ni hown.1 (by rw [←HLL.out];exact Ql6 _ _ _ _) hys]at hown;exact hown,hgr⟩
theorem laws_heldBranchS {A:Option Addr} {n cap:Nat} (k0:Int) (w:World) (h:ZT w A (mkL brMk 2 k0 n)) (hn:n≤1048576) (hk0:0<k0) (hk1:k0≤70368744177664):
  Calls Tryz.prog 41 #[.slice A n cap,.int .i64 k0] w fun e w'=>e= .returned (.int .i64 (k0+(n:Int)*2))∧Below w.heap.size w w':=by
 have HR:Hid (ZT w A (mkL brMk 2 k0 n)):=h;clear h;go_enter Tryz.func41,Tryz.ntmps41;go_wp2_with fail
 go_loopw [1,5] (fun q i wr=> ∃t:Nat,t≤n∧i= .int .i64 t∧q= .int .i64 (k0+(t:Int)*2)∧Below w.heap.size w wr) (fun _ i _=>n-(intOf i).toNat)
 case atStart=>exact⟨0,Nat.zero_le _,rfl,by simp,Below.refl _ _⟩
 case round=>
  obtain⟨t,ht,rfl,rfl,hbel⟩:=hrel;by_cases hlt:t<n
  ·obtain⟨k,HK⟩: ∃k:Int,Hid (k0+(t:Int)*2=k):=⟨_,rfl⟩;have hp0:0<k:=by have:=HK.out;omega
   have hp1:k≤70378744177664:=by have:=HK.out;omega
   have hx:=mkL_at brMk 2 k0 n t hlt;have hkk:k0+(t:Int)*((2:Nat):Int)=k:=HK.out;rw [hkk]at hx;rw [HK.out];obtain⟨b,o,rfl,hl,hc⟩:=HR.out.2 t _ hx;have HC0:Hid (w.cell? ⟨b,o+t*2,none⟩=some (.string (mtx (k)))):=hc 0 _ rfl;have HC1:Hid (w.cell? ⟨b,o+t*2+1,none⟩=some (.int .i64 (k+1))):=hc 1 _ rfl
   clear hc hx hkk;have hlw:=hbel.size;have hl2:b<wr.heap.size:=Nat.lt_of_lt_of_le hl hlw;have c0:=HC0.out;rw [←hbel.cell (p:=⟨_,_,none⟩) hl]at c0;have c1:=HC1.out;rw [←hbel.cell (p:=⟨_,_,none⟩) hl]at c1
   have q0:(0:Int)≤(t:Int):=by omega
   have q1:(t:Int)<(n:Int):=by omega
   have HB:Hid (Below w.heap.size w wr):=hbel;clear hbel;go_wp2_with fail
   go_region_held3 (fun w'=>(∀bq oq,bq<wr.heap.size→w'.cell? ⟨bq,oq,none⟩=wr.cell? ⟨bq,oq,none⟩)∧wr.heap.size≤w'.heap.size∧Below wr.heap.size wr w')
    (exact Qj (Nat.le_refl _) (by go_grown))
    (first
    | (go_at_call 39;refine(Qbo _ _ (by omega) (by omega)).mono ?_;rintro e v0 ⟨rfl,hb⟩;obtain⟨hk0,hz0⟩:=Qe (B:=wr.heap.size) (X:=wr) (by go_grown) (by go_size) hb;have hW0: ∀b o,b<wr.heap.size→v0.cell? ⟨b,o,none⟩=wr.cell? ⟨b,o,none⟩:=(fun b o h=>hk0.cell (p:=⟨b,o,none⟩) h);clear hb))
   all_goals go_wp2_with fail
   all_goals
    go_roundw
    case rel=>exact⟨t+1,by omega,by simp,by have:=HK.out;congr 1;omega,Qb HB.out (by go_grown)⟩
    case measure=>simp [intOf];omega
  ·have h1: ¬(t:Int)<(n:Int):=by omega
   obtain rfl:t=n:=by omega
   go_wp2_with fail
   go_ret;exact⟨rfl,hbel⟩
end Go.Proofs.YtkkbgjeilomnmaaGreatDoor
namespace Go.Proofs.YtkkbgjeilomnmaaGreatDoor
open Go.RowKit Go.Maps
def Shp (w w':World):Prop:= ∀(k:Nat) (e:TypeId) (cur:Array Value),w.heap[k]? =some (.cells cur e (0,0))→ ∃cur':Array Value,w'.heap[k]? =some (.cells cur' e (0,0))∧cur'.size=cur.size
theorem Shp.refl (w:World):Shp w w:=fun k e cur h=>⟨cur,h,rfl⟩
theorem Shp.trans {a b c:World} (h:Shp a b) (h':Shp b c):Shp a c:=fun k e cur hk=>by
 obtain⟨c1,h1,e1⟩:=h k e cur hk;obtain⟨c2,h2,e2⟩:=h' k e c1 h1;exact⟨c2,h2,e2.trans e1⟩
theorem heap_lt {w:World} {k:Nat} {o:Obj} (h:w.heap[k]? =some o):k<w.heap.size:=(Array.getElem?_eq_some_iff.1 h).1
theorem Shp.below {w w':World} (hb:Below w.heap.size w w'):Shp w w':=fun k e cur h=>⟨cur,by rw [hb.block k (heap_lt h)];exact h,rfl⟩
theorem Shp.own {w w':World} {B n s:Nat} {e:TypeId} {v:Value} {xs ys:List Value} (h:w.ownsRow B e s v n xs) (h':w'.ownsRow B e s v n ys) (hg:w.grownBy w' v.ownBlock):Shp w w':=fun k e2 cur hk=>by
 by_cases e1:some k=v.ownBlock
 ·rcases h.2 with⟨rfl,_⟩ | ⟨g,cap,c1,rfl,_,hc1,_,_,hs1,_⟩
  ·cases e1
  ·cases e1
   rcases h'.2 with⟨e9,_⟩ | ⟨g',cap',c2,e9,_,hc2,_,_,hs2,_⟩
   ·cases e9
   ·cases e9
    rw [hc1]at hk;cases hk
    exact⟨c2,hc2,hs2.trans hs1.symm⟩
 ·exact⟨cur,by rw [hg.block k (heap_lt hk) e1];exact hk,rfl⟩
def OwnIn (lo hi:Nat) (w:World) (e:TypeId) (s:Nat) (v:Value) (n:Nat):Prop:=(∃xs,w.ownsRow lo e s v n xs)∧ ∀k,v.ownBlock=some k→k<hi
theorem OwnIn.shp {lo hi n s:Nat} {w w':World} {e:TypeId} {v:Value} (h:OwnIn lo hi w e s v n) (hs:Shp w w'):OwnIn lo hi w' e s v n:=by
 obtain⟨⟨xs,h1⟩,h2⟩:=h;refine⟨?_,h2⟩;rcases h1.2 with⟨rfl,rfl⟩ | ⟨g,cap,cur,rfl,hb,hg,h3,h4,h5,_⟩
 ·exact⟨[],⟨by simp,Or.inl ⟨rfl,rfl⟩⟩⟩
 ·obtain⟨c2,hc2,e2⟩:=hs g e cur hg;refine⟨c2.toList.take (n*s),?_,Or.inr ⟨g,cap,c2,rfl,hb,hc2,h3,h4,e2.trans h5,rfl⟩⟩;rw [List.length_take,Array.length_toList,e2,h5];exact Nat.min_eq_left (Nat.mul_le_mul_right _ h3)
structure FrX (lo hi:Nat) (w w':World):Prop where
 os:w'.os=w.os
 tape:w'.tape=w.tape
 output:w'.output=w.output
 size:w.heap.size≤w'.heap.size
 block: ∀k,k<w.heap.size→(k<lo∨hi≤k)→w'.heap[k]? =w.heap[k]?
 shp:Shp w w'
theorem FrX.refl (lo hi:Nat) (w:World):FrX lo hi w w:=⟨rfl,rfl,rfl,Nat.le_refl _,fun _ _ _=>rfl,Shp.refl w⟩
theorem FrX.trans {lo hi:Nat} {a b c:World} (h:FrX lo hi a b) (h':FrX lo hi b c):FrX lo hi a c:=
 ⟨h'.os.trans h.os,h'.tape.trans h.tape,h'.output.trans h.output,Nat.le_trans h.size h'.size,fun k hk ho=>(h'.block k (Nat.lt_of_lt_of_le hk h.size) ho).trans (h.block k hk ho),h.shp.trans h'.shp⟩
theorem FrX.below {lo hi:Nat} {w w':World} (hb:Below w.heap.size w w'):FrX lo hi w w':=⟨hb.os,hb.tape,hb.output,hb.size,fun k hk _=>hb.block k hk,Shp.below hb⟩
theorem FrX.own {lo hi n s:Nat} {w w':World} {e:TypeId} {v:Value} {xs ys:List Value} (h:w.ownsRow lo e s v n xs) (hh: ∀k,v.ownBlock=some k→k<hi) (h':w'.ownsRow lo e s v n ys) (hg:w.grownBy w' v.ownBlock):FrX lo hi w w':=
 ⟨hg.os,hg.tape,hg.output,hg.size,fun k hk ho=>hg.block k hk (fun e=>by
  have h1:=(h.lt k e.symm).1;have h2:=hh k e.symm
  omega),Shp.own h h' hg⟩
def VrIn (lo hi:Nat) (w:World) (ys:List Value) (L:List VR):Prop:=
 ∀(i:Nat) x,L[i]? =some x→ ∃u uc s sc,ys[i*3+1]? =some (.slice u x.ups.length uc)∧ys[i*3+2]? =some (.slice s x.m sc)∧OwnIn lo hi w 2 1 (.slice u x.ups.length uc) x.ups.length∧OwnIn lo hi w 67 3 (.slice s x.m sc) x.m
theorem laws_markVersionS {lo hi n:Nat} {v:Value} {ys:List Value} {L:List VR} (k0:Int) (w:World) (h:w.ownsRow lo 89 3 v n ys) (hh: ∀k,v.ownBlock=some k→k<hi) (hL:L.length=n) (hp:VrIn lo hi w ys L) (hl: ∀x∈L,JS x) (hn:n≤1048576) (h0:0<k0) (h1:k0≤1000):
  Calls Tryz.prog 37 #[v,.int .i64 k0] w fun e w'=> ∃k:Int,e= .returned (.int .i64 k)∧0<k∧k≤8796093022208∧FrX lo hi w w':=by
 have HO:Hid (w.ownsRow lo 89 3 v n ys):=h;have HH:Hid (∀k,v.ownBlock=some k→k<hi):=hh;have HL:Hid (L.length=n):=hL;have HP:Hid (VrIn lo hi w ys L):=hp;have HI:Hid (∀x∈L,JS x):=hl;obtain⟨A,cap,rfl,_,_⟩:=Qo h;clear h hh hL hp hl
 go_enter Tryz.func37,Tryz.ntmps37;go_wp2_with fail
 go_loopw [1,5] (fun q i wr=> ∃(t:Nat) (k:Int) (zs:List Value),t≤n∧i= .int .i64 t∧q= .int .i64 k∧0<k∧k≤1000+(t:Int)*4194305∧wr.ownsRow lo 89 3 (.slice A n cap) n zs∧(∀i,i<n→zs[i*3+1]? =ys[i*3+1]?∧zs[i*3+2]? =ys[i*3+2]?)∧FrX lo hi w wr) (fun _ i _=>n-(intOf i).toNat)
 case atStart=>exact⟨0,k0,ys,Nat.zero_le _,rfl,rfl,h0,by omega,HO.out,fun i hi=>⟨rfl,rfl⟩,FrX.refl _ _ _⟩
 case round=>
  obtain⟨t,k,zs,ht,rfl,rfl,hk0,hk1,hown,hzs,hfr⟩:=hrel;by_cases hlt:t<n
  ·obtain⟨x,hx⟩:=ZD HL.out hlt;have HXL:Hid (JS x):=HI.out x (List.mem_of_getElem? hx);obtain⟨u,uc,s,sc,y1,y2,hu,hs⟩:=HP.out t x hx;have HU:Hid (OwnIn lo hi w 2 1 (.slice u x.ups.length uc) x.ups.length):=hu;have HS:Hid (OwnIn lo hi w 67 3 (.slice s x.m sc) x.m):=hs;obtain⟨un,HUN⟩: ∃un,Hid (x.ups.length=un):=⟨_,rfl⟩;obtain⟨mn,HMN⟩: ∃mn,Hid (x.m=mn):=⟨_,rfl⟩
   have hun:un≤1048576:=by rw [←HUN.out];exact HXL.out.1
   have hmn:mn≤1048576:=by rw [←HMN.out];exact HXL.out.2
   rw [HUN.out]at HU y1;rw [HMN.out]at HS y2;obtain⟨A',cap',e,_,hc⟩:=Qo hown;cases e
   have hl9:=hown.1;obtain⟨g,rfl,_,hg,d0,f0⟩:=hc (t*3) (by omega);obtain⟨z0,hz0⟩: ∃z,zs[t*3]? =some z:=⟨_,List.getElem?_eq_getElem (by omega)⟩;rw [hz0]at d0;have d1:wr.cell? ⟨g,t*3+1,none⟩=some (.slice u un uc):=by rw [hown.cellAt (t*3+1) (by omega),(hzs t hlt).1,y1]
   have HK1:Hid (k≤1000+(t:Int)*4194305):=hk1;have hk2:k≤8796093022208:=by omega
   have HT:Hid (∃zs,(wr.setCell ⟨g,t*3,none⟩ (.int .i64 k)).ownsRow lo 89 3 (.slice (some ⟨g,0,none⟩) n cap) n zs∧(∀i,i<n→zs[i*3+1]? =ys[i*3+1]?∧zs[i*3+2]? =ys[i*3+2]?)∧FrX lo hi w (wr.setCell ⟨g,t*3,none⟩ (.int .i64 k))):=by
    obtain⟨oq,gq⟩:=hown.stored (t*3) (.int .i64 k);refine⟨_,oq,fun i hi=> ?_,hfr.trans (FrX.own hown HH.out oq gq)⟩;rw [List.getElem?_set_ne (by omega),List.getElem?_set_ne (by omega)];exact hzs i hi
   clear hown hzs hfr hc hz0 hx hu hs hl9 hk1;obtain⟨Y,HY⟩: ∃Y,Hid (wr.setCell ⟨g,t*3,none⟩ (.int .i64 k)=Y):=⟨_,rfl⟩;rw [HY.out]at HT;obtain⟨zs1,ho1,hz1,hf1⟩:=HT.out;have O1:Hid (Y.ownsRow lo 89 3 (.slice (some ⟨g,0,none⟩) n cap) n zs1):=ho1;have Z1:Hid (∀i,i<n→zs1[i*3+1]? =ys[i*3+1]?∧zs1[i*3+2]? =ys[i*3+2]?):=hz1;have F1:Hid (FrX lo hi w Y):=hf1
   have q0:(0:Int)≤(t:Int):=by omega
   have q1:(t:Int)<(n:Int):=by omega
   clear ho1 hz1 hf1 HT;go_wp2_with fail
   rw [HY.out];obtain⟨⟨us,hus⟩,huh⟩:=HU.out.shp F1.out.shp;have HUS:Hid (Y.ownsRow lo 2 1 (.slice u un uc) un us):=hus;have HUH:Hid (∀q,(Value.slice u un uc).ownBlock=some q→q<hi):=huh;clear hus huh;refine(laws_markInt64S _ Y HUS.out hun (by omega) (by omega)).mono ?_;rintro e w2 ⟨rfl,ho2,hg2⟩
   have F2:Hid (FrX lo hi w w2):=F1.out.trans (FrX.own HUS.out HUH.out ho2 hg2);have O2:Hid (w2.ownsRow lo 89 3 (.slice (some ⟨g,0,none⟩) n cap) n zs1):=O1.out.kept hg2 (Qkt O1.out HUS.out (by decide));have d2:w2.cell? ⟨g,t*3+2,none⟩=some (.slice s mn sc):=by rw [O2.out.cellAt (t*3+2) (by omega),(Z1.out t hlt).2,y2]
   have hg2':g<w2.heap.size:=(O2.out.lt g rfl).2;clear ho2 hg2 d1 d0 f0 hg;go_wp2_with fail
   obtain⟨⟨ss,hss⟩,hsh⟩:=HS.out.shp F2.out.shp;have HSS:Hid (w2.ownsRow lo 67 3 (.slice s mn sc) mn ss):=hss;have HSH:Hid (∀q,(Value.slice s mn sc).ownBlock=some q→q<hi):=hsh;clear hss hsh;refine(laws_markCellS _ w2 HSS.out hmn (by omega) (by omega)).mono ?_;rintro e w3 ⟨rfl,ho3,hg3⟩;have F3:Hid (FrX lo hi w w3):=F2.out.trans (FrX.own HSS.out HSH.out ho3 hg3)
   have O3:Hid (w3.ownsRow lo 89 3 (.slice (some ⟨g,0,none⟩) n cap) n zs1):=O2.out.kept hg3 (Qkt O2.out HSS.out (by decide));clear ho3 hg3 d2 hg2';go_wp2_with fail
   go_roundw
   case rel=>exact⟨t+1,_,zs1,by omega,by go_num,rfl,by omega,by have:=HK1.out;omega,O3.out,Z1.out,F3.out⟩
   case measure=>simp [intOf];omega
  ·have h1: ¬(t:Int)<(n:Int):=by omega
   go_wp2_with fail
   go_ret;exact⟨k,rfl,hk0,by omega,hfr⟩
theorem FrX.cell {lo hi b o:Nat} {w w':World} {x:Value} (hf:FrX lo hi w w') (hk:b<lo∨hi≤b) (c:w.cell? ⟨b,o,none⟩=some x):w'.cell? ⟨b,o,none⟩=some x:=
 (World.cell?_of_block (hf.block b (World.block_lt_of_cell? w ⟨b,o,none⟩ c) hk)).trans c
theorem FrX.toBelow {lo hi B:Nat} {w w':World} (hf:FrX lo hi w w') (hB:B≤lo) (hw:B≤w.heap.size):Below B w w':=⟨hf.os,hf.tape,hf.output,hf.size,fun k hk=>hf.block k (by omega) (Or.inl (by omega))⟩
theorem FrX.keep {lo hi B n s:Nat} {w w':World} {e:TypeId} {v:Value} {xs:List Value} (hf:FrX lo hi w w') (h:w.ownsRow B e s v n xs) (hk: ∀k,v.ownBlock=some k→k<lo∨hi≤k):w'.ownsRow B e s v n xs:=by
 refine⟨h.1,?_⟩;rcases h.2 with hn | ⟨g,cap,cur,rfl,hb,hg,rest⟩
 ·exact .inl hn
 ·exact .inr ⟨g,cap,cur,rfl,hb,by rw [hf.block g (heap_lt hg) (hk g rfl)];exact hg,rest⟩
theorem ownIn_of {lo B n s:Nat} {W0 w:World} {e:TypeId} {v:Value} {xs:List Value} (h:W0.ownsRow B e s v n xs) (hB:lo≤B) (hb:Below W0.heap.size W0 w):OwnIn lo W0.heap.size w e s v n:=
 ⟨⟨xs,Zc (Ql h hb) hB⟩,fun k hk=>(h.lt k hk).2⟩
theorem laws_markDagK {v:Value} {d:DG} {B:Nat} {W0:World} (w:World) (h:DgOwn W0 B v d) (hb:Below W0.heap.size W0 w) (hl:DgLil d):
  Calls Tryz.prog 14 #[v,.int .i64 1] w fun e w'=> ∃k:Int,e= .returned (.int .i64 k)∧0<k∧k≤70368744177664∧FrX B W0.heap.size w w':=by
 obtain⟨v1,v2,ys,B1,rfl,hB,h1,h2,h3⟩:=h;obtain⟨n1,HN1⟩: ∃n1,Hid (d.vs.length=n1):=⟨_,rfl⟩;obtain⟨n2,HN2⟩: ∃n2,Hid (d.bs.length=n2):=⟨_,rfl⟩;have HZ1:Hid (n1≤1048576):=by rw [←HN1.out];exact hl.nv
 have HZ2:Hid (n2≤1048576):=by rw [←HN2.out];exact hl.nb
 rw [HN1.out]at h1;rw [HN2.out]at h3;have HLL:Hid (∀x∈d.vs,JS x):=hl.v
 have HIN:Hid (∀W,Shp w W→VrIn B W0.heap.size W ys d.vs):=fun W hs i x hx=>by
  obtain⟨u,uc,s,sc,_,y1,y2,k1,k2⟩:=h2 i x (List.getElem?_eq_some_iff.1 hx).1 hx;exact⟨u,uc,s,sc,y1,y2,(ownIn_of k1 (by omega) hb).shp hs,(ownIn_of k2 (by omega) hb).shp hs⟩
 have O1:=hd (Zc (Ql h1 hb) hB);have H1:Hid (∀k,v1.ownBlock=some k→k<W0.heap.size):=fun k hk=>(h1.lt k hk).2;have I3:Hid (OwnIn B W0.heap.size w 79 2 v2 n2):=ownIn_of h3 (Nat.le_refl _) hb;obtain⟨A1,c1,rfl,_,_⟩:=Qo h1;obtain⟨A2,c2,rfl,_,_⟩:=Qo h3;have HWZ:Hid (W0.heap.size≤w.heap.size):=hb.size;clear h1 h2 h3 hl hb hB
 go_enter Tryz.func14,Tryz.ntmps14;go_wp2_with fail
 obtain⟨X,HX⟩: ∃X,Hid (w.alloc (.cells #[.int .i64 d.next,.slice A1 n1 c1,.slice A2 n2 c2] 32)=X):=⟨_,rfl⟩;rw [HX.out];have x2:X.cell? ⟨w.heap.size,2,none⟩=some (.slice A2 n2 c2):=by rw [←HX.out];go_simp
 have zX:w.heap.size<X.heap.size:=by rw [←HX.out];simp
 have KX:Hid (Below w.heap.size w X):=by rw [←HX.out];show Below _ _ _;go_grown
 clear HX;refine(laws_markVersionS 1 X (Ql O1.out KX.out) H1.out HN1.out (HIN.out X (Shp.below KX.out)) HLL.out HZ1.out (by omega) (by omega)).mono ?_;rintro e w1 ⟨k,rfl,hk0,hk1,hf⟩;have F1:Hid (FrX B W0.heap.size w w1):=(FrX.below KX.out).trans hf;replace x2:=hf.cell (Or.inr HWZ.out) x2;replace zX:w.heap.size<w1.heap.size:=Nat.lt_of_lt_of_le zX hf.size;clear hf KX
 obtain⟨⟨bs,hbs⟩,hbh⟩:=I3.out.shp F1.out.shp;have OB:Hid (w1.ownsRow B 79 2 (.slice A2 n2 c2) n2 bs):=hbs;have HBH:Hid (∀q,(Value.slice A2 n2 c2).ownBlock=some q→q<W0.heap.size):=hbh;clear hbs hbh;go_wp2_with fail
 refine(laws_markBranchS k w1 OB.out HZ2.out hk0 (by omega)).mono ?_;rintro e w2 ⟨rfl,ho,hg⟩;have F2:Hid (FrX B W0.heap.size w w2):=F1.out.trans (FrX.own OB.out HBH.out ho hg);clear ho hg;go_wp2_with fail
 go_ret;exact⟨_,rfl,by omega,by have:=HZ2.out;omega,F2.out⟩
end Go.Proofs.YtkkbgjeilomnmaaGreatDoor
namespace Go.Proofs.YtkkbgjeilomnmaaGreatDoor
open Go.RowKit
theorem run_append_nilC {P:Program} {w:World} (base:Nat) (t ty e:TypeId) (i:TypeInfo) (size c:Nat) (ht:P.underlying t=some (.slice e)) (hi:P.info? e=some i)
  (v:Value) (n:Nat) (xs:List Value) (hown:w.ownsRow base e size v n xs):(Builtin.append_ #[t,t] ty #[v,.slice none 0 c]).run P w= .ok v w:=by
 rcases hown.2 with⟨rfl,rfl⟩ | ⟨g,cap,cur,rfl,_,_,hnc,_⟩
 ·simp [Builtin.append_,run_underlying ht,sizeOf,typeInfo,hi,Builtin.lenOf,Builtin.firstCells]
 ·simp [Builtin.append_,run_underlying ht,sizeOf,typeInfo,hi,Builtin.lenOf,Builtin.firstCells,hnc,storeCells]
section
variable {P:Program} {ops:Array Oper} {rest:List Oper} {o:Oper} {a:Act} {Q:Exit→Act→World→Prop}
theorem wpList_append_nilC {w:World} (hgd:o.guard=none) (s x:Operand) (t:TypeId)
  (ho:o.op= .call {callee:= .builtin .append,args:= #[s,x],argTypes:= #[t,t]})
  (base:Nat) (e:TypeId) (i:TypeInfo) (size c:Nat) (ht:P.underlying t=some (.slice e)) (hi:P.info? e=some i)
  (v:Value) (n:Nat) (xs:List Value) (hs:a.eval s=v) (hown:w.ownsRow base e size v n xs) (hx:a.eval x= .slice none 0 c)
  (h:wpList P ops Q rest (a.put o.dst v) w):wpList P ops Q (o::rest) a w:=by
 refine wpList_plain hgd fun K hK=> ?_;have hrun:=run_append_nilC (P:=P) (w:=w) base t o.type e i size c ht hi v n xs hown;unfold Oper.wp;simp [execOp,ho,resolve,invoke,builtin,hs,hx,hrun,Result.andThen];exact hK _ _ h
theorem wpList_copyG {W:World} (t e:TypeId) (i:TypeInfo) (z:Value) (size bytes:Nat) (ht:P.underlying t=some (.slice e)) (hi:P.info? e=some i) (hz:i.zero=some z) (hsize:i.size=size) (hby:i.bytes=bytes) (hzs:z.cells.size=size) (hsz:0<size)
  (hgd:o.guard=none) (s x:Operand) (ho:o.op= .call {callee:= .builtin .append,args:= #[s,x],argTypes:= #[t,t]}) (B:Nat) (hB:B≤W.heap.size) (v:Value) (hs:a.eval s=v) (hown:W.ownsRow B e size v 0 [])
  (A:Option Addr) (n c:Nat) (xs:List Value) (hx:a.eval x= .slice A n c) (hl:xs.length=n*size) (hA:A=none→n=0) (hc: ∀ad,A=some ad→ ∀j u,xs[j]? =some u→W.cell? (ad.add j)=some u) (h1: ∀u∈xs,u.oneCell'=true) (hn:n≤maxLen) (hb:n*bytes≤140737488355328)
  (h: ∀A' c' w',w'.ownsRow B e size (.slice A' n c') n xs→W.grownBy w' v.ownBlock→wpList P ops Q rest (a.put o.dst (.slice A' n c')) w'):wpList P ops Q (o::rest) a W:=by
 cases A with
 | none=>
  have hn0:=hA rfl;subst hn0;have hxs:xs= []:=by cases xs with | nil=>rfl | cons y ys=>simp at hl
  subst hxs;obtain⟨A',cap',rfl,_,_⟩:=Qo hown;exact wpList_append_nilC hgd s x t ho B e i size c ht hi _ 0 [] hs hown hx (h _ _ W hown (World.grownBy.refl _ _))
 | some ad=>
  refine wpList_append_own W hgd s x t ho B e i z size bytes ht hi hz hsize hby hzs hsz v 0 [] hs hown ad n c xs hx hl (hc ad rfl) h1 (by omega) (by rw [Nat.zero_add];exact hb) hB ?_;intro v' w' ho' hg' _;rw [Nat.zero_add,List.nil_append]at ho';obtain⟨A',cap',rfl,_,_⟩:=Qo ho';exact h A' cap' w' ho' hg'
end
theorem cl_cells {W:World} {A:Option Addr} {n:Nat} {C R:Nat→Int} {S:Nat→ByteArray} (h:ClRow W A n C R S): ∀ad,A=some ad→ ∀j u,(clX C R S n)[j]? =some u→W.cell? (ad.add j)=some u:=by
 intro ad hA j u hu;have hj:j<n*3:=by rw [←EB C R S n];exact(List.getElem?_eq_some_iff.1 hu).1
 obtain⟨b,o,e,_,c0,c1,c2,_⟩:=h.2 (j/3) (by omega);rw [hA]at e;cases e
 have e1:j=(j/3)*3+j%3:=by omega
 have hm:j%3<3:=by omega
 rw [e1,KJ C R S n (j/3) (j%3) (by omega) hm]at hu
 have e2:(⟨b,o,none⟩:Addr).add j=⟨b,o+j/3*3+j%3,none⟩:=by
  rw [Go.WideShapes.add_plain];congr 1
  omega
 rw [e2];rcases(show j%3=0∨j%3=1∨j%3=2 by omega)with h9 | h9 | h9
 ·rw [h9]at hu ⊢;cases hu;exact c0
 ·rw [h9]at hu ⊢;cases hu;exact c1
 ·rw [h9]at hu ⊢;cases hu;exact c2
theorem cl_none {W:World} {A:Option Addr} {n:Nat} {C R:Nat→Int} {S:Nat→ByteArray} (h:ClRow W A n C R S) (hA:A=none):n=0:=by
 cases n with
 | zero=>rfl
 | succ m=>obtain⟨b,o,e,_⟩:=h.2 0 (by omega);rw [hA]at e;cases e
theorem clX_one (C R:Nat→Int) (S:Nat→ByteArray) (n:Nat): ∀u∈clX C R S n,u.oneCell'=true:=by
 intro u hu;obtain⟨i,_,hi⟩:=List.mem_flatMap.1 hu;simp only [List.mem_cons,List.not_mem_nil,or_false]at hi;rcases hi with rfl | rfl | rfl<;>rfl
theorem impl_listCopyC {A:Option Addr} {n c:Nat} {C R:Nat→Int} {S:Nat→ByteArray} (w:World) (h:ClRow w A n C R S) (hn:n≤1048576):
  Calls Tryz.prog 95 #[.slice A n c] w fun e w'=> ∃A' c',e= .returned (.slice A' n c')∧w'.ownsRow w.heap.size 67 3 (.slice A' n c') n (clX C R S n)∧Below w.heap.size w w':=by
 have HR:Hid (ClRow w A n C R S):=h;obtain⟨i0,hi,iz0,iz1,iz2⟩:=info_parts Qj3;clear h;go_enter Tryz.func95,Tryz.ntmps95
 go_wp2_with (first
  | (at_builtin;refine wpList_copyG 36 67 i0 (.agg #[.int .i64 0,.int .i64 0,.string ⟨#[]⟩]) 3 32 Tryz.underlying36 hi iz0 iz1 iz2 rfl (by decide) rfl _ _ rfl w.heap.size (Nat.le_refl _) _ rfl (World.ownsRow_nil _ _ _ _) A n c (clX C R S n) rfl (EB C R S n) (cl_none HR.out) (cl_cells HR.out) (clX_one C R S n) HR.out.1 (by omega) ?_)
  | fail)
 intro A' c' w' ho hg;have HO:Hid (w'.ownsRow w.heap.size 67 3 (.slice A' n c') n (clX C R S n)):=ho;have HB:Hid (Below w.heap.size w w'):=(Below.refl _ _).grown hg (Nat.le_refl _) (fun j hj=>by cases hj);clear ho hg;go_wp2_with fail
 go_ret;exact⟨A',c',rfl,HO.out,HB.out⟩
end Go.Proofs.YtkkbgjeilomnmaaGreatDoor
namespace Go.Proofs.YtkkbgjeilomnmaaGreatDoor
open Go.RowKit Go.Maps
def blkAt (ys:List Value) (a:Nat):Option Nat:=match ys[a]? with | some v=>v.ownBlock | none=>none
def sepAt (ys:List Value) (a b:Nat):Prop:=blkAt ys a=none∨blkAt ys a≠blkAt ys b
def VrApt (ys:List Value) (n:Nat):Prop:= ∀i j,i<n→j<n→i≠j→sepAt ys (i*3+1) (j*3+1)∧sepAt ys (i*3+2) (j*3+2)
theorem blkAt_some {ys:List Value} {a:Nat} {v:Value} (h:ys[a]? =some v):blkAt ys a=v.ownBlock:=by rw [blkAt,h]
theorem VrApt.same {ys zs:List Value} {n:Nat} (h:VrApt ys n) (he: ∀i,i<n→zs[i*3+1]? =ys[i*3+1]?∧zs[i*3+2]? =ys[i*3+2]?):VrApt zs n:=fun i j hi hj hij=>by
 have h1:=h i j hi hj hij;unfold sepAt blkAt at h1 ⊢;rw [(he i hi).1,(he i hi).2,(he j hj).1,(he j hj).2];exact h1
def VrLt (ys:List Value) (n hi:Nat):Prop:= ∀i,i<n→(∀q,blkAt ys (i*3+1)=some q→q<hi)∧ ∀q,blkAt ys (i*3+2)=some q→q<hi
theorem VrLt.same {ys zs:List Value} {n hi:Nat} (h:VrLt ys n hi) (he: ∀i,i<n→zs[i*3+1]? =ys[i*3+1]?∧zs[i*3+2]? =ys[i*3+2]?):VrLt zs n hi:=fun i hi=>by
 have h1:=h i hi;unfold blkAt at h1 ⊢;rw [(he i hi).1,(he i hi).2];exact h1
theorem VrPart.ltB {W:World} {B n:Nat} {ys:List Value} {L:List VR} (h:VrPart W B ys L n) (hL:L.length=n):VrLt ys n W.heap.size:=fun i hi=>by
 obtain⟨x,hx⟩:=ZD hL hi;obtain⟨u,uc,s,sc,_,y1,y2,k1,k2⟩:=h i x hi hx;rw [blkAt_some y1,blkAt_some y2];exact⟨fun q hq=>(k1.lt q hq).2,fun q hq=>(k2.lt q hq).2⟩
def DgO (W:World) (B:Nat) (v:Value) (d:DG):Prop:= ∃v1 v2 ys,v= .agg #[.int .i64 d.next,v1,v2]∧W.ownsRow B 89 3 v1 d.vs.length ys∧VrPart W B ys d.vs d.vs.length∧VrApt ys d.vs.length∧W.ownsRow B 79 2 v2 d.bs.length (Jf brL d.bs)
theorem DgO.row {W:World} {B:Nat} {v:Value} {d:DG} (h:DgO W B v d) (hx:DgOk d):DgRow W v d:=by
 obtain⟨v1,v2,ys,rfl,h1,h2,_,h3⟩:=h;obtain⟨A1,c1,rfl,_,_⟩:=Qo h1;obtain⟨A2,c2,rfl,_,_⟩:=Qo h3;exact⟨A1,c1,A2,c2,rfl,EO h1 rfl h2 hx.v,RowAt.of_own Ni h3 rfl⟩
theorem DgO.below {W W':World} {B:Nat} {v:Value} {d:DG} (h:DgO W B v d) (hb:Below W.heap.size W W'):DgO W' B v d:=by
 obtain⟨v1,v2,ys,rfl,h1,h2,h4,h3⟩:=h;exact⟨v1,v2,ys,rfl,Ql h1 hb,h2.below hb,h4,Ql h3 hb⟩
theorem DgO.mono {W:World} {B B':Nat} {v:Value} {d:DG} (h:DgO W B v d) (hB:B'≤B):DgO W B' v d:=by
 obtain⟨v1,v2,ys,rfl,h1,h2,h4,h3⟩:=h;refine⟨v1,v2,ys,rfl,Zc h1 hB,fun i x hi hx=> ?_,h4,Zc h3 hB⟩;obtain⟨u,uc,s,sc,y0,y1,y2,k1,k2⟩:=h2 i x hi hx;exact⟨u,uc,s,sc,y0,y1,y2,Zc k1 hB,Zc k2 hB⟩
theorem DgO.frx {W W':World} {lo hi B:Nat} {v:Value} {d:DG} (h:DgO W B v d) (hf:FrX lo hi W W') (hB:hi≤B):DgO W' B v d:=by
 obtain⟨v1,v2,ys,rfl,h1,h2,h4,h3⟩:=h;refine⟨v1,v2,ys,rfl,hf.keep h1 (fun k hk=>Or.inr (Nat.le_trans hB (h1.lt k hk).1)),fun i x hi hx=> ?_,h4,hf.keep h3 (fun k hk=>Or.inr (Nat.le_trans hB (h3.lt k hk).1))⟩;obtain⟨u,uc,s,sc,y0,y1,y2,k1,k2⟩:=h2 i x hi hx;exact⟨u,uc,s,sc,y0,y1,y2,hf.keep k1 (fun k hk=>Or.inr (Nat.le_trans hB (k1.lt k hk).1)),hf.keep k2 (fun k hk=>Or.inr (Nat.le_trans hB (k2.lt k hk).1))⟩
def kvN (L:List VR) (k0:Int):Nat→Int
 | 0=>k0
 | i+1=>kvN L k0 i+(match L[i]? with | some x=>1+(x.ups.length:Int)+(x.m:Int)*3 | none=>0)
theorem kvN_succ {L:List VR} {k0:Int} {i:Nat} {x:VR} (hx:L[i]? =some x):kvN L k0 (i+1)=kvN L k0 i+1+(x.ups.length:Int)+(x.m:Int)*3:=by
 rw [kvN,hx];show _+(1+(x.ups.length:Int)+(x.m:Int)*3)=_;omega
theorem kvN_bd {L:List VR} {k0:Int} (hl: ∀x∈L,JS x): ∀i:Nat,k0≤kvN L k0 i∧kvN L k0 i≤k0+(i:Int)*4194305
 | 0=>by simp [kvN]
 | i+1=>by
  have ih:=kvN_bd (k0:=k0) hl i;rw [kvN];cases hx:L[i]? with
  | none=>simp only;omega
  | some x=>
   have h1:=hl x (List.mem_of_getElem? hx);have h2:=h1.1;have h3:=h1.2;simp only;omega
def VrMk (W:World) (B:Nat) (zs:List Value) (L:List VR) (k0:Int) (a b c:Nat):Prop:=
 ∀(i:Nat) x,L[i]? =some x→(i<a→zs[i*3]? =some (.int .i64 (kvN L k0 i)))∧ ∃u uc s sc,zs[i*3+1]? =some (.slice u x.ups.length uc)∧zs[i*3+2]? =some (.slice s x.m sc)∧
  (∃us,W.ownsRow B 2 1 (.slice u x.ups.length uc) x.ups.length us∧(i<b→us=(itMk (kvN L k0 i+1) x.ups.length).map (Value.int .i64)))∧
  (∃ss,W.ownsRow B 67 3 (.slice s x.m sc) x.m ss∧(i<c→ss=Jf ceL (mkL ceMk 3 (kvN L k0 i+1+(x.ups.length:Int)) x.m)))
theorem VrMk.start {W:World} {B:Nat} {ys:List Value} {L:List VR} {k0:Int} (h:VrPart W B ys L L.length):VrMk W B ys L k0 0 0 0:=fun i x hx=>by
 obtain⟨u,uc,s,sc,y0,y1,y2,k1,k2⟩:=h i x (List.getElem?_eq_some_iff.1 hx).1 hx;exact⟨fun h=>by omega,u,uc,s,sc,y1,y2,⟨_,k1,fun h=>by omega⟩,⟨_,k2,fun h=>by omega⟩⟩
theorem VrMk.below {W W':World} {B:Nat} {zs:List Value} {L:List VR} {k0:Int} {a b c:Nat} (h:VrMk W B zs L k0 a b c) (hb:Below W.heap.size W W'):VrMk W' B zs L k0 a b c:=fun i x hx=>by
 obtain⟨h0,u,uc,s,sc,y1,y2,⟨us,h1,e1⟩,⟨ss,h2,e2⟩⟩:=h i x hx;exact⟨h0,u,uc,s,sc,y1,y2,⟨us,Ql h1 hb,e1⟩,⟨ss,Ql h2 hb,e2⟩⟩
theorem VrMk.setId {W:World} {B g n cap t:Nat} {zs:List Value} {L:List VR} {k0:Int} {b c:Nat} (h:VrMk W B zs L k0 t b c) (ho:W.ownsRow B 89 3 (.slice (some ⟨g,0,none⟩) n cap) n zs) (hL:L.length=n) (ht:t<n):
  VrMk (W.setCell ⟨g,t*3,none⟩ (.int .i64 (kvN L k0 t))) B (zs.set (t*3) (.int .i64 (kvN L k0 t))) L k0 (t+1) b c:=fun i x hx=>by
 obtain⟨oq,gq⟩:=ho.stored (t*3) (.int .i64 (kvN L k0 t));have hl:=ho.1;obtain⟨h0,u,uc,s,sc,y1,y2,⟨us,h1,e1⟩,⟨ss,h2,e2⟩⟩:=h i x hx;refine⟨fun hi=> ?_,u,uc,s,sc,by rw [List.getElem?_set_ne (by omega)];exact y1,by rw [List.getElem?_set_ne (by omega)];exact y2,⟨us,h1.kept gq (Qkt h1 ho (by decide)),e1⟩,⟨ss,h2.kept gq (Qkt h2 ho (by decide)),e2⟩⟩;by_cases e:i=t
 ·subst e;rw [List.getElem?_set_self (by omega)]
 ·rw [List.getElem?_set_ne (by omega)];exact h0 (by omega)
theorem VrMk.setUps {W W':World} {B n t:Nat} {zs:List Value} {L:List VR} {k0:Int} {a c:Nat} {x:VR} {u:Option Addr} {uc:Nat} {us0:List Value} (h:VrMk W B zs L k0 a t c) (hp:VrApt zs n) (hL:L.length=n) (hx:L[t]? =some x) (hu:zs[t*3+1]? =some (.slice u x.ups.length uc)) (h0:W.ownsRow B 2 1 (.slice u x.ups.length uc) x.ups.length us0)
  (ho:W'.ownsRow B 2 1 (.slice u x.ups.length uc) x.ups.length ((itMk (kvN L k0 t+1) x.ups.length).map (Value.int .i64))) (hg:W.grownBy W' (Value.slice u x.ups.length uc).ownBlock):VrMk W' B zs L k0 a (t+1) c:=fun i y hy=>by
 obtain⟨h1,u',uc',s,sc,y1,y2,⟨us,k1,e1⟩,⟨ss,k2,e2⟩⟩:=h i y hy;refine⟨h1,u',uc',s,sc,y1,y2,?_,⟨ss,k2.kept hg (Qkt k2 h0 (by decide)),e2⟩⟩;by_cases e:i=t
 ·subst e;rw [hx]at hy;cases hy;rw [hu]at y1;cases y1;exact⟨_,ho,fun _=>rfl⟩
 ·refine⟨us,k1.kept hg ?_,fun hi=>e1 (by omega)⟩;have:=(hp i t (by rw [←hL];exact(List.getElem?_eq_some_iff.1 hy).1) (by rw [←hL];exact(List.getElem?_eq_some_iff.1 hx).1) e).1;unfold sepAt at this;rw [blkAt_some y1,blkAt_some hu]at this;exact this
theorem VrMk.setCells {W W':World} {B n t:Nat} {zs:List Value} {L:List VR} {k0:Int} {a b:Nat} {x:VR} {s:Option Addr} {sc:Nat} {ss0:List Value} (h:VrMk W B zs L k0 a b t) (hp:VrApt zs n) (hL:L.length=n) (hx:L[t]? =some x) (hu:zs[t*3+2]? =some (.slice s x.m sc)) (h0:W.ownsRow B 67 3 (.slice s x.m sc) x.m ss0)
  (ho:W'.ownsRow B 67 3 (.slice s x.m sc) x.m (Jf ceL (mkL ceMk 3 (kvN L k0 t+1+(x.ups.length:Int)) x.m))) (hg:W.grownBy W' (Value.slice s x.m sc).ownBlock):VrMk W' B zs L k0 a b (t+1):=fun i y hy=>by
 obtain⟨h1,u',uc',s',sc',y1,y2,⟨us,k1,e1⟩,⟨ss,k2,e2⟩⟩:=h i y hy;refine⟨h1,u',uc',s',sc',y1,y2,⟨us,k1.kept hg (Qkt k1 h0 (by decide)),e1⟩,?_⟩;by_cases e:i=t
 ·subst e;rw [hx]at hy;cases hy;rw [hu]at y2;cases y2;exact⟨_,ho,fun _=>rfl⟩
 ·refine⟨ss,k2.kept hg ?_,fun hi=>e2 (by omega)⟩;have:=(hp i t (by rw [←hL];exact(List.getElem?_eq_some_iff.1 hy).1) (by rw [←hL];exact(List.getElem?_eq_some_iff.1 hx).1) e).2;unfold sepAt at this;rw [blkAt_some y2,blkAt_some hu]at this;exact this
theorem laws_markVersionSS {B n hi:Nat} {v:Value} {ys:List Value} {L:List VR} (k0:Int) (w:World) (h:w.ownsRow B 89 3 v n ys) (hL:L.length=n) (hp:VrPart w B ys L n) (ha:VrApt ys n) (hl: ∀x∈L,JS x) (hn:n≤1048576) (hh: ∀k,v.ownBlock=some k→k<hi) (hlt:VrLt ys n hi) (h0:0<k0) (h1:k0≤1000):
  Calls Tryz.prog 37 #[v,.int .i64 k0] w fun e w'=>e= .returned (.int .i64 (kvN L k0 n))∧(∃zs,w'.ownsRow B 89 3 v n zs∧VrMk w' B zs L k0 n n n)∧FrX B hi w w':=by
 have HO:Hid (w.ownsRow B 89 3 v n ys):=h;have HL:Hid (L.length=n):=hL;have HP:Hid (VrMk w B ys L k0 0 0 0):=VrMk.start (by rw [hL];exact hp);have HA:Hid (VrApt ys n):=ha;have HI:Hid (∀x∈L,JS x):=hl;have HH:Hid (∀k,v.ownBlock=some k→k<hi):=hh;have HLT:Hid (VrLt ys n hi):=hlt
 obtain⟨A,cap,rfl,_,_⟩:=Qo h;clear h hL hp ha hl hh hlt;go_enter Tryz.func37,Tryz.ntmps37;go_wp2_with fail
 go_loopw [1,5] (fun q i wr=> ∃(t:Nat) (zs:List Value),t≤n∧i= .int .i64 t∧q= .int .i64 (kvN L k0 t)∧wr.ownsRow B 89 3 (.slice A n cap) n zs∧VrMk wr B zs L k0 t t t∧VrApt zs n∧VrLt zs n hi∧FrX B hi w wr) (fun _ i _=>n-(intOf i).toNat)
 case atStart=>exact⟨0,ys,Nat.zero_le _,rfl,rfl,HO.out,HP.out,HA.out,HLT.out,FrX.refl _ _ _⟩
 case round=>
  obtain⟨t,zs,ht,rfl,rfl,hown,hmk,hap,hlz,hfr⟩:=hrel;by_cases hlt:t<n
  ·obtain⟨x,hx⟩:=ZD HL.out hlt;have HXT:Hid (L[t]? =some x):=hx;have HXL:Hid (JS x):=HI.out x (List.mem_of_getElem? hx);obtain⟨k,HKV⟩: ∃k,Hid (kvN L k0 t=k):=⟨_,rfl⟩;have hkb:=kvN_bd (k0:=k0) HI.out t;rw [HKV.out]at hkb;have hk0:0<k:=by omega
   have hk1:k≤8796093022208:=by omega
   obtain⟨_,u,uc,s,sc,y1,y2,_,_⟩:=hmk t x hx;have Y1:Hid (zs[t*3+1]? =some (.slice u x.ups.length uc)):=y1;have Y2:Hid (zs[t*3+2]? =some (.slice s x.m sc)):=y2;obtain⟨un,HUN⟩: ∃un,Hid (x.ups.length=un):=⟨_,rfl⟩;obtain⟨mn,HMN⟩: ∃mn,Hid (x.m=mn):=⟨_,rfl⟩;have hun:un≤1048576:=by rw [←HUN.out];exact HXL.out.1
   have hmn:mn≤1048576:=by rw [←HMN.out];exact HXL.out.2
   obtain⟨A',cap',e,_,hc⟩:=Qo hown;cases e
   have hl9:=hown.1;obtain⟨g,rfl,_,hg,d0,f0⟩:=hc (t*3) (by omega);obtain⟨z0,hz0⟩: ∃z,zs[t*3]? =some z:=⟨_,List.getElem?_eq_getElem (by omega)⟩;rw [hz0]at d0;have d1:wr.cell? ⟨g,t*3+1,none⟩=some (.slice u un uc):=by rw [hown.cellAt (t*3+1) (by omega),y1,HUN.out]
   obtain⟨Y,HY⟩: ∃Y,Hid (wr.setCell ⟨g,t*3,none⟩ (.int .i64 k)=Y):=⟨_,rfl⟩;obtain⟨zs1,HZ1⟩: ∃zs1,Hid (zs.set (t*3) (.int .i64 k)=zs1):=⟨_,rfl⟩;obtain⟨oq,gq⟩:=hown.stored (t*3) (.int .i64 k);have O1:Hid (Y.ownsRow B 89 3 (.slice (some ⟨g,0,none⟩) n cap) n zs1):=by rw [←HY.out,←HZ1.out];exact oq
   have M1:Hid (VrMk Y B zs1 L k0 (t+1) t t):=by
    have h9:=hmk.setId hown HL.out hlt;rw [HKV.out,HY.out,HZ1.out]at h9;exact h9
   have P1:Hid (VrApt zs1 n):=hap.same (fun i hi=>by rw [←HZ1.out,List.getElem?_set_ne (by omega),List.getElem?_set_ne (by omega)];exact⟨rfl,rfl⟩);have F1:Hid (FrX B hi w Y):=hfr.trans (by rw [←HY.out];exact FrX.own hown HH.out oq gq);have L1:Hid (VrLt zs1 n hi):=hlz.same (fun i hi=>by rw [←HZ1.out,List.getElem?_set_ne (by omega),List.getElem?_set_ne (by omega)];exact⟨rfl,rfl⟩);have Y1':Hid (zs1[t*3+1]? =some (.slice u x.ups.length uc)):=by rw [←HZ1.out,List.getElem?_set_ne (by omega)];exact y1
   have Y2':Hid (zs1[t*3+2]? =some (.slice s x.m sc)):=by rw [←HZ1.out,List.getElem?_set_ne (by omega)];exact y2
   clear hown hmk hap hfr hlz hc hz0 hx hl9 y1 y2 oq gq;have q0:(0:Int)≤(t:Int):=by omega
   have q1:(t:Int)<(n:Int):=by omega
   rw [HKV.out];go_wp2_with fail
   rw [HY.out];obtain⟨_,u',uc',s',sc',e1,e2,⟨us,hus,_⟩,_⟩:=M1.out t x HXT.out;rw [Y1'.out]at e1;cases e1;have US:Hid (Y.ownsRow B 2 1 (.slice u x.ups.length uc) x.ups.length us):=hus;have US':Hid (Y.ownsRow B 2 1 (.slice u un uc) un us):=by rw [←HUN.out];exact hus
   clear hus e2;refine(laws_markInt64S (k+1) Y US'.out hun (by omega) (by omega)).mono ?_;rintro e w2 ⟨rfl,ho2,hg2⟩;have ho2':w2.ownsRow B 2 1 (.slice u x.ups.length uc) x.ups.length ((itMk (kvN L k0 t+1) x.ups.length).map (Value.int .i64)):=by rw [HUN.out,HKV.out];exact ho2
   have hg2':Y.grownBy w2 (Value.slice u x.ups.length uc).ownBlock:=by rw [HUN.out];exact hg2
   have M2:Hid (VrMk w2 B zs1 L k0 (t+1) (t+1) t):=M1.out.setUps P1.out HL.out HXT.out Y1'.out US.out ho2' hg2';have F2:Hid (FrX B hi w w2):=F1.out.trans (FrX.own US.out (fun q hq=>(L1.out t hlt).1 q (by rw [blkAt_some Y1'.out];exact hq)) ho2' hg2');have O2:Hid (w2.ownsRow B 89 3 (.slice (some ⟨g,0,none⟩) n cap) n zs1):=O1.out.kept hg2 (Qkt O1.out US'.out (by decide));have d2:w2.cell? ⟨g,t*3+2,none⟩=some (.slice s mn sc):=by rw [O2.out.cellAt (t*3+2) (by omega),Y2'.out,HMN.out]
   have hgz:g<w2.heap.size:=(O2.out.lt g rfl).2;clear ho2 hg2 ho2' hg2' d1 d0 f0 hg O1 M1 F1 US US';go_wp2_with fail
   obtain⟨_,u',uc',s',sc',e1,e2,_,⟨ss,hss,_⟩⟩:=M2.out t x HXT.out;rw [Y2'.out]at e2;cases e2;have SS:Hid (w2.ownsRow B 67 3 (.slice s x.m sc) x.m ss):=hss;have SS':Hid (w2.ownsRow B 67 3 (.slice s mn sc) mn ss):=by rw [←HMN.out];exact hss
   clear hss e1;refine(laws_markCellS (k+1+(un:Int)) w2 SS'.out hmn (by omega) (by omega)).mono ?_;rintro e w3 ⟨rfl,ho3,hg3⟩;have ho3':w3.ownsRow B 67 3 (.slice s x.m sc) x.m (Jf ceL (mkL ceMk 3 (kvN L k0 t+1+(x.ups.length:Int)) x.m)):=by rw [HMN.out,HKV.out,HUN.out];exact ho3
   have hg3':w2.grownBy w3 (Value.slice s x.m sc).ownBlock:=by rw [HMN.out];exact hg3
   have M3:Hid (VrMk w3 B zs1 L k0 (t+1) (t+1) (t+1)):=M2.out.setCells P1.out HL.out HXT.out Y2'.out SS.out ho3' hg3';have F3:Hid (FrX B hi w w3):=F2.out.trans (FrX.own SS.out (fun q hq=>(L1.out t hlt).2 q (by rw [blkAt_some Y2'.out];exact hq)) ho3' hg3');have O3:Hid (w3.ownsRow B 89 3 (.slice (some ⟨g,0,none⟩) n cap) n zs1):=O2.out.kept hg3 (Qkt O2.out SS'.out (by decide));have HKS:Hid (k+1+(un:Int)+(mn:Int)*3=kvN L k0 (t+1)):=by show _=_;rw [kvN_succ HXT.out,HKV.out,HUN.out,HMN.out]
   clear ho3 hg3 ho3' hg3' d2 hgz O2 M2 F2 SS SS';go_wp2_with fail
   go_roundw
   case rel=>exact⟨t+1,zs1,by omega,by go_num,by rw [←HKS.out],O3.out,M3.out,P1.out,L1.out,F3.out⟩
   case measure=>simp [intOf];omega
  ·have h1: ¬(t:Int)<(n:Int):=by omega
   obtain rfl:t=n:=by omega
   go_wp2_with fail
   go_ret;exact⟨rfl,⟨zs,hown,hmk⟩,hfr⟩
theorem int_own1 {W:World} {B n:Nat} {e:TypeId} {A:Option Addr} {cap:Nat} {l:List Int} (hn:l.length=n) (h:W.ownsRow B e 1 (.slice A n cap) n (l.map (Value.int .i64))):IntRow W A l:=by
 subst hn;exact Xr h
theorem laws_heldVersionS {B n cap:Nat} {A:Option Addr} {zs:List Value} {L:List VR} (k0:Int) (w:World) (h:w.ownsRow B 89 3 (.slice A n cap) n zs) (hL:L.length=n) (hm:VrMk w B zs L k0 n n n) (hl: ∀x∈L,JS x) (hn:n≤1048576) (h0:0<k0) (h1:k0≤1000):
  Calls Tryz.prog 40 #[.slice A n cap,.int .i64 k0] w fun e w'=>e= .returned (.int .i64 (kvN L k0 n))∧Below w.heap.size w w':=by
 have HO:Hid (w.ownsRow B 89 3 (.slice A n cap) n zs):=h;have HL:Hid (L.length=n):=hL;have HM:Hid (VrMk w B zs L k0 n n n):=hm;have HI:Hid (∀x∈L,JS x):=hl;clear h hL hm hl;go_enter Tryz.func40,Tryz.ntmps40;go_wp2_with fail
 go_loopw [1,5] (fun q i wr=> ∃t:Nat,t≤n∧i= .int .i64 t∧q= .int .i64 (kvN L k0 t)∧Below w.heap.size w wr) (fun _ i _=>n-(intOf i).toNat)
 case atStart=>exact⟨0,Nat.zero_le _,rfl,rfl,Below.refl _ _⟩
 case round=>
  obtain⟨t,ht,rfl,rfl,hbel⟩:=hrel;by_cases hlt:t<n
  ·obtain⟨x,hx⟩:=ZD HL.out hlt;have HXT:Hid (L[t]? =some x):=hx;have HXL:Hid (JS x):=HI.out x (List.mem_of_getElem? hx);obtain⟨k,HKV⟩: ∃k,Hid (kvN L k0 t=k):=⟨_,rfl⟩;have hkb:=kvN_bd (k0:=k0) HI.out t;rw [HKV.out]at hkb;have hk0:0<k:=by omega
   have hk1:k≤8796093022208:=by omega
   obtain⟨y0,u,uc,s,sc,y1,y2,⟨us,hus,eus⟩,⟨ss,hss,ess⟩⟩:=HM.out t x hx;rw [eus hlt]at hus;rw [ess hlt]at hss;replace y0:=y0 hlt;obtain⟨un,HUN⟩: ∃un,Hid (x.ups.length=un):=⟨_,rfl⟩;obtain⟨mn,HMN⟩: ∃mn,Hid (x.m=mn):=⟨_,rfl⟩;rw [HKV.out,HUN.out]at hus
   rw [HKV.out,HUN.out,HMN.out]at hss;rw [HKV.out]at y0;rw [HUN.out]at y1;rw [HMN.out]at y2;have hun:un≤1048576:=by rw [←HUN.out];exact HXL.out.1
   have hmn:mn≤1048576:=by rw [←HMN.out];exact HXL.out.2
   have HUS:Hid (IntRow w u (itMk (k+1) un)):=int_own1 (itMk_len _ _) hus;have HSS:Hid (CeRow w s (mkL ceMk 3 (k+1+(un:Int)) mn)):=RowAt.of_own ceL_len hss (Ql6 _ _ _ _);have O1:=hd (Ql HO.out hbel);obtain⟨A',cap',e,_,hc⟩:=Qo O1.out;cases e
   obtain⟨g,rfl,_,hg,d0,_⟩:=hc (t*3) (by omega);rw [y0]at d0;have d1:wr.cell? ⟨g,t*3+1,none⟩=some (.slice u un uc):=by rw [O1.out.cellAt (t*3+1) (by omega),y1]
   have d2:wr.cell? ⟨g,t*3+2,none⟩=some (.slice s mn sc):=by rw [O1.out.cellAt (t*3+2) (by omega),y2]
   have q0:(0:Int)≤(t:Int):=by omega
   have q1:(t:Int)<(n:Int):=by omega
   have HB:Hid (Below w.heap.size w wr):=hbel;have e0:(k !=k)=false:=by simp
   clear hx hus hss eus ess hc hbel y0 y1 y2;rw [HKV.out];go_wp2_with fail
   refine(laws_heldInt64S (k+1) _ (HUS.out.below HB.out) hun (by omega) (by omega)).mono ?_;rintro e w1 ⟨rfl,hw⟩;subst w1;have n1: ¬k+1+(un:Int)<0:=by omega
   go_wp2_with fail
   refine(laws_heldCellS (k+1+(un:Int)) _ (HSS.out.below HB.out) hmn (by omega) (by omega)).mono ?_;rintro e w2 ⟨rfl,hb⟩;have HB2:=hd (Qb HB.out hb);have n2: ¬k+1+(un:Int)+(mn:Int)*3<0:=by omega
   have HKS:Hid (k+1+(un:Int)+(mn:Int)*3=kvN L k0 (t+1)):=by show _=_;rw [kvN_succ HXT.out,HKV.out,HUN.out,HMN.out]
   clear hb;go_wp2_with fail
   go_roundw
   case rel=>exact⟨t+1,by omega,by go_num,by rw [←HKS.out],HB2.out⟩
   case measure=>simp [intOf];omega
  ·have h1: ¬(t:Int)<(n:Int):=by omega
   obtain rfl:t=n:=by omega
   go_wp2_with fail
   go_ret;exact⟨rfl,hbel⟩
def DgMk (W:World) (B:Nat) (v:Value) (d:DG):Prop:= ∃v1 v2 zs,v= .agg #[.int .i64 d.next,v1,v2]∧W.ownsRow B 89 3 v1 d.vs.length zs∧VrMk W B zs d.vs 1 d.vs.length d.vs.length d.vs.length∧W.ownsRow B 79 2 v2 d.bs.length (Jf brL (mkL brMk 2 (kvN d.vs 1 d.vs.length) d.bs.length))
theorem DgMk.below {W W':World} {B:Nat} {v:Value} {d:DG} (h:DgMk W B v d) (hb:Below W.heap.size W W'):DgMk W' B v d:=by
 obtain⟨v1,v2,zs,rfl,h1,h2,h3⟩:=h;exact⟨v1,v2,zs,rfl,Ql h1 hb,h2.below hb,Ql h3 hb⟩
def kdN (d:DG):Int:=kvN d.vs 1 d.vs.length+(d.bs.length:Int)*2
theorem kdN_pos {d:DG} (hl:DgLil d):0<kdN d:=by
 have:=(kvN_bd (k0:=1) hl.v d.vs.length).1;unfold kdN;omega
def DgOH (W:World) (B hi:Nat) (v:Value) (d:DG):Prop:= ∃v1 v2 ys,v= .agg #[.int .i64 d.next,v1,v2]∧W.ownsRow B 89 3 v1 d.vs.length ys∧VrPart W B ys d.vs d.vs.length∧VrApt ys d.vs.length∧W.ownsRow B 79 2 v2 d.bs.length (Jf brL d.bs)∧(∀k,v1.ownBlock=some k→k<hi)∧VrLt ys d.vs.length hi∧ ∀k,v2.ownBlock=some k→k<hi
theorem DgO.toH {W:World} {B:Nat} {v:Value} {d:DG} (h:DgO W B v d):DgOH W B W.heap.size v d:=by
 obtain⟨v1,v2,ys,rfl,h1,h2,h4,h3⟩:=h;exact⟨v1,v2,ys,rfl,h1,h2,h4,h3,fun k hk=>(h1.lt k hk).2,h2.ltB rfl,fun k hk=>(h3.lt k hk).2⟩
theorem DgOH.toO {W:World} {B hi:Nat} {v:Value} {d:DG} (h:DgOH W B hi v d):DgO W B v d:=by
 obtain⟨v1,v2,ys,rfl,h1,h2,h4,h3,_⟩:=h;exact⟨v1,v2,ys,rfl,h1,h2,h4,h3⟩
theorem DgOH.below {W W':World} {B hi:Nat} {v:Value} {d:DG} (h:DgOH W B hi v d) (hb:Below W.heap.size W W'):DgOH W' B hi v d:=by
 obtain⟨v1,v2,ys,rfl,h1,h2,h4,h3,b⟩:=h;exact⟨v1,v2,ys,rfl,Ql h1 hb,h2.below hb,h4,Ql h3 hb,b⟩
theorem DgOH.frx {W W':World} {lo hi' hi B:Nat} {v:Value} {d:DG} (h:DgOH W B hi v d) (hf:FrX lo hi' W W') (hB:hi'≤B):DgOH W' B hi v d:=by
 obtain⟨v1,v2,ys,rfl,h1,h2,h4,h3,b⟩:=h;refine⟨v1,v2,ys,rfl,hf.keep h1 (fun k hk=>Or.inr (Nat.le_trans hB (h1.lt k hk).1)),fun i x hi hx=> ?_,h4,hf.keep h3 (fun k hk=>Or.inr (Nat.le_trans hB (h3.lt k hk).1)),b⟩;obtain⟨u,uc,s,sc,y0,y1,y2,k1,k2⟩:=h2 i x hi hx;exact⟨u,uc,s,sc,y0,y1,y2,hf.keep k1 (fun k hk=>Or.inr (Nat.le_trans hB (k1.lt k hk).1)),hf.keep k2 (fun k hk=>Or.inr (Nat.le_trans hB (k2.lt k hk).1))⟩
theorem laws_markDagS {v:Value} {d:DG} {B hi:Nat} (w:World) (h:DgOH w B hi v d) (hw:hi≤w.heap.size) (hl:DgLil d):
  Calls Tryz.prog 14 #[v,.int .i64 1] w fun e w'=>e= .returned (.int .i64 (kdN d))∧DgMk w' B v d∧FrX B hi w w':=by
 obtain⟨v1,v2,ys,rfl,h1,h2,h4,h3,b1,b2,b3⟩:=h;obtain⟨n1,HN1⟩: ∃n1,Hid (d.vs.length=n1):=⟨_,rfl⟩;obtain⟨n2,HN2⟩: ∃n2,Hid (d.bs.length=n2):=⟨_,rfl⟩;have HZ1:Hid (n1≤1048576):=by rw [←HN1.out];exact hl.nv
 have HZ2:Hid (n2≤1048576):=by rw [←HN2.out];exact hl.nb
 rw [HN1.out]at h1 h2 h4 b2;rw [HN2.out]at h3;have HLL:Hid (∀x∈d.vs,JS x):=hl.v;have O1:Hid (w.ownsRow B 89 3 v1 n1 ys):=h1;have P1:Hid (VrPart w B ys d.vs n1):=h2;have Q1:Hid (VrApt ys n1):=h4;have O3:Hid (w.ownsRow B 79 2 v2 n2 (Jf brL d.bs)):=h3
 have H1:Hid (∀k,v1.ownBlock=some k→k<hi):=b1;have H3:Hid (∀k,v2.ownBlock=some k→k<hi):=b3;have H2:Hid (VrLt ys n1 hi):=b2;have HHW:Hid (hi≤w.heap.size):=hw;obtain⟨A1,c1,rfl,_,_⟩:=Qo h1;obtain⟨A2,c2,rfl,_,_⟩:=Qo h3;obtain⟨kn,HKN⟩: ∃kn,Hid (kvN d.vs 1 n1=kn):=⟨_,rfl⟩
 have hkb:=kvN_bd (k0:=1) HLL.out n1;rw [HKN.out]at hkb;have hz1:=HZ1.out;have HE:Hid (kdN d=kn+(n2:Int)*2):=by show _=_;rw [kdN,HN1.out,HN2.out,HKN.out]
 rw [HE.out];clear h1 h2 h3 h4 hl b1 b2 b3 hw;go_enter Tryz.func14,Tryz.ntmps14;go_wp2_with fail
 obtain⟨X,HX⟩: ∃X,Hid (w.alloc (.cells #[.int .i64 d.next,.slice A1 n1 c1,.slice A2 n2 c2] 32)=X):=⟨_,rfl⟩;rw [HX.out];have x2:X.cell? ⟨w.heap.size,2,none⟩=some (.slice A2 n2 c2):=by rw [←HX.out];go_simp
 have zX:w.heap.size<X.heap.size:=by rw [←HX.out];simp
 have KX:Hid (Below w.heap.size w X):=by rw [←HX.out];show Below _ _ _;go_grown
 clear HX;refine(laws_markVersionSS 1 X (Ql O1.out KX.out) HN1.out (P1.out.below KX.out) Q1.out HLL.out HZ1.out H1.out H2.out (by omega) (by omega)).mono ?_;rintro e w1 ⟨rfl,⟨zs,ho1,hm1⟩,hf⟩;have F1:Hid (FrX B hi w w1):=(FrX.below KX.out).trans hf;have M1:Hid (VrMk w1 B zs d.vs 1 n1 n1 n1):=hm1;have V1:Hid (w1.ownsRow B 89 3 (.slice A1 n1 c1) n1 zs):=ho1;replace x2:=hf.cell (Or.inr HHW.out) x2
 replace zX:w.heap.size<w1.heap.size:=Nat.lt_of_lt_of_le zX hf.size;clear hf KX ho1 hm1;rw [HKN.out];obtain⟨⟨bs,hbs⟩,_⟩:=(show OwnIn B hi w 79 2 (.slice A2 n2 c2) n2 from⟨⟨_,O3.out⟩,H3.out⟩).shp F1.out.shp;have OB:Hid (w1.ownsRow B 79 2 (.slice A2 n2 c2) n2 bs):=hbs;clear hbs;go_wp2_with fail
 refine(laws_markBranchS kn w1 OB.out HZ2.out (by omega) (by omega)).mono ?_;rintro e w2 ⟨rfl,ho,hg⟩;have F2:Hid (FrX B hi w w2):=F1.out.trans (FrX.own OB.out H3.out ho hg)
 have HMK:Hid (DgMk w2 B (.agg #[.int .i64 d.next,.slice A1 n1 c1,.slice A2 n2 c2]) d):=by
  refine⟨_,_,zs,rfl,?_,?_,?_⟩
  ·rw [HN1.out];exact V1.out.kept hg (Qkt V1.out OB.out (by decide))
  ·rw [HN1.out];intro i x hx;obtain⟨h0,u,uc,s,sc,y1,y2,⟨us,k1,e1⟩,⟨ss,k2,e2⟩⟩:=M1.out i x hx;exact⟨h0,u,uc,s,sc,y1,y2,⟨us,k1.kept hg (Qkt k1 OB.out (by decide)),e1⟩,⟨ss,k2.kept hg (Qkt k2 OB.out (by decide)),e2⟩⟩
  ·rw [HN1.out,HN2.out,HKN.out];exact ho
 clear ho hg;go_wp2_with fail
 go_ret;exact⟨rfl,HMK.out,F2.out⟩
theorem laws_heldDag {v:Value} {d:DG} {B:Nat} (w:World) (h:DgMk w B v d) (hl:DgLil d):
  Calls Tryz.prog 16 #[v,.int .i64 1] w fun e w'=>e= .returned (.int .i64 (kdN d))∧Below w.heap.size w w':=by
 obtain⟨v1,v2,zs,rfl,h1,h2,h3⟩:=h;obtain⟨n1,HN1⟩: ∃n1,Hid (d.vs.length=n1):=⟨_,rfl⟩;obtain⟨n2,HN2⟩: ∃n2,Hid (d.bs.length=n2):=⟨_,rfl⟩;have HZ1:Hid (n1≤1048576):=by rw [←HN1.out];exact hl.nv
 have HZ2:Hid (n2≤1048576):=by rw [←HN2.out];exact hl.nb
 obtain⟨kn,HKN⟩: ∃kn,Hid (kvN d.vs 1 n1=kn):=⟨_,rfl⟩;rw [HN1.out]at h1 h2 h3;rw [HN2.out,HKN.out]at h3;have HLL:Hid (∀x∈d.vs,JS x):=hl.v;have O1:Hid (w.ownsRow B 89 3 v1 n1 zs):=h1;have M1:Hid (VrMk w B zs d.vs 1 n1 n1 n1):=h2;obtain⟨A1,c1,rfl,_,_⟩:=Qo h1
 obtain⟨A2,c2,rfl,_,_⟩:=Qo h3;have O3:Hid (ZT w A2 (mkL brMk 2 kn n2)):=RowAt.of_own Ni h3 (Ql6 _ _ _ _);have hkb:=kvN_bd (k0:=1) HLL.out n1;rw [HKN.out]at hkb;have hz1:=HZ1.out;have hz2:=HZ2.out;have HE:Hid (kdN d=kn+(n2:Int)*2):=by show _=_;rw [kdN,HN1.out,HN2.out,HKN.out]
 rw [HE.out];clear h1 h2 h3 hl;go_enter Tryz.func16,Tryz.ntmps16;go_wp2_with fail
 obtain⟨X,HX⟩: ∃X,Hid (w.alloc (.cells #[.int .i64 d.next,.slice A1 n1 c1,.slice A2 n2 c2] 32)=X):=⟨_,rfl⟩;rw [HX.out];have x2:X.cell? ⟨w.heap.size,2,none⟩=some (.slice A2 n2 c2):=by rw [←HX.out];go_simp
 have zX:w.heap.size<X.heap.size:=by rw [←HX.out];simp
 have KX:Hid (Below w.heap.size w X):=by rw [←HX.out];show Below _ _ _;go_grown
 clear HX;refine(laws_heldVersionS 1 X (Ql O1.out KX.out) HN1.out (M1.out.below KX.out) HLL.out HZ1.out (by omega) (by omega)).mono ?_;rintro e w1 ⟨rfl,hb⟩;replace x2:=cy hb x2;replace zX:w.heap.size<w1.heap.size:=Nat.lt_of_lt_of_le zX hb.size;replace KX:=hd (Qb KX.out hb);clear hb
 rw [HKN.out];have n1': ¬kn<0:=by omega
 go_wp2_with fail
 refine(laws_heldBranchS kn w1 (O3.out.below KX.out) HZ2.out (by omega) (by omega)).mono ?_;rintro e w2 ⟨rfl,hb⟩;have K2:=hd (Qb KX.out hb);have n2': ¬kn+(n2:Int)*2<0:=by omega
 clear hb;go_wp2_with fail
 go_ret;exact⟨rfl,K2.out⟩
theorem grown_set (W:World) (g o:Nat) (x:Value):W.grownBy (W.setCell ⟨g,o,none⟩ x) (some g):=by
 refine⟨rfl,rfl,rfl,by simp,fun k hk hne=> ?_⟩;have:k≠g:=fun e=>hne (by rw [e]);simp [World.setCell,Array.getElem?_modify,Ne.symm this]
theorem own_setT {W:World} {B n s g o:Nat} {e t:TypeId} {v x:Value} {xs:List Value} {c:Array Value} {r:Nat × Nat} (h:W.ownsRow B e s v n xs) (hg:W.heap[g]? =some (.cells c t r)) (hne:e≠t):(W.setCell ⟨g,o,none⟩ x).ownsRow B e s v n xs:=
 h.kept (grown_set W g o x) (by
  rcases h.2 with⟨rfl,_⟩ | ⟨g',cap,cur,rfl,_,hg',_⟩
  ·exact Or.inl rfl
  ·right
   intro e9;simp only [Value.ownBlock,Option.some.injEq]at e9;subst e9;rw [hg]at hg';simp only [Option.some.injEq,Obj.cells.injEq]at hg'
   exact hne hg'.2.1.symm)
theorem blk_set {W:World} {g o:Nat} {c:Array Value} {t:TypeId} {r:Nat × Nat} {x:Value} (h:W.heap[g]? =some (.cells c t r)): ∃c',(W.setCell ⟨g,o,none⟩ x).heap[g]? =some (.cells c' t r):=by
 refine⟨c.setIfInBounds o x,?_⟩;have hl:=(Array.getElem?_eq_some_iff.1 h).1;simp [World.setCell,Array.getElem?_modify,h]
theorem own_blk_ne {W:World} {B n s g:Nat} {e t:TypeId} {v:Value} {xs:List Value} {c:Array Value} {r:Nat × Nat} (h:W.ownsRow B e s v n xs) (hg:W.heap[g]? =some (.cells c t r)) (hne:e≠t):some g≠v.ownBlock:=by
 intro e9;rcases h.2 with⟨rfl,_⟩ | ⟨g',cap,cur,rfl,_,hg',_⟩
 ·cases e9
 ·simp only [Value.ownBlock,Option.some.injEq]at e9;subst e9;rw [hg]at hg';simp only [Option.some.injEq,Obj.cells.injEq]at hg';exact hne hg'.2.1.symm
structure NBx (B g:Nat) (nx:Int) (v2:Value) (nb:Nat) (bs:List BR) (X u:World):Prop where
 c0:u.cell? ⟨g,0,none⟩=some (.int .i64 nx)
 c1: ∃x,u.cell? ⟨g,1,none⟩=some x
 c2:u.cell? ⟨g,2,none⟩=some v2
 nf: ∀o,u.frozen? ⟨g,o,none⟩=false
 gb: ∃c r,u.heap[g]? =some (.cells c 32 r)
 o2:u.ownsRow B 79 2 v2 nb (Jf brL bs)
 bel:Below B X u
theorem NBx.below {B g nb:Nat} {nx:Int} {v2:Value} {bs:List BR} {X u u':World} (h:NBx B g nx v2 nb bs X u) (hB:B≤u.heap.size) (hb:Below u.heap.size u u'):NBx B g nx v2 nb bs X u':=by
 obtain⟨c0,⟨x1,c1⟩,c2,nf,⟨c,r,gb⟩,o2,bl⟩:=h;have hg:=heap_lt gb;exact⟨cy hb c0,⟨x1,cy hb c1⟩,cy hb c2,fun o=>(hb.frozen (p:=⟨g,o,none⟩) hg).trans (nf o),⟨c,r,(hb.block g hg).trans gb⟩,Ql o2 hb,bl.trans (hb.mono hB)⟩
theorem NBx.grown {B g nb n:Nat} {nx:Int} {v1 v2:Value} {bs:List BR} {ys:List Value} {X u u':World} (h:NBx B g nx v2 nb bs X u) (hB:B≤u.heap.size) (hv:u.ownsRow B 89 3 v1 n ys) (hg:u.grownBy u' v1.ownBlock):NBx B g nx v2 nb bs X u':=by
 obtain⟨c0,⟨x1,c1⟩,c2,nf,⟨c,r,gb⟩,o2,bl⟩:=h;have hgl:=heap_lt gb;have hne:some g≠v1.ownBlock:=own_blk_ne hv gb (by decide);have hk: ∀{o:Nat} {x:Value},u.cell? ⟨g,o,none⟩=some x→u'.cell? ⟨g,o,none⟩=some x:=fun c=>(World.cell?_of_block (hg.block g hgl hne)).trans c;refine⟨hk c0,⟨x1,hk c1⟩,hk c2,fun o=>(World.frozen?_of_block (hg.block g hgl hne)).trans (nf o),⟨c,r,(hg.block g hgl hne).trans gb⟩,o2.kept hg (Qkt o2 hv (by decide)),bl.grown hg hB (fun q hq=>(hv.lt q hq).1)⟩
theorem NBx.set {B g nb:Nat} {nx:Int} {v2:Value} {bs:List BR} {X u:World} (h:NBx B g nx v2 nb bs X u) (hB:B≤g) (x:Value):NBx B g nx v2 nb bs X (u.setCell ⟨g,1,none⟩ x)∧(u.setCell ⟨g,1,none⟩ x).cell? ⟨g,1,none⟩=some x:=by
 obtain⟨c0,⟨x1,c1⟩,c2,nf,⟨c,r,gb⟩,o2,bl⟩:=h;have hs:(u.setCell ⟨g,1,none⟩ x).cell? ⟨g,1,none⟩=some x:=World.cell?_setCell_same _ _ _ (by rw [c1]);refine⟨⟨?_,⟨x,hs⟩,?_,fun o=>by simpa using nf o,?_,own_setT o2 gb (by decide),bl.setCell hB _⟩,hs⟩
 ·rw [World.cell?_setCell_other _ _ _ _ (by intro e;cases e)];exact c0
 ·rw [World.cell?_setCell_other _ _ _ _ (by intro e;cases e)];exact c2
 ·obtain⟨c',h'⟩:=blk_set (o:=1) (x:=x) gb;exact⟨c',r,h'⟩
structure CpL (B g:Nat) (nx:Int) (v2:Value) (nb:Nat) (bs:List BR) (X:World) (L:List VR) (t:Nat) (u:World):Prop where
 nb:NBx B g nx v2 nb bs X u
 vs: ∃v1 ys,u.cell? ⟨g,1,none⟩=some v1∧u.ownsRow B 89 3 v1 t ys∧VrPart u B ys L t∧VrApt ys t
theorem VrPart.snoc {W:World} {B t:Nat} {ys:List Value} {L:List VR} {x:VR} {u s:Option Addr} {uc sc:Nat} (h:VrPart W B ys L t) (hl:ys.length=t*3) (hx:L[t]? =some x)
  (h1:W.ownsRow B 2 1 (.slice u x.ups.length uc) x.ups.length (x.ups.map (Value.int .i64))) (h2:W.ownsRow B 67 3 (.slice s x.m sc) x.m (clX x.C x.R x.S x.m)):
  VrPart W B (ys++ [.int .i64 x.id,.slice u x.ups.length uc,.slice s x.m sc]) L (t+1):=fun i y hi hy=>by
 by_cases e:i=t
 ·subst e;rw [hx]at hy;cases hy;refine⟨u,uc,s,sc,?_,?_,?_,h1,h2⟩
  ·rw [List.getElem?_append_right (by omega),hl,Nat.sub_self];rfl
  ·rw [List.getElem?_append_right (by omega),hl,show i*3+1-i*3=1 by omega];rfl
  ·rw [List.getElem?_append_right (by omega),hl,show i*3+2-i*3=2 by omega];rfl
 ·obtain⟨u',uc',s',sc',y0,y1,y2,k1,k2⟩:=h i y (by omega) hy;exact⟨u',uc',s',sc',by rw [List.getElem?_append_left (by omega)];exact y0,by rw [List.getElem?_append_left (by omega)];exact y1,by rw [List.getElem?_append_left (by omega)];exact y2,k1,k2⟩
theorem VrApt.snoc {ys:List Value} {t hi:Nat} {a b c:Value} (h:VrApt ys t) (hl:ys.length=t*3) (hlt:VrLt ys t hi) (hb: ∀q,b.ownBlock=some q→hi≤q) (hc: ∀q,c.ownBlock=some q→hi≤q):VrApt (ys++ [a,b,c]) (t+1):=by
 have e1:blkAt (ys++ [a,b,c]) (t*3+1)=b.ownBlock:=blkAt_some (by rw [List.getElem?_append_right (by omega),hl,show t*3+1-t*3=1 by omega];rfl);have e2:blkAt (ys++ [a,b,c]) (t*3+2)=c.ownBlock:=blkAt_some (by rw [List.getElem?_append_right (by omega),hl,show t*3+2-t*3=2 by omega];rfl)
 have eo: ∀i,i<t→ ∀k,k<3→blkAt (ys++ [a,b,c]) (i*3+k)=blkAt ys (i*3+k):=fun i hi k hk=>by
  unfold blkAt;rw [List.getElem?_append_left (by omega)]
 have far: ∀{p q:Option Nat},(∀k,p=some k→k<hi)→(∀k,q=some k→hi≤k)→(p=none∨p≠q)∧(q=none∨q≠p):=fun{p q} h1 h2=>by
  cases p with
  | none=>exact⟨Or.inl rfl,by cases q with | none=>exact Or.inl rfl | some k=>exact Or.inr (by simp)⟩
  | some k=>
   cases q with
   | none=>exact⟨Or.inr (by simp),Or.inl rfl⟩
   | some m=>
    have h3:=h1 k rfl;have h4:=h2 m rfl;exact⟨Or.inr (by simp;omega),Or.inr (by simp;omega)⟩
 intro i j hi' hj hij;unfold sepAt;by_cases ei:i=t
 ·subst ei;have hj':j<i:=by omega
  rw [e1,e2,eo j hj' 1 (by omega),eo j hj' 2 (by omega)];exact⟨(far (hlt j hj').1 hb).2,(far (hlt j hj').2 hc).2⟩
 ·have hi2:i<t:=by omega
  rw [eo i hi2 1 (by omega),eo i hi2 2 (by omega)];by_cases ej:j=t
  ·subst ej;rw [e1,e2];exact⟨(far (hlt i hi2).1 hb).1,(far (hlt i hi2).2 hc).1⟩
  ·have hj2:j<t:=by omega
   rw [eo j hj2 1 (by omega),eo j hj2 2 (by omega)];exact h i j hi2 hj2 hij
theorem VrPart.keptV {W W':World} {B n t:Nat} {ys zs:List Value} {L:List VR} {v1:Value} (h:VrPart W B ys L t) (hv:W.ownsRow B 89 3 v1 n zs) (hg:W.grownBy W' v1.ownBlock):VrPart W' B ys L t:=fun i x hi hx=>by
 obtain⟨u,uc,s,sc,y0,y1,y2,k1,k2⟩:=h i x hi hx;exact⟨u,uc,s,sc,y0,y1,y2,k1.kept hg (Qkt k1 hv (by decide)),k2.kept hg (Qkt k2 hv (by decide))⟩
theorem VrPart.setD {W:World} {B t g o:Nat} {ys:List Value} {L:List VR} {c:Array Value} {r:Nat × Nat} {x:Value} (h:VrPart W B ys L t) (hg:W.heap[g]? =some (.cells c 32 r)):VrPart (W.setCell ⟨g,o,none⟩ x) B ys L t:=fun i y hi hy=>by
 obtain⟨u,uc,s,sc,y0,y1,y2,k1,k2⟩:=h i y hi hy;exact⟨u,uc,s,sc,y0,y1,y2,own_setT k1 hg (by decide),own_setT k2 hg (by decide)⟩
theorem CpL.next {B g nb t hi:Nat} {nx:Int} {v2 v':Value} {bs:List BR} {X q:World} {L:List VR} {x:VR} {ys:List Value} {u s:Option Addr} {uc sc:Nat} (h:NBx B g nx v2 nb bs X q) (hBg:B≤g) (hBh:B≤hi) (hv:q.ownsRow B 89 3 v' (t+1) (ys++ [.int .i64 x.id,.slice u x.ups.length uc,.slice s x.m sc])) (hl:ys.length=t*3) (hx:L[t]? =some x)
  (hp:VrPart q B ys L t) (ha:VrApt ys t) (hlt:VrLt ys t hi) (h1:q.ownsRow hi 2 1 (.slice u x.ups.length uc) x.ups.length (x.ups.map (Value.int .i64))) (h2:q.ownsRow hi 67 3 (.slice s x.m sc) x.m (clX x.C x.R x.S x.m)):
  CpL B g nx v2 nb bs X L (t+1) (q.setCell ⟨g,1,none⟩ v'):=by
 obtain⟨n1,n2⟩:=h.set hBg v';obtain⟨c,r,gb⟩:=h.gb;refine⟨n1,v',_,n2,own_setT hv gb (by decide),VrPart.setD (hp.snoc hl hx (Zc h1 hBh) (Zc h2 hBh)) gb,ha.snoc hl hlt (fun q hq=>(h1.lt q hq).1) (fun q hq=>(h2.lt q hq).1)⟩
def VCell (W:World) (g:Nat) (i:Int) (a b:Value):Prop:=W.cell? ⟨g,0,none⟩=some (.int .i64 i)∧W.cell? ⟨g,1,none⟩=some a∧W.cell? ⟨g,2,none⟩=some b
theorem VCell.below {W W':World} {g:Nat} {i:Int} {a b:Value} (h:VCell W g i a b) (hb:Below W.heap.size W W'):VCell W' g i a b:=⟨cy hb h.1,cy hb h.2.1,cy hb h.2.2⟩
theorem VCell.at {W:World} {i:Int} {a b:Value}:VCell (W.alloc (.cells #[.int .i64 i,a,b] 89)) W.heap.size i a b:=by
 refine⟨?_,?_,?_⟩<;>simp
theorem step_app_vr {W:World} {ops:Array Oper} {o:Oper} {a:Act} {K:Act→World→Prop} {Q:Exit→Act→World→Prop} {E:Prop} (hgd:o.guard=none) (s x:Operand) (ho:o.op= .call {callee:= .builtin .append,args:= #[s,x],argTypes:= #[29,29]}) (B:Nat) (v:Value) (n:Nat) (xs:List Value) (hs:a.eval s=v)
  (hown:W.ownsRow B 89 3 v n xs) (i:Int) (ua:Option Addr) (un uc:Nat) (sa:Option Addr) (sn sc:Nat) (g:Nat) (hx:a.eval x= .slice (some ⟨g,0,none⟩) 1 1) (hc:VCell W g i (.slice ua un uc) (.slice sa sn sc)) (hn:n≤1099511627776) (hB:B≤W.heap.size)
  (h: ∀v' w',w'.ownsRow B 89 3 v' (n+1) (xs++ [.int .i64 i,.slice ua un uc,.slice sa sn sc])→W.grownBy w' v.ownBlock→K (a.put o.dst v') w'):
  if Region.wanted o (yielded ops a.tmps)=true then Oper.wp Tryz.prog o a W K Q else E:=by
 have hw:Region.wanted o (yielded ops a.tmps)=true:=by simp [Region.wanted,hgd]
 rw [if_pos hw];obtain⟨i0,hi,iz0,iz1,iz2⟩:=info_parts Qj2;obtain⟨c0,c1,c2⟩:=hc;refine wp_append_own W s x 29 ho B 89 i0 (.agg #[.int .i64 0,.slice none 0 0,.slice none 0 0]) 3 56 Tryz.underlying29 hi iz0 iz1 iz2 rfl (by decide) v n xs hs hown ⟨g,0,none⟩ 1 1 [.int .i64 i,.slice ua un uc,.slice sa sn sc] hx rfl ?_ ?_ ?_ ?_ hB ?_
 ·intro q u hq;match q,hq with
  | 0,hq=>simp at hq;subst hq;simpa [Addr.add]using c0
  | 1,hq=>simp at hq;subst hq;simpa [Addr.add]using c1
  | 2,hq=>simp at hq;subst hq;simpa [Addr.add]using c2
 ·intro u hu;simp at hu;rcases hu with rfl | rfl | rfl<;>rfl
 ·unfold maxLen;omega
 ·omega
 ·intro v' w3 hown' hgrow _;exact h v' w3 hown' hgrow
theorem int_cellsA {W:World} {A:Option Addr} {l:List Int} (h:IntRow W A l): ∀ad,A=some ad→ ∀j u,(l.map (Value.int .i64))[j]? =some u→W.cell? (ad.add j)=some u:=by
 intro ad hA j u hu;have hj:j<l.length:=by have:=(List.getElem?_eq_some_iff.1 hu).1;rwa [List.length_map]at this
 obtain⟨b,o,e,_,c⟩:=h.2 j hj;rw [hA]at e;cases e
 rw [Qel l j hj]at hu;cases hu
 rw [Go.WideShapes.add_plain];exact c
theorem int_none {W:World} {A:Option Addr} {l:List Int} (h:IntRow W A l) (hA:A=none):l.length=0:=by
 cases l with
 | nil=>rfl
 | cons x r=>obtain⟨b,o,e,_⟩:=h.2 0 (by simp);rw [hA]at e;cases e
theorem int_oneC (l:List Int): ∀u∈l.map (Value.int .i64),u.oneCell'=true:=by
 intro u hu;obtain⟨i,_,rfl⟩:=List.mem_map.1 hu;rfl
theorem impl_listCopyI {A:Option Addr} {n c:Nat} {l:List Int} (w:World) (h:IntRow w A l) (hL:l.length=n) (hn:n≤1048576):
  Calls Tryz.prog 94 #[.slice A n c] w fun e w'=> ∃A' c',e= .returned (.slice A' n c')∧w'.ownsRow w.heap.size 2 1 (.slice A' n c') n (l.map (Value.int .i64))∧Below w.heap.size w w':=by
 have HR:Hid (IntRow w A l):=h;have HL:Hid (l.length=n):=hL;have HX:Hid ((l.map (Value.int .i64)).length=n*1):=by show _=_;rw [List.length_map,hL];omega
 obtain⟨i0,hi,iz0,iz1,iz2⟩:=info_parts MY;clear h hL;go_enter Tryz.func94,Tryz.ntmps94
 go_wp2_with (first
  | (at_builtin;refine wpList_copyG 62 2 i0 (.int .i64 0) 1 8 Tryz.underlying62 hi iz0 iz1 iz2 rfl (by decide) rfl _ _ rfl w.heap.size (Nat.le_refl _) _ rfl (World.ownsRow_nil _ _ _ _) A n c (l.map (Value.int .i64)) rfl HX.out (fun e=>HL.out.symm.trans (int_none HR.out e)) (int_cellsA HR.out) (int_oneC l) (by unfold maxLen;omega) (by omega) ?_)
  | fail)
 intro A' c' w' ho hg;have HO:Hid (w'.ownsRow w.heap.size 2 1 (.slice A' n c') n (l.map (Value.int .i64))):=ho;have HB:Hid (Below w.heap.size w w'):=(Below.refl _ _).grown hg (Nat.le_refl _) (fun j hj=>by cases hj);clear ho hg;go_wp2_with fail
 go_ret;exact⟨A',c',rfl,HO.out,HB.out⟩
theorem br_cells {W:World} {A:Option Addr} {L:List BR} (h:ZT W A L): ∀ad,A=some ad→ ∀j u,(Jf brL L)[j]? =some u→W.cell? (ad.add j)=some u:=by
 intro ad hA j u hu;have hj:j<L.length*2:=by rw [←Db Ni];exact(List.getElem?_eq_some_iff.1 hu).1
 have e:j=(j/2)*2+j%2:=by omega
 have hm:j%2<2:=by omega
 rw [e,Nb Ni _ hm]at hu;cases hx:L[j/2]? with
 | none=>rw [hx]at hu;cases hu
 | some x=>
  rw [hx]at hu;obtain⟨b,o,e',_,hc⟩:=h.2 _ x hx;rw [hA]at e';cases e'
  have:=hc _ u hu
  have e2:(⟨b,o,none⟩:Addr).add j=⟨b,o+j/2*2+j%2,none⟩:=by
   rw [Go.WideShapes.add_plain];congr 1
   omega
  rw [e2];exact this
theorem br_none {W:World} {A:Option Addr} {L:List BR} (h:ZT W A L) (hA:A=none):L.length=0:=by
 cases L with
 | nil=>rfl
 | cons x r=>obtain⟨b,o,e,_⟩:=h.2 0 x (by simp);rw [hA]at e;cases e
theorem br_oneC (L:List BR): ∀u∈Jf brL L,u.oneCell'=true:=by
 intro u hu;obtain⟨x,_,hx⟩:=List.mem_flatMap.1 hu;simp only [brL,List.mem_cons,List.not_mem_nil,or_false]at hx;rcases hx with rfl | rfl<;>rfl
theorem impl_listCopyB {A:Option Addr} {n c:Nat} {L:List BR} (w:World) (h:ZT w A L) (hL:L.length=n) (hn:n≤1048576):
  Calls Tryz.prog 93 #[.slice A n c] w fun e w'=> ∃A' c',e= .returned (.slice A' n c')∧w'.ownsRow w.heap.size 79 2 (.slice A' n c') n (Jf brL L)∧Below w.heap.size w w':=by
 have HR:Hid (ZT w A L):=h;have HL:Hid (L.length=n):=hL;have HX:Hid ((Jf brL L).length=n*2):=by show _=_;rw [Db Ni,hL]
 obtain⟨i0,hi,iz0,iz1,iz2⟩:=info_parts Qj4;clear h hL;go_enter Tryz.func93,Tryz.ntmps93
 go_wp2_with (first
  | (at_builtin;refine wpList_copyG 30 79 i0 (.agg #[.string ⟨#[]⟩,.int .i64 0]) 2 24 Tryz.underlying30 hi iz0 iz1 iz2 rfl (by decide) rfl _ _ rfl w.heap.size (Nat.le_refl _) _ rfl (World.ownsRow_nil _ _ _ _) A n c (Jf brL L) rfl HX.out (fun e=>HL.out.symm.trans (br_none HR.out e)) (br_cells HR.out) (br_oneC L) (by unfold maxLen;omega) (by omega) ?_)
  | fail)
 intro A' c' w' ho hg;have HO:Hid (w'.ownsRow w.heap.size 79 2 (.slice A' n c') n (Jf brL L)):=ho;have HB:Hid (Below w.heap.size w w'):=(Below.refl _ _).grown hg (Nat.le_refl _) (fun j hj=>by cases hj);clear ho hg;go_wp2_with fail
 go_ret;exact⟨A',c',rfl,HO.out,HB.out⟩
theorem NBx.lit {B nb:Nat} {nx:Int} {A2:Option Addr} {c2:Nat} {bs:List BR} {X q:World} (hB:B≤q.heap.size) (hb:Below B X q) (ho:q.ownsRow B 79 2 (.slice A2 nb c2) nb (Jf brL bs)) (L:List VR):
  CpL B q.heap.size nx (.slice A2 nb c2) nb bs X L 0 (q.alloc (.cells #[.int .i64 nx,.slice none 0 0,.slice A2 nb c2] 32)):=
 ⟨⟨by simp,⟨.slice none 0 0,by simp⟩,by simp,fun o=>by simp,⟨_,_,heap_alloc_new q _⟩,ho.alloc _,hb.alloc hB _⟩,.slice none 0 0,[],by simp,World.ownsRow_nil _ _ _ _,fun i x hi=>by omega,fun i j hi=>by omega⟩
theorem CpL.put {B g nb:Nat} {nx:Int} {A2:Option Addr} {c2:Nat} {bs:List BR} {X q:World} {a b c:Value} (gb:q.heap[g]? =some (.cells #[a,b,c] 32 (0,0))) (hB:B≤g) (hb:Below B X q) (ho:q.ownsRow B 79 2 (.slice A2 nb c2) nb (Jf brL bs)) (L:List VR):
  CpL B g nx (.slice A2 nb c2) nb bs X L 0 (((q.setCell ⟨g,0,none⟩ (.int .i64 nx)).setCell ⟨g,1,none⟩ (.slice none 0 0)).setCell ⟨g,2,none⟩ (.slice A2 nb c2)):=by
 have h0:q.ownsRow B 32 3 (.slice (some ⟨g,0,none⟩) 1 1) 1 [a,b,c]:=⟨rfl,Or.inr ⟨g,1,#[a,b,c],rfl,hB,gb,Nat.le_refl _,by unfold maxLen;omega,rfl,rfl⟩⟩;obtain⟨h1,h2⟩:=MR [.int .i64 nx,.slice none 0 0,.slice A2 nb c2] q 0 _ h0;simp only [Ua,Kp,List.set_cons_zero,List.set_cons_succ,Nat.zero_add,Nat.reduceAdd]at h1 h2;have hz:B≤q.heap.size:=Nat.le_trans hB (Nat.le_of_lt (heap_lt gb));have e0:=h1.cellAt 0 (by omega);have e1:=h1.cellAt 1 (by omega);have e2:=h1.cellAt 2 (by omega)
 refine⟨⟨e0,⟨_,e1⟩,e2,fun o=>h1.frozenAt o,?_,ho.kept h2 (Qkt ho h0 (by decide)),hb.grown h2 hz (fun j hj=>by cases hj;exact hB)⟩,.slice none 0 0,[],e1,World.ownsRow_nil _ _ _ _,fun i x hi=>by omega,fun i j hi=>by omega⟩;rcases h1.2 with⟨e9,_⟩ | ⟨g',cap,cur,e9,_,hg',_⟩
 ·cases e9
 ·cases e9;exact⟨cur,_,hg'⟩
theorem DgO.setB {W:World} {B g o:Nat} {v x:Value} {d:DG} (h:DgO W B v d) (hg:g<B):DgO (W.setCell ⟨g,o,none⟩ x) B v d:=by
 have key: ∀{e:TypeId} {s n:Nat} {v:Value} {xs:List Value},W.ownsRow B e s v n xs→(W.setCell ⟨g,o,none⟩ x).ownsRow B e s v n xs:=fun{e s n v xs} h=>h.kept (grown_set W g o x) (by
  cases hv:v.ownBlock with
  | none=>exact Or.inl rfl
  | some q=>exact Or.inr (fun e=>by have:=(h.lt q hv).1;cases e;omega))
 obtain⟨v1,v2,ys,rfl,h1,h2,h4,h3⟩:=h;refine⟨v1,v2,ys,rfl,key h1,fun i y hi hy=> ?_,h4,key h3⟩;obtain⟨u,uc,s,sc,y0,y1,y2,k1,k2⟩:=h2 i y hi hy;exact⟨u,uc,s,sc,y0,y1,y2,key k1,key k2⟩
theorem impl_dcopied {v:Value} {d:DG} (w:World) (h:DgRow w v d) (hl:DgLil d):
  Calls Tryz.prog 60 #[v] w fun e w'=> ∃v',e= .returned v'∧DgO w' w.heap.size v' d∧Below w.heap.size w w':=by
 obtain⟨A1,n1,c1,A2,n2,c2,rfl⟩:=h.agg;obtain⟨r1,e1,r2,e2⟩:=h.open;have R1:Hid (VrRow w A1 d.vs):=r1;have R2:Hid (ZT w A2 d.bs):=r2;have E1:Hid (d.vs.length=n1):=e1;have E2:Hid (d.bs.length=n2):=e2;have HL:Hid (DgLil d):=hl
 have hn1:n1≤1048576:=by rw [←e1];exact hl.nv
 have hn2:n2≤1048576:=by rw [←e2];exact hl.nb
 clear h r1 r2 e1 e2 hl;go_enter Tryz.func60,Tryz.ntmps60;go_upto_region 1 with fail
 obtain⟨X,HX⟩: ∃X,Hid ((w.alloc (.cells #[.int .i64 d.next,.slice A1 n1 c1,.slice A2 n2 c2] 32)).alloc (.cells #[.int .i64 0,.slice none 0 0,.slice none 0 0] 32)=X):=⟨_,rfl⟩;rw [HX.out];have x0:X.cell? ⟨w.heap.size,0,none⟩=some (.int .i64 d.next):=by rw [←HX.out];go_simp
 have x1:X.cell? ⟨w.heap.size,1,none⟩=some (.slice A1 n1 c1):=by rw [←HX.out];go_simp
 have x2:X.cell? ⟨w.heap.size,2,none⟩=some (.slice A2 n2 c2):=by rw [←HX.out];go_simp
 have p0:X.cell? ⟨w.heap.size+1,0,none⟩=some (.int .i64 0):=by rw [←HX.out];go_simp
 have p1:X.cell? ⟨w.heap.size+1,1,none⟩=some (.slice none 0 0):=by rw [←HX.out];go_simp
 have p2:X.cell? ⟨w.heap.size+1,2,none⟩=some (.slice none 0 0):=by rw [←HX.out];go_simp
 have pf: ∀o,X.frozen? ⟨w.heap.size+1,o,none⟩=false:=fun o=>by rw [←HX.out];go_simp
 have ZX:Hid (X.heap.size=w.heap.size+2):=by rw [←HX.out];show _=_;simp
 have zX0:w.heap.size<X.heap.size:=by have:=ZX.out;omega
 have zX1:w.heap.size+1<X.heap.size:=by have:=ZX.out;omega
 have KX:Hid (Below w.heap.size w X):=by rw [←HX.out];show Below _ _ _;go_grown
 clear HX;go_cut [3] (fun p wx=> ∃g A3 c3,p= .pointer (some ⟨g,0,none⟩)∧X.heap.size≤g∧CpL X.heap.size g d.next (.slice A3 n2 c3) n2 d.bs X d.vs 0 wx)
 case first=>
  go_region_held3 (fun w'=>(∀bq oq,bq<X.heap.size→w'.cell? ⟨bq,oq,none⟩=X.cell? ⟨bq,oq,none⟩)∧X.heap.size≤w'.heap.size∧Below X.heap.size X w')
   (exact Qj (Nat.le_refl _) (by go_grown))
   (first
   | (go_at_call 93;refine(impl_listCopyB _ (R2.out.below (Qb KX.out (by go_grown))) E2.out hn2).mono ?_;rintro e y1 ⟨A3,c3,rfl,ho,hb⟩;have HBB:Hid (Below _ _ y1):=hb;have HOB:Hid (y1.ownsRow X.heap.size 79 2 (.slice A3 n2 c3) n2 (Jf brL d.bs)):=Zc ho (by go_size);obtain⟨hk1,hz1⟩:=Qe (B:=X.heap.size) (X:=X) (by go_grown) (by go_size) hb;have HK1:Hid (Below X.heap.size X y1):=hk1;obtain⟨hC,hF,hL,hE⟩:=kp hb;(try simp only [World.size_drew]at hC hF hL hE);(try (refine cutLt (x:=X.heap.size) ?_ hb.size (fun hq=> ?_);(focus (go_size;done))));clear hb ho))
  all_goals
   go_wp2_with fail
   go_meet
  ·exact⟨_,A3,c3,rfl,hz1,NBx.lit hz1 HK1.out HOB.out _⟩
  ·exact⟨_,A3,c3,rfl,Nat.le_refl _,CpL.put ((HBB.out.block _ (by simp)).trans (heap_alloc_new X _)) (Nat.le_refl _) HK1.out HOB.out _⟩
 case rest=>
 obtain⟨g,A3,c3,rfl,hg,hcp⟩:=hcut;have HCP:Hid (CpL X.heap.size g d.next (.slice A3 n2 c3) n2 d.bs X d.vs 0 wc):=hcp;have k0:=cy hcp.nb.bel x0;have k1:=cy hcp.nb.bel x1;have k2:=cy hcp.nb.bel x2;have zc:w.heap.size<wc.heap.size:=Nat.lt_of_lt_of_le zX0 hcp.nb.bel.size;clear hcp
 go_wp2_with fail
 go_loopw [15] (fun i wr=> ∃t:Nat,t≤n1∧i= .int .i64 t∧CpL X.heap.size g d.next (.slice A3 n2 c3) n2 d.bs X d.vs t wr) (fun i _=>n1-(intOf i).toNat)
 case atStart=>exact⟨0,Nat.zero_le _,rfl,HCP.out⟩
 case round=>
  clear HCP k0 k1 k2 zc;obtain⟨t,ht,rfl,hcp⟩:=hrel;have HN:Hid (NBx X.heap.size g d.next (.slice A3 n2 c3) n2 d.bs X wr):=hcp.nb;obtain⟨v1,ys,hv1,ho1,hp1,ha1⟩:=hcp.vs;obtain⟨E1',f1,rfl,_,_⟩:=Qo ho1;have HBX:Hid (Below X.heap.size X wr):=hcp.nb.bel;have HNG:Hid (∃c r,wr.heap[g]? =some (.cells c 32 r)):=hcp.nb.gb
  have hg0:X.heap.size≤g:=hg;have zr:X.heap.size≤wr.heap.size:=HBX.out.size;clear hcp;by_cases hlt:t<n1
  ·obtain⟨x,hx⟩:=ZD E1.out hlt;have HXT:Hid (d.vs[t]? =some x):=hx;have HXL:Hid (JS x):=HL.out.v x (List.mem_of_getElem? hx);obtain⟨vb,vo,u,uc,s,sc,rfl,hvl,a0,a1,a2,ru,rs⟩:=R1.out.2 t x hx;have RU:Hid (IntRow w u x.ups):=ru;have RS:Hid (ClRow w s x.m x.C x.R x.S):=rs;obtain⟨un,HUN⟩: ∃un,Hid (x.ups.length=un):=⟨_,rfl⟩
   obtain⟨mn,HMN⟩: ∃mn,Hid (x.m=mn):=⟨_,rfl⟩;have hun:un≤1048576:=by rw [←HUN.out];exact HXL.out.1
   have hmn:mn≤1048576:=by rw [←HMN.out];exact HXL.out.2
   rw [HUN.out]at a1;rw [HMN.out]at a2;have KR:Hid (Below w.heap.size w wr):=KX.out.trans (HBX.out.mono (by omega));rw [←KR.out.cell (p:=⟨_,_,none⟩) hvl]at a0 a1 a2;have hvz:vb<wr.heap.size:=Nat.lt_of_lt_of_le hvl KR.out.size;have q0:(0:Int)≤(t:Int):=by omega
   have q1:(t:Int)<(n1:Int):=by omega
   have HYL:Hid (ys.length=t*3):=ho1.1;have HAP:Hid (VrApt ys t):=ha1
   have HLT:Hid (VrLt ys t wr.heap.size):=fun i hi=>by
    obtain⟨y,hy⟩:=ZD E1.out (show i<n1 by omega);obtain⟨u',uc',s',sc',_,y1,y2,k1,k2⟩:=hp1 i y hi hy;rw [blkAt_some y1,blkAt_some y2];exact⟨fun q hq=>(k1.lt q hq).2,fun q hq=>(k2.lt q hq).2⟩
   have HV1:Hid (∀k,(Value.slice E1' t f1).ownBlock=some k→k<wr.heap.size):=fun k hk=>(ho1.lt k hk).2;clear hx ru rs ha1;go_upto_region 5 with fail
   obtain⟨w5,HW5⟩: ∃w5,Hid (wr.alloc (.cells #[.int .i64 x.id,.slice u un uc,.slice s mn sc] 89)=w5):=⟨_,rfl⟩;rw [HW5.out];have hb5:Below wr.heap.size wr w5:=by rw [←HW5.out];exact(Below.refl _ _).alloc (Nat.le_refl _) _
   have VE0:Hid ((w5.drew.cell? ⟨wr.heap.size,0,none⟩=some (.int .i64 x.id)∧w5.drew.cell? ⟨wr.heap.size,1,none⟩=some (.slice u un uc)∧w5.drew.cell? ⟨wr.heap.size,2,none⟩=some (.slice s mn sc))∧wr.heap.size<w5.drew.heap.size):=by
    rw [←HW5.out];exact⟨VCell.at,by simp⟩
   have hb6:Below wr.heap.size wr w5.drew:=hb5.drew;have S0:=hd (HN.out.below zr hb6);have lb0:X.heap.size≤w5.drew.heap.size:=Nat.le_trans zr hb6.size;have RV0:=hd (Ql ho1 hb6);have PV0:Hid (VrPart w5.drew X.heap.size ys d.vs t):=hp1.below hb6;have nn0:w5.drew.cell? ⟨g,1,none⟩=some (.slice E1' t f1):=cy hb6 hv1;clear hb5 hb6 ho1 hp1 hv1 HN a0 a1 a2 hvz
   refine wp_region_held_drew (S:=(fun w'=>(w'.cell? ⟨wr.heap.size,0,none⟩=some (.int .i64 x.id)∧w'.cell? ⟨wr.heap.size,1,none⟩=some (.slice u un uc)∧w'.cell? ⟨wr.heap.size,2,none⟩=some (.slice s mn sc))∧wr.heap.size<w'.heap.size)) (by kernel_rfl) VE0.out (fun hHeld=> ?_);have hgV:g<wr.heap.size:=by obtain⟨c,r,gb⟩:=HNG.out;exact heap_lt gb
   refine tkA 0 ?_;refine tkB 2 ?_;refine tkA 3 ?_;refine tkB 4 ?_;refine tkA 5 ?_;refine tkB 7 ?_;refine tkB 8 ?_
   refine rqB 1 6 (fun Kq hKq=> ?_) (fun Kq hKq=> ?_)
   ·go_simp;refine hkB hKq (VE0.out) fun hHeld=> ?_;clear hKq Kq;refine rqA 6 (fun Kq hKq=> ?_);go_simp;refine(impl_listCopyI _ (RU.out.below (KX.out.trans (S0.out.bel.mono (by omega)))) HUN.out hun).mono ?_;rintro e q1 ⟨D1,e1,rfl,ho,hb⟩
    have N1:=hd (Zc ho (Nat.le_of_lt VE0.out.2));have S1:=hd (S0.out.below lb0 hb);have lb1:X.heap.size≤q1.heap.size:=Nat.le_trans lb0 hb.size;have RV1:=hd (Ql RV0.out hb);have PV1:=hd (PV0.out.below hb);have VE1:Hid ((q1.cell? ⟨wr.heap.size,0,none⟩=some (.int .i64 x.id)∧q1.cell? ⟨wr.heap.size,1,none⟩=some (.slice u un uc)∧q1.cell? ⟨wr.heap.size,2,none⟩=some (.slice s mn sc))∧wr.heap.size<q1.heap.size):=⟨⟨cy hb VE0.out.1.1,cy hb VE0.out.1.2.1,cy hb VE0.out.1.2.2⟩,Nat.lt_of_lt_of_le VE0.out.2 hb.size⟩;have nn1:q1.cell? ⟨g,1,none⟩=some (.slice E1' t f1):=cy hb nn0
    clear hb ho;refine hkB hKq (VE1.out) fun hHeld=> ?_;clear hKq Kq;refine rqA 9 (fun Kq hKq=> ?_);go_simp;refine(impl_listCopyC _ (show ClRow _ _ mn _ _ _ from by rw [←HMN.out];exact RS.out.below (KX.out.trans (S1.out.bel.mono (by omega)))) hmn).mono ?_;rintro e q2 ⟨D2,e2,rfl,ho,hb⟩
    have N2:=hd (Zc ho (Nat.le_of_lt VE1.out.2));have S2:=hd (S1.out.below lb1 hb);have lb2:X.heap.size≤q2.heap.size:=Nat.le_trans lb1 hb.size;have RV2:=hd (Ql RV1.out hb);have PV2:=hd (PV1.out.below hb);have VE2:Hid ((q2.cell? ⟨wr.heap.size,0,none⟩=some (.int .i64 x.id)∧q2.cell? ⟨wr.heap.size,1,none⟩=some (.slice u un uc)∧q2.cell? ⟨wr.heap.size,2,none⟩=some (.slice s mn sc))∧wr.heap.size<q2.heap.size):=⟨⟨cy hb VE1.out.1.1,cy hb VE1.out.1.2.1,cy hb VE1.out.1.2.2⟩,Nat.lt_of_lt_of_le VE1.out.2 hb.size⟩;have nn2:q2.cell? ⟨g,1,none⟩=some (.slice E1' t f1):=cy hb nn1
    have UO2:=hd (Ql N1.out hb);clear hb ho;refine hkB hKq (VE2.out) fun hHeld=> ?_;clear hKq Kq;refine tkB 10 ?_;refine rqA 11 (fun Kq hKq=> ?_);go_simp
    obtain⟨q3,HQ3⟩: ∃q,Hid (q2.alloc (.cells #[.int .i64 x.id,.slice D1 un e1,.slice D2 mn e2] 89)=q):=⟨_,rfl⟩;rw [HQ3.out];have hb:Below q2.heap.size q2 q3:=by rw [←HQ3.out];exact(Below.refl _ _).alloc (Nat.le_refl _) _
    have VC3:Hid (VCell q3 q2.heap.size x.id (.slice D1 un e1) (.slice D2 mn e2)):=by rw [←HQ3.out];exact VCell.at
    have S3:=hd (S2.out.below lb2 hb);have lb3:X.heap.size≤q3.heap.size:=Nat.le_trans lb2 hb.size;have RV3:=hd (Ql RV2.out hb);have PV3:=hd (PV2.out.below hb);have VE3:Hid ((q3.cell? ⟨wr.heap.size,0,none⟩=some (.int .i64 x.id)∧q3.cell? ⟨wr.heap.size,1,none⟩=some (.slice u un uc)∧q3.cell? ⟨wr.heap.size,2,none⟩=some (.slice s mn sc))∧wr.heap.size<q3.heap.size):=⟨⟨cy hb VE2.out.1.1,cy hb VE2.out.1.2.1,cy hb VE2.out.1.2.2⟩,Nat.lt_of_lt_of_le VE2.out.2 hb.size⟩;have nn3:q3.cell? ⟨g,1,none⟩=some (.slice E1' t f1):=cy hb nn2;have UO3:=hd (Ql UO2.out hb)
    have CO3:=hd (Ql N2.out hb);clear hb;refine hkB hKq (VE3.out) fun hHeld=> ?_;clear hKq Kq;refine rqA 12 (fun Kq hKq=> ?_);refine step_app_vr (by rfl) _ _ (by rfl) X.heap.size (.slice E1' t f1) t ys (by rfl) RV3.out x.id D1 un e1 D2 mn e2 q2.heap.size (by rfl) VC3.out (by omega) lb3 ?_;intro va4 q4 ho hg
    obtain⟨F4,h4,rfl,_,_⟩:=Qo ho;have S4:=hd (S3.out.grown lb3 RV3.out hg);have hne4:some wr.heap.size≠(Value.slice E1' t f1).ownBlock:=fun e=>Nat.lt_irrefl _ (HV1.out _ e.symm);have VE4:Hid ((q4.cell? ⟨wr.heap.size,0,none⟩=some (.int .i64 x.id)∧q4.cell? ⟨wr.heap.size,1,none⟩=some (.slice u un uc)∧q4.cell? ⟨wr.heap.size,2,none⟩=some (.slice s mn sc))∧wr.heap.size<q4.heap.size):=⟨⟨hg.cell VE3.out.1.1 hne4,hg.cell VE3.out.1.2.1 hne4,hg.cell VE3.out.1.2.2 hne4⟩,Nat.lt_of_lt_of_le VE3.out.2 hg.size⟩
    have EE4:Hid (CpL X.heap.size g d.next (.slice A3 n2 c3) n2 d.bs X d.vs (t+1) (q4.setCell ⟨g,1,none⟩ (.slice F4 (t+1) h4))):=by
     refine CpL.next (x:=x) (ys:=ys) (u:=D1) (uc:=e1) (s:=D2) (sc:=e2) S4.out hg0 zr ?_ HYL.out HXT.out (PV3.out.keptV RV3.out hg) HAP.out HLT.out ?_ ?_
     ·rw [HUN.out,HMN.out];exact ho
     ·rw [HUN.out];exact UO3.out.kept hg (Qkt UO3.out RV3.out (by decide))
     ·rw [HMN.out];exact CO3.out.kept hg (Qkt CO3.out RV3.out (by decide))
    obtain⟨gx4,gc4⟩:=S4.out.c1;have gf4:=S4.out.nf 1;have gl4:g<q4.heap.size:=World.block_lt_of_cell? q4 ⟨g,1,none⟩ gc4;clear hg ho;refine hkB hKq (VE4.out) fun hHeld=> ?_;clear hKq Kq;refine tkB 13 ?_
    refine rqA 14 (fun Kq hKq=> ?_);go_simp;have VE5:Hid (((q4.setCell ⟨g,1,none⟩ (.slice F4 (t+1) h4)).cell? ⟨wr.heap.size,0,none⟩=some (.int .i64 x.id)∧(q4.setCell ⟨g,1,none⟩ (.slice F4 (t+1) h4)).cell? ⟨wr.heap.size,1,none⟩=some (.slice u un uc)∧(q4.setCell ⟨g,1,none⟩ (.slice F4 (t+1) h4)).cell? ⟨wr.heap.size,2,none⟩=some (.slice s mn sc))∧wr.heap.size<(q4.setCell ⟨g,1,none⟩ (.slice F4 (t+1) h4)).heap.size):=⟨⟨(World.cell?_setCell_other _ _ _ _ (by intro e;cases e<;>exact absurd hgV (Nat.lt_irrefl _))).trans VE4.out.1.1,(World.cell?_setCell_other _ _ _ _ (by intro e;cases e<;>exact absurd hgV (Nat.lt_irrefl _))).trans VE4.out.1.2.1,(World.cell?_setCell_other _ _ _ _ (by intro e;cases e<;>exact absurd hgV (Nat.lt_irrefl _))).trans VE4.out.1.2.2⟩,by simpa using VE4.out.2⟩;refine hkB hKq (VE5.out) fun hHeld=> ?_;clear hKq Kq;refine wpAnyH_done (by kernel_rfl) ?_ _;clear hHeld
    go_wp2_with fail
    go_roundw
    case rel=>exact⟨t+1,by omega,by go_num,EE4.out⟩
    case measure=>simp [intOf];omega
   ·go_simp;refine(impl_listCopyI _ (RU.out.below (KX.out.trans (S0.out.bel.mono (by omega)))) HUN.out hun).mono ?_;rintro e q6 ⟨D6,e6,rfl,ho,hb⟩;have N6:=hd (Zc ho (Nat.le_of_lt VE0.out.2));have S6:=hd (S0.out.below lb0 hb);have lb6:X.heap.size≤q6.heap.size:=Nat.le_trans lb0 hb.size;have RV6:=hd (Ql RV0.out hb)
    have PV6:=hd (PV0.out.below hb);have VE6:Hid ((q6.cell? ⟨wr.heap.size,0,none⟩=some (.int .i64 x.id)∧q6.cell? ⟨wr.heap.size,1,none⟩=some (.slice u un uc)∧q6.cell? ⟨wr.heap.size,2,none⟩=some (.slice s mn sc))∧wr.heap.size<q6.heap.size):=⟨⟨cy hb VE0.out.1.1,cy hb VE0.out.1.2.1,cy hb VE0.out.1.2.2⟩,Nat.lt_of_lt_of_le VE0.out.2 hb.size⟩;have nn6:q6.cell? ⟨g,1,none⟩=some (.slice E1' t f1):=cy hb nn0;clear hb ho;refine hkB hKq (VE6.out) fun hHeld=> ?_;clear hKq Kq;refine rqB 1 9 (fun Kq hKq=> ?_) (fun Kq hKq=> ?_)
    ·go_simp;refine hkB hKq (VE6.out) fun hHeld=> ?_;clear hKq Kq;refine rqA 9 (fun Kq hKq=> ?_);go_simp;refine(impl_listCopyC _ (show ClRow _ _ mn _ _ _ from by rw [←HMN.out];exact RS.out.below (KX.out.trans (S6.out.bel.mono (by omega)))) hmn).mono ?_;rintro e q7 ⟨D7,e7,rfl,ho,hb⟩
     have N7:=hd (Zc ho (Nat.le_of_lt VE6.out.2));have S7:=hd (S6.out.below lb6 hb);have lb7:X.heap.size≤q7.heap.size:=Nat.le_trans lb6 hb.size;have RV7:=hd (Ql RV6.out hb);have PV7:=hd (PV6.out.below hb);have VE7:Hid ((q7.cell? ⟨wr.heap.size,0,none⟩=some (.int .i64 x.id)∧q7.cell? ⟨wr.heap.size,1,none⟩=some (.slice u un uc)∧q7.cell? ⟨wr.heap.size,2,none⟩=some (.slice s mn sc))∧wr.heap.size<q7.heap.size):=⟨⟨cy hb VE6.out.1.1,cy hb VE6.out.1.2.1,cy hb VE6.out.1.2.2⟩,Nat.lt_of_lt_of_le VE6.out.2 hb.size⟩;have nn7:q7.cell? ⟨g,1,none⟩=some (.slice E1' t f1):=cy hb nn6
     have UO7:=hd (Ql N6.out hb);clear hb ho;refine hkB hKq (VE7.out) fun hHeld=> ?_;clear hKq Kq;refine tkB 10 ?_;refine rqA 11 (fun Kq hKq=> ?_);go_simp
     obtain⟨q8,HQ8⟩: ∃q,Hid (q7.alloc (.cells #[.int .i64 x.id,.slice D6 un e6,.slice D7 mn e7] 89)=q):=⟨_,rfl⟩;rw [HQ8.out];have hb:Below q7.heap.size q7 q8:=by rw [←HQ8.out];exact(Below.refl _ _).alloc (Nat.le_refl _) _
     have VC8:Hid (VCell q8 q7.heap.size x.id (.slice D6 un e6) (.slice D7 mn e7)):=by rw [←HQ8.out];exact VCell.at
     have S8:=hd (S7.out.below lb7 hb);have lb8:X.heap.size≤q8.heap.size:=Nat.le_trans lb7 hb.size;have RV8:=hd (Ql RV7.out hb);have PV8:=hd (PV7.out.below hb);have VE8:Hid ((q8.cell? ⟨wr.heap.size,0,none⟩=some (.int .i64 x.id)∧q8.cell? ⟨wr.heap.size,1,none⟩=some (.slice u un uc)∧q8.cell? ⟨wr.heap.size,2,none⟩=some (.slice s mn sc))∧wr.heap.size<q8.heap.size):=⟨⟨cy hb VE7.out.1.1,cy hb VE7.out.1.2.1,cy hb VE7.out.1.2.2⟩,Nat.lt_of_lt_of_le VE7.out.2 hb.size⟩;have nn8:q8.cell? ⟨g,1,none⟩=some (.slice E1' t f1):=cy hb nn7;have UO8:=hd (Ql UO7.out hb)
     have CO8:=hd (Ql N7.out hb);clear hb;refine hkB hKq (VE8.out) fun hHeld=> ?_;clear hKq Kq;refine rqA 12 (fun Kq hKq=> ?_);refine step_app_vr (by rfl) _ _ (by rfl) X.heap.size (.slice E1' t f1) t ys (by rfl) RV8.out x.id D6 un e6 D7 mn e7 q7.heap.size (by rfl) VC8.out (by omega) lb8 ?_;intro va9 q9 ho hg
     obtain⟨F9,h9,rfl,_,_⟩:=Qo ho;have S9:=hd (S8.out.grown lb8 RV8.out hg);have hne9:some wr.heap.size≠(Value.slice E1' t f1).ownBlock:=fun e=>Nat.lt_irrefl _ (HV1.out _ e.symm);have VE9:Hid ((q9.cell? ⟨wr.heap.size,0,none⟩=some (.int .i64 x.id)∧q9.cell? ⟨wr.heap.size,1,none⟩=some (.slice u un uc)∧q9.cell? ⟨wr.heap.size,2,none⟩=some (.slice s mn sc))∧wr.heap.size<q9.heap.size):=⟨⟨hg.cell VE8.out.1.1 hne9,hg.cell VE8.out.1.2.1 hne9,hg.cell VE8.out.1.2.2 hne9⟩,Nat.lt_of_lt_of_le VE8.out.2 hg.size⟩
     have EE9:Hid (CpL X.heap.size g d.next (.slice A3 n2 c3) n2 d.bs X d.vs (t+1) (q9.setCell ⟨g,1,none⟩ (.slice F9 (t+1) h9))):=by
      refine CpL.next (x:=x) (ys:=ys) (u:=D6) (uc:=e6) (s:=D7) (sc:=e7) S9.out hg0 zr ?_ HYL.out HXT.out (PV8.out.keptV RV8.out hg) HAP.out HLT.out ?_ ?_
      ·rw [HUN.out,HMN.out];exact ho
      ·rw [HUN.out];exact UO8.out.kept hg (Qkt UO8.out RV8.out (by decide))
      ·rw [HMN.out];exact CO8.out.kept hg (Qkt CO8.out RV8.out (by decide))
     obtain⟨gx9,gc9⟩:=S9.out.c1;have gf9:=S9.out.nf 1;have gl9:g<q9.heap.size:=World.block_lt_of_cell? q9 ⟨g,1,none⟩ gc9;clear hg ho;refine hkB hKq (VE9.out) fun hHeld=> ?_;clear hKq Kq;refine tkB 13 ?_
     refine rqA 14 (fun Kq hKq=> ?_);go_simp;have VE10:Hid (((q9.setCell ⟨g,1,none⟩ (.slice F9 (t+1) h9)).cell? ⟨wr.heap.size,0,none⟩=some (.int .i64 x.id)∧(q9.setCell ⟨g,1,none⟩ (.slice F9 (t+1) h9)).cell? ⟨wr.heap.size,1,none⟩=some (.slice u un uc)∧(q9.setCell ⟨g,1,none⟩ (.slice F9 (t+1) h9)).cell? ⟨wr.heap.size,2,none⟩=some (.slice s mn sc))∧wr.heap.size<(q9.setCell ⟨g,1,none⟩ (.slice F9 (t+1) h9)).heap.size):=⟨⟨(World.cell?_setCell_other _ _ _ _ (by intro e;cases e<;>exact absurd hgV (Nat.lt_irrefl _))).trans VE9.out.1.1,(World.cell?_setCell_other _ _ _ _ (by intro e;cases e<;>exact absurd hgV (Nat.lt_irrefl _))).trans VE9.out.1.2.1,(World.cell?_setCell_other _ _ _ _ (by intro e;cases e<;>exact absurd hgV (Nat.lt_irrefl _))).trans VE9.out.1.2.2⟩,by simpa using VE9.out.2⟩;refine hkB hKq (VE10.out) fun hHeld=> ?_;clear hKq Kq;refine wpAnyH_done (by kernel_rfl) ?_ _;clear hHeld
     go_wp2_with fail
     go_roundw
     case rel=>exact⟨t+1,by omega,by go_num,EE9.out⟩
     case measure=>simp [intOf];omega
    ·go_simp;refine(impl_listCopyC _ (show ClRow _ _ mn _ _ _ from by rw [←HMN.out];exact RS.out.below (KX.out.trans (S6.out.bel.mono (by omega)))) hmn).mono ?_;rintro e q11 ⟨D11,e11,rfl,ho,hb⟩;have N11:=hd (Zc ho (Nat.le_of_lt VE6.out.2));have S11:=hd (S6.out.below lb6 hb);have lb11:X.heap.size≤q11.heap.size:=Nat.le_trans lb6 hb.size;have RV11:=hd (Ql RV6.out hb)
     have PV11:=hd (PV6.out.below hb);have VE11:Hid ((q11.cell? ⟨wr.heap.size,0,none⟩=some (.int .i64 x.id)∧q11.cell? ⟨wr.heap.size,1,none⟩=some (.slice u un uc)∧q11.cell? ⟨wr.heap.size,2,none⟩=some (.slice s mn sc))∧wr.heap.size<q11.heap.size):=⟨⟨cy hb VE6.out.1.1,cy hb VE6.out.1.2.1,cy hb VE6.out.1.2.2⟩,Nat.lt_of_lt_of_le VE6.out.2 hb.size⟩;have nn11:q11.cell? ⟨g,1,none⟩=some (.slice E1' t f1):=cy hb nn6;have UO11:=hd (Ql N6.out hb);clear hb ho;refine hkB hKq (VE11.out) fun hHeld=> ?_;clear hKq Kq
     refine tkB 10 ?_;refine rqB 1 11 (fun Kq hKq=> ?_) (fun Kq hKq=> ?_)
     ·go_simp;refine hkB hKq (VE11.out) fun hHeld=> ?_;clear hKq Kq;refine rqA 11 (fun Kq hKq=> ?_);go_simp;obtain⟨q12,HQ12⟩: ∃q,Hid (q11.alloc (.cells #[.int .i64 x.id,.slice D6 un e6,.slice D11 mn e11] 89)=q):=⟨_,rfl⟩;rw [HQ12.out]
      have hb:Below q11.heap.size q11 q12:=by rw [←HQ12.out];exact(Below.refl _ _).alloc (Nat.le_refl _) _
      have VC12:Hid (VCell q12 q11.heap.size x.id (.slice D6 un e6) (.slice D11 mn e11)):=by rw [←HQ12.out];exact VCell.at
      have S12:=hd (S11.out.below lb11 hb);have lb12:X.heap.size≤q12.heap.size:=Nat.le_trans lb11 hb.size;have RV12:=hd (Ql RV11.out hb);have PV12:=hd (PV11.out.below hb);have VE12:Hid ((q12.cell? ⟨wr.heap.size,0,none⟩=some (.int .i64 x.id)∧q12.cell? ⟨wr.heap.size,1,none⟩=some (.slice u un uc)∧q12.cell? ⟨wr.heap.size,2,none⟩=some (.slice s mn sc))∧wr.heap.size<q12.heap.size):=⟨⟨cy hb VE11.out.1.1,cy hb VE11.out.1.2.1,cy hb VE11.out.1.2.2⟩,Nat.lt_of_lt_of_le VE11.out.2 hb.size⟩;have nn12:q12.cell? ⟨g,1,none⟩=some (.slice E1' t f1):=cy hb nn11;have UO12:=hd (Ql UO11.out hb)
      have CO12:=hd (Ql N11.out hb);clear hb;refine hkB hKq (VE12.out) fun hHeld=> ?_;clear hKq Kq;refine rqA 12 (fun Kq hKq=> ?_);refine step_app_vr (by rfl) _ _ (by rfl) X.heap.size (.slice E1' t f1) t ys (by rfl) RV12.out x.id D6 un e6 D11 mn e11 q11.heap.size (by rfl) VC12.out (by omega) lb12 ?_;intro va13 q13 ho hg
      obtain⟨F13,h13,rfl,_,_⟩:=Qo ho;have S13:=hd (S12.out.grown lb12 RV12.out hg);have hne13:some wr.heap.size≠(Value.slice E1' t f1).ownBlock:=fun e=>Nat.lt_irrefl _ (HV1.out _ e.symm);have VE13:Hid ((q13.cell? ⟨wr.heap.size,0,none⟩=some (.int .i64 x.id)∧q13.cell? ⟨wr.heap.size,1,none⟩=some (.slice u un uc)∧q13.cell? ⟨wr.heap.size,2,none⟩=some (.slice s mn sc))∧wr.heap.size<q13.heap.size):=⟨⟨hg.cell VE12.out.1.1 hne13,hg.cell VE12.out.1.2.1 hne13,hg.cell VE12.out.1.2.2 hne13⟩,Nat.lt_of_lt_of_le VE12.out.2 hg.size⟩
      have EE13:Hid (CpL X.heap.size g d.next (.slice A3 n2 c3) n2 d.bs X d.vs (t+1) (q13.setCell ⟨g,1,none⟩ (.slice F13 (t+1) h13))):=by
       refine CpL.next (x:=x) (ys:=ys) (u:=D6) (uc:=e6) (s:=D11) (sc:=e11) S13.out hg0 zr ?_ HYL.out HXT.out (PV12.out.keptV RV12.out hg) HAP.out HLT.out ?_ ?_
       ·rw [HUN.out,HMN.out];exact ho
       ·rw [HUN.out];exact UO12.out.kept hg (Qkt UO12.out RV12.out (by decide))
       ·rw [HMN.out];exact CO12.out.kept hg (Qkt CO12.out RV12.out (by decide))
      obtain⟨gx13,gc13⟩:=S13.out.c1;have gf13:=S13.out.nf 1;have gl13:g<q13.heap.size:=World.block_lt_of_cell? q13 ⟨g,1,none⟩ gc13;clear hg ho;refine hkB hKq (VE13.out) fun hHeld=> ?_;clear hKq Kq;refine tkB 13 ?_
      refine rqA 14 (fun Kq hKq=> ?_);go_simp;have VE14:Hid (((q13.setCell ⟨g,1,none⟩ (.slice F13 (t+1) h13)).cell? ⟨wr.heap.size,0,none⟩=some (.int .i64 x.id)∧(q13.setCell ⟨g,1,none⟩ (.slice F13 (t+1) h13)).cell? ⟨wr.heap.size,1,none⟩=some (.slice u un uc)∧(q13.setCell ⟨g,1,none⟩ (.slice F13 (t+1) h13)).cell? ⟨wr.heap.size,2,none⟩=some (.slice s mn sc))∧wr.heap.size<(q13.setCell ⟨g,1,none⟩ (.slice F13 (t+1) h13)).heap.size):=⟨⟨(World.cell?_setCell_other _ _ _ _ (by intro e;cases e<;>exact absurd hgV (Nat.lt_irrefl _))).trans VE13.out.1.1,(World.cell?_setCell_other _ _ _ _ (by intro e;cases e<;>exact absurd hgV (Nat.lt_irrefl _))).trans VE13.out.1.2.1,(World.cell?_setCell_other _ _ _ _ (by intro e;cases e<;>exact absurd hgV (Nat.lt_irrefl _))).trans VE13.out.1.2.2⟩,by simpa using VE13.out.2⟩;refine hkB hKq (VE14.out) fun hHeld=> ?_;clear hKq Kq;refine wpAnyH_done (by kernel_rfl) ?_ _;clear hHeld
      go_wp2_with fail
      go_roundw
      case rel=>exact⟨t+1,by omega,by go_num,EE13.out⟩
      case measure=>simp [intOf];omega
     ·go_simp;obtain⟨q15,HQ15⟩: ∃q,Hid (q11.alloc (.cells #[.int .i64 x.id,.slice D6 un e6,.slice D11 mn e11] 89)=q):=⟨_,rfl⟩;rw [HQ15.out];have hb:Below q11.heap.size q11 q15:=by rw [←HQ15.out];exact(Below.refl _ _).alloc (Nat.le_refl _) _
      have VC15:Hid (VCell q15 q11.heap.size x.id (.slice D6 un e6) (.slice D11 mn e11)):=by rw [←HQ15.out];exact VCell.at
      have S15:=hd (S11.out.below lb11 hb);have lb15:X.heap.size≤q15.heap.size:=Nat.le_trans lb11 hb.size;have RV15:=hd (Ql RV11.out hb);have PV15:=hd (PV11.out.below hb);have VE15:Hid ((q15.cell? ⟨wr.heap.size,0,none⟩=some (.int .i64 x.id)∧q15.cell? ⟨wr.heap.size,1,none⟩=some (.slice u un uc)∧q15.cell? ⟨wr.heap.size,2,none⟩=some (.slice s mn sc))∧wr.heap.size<q15.heap.size):=⟨⟨cy hb VE11.out.1.1,cy hb VE11.out.1.2.1,cy hb VE11.out.1.2.2⟩,Nat.lt_of_lt_of_le VE11.out.2 hb.size⟩;have nn15:q15.cell? ⟨g,1,none⟩=some (.slice E1' t f1):=cy hb nn11;have UO15:=hd (Ql UO11.out hb)
      have CO15:=hd (Ql N11.out hb);clear hb;refine hkB hKq (VE15.out) fun hHeld=> ?_;clear hKq Kq;refine rqA 1 (fun Kq hKq=> ?_);go_simp;refine hkB hKq (VE15.out) fun hHeld=> ?_
      clear hKq Kq;refine rqA 12 (fun Kq hKq=> ?_);refine step_app_vr (by rfl) _ _ (by rfl) X.heap.size (.slice E1' t f1) t ys (by rfl) RV15.out x.id D6 un e6 D11 mn e11 q11.heap.size (by rfl) VC15.out (by omega) lb15 ?_;intro va16 q16 ho hg;obtain⟨F16,h16,rfl,_,_⟩:=Qo ho;have S16:=hd (S15.out.grown lb15 RV15.out hg);have hne16:some wr.heap.size≠(Value.slice E1' t f1).ownBlock:=fun e=>Nat.lt_irrefl _ (HV1.out _ e.symm)
      have VE16:Hid ((q16.cell? ⟨wr.heap.size,0,none⟩=some (.int .i64 x.id)∧q16.cell? ⟨wr.heap.size,1,none⟩=some (.slice u un uc)∧q16.cell? ⟨wr.heap.size,2,none⟩=some (.slice s mn sc))∧wr.heap.size<q16.heap.size):=⟨⟨hg.cell VE15.out.1.1 hne16,hg.cell VE15.out.1.2.1 hne16,hg.cell VE15.out.1.2.2 hne16⟩,Nat.lt_of_lt_of_le VE15.out.2 hg.size⟩
      have EE16:Hid (CpL X.heap.size g d.next (.slice A3 n2 c3) n2 d.bs X d.vs (t+1) (q16.setCell ⟨g,1,none⟩ (.slice F16 (t+1) h16))):=by
       refine CpL.next (x:=x) (ys:=ys) (u:=D6) (uc:=e6) (s:=D11) (sc:=e11) S16.out hg0 zr ?_ HYL.out HXT.out (PV15.out.keptV RV15.out hg) HAP.out HLT.out ?_ ?_
       ·rw [HUN.out,HMN.out];exact ho
       ·rw [HUN.out];exact UO15.out.kept hg (Qkt UO15.out RV15.out (by decide))
       ·rw [HMN.out];exact CO15.out.kept hg (Qkt CO15.out RV15.out (by decide))
      obtain⟨gx16,gc16⟩:=S16.out.c1;have gf16:=S16.out.nf 1;have gl16:g<q16.heap.size:=World.block_lt_of_cell? q16 ⟨g,1,none⟩ gc16;clear hg ho;refine hkB hKq (VE16.out) fun hHeld=> ?_;clear hKq Kq;refine tkB 13 ?_
      refine rqA 14 (fun Kq hKq=> ?_);go_simp;have VE17:Hid (((q16.setCell ⟨g,1,none⟩ (.slice F16 (t+1) h16)).cell? ⟨wr.heap.size,0,none⟩=some (.int .i64 x.id)∧(q16.setCell ⟨g,1,none⟩ (.slice F16 (t+1) h16)).cell? ⟨wr.heap.size,1,none⟩=some (.slice u un uc)∧(q16.setCell ⟨g,1,none⟩ (.slice F16 (t+1) h16)).cell? ⟨wr.heap.size,2,none⟩=some (.slice s mn sc))∧wr.heap.size<(q16.setCell ⟨g,1,none⟩ (.slice F16 (t+1) h16)).heap.size):=⟨⟨(World.cell?_setCell_other _ _ _ _ (by intro e;cases e<;>exact absurd hgV (Nat.lt_irrefl _))).trans VE16.out.1.1,(World.cell?_setCell_other _ _ _ _ (by intro e;cases e<;>exact absurd hgV (Nat.lt_irrefl _))).trans VE16.out.1.2.1,(World.cell?_setCell_other _ _ _ _ (by intro e;cases e<;>exact absurd hgV (Nat.lt_irrefl _))).trans VE16.out.1.2.2⟩,by simpa using VE16.out.2⟩;refine hkB hKq (VE17.out) fun hHeld=> ?_;clear hKq Kq;refine wpAnyH_done (by kernel_rfl) ?_ _;clear hHeld
      go_wp2_with fail
      go_roundw
      case rel=>exact⟨t+1,by omega,by go_num,EE16.out⟩
      case measure=>simp [intOf];omega
  ·have h1: ¬(t:Int)<(n1:Int):=by omega
   obtain rfl:t=n1:=by omega
   have b0:=HN.out.c0;have b2:=HN.out.c2;have m0:=cy HBX.out p0;have m1:=cy HBX.out p1;have m2:=cy HBX.out p2
   have mf: ∀o,wr.frozen? ⟨w.heap.size+1,o,none⟩=false:=fun o=>by
    rw [HBX.out.frozen (p:=⟨w.heap.size+1,o,none⟩) zX1];exact pf o
   have mz:w.heap.size+1<wr.heap.size:=Nat.lt_of_lt_of_le zX1 zr;have gz:g<wr.heap.size:=World.block_lt_of_cell? wr ⟨g,0,none⟩ b0
   have HD:Hid (DgO wr X.heap.size (.agg #[.int .i64 d.next,.slice E1' t f1,.slice A3 n2 c3]) d):=by
    refine⟨_,_,ys,rfl,?_,?_,?_,?_⟩
    ·rw [E1.out];exact ho1
    ·rw [E1.out];exact hp1
    ·rw [E1.out];exact ha1
    ·rw [E2.out];exact HN.out.o2
   have KR:Hid (Below w.heap.size w wr):=KX.out.trans (HBX.out.mono (by omega));clear ho1 hp1 ha1 HN;go_wp2_with fail
   refine bodyPost_ret (v:= .agg #[.int .i64 d.next,.slice E1' t f1,.slice A3 n2 c3]) ?_ rfl ⟨_,rfl,?_,?_⟩
   ·simp (maxDischargeDepth:=9) [results,Tryz.results60,go_sem, *]
   ·exact(((HD.out.setB zX1).setB zX1).setB zX1).mono (by omega)
   ·exact((KR.out.setCell (by show w.heap.size≤w.heap.size+1;omega) _).setCell (by show w.heap.size≤w.heap.size+1;omega) _).setCell (by show w.heap.size≤w.heap.size+1;omega) _
def DgV (W:World) (B:Nat) (v1:Value) (L:List VR) (n:Nat):Prop:= ∃ys,W.ownsRow B 89 3 v1 n ys∧VrPart W B ys L n∧VrApt ys n
theorem DgV.below {W W':World} {B n:Nat} {v1:Value} {L:List VR} (h:DgV W B v1 L n) (hb:Below W.heap.size W W'):DgV W' B v1 L n:=by
 obtain⟨ys,h1,h2,h3⟩:=h;exact⟨ys,Ql h1 hb,h2.below hb,h3⟩
theorem DgO.parts {W:World} {B:Nat} {v:Value} {d:DG} (h:DgO W B v d): ∃A1 c1 A2 c2,v= .agg #[.int .i64 d.next,.slice A1 d.vs.length c1,.slice A2 d.bs.length c2]∧DgV W B (.slice A1 d.vs.length c1) d.vs d.vs.length∧W.ownsRow B 79 2 (.slice A2 d.bs.length c2) d.bs.length (Jf brL d.bs):=by
 obtain⟨v1,v2,ys,rfl,h1,h2,h4,h3⟩:=h;obtain⟨A1,c1,rfl,_,_⟩:=Qo h1;obtain⟨A2,c2,rfl,_,_⟩:=Qo h3;exact⟨A1,c1,A2,c2,rfl,⟨ys,h1,h2,h4⟩,h3⟩
theorem DgO.setD {W:World} {B g o:Nat} {v x:Value} {d:DG} {c:Array Value} {r:Nat × Nat} (h:DgO W B v d) (hg:W.heap[g]? =some (.cells c 32 r)):DgO (W.setCell ⟨g,o,none⟩ x) B v d:=by
 obtain⟨v1,v2,ys,rfl,h1,h2,h4,h3⟩:=h;exact⟨v1,v2,ys,rfl,own_setT h1 hg (by decide),VrPart.setD h2 hg,h4,own_setT h3 hg (by decide)⟩
def CmR (B:Nat) (w':World) (r:DG × Int × Int) (e:Ending):Prop:= ∃v',e= .returned (.tuple #[v',.int .i64 r.2.1,.int .i64 r.2.2])∧DgO w' B v' r.1
def noD:DG:=⟨0,[],[]⟩
theorem noD_own (W:World) (B:Nat):DgO W B (.agg #[.int .i64 0,.slice none 0 0,.slice none 0 0]) noD:=
 ⟨_,_,[],rfl,World.ownsRow_nil _ _ _ _,fun i x hi=>absurd hi (Nat.not_lt_zero _),fun i j hi=>absurd hi (Nat.not_lt_zero _),World.ownsRow_nil _ _ _ _⟩
theorem step_copyG {P:Program} {W:World} {ops:Array Oper} {o:Oper} {a:Act} {K:Act→World→Prop} {Q:Exit→Act→World→Prop} {E:Prop} (t e:TypeId) (i:TypeInfo) (z:Value) (size bytes:Nat) (ht:P.underlying t=some (.slice e)) (hi:P.info? e=some i) (hz:i.zero=some z) (hsize:i.size=size) (hby:i.bytes=bytes) (hzs:z.cells.size=size) (hsz:0<size)
  (hgd:o.guard=none) (s x:Operand) (ho:o.op= .call {callee:= .builtin .append,args:= #[s,x],argTypes:= #[t,t]}) (B:Nat) (hB:B≤W.heap.size) (v:Value) (hs:a.eval s=v) (hown:W.ownsRow B e size v 0 [])
  (A:Option Addr) (n c:Nat) (xs:List Value) (hx:a.eval x= .slice A n c) (hl:xs.length=n*size) (hA:A=none→n=0) (hc: ∀ad,A=some ad→ ∀j u,xs[j]? =some u→W.cell? (ad.add j)=some u) (h1: ∀u∈xs,u.oneCell'=true) (hn:n≤maxLen) (hb:n*bytes≤140737488355328)
  (h: ∀A' c' w',w'.ownsRow B e size (.slice A' n c') n xs→W.grownBy w' v.ownBlock→K (a.put o.dst (.slice A' n c')) w'):
  if Region.wanted o (yielded ops a.tmps)=true then Oper.wp P o a W K Q else E:=by
 have hw:Region.wanted o (yielded ops a.tmps)=true:=by simp [Region.wanted,hgd]
 rw [if_pos hw];cases A with
 | none=>
  have hn0:=hA rfl;subst hn0;have hxs:xs= []:=by cases xs with | nil=>rfl | cons y ys=>simp at hl
  subst hxs;obtain⟨A',cap',rfl,_,_⟩:=Qo hown;have hrun:=run_append_nilC (P:=P) (w:=W) B t o.type e i size c ht hi _ 0 [] hown;unfold Oper.wp;simp [execOp,ho,resolve,invoke,builtin,hs,hx,hrun,Result.andThen];exact h _ _ W hown (World.grownBy.refl _ _)
 | some ad=>
  refine wp_append_own W s x t ho B e i z size bytes ht hi hz hsize hby hzs hsz v 0 [] hs hown ad n c xs hx hl (hc ad rfl) h1 (by omega) (by rw [Nat.zero_add];exact hb) hB ?_;intro v' w' ho' hg' _;rw [Nat.zero_add,List.nil_append]at ho';obtain⟨A',cap',rfl,_,_⟩:=Qo ho';exact h A' cap' w' ho' hg'
theorem wpList_app_vr {W:World} {ops:Array Oper} {rest:List Oper} {o:Oper} {a:Act} {Q:Exit→Act→World→Prop} (hgd:o.guard=none) (s x:Operand) (ho:o.op= .call {callee:= .builtin .append,args:= #[s,x],argTypes:= #[29,29]}) (B:Nat) (v:Value) (n:Nat) (xs:List Value) (hs:a.eval s=v)
  (hown:W.ownsRow B 89 3 v n xs) (i:Int) (ua:Option Addr) (un uc:Nat) (sa:Option Addr) (sn sc:Nat) (g:Nat) (hx:a.eval x= .slice (some ⟨g,0,none⟩) 1 1) (hc:VCell W g i (.slice ua un uc) (.slice sa sn sc)) (hn:n≤1099511627776) (hB:B≤W.heap.size)
  (h: ∀v' w',w'.ownsRow B 89 3 v' (n+1) (xs++ [.int .i64 i,.slice ua un uc,.slice sa sn sc])→W.grownBy w' v.ownBlock→wpList Tryz.prog ops Q rest (a.put o.dst v') w'):wpList Tryz.prog ops Q (o::rest) a W:=by
 obtain⟨i0,hi,iz0,iz1,iz2⟩:=info_parts Qj2;obtain⟨c0,c1,c2⟩:=hc;refine wpList_append_own W hgd s x 29 ho B 89 i0 (.agg #[.int .i64 0,.slice none 0 0,.slice none 0 0]) 3 56 Tryz.underlying29 hi iz0 iz1 iz2 rfl (by decide) v n xs hs hown ⟨g,0,none⟩ 1 1 [.int .i64 i,.slice ua un uc,.slice sa sn sc] hx rfl ?_ ?_ ?_ ?_ hB ?_
 ·intro q u hq;match q,hq with
  | 0,hq=>simp at hq;subst hq;simpa [Addr.add]using c0
  | 1,hq=>simp at hq;subst hq;simpa [Addr.add]using c1
  | 2,hq=>simp at hq;subst hq;simpa [Addr.add]using c2
 ·intro u hu;simp at hu;rcases hu with rfl | rfl | rfl<;>rfl
 ·unfold maxLen;omega
 ·omega
 ·intro v' w3 hown' hgrow _;exact h v' w3 hown' hgrow
theorem spec_l10Copy {v:Value} {d:DG} (w:World) (h:DgRow w v d) (hl:DgLil d):
  Calls Tryz.prog 26 #[v] w fun e w'=> ∃v',e= .returned v'∧DgO w' w.heap.size v' d∧Below w.heap.size w w':=by
 obtain⟨A1,n1,c1,A2,n2,c2,rfl⟩:=h.agg;obtain⟨r1,e1,r2,e2⟩:=h.open;have R1:Hid (VrRow w A1 d.vs):=r1;have R2:Hid (ZT w A2 d.bs):=r2;have E1:Hid (d.vs.length=n1):=e1;have E2:Hid (d.bs.length=n2):=e2;have HL:Hid (DgLil d):=hl
 have hn1:n1≤1048576:=by rw [←e1];exact hl.nv
 have hn2:n2≤1048576:=by rw [←e2];exact hl.nb
 clear h r1 r2 e1 e2 hl;go_enter Tryz.func26,Tryz.ntmps26;go_upto_region 1 with fail
 obtain⟨X,HX⟩: ∃X,Hid ((w.alloc (.cells #[.int .i64 d.next,.slice A1 n1 c1,.slice A2 n2 c2] 32)).alloc (.cells #[.int .i64 0,.slice none 0 0,.slice none 0 0] 32)=X):=⟨_,rfl⟩;rw [HX.out];have x0:X.cell? ⟨w.heap.size,0,none⟩=some (.int .i64 d.next):=by rw [←HX.out];go_simp
 have x1:X.cell? ⟨w.heap.size,1,none⟩=some (.slice A1 n1 c1):=by rw [←HX.out];go_simp
 have x2:X.cell? ⟨w.heap.size,2,none⟩=some (.slice A2 n2 c2):=by rw [←HX.out];go_simp
 have p0:X.cell? ⟨w.heap.size+1,0,none⟩=some (.int .i64 0):=by rw [←HX.out];go_simp
 have p1:X.cell? ⟨w.heap.size+1,1,none⟩=some (.slice none 0 0):=by rw [←HX.out];go_simp
 have p2:X.cell? ⟨w.heap.size+1,2,none⟩=some (.slice none 0 0):=by rw [←HX.out];go_simp
 have pf: ∀o,X.frozen? ⟨w.heap.size+1,o,none⟩=false:=fun o=>by rw [←HX.out];go_simp
 have ZX:Hid (X.heap.size=w.heap.size+2):=by rw [←HX.out];show _=_;simp
 have zX0:w.heap.size<X.heap.size:=by have:=ZX.out;omega
 have zX1:w.heap.size+1<X.heap.size:=by have:=ZX.out;omega
 have KX:Hid (Below w.heap.size w X):=by rw [←HX.out];show Below _ _ _;go_grown
 clear HX;obtain⟨i0,hi,iz0,iz1,iz2⟩:=info_parts Qj4;have HFL:Hid ((Jf brL d.bs).length=n2*2):=by show _=_;rw [Db Ni,E2.out]
 have VE0:Hid (X.drew.cell? ⟨w.heap.size,0,none⟩=some (.int .i64 d.next)∧X.drew.cell? ⟨w.heap.size,2,none⟩=some (.slice A2 n2 c2)∧X.heap.size≤X.drew.heap.size):=⟨x0,x2,Nat.le_refl _⟩;have BX0:Hid (Below X.heap.size X X.drew):=(Below.refl _ _).drew;go_cut [3] (fun p wx=> ∃g A3 c3,p= .pointer (some ⟨g,0,none⟩)∧X.heap.size≤g∧CpL X.heap.size g d.next (.slice A3 n2 c3) n2 d.bs X d.vs 0 wx)
 case first=>
  refine wp_region_held_drew (S:=(fun w'=>w'.cell? ⟨w.heap.size,0,none⟩=some (.int .i64 d.next)∧w'.cell? ⟨w.heap.size,2,none⟩=some (.slice A2 n2 c2)∧X.heap.size≤w'.heap.size)) (by kernel_rfl) VE0.out (fun hHeld=> ?_);refine tkA 0 ?_;refine tkB 1 ?_;refine tkA 3 ?_;refine tkB 4 ?_;refine rqB 2 7 (fun Kq hKq=> ?_) (fun Kq hKq=> ?_)
  ·go_simp;obtain⟨q1,HQ1⟩: ∃q,Hid ((X.alloc (.cells #[] 79)).drew=q):=⟨_,rfl⟩;rw [HQ1.out];have hb:Below X.drew.heap.size X.drew q1:=by rw [←HQ1.out];exact(Below.refl _ _).alloc (Nat.le_refl _) _
   have EA1:Hid (q1.ownsRow X.heap.size 79 2 (.slice (some ⟨X.heap.size,0,none⟩) 0 0) 0 []):=by rw [←HQ1.out];exact Qku (W:=X.drew) VE0.out.2.2 rfl
   have VE1:Hid (q1.cell? ⟨w.heap.size,0,none⟩=some (.int .i64 d.next)∧q1.cell? ⟨w.heap.size,2,none⟩=some (.slice A2 n2 c2)∧X.heap.size≤q1.heap.size):=⟨cy hb VE0.out.1,cy hb VE0.out.2.1,Nat.le_trans VE0.out.2.2 hb.size⟩;have BX1:Hid (Below X.heap.size X q1):=BX0.out.trans (hb.mono VE0.out.2.2);clear hb;refine hkB hKq (VE1.out) fun hHeld=> ?_;clear hKq Kq;refine rqB 5 7 (fun Kq hKq=> ?_) (fun Kq hKq=> ?_)
   ·refine step_copyG 30 79 i0 (.agg #[.string ⟨#[]⟩,.int .i64 0]) 2 24 Tryz.underlying30 hi iz0 iz1 iz2 rfl (by decide) (by rfl) _ _ (by rfl) X.heap.size VE1.out.2.2 _ (by rfl) EA1.out A2 n2 c2 (Jf brL d.bs) (by rfl) HFL.out (fun e=>E2.out.symm.trans (br_none R2.out e)) (br_cells (R2.out.below (KX.out.trans (BX1.out.mono (by omega))))) (br_oneC d.bs) (by unfold maxLen;omega) (by omega) ?_;intro A3 c3 q2 ho hg;have CA2:Hid (q2.ownsRow X.heap.size 79 2 (.slice A3 n2 c3) n2 (Jf brL d.bs)):=ho;have hne2:some w.heap.size≠(Value.ownBlock (.slice (some ⟨X.heap.size,0,none⟩) 0 0)):=fun e=>by have:=(EA1.out.lt _ e.symm).1;omega
    have VE2:Hid (q2.cell? ⟨w.heap.size,0,none⟩=some (.int .i64 d.next)∧q2.cell? ⟨w.heap.size,2,none⟩=some (.slice A2 n2 c2)∧X.heap.size≤q2.heap.size):=⟨hg.cell VE1.out.1 hne2,hg.cell VE1.out.2.1 hne2,Nat.le_trans VE1.out.2.2 hg.size⟩;have BX2:=hd (BX1.out.grown hg VE1.out.2.2 (fun j hj=>(EA1.out.lt j hj).1));clear ho hg;refine hkB hKq (VE2.out) fun hHeld=> ?_;clear hKq Kq;refine tkB 6 ?_;refine rqA 7 (fun Kq hKq=> ?_)
    go_simp;obtain⟨q3,HQ3⟩: ∃q,Hid (q2.alloc (.cells #[.int .i64 0,.slice none 0 0,.slice none 0 0] 32)=q):=⟨_,rfl⟩;rw [HQ3.out];have hb:Below q2.heap.size q2 q3:=by rw [←HQ3.out];exact(Below.refl _ _).alloc (Nat.le_refl _) _
    have GA3:Hid (q3.heap[q2.heap.size]? =some (.cells #[.int .i64 0,.slice none 0 0,.slice none 0 0] 32 (0,0))):=by rw [←HQ3.out];exact heap_alloc_new q2 _
    have GL3:X.heap.size≤q2.heap.size:=VE2.out.2.2;have VE3:Hid (q3.cell? ⟨w.heap.size,0,none⟩=some (.int .i64 d.next)∧q3.cell? ⟨w.heap.size,2,none⟩=some (.slice A2 n2 c2)∧X.heap.size≤q3.heap.size):=⟨cy hb VE2.out.1,cy hb VE2.out.2.1,Nat.le_trans VE2.out.2.2 hb.size⟩;have BX3:Hid (Below X.heap.size X q3):=BX2.out.trans (hb.mono VE2.out.2.2);have CO3:=hd (Ql CA2.out hb);clear hb;refine hkB hKq (VE3.out) fun hHeld=> ?_;clear hKq Kq
    refine rqA 8 (fun Kq hKq=> ?_);have h0:q3.ownsRow X.heap.size 32 3 (.slice (some ⟨q2.heap.size,0,none⟩) 1 1) 1 [.int .i64 0,.slice none 0 0,.slice none 0 0]:=⟨rfl,Or.inr ⟨_,1,#[.int .i64 0,.slice none 0 0,.slice none 0 0],rfl,GL3,GA3.out,Nat.le_refl _,by unfold maxLen;omega,rfl,rfl⟩⟩;have g0:q3.cell? ⟨q2.heap.size,0,none⟩=some (.int .i64 0):=h0.cellAt 0 (by omega);have g1:q3.cell? ⟨q2.heap.size,1,none⟩=some (.slice none 0 0):=h0.cellAt 1 (by omega);have g2:q3.cell? ⟨q2.heap.size,2,none⟩=some (.slice none 0 0):=h0.cellAt 2 (by omega);have gf: ∀o,q3.frozen? ⟨q2.heap.size,o,none⟩=false:=fun o=>h0.frozenAt o;have gz:q2.heap.size<q3.heap.size:=heap_lt GA3.out
    have CP:=CpL.put (nx:=d.next) GA3.out GL3 BX3.out CO3.out d.vs;clear h0;go_simp;obtain⟨q4,HQ4⟩: ∃q,Hid (((q3.setCell ⟨q2.heap.size,0,none⟩ (.int .i64 d.next)).setCell ⟨q2.heap.size,1,none⟩ (.slice none 0 0)).setCell ⟨q2.heap.size,2,none⟩ (.slice A3 n2 c3)=q):=⟨_,rfl⟩;rw [HQ4.out];rw [HQ4.out]at CP;have VE4:Hid (q4.cell? ⟨w.heap.size,0,none⟩=some (.int .i64 d.next)∧q4.cell? ⟨w.heap.size,2,none⟩=some (.slice A2 n2 c2)∧X.heap.size≤q4.heap.size):=⟨cy CP.nb.bel x0,cy CP.nb.bel x2,CP.nb.bel.size⟩
    have HCP:Hid (CpL X.heap.size q2.heap.size d.next (.slice A3 n2 c3) n2 d.bs X d.vs 0 q4):=CP;clear CP g0 g1 g2 gf;refine hkB hKq (VE4.out) fun hHeld=> ?_;clear hKq Kq;refine wpAnyH_done (by kernel_rfl) ?_ _;clear hHeld;go_wp2_with fail
    go_meet;exact⟨_,A3,c3,rfl,GL3,HCP.out⟩
   ·go_simp;obtain⟨q5,HQ5⟩: ∃q,Hid (q1.alloc (.cells #[.int .i64 0,.slice none 0 0,.slice none 0 0] 32)=q):=⟨_,rfl⟩;rw [HQ5.out];have hb:Below q1.heap.size q1 q5:=by rw [←HQ5.out];exact(Below.refl _ _).alloc (Nat.le_refl _) _
    have GA5:Hid (q5.heap[q1.heap.size]? =some (.cells #[.int .i64 0,.slice none 0 0,.slice none 0 0] 32 (0,0))):=by rw [←HQ5.out];exact heap_alloc_new q1 _
    have GL5:X.heap.size≤q1.heap.size:=VE1.out.2.2;have VE5:Hid (q5.cell? ⟨w.heap.size,0,none⟩=some (.int .i64 d.next)∧q5.cell? ⟨w.heap.size,2,none⟩=some (.slice A2 n2 c2)∧X.heap.size≤q5.heap.size):=⟨cy hb VE1.out.1,cy hb VE1.out.2.1,Nat.le_trans VE1.out.2.2 hb.size⟩;have BX5:Hid (Below X.heap.size X q5):=BX1.out.trans (hb.mono VE1.out.2.2);have EO5:=hd (Ql EA1.out hb);clear hb;refine hkB hKq (VE5.out) fun hHeld=> ?_;clear hKq Kq
    refine rqA 5 (fun Kq hKq=> ?_);refine step_copyG 30 79 i0 (.agg #[.string ⟨#[]⟩,.int .i64 0]) 2 24 Tryz.underlying30 hi iz0 iz1 iz2 rfl (by decide) (by rfl) _ _ (by rfl) X.heap.size VE5.out.2.2 _ (by rfl) EO5.out A2 n2 c2 (Jf brL d.bs) (by rfl) HFL.out (fun e=>E2.out.symm.trans (br_none R2.out e)) (br_cells (R2.out.below (KX.out.trans (BX5.out.mono (by omega))))) (br_oneC d.bs) (by unfold maxLen;omega) (by omega) ?_;intro A3 c3 q6 ho hg;have CA6:Hid (q6.ownsRow X.heap.size 79 2 (.slice A3 n2 c3) n2 (Jf brL d.bs)):=ho;have hne6:some w.heap.size≠(Value.ownBlock (.slice (some ⟨X.heap.size,0,none⟩) 0 0)):=fun e=>by have:=(EO5.out.lt _ e.symm).1;omega
    have VE6:Hid (q6.cell? ⟨w.heap.size,0,none⟩=some (.int .i64 d.next)∧q6.cell? ⟨w.heap.size,2,none⟩=some (.slice A2 n2 c2)∧X.heap.size≤q6.heap.size):=⟨hg.cell VE5.out.1 hne6,hg.cell VE5.out.2.1 hne6,Nat.le_trans VE5.out.2.2 hg.size⟩;have BX6:=hd (BX5.out.grown hg VE5.out.2.2 (fun j hj=>(EO5.out.lt j hj).1));have GB6:Hid (q6.heap[q1.heap.size]? =some (.cells #[.int .i64 0,.slice none 0 0,.slice none 0 0] 32 (0,0))):=(hg.block _ (heap_lt GA5.out) (own_blk_ne EO5.out GA5.out (by decide))).trans GA5.out;clear ho hg;refine hkB hKq (VE6.out) fun hHeld=> ?_;clear hKq Kq;refine tkB 6 ?_
    refine rqA 8 (fun Kq hKq=> ?_);have h0:q6.ownsRow X.heap.size 32 3 (.slice (some ⟨q1.heap.size,0,none⟩) 1 1) 1 [.int .i64 0,.slice none 0 0,.slice none 0 0]:=⟨rfl,Or.inr ⟨_,1,#[.int .i64 0,.slice none 0 0,.slice none 0 0],rfl,GL5,GB6.out,Nat.le_refl _,by unfold maxLen;omega,rfl,rfl⟩⟩;have g0:q6.cell? ⟨q1.heap.size,0,none⟩=some (.int .i64 0):=h0.cellAt 0 (by omega);have g1:q6.cell? ⟨q1.heap.size,1,none⟩=some (.slice none 0 0):=h0.cellAt 1 (by omega);have g2:q6.cell? ⟨q1.heap.size,2,none⟩=some (.slice none 0 0):=h0.cellAt 2 (by omega);have gf: ∀o,q6.frozen? ⟨q1.heap.size,o,none⟩=false:=fun o=>h0.frozenAt o;have gz:q1.heap.size<q6.heap.size:=heap_lt GB6.out
    have CP:=CpL.put (nx:=d.next) GB6.out GL5 BX6.out CA6.out d.vs;clear h0;go_simp;obtain⟨q7,HQ7⟩: ∃q,Hid (((q6.setCell ⟨q1.heap.size,0,none⟩ (.int .i64 d.next)).setCell ⟨q1.heap.size,1,none⟩ (.slice none 0 0)).setCell ⟨q1.heap.size,2,none⟩ (.slice A3 n2 c3)=q):=⟨_,rfl⟩;rw [HQ7.out];rw [HQ7.out]at CP;have VE7:Hid (q7.cell? ⟨w.heap.size,0,none⟩=some (.int .i64 d.next)∧q7.cell? ⟨w.heap.size,2,none⟩=some (.slice A2 n2 c2)∧X.heap.size≤q7.heap.size):=⟨cy CP.nb.bel x0,cy CP.nb.bel x2,CP.nb.bel.size⟩
    have HCP:Hid (CpL X.heap.size q1.heap.size d.next (.slice A3 n2 c3) n2 d.bs X d.vs 0 q7):=CP;clear CP g0 g1 g2 gf;refine hkB hKq (VE7.out) fun hHeld=> ?_;clear hKq Kq;refine wpAnyH_done (by kernel_rfl) ?_ _;clear hHeld;go_wp2_with fail
    go_meet;exact⟨_,A3,c3,rfl,GL5,HCP.out⟩
  ·go_simp;obtain⟨q8,HQ8⟩: ∃q,Hid ((X.alloc (.cells #[.int .i64 0,.slice none 0 0,.slice none 0 0] 32)).drew=q):=⟨_,rfl⟩;rw [HQ8.out];have hb:Below X.drew.heap.size X.drew q8:=by rw [←HQ8.out];exact(Below.refl _ _).alloc (Nat.le_refl _) _
   have GA8:Hid (q8.heap[X.heap.size]? =some (.cells #[.int .i64 0,.slice none 0 0,.slice none 0 0] 32 (0,0))):=by rw [←HQ8.out];exact heap_alloc_new X.drew _
   have GL8:X.heap.size≤X.heap.size:=VE0.out.2.2;have VE8:Hid (q8.cell? ⟨w.heap.size,0,none⟩=some (.int .i64 d.next)∧q8.cell? ⟨w.heap.size,2,none⟩=some (.slice A2 n2 c2)∧X.heap.size≤q8.heap.size):=⟨cy hb VE0.out.1,cy hb VE0.out.2.1,Nat.le_trans VE0.out.2.2 hb.size⟩;have BX8:Hid (Below X.heap.size X q8):=BX0.out.trans (hb.mono VE0.out.2.2);clear hb;refine hkB hKq (VE8.out) fun hHeld=> ?_;clear hKq Kq;refine rqA 2 (fun Kq hKq=> ?_)
   go_simp;obtain⟨q9,HQ9⟩: ∃q,Hid (q8.alloc (.cells #[] 79)=q):=⟨_,rfl⟩;rw [HQ9.out];have hb:Below q8.heap.size q8 q9:=by rw [←HQ9.out];exact(Below.refl _ _).alloc (Nat.le_refl _) _
   have EA9:Hid (q9.ownsRow X.heap.size 79 2 (.slice (some ⟨q8.heap.size,0,none⟩) 0 0) 0 []):=by rw [←HQ9.out];exact Qku (W:=q8) VE8.out.2.2 rfl
   have VE9:Hid (q9.cell? ⟨w.heap.size,0,none⟩=some (.int .i64 d.next)∧q9.cell? ⟨w.heap.size,2,none⟩=some (.slice A2 n2 c2)∧X.heap.size≤q9.heap.size):=⟨cy hb VE8.out.1,cy hb VE8.out.2.1,Nat.le_trans VE8.out.2.2 hb.size⟩;have BX9:Hid (Below X.heap.size X q9):=BX8.out.trans (hb.mono VE8.out.2.2);have GB9:Hid (q9.heap[X.heap.size]? =some (.cells #[.int .i64 0,.slice none 0 0,.slice none 0 0] 32 (0,0))):=(hb.block _ (heap_lt GA8.out)).trans GA8.out;clear hb;refine hkB hKq (VE9.out) fun hHeld=> ?_;clear hKq Kq;refine rqA 5 (fun Kq hKq=> ?_)
   refine step_copyG 30 79 i0 (.agg #[.string ⟨#[]⟩,.int .i64 0]) 2 24 Tryz.underlying30 hi iz0 iz1 iz2 rfl (by decide) (by rfl) _ _ (by rfl) X.heap.size VE9.out.2.2 _ (by rfl) EA9.out A2 n2 c2 (Jf brL d.bs) (by rfl) HFL.out (fun e=>E2.out.symm.trans (br_none R2.out e)) (br_cells (R2.out.below (KX.out.trans (BX9.out.mono (by omega))))) (br_oneC d.bs) (by unfold maxLen;omega) (by omega) ?_;intro A3 c3 q10 ho hg;have CA10:Hid (q10.ownsRow X.heap.size 79 2 (.slice A3 n2 c3) n2 (Jf brL d.bs)):=ho;have hne10:some w.heap.size≠(Value.ownBlock (.slice (some ⟨q8.heap.size,0,none⟩) 0 0)):=fun e=>by have:=(EA9.out.lt _ e.symm).1;omega
   have VE10:Hid (q10.cell? ⟨w.heap.size,0,none⟩=some (.int .i64 d.next)∧q10.cell? ⟨w.heap.size,2,none⟩=some (.slice A2 n2 c2)∧X.heap.size≤q10.heap.size):=⟨hg.cell VE9.out.1 hne10,hg.cell VE9.out.2.1 hne10,Nat.le_trans VE9.out.2.2 hg.size⟩;have BX10:=hd (BX9.out.grown hg VE9.out.2.2 (fun j hj=>(EA9.out.lt j hj).1));have GB10:Hid (q10.heap[X.heap.size]? =some (.cells #[.int .i64 0,.slice none 0 0,.slice none 0 0] 32 (0,0))):=(hg.block _ (heap_lt GB9.out) (own_blk_ne EA9.out GB9.out (by decide))).trans GB9.out;clear ho hg;refine hkB hKq (VE10.out) fun hHeld=> ?_;clear hKq Kq;refine tkB 6 ?_
   refine rqA 8 (fun Kq hKq=> ?_);have h0:q10.ownsRow X.heap.size 32 3 (.slice (some ⟨X.heap.size,0,none⟩) 1 1) 1 [.int .i64 0,.slice none 0 0,.slice none 0 0]:=⟨rfl,Or.inr ⟨_,1,#[.int .i64 0,.slice none 0 0,.slice none 0 0],rfl,GL8,GB10.out,Nat.le_refl _,by unfold maxLen;omega,rfl,rfl⟩⟩;have g0:q10.cell? ⟨X.heap.size,0,none⟩=some (.int .i64 0):=h0.cellAt 0 (by omega);have g1:q10.cell? ⟨X.heap.size,1,none⟩=some (.slice none 0 0):=h0.cellAt 1 (by omega);have g2:q10.cell? ⟨X.heap.size,2,none⟩=some (.slice none 0 0):=h0.cellAt 2 (by omega);have gf: ∀o,q10.frozen? ⟨X.heap.size,o,none⟩=false:=fun o=>h0.frozenAt o;have gz:X.heap.size<q10.heap.size:=heap_lt GB10.out
   have CP:=CpL.put (nx:=d.next) GB10.out GL8 BX10.out CA10.out d.vs;clear h0;go_simp;obtain⟨q11,HQ11⟩: ∃q,Hid (((q10.setCell ⟨X.heap.size,0,none⟩ (.int .i64 d.next)).setCell ⟨X.heap.size,1,none⟩ (.slice none 0 0)).setCell ⟨X.heap.size,2,none⟩ (.slice A3 n2 c3)=q):=⟨_,rfl⟩;rw [HQ11.out];rw [HQ11.out]at CP;have VE11:Hid (q11.cell? ⟨w.heap.size,0,none⟩=some (.int .i64 d.next)∧q11.cell? ⟨w.heap.size,2,none⟩=some (.slice A2 n2 c2)∧X.heap.size≤q11.heap.size):=⟨cy CP.nb.bel x0,cy CP.nb.bel x2,CP.nb.bel.size⟩
   have HCP:Hid (CpL X.heap.size X.heap.size d.next (.slice A3 n2 c3) n2 d.bs X d.vs 0 q11):=CP;clear CP g0 g1 g2 gf;refine hkB hKq (VE11.out) fun hHeld=> ?_;clear hKq Kq;refine wpAnyH_done (by kernel_rfl) ?_ _;clear hHeld;go_wp2_with fail
   go_meet;exact⟨_,A3,c3,rfl,GL8,HCP.out⟩
 case rest=>
 obtain⟨g,A3,c3,rfl,hg,hcp⟩:=hcut;have HCP:Hid (CpL X.heap.size g d.next (.slice A3 n2 c3) n2 d.bs X d.vs 0 wc):=hcp;have k0:=cy hcp.nb.bel x0;have k1:=cy hcp.nb.bel x1;have k2:=cy hcp.nb.bel x2;have zc:w.heap.size<wc.heap.size:=Nat.lt_of_lt_of_le zX0 hcp.nb.bel.size;clear hcp
 go_wp2_with fail
 go_loopw [4] (fun i wr=> ∃t:Nat,t≤n1∧i= .int .i64 t∧CpL X.heap.size g d.next (.slice A3 n2 c3) n2 d.bs X d.vs t wr) (fun i _=>n1-(intOf i).toNat)
 case atStart=>exact⟨0,Nat.zero_le _,rfl,HCP.out⟩
 case round=>
  clear HCP k0 k1 k2 zc;obtain⟨t,ht,rfl,hcp⟩:=hrel;have HN:Hid (NBx X.heap.size g d.next (.slice A3 n2 c3) n2 d.bs X wr):=hcp.nb;obtain⟨v1,ys,hv1,ho1,hp1,ha1⟩:=hcp.vs;obtain⟨E1',f1,rfl,_,_⟩:=Qo ho1;have HBX:Hid (Below X.heap.size X wr):=hcp.nb.bel;have HNG:Hid (∃c r,wr.heap[g]? =some (.cells c 32 r)):=hcp.nb.gb
  have hg0:X.heap.size≤g:=hg;have zr:X.heap.size≤wr.heap.size:=HBX.out.size;have y1:=cy HBX.out x1;have zw:w.heap.size<wr.heap.size:=by omega
  clear hcp;by_cases hlt:t<n1
  ·obtain⟨x,hx⟩:=ZD E1.out hlt;have HXT:Hid (d.vs[t]? =some x):=hx;have HXL:Hid (JS x):=HL.out.v x (List.mem_of_getElem? hx);obtain⟨vb,vo,u,uc,s,sc,rfl,hvl,a0,a1,a2,ru,rs⟩:=R1.out.2 t x hx;have RU:Hid (IntRow w u x.ups):=ru;have RS:Hid (ClRow w s x.m x.C x.R x.S):=rs;obtain⟨un,HUN⟩: ∃un,Hid (x.ups.length=un):=⟨_,rfl⟩
   obtain⟨mn,HMN⟩: ∃mn,Hid (x.m=mn):=⟨_,rfl⟩;have hun:un≤1048576:=by rw [←HUN.out];exact HXL.out.1
   have hmn:mn≤1048576:=by rw [←HMN.out];exact HXL.out.2
   rw [HUN.out]at a1;rw [HMN.out]at a2;have KR:Hid (Below w.heap.size w wr):=KX.out.trans (HBX.out.mono (by omega));rw [←KR.out.cell (p:=⟨_,_,none⟩) hvl]at a0 a1 a2;have hvz:vb<wr.heap.size:=Nat.lt_of_lt_of_le hvl KR.out.size;have q0:(0:Int)≤(t:Int):=by omega
   have q1:(t:Int)<(n1:Int):=by omega
   have HYL:Hid (ys.length=t*3):=ho1.1;have HAP:Hid (VrApt ys t):=ha1
   have HLT:Hid (VrLt ys t wr.heap.size):=fun i hi=>by
    obtain⟨y,hy⟩:=ZD E1.out (show i<n1 by omega);obtain⟨u',uc',s',sc',_,y1,y2,k1,k2⟩:=hp1 i y hi hy;rw [blkAt_some y1,blkAt_some y2];exact⟨fun q hq=>(k1.lt q hq).2,fun q hq=>(k2.lt q hq).2⟩
   have HV1:Hid (∀k,(Value.slice E1' t f1).ownBlock=some k→k<wr.heap.size):=fun k hk=>(ho1.lt k hk).2;clear hx ru rs ha1;go_upto_region 6 with fail
   obtain⟨q0,HQ0⟩: ∃q,Hid (wr.alloc (.cells #[.int .i64 x.id,.slice u un uc,.slice s mn sc] 89)=q):=⟨_,rfl⟩;rw [HQ0.out];have hb:Below wr.heap.size wr q0:=by rw [←HQ0.out];exact(Below.refl _ _).alloc (Nat.le_refl _) _
   have Sr:Hid (NBx X.heap.size g d.next (.slice A3 n2 c3) n2 d.bs X wr):=HN.out;have lbr:X.heap.size≤wr.heap.size:=zr;have lwr:wr.heap.size≤wr.heap.size:=Nat.le_refl _;have RVr:Hid (wr.ownsRow X.heap.size 89 3 (.slice E1' t f1) t ys):=ho1;have PVr:Hid (VrPart wr X.heap.size ys d.vs t):=hp1;have nnr:=hv1;have OW0:Hid (q0.ownsRow wr.heap.size 89 3 (.slice (some ⟨wr.heap.size,0,none⟩) 1 1) 1 [.int .i64 x.id,.slice u un uc,.slice s mn sc]):=by rw [←HQ0.out];exact World.ownsRow_lit wr _ 1 (Nat.le_refl _) (by unfold maxLen;omega) rfl
   have HVN:Hid ((Value.slice E1' t f1).ownBlock=none∨(Value.slice E1' t f1).ownBlock≠(Value.slice (some ⟨wr.heap.size,0,none⟩) 1 1).ownBlock):=by
    cases e9:(Value.slice E1' t f1).ownBlock with
    | none=>exact Or.inl rfl
    | some k=>exact Or.inr fun e=>by have:=HV1.out k e9;have e2:k=wr.heap.size:=Option.some.inj e;omega
   have hgV:g<wr.heap.size:=by obtain⟨c,r,gb⟩:=HNG.out;exact heap_lt gb
   have HGN:Hid (some g≠(Value.slice (some ⟨wr.heap.size,0,none⟩) 1 1).ownBlock):=fun e=>by have e2:g=wr.heap.size:=Option.some.inj e;omega
   have S0:=hd (Sr.out.below lbr hb);have lb0:X.heap.size≤q0.heap.size:=Nat.le_trans lbr hb.size;have RV0:=hd (Ql RVr.out hb);have PV0:=hd (PVr.out.below hb);have nn0:q0.cell? ⟨g,1,none⟩=some (.slice E1' t f1):=cy hb nnr;have lw0:wr.heap.size≤q0.heap.size:=Nat.le_trans lwr hb.size;clear hb HQ0 ho1 hp1 hv1 HN a0 a1 a2 hvz Sr RVr PVr nnr
   have b0:q0.cell? ⟨wr.heap.size,0,none⟩=some (.int .i64 x.id):=OW0.out.cellAt 0 (by omega);have b1:q0.cell? ⟨wr.heap.size,1,none⟩=some (.slice u un uc):=OW0.out.cellAt 1 (by omega);have b2:q0.cell? ⟨wr.heap.size,2,none⟩=some (.slice s mn sc):=OW0.out.cellAt 2 (by omega);have bf: ∀o,q0.frozen? ⟨wr.heap.size,o,none⟩=false:=fun o=>OW0.out.frozenAt o;have bz:wr.heap.size<q0.heap.size:=World.block_lt_of_cell? q0 ⟨wr.heap.size,0,none⟩ b0;obtain⟨iI,hiI,iI0,iI1,iI2⟩:=info_parts MY;obtain⟨iC,hiC,iC0,iC1,iC2⟩:=info_parts Qj3
   have HUX:Hid ((x.ups.map (Value.int .i64)).length=un*1):=by show _=_;rw [List.length_map,HUN.out];omega
   have KE:Hid (∀o:Obj,Below w.heap.size w (q0.alloc o)):=fun o=>(KX.out.trans (S0.out.bel.mono (by omega))).trans (((Below.refl q0.heap.size q0).alloc (Nat.le_refl _) o).mono (by omega));go_wp2_with (first | (at_builtin;refine wpList_copyG 62 2 iI (.int .i64 0) 1 8 Tryz.underlying62 hiI iI0 iI1 iI2 rfl (by decide) rfl _ _ rfl wr.heap.size (by simp;omega) _ rfl (Qku lw0 rfl) u un uc (x.ups.map (Value.int .i64)) rfl HUX.out (fun e=>HUN.out.symm.trans (int_none RU.out e)) (int_cellsA (RU.out.below (KE.out _))) (int_oneC x.ups) (by unfold maxLen;omega) (by omega) ?_) | fail)
   intro A4 c4 q1 ho hg;have UO1:Hid (q1.ownsRow wr.heap.size 2 1 (.slice A4 un c4) un (x.ups.map (Value.int .i64))):=ho;have hb:Below q0.heap.size q0 q1:=((Below.refl _ _).alloc (Nat.le_refl _) _).grown hg (by simp) (fun j hj=>by cases hj;exact Nat.le_refl _);have S1:=hd (S0.out.below lb0 hb);have lb1:X.heap.size≤q1.heap.size:=Nat.le_trans lb0 hb.size;have RV1:=hd (Ql RV0.out hb);have PV1:=hd (PV0.out.below hb)
   have nn1:q1.cell? ⟨g,1,none⟩=some (.slice E1' t f1):=cy hb nn0;have OW1:=hd (Ql OW0.out hb);have lw1:wr.heap.size≤q1.heap.size:=Nat.le_trans lw0 hb.size;clear hb ho hg;clear b0 b1 b2 bf bz;have b0:q1.cell? ⟨wr.heap.size,0,none⟩=some (.int .i64 x.id):=OW1.out.cellAt 0 (by omega);have b1:q1.cell? ⟨wr.heap.size,1,none⟩=some (.slice u un uc):=OW1.out.cellAt 1 (by omega)
   have b2:q1.cell? ⟨wr.heap.size,2,none⟩=some (.slice s mn sc):=OW1.out.cellAt 2 (by omega);have bf: ∀o,q1.frozen? ⟨wr.heap.size,o,none⟩=false:=fun o=>OW1.out.frozenAt o;have bz:wr.heap.size<q1.heap.size:=World.block_lt_of_cell? q1 ⟨wr.heap.size,0,none⟩ b0;obtain⟨q2,HQ2⟩: ∃q,Hid (q1.setCell ⟨wr.heap.size,1,none⟩ (.slice A4 un c4)=q):=⟨_,rfl⟩;obtain⟨q2,HQ2⟩: ∃q,Hid (q1.setCell ⟨wr.heap.size,1,none⟩ (.slice A4 un c4)=q):=⟨_,rfl⟩;obtain⟨oq,gq⟩:=OW1.out.stored 1 (.slice A4 un c4);rw [HQ2.out]at oq gq
   have OW2:Hid (q2.ownsRow wr.heap.size 89 3 (.slice (some ⟨wr.heap.size,0,none⟩) 1 1) 1 [.int .i64 x.id,.slice A4 un c4,.slice s mn sc]):=oq;have ox:=Zc OW1.out zr;have S2:=hd (S1.out.grown lb1 ox gq);have lb2:X.heap.size≤q2.heap.size:=Nat.le_trans lb1 gq.size;have lw2:wr.heap.size≤q2.heap.size:=Nat.le_trans lw1 gq.size;have RV2:Hid (q2.ownsRow X.heap.size 89 3 (.slice E1' t f1) t ys):=RV1.out.kept gq HVN.out;have PV2:Hid (VrPart q2 X.heap.size ys d.vs t):=PV1.out.keptV ox gq
   have nn2:q2.cell? ⟨g,1,none⟩=some (.slice E1' t f1):=gq.cell nn1 HGN.out;have UO2:Hid (q2.ownsRow wr.heap.size 2 1 (.slice A4 un c4) un (x.ups.map (Value.int .i64))):=UO1.out.kept gq (Qkt UO1.out OW1.out (by decide));clear oq gq ox;have gz1:g<q1.heap.size:=Nat.lt_of_lt_of_le hgV lw1;go_upto_region 7 with fail
   rw [HQ2.out];clear b0 b1 b2 bf bz;clear HQ2 gz1;have b0:q2.cell? ⟨wr.heap.size,0,none⟩=some (.int .i64 x.id):=OW2.out.cellAt 0 (by omega);have b1:q2.cell? ⟨wr.heap.size,1,none⟩=some (.slice A4 un c4):=OW2.out.cellAt 1 (by omega);have b2:q2.cell? ⟨wr.heap.size,2,none⟩=some (.slice s mn sc):=OW2.out.cellAt 2 (by omega);have bf: ∀o,q2.frozen? ⟨wr.heap.size,o,none⟩=false:=fun o=>OW2.out.frozenAt o
   have bz:wr.heap.size<q2.heap.size:=World.block_lt_of_cell? q2 ⟨wr.heap.size,0,none⟩ b0;have KE2:Hid (∀o:Obj,Below w.heap.size w (q2.alloc o)):=fun o=>(KX.out.trans (S2.out.bel.mono (by omega))).trans (((Below.refl q2.heap.size q2).alloc (Nat.le_refl _) o).mono (by omega));have RS2:Hid (∀o:Obj,ClRow (q2.alloc o) s mn x.C x.R x.S):=fun o=>by rw [←HMN.out];exact RS.out.below (KE2.out o)
   go_wp2_with (first | (at_builtin;refine wpList_copyG 36 67 iC (.agg #[.int .i64 0,.int .i64 0,.string ⟨#[]⟩]) 3 32 Tryz.underlying36 hiC iC0 iC1 iC2 rfl (by decide) rfl _ _ rfl wr.heap.size (by simp;omega) _ rfl (Qku lw2 rfl) s mn sc (clX x.C x.R x.S mn) rfl (EB x.C x.R x.S mn) (cl_none (RS2.out (.cells #[] 0))) (cl_cells (RS2.out _)) (clX_one x.C x.R x.S mn) (by unfold maxLen;omega) (by omega) ?_) | fail)
   intro A5 c5 q3 ho hg;have CO3:Hid (q3.ownsRow wr.heap.size 67 3 (.slice A5 mn c5) mn (clX x.C x.R x.S mn)):=ho;have hb:Below q2.heap.size q2 q3:=((Below.refl _ _).alloc (Nat.le_refl _) _).grown hg (by simp) (fun j hj=>by cases hj;exact Nat.le_refl _);have S3:=hd (S2.out.below lb2 hb);have lb3:X.heap.size≤q3.heap.size:=Nat.le_trans lb2 hb.size;have RV3:=hd (Ql RV2.out hb);have PV3:=hd (PV2.out.below hb)
   have nn3:q3.cell? ⟨g,1,none⟩=some (.slice E1' t f1):=cy hb nn2;have OW3:=hd (Ql OW2.out hb);have lw3:wr.heap.size≤q3.heap.size:=Nat.le_trans lw2 hb.size;have UO3:=hd (Ql UO2.out hb);clear hb ho hg;clear b0 b1 b2 bf bz;have b0:q3.cell? ⟨wr.heap.size,0,none⟩=some (.int .i64 x.id):=OW3.out.cellAt 0 (by omega)
   have b1:q3.cell? ⟨wr.heap.size,1,none⟩=some (.slice A4 un c4):=OW3.out.cellAt 1 (by omega);have b2:q3.cell? ⟨wr.heap.size,2,none⟩=some (.slice s mn sc):=OW3.out.cellAt 2 (by omega);have bf: ∀o,q3.frozen? ⟨wr.heap.size,o,none⟩=false:=fun o=>OW3.out.frozenAt o;have bz:wr.heap.size<q3.heap.size:=World.block_lt_of_cell? q3 ⟨wr.heap.size,0,none⟩ b0;obtain⟨q4,HQ4⟩: ∃q,Hid (q3.setCell ⟨wr.heap.size,2,none⟩ (.slice A5 mn c5)=q):=⟨_,rfl⟩;obtain⟨q4,HQ4⟩: ∃q,Hid (q3.setCell ⟨wr.heap.size,2,none⟩ (.slice A5 mn c5)=q):=⟨_,rfl⟩;obtain⟨oq,gq⟩:=OW3.out.stored 2 (.slice A5 mn c5)
   rw [HQ4.out]at oq gq;have OW4:Hid (q4.ownsRow wr.heap.size 89 3 (.slice (some ⟨wr.heap.size,0,none⟩) 1 1) 1 [.int .i64 x.id,.slice A4 un c4,.slice A5 mn c5]):=oq;have ox:=Zc OW3.out zr;have S4:=hd (S3.out.grown lb3 ox gq);have lb4:X.heap.size≤q4.heap.size:=Nat.le_trans lb3 gq.size;have lw4:wr.heap.size≤q4.heap.size:=Nat.le_trans lw3 gq.size;have RV4:Hid (q4.ownsRow X.heap.size 89 3 (.slice E1' t f1) t ys):=RV3.out.kept gq HVN.out
   have PV4:Hid (VrPart q4 X.heap.size ys d.vs t):=PV3.out.keptV ox gq;have nn4:q4.cell? ⟨g,1,none⟩=some (.slice E1' t f1):=gq.cell nn3 HGN.out;have UO4:Hid (q4.ownsRow wr.heap.size 2 1 (.slice A4 un c4) un (x.ups.map (Value.int .i64))):=UO3.out.kept gq (Qkt UO3.out OW3.out (by decide));have CO4:Hid (q4.ownsRow wr.heap.size 67 3 (.slice A5 mn c5) mn (clX x.C x.R x.S mn)):=CO3.out.kept gq (Qkt CO3.out OW3.out (by decide));clear oq gq ox;go_upto_region 8 with fail
   rw [HQ4.out];clear b0 b1 b2 bf bz;clear HQ4;have b0:q4.cell? ⟨wr.heap.size,0,none⟩=some (.int .i64 x.id):=OW4.out.cellAt 0 (by omega);have b1:q4.cell? ⟨wr.heap.size,1,none⟩=some (.slice A4 un c4):=OW4.out.cellAt 1 (by omega);have b2:q4.cell? ⟨wr.heap.size,2,none⟩=some (.slice A5 mn c5):=OW4.out.cellAt 2 (by omega);have bf: ∀o,q4.frozen? ⟨wr.heap.size,o,none⟩=false:=fun o=>OW4.out.frozenAt o
   have bz:wr.heap.size<q4.heap.size:=World.block_lt_of_cell? q4 ⟨wr.heap.size,0,none⟩ b0;have gz4:g<q4.heap.size:=Nat.lt_of_lt_of_le hgV lw4;obtain⟨q5,HQ5⟩: ∃q,Hid (q4.alloc (.cells #[.int .i64 x.id,.slice A4 un c4,.slice A5 mn c5] 89)=q):=⟨_,rfl⟩;have hb:Below q4.heap.size q4 q5:=by rw [←HQ5.out];exact(Below.refl _ _).alloc (Nat.le_refl _) _
   have VC5:Hid (VCell q5 q4.heap.size x.id (.slice A4 un c4) (.slice A5 mn c5)):=by rw [←HQ5.out];exact VCell.at
   have S5:=hd (S4.out.below lb4 hb);have lb5:X.heap.size≤q5.heap.size:=Nat.le_trans lb4 hb.size;have RV5:=hd (Ql RV4.out hb);have PV5:=hd (PV4.out.below hb);have nn5:q5.cell? ⟨g,1,none⟩=some (.slice E1' t f1):=cy hb nn4;have OW5:=hd (Ql OW4.out hb);have lw5:wr.heap.size≤q5.heap.size:=Nat.le_trans lw4 hb.size
   have UO5:=hd (Ql UO4.out hb);have CO5:=hd (Ql CO4.out hb);clear hb;go_wp2_with (first | (at_builtin;rw [HQ5.out];refine wpList_app_vr rfl _ _ rfl X.heap.size (.slice E1' t f1) t ys rfl RV5.out x.id A4 un c4 A5 mn c5 q4.heap.size rfl VC5.out (by omega) lb5 ?_) | fail)
   intro va q6 ho hg;obtain⟨F6,h6,rfl,_,_⟩:=Qo ho;have S6:=hd (S5.out.grown lb5 RV5.out hg)
   have EE6:Hid (CpL X.heap.size g d.next (.slice A3 n2 c3) n2 d.bs X d.vs (t+1) (q6.setCell ⟨g,1,none⟩ (.slice F6 (t+1) h6))):=by
    refine CpL.next (x:=x) (ys:=ys) (u:=A4) (uc:=c4) (s:=A5) (sc:=c5) S6.out hg0 zr ?_ HYL.out HXT.out (PV5.out.keptV RV5.out hg) HAP.out HLT.out ?_ ?_
    ·rw [HUN.out,HMN.out];exact ho
    ·rw [HUN.out];exact UO5.out.kept hg (Qkt UO5.out RV5.out (by decide))
    ·rw [HMN.out];exact CO5.out.kept hg (Qkt CO5.out RV5.out (by decide))
   obtain⟨gx6,gc6⟩:=S6.out.c1;have gf6:=S6.out.nf 1;have gl6:g<q6.heap.size:=World.block_lt_of_cell? q6 ⟨g,1,none⟩ gc6;clear hg ho;clear b0 b1 b2 bf bz;clear nn5 nn4 nn3 nn2 nn1 nn0;go_wp2_with fail
   go_roundw
   case rel=>exact⟨t+1,by omega,by go_num,EE6.out⟩
   case measure=>simp [intOf];omega
  ·have h1: ¬(t:Int)<(n1:Int):=by omega
   obtain rfl:t=n1:=by omega
   have b0:=HN.out.c0;have b2:=HN.out.c2;have m0:=cy HBX.out p0;have m1:=cy HBX.out p1;have m2:=cy HBX.out p2
   have mf: ∀o,wr.frozen? ⟨w.heap.size+1,o,none⟩=false:=fun o=>by
    rw [HBX.out.frozen (p:=⟨w.heap.size+1,o,none⟩) zX1];exact pf o
   have mz:w.heap.size+1<wr.heap.size:=Nat.lt_of_lt_of_le zX1 zr;have gz:g<wr.heap.size:=World.block_lt_of_cell? wr ⟨g,0,none⟩ b0
   have HD:Hid (DgO wr X.heap.size (.agg #[.int .i64 d.next,.slice E1' t f1,.slice A3 n2 c3]) d):=by
    refine⟨_,_,ys,rfl,?_,?_,?_,?_⟩
    ·rw [E1.out];exact ho1
    ·rw [E1.out];exact hp1
    ·rw [E1.out];exact ha1
    ·rw [E2.out];exact HN.out.o2
   have KR:Hid (Below w.heap.size w wr):=KX.out.trans (HBX.out.mono (by omega));clear ho1 hp1 ha1 HN;go_wp2_with fail
   refine bodyPost_ret (v:= .agg #[.int .i64 d.next,.slice E1' t f1,.slice A3 n2 c3]) ?_ rfl ⟨_,rfl,?_,?_⟩
   ·simp (maxDischargeDepth:=9) [results,Tryz.results26,go_sem, *]
   ·exact(((HD.out.setB zX1).setB zX1).setB zX1).mono (by omega)
   ·exact((KR.out.setCell (by show w.heap.size≤w.heap.size+1;omega) _).setCell (by show w.heap.size≤w.heap.size+1;omega) _).setCell (by show w.heap.size≤w.heap.size+1;omega) _
theorem noD_ok:DgOk noD:=⟨fun _ hx=>(List.not_mem_nil hx).elim,fun _ hx=>(List.not_mem_nil hx).elim,fun _ hx=>(List.not_mem_nil hx).elim⟩
theorem noD_lil:DgLil noD:=⟨fun _ hx=>(List.not_mem_nil hx).elim,fun _ hx=>(List.not_mem_nil hx).elim,Nat.zero_le _,Nat.zero_le _⟩
theorem laws_szDagL {v:Value} {d:DG} (w:World) (h:DgRow w v d) (hx:DgOk d):
  Calls Tryz.prog 6 #[v,.int .i64 1048576] w fun e w'=> ∃z:Int,e= .returned (.int .i64 z)∧z≤1048576∧(0≤z→DgLil d)∧Below w.heap.size w w':=by
 obtain⟨A1,n1,c1,A2,n2,c2,rfl⟩:=h.agg;obtain⟨r1,e1,r2,e2⟩:=h.open;have R1:Hid (VrRow w A1 d.vs):=r1;have R2:Hid (ZT w A2 d.bs):=r2;have E1:Hid (d.vs.length=n1):=e1;have E2:Hid (d.bs.length=n2):=e2;have HX:Hid (DgOk d):=hx
 clear h r1 r2 e1 e2 hx;go_enter Tryz.func6,Tryz.ntmps6;go_wp2_with fail
 refine(Kt _ (R1.out.below (by go_grown)) E1.out).mono ?_;rintro e u1 ⟨z,rfl,hz1,hz,hb⟩;obtain⟨hc,hf,hC,hF,hzz,hk,l0⟩:=bk1 (w:=w) (by go_grown) (by go_size) hb;clear hb;by_cases hneg:z<0
 ·go_wp2_with fail
  go_ret;exact⟨_,rfl,by omega,fun h=>by omega,hk⟩
 have HV:Hid (n1≤1048576∧ ∀x∈d.vs,JS x):=hz (by omega);clear hz;go_wp2_with fail
 refine(Hg _ _ (R2.out.below hk) E2.out HX.out.b (by omega) (by omega)).mono ?_;rintro e u2 ⟨z2,rfl,hz2,hz3,hb⟩;have K2:=hd (Qb hk hb);clear hb;by_cases hneg2:z2<0
 ·go_wp2_with fail
  go_ret;exact⟨_,rfl,by omega,fun h=>by omega,K2.out⟩
 have HB:Hid (n2≤1048576∧ ∀x∈d.bs,VA x):=hz3 (by omega);clear hz3;go_wp2_with fail
 go_ret;exact⟨_,rfl,by omega,fun _=>⟨HV.out.2,HB.out.2,by rw [E1.out];exact HV.out.1,by rw [E2.out];exact HB.out.1⟩,K2.out⟩
theorem wf_of {z:Int} (h0:0≤z) (h1:z≤1000000000):(Lit.int .i64 z).wf=true:=by
 simp [Lit.wf,IntKind.min,IntKind.max,IntKind.signed,IntKind.bits];omega
theorem CmR.open {B:Nat} {w':World} {D:DG} {i1 i2:Int} {e:Ending} (h:CmR B w' (D,i1,i2) e): ∃A1 n1 c1 A2 n2 c2,e= .returned (.tuple #[.agg #[.int .i64 D.next,.slice A1 n1 c1,.slice A2 n2 c2],.int .i64 i1,.int .i64 i2])∧DgO w' B (.agg #[.int .i64 D.next,.slice A1 n1 c1,.slice A2 n2 c2]) D:=by
 obtain⟨v',rfl,ho⟩:=h;obtain⟨A1,c1,A2,c2,rfl,_,_⟩:=ho.parts;exact⟨_,_,_,_,_,_,rfl,ho⟩
def Kps (d:DG) (kl:List Int):Prop:= ∀y,y∈kl↔ ∃b∈d.bs,Rvh d.vs b.h y
theorem kps_ex (d:DG): ∃kl,Kps d kl:=by
 classical
 refine⟨(QS d.vs).filter (fun y=>decide (∃b∈d.bs,Rvh d.vs b.h y)),fun y=> ?_⟩;rw [List.mem_filter,decide_eq_true_eq];exact⟨fun h=>h.2,fun h=>⟨by obtain⟨b,_,hr⟩:=h;exact hr.mem,h⟩⟩
def kpL (kl:List Int) (L:List VR):List VR:=L.filter fun x=>decide (x.id∈kl)
theorem kpL_same {kl kl':List Int} {L:List VR} (h: ∀y,y∈kl↔y∈kl'):kpL kl L=kpL kl' L:=by
 unfold kpL;exact List.filter_congr fun x _=>by rw [decide_eq_decide];exact h x.id
theorem kpL_mem {kl:List Int} {L:List VR} {x:VR}:x∈kpL kl L↔x∈L∧x.id∈kl:=by
 unfold kpL;rw [List.mem_filter,decide_eq_true_eq]
theorem kpL_len (kl:List Int) (L:List VR):(kpL kl L).length≤L.length:=List.length_filter_le _ _
theorem kpL_take {kl:List Int} {L:List VR} {t:Nat} {x:VR} (hx:L[t]? =some x):kpL kl (L.take (t+1))=kpL kl (L.take t)++(if x.id∈kl then [x]else []):=by
 unfold kpL;rw [List.take_add_one,hx,List.filter_append];by_cases h:x.id∈kl
 ·rw [if_pos h];simp [h]
 ·rw [if_neg h];simp [h]
theorem kpL_asc {kl:List Int} {L:List VR} (h:YK ltV L=true):(QS (kpL kl L)).Pairwise (· < ·):=by
 unfold QS;rw [List.pairwise_map];refine List.Pairwise.filter _ ?_;rw [List.pairwise_iff_getElem];intro i j hi hj hij;exact GO h i j _ _ hij (List.getElem?_eq_getElem hi) (List.getElem?_eq_getElem hj)
theorem kpL_ids {kl:List Int} {L:List VR} (h: ∀y∈kl,y∈QS L) (y:Int):y∈QS (kpL kl L)↔y∈kl:=by
 constructor
 ·intro hy;obtain⟨x,hx,rfl⟩:=ids_mem hy;exact(kpL_mem.1 hx).2
 ·intro hy;obtain⟨x,hx,e⟩:=ids_mem (h y hy);rw [←e];exact mem_ids (kpL_mem.2 ⟨hx,by rw [e];exact hy⟩)
def swD (d:DG) (kl:List Int):DG:=⟨d.next,kpL kl d.vs,d.bs⟩
def swA (d:DG) (kl:List Int):DG × Bool:=if Xb d=true then(swD d kl,true)else(noD,false)
theorem swD_ok {d:DG} {kl:List Int} (h:DgOk d):DgOk (swD d kl):=⟨fun x hx=>h.v x (kpL_mem.1 hx).1,h.b,h.h⟩
theorem swD_lil {d:DG} {kl:List Int} (h:DgLil d):DgLil (swD d kl):=⟨fun x hx=>h.v x (kpL_mem.1 hx).1,h.b,Nat.le_trans (kpL_len _ _) h.nv,h.nb⟩
theorem swA_ok {d:DG} {kl:List Int} (hk:DgOk d) (hl:DgLil d):DgOk (swA d kl).1∧DgLil (swA d kl).1:=by
 unfold swA;by_cases hd:Xb d=true
 ·rw [if_pos hd];exact⟨swD_ok hk,swD_lil hl⟩
 ·rw [if_neg hd];exact⟨noD_ok,noD_lil⟩
def SwR (B:Nat) (w':World) (r:DG × Bool) (e:Ending):Prop:= ∃v',e= .returned (.tuple #[v',.bool r.2])∧DgO w' B v' r.1
theorem SwR.open {B:Nat} {w':World} {D:DG} {i1:Bool} {e:Ending} (h:SwR B w' (D,i1) e): ∃A1 n1 c1 A2 n2 c2,e= .returned (.tuple #[.agg #[.int .i64 D.next,.slice A1 n1 c1,.slice A2 n2 c2],.bool i1])∧DgO w' B (.agg #[.int .i64 D.next,.slice A1 n1 c1,.slice A2 n2 c2]) D:=by
 obtain⟨v',rfl,ho⟩:=h;obtain⟨A1,c1,A2,c2,rfl,_,_⟩:=ho.parts;exact⟨_,_,_,_,_,_,rfl,ho⟩
def VrPt (W:World) (ys:List Value) (L:List VR):Prop:=ys.length=L.length*3∧ ∀(i:Nat) x,L[i]? =some x→ ∃u uc s sc,ys[i*3]? =some (.int .i64 x.id)∧ys[i*3+1]? =some (.slice u x.ups.length uc)∧ys[i*3+2]? =some (.slice s x.m sc)∧IntRow W u x.ups∧ClRow W s x.m x.C x.R x.S
theorem VrPt.nil (W:World):VrPt W [] []:=⟨rfl,fun i x h=>by simp at h⟩
theorem VrPt.snoc {W:World} {ys:List Value} {L:List VR} {x:VR} {u s:Option Addr} {uc sc:Nat} (h:VrPt W ys L) (h1:IntRow W u x.ups) (h2:ClRow W s x.m x.C x.R x.S):VrPt W (ys++ [.int .i64 x.id,.slice u x.ups.length uc,.slice s x.m sc]) (L++ [x]):=by
 refine⟨by simp [h.1];omega,fun i y hy=> ?_⟩;by_cases e:i<L.length
 ·rw [List.getElem?_append_left e]at hy;obtain⟨u',uc',s',sc',y0,y1,y2,k1,k2⟩:=h.2 i y hy;have hl:=h.1;exact⟨u',uc',s',sc',by rw [List.getElem?_append_left (by omega)];exact y0,by rw [List.getElem?_append_left (by omega)];exact y1,by rw [List.getElem?_append_left (by omega)];exact y2,k1,k2⟩
 ·have hi:i=L.length:=by
   have:=(List.getElem?_eq_some_iff.1 hy).1;simp at this;omega
  subst hi;rw [List.getElem?_append_right (Nat.le_refl _),Nat.sub_self]at hy;cases hy
  have hl:=h.1;refine⟨u,uc,s,sc,?_,?_,?_,h1,h2⟩
  ·rw [List.getElem?_append_right (by omega),hl,Nat.sub_self];rfl
  ·rw [List.getElem?_append_right (by omega),hl,Nat.add_sub_cancel_left];rfl
  ·rw [List.getElem?_append_right (by omega),hl,Nat.add_sub_cancel_left];rfl
theorem VrPt.row {W W0:World} {B n cap:Nat} {A:Option Addr} {ys:List Value} {L:List VR} (h:VrPt W0 ys L) (ho:W.ownsRow B 89 3 (.slice A n cap) n ys) (hL:L.length=n) (hb:Below W0.heap.size W0 W):VrRow W A L:=by
 obtain⟨A',cap',e,hn,hc⟩:=Qo ho;cases e
 refine⟨by rw [hL];exact hn,fun i x hx=> ?_⟩;have hi:i<n:=by rw [←hL];exact(List.getElem?_eq_some_iff.1 hx).1
 obtain⟨u,uc,s,sc,y0,y1,y2,h1,h2⟩:=h.2 i x hx;obtain⟨b,e0,_,hl,d0,_⟩:=hc (i*3) (by omega);obtain⟨b1,e1,_,_,d1,_⟩:=hc (i*3+1) (by omega);obtain⟨b2,e2,_,_,d2,_⟩:=hc (i*3+2) (by omega);rw [e0]at e1 e2;cases e1;cases e2
 rw [y0]at d0;rw [y1]at d1;rw [y2]at d2;exact⟨b,0,u,uc,s,sc,e0,hl,by rw [Nat.zero_add];exact d0,by rw [Nat.zero_add];exact d1,by rw [Nat.zero_add];exact d2,h1.below hb,h2.below hb⟩
theorem impl_inOrder {L:List VR} {W0:World} {b n:Nat} {l:List Int} (w:World) (hM:VMapW L W0 w b n l) (h0:Below W0.heap.size W0 w) (ha:YK ltV L=true) (hn:n≤1000) (hwf: ∀x∈L,(Lit.int .i64 x.id).wf=true) (hs: ∀y∈l,y∈QS L) (h40:L.length≤40):
  Calls Tryz.prog 79 #[.map (some b)] w fun e w'=> ∃A c,e= .returned (.slice A (kpL l L).length c)∧VrRow w' A (kpL l L)∧Below w.heap.size w w':=by
 have HM:Hid (VMapW L W0 w b n l):=hM;have HB0:Hid (Below W0.heap.size W0 w):=h0;have HWF:Hid (∀x∈L,(Lit.int .i64 x.id).wf=true):=hwf;obtain⟨K,HK⟩: ∃K,Hid (kpL l L=K):=⟨_,rfl⟩;obtain⟨k,HKL⟩: ∃k,Hid (K.length=k):=⟨_,rfl⟩;have hk40:k≤40:=by rw [←HKL.out,←HK.out];exact Nat.le_trans (kpL_len _ _) h40
 have HAS:Hid ((QS K).Pairwise (· < ·)):=by rw [←HK.out];exact kpL_asc ha
 have HID:Hid (∀y,y∈QS K↔y∈l):=by rw [←HK.out];exact kpL_ids hs
 have HIL:Hid ((QS K).length=k):=by show _=_;rw [QS,List.length_map,HKL.out]
 have HWL:Hid (∀y∈l,(Lit.int .i64 y).wf=true):=fun y hy=>by
  obtain⟨x,hx,e⟩:=ids_mem (hs y hy);rw [←e];exact hwf x hx
 have HXM:Hid (∀x∈K,x∈L∧x.id∈l):=fun x hx=>by rw [←HK.out]at hx;exact kpL_mem.1 hx
 rw [HK.out,HKL.out];clear hM h0 ha hwf hs;go_enter Tryz.func79,Tryz.ntmps79;go_wp2_with fail
 refine(impl_ids w HM.out.map hn HWL.out HAS.out HID.out).mono ?_;rintro e u ⟨A0,c0,rfl,ho,hb⟩;rw [HIL.out];have HI:Hid (IntRow u A0 (QS K)):=int_ownN rfl ho;have KU:Hid (Below w.heap.size w u):=hb;clear ho hb;go_wp2_with fail
 go_loopw [3,9] (fun q i wr=> ∃(t:Nat) (A:Option Addr) (c:Nat) (ys:List Value),t≤k∧q= .slice A t c∧i= .int .i64 t∧wr.ownsRow u.heap.size 89 3 (.slice A t c) t ys∧VrPt W0 ys (K.take t)∧Below u.heap.size u wr) (fun _ i _=>k-(intOf i).toNat)
 case atStart=>exact⟨0,none,0,[],Nat.zero_le _,rfl,rfl,World.ownsRow_nil _ _ _ _,VrPt.nil _,Below.refl _ _⟩
 case round=>
  obtain⟨t,A,c,ys,ht,rfl,rfl,hown,hpt,hbel⟩:=hrel;have HOW:Hid (wr.ownsRow u.heap.size 89 3 (.slice A t c) t ys):=hown;have HPT:Hid (VrPt W0 ys (K.take t)):=hpt;have KW:Hid (Below u.heap.size u wr):=hbel;have hsz:=hbel.size;clear hown hpt;by_cases hlt:t<k
  ·obtain⟨x,hx⟩:=ZD HKL.out hlt;have HX:Hid (K[t]? =some x):=hx;obtain⟨hxL,hxl⟩:=HXM.out x (List.mem_of_getElem? hx);obtain⟨v,⟨yu,yuc,ys2,ysc,rfl,hiu,hcs⟩,hlk⟩:=HM.out.look hxL hxl (HWF.out x hxL);obtain⟨un,HUN⟩: ∃un,Hid (x.ups.length=un):=⟨_,rfl⟩;obtain⟨mn,HMN⟩: ∃mn,Hid (x.m=mn):=⟨_,rfl⟩;have hrun:=hlk wr (Or.inl (KU.out.trans (hbel.mono KU.out.size)))
   rw [HUN.out,HMN.out]at hrun;have HIU:Hid (IntRow W0 yu x.ups):=hiu;have HCS:Hid (ClRow W0 ys2 x.m x.C x.R x.S):=hcs;obtain⟨b1,o1,rfl,hl1,cs⟩:=Je HI.out (show(QS K)[t]? =some x.id by rw [QS,List.getElem?_map,hx];rfl);rw [←hbel.cell (p:=⟨_,_,none⟩) hl1]at cs;have hl2:b1<wr.heap.size:=Nat.lt_of_lt_of_le hl1 hsz;have q0:(0:Int)≤(t:Int):=by omega
   have q1:(t:Int)<(k:Int):=by omega
   clear hx hlk hiu hcs hxL hxl hbel
   go_wp2_with (first
    | (at_builtin;refine wpList_app_vr rfl _ _ rfl u.heap.size (.slice A t c) t ys rfl (HOW.out.alloc _) x.id yu un yuc ys2 mn ysc wr.heap.size rfl VCell.at (by omega) (by simp;omega) ?_)
    | fail)
   intro va q6 ho hg;obtain⟨F6,h6,rfl,_,_⟩:=Qo ho;have HO6:Hid (q6.ownsRow u.heap.size 89 3 (.slice F6 (t+1) h6) (t+1) (ys++ [.int .i64 x.id,.slice yu un yuc,.slice ys2 mn ysc])):=ho
   have HP6:Hid (VrPt W0 (ys++ [.int .i64 x.id,.slice yu un yuc,.slice ys2 mn ysc]) (K.take (t+1))):=by
    have h9:=HPT.out.snoc (uc:=yuc) (sc:=ysc) HIU.out HCS.out;rw [HUN.out,HMN.out]at h9;rw [List.take_add_one,HX.out];exact h9
   have K6:Hid (Below u.heap.size u q6):=(KW.out.alloc hsz _).grown hg (by simp;omega) (fun j hj=>(HOW.out.lt j hj).1);clear ho hg;go_wp2_with fail
   go_roundw
   case rel=>exact⟨t+1,F6,h6,_,by omega,rfl,by go_num,HO6.out,HP6.out,K6.out⟩
   case measure=>simp [intOf];omega
  ·have h1: ¬(t:Int)<(k:Int):=by omega
   obtain rfl:t=k:=by omega
   have HV:Hid (VrRow wr A K):=by
    have h9:=HPT.out;rw [←HKL.out,List.take_length]at h9;have h8:=HOW.out;exact h9.row h8 HKL.out (HB0.out.trans ((KU.out.trans (hbel.mono KU.out.size)).mono HB0.out.size))
   go_wp2_with fail
   go_ret;exact⟨A,⟨c,rfl⟩,HV.out,KU.out.trans (hbel.mono KU.out.size)⟩
theorem wpList_app_i {ops:Array Oper} {rest:List Oper} {o:Oper} {a:Act} {Q:Exit→Act→World→Prop} {W:World} (hgd:o.guard=none) (s x:Operand) (ho:o.op= .call {callee:= .builtin .append,args:= #[s,x],argTypes:= #[62,62]}) (B:Nat) (v:Value) (n:Nat) (l:List Int) (hs:a.eval s=v)
  (hown:W.ownsRow B 2 1 v n (l.map (Value.int .i64))) (z:Int) (g:Nat) (hx:a.eval x= .slice (some ⟨g,0,none⟩) 1 1) (hc:W.cell? ⟨g,0,none⟩=some (.int .i64 z)) (hn:n≤1099511627776) (hB:B≤W.heap.size)
  (h: ∀v' w',w'.ownsRow B 2 1 v' (n+1) ((l++ [z]).map (Value.int .i64))→W.grownBy w' v.ownBlock→wpList Tryz.prog ops Q rest (a.put o.dst v') w'):wpList Tryz.prog ops Q (o::rest) a W:=by
 obtain⟨i0,hi,iz0,iz1,iz2⟩:=info_parts MY;refine wpList_append_own W hgd s x 62 ho B 2 i0 (.int .i64 0) 1 8 Tryz.underlying62 hi iz0 iz1 iz2 rfl (by decide) v n _ hs hown ⟨g,0,none⟩ 1 1 [.int .i64 z] hx rfl ?_ ?_ ?_ ?_ hB ?_
 ·intro q u hq;match q,hq with
  | 0,hq=>simp at hq;subst hq;simpa [Addr.add]using hc
 ·intro u hu;simp at hu;subst hu;rfl
 ·unfold maxLen;omega
 ·omega
 ·intro v' w3 hown' hgrow _;refine h v' w3 ?_ hgrow;rw [List.map_append];exact hown'
theorem impl_swept {v:Value} {d:DG} {kl:List Int} (w:World) (h:DgRow w v d) (hk:DgOk d) (hl:DgLil d) (hf:DgFacts d) (hkl:Kps d kl):
  Calls Tryz.prog 46 #[v] w fun e w'=> ∃v',e= .returned v'∧DgO w' w.heap.size v' (swD d kl)∧Below w.heap.size w w':=by
 obtain⟨A1,n1,c1,A2,n2,c2,rfl⟩:=h.agg;obtain⟨r1,e1,r2,e2⟩:=h.open;have R1:Hid (VrRow w A1 d.vs):=r1;have R2:Hid (ZT w A2 d.bs):=r2;have E1:Hid (d.vs.length=n1):=e1;have E2:Hid (d.bs.length=n2):=e2;have HL:Hid (DgLil d):=hl
 have HF:Hid (DgFacts d):=hf;have HKL:Hid (Kps d kl):=hkl;have hn1:n1≤40:=by rw [←e1];exact hf.nv
 have hn2:n2≤8:=by rw [←e2];exact hf.nb
 obtain⟨xs,HXS⟩: ∃xs,Hid (d.bs.map (·.h)=xs):=⟨_,rfl⟩;have HWI:Hid (∀x∈d.vs,(Lit.int .i64 x.id).wf=true):=fun x hx=>wf_of (by have:=hf.lo x hx;omega) (by have:=hf.hi x hx;have:=hf.nx;omega);have HUP:Hid (∀x∈d.vs,∀u∈x.ups,(Lit.int .i64 u).wf=true):=fun x hx=>(hk.v x hx).2
 have HWX:Hid (∀x∈xs,(Lit.int .i64 x).wf=true):=by
  rw [←HXS.out];intro x hx;obtain⟨b,hb,rfl⟩:=List.mem_map.1 hx;exact hk.h b hb
 have HXL:Hid (xs.length=n2):=by show _=_;rw [←HXS.out,List.length_map,e2]
 clear h r1 r2 e1 e2 hl hk hf hkl;go_enter Tryz.func46,Tryz.ntmps46;go_wp2_with fail
 obtain⟨X,HX⟩: ∃X,Hid ((w.alloc (.cells #[.int .i64 d.next,.slice A1 n1 c1,.slice A2 n2 c2] 32)).alloc (.cells #[.int .i64 0,.slice none 0 0,.slice none 0 0] 32)=X):=⟨_,rfl⟩;rw [HX.out];have x0:X.cell? ⟨w.heap.size,0,none⟩=some (.int .i64 d.next):=by rw [←HX.out];go_simp
 have x1:X.cell? ⟨w.heap.size,1,none⟩=some (.slice A1 n1 c1):=by rw [←HX.out];go_simp
 have x2:X.cell? ⟨w.heap.size,2,none⟩=some (.slice A2 n2 c2):=by rw [←HX.out];go_simp
 have p0:X.cell? ⟨w.heap.size+1,0,none⟩=some (.int .i64 0):=by rw [←HX.out];go_simp
 have p1:X.cell? ⟨w.heap.size+1,1,none⟩=some (.slice none 0 0):=by rw [←HX.out];go_simp
 have p2:X.cell? ⟨w.heap.size+1,2,none⟩=some (.slice none 0 0):=by rw [←HX.out];go_simp
 have pf: ∀o,X.frozen? ⟨w.heap.size+1,o,none⟩=false:=fun o=>by rw [←HX.out];go_simp
 have ZX:Hid (X.heap.size=w.heap.size+2):=by rw [←HX.out];show _=_;simp
 have zX0:w.heap.size<X.heap.size:=by have:=ZX.out;omega
 have zX1:w.heap.size+1<X.heap.size:=by have:=ZX.out;omega
 have KX:Hid (Below w.heap.size w X):=by rw [←HX.out];show Below _ _ _;go_grown
 have P0:Hid (X.cell? ⟨w.heap.size+1,0,none⟩=some (.int .i64 0)):=p0;have P1:Hid (X.cell? ⟨w.heap.size+1,1,none⟩=some (.slice none 0 0)):=p1;have P2:Hid (X.cell? ⟨w.heap.size+1,2,none⟩=some (.slice none 0 0)):=p2;have PF:Hid (∀o,X.frozen? ⟨w.heap.size+1,o,none⟩=false):=pf;clear HX p0 p1 p2 pf;go_loopw [3,10] (fun q i wr=> ∃(t:Nat) (A:Option Addr) (c:Nat),t≤n2∧q= .slice A t c∧i= .int .i64 t∧wr.ownsRow X.heap.size 2 1 (.slice A t c) t ((xs.take t).map (Value.int .i64))∧Below X.heap.size X wr) (fun _ i _=>n2-(intOf i).toNat)
 case atStart=>exact⟨0,none,0,Nat.zero_le _,rfl,rfl,World.ownsRow_nil _ _ _ _,Below.refl _ _⟩
 case round=>
  obtain⟨t,A,c,ht,rfl,rfl,hown,hbel⟩:=hrel;have HOW:Hid (wr.ownsRow X.heap.size 2 1 (.slice A t c) t ((xs.take t).map (Value.int .i64))):=hown;have KW:Hid (Below X.heap.size X wr):=hbel;have hsz:=hbel.size;have KA:=hd (Qb KX.out hbel);clear hown;by_cases hlt:t<n2
  ·obtain⟨x,hx⟩:=ZD E2.out hlt;have HXT:Hid (xs[t]? =some x.h):=by show _=_;rw [←HXS.out,List.getElem?_map,hx];rfl
   obtain⟨b,o,rfl,hl,hc⟩:=R2.out.2 t x hx;have b0:w.cell? ⟨b,o+t*2,none⟩=some (.string x.n):=hc 0 _ rfl;have b1:w.cell? ⟨b,o+t*2+1,none⟩=some (.int .i64 x.h):=hc 1 _ rfl;rw [←KA.out.cell (p:=⟨_,_,none⟩) hl]at b0 b1;have hl2:b<wr.heap.size:=Nat.lt_of_lt_of_le hl KA.out.size;have q0:(0:Int)≤(t:Int):=by omega
   have q1:(t:Int)<(n2:Int):=by omega
   clear hx hc hbel
   go_wp2_with (first
    | (at_builtin;refine wpList_app_i rfl _ _ rfl X.heap.size (.slice A t c) t (xs.take t) rfl ((HOW.out.alloc _).alloc _) x.h (wr.heap.size+1) rfl (by simp [go_sem]) (by omega) (by simp;omega) ?_)
    | fail)
   intro va q6 ho hg;obtain⟨F6,h6,rfl,_,_⟩:=Qo ho;have HO6:Hid (q6.ownsRow X.heap.size 2 1 (.slice F6 (t+1) h6) (t+1) ((xs.take (t+1)).map (Value.int .i64))):=by rw [take_succ_at HXT.out,List.map_append,List.map_take];exact ho
   have K6:Hid (Below X.heap.size X q6):=((KW.out.alloc hsz _).alloc (by simp;omega) _).grown hg (by simp;omega) (fun j hj=>(HOW.out.lt j hj).1);clear ho hg;go_wp2_with fail
   go_roundw
   case rel=>exact⟨t+1,F6,h6,by omega,rfl,by go_num,HO6.out,K6.out⟩
   case measure=>simp [intOf];omega
  ·have h1: ¬(t:Int)<(n2:Int):=by omega
   obtain rfl:n2=t:=by omega
   have HIX:Hid (IntRow wr A xs):=by
    have h9:=HOW.out;rw [←HXL.out,List.take_length]at h9;rw [HXL.out]at h9;exact int_ownN HXL.out h9
   have m0:=cy hbel x0;have m1:=cy hbel x1;have m2:=cy hbel x2;have mz:w.heap.size<wr.heap.size:=Nat.lt_of_lt_of_le zX0 hsz;clear hbel HOW x0 x1 x2;go_wp2_with fail
   refine(impl_versionMapOfW _ (R1.out.below KA.out) E1.out HWI.out HF.out.asc (by omega)).mono ?_;rintro e u1 ⟨rfl,hM,hb⟩;have HM:Hid (VMapW d.vs u1 u1 wr.heap.size n1 (QS d.vs)):=hM.base hb
   have hwu:wr.heap.size<u1.heap.size:=by
    obtain⟨D,h9,_⟩:=hM;exact h9.lt
   have KU:Hid (Below wr.heap.size wr u1):=hb;replace m0:=cy hb m0;replace m1:=cy hb m1;replace m2:=cy hb m2;replace mz:w.heap.size<u1.heap.size:=Nat.lt_of_lt_of_le mz hb.size;clear hM hb;go_wp2_with fail
   refine(impl_above u1 HF.out.asc HWI.out HUP.out HM.out hwu (HIX.out.below KU.out) HXL.out HWX.out HF.out.nv).mono ?_;rintro e u2 ⟨rfl,z,l,hz,hM2,hml,hb⟩;have HM2:Hid (VMapW d.vs u1 u2 (u1.heap.size+1) z l):=hM2
   have HLK:Hid (∀y,y∈l↔y∈kl):=fun y=>by
    rw [hml,HKL.out y,←HXS.out];constructor
    ·rintro⟨x,hx,hr⟩;obtain⟨b,hb,rfl⟩:=List.mem_map.1 hx;exact⟨b,hb,hr⟩
    ·rintro⟨b,hb,hr⟩;exact⟨b.h,List.mem_map.2 ⟨b,hb,rfl⟩,hr⟩
   have HLS:Hid (∀y∈l,y∈QS d.vs):=fun y hy=>by
    obtain⟨x,_,hr⟩:=(hml y).1 hy;exact hr.mem
   have KV:Hid (Below u1.heap.size u1 u2):=hb;replace m0:=cy hb m0;replace m2:=cy hb m2;replace mz:w.heap.size<u2.heap.size:=Nat.lt_of_lt_of_le mz hb.size;have KX2:Hid (Below X.heap.size X u2):=KW.out.trans ((Qb KU.out KV.out).mono hsz);have M0:Hid (u2.cell? ⟨w.heap.size,0,none⟩=some (.int .i64 d.next)∧u2.cell? ⟨w.heap.size,2,none⟩=some (.slice A2 n2 c2)∧w.heap.size<u2.heap.size):=⟨m0,m2,mz⟩;clear hM2 hml hb HIX m1
   go_upto_region 8 with fail
   have VE0:Hid (u2.drew.cell? ⟨w.heap.size,0,none⟩=some (.int .i64 d.next)∧u2.drew.cell? ⟨w.heap.size,2,none⟩=some (.slice A2 n2 c2)∧w.heap.size<u2.drew.heap.size):=M0.out;have KD:Hid (Below X.heap.size X u2.drew):=KX2.out.drew;clear m0 m2 mz;refine wp_region_held_drew (S:=(fun w'=>w'.cell? ⟨w.heap.size,0,none⟩=some (.int .i64 d.next)∧w'.cell? ⟨w.heap.size,2,none⟩=some (.slice A2 n2 c2)∧w.heap.size<w'.heap.size)) (by kernel_rfl) VE0.out (fun hHeld=> ?_);refine tkA 0 ?_;refine tkB 1 ?_;refine tkA 2 ?_
   refine tkB 4 ?_;refine tkB 5 ?_;refine rqA 3 (fun Kq hKq=> ?_);have KDD:Hid (Below u2.heap.size u2 u2.drew):=(Below.refl _ _).drew;go_simp;refine(impl_inOrder (W0:=u1) _ (HM2.out.below KDD.out) (KV.out.drew) HF.out.asc hz HWI.out HLS.out HF.out.nv).mono ?_;rintro e q1 ⟨A9,c9,rfl,hv,hb⟩
   have HV:Hid (VrRow q1 A9 (kpL l d.vs)):=hv;have VE1:Hid (q1.cell? ⟨w.heap.size,0,none⟩=some (.int .i64 d.next)∧q1.cell? ⟨w.heap.size,2,none⟩=some (.slice A2 n2 c2)∧w.heap.size<q1.heap.size):=⟨cy hb VE0.out.1,cy hb VE0.out.2.1,Nat.lt_of_lt_of_le VE0.out.2.2 hb.size⟩;have K1:=hd (Qb KD.out hb);clear hb hv;refine hkB hKq (VE1.out) fun hHeld=> ?_;clear hKq Kq;refine tkB 6 ?_
   refine rqA 7 (fun Kq hKq=> ?_);go_simp;refine(impl_dcopied (d:=swD d l) _ ⟨A9,c9,A2,c2,by show _=Value.agg #[.int .i64 d.next,.slice A9 (kpL l d.vs).length c9,.slice A2 d.bs.length c2];rw [E2.out],HV.out,R2.out.below (KX.out.trans (K1.out.mono (Nat.le_of_lt zX0)))⟩ (swD_lil HL.out)).mono ?_;rintro e q2 ⟨v9,rfl,ho,hb⟩;rw [show swD d l=swD d kl by unfold swD;rw [kpL_same HLK.out]]at ho;obtain⟨A5,c5,A6,c6,rfl,_,_⟩:=ho.parts;obtain⟨n5,HN5⟩: ∃n5,Hid ((swD d kl).vs.length=n5):=⟨_,rfl⟩
   obtain⟨n6,HN6⟩: ∃n6,Hid ((swD d kl).bs.length=n6):=⟨_,rfl⟩;rw [HN5.out,HN6.out,show(swD d kl).next=d.next from rfl]at ho;rw [HN5.out,HN6.out,show(swD d kl).next=d.next from rfl];have HO:Hid (DgO q2 q1.heap.size (.agg #[.int .i64 d.next,.slice A5 n5 c5,.slice A6 n6 c6]) (swD d kl)):=ho;have zq:X.heap.size≤q1.heap.size:=K1.out.size;have VE2:Hid (q2.cell? ⟨w.heap.size,0,none⟩=some (.int .i64 d.next)∧q2.cell? ⟨w.heap.size,2,none⟩=some (.slice A2 n2 c2)∧w.heap.size<q2.heap.size):=⟨cy hb VE1.out.1,cy hb VE1.out.2.1,Nat.lt_of_lt_of_le VE1.out.2.2 hb.size⟩;have K2:=hd (Qb K1.out hb)
   clear hb ho;refine hkB hKq (VE2.out) fun hHeld=> ?_;clear hKq Kq;refine rqA 8 (fun Kq hKq=> ?_);have s0:=cy K2.out P0.out;have s1:=cy K2.out P1.out;have s2:=cy K2.out P2.out
   have sf: ∀o,q2.frozen? ⟨w.heap.size+1,o,none⟩=false:=fun o=>(K2.out.frozen (p:=⟨w.heap.size+1,o,none⟩) zX1).trans (PF.out o);have sz:w.heap.size+1<q2.heap.size:=Nat.lt_of_lt_of_le zX1 K2.out.size;go_simp;obtain⟨q3,HQ3⟩: ∃q,Hid (((q2.setCell ⟨w.heap.size+1,0,none⟩ (.int .i64 d.next)).setCell ⟨w.heap.size+1,1,none⟩ (.slice A5 n5 c5)).setCell ⟨w.heap.size+1,2,none⟩ (.slice A6 n6 c6)=q):=⟨_,rfl⟩;rw [HQ3.out];have VE3:Hid (q3.cell? ⟨w.heap.size,0,none⟩=some (.int .i64 d.next)∧q3.cell? ⟨w.heap.size,2,none⟩=some (.slice A2 n2 c2)∧w.heap.size<q3.heap.size):=⟨by rw [←HQ3.out,World.cell?_setCell_other _ _ _ _ (by intro e;injection e with e1;omega),World.cell?_setCell_other _ _ _ _ (by intro e;injection e with e1;omega),World.cell?_setCell_other _ _ _ _ (by intro e;injection e with e1;omega)];exact VE2.out.1,by rw [←HQ3.out,World.cell?_setCell_other _ _ _ _ (by intro e;injection e with e1;omega),World.cell?_setCell_other _ _ _ _ (by intro e;injection e with e1;omega),World.cell?_setCell_other _ _ _ _ (by intro e;injection e with e1;omega)];exact VE2.out.2.1,by rw [←HQ3.out];simpa using VE2.out.2.2⟩;have z0:q3.cell? ⟨w.heap.size+1,0,none⟩=some (.int .i64 d.next):=by rw [←HQ3.out];go_simp
   have z1:q3.cell? ⟨w.heap.size+1,1,none⟩=some (.slice A5 n5 c5):=by rw [←HQ3.out];go_simp
   have z2:q3.cell? ⟨w.heap.size+1,2,none⟩=some (.slice A6 n6 c6):=by rw [←HQ3.out];go_simp
   have HO3:Hid (DgO q3 w.heap.size (.agg #[.int .i64 d.next,.slice A5 n5 c5,.slice A6 n6 c6]) (swD d kl)):=by rw [←HQ3.out];exact(((HO.out.setB (by omega)).setB (by omega)).setB (by omega)).mono (by omega)
   have K3:Hid (Below w.heap.size w q3):=by rw [←HQ3.out];exact(((KX.out.trans (K2.out.mono (Nat.le_of_lt zX0))).setCell (by show w.heap.size≤w.heap.size+1;omega) _).setCell (by show w.heap.size≤w.heap.size+1;omega) _).setCell (by show w.heap.size≤w.heap.size+1;omega) _
   clear s0 s1 s2 sf sz HQ3;refine hkB hKq (VE3.out) fun hHeld=> ?_;clear hKq Kq;refine wpAnyH_done (by kernel_rfl) ?_ _;clear hHeld;go_wp2_with fail
   refine bodyPost_ret (v:= .agg #[.int .i64 d.next,.slice A5 n5 c5,.slice A6 n6 c6]) ?_ rfl ⟨_,rfl,HO3.out,K3.out⟩;simp (maxDischargeDepth:=9) [results,Tryz.results46,go_sem, *]
def Pck (zs ys:List Value) (L K:List VR) (t:Nat):Prop:= ∃js:List Nat,js.length=K.length∧ys.length=K.length*3∧js.Pairwise (· < ·)∧(∀j∈js,j<t)∧ ∀i j,js[i]? =some j→K[i]? =L[j]?∧ys[i*3]? =zs[j*3]?∧ys[i*3+1]? =zs[j*3+1]?∧ys[i*3+2]? =zs[j*3+2]?
theorem Pck.nil (zs:List Value) (L:List VR):Pck zs [] L [] 0:=⟨[],rfl,rfl,List.Pairwise.nil,fun j h=>absurd h (by simp),fun i j h=>by simp at h⟩
theorem Pck.skip {zs ys:List Value} {L K:List VR} {t:Nat} (h:Pck zs ys L K t):Pck zs ys L K (t+1):=by
 obtain⟨js,h1,h2,h3,h4,h5⟩:=h;exact⟨js,h1,h2,h3,fun j hj=>Nat.lt_succ_of_lt (h4 j hj),h5⟩
theorem Pck.add {zs ys:List Value} {L K:List VR} {t:Nat} {x:VR} {a b c:Value} (h:Pck zs ys L K t) (hx:L[t]? =some x) (ha:zs[t*3]? =some a) (hb:zs[t*3+1]? =some b) (hc:zs[t*3+2]? =some c):Pck zs (ys++ [a,b,c]) L (K++ [x]) (t+1):=by
 obtain⟨js,h1,h2,h3,h4,h5⟩:=h;refine⟨js++ [t],by simp [h1],by simp [h2];omega,?_,?_,?_⟩
 ·rw [List.pairwise_append];exact⟨h3,List.pairwise_singleton _ _,fun p hp q hq=>by rw [List.mem_singleton.1 hq];exact h4 p hp⟩
 ·intro j hj;rcases List.mem_append.1 hj with hj | hj
  ·exact Nat.lt_succ_of_lt (h4 j hj)
  ·rw [List.mem_singleton.1 hj];exact Nat.lt_succ_self _
 ·intro i j hj;by_cases e:i<js.length
  ·rw [List.getElem?_append_left e]at hj;obtain⟨k0,k1,k2,k3⟩:=h5 i j hj;have e':i<K.length:=by omega
   exact⟨by rw [List.getElem?_append_left e'];exact k0,by rw [List.getElem?_append_left (by omega)];exact k1,by rw [List.getElem?_append_left (by omega)];exact k2,by rw [List.getElem?_append_left (by omega)];exact k3⟩
  ·have hi:i=js.length:=by
    have:=(List.getElem?_eq_some_iff.1 hj).1;simp at this;omega
   subst hi;rw [List.getElem?_append_right (Nat.le_refl _),Nat.sub_self]at hj;cases hj
   rw [h1];refine⟨?_,?_,?_,?_⟩
   ·rw [List.getElem?_append_right (Nat.le_refl _),Nat.sub_self,hx];rfl
   ·rw [List.getElem?_append_right (by omega),h2,Nat.sub_self,ha];rfl
   ·rw [List.getElem?_append_right (by omega),h2,Nat.add_sub_cancel_left,hb];rfl
   ·rw [List.getElem?_append_right (by omega),h2,Nat.add_sub_cancel_left,hc];rfl
theorem Pck.part {W:World} {B n t:Nat} {zs ys:List Value} {L K:List VR} (h:Pck zs ys L K t) (ht:t≤n) (hp:VrPart W B zs L n):VrPart W B ys K K.length:=by
 obtain⟨js,h1,h2,h3,h4,h5⟩:=h;intro i x hi hx;obtain⟨j,hj⟩:=ZD h1 hi;obtain⟨k0,k1,k2,k3⟩:=h5 i j hj;obtain⟨u,uc,s,sc,y0,y1,y2,o1,o2⟩:=hp j x (Nat.lt_of_lt_of_le (h4 j (List.mem_of_getElem? hj)) ht) (by rw [←k0];exact hx);exact⟨u,uc,s,sc,by rw [k1];exact y0,by rw [k2];exact y1,by rw [k3];exact y2,o1,o2⟩
theorem Pck.apt {n t:Nat} {zs ys:List Value} {L K:List VR} (h:Pck zs ys L K t) (ht:t≤n) (hp:VrApt zs n):VrApt ys K.length:=by
 obtain⟨js,h1,h2,h3,h4,h5⟩:=h;intro i j hi hj hij;obtain⟨p,hp1⟩:=ZD h1 hi;obtain⟨q,hq1⟩:=ZD h1 hj
 have hne:p≠q:=by
  rw [List.pairwise_iff_getElem]at h3;obtain⟨a1,a2⟩:=List.getElem?_eq_some_iff.1 hp1;obtain⟨b1,b2⟩:=List.getElem?_eq_some_iff.1 hq1;rcases Nat.lt_or_gt_of_ne hij with h9 | h9
  ·have:=h3 i j a1 b1 h9;omega
  ·have:=h3 j i b1 a1 h9;omega
 have h8:=hp p q (Nat.lt_of_lt_of_le (h4 p (List.mem_of_getElem? hp1)) ht) (Nat.lt_of_lt_of_le (h4 q (List.mem_of_getElem? hq1)) ht) hne;obtain⟨_,_,k2,k3⟩:=h5 i p hp1;obtain⟨_,_,l2,l3⟩:=h5 j q hq1;unfold sepAt blkAt at h8 ⊢;rw [k2,k3,l2,l3];exact h8
theorem step_appI {W:World} {ops:Array Oper} {o:Oper} {a:Act} {K:Act→World→Prop} {Q:Exit→Act→World→Prop} {E:Prop} (hgd:o.guard=none) (s x:Operand) (ho:o.op= .call {callee:= .builtin .append,args:= #[s,x],argTypes:= #[62,62]})
  (B B':Nat) (hB:B≤W.heap.size) (v:Value) (n:Nat) (l:List Int) (hs:a.eval s=v) (hown:W.ownsRow B 2 1 v n (l.map (Value.int .i64))) (A:Option Addr) (m c:Nat) (r:List Int) (hx:a.eval x= .slice A m c) (hr:W.ownsRow B' 2 1 (.slice A m c) m (r.map (Value.int .i64))) (hn:n+m≤1000000)
  (h: ∀A' c' w',w'.ownsRow B 2 1 (.slice A' (n+m) c') (n+m) ((l++r).map (Value.int .i64))→W.grownBy w' v.ownBlock→K (a.put o.dst (.slice A' (n+m) c')) w'):
  if Region.wanted o (yielded ops a.tmps)=true then Oper.wp Tryz.prog o a W K Q else E:=by
 obtain⟨i0,hi,iz0,iz1,iz2⟩:=info_parts MY;have hw:Region.wanted o (yielded ops a.tmps)=true:=by simp [Region.wanted,hgd]
 rw [if_pos hw];rcases hr.2 with⟨e0,e1⟩ | ⟨g,cap,cur,e0,_,hg,_⟩
 ·cases e0
  have hr0:r= []:=by have h9:=hr.1;simpa using h9
  subst hr0;obtain⟨A',cap',rfl,_,_⟩:=Qo hown;have hrun:=run_append_nilC (P:=Tryz.prog) (w:=W) B 62 o.type 2 i0 1 0 Tryz.underlying62 hi _ n _ hown;unfold Oper.wp;simp [execOp,ho,resolve,invoke,builtin,hs,hx,hrun,Result.andThen];exact h _ _ W (by rw [List.append_nil];exact hown) (World.grownBy.refl _ _)
 ·cases e0
  refine wp_append_own W s x 62 ho B 2 i0 (.int .i64 0) 1 8 Tryz.underlying62 hi iz0 iz1 iz2 rfl (by decide) v n _ hs hown ⟨g,0,none⟩ m c (r.map (Value.int .i64)) hx (by rw [hr.1]) ?_ ?_ (by unfold maxLen;omega) (by omega) hB ?_
  ·intro j u hj;have h9:=hr.cellAt j (by have:=(List.getElem?_eq_some_iff.1 hj).1;rw [hr.1]at this;exact this);rw [hj]at h9;by_cases e:j=0
   ·subst e;simpa [Addr.add]using h9
   ·simpa [Addr.add,e]using h9
  ·intro u hu;obtain⟨y,_,rfl⟩:=List.mem_map.1 hu;rfl
  ·intro v' w' ho' hg' _;obtain⟨A',cap',rfl,_,_⟩:=Qo ho';exact h A' cap' w' (by rw [List.map_append];exact ho') hg'
theorem DgO.setT {W:World} {B g o:Nat} {v x:Value} {d:DG} {c:Array Value} {r:Nat × Nat} (h:DgO W B v d) (hg:W.heap[g]? =some (.cells c 32 r)):DgO (W.setCell ⟨g,o,none⟩ x) B v d:=by
 obtain⟨v1,v2,ys,rfl,h1,h2,h4,h3⟩:=h;refine⟨v1,v2,ys,rfl,own_setT h1 hg (by decide),fun i x hi hx=> ?_,h4,own_setT h3 hg (by decide)⟩;obtain⟨u,uc,s,sc,y0,y1,y2,k1,k2⟩:=h2 i x hi hx;exact⟨u,uc,s,sc,y0,y1,y2,own_setT k1 hg (by decide),own_setT k2 hg (by decide)⟩
theorem spec_l10Swept {v:Value} {d:DG} {kl:List Int} (w:World) (h:DgRow w v d) (hl:DgLil d) (hf:DgFacts d) (hkl:Kps d kl):
  Calls Tryz.prog 45 #[v] w fun e w'=> ∃v',e= .returned v'∧DgO w' w.heap.size v' (swD d kl)∧Below w.heap.size w w':=by
 obtain⟨A1,n1,c1,A2,n2,c2,rfl⟩:=h.agg;have HR:Hid (DgRow w (.agg #[.int .i64 d.next,.slice A1 n1 c1,.slice A2 n2 c2]) d):=h;obtain⟨r1,e1,r2,e2⟩:=h.open;have R2:Hid (ZT w A2 d.bs):=r2;have E1:Hid (d.vs.length=n1):=e1;have E2:Hid (d.bs.length=n2):=e2;have HL:Hid (DgLil d):=hl
 have HF:Hid (DgFacts d):=hf;have HKL:Hid (Kps d kl):=hkl;have hn1:n1≤40:=by rw [←e1];exact hf.nv
 have hn2:n2≤8:=by rw [←e2];exact hf.nb
 clear h r1 r2 e1 e2 hl hf hkl;go_enter Tryz.func45,Tryz.ntmps45;go_wp2_with fail
 obtain⟨X,HX⟩: ∃X,Hid ((w.alloc (.cells #[.int .i64 d.next,.slice A1 n1 c1,.slice A2 n2 c2] 32)).alloc (.cells #[.int .i64 0,.slice none 0 0,.slice none 0 0] 32)=X):=⟨_,rfl⟩;rw [HX.out];have x0:X.cell? ⟨w.heap.size,0,none⟩=some (.int .i64 d.next):=by rw [←HX.out];go_simp
 have x1:X.cell? ⟨w.heap.size,1,none⟩=some (.slice A1 n1 c1):=by rw [←HX.out];go_simp
 have x2:X.cell? ⟨w.heap.size,2,none⟩=some (.slice A2 n2 c2):=by rw [←HX.out];go_simp
 have p0:X.cell? ⟨w.heap.size+1,0,none⟩=some (.int .i64 0):=by rw [←HX.out];go_simp
 have p1:X.cell? ⟨w.heap.size+1,1,none⟩=some (.slice none 0 0):=by rw [←HX.out];go_simp
 have p2:X.cell? ⟨w.heap.size+1,2,none⟩=some (.slice none 0 0):=by rw [←HX.out];go_simp
 have pf: ∀o,X.frozen? ⟨w.heap.size+1,o,none⟩=false:=fun o=>by rw [←HX.out];go_simp
 have ZX:Hid (X.heap.size=w.heap.size+2):=by rw [←HX.out];show _=_;simp
 have zX0:w.heap.size<X.heap.size:=by have:=ZX.out;omega
 have zX1:w.heap.size+1<X.heap.size:=by have:=ZX.out;omega
 have KX:Hid (Below w.heap.size w X):=by rw [←HX.out];show Below _ _ _;go_grown
 have X0:Hid (X.cell? ⟨w.heap.size,0,none⟩=some (.int .i64 d.next)∧X.cell? ⟨w.heap.size,1,none⟩=some (.slice A1 n1 c1)∧X.cell? ⟨w.heap.size,2,none⟩=some (.slice A2 n2 c2)):=⟨x0,x1,x2⟩;have P0:Hid (X.cell? ⟨w.heap.size+1,0,none⟩=some (.int .i64 0)):=p0;have P1:Hid (X.cell? ⟨w.heap.size+1,1,none⟩=some (.slice none 0 0)):=p1;have P2:Hid (X.cell? ⟨w.heap.size+1,2,none⟩=some (.slice none 0 0)):=p2;have PF:Hid (∀o,X.frozen? ⟨w.heap.size+1,o,none⟩=false):=pf;have HE0:Hid ((X.alloc (.cells #[] 2)).ownsRow X.heap.size 2 1 (.slice (some ⟨w.heap.size+1+1,0,none⟩) 0 0) 0 []):=Qku (Nat.le_refl _) (by rw [ZX.out]);clear HX p0 p1 p2 pf x0 x1 x2
 go_loopw [3,4] (fun q i wr=> ∃(t:Nat) (A:Option Addr) (k c:Nat) (S:List Int),t≤n2∧q= .slice A k c∧i= .int .i64 t∧S.length=k∧k≤t*40∧(∀y,y∈S↔ ∃b∈d.bs.take t,Rvh d.vs b.h y)∧wr.ownsRow X.heap.size 2 1 (.slice A k c) k (S.map (Value.int .i64))∧Below X.heap.size X wr) (fun _ i _=>n2-(intOf i).toNat)
 case atStart=>exact⟨0,_,0,0,[],Nat.zero_le _,rfl,rfl,rfl,Nat.zero_le _,fun y=>by simp,HE0.out,(Below.refl _ _).alloc (Nat.le_refl _) _⟩
 case round=>
  obtain⟨t,A,k,c,S,ht,rfl,rfl,hSl,hk,hS,hown,hbel⟩:=hrel;have HOW:Hid (wr.ownsRow X.heap.size 2 1 (.slice A k c) k (S.map (Value.int .i64))):=hown;have HSM:Hid (∀y,y∈S↔ ∃b∈d.bs.take t,Rvh d.vs b.h y):=hS;have HSL:Hid (S.length=k):=hSl;have KW:Hid (Below X.heap.size X wr):=hbel;have hsz:=hbel.size;have KA:=hd (Qb KX.out hbel)
  have m0:=cy hbel X0.out.1;have m1:=cy hbel X0.out.2.1;have m2:=cy hbel X0.out.2.2;have mz:w.heap.size<wr.heap.size:=Nat.lt_of_lt_of_le zX0 hsz;clear hown hS hSl hbel;by_cases hlt:t<n2
  ·obtain⟨x,hx⟩:=ZD E2.out hlt;have HXT:Hid (d.bs[t]? =some x):=hx;have HXI:Hid (x.h∈QS d.vs):=HF.out.hd x (List.mem_of_getElem? hx);obtain⟨ls,hls⟩:=ab_ex d.vs x.h;have HLS:Hid (IsAb d.vs x.h ls):=hls;have hll:ls.length≤40:=Nat.le_trans hls.len (by rw [E1.out];exact hn1);obtain⟨b,o,rfl,hl,hc⟩:=R2.out.2 t x hx
   have b1:w.cell? ⟨b,o+t*2+1,none⟩=some (.int .i64 x.h):=hc 1 _ rfl;rw [←KA.out.cell (p:=⟨_,_,none⟩) hl]at b1;have hl2:b<wr.heap.size:=Nat.lt_of_lt_of_le hl KA.out.size;have HBL:Hid (b<w.heap.size):=hl;have q0:(0:Int)≤(t:Int):=by omega
   have q1:(t:Int)<(n2:Int):=by omega
   clear hx hc hls hl;go_upto_region 5 with fail
   have VE0:Hid (wr.drew.cell? ⟨w.heap.size,0,none⟩=some (.int .i64 d.next)∧wr.drew.cell? ⟨w.heap.size,1,none⟩=some (.slice A1 n1 c1)∧wr.drew.cell? ⟨w.heap.size,2,none⟩=some (.slice (some ⟨b,o,none⟩) n2 c2)∧wr.drew.cell? ⟨b,o+t*2+1,none⟩=some (.int .i64 x.h)∧w.heap.size<wr.drew.heap.size∧b<wr.drew.heap.size):=⟨m0,m1,m2,b1,mz,hl2⟩;have KD:Hid (Below X.heap.size X wr.drew):=KW.out.drew;have HOD:=hd (Ql HOW.out ((Below.refl _ _).drew));have hnb: ∀z,z<X.heap.size→some z≠(Value.slice A k c).ownBlock:=fun z hz e=>by have:=(HOW.out.lt z e.symm).1;omega
   have HNB:Hid (some w.heap.size≠(Value.slice A k c).ownBlock∧some b≠(Value.slice A k c).ownBlock):=⟨hnb _ zX0,hnb _ (by have:=HBL.out;omega)⟩;clear m0 m1 m2 b1 mz hl2 hnb;refine wp_region_held_drew (S:=(fun w'=>w'.cell? ⟨w.heap.size,0,none⟩=some (.int .i64 d.next)∧w'.cell? ⟨w.heap.size,1,none⟩=some (.slice A1 n1 c1)∧w'.cell? ⟨w.heap.size,2,none⟩=some (.slice (some ⟨b,o,none⟩) n2 c2)∧w'.cell? ⟨b,o+t*2+1,none⟩=some (.int .i64 x.h)∧w.heap.size<w'.heap.size∧b<w'.heap.size)) (by kernel_rfl) VE0.out (fun hHeld=> ?_);refine tkA 0 ?_;refine tkB 1 ?_;refine tkA 2 ?_;refine tkB 3 ?_
   refine tkA 4 ?_;refine tkB 5 ?_;refine tkA 6 ?_;refine tkB 7 ?_;refine rqA 8 (fun Kq hKq=> ?_);go_simp;refine(spec_l10Above x.h _ (HR.out.below (KX.out.trans (KD.out.mono (Nat.le_of_lt zX0)))) HF.out HXI.out HLS.out).mono ?_
   rintro e q1 ⟨r,rfl,ho,hb⟩;obtain⟨D1,f1,rfl,_,_⟩:=Qo ho;have HN1:Hid (q1.ownsRow wr.drew.heap.size 2 1 (.slice D1 ls.length f1) ls.length (ls.map (Value.int .i64))):=ho;have VE1:Hid (q1.cell? ⟨w.heap.size,0,none⟩=some (.int .i64 d.next)∧q1.cell? ⟨w.heap.size,1,none⟩=some (.slice A1 n1 c1)∧q1.cell? ⟨w.heap.size,2,none⟩=some (.slice (some ⟨b,o,none⟩) n2 c2)∧q1.cell? ⟨b,o+t*2+1,none⟩=some (.int .i64 x.h)∧w.heap.size<q1.heap.size∧b<q1.heap.size):=⟨cy hb VE0.out.1,cy hb VE0.out.2.1,cy hb VE0.out.2.2.1,cy hb VE0.out.2.2.2.1,Nat.lt_of_lt_of_le VE0.out.2.2.2.2.1 hb.size,Nat.lt_of_lt_of_le VE0.out.2.2.2.2.2 hb.size⟩;have HO1:=hd (Ql HOD.out hb);have K1:=hd (Qb KD.out hb);clear ho hb
   refine hkB hKq (VE1.out) fun hHeld=> ?_;clear hKq Kq;refine rqA 9 (fun Kq hKq=> ?_);refine step_appI (by rfl) _ _ (by rfl) X.heap.size wr.drew.heap.size K1.out.size (.slice A k c) k S (by rfl) HO1.out D1 ls.length f1 ls (by rfl) HN1.out (by omega) ?_;intro D2 f2 q2 ho hg;have HO2:Hid (q2.ownsRow X.heap.size 2 1 (.slice D2 (k+ls.length) f2) (k+ls.length) ((S++ls).map (Value.int .i64))):=ho;have VE2:Hid (q2.cell? ⟨w.heap.size,0,none⟩=some (.int .i64 d.next)∧q2.cell? ⟨w.heap.size,1,none⟩=some (.slice A1 n1 c1)∧q2.cell? ⟨w.heap.size,2,none⟩=some (.slice (some ⟨b,o,none⟩) n2 c2)∧q2.cell? ⟨b,o+t*2+1,none⟩=some (.int .i64 x.h)∧w.heap.size<q2.heap.size∧b<q2.heap.size):=⟨hg.cell VE1.out.1 HNB.out.1,hg.cell VE1.out.2.1 HNB.out.1,hg.cell VE1.out.2.2.1 HNB.out.1,hg.cell VE1.out.2.2.2.1 HNB.out.2,Nat.lt_of_lt_of_le VE1.out.2.2.2.2.1 hg.size,Nat.lt_of_lt_of_le VE1.out.2.2.2.2.2 hg.size⟩
   have K2:=hd (K1.out.grown hg K1.out.size (fun j hj=>(HO1.out.lt j hj).1));clear ho hg;refine hkB hKq (VE2.out) fun hHeld=> ?_;clear hKq Kq;refine tkB 10 ?_;refine wpAnyH_done (by kernel_rfl) ?_ _;clear hHeld
   go_wp2_with fail
   have HS2:Hid (∀y,y∈S++ls↔ ∃b∈d.bs.take (t+1),Rvh d.vs b.h y):=fun y=>by
    rw [List.mem_append,HSM.out,HLS.out.mem,List.take_add_one,HXT.out];constructor
    ·rintro(⟨z,hz,hr⟩ | hr)
     ·exact⟨z,List.mem_append.2 (Or.inl hz),hr⟩
     ·exact⟨x,by simp,hr⟩
    ·rintro⟨z,hz,hr⟩;rcases List.mem_append.1 hz with hz | hz
     ·exact Or.inl ⟨z,hz,hr⟩
     ·have e:z=x:=by simpa using hz
      rw [e]at hr;exact Or.inr hr
   go_roundw
   case rel=>exact⟨t+1,D2,k+ls.length,f2,S++ls,by omega,rfl,by go_num,by rw [List.length_append,HSL.out],by omega,HS2.out,HO2.out,K2.out⟩
   case measure=>simp [intOf];omega
  ·have h1: ¬(t:Int)<(n2:Int):=by omega
   obtain rfl:n2=t:=by omega
   have HSK:Hid (∀y,y∈S↔y∈kl):=fun y=>by
    rw [HSM.out,HKL.out y,←E2.out,List.take_length]
   have HIS:Hid (IntRow wr A S):=int_ownN HSL.out HOW.out;clear HOW HSM;go_wp2_with fail
   refine(spec_l10Copy _ (HR.out.below KA.out) HL.out).mono ?_;rintro e u1 ⟨v',rfl,ho,hb⟩;have HIS1:=hd (HIS.out.below hb);have KU:=hd (Qb KW.out hb);have zu:wr.heap.size≤u1.heap.size:=hb.size;obtain⟨A3,c3,A4,c4,rfl,hv,hbr⟩:=ho.parts;simp only [E1.out,E2.out]at hv hbr ⊢
   obtain⟨zs,hv1,hp1,ha1⟩:=hv;have HV1:Hid (u1.ownsRow wr.heap.size 89 3 (.slice A3 n1 c3) n1 zs):=hv1;have HP1:Hid (VrPart u1 wr.heap.size zs d.vs n1):=hp1;have HA1:Hid (VrApt zs n1):=ha1;have HB1:Hid (u1.ownsRow wr.heap.size 79 2 (.slice A4 n2 c4) n2 (Jf brL d.bs)):=hbr;clear hv1 hp1 ha1 hbr ho hb HIS m0 m1 m2;go_wp2_with fail
   obtain⟨Y,HY⟩: ∃Y,Hid (u1.alloc (.cells #[.int .i64 d.next,.slice A3 n1 c3,.slice A4 n2 c4] 32)=Y):=⟨_,rfl⟩;rw [HY.out];have hb:Below u1.heap.size u1 Y:=by rw [←HY.out];exact(Below.refl _ _).alloc (Nat.le_refl _) _
   have g0:Y.cell? ⟨u1.heap.size,0,none⟩=some (.int .i64 d.next):=by rw [←HY.out];go_simp
   have g1:Y.cell? ⟨u1.heap.size,1,none⟩=some (.slice A3 n1 c3):=by rw [←HY.out];go_simp
   have g2:Y.cell? ⟨u1.heap.size,2,none⟩=some (.slice A4 n2 c4):=by rw [←HY.out];go_simp
   have G0:Hid (Y.cell? ⟨u1.heap.size,0,none⟩=some (.int .i64 d.next)∧Y.cell? ⟨u1.heap.size,1,none⟩=some (.slice A3 n1 c3)∧Y.cell? ⟨u1.heap.size,2,none⟩=some (.slice A4 n2 c4)):=⟨g0,g1,g2⟩;have GF:Hid (∀o,Y.frozen? ⟨u1.heap.size,o,none⟩=false):=fun o=>by rw [←HY.out];go_simp
   have GB:Hid (∃c r,Y.heap[u1.heap.size]? =some (.cells c 32 r)):=⟨_,_,by rw [←HY.out];exact heap_alloc_new u1 _⟩;have zY:u1.heap.size<Y.heap.size:=by rw [←HY.out];simp
   have ZY:Hid (Y.heap.size=u1.heap.size+1):=by rw [←HY.out];show _=_;simp
   have KY:Hid (Below X.heap.size X Y):=KU.out.trans (hb.mono (Nat.le_trans hsz zu));have HIY:=hd (HIS1.out.below hb);have HVY:=hd (Ql HV1.out hb);have HPY:=hd (HP1.out.below hb);have HBY:=hd (Ql HB1.out hb);have HE1:Hid ((Y.alloc (.cells #[] 89)).ownsRow Y.heap.size 89 3 (.slice (some ⟨u1.heap.size+1,0,none⟩) 0 0) 0 []):=Qku (Nat.le_refl _) (by rw [ZY.out]);clear HY hb g0 g1 g2 HIS1 HV1 HP1 HB1
   go_loopw [6,7] (fun q i wv=> ∃(t:Nat) (A':Option Addr) (k' c':Nat) (ys:List Value),t≤n1∧q= .slice A' k' c'∧i= .int .i64 t∧(kpL S (d.vs.take t)).length=k'∧k'≤t∧wv.ownsRow Y.heap.size 89 3 (.slice A' k' c') k' ys∧Pck zs ys d.vs (kpL S (d.vs.take t)) t∧Below Y.heap.size Y wv) (fun _ i _=>n1-(intOf i).toNat)
   case atStart=>exact⟨0,_,0,0,[],Nat.zero_le _,rfl,rfl,rfl,Nat.le_refl _,HE1.out,Pck.nil _ _,(Below.refl _ _).alloc (Nat.le_refl _) _⟩
   case round=>
    rename World=>wv
    obtain⟨t,A',k',c',ys,ht',rfl,rfl,hkk,hkt,hown,hpk,hbel⟩:=hrel;have HOW:Hid (wv.ownsRow Y.heap.size 89 3 (.slice A' k' c') k' ys):=hown;have HPK:Hid (Pck zs ys d.vs (kpL S (d.vs.take t)) t):=hpk;have HKK:Hid ((kpL S (d.vs.take t)).length=k'):=hkk;have KV:Hid (Below Y.heap.size Y wv):=hbel;have hsv:=hbel.size;have g0:=cy hbel G0.out.1
    have g1:=cy hbel G0.out.2.1;have g2:=cy hbel G0.out.2.2;have gz:u1.heap.size<wv.heap.size:=Nat.lt_of_lt_of_le zY hsv;clear hown hpk hkk hbel;by_cases hlt2:t<n1
    ·obtain⟨x,hx⟩:=ZD E1.out hlt2;have HXT:Hid (d.vs[t]? =some x):=hx;obtain⟨u,uc,s,sc,y0,y1,y2,_,_⟩:=HPY.out t x hlt2 hx;have Z0:Hid (zs[t*3]? =some (.int .i64 x.id)∧zs[t*3+1]? =some (.slice u x.ups.length uc)∧zs[t*3+2]? =some (.slice s x.m sc)):=⟨y0,y1,y2⟩;obtain⟨un,HUN⟩: ∃un,Hid (x.ups.length=un):=⟨_,rfl⟩;obtain⟨mn,HMN⟩: ∃mn,Hid (x.m=mn):=⟨_,rfl⟩;have HVV:=hd (Ql HVY.out KV.out)
     obtain⟨gA,rfl,_,hgA,d0,_⟩: ∃g,A3=some ⟨g,0,none⟩∧wr.heap.size≤g∧g<wv.heap.size∧wv.cell? ⟨g,t*3,none⟩=zs[t*3]?∧wv.frozen? ⟨g,t*3,none⟩=false:=by
      obtain⟨A9,c9,e,_,hc⟩:=Qo HVV.out;cases e
      exact hc (t*3) (by omega)
     have d1:wv.cell? ⟨gA,t*3+1,none⟩=some (.slice u un uc):=by rw [HVV.out.cellAt (t*3+1) (by omega),y1,HUN.out]
     have d2:wv.cell? ⟨gA,t*3+2,none⟩=some (.slice s mn sc):=by rw [HVV.out.cellAt (t*3+2) (by omega),y2,HMN.out]
     rw [y0]at d0;have q0:(0:Int)≤(t:Int):=by omega
     have q1:(t:Int)<(n1:Int):=by omega
     clear hx y0 y1 y2 g2;go_wp2_with fail
     refine(spec_l10Has x.id wv (HIY.out.below KV.out) HSL.out).mono ?_;rintro e w9 ⟨rfl,rfl⟩;by_cases hin:x.id∈S
     ·have hdi:decide (x.id∈S)=true:=decide_eq_true hin;have HIN:Hid (x.id∈S):=hin;clear hin
      go_wp2_with (first
       | (at_builtin;refine wpList_app_vr rfl _ _ rfl Y.heap.size (.slice A' k' c') k' ys rfl (HOW.out.alloc _) x.id u un uc s mn sc w9.heap.size rfl VCell.at (by omega) (by simp;omega) ?_)
       | fail)
      intro va q6 ho hg;obtain⟨F6,h6,rfl,_,_⟩:=Qo ho;have HO6:Hid (q6.ownsRow Y.heap.size 89 3 (.slice F6 (k'+1) h6) (k'+1) (ys++ [.int .i64 x.id,.slice u un uc,.slice s mn sc])):=ho;have HT6:Hid (kpL S (d.vs.take (t+1))=kpL S (d.vs.take t)++ [x]):=by show _=_;rw [kpL_take HXT.out,if_pos HIN.out]
      have HP6:Hid (Pck zs (ys++ [.int .i64 x.id,.slice u un uc,.slice s mn sc]) d.vs (kpL S (d.vs.take (t+1))) (t+1)):=by
       rw [HT6.out,←HUN.out,←HMN.out];exact HPK.out.add HXT.out Z0.out.1 Z0.out.2.1 Z0.out.2.2
      have HL6:Hid ((kpL S (d.vs.take (t+1))).length=k'+1):=by show _=_;rw [HT6.out,List.length_append,HKK.out];rfl
      have K6:Hid (Below Y.heap.size Y q6):=(KV.out.alloc hsv _).grown hg (by simp;omega) (fun j hj=>(HOW.out.lt j hj).1);clear ho hg;go_wp2_with fail
      go_roundw
      case rel=>exact⟨t+1,F6,k'+1,h6,_,by omega,rfl,by go_num,HL6.out,by omega,HO6.out,HP6.out,K6.out⟩
      case measure=>simp [intOf];omega
     ·have hdi:decide (x.id∈S)=false:=decide_eq_false hin;have HT6:Hid (kpL S (d.vs.take (t+1))=kpL S (d.vs.take t)):=by show _=_;rw [kpL_take HXT.out,if_neg hin,List.append_nil]
      clear hin;go_wp2_with fail
      go_roundw
      case rel=>exact⟨t+1,A',k',c',ys,by omega,rfl,by go_num,by rw [HT6.out];exact HKK.out,by omega,HOW.out,by rw [HT6.out];exact HPK.out.skip,KV.out⟩
      case measure=>simp [intOf];omega
    ·have h2: ¬(t:Int)<(n1:Int):=by omega
     obtain rfl:n1=t:=by omega
     have HTK:Hid (kpL S (d.vs.take n1)=(swD d kl).vs):=by
      show _=kpL kl d.vs;rw [←E1.out,List.take_length,kpL_same HSK.out]
     have HK1:Hid ((swD d kl).vs.length=k'):=by show _=_;rw [←HTK.out,HKK.out]
     have HPK1:Hid (Pck zs ys d.vs (swD d kl).vs n1):=by rw [←HTK.out];exact HPK.out
     have HDO:Hid (DgO wv wr.heap.size (.agg #[.int .i64 d.next,.slice A' k' c',.slice A4 n2 c4]) (swD d kl)):=by
      refine⟨_,_,ys,rfl,?_,?_,HPK1.out.apt (Nat.le_refl _) HA1.out,?_⟩
      ·rw [HK1.out];exact Zc HOW.out (by omega)
      ·exact HPK1.out.part (Nat.le_refl _) (HPY.out.below KV.out)
      ·show wv.ownsRow _ _ _ _ d.bs.length _;rw [E2.out];exact Ql HBY.out KV.out
     have gf: ∀o,wv.frozen? ⟨u1.heap.size,o,none⟩=false:=fun o=>(KV.out.frozen (p:=⟨u1.heap.size,o,none⟩) zY).trans (GF.out o);have KZ:Hid (Below X.heap.size X wv):=KY.out.trans (KV.out.mono (by omega));have s0:=cy KZ.out P0.out;have s1:=cy KZ.out P1.out;have s2:=cy KZ.out P2.out;have sf: ∀o,wv.frozen? ⟨w.heap.size+1,o,none⟩=false:=fun o=>(KZ.out.frozen (p:=⟨w.heap.size+1,o,none⟩) zX1).trans (PF.out o);have sz:w.heap.size+1<wv.heap.size:=Nat.lt_of_lt_of_le zX1 KZ.out.size
     obtain⟨cc,rr,gb⟩:=GB.out
     have GBV:Hid (wv.heap[u1.heap.size]? =some (.cells cc 32 rr)):=by
      show _=_;rw [KV.out.block _ zY];exact gb
     have hne5:w.heap.size+1<u1.heap.size:=by omega
     clear gb;go_wp2_with fail
     refine bodyPost_ret (v:= .agg #[.int .i64 d.next,.slice A' k' c',.slice A4 n2 c4]) ?_ rfl ⟨_,rfl,?_,?_⟩
     ·simp (maxDischargeDepth:=9) [results,Tryz.results45,go_sem, *]
     ·exact(((((HDO.out.setT GBV.out).setB (by omega)).setB (by omega)).setB (by omega))).mono (by omega)
     ·exact((((KX.out.trans (KZ.out.mono (Nat.le_of_lt zX0))).setCell (by show w.heap.size≤u1.heap.size;omega) _).setCell (by show w.heap.size≤w.heap.size+1;omega) _).setCell (by show w.heap.size≤w.heap.size+1;omega) _).setCell (by show w.heap.size≤w.heap.size+1;omega) _
theorem impl_Swept {v:Value} {d:DG} {kl:List Int} (w:World) (h:DgRow w v d) (hk:DgOk d) (hl:DgLil d) (hkl:Kps d kl) (hg:GI w):
  Calls Tryz.prog 20 #[v] w fun e w'=>SwR w.heap.size w' (swA d kl) e∧Below w.heap.size w w':=by
 obtain⟨A1,n1,c1,A2,n2,c2,rfl⟩:=h.agg;have HD:Hid (DgRow w (.agg #[.int .i64 d.next,.slice A1 n1 c1,.slice A2 n2 c2]) d):=h;have HK:Hid (DgOk d):=hk;have HL:Hid (DgLil d):=hl;have HKL:Hid (Kps d kl):=hkl;have HG:Hid (GI w):=hg;obtain⟨f,HFF⟩: ∃f:Bool,Hid (Xb d=f):=⟨_,rfl⟩
 clear h hk hl hkl hg;go_enter Tryz.func20,Tryz.ntmps20;go_wp2_with fail
 obtain⟨X,HX⟩: ∃X,Hid ((w.alloc (.cells #[.int .i64 d.next,.slice A1 n1 c1,.slice A2 n2 c2] 32)).alloc (.cells #[.int .i64 0,.slice none 0 0,.slice none 0 0] 32)=X):=⟨_,rfl⟩;rw [HX.out];have x0:X.cell? ⟨w.heap.size,0,none⟩=some (.int .i64 d.next):=by rw [←HX.out];go_simp
 have x1:X.cell? ⟨w.heap.size,1,none⟩=some (.slice A1 n1 c1):=by rw [←HX.out];go_simp
 have x2:X.cell? ⟨w.heap.size,2,none⟩=some (.slice A2 n2 c2):=by rw [←HX.out];go_simp
 have p0:X.cell? ⟨w.heap.size+1,0,none⟩=some (.int .i64 0):=by rw [←HX.out];go_simp
 have p1:X.cell? ⟨w.heap.size+1,1,none⟩=some (.slice none 0 0):=by rw [←HX.out];go_simp
 have p2:X.cell? ⟨w.heap.size+1,2,none⟩=some (.slice none 0 0):=by rw [←HX.out];go_simp
 have pf: ∀o,X.frozen? ⟨w.heap.size+1,o,none⟩=false:=fun o=>by rw [←HX.out];go_simp
 have ZX:Hid (X.heap.size=w.heap.size+2):=by rw [←HX.out];show _=_;simp
 have zX0:w.heap.size<X.heap.size:=by have:=ZX.out;omega
 have zX1:w.heap.size+1<X.heap.size:=by have:=ZX.out;omega
 have KX:Hid (Below w.heap.size w X):=by rw [←HX.out];show Below _ _ _;go_grown
 clear HX;refine(Qin _ (HD.out.below KX.out) HK.out HL.out (HG.out.below KX.out)).mono ?_;rintro e u1 ⟨rfl,hb⟩;replace x0:=cy hb x0;replace x1:=cy hb x1;replace x2:=cy hb x2;replace p0:=cy hb p0
 replace p1:=cy hb p1;replace p2:=cy hb p2;replace pf: ∀o,u1.frozen? ⟨w.heap.size+1,o,none⟩=false:=fun o=>(hb.frozen (p:=⟨w.heap.size+1,o,none⟩) zX1).trans (pf o);replace zX0:w.heap.size<u1.heap.size:=Nat.lt_of_lt_of_le zX0 hb.size;replace zX1:w.heap.size+1<u1.heap.size:=Nat.lt_of_lt_of_le zX1 hb.size;replace KX:=hd (Qb KX.out hb);clear hb
 rw [HFF.out];cases f
 ·have HV:Hid (swA d kl=(noD,false)):=by show _=_;rw [swA,if_neg (by rw [HFF.out];decide)]
  go_wp2_with fail
  refine bodyPost_ret (v:= .tuple #[.agg #[.int .i64 0,.slice none 0 0,.slice none 0 0],.bool false]) ?_ rfl ⟨?_,?_⟩
  ·simp (maxDischargeDepth:=9) [results,Tryz.results20,go_sem, *]
  ·rw [HV.out];exact⟨_,rfl,noD_own _ _⟩
  ·exact((KX.out.setCell (by show w.heap.size≤w.heap.size+1;omega) _).setCell (by show w.heap.size≤w.heap.size+1;omega) _).setCell (by show w.heap.size≤w.heap.size+1;omega) _
 have HV:Hid (swA d kl=(swD d kl,true)):=by show _=_;rw [swA,if_pos HFF.out]
 go_wp2_with fail
 refine(impl_swept _ (HD.out.below KX.out) HK.out HL.out (dag_facts HFF.out) HKL.out).mono ?_;rintro e u2 ⟨v',rfl,ho,hb⟩;obtain⟨A5,c5,A6,c6,rfl,_,_⟩:=ho.parts;obtain⟨n5,HN5⟩: ∃n5,Hid ((swD d kl).vs.length=n5):=⟨_,rfl⟩;obtain⟨n6,HN6⟩: ∃n6,Hid ((swD d kl).bs.length=n6):=⟨_,rfl⟩;rw [HN5.out,HN6.out,show(swD d kl).next=d.next from rfl]at ho;rw [HN5.out,HN6.out,show(swD d kl).next=d.next from rfl]
 have HO:Hid (DgO u2 u1.heap.size (.agg #[.int .i64 d.next,.slice A5 n5 c5,.slice A6 n6 c6]) (swD d kl)):=ho;have zz:w.heap.size+2≤u1.heap.size:=by omega
 replace x0:=cy hb x0;replace x1:=cy hb x1;replace x2:=cy hb x2;replace p0:=cy hb p0;replace p1:=cy hb p1;replace p2:=cy hb p2;replace pf: ∀o,u2.frozen? ⟨w.heap.size+1,o,none⟩=false:=fun o=>(hb.frozen (p:=⟨w.heap.size+1,o,none⟩) zX1).trans (pf o)
 replace zX0:w.heap.size<u2.heap.size:=Nat.lt_of_lt_of_le zX0 hb.size;replace zX1:w.heap.size+1<u2.heap.size:=Nat.lt_of_lt_of_le zX1 hb.size;replace KX:=hd (Qb KX.out hb);clear hb ho;go_wp2_with fail
 refine bodyPost_ret (v:= .tuple #[.agg #[.int .i64 d.next,.slice A5 n5 c5,.slice A6 n6 c6],.bool true]) ?_ rfl ⟨?_,?_⟩
 ·simp (maxDischargeDepth:=9) [results,Tryz.results20,go_sem, *]
 ·rw [HV.out];exact⟨_,rfl,(((HO.out.setB (by omega)).setB (by omega)).setB (by omega)).mono (by omega)⟩
 ·exact((KX.out.setCell (by show w.heap.size≤w.heap.size+1;omega) _).setCell (by show w.heap.size≤w.heap.size+1;omega) _).setCell (by show w.heap.size≤w.heap.size+1;omega) _
theorem spec_Swept {v:Value} {d:DG} {kl:List Int} (w:World) (h:DgRow w v d) (hk:DgOk d) (hl:DgLil d) (hkl:Kps d kl):
  Calls Tryz.prog 19 #[v] w fun e w'=>SwR w.heap.size w' (swA d kl) e∧Below w.heap.size w w':=by
 obtain⟨A1,n1,c1,A2,n2,c2,rfl⟩:=h.agg;have HD:Hid (DgRow w (.agg #[.int .i64 d.next,.slice A1 n1 c1,.slice A2 n2 c2]) d):=h;have HK:Hid (DgOk d):=hk;have HL:Hid (DgLil d):=hl;have HKL:Hid (Kps d kl):=hkl;obtain⟨f,HFF⟩: ∃f:Bool,Hid (Xb d=f):=⟨_,rfl⟩;clear h hk hl hkl
 go_enter Tryz.func19,Tryz.ntmps19;go_wp2_with fail
 obtain⟨X,HX⟩: ∃X,Hid ((w.alloc (.cells #[.int .i64 d.next,.slice A1 n1 c1,.slice A2 n2 c2] 32)).alloc (.cells #[.int .i64 0,.slice none 0 0,.slice none 0 0] 32)=X):=⟨_,rfl⟩;rw [HX.out];have x0:X.cell? ⟨w.heap.size,0,none⟩=some (.int .i64 d.next):=by rw [←HX.out];go_simp
 have x1:X.cell? ⟨w.heap.size,1,none⟩=some (.slice A1 n1 c1):=by rw [←HX.out];go_simp
 have x2:X.cell? ⟨w.heap.size,2,none⟩=some (.slice A2 n2 c2):=by rw [←HX.out];go_simp
 have p0:X.cell? ⟨w.heap.size+1,0,none⟩=some (.int .i64 0):=by rw [←HX.out];go_simp
 have p1:X.cell? ⟨w.heap.size+1,1,none⟩=some (.slice none 0 0):=by rw [←HX.out];go_simp
 have p2:X.cell? ⟨w.heap.size+1,2,none⟩=some (.slice none 0 0):=by rw [←HX.out];go_simp
 have pf: ∀o,X.frozen? ⟨w.heap.size+1,o,none⟩=false:=fun o=>by rw [←HX.out];go_simp
 have ZX:Hid (X.heap.size=w.heap.size+2):=by rw [←HX.out];show _=_;simp
 have zX0:w.heap.size<X.heap.size:=by have:=ZX.out;omega
 have zX1:w.heap.size+1<X.heap.size:=by have:=ZX.out;omega
 have KX:Hid (Below w.heap.size w X):=by rw [←HX.out];show Below _ _ _;go_grown
 clear HX;refine(Qic _ (HD.out.below KX.out) HK.out).mono ?_;rintro e u1 ⟨rfl,hb⟩;replace x0:=cy hb x0;replace x1:=cy hb x1;replace x2:=cy hb x2;replace p0:=cy hb p0
 replace p1:=cy hb p1;replace p2:=cy hb p2;replace pf: ∀o,u1.frozen? ⟨w.heap.size+1,o,none⟩=false:=fun o=>(hb.frozen (p:=⟨w.heap.size+1,o,none⟩) zX1).trans (pf o);replace zX0:w.heap.size<u1.heap.size:=Nat.lt_of_lt_of_le zX0 hb.size;replace zX1:w.heap.size+1<u1.heap.size:=Nat.lt_of_lt_of_le zX1 hb.size;replace KX:=hd (Qb KX.out hb);clear hb
 rw [HFF.out];cases f
 ·have HV:Hid (swA d kl=(noD,false)):=by show _=_;rw [swA,if_neg (by rw [HFF.out];decide)]
  go_wp2_with fail
  refine bodyPost_ret (v:= .tuple #[.agg #[.int .i64 0,.slice none 0 0,.slice none 0 0],.bool false]) ?_ rfl ⟨?_,?_⟩
  ·simp (maxDischargeDepth:=9) [results,Tryz.results19,go_sem, *]
  ·rw [HV.out];exact⟨_,rfl,noD_own _ _⟩
  ·exact((KX.out.setCell (by show w.heap.size≤w.heap.size+1;omega) _).setCell (by show w.heap.size≤w.heap.size+1;omega) _).setCell (by show w.heap.size≤w.heap.size+1;omega) _
 have HV:Hid (swA d kl=(swD d kl,true)):=by show _=_;rw [swA,if_pos HFF.out]
 go_wp2_with fail
 refine(spec_l10Swept _ (HD.out.below KX.out) HL.out (dag_facts HFF.out) HKL.out).mono ?_;rintro e u2 ⟨v',rfl,ho,hb⟩;obtain⟨A5,c5,A6,c6,rfl,_,_⟩:=ho.parts;obtain⟨n5,HN5⟩: ∃n5,Hid ((swD d kl).vs.length=n5):=⟨_,rfl⟩;obtain⟨n6,HN6⟩: ∃n6,Hid ((swD d kl).bs.length=n6):=⟨_,rfl⟩;rw [HN5.out,HN6.out,show(swD d kl).next=d.next from rfl]at ho;rw [HN5.out,HN6.out,show(swD d kl).next=d.next from rfl]
 have HO:Hid (DgO u2 u1.heap.size (.agg #[.int .i64 d.next,.slice A5 n5 c5,.slice A6 n6 c6]) (swD d kl)):=ho;have zz:w.heap.size+2≤u1.heap.size:=by omega
 replace x0:=cy hb x0;replace x1:=cy hb x1;replace x2:=cy hb x2;replace p0:=cy hb p0;replace p1:=cy hb p1;replace p2:=cy hb p2;replace pf: ∀o,u2.frozen? ⟨w.heap.size+1,o,none⟩=false:=fun o=>(hb.frozen (p:=⟨w.heap.size+1,o,none⟩) zX1).trans (pf o)
 replace zX0:w.heap.size<u2.heap.size:=Nat.lt_of_lt_of_le zX0 hb.size;replace zX1:w.heap.size+1<u2.heap.size:=Nat.lt_of_lt_of_le zX1 hb.size;replace KX:=hd (Qb KX.out hb);clear hb ho;go_wp2_with fail
 refine bodyPost_ret (v:= .tuple #[.agg #[.int .i64 d.next,.slice A5 n5 c5,.slice A6 n6 c6],.bool true]) ?_ rfl ⟨?_,?_⟩
 ·simp (maxDischargeDepth:=9) [results,Tryz.results19,go_sem, *]
 ·rw [HV.out];exact⟨_,rfl,(((HO.out.setB (by omega)).setB (by omega)).setB (by omega)).mono (by omega)⟩
 ·exact((KX.out.setCell (by show w.heap.size≤w.heap.size+1;omega) _).setCell (by show w.heap.size≤w.heap.size+1;omega) _).setCell (by show w.heap.size≤w.heap.size+1;omega) _
def Bx (W:World) (b:Nat) (x y z:Value):Prop:=W.cell? ⟨b,0,none⟩=some x∧W.cell? ⟨b,1,none⟩=some y∧W.cell? ⟨b,2,none⟩=some z∧b<W.heap.size
theorem Bx.new {w:World} {t:TypeId} {x y z:Value}:Bx (w.alloc (.cells #[x,y,z] t)) w.heap.size x y z:=by
 refine⟨?_,?_,?_,?_⟩<;>simp [go_sem]
theorem Bx.below {W W':World} {b:Nat} {x y z:Value} (h:Bx W b x y z) (hb:Below W.heap.size W W'):Bx W' b x y z:=⟨cy hb h.1,cy hb h.2.1,cy hb h.2.2.1,Nat.lt_of_lt_of_le h.2.2.2 hb.size⟩
theorem Bx.frx {W W':World} {b lo hi:Nat} {x y z:Value} (h:Bx W b x y z) (hf:FrX lo hi W W') (hk:b<lo∨hi≤b):Bx W' b x y z:=⟨hf.cell hk h.1,hf.cell hk h.2.1,hf.cell hk h.2.2.1,Nat.lt_of_lt_of_le h.2.2.2 hf.size⟩
theorem law_FnExactSwept (v:Value) (d:DG) (w:World) (h:DgRow w v d) (hk:DgOk d) (hg:GI w):Calls Tryz.prog 5 #[v] w fun e w'=>
  e= .returned (.bool true)∧Below w.heap.size w w':=by
 obtain⟨A,n,c,B,m,q,rfl⟩:=h.agg;have HR:Hid (DgRow w (.agg #[.int .i64 d.next,.slice A n c,.slice B m q]) d):=h;have HK:Hid (DgOk d):=hk;have HG:Hid (GI w):=hg;obtain⟨kl,hkl⟩:=kps_ex d;have HKL:Hid (Kps d kl):=hkl;obtain⟨⟨D,i1⟩,HA⟩: ∃r,Hid (swA d kl=r):=⟨_,rfl⟩
 have eb1:(i1 !=i1)=false:=by simp
 clear hkl;clear h hk hg;go_enter Tryz.func5,Tryz.ntmps5;go_wp2_with fail
 obtain⟨X,HY⟩: ∃X,Hid (w.alloc (.cells #[.int .i64 d.next,.slice A n c,.slice B m q] 25)=X):=⟨_,rfl⟩;rw [HY.out];have hb:Below w.heap.size w X:=by rw [←HY.out];go_grown
 have C3:Hid (Bx X w.heap.size (.int .i64 d.next) (.slice A n c) (.slice B m q)):=by rw [←HY.out];exact Bx.new
 have KX:Hid (Below w.heap.size w X):=hb;clear hb HY;refine(laws_szDagL _ (HR.out.below KX.out) HK.out).mono ?_;rintro e u0 ⟨z,rfl,hz1,hz,hb⟩;replace C3:=hd (C3.out.below hb);replace KX:=hd (Qb KX.out hb);clear hb
 by_cases hneg:z<0
 ·go_wp2_with fail
  go_ret;exact⟨rfl,KX.out⟩
 have HL:Hid (DgLil d):=hz (by omega);clear hz;have h9:=swA_ok (kl:=kl) HK.out HL.out;rw [HA.out]at h9;have HKD:Hid (DgOk D):=h9.1;have HLD:Hid (DgLil D):=h9.2;clear h9
 obtain⟨c3_0,c3_1,c3_2,c3_z⟩:=C3.out;go_wp2_with fail
 clear c3_0 c3_1 c3_2 c3_z;refine(Qij _ (HR.out.below KX.out) HL.out).mono ?_;rintro e u2 ⟨v2,rfl,ho,hb⟩;have hr:=ho.row HK.out;obtain⟨a1,a2,a3,a4,a5,a6,rfl⟩:=hr.agg;have R1:Hid (DgRow u2 (.agg #[.int .i64 d.next,.slice a1 a2 a3,.slice a4 a5 a6]) d):=hr;replace C3:=hd (C3.out.below hb)
 replace KX:=hd (Qb KX.out hb);clear hb hr ho;go_wp2_with fail
 refine(spec_Swept _ R1.out HK.out HL.out HKL.out).mono ?_;rintro e u4 ⟨hs,hb⟩;rw [HA.out]at hs;obtain⟨W1,W2,W3,W4,W5,W6,rfl,ho⟩:=hs.open;have OW:Hid (DgO u4 u2.heap.size (.agg #[.int .i64 D.next,.slice W1 W2 W3,.slice W4 W5 W6]) D):=ho;replace C3:=hd (C3.out.below hb);replace KX:=hd (Qb KX.out hb)
 replace R1:=hd (R1.out.below hb);clear hs ho;clear hb R1;have KZ:=hd (Nat.le_of_lt C3.out.2.2.2);obtain⟨c3_0,c3_1,c3_2,c3_z⟩:=C3.out;go_wp2_with fail
 clear c3_0 c3_1 c3_2 c3_z;obtain⟨Y1,HY⟩: ∃X,Hid (u4.alloc (.cells #[.int .i64 D.next,.slice W1 W2 W3,.slice W4 W5 W6] 32)=X):=⟨_,rfl⟩;rw [HY.out];have hb:Below u4.heap.size u4 Y1:=by rw [←HY.out];go_grown
 have C8:Hid (Bx Y1 u4.heap.size (.int .i64 D.next) (.slice W1 W2 W3) (.slice W4 W5 W6)):=by rw [←HY.out];exact Bx.new
 replace C3:=hd (C3.out.below hb);replace KX:=hd (Qb KX.out hb);have QW:Hid (Below u4.heap.size u4 Y1):=hb;have z1:w.heap.size≤u4.heap.size∧u4.heap.size<Y1.heap.size:=⟨KZ.out,C8.out.2.2.2⟩;have Z1:=hd z1;clear hb HY z1;refine(Qij _ (HR.out.below KX.out) HL.out).mono ?_
 rintro e u5 ⟨v2,rfl,ho,hb⟩;have hr:=ho.row HK.out;obtain⟨x1,x2,x3,x4,x5,x6,rfl⟩:=hr.agg;have R2:Hid (DgRow u5 (.agg #[.int .i64 d.next,.slice x1 x2 x3,.slice x4 x5 x6]) d):=hr;have OX:Hid (DgOwn u5 Y1.heap.size (.agg #[.int .i64 d.next,.slice x1 x2 x3,.slice x4 x5 x6]) d):=ho;have Z2:=hd hb.size;replace C3:=hd (C3.out.below hb)
 replace KX:=hd (Qb KX.out hb);replace C8:=hd (C8.out.below hb);replace QW:=hd (Qb QW.out hb);clear hb hr ho;go_wp2_with fail
 obtain⟨Y2,HY⟩: ∃X,Hid (u5.alloc (.cells #[.int .i64 d.next,.slice x1 x2 x3,.slice x4 x5 x6] 32)=X):=⟨_,rfl⟩;rw [HY.out];have hb:Below u5.heap.size u5 Y2:=by rw [←HY.out];go_grown
 have C11:Hid (Bx Y2 u5.heap.size (.int .i64 d.next) (.slice x1 x2 x3) (.slice x4 x5 x6)):=by rw [←HY.out];exact Bx.new
 replace C3:=hd (C3.out.below hb);replace KX:=hd (Qb KX.out hb);replace C8:=hd (C8.out.below hb);replace QW:=hd (Qb QW.out hb);replace R2:=hd (R2.out.below hb);have QX:Hid (Below u5.heap.size u5 Y2):=hb;have Z3:=hd C11.out.2.2.2
 clear hb HY;have Z4:=hd (Nat.le_refl Y2.heap.size);refine(impl_Swept _ R2.out HK.out HL.out HKL.out (HG.out.below KX.out)).mono ?_;rintro e u7 ⟨hs,hb⟩;rw [HA.out]at hs;obtain⟨G1,G2,G3,G4,G5,G6,rfl,ho⟩:=hs.open;have OG:Hid (DgOH u7 Y2.heap.size u7.heap.size (.agg #[.int .i64 D.next,.slice G1 G2 G3,.slice G4 G5 G6]) D):=ho.toH
 have ZZ:Hid (w.heap.size≤u4.heap.size∧u4.heap.size<Y1.heap.size∧Y1.heap.size≤u5.heap.size∧u5.heap.size<Y2.heap.size∧Y2.heap.size≤Y2.heap.size∧Y2.heap.size≤u7.heap.size):=⟨Z1.out.1,Z1.out.2,Z2.out,Z3.out,Z4.out,hb.size⟩;replace C3:=hd (C3.out.below hb);replace KX:=hd (Qb KX.out hb);replace C8:=hd (C8.out.below hb);replace QW:=hd (Qb QW.out hb);replace R2:=hd (R2.out.below hb);replace C11:=hd (C11.out.below hb)
 replace QX:=hd (Qb QX.out hb);clear hb hs ho Z1 Z2 Z3 Z4;obtain⟨c8_0,c8_1,c8_2,c8_z⟩:=C8.out;go_wp2_with fail
 clear c8_0 c8_1 c8_2 c8_z;obtain⟨Y3,HY⟩: ∃X,Hid (u7.alloc (.cells #[.int .i64 D.next,.slice G1 G2 G3,.slice G4 G5 G6] 32)=X):=⟨_,rfl⟩;rw [HY.out];have hb:Below u7.heap.size u7 Y3:=by rw [←HY.out];go_grown
 have C13:Hid (Bx Y3 u7.heap.size (.int .i64 D.next) (.slice G1 G2 G3) (.slice G4 G5 G6)):=by rw [←HY.out];exact Bx.new
 replace C3:=hd (C3.out.below hb);replace KX:=hd (Qb KX.out hb);replace C8:=hd (C8.out.below hb);replace QW:=hd (Qb QW.out hb);replace R2:=hd (R2.out.below hb);replace C11:=hd (C11.out.below hb);replace QX:=hd (Qb QX.out hb)
 replace OG:=hd (OG.out.below hb);clear hb HY;refine(Qil _ (OG.out.toO.row HKD.out) ((OW.out.below QW.out).row HKD.out)).mono ?_;rintro e u8 ⟨rfl,hb⟩;replace C3:=hd (C3.out.below hb);replace KX:=hd (Qb KX.out hb);replace C8:=hd (C8.out.below hb)
 replace QW:=hd (Qb QW.out hb);replace R2:=hd (R2.out.below hb);replace C11:=hd (C11.out.below hb);replace QX:=hd (Qb QX.out hb);replace OG:=hd (OG.out.below hb);replace C13:=hd (C13.out.below hb);clear hb
 obtain⟨c3_0,c3_1,c3_2,c3_z⟩:=C3.out;obtain⟨c11_0,c11_1,c11_2,c11_z⟩:=C11.out;go_upto_region 10 with fail
 go_cut [45] (fun q wx=>q= .bool false∧Below u8.heap.size u8 wx)
 case first=>
  go_region_held3 (fun w'=>(∀bq oq,bq<u8.heap.size→w'.cell? ⟨bq,oq,none⟩=u8.cell? ⟨bq,oq,none⟩)∧u8.heap.size≤w'.heap.size∧Below u8.heap.size u8 w')
   (exact Qj (Nat.le_refl _) (by go_grown))
   (first
   | (go_at_call 9;refine(Qij _ (HR.out.below (Qb KX.out (by go_grown))) HL.out).mono ?_;rintro e y1 ⟨v6,rfl,ho,hb⟩;have R3:Hid (DgRow y1 v6 d):=ho.row HK.out;obtain⟨hk1,hz1⟩:=Qe (B:=u8.heap.size) (X:=u8) (by go_grown) (by go_size) hb;clear hb ho)
   | (go_at_call 12;refine(Qil _ (R2.out.below hk1) R3.out).mono ?_;rintro e y2 ⟨rfl,hb⟩;obtain⟨hk2,hz2⟩:=Qe (B:=u8.heap.size) (X:=u8) hk1 hz1 hb;clear hb))
  all_goals
   go_wp2_with fail
   go_meet;exact⟨rfl,by go_grown⟩
 case rest=>
 obtain⟨rfl,hb⟩:=hcut;clear c3_0 c3_1 c3_2 c3_z;clear c11_0 c11_1 c11_2 c11_z;replace C3:=hd (C3.out.below hb);replace KX:=hd (Qb KX.out hb);replace C8:=hd (C8.out.below hb);replace QW:=hd (Qb QW.out hb)
 replace C11:=hd (C11.out.below hb);replace QX:=hd (Qb QX.out hb);replace OG:=hd (OG.out.below hb);replace C13:=hd (C13.out.below hb);clear hb R2;obtain⟨c11_0,c11_1,c11_2,c11_z⟩:=C11.out;go_wp2_with fail
 clear c11_0 c11_1 c11_2 c11_z;refine(laws_markDagK _ OX.out QX.out HL.out).mono ?_;rintro e w11 ⟨k7,rfl,hk7,hk7b,hf⟩;have z3:=C3.out.2.2.2;have z8:=C8.out.2.2.2;replace KX:=hd (KX.out.trans (hf.toBelow (B:=w.heap.size) (by have:=ZZ.out;omega) (by omega)));replace QW:=hd (QW.out.trans (hf.toBelow (B:=u4.heap.size) (by have:=ZZ.out;omega) (by omega)))
 clear z3 z8;replace C3:=hd (C3.out.frx hf (by have:=ZZ.out;omega));replace C8:=hd (C8.out.frx hf (by have:=ZZ.out;omega));replace C13:=hd (C13.out.frx hf (by have:=ZZ.out;omega));replace OG:=hd (OG.out.frx hf (by have:=ZZ.out;omega));clear hf C11 QX OX;have hk8: ¬k7<0:=by omega
 clear hk7b;obtain⟨c13_0,c13_1,c13_2,c13_z⟩:=C13.out;obtain⟨c8_0,c8_1,c8_2,c8_z⟩:=C8.out;go_wp2_with fail
 clear c13_0 c13_1 c13_2 c13_z;clear c8_0 c8_1 c8_2 c8_z;refine(Qil _ (OG.out.toO.row HKD.out) ((OW.out.below QW.out).row HKD.out)).mono ?_;rintro e u13 ⟨rfl,hb⟩;replace C3:=hd (C3.out.below hb);replace KX:=hd (Qb KX.out hb);replace C8:=hd (C8.out.below hb)
 replace QW:=hd (Qb QW.out hb);replace OG:=hd (OG.out.below hb);replace C13:=hd (C13.out.below hb);clear hb;obtain⟨c13_0,c13_1,c13_2,c13_z⟩:=C13.out;go_wp2_with fail
 clear c13_0 c13_1 c13_2 c13_z;refine(laws_markDagS _ OG.out (Nat.le_of_lt C13.out.2.2.2) HLD.out).mono ?_;rintro e w14 ⟨rfl,hmk,hf⟩;have z3:=C3.out.2.2.2;have z8:=C8.out.2.2.2;replace KX:=hd (KX.out.trans (hf.toBelow (B:=w.heap.size) (by have:=ZZ.out;omega) (by omega)));replace QW:=hd (QW.out.trans (hf.toBelow (B:=u4.heap.size) (by have:=ZZ.out;omega) (by omega)))
 clear z3 z8;replace C3:=hd (C3.out.frx hf (by have:=ZZ.out;omega));replace C8:=hd (C8.out.frx hf (by have:=ZZ.out;omega));replace C13:=hd (C13.out.frx hf (by have:=ZZ.out;omega));have MK:Hid (DgMk w14 Y2.heap.size (.agg #[.int .i64 D.next,.slice G1 G2 G3,.slice G4 G5 G6]) D):=hmk;clear hf hmk OG;obtain⟨mv,HMV⟩: ∃mv:Int,Hid (kdN D=mv):=⟨_,rfl⟩
 have hmv0: ¬mv<0:=by have h9:=kdN_pos HLD.out;rw [HMV.out]at h9;omega
 have hmv1:(mv !=mv)=false:=by simp
 rw [HMV.out];obtain⟨c13_0,c13_1,c13_2,c13_z⟩:=C13.out;go_wp2_with fail
 clear c13_0 c13_1 c13_2 c13_z;refine(laws_heldDag _ MK.out HLD.out).mono ?_;rintro e u15 ⟨rfl,hb⟩;replace C3:=hd (C3.out.below hb);replace KX:=hd (Qb KX.out hb);replace C8:=hd (C8.out.below hb);replace QW:=hd (Qb QW.out hb)
 replace C13:=hd (C13.out.below hb);replace MK:=hd (MK.out.below hb);clear hb;rw [HMV.out];obtain⟨c3_0,c3_1,c3_2,c3_z⟩:=C3.out;go_wp2_with fail
 clear c3_0 c3_1 c3_2 c3_z;refine(Qij _ (HR.out.below KX.out) HL.out).mono ?_;rintro e u16 ⟨v2,rfl,ho,hb⟩;have hr:=ho.row HK.out;obtain⟨f1,f2,f3,f4,f5,f6,rfl⟩:=hr.agg;have R4:Hid (DgRow u16 (.agg #[.int .i64 d.next,.slice f1 f2 f3,.slice f4 f5 f6]) d):=hr;replace C3:=hd (C3.out.below hb)
 replace KX:=hd (Qb KX.out hb);replace C8:=hd (C8.out.below hb);replace QW:=hd (Qb QW.out hb);replace C13:=hd (C13.out.below hb);replace MK:=hd (MK.out.below hb);clear hb hr ho;go_wp2_with fail
 refine(impl_Swept _ R4.out HK.out HL.out HKL.out (HG.out.below KX.out)).mono ?_;rintro e u18 ⟨hs,hb⟩;rw [HA.out]at hs;obtain⟨H1,H2,H3,H4,H5,H6,rfl,ho⟩:=hs.open;have OH:Hid (DgO u18 u16.heap.size (.agg #[.int .i64 D.next,.slice H1 H2 H3,.slice H4 H5 H6]) D):=ho;replace C3:=hd (C3.out.below hb);replace KX:=hd (Qb KX.out hb)
 replace C8:=hd (C8.out.below hb);replace QW:=hd (Qb QW.out hb);replace C13:=hd (C13.out.below hb);replace MK:=hd (MK.out.below hb);replace R4:=hd (R4.out.below hb);clear hs ho hb R4;obtain⟨c8_0,c8_1,c8_2,c8_z⟩:=C8.out
 go_wp2_with fail
 clear c8_0 c8_1 c8_2 c8_z;obtain⟨Y4,HY⟩: ∃X,Hid (u18.alloc (.cells #[.int .i64 D.next,.slice H1 H2 H3,.slice H4 H5 H6] 32)=X):=⟨_,rfl⟩;rw [HY.out];have hb:Below u18.heap.size u18 Y4:=by rw [←HY.out];go_grown
 have C19:Hid (Bx Y4 u18.heap.size (.int .i64 D.next) (.slice H1 H2 H3) (.slice H4 H5 H6)):=by rw [←HY.out];exact Bx.new
 replace C3:=hd (C3.out.below hb);replace KX:=hd (Qb KX.out hb);replace C8:=hd (C8.out.below hb);replace QW:=hd (Qb QW.out hb);replace C13:=hd (C13.out.below hb);replace MK:=hd (MK.out.below hb);replace OH:=hd (OH.out.below hb)
 clear hb HY;refine(Qil _ (OH.out.row HKD.out) ((OW.out.below QW.out).row HKD.out)).mono ?_;rintro e u19 ⟨rfl,hb⟩;replace C3:=hd (C3.out.below hb);replace KX:=hd (Qb KX.out hb);replace C8:=hd (C8.out.below hb);replace QW:=hd (Qb QW.out hb)
 replace C13:=hd (C13.out.below hb);replace MK:=hd (MK.out.below hb);replace OH:=hd (OH.out.below hb);replace C19:=hd (C19.out.below hb);clear hb;obtain⟨c13_0,c13_1,c13_2,c13_z⟩:=C13.out;go_wp2_with fail
 clear c13_0 c13_1 c13_2 c13_z;refine(laws_heldDag _ MK.out HLD.out).mono ?_;rintro e u20 ⟨rfl,hb⟩;replace C3:=hd (C3.out.below hb);replace KX:=hd (Qb KX.out hb);replace C8:=hd (C8.out.below hb);replace QW:=hd (Qb QW.out hb)
 replace C13:=hd (C13.out.below hb);replace MK:=hd (MK.out.below hb);replace OH:=hd (OH.out.below hb);replace C19:=hd (C19.out.below hb);clear hb;rw [HMV.out];go_wp2_with fail
 go_ret;exact⟨rfl,KX.out⟩
end Go.Proofs.YtkkbgjeilomnmaaGreatDoor
