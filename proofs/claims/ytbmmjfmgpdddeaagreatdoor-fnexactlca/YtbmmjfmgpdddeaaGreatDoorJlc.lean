import Derived.Test.YtbmmjfmgpdddeaaGreatDoorGzn
import Derived.Test.YtbmmjfmgpdddeaaGreatDoorVsC
import Derived.Maps.RangeWalk
import Derived.Test.YtbmmjfmgpdddeaaGreatDoorGzk
set_option linter.unusedSimpArgs false
set_option linter.unusedVariables false
set_option maxHeartbeats 8000000
set_option maxRecDepth 100000
namespace Go.Proofs.YtbmmjfmgpdddeaaGreatDoor
open Go.RowKit Go.Maps
def Rvh (L:List VR) (a y:Int):Prop:=a∈idsL L∧ ∀P:Int→Prop,P a→(∀(x:VR) (u:Int),P x.id→x∈L→u∈x.ups→u∈idsL L→P u)→P y
theorem Rvh.self {L:List VR} {a:Int} (h:a∈idsL L):Rvh L a a:=⟨h,fun P h1 _=>h1⟩
theorem Rvh.up {L:List VR} {a u:Int} {x:VR} (h:Rvh L a x.id) (hx:x∈L) (hu:u∈x.ups) (hm:u∈idsL L):Rvh L a u:=⟨h.1,fun P h1 h2=>h2 x u (h.2 P h1 h2) hx hu hm⟩
theorem Rvh.ind {L:List VR} {a y:Int} (P:Int→Prop) (h:Rvh L a y) (h1:P a) (h2: ∀(x:VR) (u:Int),P x.id→x∈L→u∈x.ups→u∈idsL L→P u):P y:=h.2 P h1 h2
theorem Rvh.mem {L:List VR} {a y:Int} (h:Rvh L a y):y∈idsL L:=h.ind (fun y=>y∈idsL L) h.1 (fun _ _ _ _ _ hm=>hm)
theorem Rvh.start {L:List VR} {a y:Int} (h:Rvh L a y):a∈idsL L:=h.1
theorem Rvh.trans {L:List VR} {a b y:Int} (h:Rvh L a b) (h2:Rvh L b y):Rvh L a y:=h2.ind (fun y=>Rvh L a y) h (fun _ _ ih hx hu hm=>Rvh.up ih hx hu hm)
structure DgFacts (d:DG):Prop where
 asc:ascR ltV d.vs=true
 lo: ∀x∈d.vs,1≤x.id
 hi: ∀x∈d.vs,x.id<d.next
 nx:d.next≤1000000000
 nv:d.vs.length≤40
 nb:d.bs.length≤8
 ups: ∀x∈d.vs,∀u∈x.ups,u∈idsL d.vs
 two: ∀x∈d.vs,x.ups.length≤2
 hd: ∀x∈d.bs,x.h∈idsL d.vs
theorem dag_facts {d:DG} (h:dagB d=true):DgFacts d:=by
 have hnx:d.next≤1000000000:=Classical.byContradiction fun h9=>by rw [dag_next (Or.inr (by omega))]at h;cases h
 have hasc:ascR ltV d.vs=true:=by
  cases ha:ascR ltV d.vs with
  | true=>rfl
  | false=>rw [dag_vers (versB_asc ha)]at h;cases h
 refine⟨hasc,?_,?_,hnx,?_,?_,?_,?_,?_⟩
 ·intro x hx
  obtain⟨t,ht,rfl⟩:=List.mem_iff_getElem.1 hx
  exact Classical.byContradiction fun h9=>by rw [dag_id (List.getElem?_eq_getElem ht) (Or.inl (by omega))]at h;cases h
 ·intro x hx
  obtain⟨t,ht,rfl⟩:=List.mem_iff_getElem.1 hx
  exact Classical.byContradiction fun h9=>by rw [dag_id (List.getElem?_eq_getElem ht) (Or.inr (by omega))]at h;cases h
 ·exact Classical.byContradiction fun h9=>by rw [dag_vlen (Or.inr (by omega))]at h;cases h
 ·exact Classical.byContradiction fun h9=>by rw [dag_blen (Or.inr (by omega))]at h;cases h
 ·intro x hx u hu
  obtain⟨t,ht,rfl⟩:=List.mem_iff_getElem.1 hx
  obtain⟨k,hk,rfl⟩:=List.mem_iff_getElem.1 hu
  exact Classical.byContradiction fun h9=>by rw [dag_up (List.getElem?_eq_getElem ht) (List.getElem?_eq_getElem hk) (Or.inr h9)]at h;cases h
 ·intro x hx
  obtain⟨t,ht,rfl⟩:=List.mem_iff_getElem.1 hx
  exact Classical.byContradiction fun h9=>by rw [dag_ups (List.getElem?_eq_getElem ht) (by omega)]at h;cases h
 ·intro x hx
  obtain⟨t,ht,rfl⟩:=List.mem_iff_getElem.1 hx
  exact Classical.byContradiction fun h9=>by rw [dag_br (List.getElem?_eq_getElem ht) (Or.inr h9)]at h;cases h
theorem asc_inj {L:List VR} (h:ascR ltV L=true) {i j:Nat} {x y:VR} (hx:L[i]? =some x) (hy:L[j]? =some y) (e:x.id=y.id):i=j:=by
 rcases Nat.lt_trichotomy i j with h1 | h1 | h1
 ·have:=asc_pair h i j x y h1 hx hy;omega
 ·exact h1
 ·have:=asc_pair h j i y x h1 hy hx;omega
theorem asc_one {L:List VR} (h:ascR ltV L=true) {x y:VR} (hx:x∈L) (hy:y∈L) (e:x.id=y.id):x=y:=by
 obtain⟨i,hi,rfl⟩:=List.mem_iff_getElem.1 hx
 obtain⟨j,hj,rfl⟩:=List.mem_iff_getElem.1 hy
 have:=asc_inj h (List.getElem?_eq_getElem hi) (List.getElem?_eq_getElem hj) e
 subst this;rfl
theorem ids_mem {L:List VR} {a:Int} (h:a∈idsL L): ∃x,x∈L∧x.id=a:=by
 obtain⟨x,hx,e⟩:=List.mem_map.1 h
 exact⟨x,hx,e⟩
theorem mem_ids {L:List VR} {x:VR} (h:x∈L):x.id∈idsL L:=List.mem_map.2 ⟨x,h,rfl⟩
theorem idx_of {L:List VR} {x:VR} (h:x∈L): ∃k:Nat,L[k]? =some x:=by
 obtain⟨k,hk,e⟩:=List.mem_iff_getElem.1 h
 exact⟨k,by rw [List.getElem?_eq_getElem hk,e]⟩
def leftN (L:List VR) (l:List Int):Nat:=L.countP fun x=>decide (x.id∉l)
theorem leftN_le (L:List VR) (l:List Int):leftN L l≤L.length:=List.countP_le_length
theorem leftN_add {L:List VR} {l:List Int} {a:Int} (h:a∈idsL L) (hn:a∉l):leftN L (l++ [a])+1≤leftN L l:=by
 unfold leftN
 induction L with
 | nil=>simp [idsL]at h
 | cons x r ih=>
  have mono: ∀r:List VR,r.countP (fun x=>decide (x.id∉l++ [a]))≤r.countP (fun x=>decide (x.id∉l)):=fun r=>List.countP_mono_left fun y _ hy=>by
   simp at hy ⊢;exact hy.1
  by_cases e:x.id=a
  ·have e1:(x::r).countP (fun x=>decide (x.id∉l++ [a]))=r.countP (fun x=>decide (x.id∉l++ [a])):=List.countP_cons_of_neg (by simp [e])
   have e2:(x::r).countP (fun x=>decide (x.id∉l))=r.countP (fun x=>decide (x.id∉l))+1:=List.countP_cons_of_pos (by simpa [e]using hn)
   have:=mono r
   omega
  ·have ha:a∈idsL r:=by
    rcases List.mem_cons.1 (show a∈x.id::idsL r from h)with h | h
    ·exact absurd h.symm e
    ·exact h
   have h3:=ih ha
   by_cases hx:x.id∉l
   ·have e1:(x::r).countP (fun x=>decide (x.id∉l++ [a]))=r.countP (fun x=>decide (x.id∉l++ [a]))+1:=List.countP_cons_of_pos (by simp [e,hx])
    have e2:(x::r).countP (fun x=>decide (x.id∉l))=r.countP (fun x=>decide (x.id∉l))+1:=List.countP_cons_of_pos (by simp [hx])
    omega
   ·have e1:(x::r).countP (fun x=>decide (x.id∉l++ [a]))=r.countP (fun x=>decide (x.id∉l++ [a])):=List.countP_cons_of_neg (by simp at hx;simp [hx])
    have e2:(x::r).countP (fun x=>decide (x.id∉l))=r.countP (fun x=>decide (x.id∉l)):=List.countP_cons_of_neg (by simpa using hx)
    omega
structure Fd (L:List VR) (l xs l':List Int):Prop where
 sub: ∀y∈l,y∈l'
 got: ∀x∈xs,x∈idsL L→x∈l'
 new: ∀y∈l',y∈l∨((∃x∈xs,Rvh L x y)∧ ∀v∈L,v.id=y→ ∀u∈v.ups,u∈idsL L→u∈l')
theorem Fd.nil (L:List VR) (l:List Int):Fd L l [] l:=⟨fun _ h=>h,fun _ h=>absurd h (by simp),fun _ h=>Or.inl h⟩
theorem Fd.skip {L : List VR} {l xs l' : List Int} {x : Int} (h : Fd L l xs l') (hx : x ∈ idsL L → x ∈ l') : Fd L l (xs ++ [x]) l' :=
  ⟨h.sub, fun y hy hm => by
    rcases List.mem_append.1 hy with hy | hy
    · exact h.got y hy hm
    · obtain rfl := List.mem_singleton.1 hy; exact hx hm,
   fun y hy => by
    rcases h.new y hy with h1 | ⟨⟨z, hz, hr⟩, h2⟩
    · exact Or.inl h1
    · exact Or.inr ⟨⟨z, List.mem_append.2 (Or.inl hz), hr⟩, h2⟩⟩
theorem Fd.step {L : List VR} {l xs l1 l2 : List Int} {v : VR} (ha : ascR ltV L = true) (hv : v ∈ L) (h : Fd L l xs l1) (h2 : Fd L (l1 ++ [v.id]) v.ups l2) : Fd L l (xs ++ [v.id]) l2 :=
  have hs : ∀ y ∈ l1, y ∈ l2 := fun y hy => h2.sub y (List.mem_append.2 (Or.inl hy))
  have hself : Rvh L v.id v.id := Rvh.self (mem_ids hv)
  ⟨fun y hy => hs y (h.sub y hy), fun y hy hm => by
    rcases List.mem_append.1 hy with hy | hy
    · exact hs y (h.got y hy hm)
    · obtain rfl := List.mem_singleton.1 hy; exact h2.sub _ (by simp),
   fun y hy => by
    rcases h2.new y hy with h3 | ⟨⟨z, hz, hr⟩, h4⟩
    · rcases List.mem_append.1 h3 with h3 | h3
      · rcases h.new y h3 with h5 | ⟨⟨z, hz, hr⟩, h6⟩
        · exact Or.inl h5
        · exact Or.inr ⟨⟨z, List.mem_append.2 (Or.inl hz), hr⟩, fun v hv e u hu hm => hs u (h6 v hv e u hu hm)⟩
      · obtain rfl := List.mem_singleton.1 h3
        refine Or.inr ⟨⟨v.id, by simp, hself⟩, fun x hx e u hu hm => ?_⟩
        rw [asc_one ha hx hv e] at hu
        exact h2.got u hu hm
    · exact Or.inr ⟨⟨v.id, by simp, Rvh.trans (Rvh.up hself hv hz hr.start) hr⟩, h4⟩⟩
theorem Fd.all {L:List VR} {xs l':List Int} (h:Fd L [] xs l') (y:Int):y∈l'↔ ∃x∈xs,Rvh L x y:=by
 constructor
 ·intro hy
  rcases h.new y hy with h1 | ⟨h1,_⟩
  ·cases h1
  ·exact h1
 ·rintro⟨x,hx,hr⟩
  refine hr.ind (fun y=>y∈l') (h.got x hx hr.start) (fun v u ih hv hu hm=> ?_)
  rcases h.new v.id ih with h1 | ⟨_,h2⟩
  ·cases h1
  ·exact h2 v hv rfl u hu hm
theorem Fd.one {L:List VR} {a:Int} {l':List Int} (h:Fd L [] [a] l') (y:Int):y∈l'↔Rvh L a y:=by
 rw [h.all]
 constructor
 ·rintro⟨x,hx,hr⟩;obtain rfl:=List.mem_singleton.1 hx;exact hr
 ·intro hr;exact⟨a,by simp,hr⟩
def outL (S:List Int) (L:List VR):List Int:=(idsL L).filter fun y=>decide (y∈S)
theorem outL_mem {S:List Int} {L:List VR} {y:Int}:y∈outL S L↔y∈idsL L∧y∈S:=by
 unfold outL
 rw [List.mem_filter,decide_eq_true_eq]
theorem outL_len (S:List Int) (L:List VR):(outL S L).length≤L.length:=by
 unfold outL
 have:=List.length_filter_le (fun y=>decide (y∈S)) (idsL L)
 unfold idsL at this ⊢
 rw [List.length_map]at this
 exact this
theorem outL_same {S S':List Int} {L:List VR} (h: ∀y,y∈S↔y∈S'):outL S L=outL S' L:=by
 unfold outL
 apply List.filter_congr
 intro y _
 by_cases hy:y∈S
 ·rw [decide_eq_true hy,decide_eq_true ((h y).1 hy)]
 ·rw [decide_eq_false hy,decide_eq_false (fun h9=>hy ((h y).2 h9))]
def IsAb (L:List VR) (a:Int) (ls:List Int):Prop:= ∃S:List Int,(∀y,y∈S↔Rvh L a y)∧ls=outL S L
theorem ab_ex (L:List VR) (a:Int): ∃ls,IsAb L a ls:=by
 classical
 refine⟨_,(idsL L).filter (fun y=>decide (Rvh L a y)),fun y=> ?_,rfl⟩
 rw [List.mem_filter,decide_eq_true_eq]
 exact⟨fun h=>h.2,fun h=>⟨h.mem,h⟩⟩
theorem IsAb.mem {L:List VR} {a y:Int} {ls:List Int} (h:IsAb L a ls):y∈ls↔Rvh L a y:=by
 obtain⟨S,hS,rfl⟩:=h
 rw [outL_mem,hS]
 exact⟨fun h=>h.2,fun h=>⟨h.mem,h⟩⟩
theorem IsAb.nil {L:List VR} {a:Int} {ls:List Int} (h:IsAb L a ls) (ha:a∉idsL L):ls= []:=by
 refine List.eq_nil_iff_forall_not_mem.2 fun y hy=> ?_
 exact ha (h.mem.1 hy).start
theorem IsAb.len {L:List VR} {a:Int} {ls:List Int} (h:IsAb L a ls):ls.length≤L.length:=by
 obtain⟨S,_,rfl⟩:=h
 exact outL_len S L
def IsL (L:List VR) (a b g:Int):Prop:=(g=0∧ ∀y,Rvh L a y→ ¬Rvh L b y)∨(Rvh L a g∧Rvh L b g∧ ∀y,Rvh L a y→Rvh L b y→y≤g)
theorem IsL.one {L:List VR} {a b g g':Int} (h:IsL L a b g) (h2:IsL L a b g'):g=g':=by
 rcases h with⟨rfl,h⟩ | ⟨h1,h3,h4⟩
 ·rcases h2 with⟨e,_⟩ | ⟨h5,h6,_⟩
  ·exact e.symm
  ·exact absurd h6 (h _ h5)
 ·rcases h2 with⟨_,h5⟩ | ⟨h5,h6,h7⟩
  ·exact absurd h3 (h5 _ h1)
  ·have:=h4 _ h5 h6
   have:=h7 _ h1 h3
   omega
theorem IsL.no {L:List VR} {a b:Int} (h:a∉idsL L∨b∉idsL L):IsL L a b 0:=Or.inl ⟨rfl,fun y h1 h2=>by
 rcases h with h | h
 ·exact h h1.start
 ·exact h h2.start⟩
def LcaI (d:DG) (a b g:Int):Prop:=(dagB d=true→IsL d.vs a b g)∧(dagB d=false→g=0)
theorem spec_l10Has {A:Option Addr} {n cap:Nat} {l:List Int} (x:Int) (w:World) (h:IntRow w A l) (hL:l.length=n):
  Calls Tryz.prog 72 #[.slice A n cap,.int .i64 x] w fun e w'=>e= .returned (.bool (decide (x∈l)))∧w'=w:=by
 have HR:Hid (IntRow w A l):=h
 have HL:Hid (l.length=n):=hL
 have hn:=h.1
 rw [hL]at hn
 unfold maxLen at hn
 clear h hL
 go_enter Tryz.func72,Tryz.ntmps72
 go_wp2_with fail
 go_loopw [5] (fun i wr=> ∃t:Nat,t≤n∧i= .int .i64 t∧(∀(j:Nat) y,j<t→l[j]? =some y→y≠x)∧wr=w) (fun i _=>n-(intOf i).toNat)
 case atStart=>exact⟨0,Nat.zero_le _,rfl,fun j y hj=>by omega,rfl⟩
 case round=>
  obtain⟨t,ht,rfl,hno,hw⟩:=hrel
  have HNO:Hid (∀(j:Nat) y,j<t→l[j]? =some y→y≠x):=hno
  subst hw
  clear hno
  by_cases hlt:t<n
  ·obtain⟨y,hy⟩:=at_lt HL.out hlt
   have HY:Hid (l[t]? =some y):=hy
   obtain⟨b,o,rfl,hl,c0⟩:=int_cell HR.out hy
   clear hy
   have q0:(0:Int)≤(t:Int):=by omega
   have q1:(t:Int)<(n:Int):=by omega
   by_cases he:y=x
   ·go_wp2_with fail
    go_ret
    exact⟨ret_bool (decide_eq_true (by rw [←he];exact List.mem_of_getElem? HY.out)).symm,rfl⟩
   ·have he2:(y==x)=false:=by simpa using he
    go_wp2_with fail
    go_roundw
    case rel=>exact⟨t+1,by omega,by go_num,fun j u hj hu=>by
     by_cases e:j=t
     ·subst e;rw [HY.out]at hu;cases hu;exact he
     ·exact HNO.out j u (by omega) hu,by trivial⟩
    case measure=>simp [intOf];omega
  ·have h1: ¬(t:Int)<(n:Int):=by omega
   go_wp2_with fail
   go_ret
   refine⟨ret_bool (decide_eq_false fun hm=> ?_).symm,rfl⟩
   obtain⟨j,hj,e⟩:=List.mem_iff_getElem.1 hm
   exact HNO.out j _ (by have:=HL.out;omega) (List.getElem?_eq_getElem hj) e
def FindI (L:List VR) (id r:Int):Prop:=(r= -1∧id∉idsL L)∨ ∃(k:Nat) (x:VR),r=(k:Int)∧L[k]? =some x∧x.id=id
theorem FindI.neg {L:List VR} {id r:Int} (h:FindI L id r) (hr:r<0):id∉idsL L:=by
 rcases h with⟨_,h⟩ | ⟨k,x,rfl,_⟩
 ·exact h
 ·omega
theorem FindI.pos {L:List VR} {id r:Int} (h:FindI L id r) (hr: ¬r<0):id∈idsL L:=by
 rcases h with⟨rfl,h⟩ | ⟨k,x,rfl,hx,rfl⟩
 ·omega
 ·exact mem_ids (List.mem_of_getElem? hx)
theorem FindI.at {L:List VR} {id r:Int} (h:FindI L id r) (hm:id∈idsL L): ∃(k:Nat) (x:VR),r=(k:Int)∧L[k]? =some x∧x.id=id:=by
 rcases h with⟨_,h⟩ | h
 ·exact absurd hm h
 ·exact h
theorem spec_l10FindX {v:Value} {d:DG} (id:Int) (w:World) (h:DgRow w v d):
  Calls Tryz.prog 32 #[v,.int .i64 id] w fun e w'=> ∃r:Int,e= .returned (.int .i64 r)∧FindI d.vs id r∧Below w.heap.size w w':=by
 obtain⟨A1,n1,c1,A2,n2,c2,rfl⟩:=h.agg
 obtain⟨r1,e1,r2,e2⟩:=h.open
 have R1:Hid (VrRow w A1 d.vs):=r1
 have E1:Hid (d.vs.length=n1):=e1
 have hn:=r1.1
 rw [e1]at hn
 unfold maxLen at hn
 clear h r1 r2 e1 e2
 go_enter Tryz.func32,Tryz.ntmps32
 go_wp2_with fail
 obtain⟨X,HX⟩: ∃X,Hid (w.alloc (.cells #[.int .i64 d.next,.slice A1 n1 c1,.slice A2 n2 c2] 31)=X):=⟨_,rfl⟩
 rw [HX.out]
 have x1:X.cell? ⟨w.heap.size,1,none⟩=some (.slice A1 n1 c1):=by rw [←HX.out];go_simp
 have zX:w.heap.size<X.heap.size:=by rw [←HX.out];simp
 have hbX:Below w.heap.size w X:=by rw [←HX.out];go_grown
 clear HX
 go_loopw [5] (fun i wr=> ∃k:Nat,k≤n1∧i= .int .i64 k∧(∀(t:Nat) x,t<k→d.vs[t]? =some x→x.id≠id)∧Below X.heap.size X wr) (fun i _=>n1-(intOf i).toNat)
 case atStart=>exact⟨0,Nat.zero_le _,rfl,fun t x ht=>by omega,Below.refl _ _⟩
 case round=>
  obtain⟨k,hk,rfl,hall,hbel⟩:=hrel
  have HA:Hid (∀(t:Nat) x,t<k→d.vs[t]? =some x→x.id≠id):=hall
  have KX:Hid (Below w.heap.size w wr):=bchain hbX hbel
  have KB:Hid (Below X.heap.size X wr):=hbel
  have y1:wr.cell? ⟨w.heap.size,1,none⟩=some (.slice A1 n1 c1):=cy hbel x1
  have zw:w.heap.size<wr.heap.size:=Nat.lt_of_lt_of_le zX hbel.size
  clear hall hbel
  by_cases hlt:k<n1
  ·obtain⟨x,hx⟩:=at_lt E1.out hlt
   have HX:Hid (d.vs[k]? =some x):=hx
   obtain⟨b,o,u,uc,s,sc,rfl,hl,c0,_,_,_,_⟩:=R1.out.2 k x hx
   rw [←KX.out.cell (p:=⟨_,_,none⟩) hl]at c0
   have hl2:b<wr.heap.size:=Nat.lt_of_lt_of_le hl KX.out.size
   have h0:(0:Int)≤(k:Int):=by omega
   have h1:(k:Int)<(n1:Int):=by omega
   clear hx
   by_cases he:x.id=id
   ·go_wp2_with fail
    go_ret
    exact⟨_,rfl,Or.inr ⟨k,x,rfl,HX.out,he⟩,KX.out⟩
   ·have he2:(x.id==id)=false:=by simpa using he
    go_wp2_with fail
    go_roundw
    case rel=>exact⟨k+1,by omega,by go_num,fun t y ht hy=>by
     by_cases e:t=k
     ·subst e;rw [HX.out]at hy;cases hy;exact he
     ·exact HA.out t y (by omega) hy,KB.out⟩
    case measure=>simp [intOf];omega
  ·have h1: ¬(k:Int)<(n1:Int):=by omega
   go_wp2_with fail
   go_ret
   exact⟨_,rfl,Or.inl ⟨rfl,fun hm=>by
    obtain⟨x,hx,he⟩:=List.mem_map.1 hm
    obtain⟨t,ht,rfl⟩:=List.mem_iff_getElem.1 hx
    exact HA.out t _ (by have:=E1.out;omega) (List.getElem?_eq_getElem ht) he⟩,KX.out⟩
theorem spec_l10FindAt {v:Value} {d:DG} {k:Nat} {x:VR} (w:World) (h:DgRow w v d) (hf:DgFacts d) (hx:d.vs[k]? =some x):
  Calls Tryz.prog 32 #[v,.int .i64 x.id] w fun e w'=>e= .returned (.int .i64 (k:Int))∧Below w.heap.size w w':=by
 refine(spec_l10FindX x.id w h).mono ?_
 rintro e w1 ⟨r,rfl,hr,hb⟩
 obtain⟨j,y,rfl,hy,e⟩:=hr.at (mem_ids (List.mem_of_getElem? hx))
 have:=asc_inj hf.asc hy hx e
 subst this
 exact⟨rfl,hb⟩
section
variable {ops:Array Oper} {rest:List Oper} {o:Oper} {a:Act} {Q:Exit→Act→World→Prop}
theorem wpList_app_int {W:World} (hgd:o.guard=none) (s x:Operand) (ho:o.op= .call {callee:= .builtin .append,args:= #[s,x],argTypes:= #[44,44]}) (B:Nat) (v:Value) (n:Nat) (l:List Int) (hs:a.eval s=v)
  (hown:W.ownsRow B 2 1 v n (l.map (Value.int .i64))) (z:Int) (hx:a.eval x= .slice (some ⟨W.heap.size,0,none⟩) 1 1) (hn:n≤1099511627776) (hB:B≤W.heap.size)
  (h: ∀v' w',w'.ownsRow B 2 1 v' (n+1) ((l++ [z]).map (Value.int .i64))→(W.alloc (.cells #[.int .i64 z] 2)).grownBy w' v.ownBlock→(∀w0,Below B w0 W→Below B w0 w')→wpList Tryz.prog ops Q rest (a.put o.dst v') w'):
  wpList Tryz.prog ops Q (o::rest) a (W.alloc (.cells #[.int .i64 z] 2)):=by
 obtain⟨i0,hi,iz0,iz1,iz2⟩:=info_parts infoInt
 refine wpList_append_own _ hgd _ _ 44 ho B 2 i0 (.int .i64 0) 1 8 Tryz.underlying44 hi iz0 iz1 iz2 rfl (by decide) v n _ hs (hown.alloc _) ⟨W.heap.size,0,none⟩ 1 1 [.int .i64 z] hx rfl ?_ ?_ ?_ ?_ ?_ ?_
 ·intro q u hq
  match q,hq with
  | 0,hq=>simp at hq;subst hq;simp [Addr.add]
 ·intro u hu;simp at hu;subst hu;rfl
 ·unfold maxLen;omega
 ·omega
 ·simp;omega
 ·intro v' w3 hown' hgrow _
  refine h v' w3 ?_ hgrow (fun w0 hb=>(hb.alloc hB _).grown hgrow (by simp;omega) (fun q hq=>(hown.lt q hq).1))
  rw [List.map_append]
  exact hown'
end
theorem own_neT {W:World} {B B':Nat} {e e':TypeId} {s s' n n':Nat} {v v':Value} {xs xs':List Value} (h:W.ownsRow B e s v n xs) (h':W.ownsRow B' e' s' v' n' xs') (hne:e≠e'):v.ownBlock=none∨v.ownBlock≠v'.ownBlock:=by
 rcases h.2 with⟨rfl,_⟩ | ⟨g,cap,cur,rfl,_,hg,_⟩
 ·exact Or.inl rfl
 ·right
  rcases h'.2 with⟨rfl,_⟩ | ⟨g',cap',cur',rfl,_,hg',_⟩
  ·intro e;cases e
  ·intro e9
   cases e9
   rw [hg]at hg'
   cases hg'
   exact hne rfl
def VBox (W:World) (B g:Nat) (i:Int) (u:Option Addr) (n c:Nat) (s:Option Addr) (m k:Nat):Prop:=W.ownsRow B 54 3 (.slice (some ⟨g,0,none⟩) 1 1) 1 [.int .i64 i,.slice u n c,.slice s m k]
theorem VBox.made {W:World} {B:Nat} (hB:B≤W.heap.size):VBox (W.alloc (.cells #[.int .i64 0,.slice none 0 0,.slice none 0 0] 54)) B W.heap.size 0 none 0 0 none 0 0:=World.ownsRow_lit W _ 1 hB (by unfold maxLen;omega) rfl
theorem VBox.madeD {W:World} {B:Nat} (hB:B≤W.heap.size):VBox (W.alloc (.cells #[.int .i64 0,.slice none 0 0,.slice none 0 0] 54)).drew B W.heap.size 0 none 0 0 none 0 0:=VBox.made hB
theorem VBox.lit {W:World} {B:Nat} (hB:B≤W.heap.size) (i:Int) (u:Option Addr) (n c:Nat) (s:Option Addr) (m k:Nat):VBox (W.alloc (.cells #[.int .i64 i,.slice u n c,.slice s m k] 54)) B W.heap.size i u n c s m k:=World.ownsRow_lit W _ 1 hB (by unfold maxLen;omega) rfl
theorem int_ownN {W:World} {B n:Nat} {e:TypeId} {A:Option Addr} {cap:Nat} {l:List Int} (hn:l.length=n) (h:W.ownsRow B e 1 (.slice A n cap) n (l.map (Value.int .i64))):IntRow W A l:=by
 subst hn;exact int_of_own h
theorem VBox.put {W:World} {B g:Nat} {i:Int} {u:Option Addr} {n c:Nat} {s:Option Addr} {m k:Nat} (h:VBox W B g i u n c s m k) (i':Int) (u':Option Addr) (n' c':Nat) (s':Option Addr) (m' k':Nat):
  VBox (((W.setCell ⟨g,0,none⟩ (.int .i64 i')).setCell ⟨g,1,none⟩ (.slice u' n' c')).setCell ⟨g,2,none⟩ (.slice s' m' k')) B g i' u' n' c' s' m' k':=by
 have:=(own_set [.int .i64 i',.slice u' n' c',.slice s' m' k'] W 0 _ h).1
 simpa [setAll,overw,VBox]using this
theorem VBox.below {W W':World} {B g:Nat} {i:Int} {u:Option Addr} {n c:Nat} {s:Option Addr} {m k:Nat} (h:VBox W B g i u n c s m k) (hb:Below W.heap.size W W'):VBox W' B g i u n c s m k:=own_below h hb
theorem VBox.ups {W:World} {B g:Nat} {i:Int} {u:Option Addr} {n c:Nat} {s:Option Addr} {m k:Nat} (h:VBox W B g i u n c s m k):W.cell? ⟨g,1,none⟩=some (.slice u n c)∧g<W.heap.size:=by
 obtain⟨A,cap,e,_,hc⟩:=own_shape h
 obtain⟨g',e',_,hl,c1,_⟩:=hc 1 (by omega)
 cases e;cases e'
 exact⟨c1,hl⟩
structure Wk (L:List VR) (a:Int) (S:List Int) (t:Nat):Prop where
 hd:a∈S
 rc: ∀y∈S,Rvh L a y
 cl: ∀(j:Nat) y,j<t→S[j]? =some y→ ∀v∈L,v.id=y→ ∀u∈v.ups,u∈S
structure Wi (L:List VR) (a:Int) (S0:List Int) (x:VR) (k:Nat) (S:List Int):Prop where
 pre: ∃r,S=S0++r
 rc: ∀y∈S,Rvh L a y
 got: ∀(j:Nat) u,j<k→x.ups[j]? =some u→u∈S
theorem Wk.start {L:List VR} {a:Int} (h:a∈idsL L):Wk L a [a] 0:=⟨by simp,fun y hy=>by obtain rfl:=List.mem_singleton.1 hy;exact Rvh.self h,fun j y hj=>by omega⟩
theorem Wk.inn {L:List VR} {a:Int} {S:List Int} {t:Nat} {x:VR} (h:Wk L a S t):Wi L a S x 0 S:=⟨⟨[],by simp⟩,h.rc,fun j u hj=>by omega⟩
theorem Wi.old {L:List VR} {a:Int} {S0 S:List Int} {x:VR} {k:Nat} {u:Int} (h:Wi L a S0 x k S) (hu:x.ups[k]? =some u) (hm:u∈S):Wi L a S0 x (k+1) S:=
 ⟨h.pre,h.rc,fun j z hj hz=>by
  by_cases e:j=k
  ·subst e;rw [hu]at hz;cases hz;exact hm
  ·exact h.got j z (by omega) hz⟩
theorem Wi.add {L : List VR} {a : Int} {S0 S : List Int} {x : VR} {k : Nat} {u : Int} (h : Wi L a S0 x k S) (hx : x ∈ L) (hxs : x.id ∈ S) (hu : x.ups[k]? = some u) (hm : u ∈ idsL L) : Wi L a S0 x (k + 1) (S ++ [u]) :=
  ⟨by obtain ⟨r, e⟩ := h.pre; exact ⟨r ++ [u], by rw [e, List.append_assoc]⟩, fun y hy => by
    rcases List.mem_append.1 hy with hy | hy
    · exact h.rc y hy
    · obtain rfl := List.mem_singleton.1 hy; exact Rvh.up (h.rc _ hxs) hx (List.mem_of_getElem? hu) hm,
   fun j z hj hz => by
    by_cases e : j = k
    · subst e; rw [hu] at hz; cases hz; simp
    · exact List.mem_append.2 (Or.inl (h.got j z (by omega) hz))⟩
theorem Wi.mem {L:List VR} {a:Int} {S0 S:List Int} {x:VR} {k:Nat} (h:Wi L a S0 x k S) {y:Int} (hy:y∈S0):y∈S:=by
 obtain⟨r,e⟩:=h.pre;rw [e];exact List.mem_append.2 (Or.inl hy)
theorem Wi.len {L:List VR} {a:Int} {S0 S:List Int} {x:VR} {k:Nat} (h:Wi L a S0 x k S):S0.length≤S.length:=by
 obtain⟨r,e⟩:=h.pre;rw [e];simp
theorem Wi.out {L:List VR} {a:Int} {S0 S:List Int} {x:VR} {t:Nat} (ha:ascR ltV L=true) (h0:Wk L a S0 t) (hx:x∈L) (hs:S0[t]? =some x.id) (h:Wi L a S0 x x.ups.length S):Wk L a S (t+1):=
 ⟨h.mem h0.hd,h.rc,fun j y hj hy v hv e u hu=>by
  obtain⟨r,e2⟩:=h.pre
  have hl:t<S0.length:=(List.getElem?_eq_some_iff.1 hs).1
  have hy0:S0[j]? =some y:=by rw [e2,List.getElem?_append_left (by omega)]at hy;exact hy
  by_cases ej:j=t
  ·subst ej
   rw [hs]at hy0
   have:v=x:=asc_one ha hv hx (by rw [e];exact(Option.some.inj hy0).symm)
   subst this
   obtain⟨i,hi,rfl⟩:=List.mem_iff_getElem.1 hu
   exact h.got i _ hi (List.getElem?_eq_getElem hi)
  ·exact h.mem (h0.cl j y (by omega) hy0 v hv e u hu)⟩
theorem Wk.all {L:List VR} {a:Int} {S:List Int} (h:Wk L a S S.length) (y:Int):y∈S↔Rvh L a y:=by
 refine⟨h.rc y,fun hr=> ?_⟩
 refine hr.ind (fun y=>y∈S) h.hd (fun v u ih hv hu hm=> ?_)
 obtain⟨j,hj,e⟩:=List.mem_iff_getElem.1 ih
 exact h.cl j v.id hj (by rw [List.getElem?_eq_getElem hj,e]) v hv rfl u hu
theorem outL_eq {L:List VR} {a:Int} {S ls:List Int} (h:Wk L a S S.length) (hl:IsAb L a ls):outL S L=ls:=by
 obtain⟨S',hS,rfl⟩:=hl
 exact outL_same (fun y=>by rw [h.all,hS])
theorem outL_take {S:List Int} {L:List VR} {t:Nat} {x:VR} (hx:L[t]? =some x):outL S (L.take (t+1))=outL S (L.take t)++(if x.id∈S then [x.id]else []):=by
 unfold outL
 rw [ids_take hx,List.filter_append]
 by_cases h:x.id∈S
 ·simp [h]
 ·simp [h]
theorem spec_l10Above {v:Value} {d:DG} {ls:List Int} (a:Int) (w:World) (h:DgRow w v d) (hf:DgFacts d) (ha:a∈idsL d.vs) (hab:IsAb d.vs a ls):
  Calls Tryz.prog 49 #[v,.int .i64 a] w fun e w'=> ∃r,e= .returned r∧w'.ownsRow w.heap.size 2 1 r ls.length (ls.map (Value.int .i64))∧Below w.heap.size w w':=by
 obtain⟨A1,n1,c1,A2,n2,c2,rfl⟩:=h.agg
 have HD:Hid (DgRow w (.agg #[.int .i64 d.next,.slice A1 n1 c1,.slice A2 n2 c2]) d):=h
 obtain⟨r1,e1,r2,e2⟩:=h.open
 have R1:Hid (VrRow w A1 d.vs):=r1
 have E1:Hid (d.vs.length=n1):=e1
 have HF:Hid (DgFacts d):=hf
 have HA:Hid (a∈idsL d.vs):=ha
 have HAB:Hid (IsAb d.vs a ls):=hab
 have hn40:n1≤40:=by rw [←e1];exact hf.nv
 clear h r1 r2 e1 e2 hf ha hab
 go_enter Tryz.func49,Tryz.ntmps49
 go_wp2_with fail
 obtain⟨X,HX⟩: ∃X,Hid (w.alloc (.cells #[.int .i64 d.next,.slice A1 n1 c1,.slice A2 n2 c2] 31)=X):=⟨_,rfl⟩
 rw [HX.out]
 have x0:X.cell? ⟨w.heap.size,0,none⟩=some (.int .i64 d.next):=by rw [←HX.out];go_simp
 have x1:X.cell? ⟨w.heap.size,1,none⟩=some (.slice A1 n1 c1):=by rw [←HX.out];go_simp
 have x2:X.cell? ⟨w.heap.size,2,none⟩=some (.slice A2 n2 c2):=by rw [←HX.out];go_simp
 have ZX:Hid (X.heap.size=w.heap.size+1):=by rw [←HX.out];simp [Hid]
 have zX:w.heap.size<X.heap.size:=by rw [←HX.out];simp
 have KX:Hid (Below w.heap.size w X):=by rw [←HX.out];show Below _ _ _;go_grown
 clear HX
 have HO0:Hid ((X.alloc (.cells #[.int .i64 a] 2)).ownsRow X.heap.size 2 1 (.slice (some ⟨X.heap.size,0,none⟩) 1 1) 1 ([a].map (Value.int .i64))):=World.ownsRow_lit X _ 1 (Nat.le_refl _) (by unfold maxLen;omega) rfl
 go_loopw [5,6] (fun q i wr=> ∃(t:Nat) (S:List Int),t≤S.length∧i= .int .i64 t∧Wk d.vs a S t∧S.length+leftN d.vs S≤n1∧wr.ownsRow X.heap.size 2 1 q S.length (S.map (Value.int .i64))∧Below X.heap.size X wr) (fun _ i _=>n1-(intOf i).toNat)
 case atStart=>
  refine⟨0,[a],by simp,rfl,Wk.start HA.out,?_,by rw [←ZX.out];exact HO0.out,by go_grown⟩
  have h1:=leftN_add (l:= []) HA.out (by simp)
  have h2:=leftN_le d.vs []
  have h3:=E1.out
  simp only [List.nil_append,List.length_singleton]at h1 ⊢
  omega
 case round=>
  obtain⟨t,S,ht,rfl,hwk,hcnt,hown,hbel⟩:=hrel
  have HWK:Hid (Wk d.vs a S t):=hwk
  obtain⟨A5,q5,rfl,_,_⟩:=own_shape hown
  obtain⟨sn,HSN⟩: ∃sn,Hid (S.length=sn):=⟨_,rfl⟩
  obtain⟨sl,HSL⟩: ∃sl,Hid (leftN d.vs S=sl):=⟨_,rfl⟩
  rw [HSN.out]at ht hown hcnt
  rw [HSL.out]at hcnt
  have HO:Hid (wr.ownsRow X.heap.size 2 1 (.slice A5 sn q5) sn (S.map (Value.int .i64))):=hown
  have HB:Hid (Below X.heap.size X wr):=hbel
  have zr:X.heap.size≤wr.heap.size:=hbel.size
  clear hwk hown
  rw [HSN.out]
  by_cases hlt:t<sn
  ·obtain⟨y,hy⟩:=at_lt HSN.out hlt
   have HY:Hid (S[t]? =some y):=hy
   have HYM:Hid (y∈idsL d.vs):=(HWK.out.rc y (List.mem_of_getElem? hy)).mem
   have hIR:IntRow wr A5 S:=by
    have h9:=HO.out
    rw [←HSN.out]at h9
    exact int_of_own h9
   have HIR:Hid (IntRow wr A5 S):=hIR
   obtain⟨b,o,rfl,hl,cs⟩:=int_cell hIR hy
   have q0:(0:Int)≤(t:Int):=by omega
   have q1:(t:Int)<(sn:Int):=by omega
   obtain⟨x,hxm,rfl⟩:=ids_mem HYM.out
   obtain⟨k,hxk⟩:=idx_of hxm
   have HXK:Hid (d.vs[k]? =some x):=hxk
   have hkn:k<n1:=by have:=(List.getElem?_eq_some_iff.1 hxk).1;have:=E1.out;omega
   obtain⟨vb,vo,u,uc,s,sc,rfl,hvl,c0,c1',c2',ru,_⟩:=R1.out.2 k x hxk
   have RU:Hid (IntRow w u x.ups):=ru
   have b0:wr.cell? ⟨w.heap.size,0,none⟩=some (.int .i64 d.next):=cy hbel x0
   have b1:wr.cell? ⟨w.heap.size,1,none⟩=some (.slice (some ⟨vb,vo,none⟩) n1 c1):=cy hbel x1
   have b2:wr.cell? ⟨w.heap.size,2,none⟩=some (.slice A2 n2 c2):=cy hbel x2
   have KR:Hid (Below w.heap.size w wr):=bchain KX.out hbel
   have HDR:Hid (DgRow wr (.agg #[.int .i64 d.next,.slice (some ⟨vb,vo,none⟩) n1 c1,.slice A2 n2 c2]) d):=HD.out.below KR.out
   have hwz:w.heap.size<wr.heap.size:=by omega
   have hvz:vb<wr.heap.size:=by omega
   have k0:(0:Int)≤(k:Int):=by omega
   have k1:(k:Int)<(n1:Int):=by omega
   rw [←KR.out.cell (p:=⟨_,_,none⟩) hvl]at c0 c1' c2'
   obtain⟨un,HUN⟩: ∃un,Hid (x.ups.length=un):=⟨_,rfl⟩
   rw [HUN.out]at c1'
   have hun:un≤2:=by rw [←HUN.out];exact HF.out.two x hxm
   clear hIR hy hbel ru hxk hxm
   go_upto_region 5 with fail
   go_cut [7] (fun p wx=> ∃g:Nat,p= .pointer (some ⟨g,0,none⟩)∧VBox wx X.heap.size g x.id u un uc s x.m sc∧Below wr.heap.size wr wx)
   case first=>
    go_region_held3 (fun w'=>(∀bq oq,bq<wr.heap.size→w'.cell? ⟨bq,oq,none⟩=wr.cell? ⟨bq,oq,none⟩)∧wr.heap.size≤w'.heap.size∧Below wr.heap.size wr w')
     (exact sc_of (Nat.le_refl _) (by go_grown))
     (first
     | (go_at_call 32;refine(spec_l10FindAt _ (HDR.out.below (by go_grown)) HF.out HXK.out).mono ?_;rintro e y1 ⟨rfl,hb⟩;have HBB:Hid (Below _ _ y1):=hb;obtain⟨hk1,hz1⟩:=bframe (B:=wr.heap.size) (X:=wr) (by go_grown) (by go_size) hb;obtain⟨hC,hF,hL,hE⟩:=kp hb;(try simp only [World.size_drew]at hC hF hL hE);(try (refine cutLt (x:=wr.heap.size) ?_ hb.size (fun hq=> ?_);(focus (go_size;done))));clear hb))
    all_goals
     go_wp2_with fail
     go_meet
    ·exact⟨_,rfl,VBox.lit (by omega) _ _ _ _ _ _ _,by go_grown⟩
    ·exact⟨_,rfl,VBox.put (VBox.below (VBox.madeD (W:=wr) zr) HBB.out) _ _ _ _ _ _ _,by go_grown⟩
   case rest=>
    obtain⟨g,rfl,hvb,hbx⟩:=hcut
    have HVB:Hid (VBox wc X.heap.size g x.id u un uc s x.m sc):=hvb
    have HOc:Hid (wc.ownsRow X.heap.size 2 1 (.slice (some ⟨b,o,none⟩) sn q5) sn (S.map (Value.int .i64))):=own_below HO.out hbx
    have HBc:Hid (Below X.heap.size X wc):=HB.out.trans (hbx.mono zr)
    clear hvb hbx c0 c1' c2' b0 b1 b2 HDR KR HIR cs hl hvz hwz HO HB zr
    go_wp2_with fail
    go_loopw [5,8] (fun q i wq=> ∃(k':Nat) (S':List Int),k'≤un∧i= .int .i64 k'∧Wi d.vs a S x k' S'∧S'.length+leftN d.vs S'≤n1∧wq.ownsRow X.heap.size 2 1 q S'.length (S'.map (Value.int .i64))∧VBox wq X.heap.size g x.id u un uc s x.m sc∧Below X.heap.size X wq) (fun _ i _=>un-(intOf i).toNat)
    case atStart=>exact⟨0,S,Nat.zero_le _,rfl,HWK.out.inn,by rw [HSN.out,HSL.out];exact hcnt,by rw [HSN.out];exact HOc.out,HVB.out,HBc.out⟩
    case round=>
     clear HVB HOc HBc
     obtain⟨k',S',hk',rfl,hwi,hcnt',hown',hvb',hbel'⟩:=hrel
     have HWI:Hid (Wi d.vs a S x k' S'):=hwi
     obtain⟨A6,q6,rfl,_,_⟩:=own_shape hown'
     obtain⟨tn,HTN⟩: ∃tn,Hid (S'.length=tn):=⟨_,rfl⟩
     obtain⟨tl,HTL⟩: ∃tl,Hid (leftN d.vs S'=tl):=⟨_,rfl⟩
     rw [HTN.out]at hown' hcnt'
     rw [HTL.out]at hcnt'
     have HO':Hid (wr.ownsRow X.heap.size 2 1 (.slice A6 tn q6) tn (S'.map (Value.int .i64))):=hown'
     have HB':Hid (Below X.heap.size X wr):=hbel'
     have HV':Hid (VBox wr X.heap.size g x.id u un uc s x.m sc):=hvb'
     have HIR':Hid (IntRow wr A6 S'):=int_ownN HTN.out hown'
     have zr':X.heap.size≤wr.heap.size:=hbel'.size
     obtain⟨cg,hgl⟩:=hvb'.ups
     clear hwi hown' hvb'
     rw [HTN.out]
     by_cases hlt':k'<un
     ·obtain⟨z,hz⟩:=at_lt HUN.out hlt'
      have HZ:Hid (x.ups[k']? =some z):=hz
      have HZM:Hid (z∈idsL d.vs):=HF.out.ups x (List.mem_of_getElem? HXK.out) z (List.mem_of_getElem? hz)
      obtain⟨ub,uo,rfl,hul,cu⟩:=int_cell RU.out hz
      rw [←(bchain KX.out hbel').cell (p:=⟨_,_,none⟩) hul]at cu
      have hul2:ub<wr.heap.size:=by have:=(bchain KX.out hbel').size;omega
      have p0:(0:Int)≤(k':Int):=by omega
      have p1:(k':Int)<(un:Int):=by omega
      clear hz hbel'
      by_cases hzs:z∈S'
      ·have hdz:decide (z∈S')=true:=decide_eq_true hzs
       have HZS:Hid (z∈S'):=hzs
       clear hzs
       go_wp2_with fail
       refine(spec_l10Has z _ HIR'.out HTN.out).mono ?_
       rintro e w1 ⟨rfl,hw⟩
       subst w1
       rw [hdz]
       go_wp2_with fail
       go_roundw
       case rel=>exact⟨k'+1,S',by omega,by go_num,HWI.out.old HZ.out HZS.out,by rw [HTN.out,HTL.out];exact hcnt',by rw [HTN.out];exact HO'.out,HV'.out,HB'.out⟩
       case measure=>simp [intOf];omega
      ·have hdz:decide (z∈S')=false:=decide_eq_false hzs
       have HZS:Hid (z∉S'):=hzs
       clear hzs
       have HLA:Hid (leftN d.vs (S'++ [z])+1≤tl):=by rw [←HTL.out];exact leftN_add HZM.out HZS.out
       go_wp2_with fail
       refine(spec_l10Has z _ HIR'.out HTN.out).mono ?_
       rintro e w1 ⟨rfl,hw⟩
       subst w1
       rw [hdz]
       go_wp2_with (first
        | (at_builtin;refine wpList_app_int rfl _ _ rfl X.heap.size _ tn S' rfl HO'.out z rfl (by omega) zr' ?_)
        | go_in)
       intro v' w3 hown3 hg3 hbb
       have HO3:Hid (w3.ownsRow X.heap.size 2 1 v' (S'++ [z]).length ((S'++ [z]).map (Value.int .i64))):=by
        show World.ownsRow _ _ _ _ _ _ _
        rw [List.length_append,HTN.out,List.map_append];exact hown3
       have HB3:Hid (Below X.heap.size X w3):=hbb X HB'.out
       have HV3:Hid (VBox w3 X.heap.size g x.id (some ⟨ub,uo,none⟩) un uc s x.m sc):=World.ownsRow.kept (World.ownsRow.alloc HV'.out _) hg3 (own_neT HV'.out HO'.out (by decide))
       clear hown3 hg3 hbb
       go_wp2_with fail
       go_roundw
       case rel=>exact⟨k'+1,S'++ [z],by omega,by go_num,HWI.out.add (List.mem_of_getElem? HXK.out) (HWI.out.mem (List.mem_of_getElem? HY.out)) HZ.out HZM.out,by have:=HLA.out;rw [List.length_append,HTN.out];simp;omega,HO3.out,HV3.out,HB3.out⟩
       case measure=>simp [intOf];omega
     ·have h1: ¬(k':Int)<(un:Int):=by omega
      obtain rfl:k'=un:=by omega
      have HWO:Hid (Wk d.vs a S' (t+1)):=Wi.out HF.out.asc HWK.out (List.mem_of_getElem? HXK.out) HY.out (by rw [HUN.out];exact HWI.out)
      have HTL2:Hid (sn≤tn):=by rw [←HTN.out,←HSN.out];exact HWI.out.len
      clear hbel'
      go_wp2_with fail
      go_roundw
      case rel=>exact⟨t+1,S',by have:=HTL2.out;rw [HTN.out];omega,by go_num,HWO.out,by rw [HTN.out,HTL.out];exact hcnt',by rw [HTN.out];exact HO'.out,HB'.out⟩
      case measure=>simp [intOf];omega
  ·have h1: ¬(t:Int)<(sn:Int):=by omega
   obtain rfl:t=sn:=by omega
   have HE:Hid (outL S d.vs=ls):=outL_eq (by rw [HSN.out];exact HWK.out) HAB.out
   have HIS:Hid (IntRow wr A5 S):=int_ownN HSN.out HO.out
   have HBW:Hid (Below w.heap.size w wr):=bchain KX.out hbel
   have b1:wr.cell? ⟨w.heap.size,1,none⟩=some (.slice A1 n1 c1):=cy hbel x1
   have hwz:w.heap.size<wr.heap.size:=by omega
   clear hbel HO HWK
   obtain⟨Y,hY⟩: ∃Y,Y=wr:=⟨_,rfl⟩
   subst hY
   go_wp2_with fail
   go_loopw [9,10] (fun q i wq=> ∃(k:Nat) (C:List Int),k≤n1∧i= .int .i64 k∧outL S (d.vs.take k)=C∧wq.ownsRow Y.heap.size 2 1 q C.length (C.map (Value.int .i64))∧Below Y.heap.size Y wq) (fun _ i _=>n1-(intOf i).toNat)
   case atStart=>exact⟨0,[],Nat.zero_le _,rfl,rfl,own_empty (Nat.le_refl _) rfl,by go_grown⟩
   case round=>
    obtain⟨k,C,hk,rfl,hC,hown,hbel⟩:=hrel
    have HC:Hid (outL S (d.vs.take k)=C):=hC
    have hCl:C.length≤n1:=by
     rw [←hC]
     have:=outL_len S (d.vs.take k)
     have h9:(d.vs.take k).length≤k:=by simp;omega
     omega
    obtain⟨cn,HCN⟩: ∃cn,Hid (C.length=cn):=⟨_,rfl⟩
    rw [HCN.out]at hown hCl
    obtain⟨A7,q7,rfl,_,_⟩:=own_shape hown
    have HO:Hid (wr.ownsRow Y.heap.size 2 1 (.slice A7 cn q7) cn (C.map (Value.int .i64))):=hown
    have HBY:Hid (Below Y.heap.size Y wr):=hbel
    have zr':Y.heap.size≤wr.heap.size:=hbel.size
    have d1:wr.cell? ⟨w.heap.size,1,none⟩=some (.slice A1 n1 c1):=cy hbel b1
    clear hC hown
    by_cases hlt':k<n1
    ·obtain⟨x,hx⟩:=at_lt E1.out hlt'
     have HX:Hid (d.vs[k]? =some x):=hx
     obtain⟨vb,vo,u,uc,s,sc,rfl,hvl,c0,_,_,_,_⟩:=R1.out.2 k x hx
     rw [←(bchain HBW.out hbel).cell (p:=⟨_,_,none⟩) hvl]at c0
     have hvz:vb<wr.heap.size:=by have:=(bchain HBW.out hbel).size;omega
     have p0:(0:Int)≤(k:Int):=by omega
     have p1:(k:Int)<(n1:Int):=by omega
     clear hx
     by_cases hin:x.id∈S
     ·have hdz:decide (x.id∈S)=true:=decide_eq_true hin
      have HST:Hid (outL S (d.vs.take (k+1))=C++ [x.id]):=by show _=_;rw [outL_take HX.out,if_pos hin,HC.out]
      clear hin
      go_wp2_with fail
      refine(spec_l10Has x.id _ (HIS.out.below hbel) HSN.out).mono ?_
      rintro e w1 ⟨rfl,hw⟩
      subst w1
      rw [hdz]
      clear hbel
      go_wp2_with (first
       | (at_builtin;refine wpList_app_int rfl _ _ rfl Y.heap.size _ cn C rfl HO.out x.id rfl (by omega) zr' ?_)
       | go_in)
      intro v' w3 hown3 hg3 hbb
      have HO3:Hid (w3.ownsRow Y.heap.size 2 1 v' (C++ [x.id]).length ((C++ [x.id]).map (Value.int .i64))):=by
       show World.ownsRow _ _ _ _ _ _ _
       rw [List.length_append,HCN.out,List.map_append];exact hown3
      have HB3:Hid (Below Y.heap.size Y w3):=hbb Y HBY.out
      clear hown3 hg3 hbb
      go_wp2_with fail
      go_roundw
      case rel=>exact⟨k+1,C++ [x.id],by omega,by go_num,HST.out,HO3.out,HB3.out⟩
      case measure=>simp [intOf];omega
     ·have hdz:decide (x.id∈S)=false:=decide_eq_false hin
      have HST:Hid (outL S (d.vs.take (k+1))=C):=by show _=_;rw [outL_take HX.out,if_neg hin,HC.out,List.append_nil]
      clear hin
      go_wp2_with fail
      refine(spec_l10Has x.id _ (HIS.out.below hbel) HSN.out).mono ?_
      rintro e w1 ⟨rfl,hw⟩
      subst w1
      rw [hdz]
      clear hbel
      go_wp2_with fail
      go_roundw
      case rel=>exact⟨k+1,C,by omega,by go_num,HST.out,by rw [HCN.out];exact HO.out,HBY.out⟩
      case measure=>simp [intOf];omega
    ·have h2: ¬(k:Int)<(n1:Int):=by omega
     obtain rfl:k=n1:=by omega
     have HCE:Hid (C=ls):=by
      show _=_
      rw [←HE.out,←HC.out,←E1.out,List.take_length]
     clear hbel
     go_wp2_with fail
     go_ret
     refine⟨_,rfl,?_,bchain HBW.out HBY.out⟩
     rw [←HCE.out,HCN.out]
     exact own_mono HO.out (by omega)
theorem ids_pw {L:List VR} (h:ascR ltV L=true):(idsL L).Pairwise (· < ·):=by
 rw [List.pairwise_iff_getElem]
 intro i j hi hj hij
 have hi':i<L.length:=by simpa [idsL]using hi
 have hj':j<L.length:=by simpa [idsL]using hj
 simp only [idsL,List.getElem_map]
 exact asc_pair h i j _ _ hij (List.getElem?_eq_getElem hi') (List.getElem?_eq_getElem hj')
theorem IsAb.pw {L:List VR} {a:Int} {ls:List Int} (h:ascR ltV L=true) (hl:IsAb L a ls):ls.Pairwise (· < ·):=by
 obtain⟨S,_,rfl⟩:=hl
 unfold outL
 exact(ids_pw h).filter _
theorem pw_lt {l:List Int} (h:l.Pairwise (· < ·)) {i j:Nat} {x y:Int} (hij:i<j) (hx:l[i]? =some x) (hy:l[j]? =some y):x<y:=by
 obtain⟨h1,rfl⟩:=List.getElem?_eq_some_iff.1 hx
 obtain⟨h2,rfl⟩:=List.getElem?_eq_some_iff.1 hy
 exact(List.pairwise_iff_getElem.1 h) i j h1 h2 hij
def Bst (l1 l2:List Int) (k:Nat) (g:Int):Prop:=(g=0∧ ∀(j:Nat) y,j<k→l1[j]? =some y→y∉l2)∨(g∈l1∧g∈l2∧ ∀(j:Nat) y,j<k→l1[j]? =some y→y∈l2→y≤g)
theorem Bst.no {l1 l2:List Int} {k:Nat} {g y:Int} (h:Bst l1 l2 k g) (hy:l1[k]? =some y) (hn:y∉l2):Bst l1 l2 (k+1) g:=by
 rcases h with⟨rfl,h⟩ | ⟨h1,h2,h3⟩
 ·refine Or.inl ⟨rfl,fun j z hj hz=> ?_⟩
  by_cases e:j=k
  ·subst e;rw [hy]at hz;cases hz;exact hn
  ·exact h j z (by omega) hz
 ·refine Or.inr ⟨h1,h2,fun j z hj hz hm=> ?_⟩
  by_cases e:j=k
  ·subst e;rw [hy]at hz;cases hz;exact absurd hm hn
  ·exact h3 j z (by omega) hz hm
theorem Bst.yes {l1 l2:List Int} {k:Nat} {g y:Int} (hp:l1.Pairwise (· < ·)) (hy:l1[k]? =some y) (hm:y∈l2):Bst l1 l2 (k+1) y:=
 Or.inr ⟨List.mem_of_getElem? hy,hm,fun j z hj hz _=>by
  by_cases e:j=k
  ·subst e;rw [hy]at hz;cases hz;exact Int.le_refl _
  ·exact Int.le_of_lt (pw_lt hp (by omega) hz hy)⟩
theorem Bst.lca {L:List VR} {a b g:Int} {l1 l2:List Int} (h1:IsAb L a l1) (h2:IsAb L b l2) (h:Bst l1 l2 l1.length g):IsL L a b g:=by
 rcases h with⟨rfl,h⟩ | ⟨k1,k2,h3⟩
 ·refine Or.inl ⟨rfl,fun y hy hb=> ?_⟩
  obtain⟨j,hj,e⟩:=List.mem_iff_getElem.1 (h1.mem.2 hy)
  exact h j y hj (by rw [List.getElem?_eq_getElem hj,e]) (h2.mem.2 hb)
 ·refine Or.inr ⟨h1.mem.1 k1,h2.mem.1 k2,fun y hy hb=> ?_⟩
  obtain⟨j,hj,e⟩:=List.mem_iff_getElem.1 (h1.mem.2 hy)
  exact h3 j y hj (by rw [List.getElem?_eq_getElem hj,e]) (h2.mem.2 hb)
theorem Bst.ex {l1 l2:List Int} (hp:l1.Pairwise (· < ·)): ∀k:Nat,k≤l1.length→ ∃g,Bst l1 l2 k g
 | 0,_=>⟨0,Or.inl ⟨rfl,fun j y hj=>by omega⟩⟩
 | k+1,hk=>by
  obtain⟨g,hg⟩:=Bst.ex hp k (by omega)
  have hy:=List.getElem?_eq_getElem (show k<l1.length by omega)
  by_cases hm:l1[k]'(by omega)∈l2
  ·exact⟨_,Bst.yes (g:=g) hp hy hm⟩
  ·exact⟨g,hg.no hy hm⟩
theorem lca_ex (d:DG) (a b:Int): ∃g,LcaI d a b g:=by
 cases hd:dagB d with
 | false=>exact⟨0,And.intro (fun h=>absurd (hd.symm.trans h) (by decide)) (fun _=>rfl)⟩
 | true=>
  obtain⟨l1,h1⟩:=ab_ex d.vs a
  obtain⟨l2,h2⟩:=ab_ex d.vs b
  obtain⟨g,hg⟩:=Bst.ex (l2:=l2) (IsAb.pw (dag_facts hd).asc h1) l1.length (Nat.le_refl _)
  exact⟨g,And.intro (fun _=>Bst.lca h1 h2 hg) (fun h=>absurd (hd.symm.trans h) (by decide))⟩
theorem spec_l10Lca {v:Value} {d:DG} {gg:Int} (a b:Int) (w:World) (h:DgRow w v d) (hf:DgFacts d) (ha:a∈idsL d.vs) (hb:b∈idsL d.vs) (hgg:IsL d.vs a b gg):
  Calls Tryz.prog 52 #[v,.int .i64 a,.int .i64 b] w fun e w'=>e= .returned (.int .i64 gg)∧Below w.heap.size w w':=by
 obtain⟨A1,n1,c1,A2,n2,c2,rfl⟩:=h.agg
 have HD:Hid (DgRow w (.agg #[.int .i64 d.next,.slice A1 n1 c1,.slice A2 n2 c2]) d):=h
 have HF:Hid (DgFacts d):=hf
 have HA:Hid (a∈idsL d.vs):=ha
 have HB:Hid (b∈idsL d.vs):=hb
 have HGG:Hid (IsL d.vs a b gg):=hgg
 obtain⟨la,hla⟩:=ab_ex d.vs a
 obtain⟨lb,hlb⟩:=ab_ex d.vs b
 have HLA:Hid (IsAb d.vs a la):=hla
 have HLB:Hid (IsAb d.vs b lb):=hlb
 clear h hf ha hb hgg hla hlb
 go_enter Tryz.func52,Tryz.ntmps52
 go_wp2_with fail
 obtain⟨X,HX⟩: ∃X,Hid (w.alloc (.cells #[.int .i64 d.next,.slice A1 n1 c1,.slice A2 n2 c2] 31)=X):=⟨_,rfl⟩
 rw [HX.out]
 have x0:X.cell? ⟨w.heap.size,0,none⟩=some (.int .i64 d.next):=by rw [←HX.out];go_simp
 have x1:X.cell? ⟨w.heap.size,1,none⟩=some (.slice A1 n1 c1):=by rw [←HX.out];go_simp
 have x2:X.cell? ⟨w.heap.size,2,none⟩=some (.slice A2 n2 c2):=by rw [←HX.out];go_simp
 have KX:Hid (Below w.heap.size w X):=by rw [←HX.out];show Below _ _ _;go_grown
 clear HX
 refine(spec_l10Above a _ (HD.out.below KX.out) HF.out HA.out HLA.out).mono ?_
 rintro e u1 ⟨r1,rfl,ho,hb⟩
 obtain⟨m1,HM1⟩: ∃m1,Hid (la.length=m1):=⟨_,rfl⟩
 have hm1:m1≤40:=by have h1:=HLA.out.len;have h2:=HF.out.nv;have h3:=HM1.out;omega
 rw [HM1.out]at ho
 obtain⟨A3,q3,rfl,_,_⟩:=own_shape ho
 have O1:Hid (IntRow u1 A3 la):=int_ownN HM1.out ho
 replace x0:=cy hb x0
 replace x1:=cy hb x1
 replace x2:=cy hb x2
 replace KX:Hid (Below w.heap.size w u1):=bchain KX.out hb
 clear ho hb
 go_wp2_with fail
 refine(spec_l10Above b _ (HD.out.below KX.out) HF.out HB.out HLB.out).mono ?_
 rintro e u2 ⟨r2,rfl,ho,hb⟩
 obtain⟨m2,HM2⟩: ∃m2,Hid (lb.length=m2):=⟨_,rfl⟩
 rw [HM2.out]at ho
 obtain⟨A4,q4,rfl,_,_⟩:=own_shape ho
 have O2:Hid (IntRow u2 A4 lb):=int_ownN HM2.out ho
 replace O1:Hid (IntRow u2 A3 la):=O1.out.below hb
 replace KX:Hid (Below w.heap.size w u2):=bchain KX.out hb
 clear ho hb x0 x1 x2
 go_wp2_with fail
 go_loopw [9,10] (fun q i wr=> ∃(k:Nat) (g:Int),k≤m1∧i= .int .i64 k∧q= .int .i64 g∧Bst la lb k g∧wr=u2) (fun _ i _=>m1-(intOf i).toNat)
 case atStart=>exact⟨0,0,Nat.zero_le _,rfl,rfl,Or.inl ⟨rfl,fun j y hj=>by omega⟩,rfl⟩
 case round=>
  obtain⟨k,g,hk,rfl,rfl,hbs,hw⟩:=hrel
  have HBS:Hid (Bst la lb k g):=hbs
  subst hw
  clear hbs
  by_cases hlt:k<m1
  ·obtain⟨y,hy⟩:=at_lt HM1.out hlt
   have HY:Hid (la[k]? =some y):=hy
   obtain⟨cb,co,rfl,hl,c0⟩:=int_cell O1.out hy
   have q0:(0:Int)≤(k:Int):=by omega
   have q1:(k:Int)<(m1:Int):=by omega
   clear hy
   by_cases hin:y∈lb
   ·have hdz:decide (y∈lb)=true:=decide_eq_true hin
    have HN:Hid (Bst la lb (k+1) y):=Bst.yes (g:=g) (IsAb.pw HF.out.asc HLA.out) HY.out hin
    clear hin
    go_wp2_with fail
    refine(spec_l10Has y _ O2.out HM2.out).mono ?_
    rintro e w1 ⟨rfl,hw⟩
    subst w1
    rw [hdz]
    go_wp2_with fail
    go_roundw
    case rel=>exact⟨k+1,y,by omega,by go_num,rfl,HN.out,by trivial⟩
    case measure=>simp [intOf];omega
   ·have hdz:decide (y∈lb)=false:=decide_eq_false hin
    have HN:Hid (Bst la lb (k+1) g):=HBS.out.no HY.out hin
    clear hin
    go_wp2_with fail
    refine(spec_l10Has y _ O2.out HM2.out).mono ?_
    rintro e w1 ⟨rfl,hw⟩
    subst w1
    rw [hdz]
    go_wp2_with fail
    go_roundw
    case rel=>exact⟨k+1,g,by omega,by go_num,rfl,HN.out,by trivial⟩
    case measure=>simp [intOf];omega
  ·have h1: ¬(k:Int)<(m1:Int):=by omega
   obtain rfl:k=m1:=by omega
   go_wp2_with fail
   go_ret
   exact⟨ret_int (HGG.out.one (Bst.lca HLA.out HLB.out (by rw [HM1.out];exact HBS.out))).symm,KX.out⟩
theorem spec_Lca {v:Value} {d:DG} {gg:Int} (a b:Int) (w:World) (h:DgRow w v d) (hk:DgOk d) (hgg:LcaI d a b gg):
  Calls Tryz.prog 26 #[v,.int .i64 a,.int .i64 b] w fun e w'=>e= .returned (.int .i64 gg)∧Below w.heap.size w w':=by
 obtain⟨A1,n1,c1,A2,n2,c2,rfl⟩:=h.agg
 have HR:Hid (DgRow w (.agg #[.int .i64 d.next,.slice A1 n1 c1,.slice A2 n2 c2]) d):=h
 have HK:Hid (DgOk d):=hk
 have HGG:Hid (LcaI d a b gg):=hgg
 obtain⟨f,HFF⟩: ∃f:Bool,Hid (f=dagB d):=⟨_,rfl⟩
 clear h hk hgg
 go_enter Tryz.func26,Tryz.ntmps26
 go_wp2_with fail
 obtain⟨X,HX⟩: ∃X,Hid (w.alloc (.cells #[.int .i64 d.next,.slice A1 n1 c1,.slice A2 n2 c2] 31)=X):=⟨_,rfl⟩
 rw [HX.out]
 have c_0:X.cell? ⟨w.heap.size,0,none⟩=some (.int .i64 d.next):=by rw [←HX.out];go_simp
 have c_1:X.cell? ⟨w.heap.size,1,none⟩=some (.slice A1 n1 c1):=by rw [←HX.out];go_simp
 have c_2:X.cell? ⟨w.heap.size,2,none⟩=some (.slice A2 n2 c2):=by rw [←HX.out];go_simp
 have zX:w.heap.size<X.heap.size:=by rw [←HX.out];simp
 have KX:Hid (Below w.heap.size w X):=by rw [←HX.out];show Below _ _ _;go_grown
 clear HX
 refine(spec_DagOk _ (HR.out.below KX.out) HK.out).mono ?_
 rintro e u1 ⟨rfl,hb⟩
 rw [←HFF.out]
 replace c_0:=cy hb c_0
 replace c_1:=cy hb c_1
 replace c_2:=cy hb c_2
 replace zX:w.heap.size<u1.heap.size:=Nat.lt_of_lt_of_le zX hb.size
 replace KX:Hid (Below w.heap.size w u1):=bchain KX.out hb
 clear hb
 cases f
 ·go_wp2_with fail
  go_ret
  exact⟨ret_int (HGG.out.2 HFF.out.symm).symm,KX.out⟩
 have HF:Hid (DgFacts d):=dag_facts HFF.out.symm
 have HV:Hid (IsL d.vs a b gg):=HGG.out.1 HFF.out.symm
 go_wp2_with fail
 refine(spec_l10FindX a _ (HR.out.below KX.out)).mono ?_
 rintro e u2 ⟨r,rfl,hr,hb⟩
 have HRA:Hid (FindI d.vs a r):=hr
 replace c_0:=cy hb c_0
 replace c_1:=cy hb c_1
 replace c_2:=cy hb c_2
 replace zX:w.heap.size<u2.heap.size:=Nat.lt_of_lt_of_le zX hb.size
 replace KX:Hid (Below w.heap.size w u2):=bchain KX.out hb
 clear hb hr
 by_cases hneg:r<0
 ·go_wp2_with fail
  go_ret
  exact⟨ret_int (HV.out.one (IsL.no (Or.inl (HRA.out.neg hneg)))).symm,KX.out⟩
 have HA:Hid (a∈idsL d.vs):=HRA.out.pos hneg
 go_wp2_with fail
 refine(spec_l10FindX b _ (HR.out.below KX.out)).mono ?_
 rintro e u3 ⟨r2,rfl,hr,hb⟩
 have HRB:Hid (FindI d.vs b r2):=hr
 replace c_0:=cy hb c_0
 replace c_1:=cy hb c_1
 replace c_2:=cy hb c_2
 replace zX:w.heap.size<u3.heap.size:=Nat.lt_of_lt_of_le zX hb.size
 replace KX:Hid (Below w.heap.size w u3):=bchain KX.out hb
 clear hb hr
 by_cases hneg2:r2<0
 ·go_wp2_with fail
  go_ret
  exact⟨ret_int (HV.out.one (IsL.no (Or.inr (HRB.out.neg hneg2)))).symm,KX.out⟩
 have HB:Hid (b∈idsL d.vs):=HRB.out.pos hneg2
 go_wp2_with fail
 refine(spec_l10Lca a b _ (HR.out.below KX.out) HF.out HA.out HB.out HV.out).mono ?_
 rintro e u4 ⟨rfl,hb⟩
 have K4:Hid (Below w.heap.size w u4):=bchain KX.out hb
 clear hb
 go_wp2_with fail
 go_ret
 exact⟨rfl,K4.out⟩
def VrAg (w0:World) (x:VR) (v:Value):Prop:= ∃u uc s sc,v= .agg #[.int .i64 x.id,.slice u x.ups.length uc,.slice s x.m sc]∧IntRow w0 u x.ups∧ClRow w0 s x.m x.C x.R x.S
def VMapW (L:List VR) (w0 w:World) (b n:Nat) (l:List Int):Prop:= ∃D,w.ownsMap Tryz.prog 2 vmE b n D∧IsMap D∧(∀d,(Lit.int .i64 d).wf=true→Maps.has D (.int .i64 d)=decide (d∈l))∧
 ∀x∈L,x.id∈l→ ∃v,D.atKey (.int .i64 x.id) (.held (.agg #[.int .i64 0,.slice none 0 0,.slice none 0 0]))= .held v∧VrAg w0 x v
theorem VMapW.map {L:List VR} {w0 w:World} {b n:Nat} {l:List Int} (h:VMapW L w0 w b n l):VMap w b n l:=by
 obtain⟨D,h1,h2,h3,_⟩:=h
 exact⟨D,h1,h2,h3⟩
theorem VMapW.kept {L:List VR} {w0 w w':World} {b n:Nat} {l:List Int} {row:Option Nat} (h:VMapW L w0 w b n l) (hg:w.grownBy w' row) (hr:some b≠row):VMapW L w0 w' b n l:=by
 obtain⟨D,h1,h2,h3,h4⟩:=h
 exact⟨D,h1.kept hg hr,h2,h3,h4⟩
theorem VMapW.below {L:List VR} {w0 w w':World} {b n:Nat} {l:List Int} (h:VMapW L w0 w b n l) (hb:Below w.heap.size w w'):VMapW L w0 w' b n l:=h.kept (row:=none) (grown_below none hb) (by simp)
theorem VrAg.below {w0 w1:World} {x:VR} {v:Value} (h:VrAg w0 x v) (hb:Below w0.heap.size w0 w1):VrAg w1 x v:=by
 obtain⟨u,uc,s,sc,e,h1,h2⟩:=h
 exact⟨u,uc,s,sc,e,h1.below hb,h2.below hb⟩
theorem VMapW.base {L:List VR} {w0 w1 w:World} {b n:Nat} {l:List Int} (h:VMapW L w0 w b n l) (hb:Below w0.heap.size w0 w1):VMapW L w1 w b n l:=by
 obtain⟨D,h1,h2,h3,h4⟩:=h
 refine⟨D,h1,h2,h3,fun x hx hl=> ?_⟩
 obtain⟨v,e,hv⟩:=h4 x hx hl
 exact⟨v,e,hv.below hb⟩
theorem VMapW.put {L:List VR} {w0 w':World} {b n:Nat} {l:List Int} {D:DataW Value} {x:VR} {v:Value} (ha:ascR ltV L=true) (hx:x∈L) (hD:IsMap D) (hd:(Lit.int .i64 x.id).wf=true) (h: ∀e,(Lit.int .i64 e).wf=true→Maps.has D (.int .i64 e)=decide (e∈l))
  (h4: ∀y∈L,y.id∈l→ ∃v,D.atKey (.int .i64 y.id) (.held (.agg #[.int .i64 0,.slice none 0 0,.slice none 0 0]))= .held v∧VrAg w0 y v) (hv:VrAg w0 x v)
  (ho:w'.ownsMap Tryz.prog 2 vmE b n (D.put (.int .i64 x.id) (.held v))):VMapW L w0 w' b n (l++ [x.id]):=by
 refine⟨_,ho,?_,has_step _ hD hd h,fun y hy hl=> ?_⟩
 ·obtain⟨es,rfl⟩:=hD
  exact⟨_,rfl⟩
 ·by_cases e:y.id=x.id
  ·have:=asc_one ha hy hx e
   subst this
   exact⟨v,by rw [atKey_put_same hD (isKey _ hd)],hv⟩
  ·obtain⟨v',e1,hv'⟩:=h4 y hy (by
    rcases List.mem_append.1 hl with h9 | h9
    ·exact h9
    ·exact absurd (List.mem_singleton.1 h9) e)
   exact⟨v',by rw [atKey_put_other (by intro h9;injection h9 with h8 h7;exact e (by first | exact h7 | exact h7.symm)),e1],hv'⟩
theorem VMapW.look {L:List VR} {w0 w:World} {b n:Nat} {l:List Int} (h:VMapW L w0 w b n l) {x:VR} (hx:x∈L) (hl:x.id∈l) (hd:(Lit.int .i64 x.id).wf=true):
  ∃v,VrAg w0 x v∧ ∀w',Below w.heap.size w w'∨(∃fb,w.grownBy w' (some fb)∧b≠fb)→(Instr.lookup 69 (.map (some b)) (.int .i64 x.id) false).run Tryz.prog w'= .ok v w':=by
 obtain⟨D,h1,h2,h3,h4⟩:=h
 obtain⟨v,e,hv⟩:=h4 x hx hl
 refine⟨v,hv,fun w' hw=> ?_⟩
 have ho:w'.ownsMap Tryz.prog 2 vmE b n D:=by
  rcases hw with hw | ⟨fb,hw,hne⟩
  ·exact h1.kept (grown_below none hw) (by simp)
  ·exact h1.kept hw (by intro e;cases e;exact hne rfl)
 obtain⟨u,ps,hr,hu⟩:=ho.lookup keyedI Tryz.underlying69 (zeroVr w') (vmE_mk _ _ _ _ _ _ _) (keyI hd)
 rw [e]at hu
 obtain⟨d0,u0,n0,c0,s0,m0,k0,rfl,e2⟩:=vmE_inv hu
 simp only [Prod.mk.injEq,DataW.held.injEq]at e2
 rw [hr,←e2.1]
theorem impl_versionMapOfW {A:Option Addr} {n cap:Nat} {L:List VR} (w:World) (h:VrRow w A L) (hL:L.length=n) (hw: ∀x∈L,(Lit.int .i64 x.id).wf=true) (ha:ascR ltV L=true) (hn:n≤1048576):
  Calls Tryz.prog 41 #[.slice A n cap] w fun e w'=>e= .returned (.map (some w.heap.size))∧VMapW L w w' w.heap.size n (idsL L)∧Below w.heap.size w w':=by
 have HR:Hid (VrRow w A L):=h
 have HL:Hid (L.length=n):=hL
 have HW:Hid (∀x∈L,(Lit.int .i64 x.id).wf=true):=hw
 have HAS:Hid (ascR ltV L=true):=ha
 clear h hL hw ha
 have hmm:= @run_makeMap Tryz.prog
 go_enter Tryz.func41,Tryz.ntmps41
 go_wp2_with fail
 go_loopw [9] (fun i wr=> ∃k:Nat,k≤n∧i= .int .i64 k∧VMapW L w wr w.heap.size k (idsL (L.take k))∧Below w.heap.size w wr) (fun i _=>n-(intOf i).toNat)
 case atStart=>exact⟨0,Nat.zero_le _,rfl,⟨_,World.ownsMap_made _ _ _ _,⟨_,rfl⟩,fun d _=>by simp [idsL];rfl,fun x _ hl=>by simp [idsL]at hl⟩,by go_grown⟩
 case round=>
  obtain⟨k,hk,rfl,hv,hbel⟩:=hrel
  by_cases hlt:k<n
  ·obtain⟨D,ho,hD,hh,hvs⟩:=hv
   have HO:Hid (wr.ownsMap Tryz.prog 2 vmE w.heap.size k D):=ho
   have HD:Hid (IsMap D):=hD
   have HH:Hid (∀d,(Lit.int .i64 d).wf=true→Maps.has D (.int .i64 d)=decide (d∈idsL (L.take k))):=hh
   have HVS:Hid (∀y∈L,y.id∈idsL (L.take k)→ ∃v,D.atKey (.int .i64 y.id) (.held (.agg #[.int .i64 0,.slice none 0 0,.slice none 0 0]))= .held v∧VrAg w y v):=hvs
   obtain⟨x,hx⟩:=at_lt HL.out hlt
   have HX:Hid (L[k]? =some x):=hx
   have HXM:Hid (x∈L):=List.mem_of_getElem? hx
   have HXW:Hid ((Lit.int .i64 x.id).wf=true):=HW.out x (List.mem_of_getElem? hx)
   obtain⟨b,o,u,uc,s,sc,rfl,hl,c0,c1,c2,ru,rs⟩:=HR.out.2 k x hx
   have HAG:Hid (VrAg w x (.agg #[.int .i64 x.id,.slice u x.ups.length uc,.slice s x.m sc])):=⟨u,uc,s,sc,rfl,ru,rs⟩
   clear ho hD hh hx hvs ru rs
   have hs:=hbel.size
   rw [←hbel.cell (p:=⟨_,_,none⟩) hl]at c0 c1 c2
   have hl2:b<wr.heap.size:=Nat.lt_of_lt_of_le hl hs
   have h0:(0:Int)≤(k:Int):=by omega
   have h1:(k:Int)<(n:Int):=by omega
   go_wp2_with (first
    | (at_mapUpdate;refine wpList_mapUpdate_own _ rfl _ _ _ 69 rfl 2 54 keyedI Tryz.underlying69 vmE w.heap.size k _ rfl (HO.out.alloc _) (by unfold maxLen;omega) _ _ (.int .i64 x.id) rfl rfl (keyI HXW.out) _ [] (vmE_mk _ _ _ _ _ _ _) ?_;intro w1 hown1 hgrow1)
    | go_in)
   have R2:Below w.heap.size w w1:=Below.grown (hbel.alloc hs _) hgrow1 (by simp;omega) (fun j hj=>by cases hj;exact Nat.le_refl _)
   have HV1:Hid (VMapW L w w1 w.heap.size (k+1) (idsL (L.take (k+1)))):=by rw [ids_take HX.out];exact VMapW.put (w':=w1) HAS.out HXM.out HD.out HXW.out HH.out HVS.out HAG.out hown1
   go_roundw
   case rel=>exact⟨k+1,by omega,by go_num,HV1.out,R2⟩
   case measure=>simp [intOf];omega
  ·have h1: ¬(k:Int)<(n:Int):=by omega
   obtain rfl:k=n:=by omega
   have HV:Hid (VMapW L w wr w.heap.size k (idsL L)):=by rw [←HL.out,List.take_length]at hv;rw [←HL.out];exact hv
   clear hv
   go_wp2_with fail
   go_ret
   exact⟨rfl,HV.out,hbel⟩
theorem vr_ups (i:Int) (u s:Option Addr) (n c m k:Nat) (w:World):(Instr.field 54 (.agg #[.int .i64 i,.slice u n c,.slice s m k]) 1).run Tryz.prog w= .ok (.slice u n c) w:=by kernel_rfl
structure FndI (W0:World) (bv bf bn mb fb:Nat) (w:World):Prop where
 cv:w.cell? ⟨bv,0,none⟩=some (.map (some mb))
 cf:w.cell? ⟨bf,0,none⟩=some (.map (some fb))
 cn:w.cell? ⟨bn,0,none⟩=some (.func (.func 73) #[] #[.pointer (some ⟨bv,0,none⟩),.pointer (some ⟨bf,0,none⟩),.pointer (some ⟨bn,0,none⟩)])
 bl:Below W0.heap.size W0 w
theorem FndI.below {W0:World} {bv bf bn mb fb:Nat} {w w':World} (h:FndI W0 bv bf bn mb fb w) (hb:Below w.heap.size w w'):FndI W0 bv bf bn mb fb w':=
 ⟨cy hb h.cv,cy hb h.cf,cy hb h.cn,h.bl.trans (hb.mono h.bl.size)⟩
theorem cyg {W w':World} {b o fb:Nat} {x:Value} (hg:W.grownBy w' (some fb)) (hne:b≠fb) (c:W.cell? ⟨b,o,none⟩=some x):w'.cell? ⟨b,o,none⟩=some x:=
 (World.cell?_of_block (hg.block b (World.block_lt_of_cell? W ⟨b,o,none⟩ c) (fun e=>hne (Option.some.inj e)))).trans c
theorem FndI.grown {W0:World} {bv bf bn mb fb:Nat} {w w':World} (h:FndI W0 bv bf bn mb fb w) (hg:w.grownBy w' (some fb)) (hv:bv≠fb) (hf:bf≠fb) (hn:bn≠fb) (h0:W0.heap.size≤fb):FndI W0 bv bf bn mb fb w':=
 ⟨cyg hg hv h.cv,cyg hg hf h.cf,cyg hg hn h.cn,h.bl.grown hg h.bl.size (fun j hj=>by cases hj;exact h0)⟩
def FndP (L:List VR) (W0:World) (bv bf bn mb fb:Nat) (l xs:List Int) (w':World):Prop:= ∃z' l',FndI W0 bv bf bn mb fb w'∧VMapW L W0 w' fb z' l'∧leftN L l'≤leftN L l∧z'+leftN L l'≤1000∧Fd L l xs l'
def FindC (L:List VR) (W0:World) (bv bf bn mb fb m:Nat):Prop:=
 ∀(w:World) (u:Option Addr) (xs:List Int) (n c:Nat) (l:List Int) (z:Nat),xs.length=n→IntRow W0 u xs→(∀x∈xs,(Lit.int .i64 x).wf=true)→FndI W0 bv bf bn mb fb w→VMapW L W0 w fb z l→leftN L l≤m→z+leftN L l≤1000→
  Calls Tryz.prog 73 #[.slice u n c,.pointer (some ⟨bv,0,none⟩),.pointer (some ⟨bf,0,none⟩),.pointer (some ⟨bn,0,none⟩)] w fun e w'=>
   e= .returned (.tuple #[])∧FndP L W0 bv bf bn mb fb l xs w'
theorem take_succ_at {xs:List Int} {k:Nat} {x:Int} (hx:xs[k]? =some x):xs.take (k+1)=xs.take k++ [x]:=by rw [List.take_add_one,hx];rfl
theorem find_step {L:List VR} {W0:World} {bv bf bn mb fb m mn:Nat} (ha:ascR ltV L=true) (hwf: ∀x∈L,(Lit.int .i64 x.id).wf=true) (hup: ∀x∈L,∀u∈x.ups,(Lit.int .i64 u).wf=true)
  (hM:VMapW L W0 W0 mb mn (idsL L)) (hv:bv≠fb) (hf:bf≠fb) (hn:bn≠fb) (h0:W0.heap.size≤fb) (hm0:mb<W0.heap.size) (ih: ∀m',m'<m→FindC L W0 bv bf bn mb fb m'):FindC L W0 bv bf bn mb fb m:=by
 intro w u xs n c l z hL hR hw hI hF hm hz
 have HAS:Hid (ascR ltV L=true):=ha
 have HWF:Hid (∀x∈L,(Lit.int .i64 x.id).wf=true):=hwf
 have HUP:Hid (∀x∈L,∀u∈x.ups,(Lit.int .i64 u).wf=true):=hup
 have HM:Hid (VMapW L W0 W0 mb mn (idsL L)):=hM
 have HNE:Hid (bv≠fb∧bf≠fb∧bn≠fb∧W0.heap.size≤fb∧mb<W0.heap.size):=⟨hv,hf,hn,h0,hm0⟩
 have IH:Hid (∀m',m'<m→FindC L W0 bv bf bn mb fb m'):=ih
 have HL:Hid (xs.length=n):=hL
 have HR:Hid (IntRow W0 u xs):=hR
 have HW:Hid (∀x∈xs,(Lit.int .i64 x).wf=true):=hw
 have HI:Hid (FndI W0 bv bf bn mb fb w):=hI
 have HF:Hid (VMapW L W0 w fb z l):=hF
 have HMZ:Hid (leftN L l≤m∧z+leftN L l≤1000):=⟨hm,hz⟩
 have hn9:=hR.1
 rw [hL]at hn9
 unfold maxLen at hn9
 clear ha hwf hup hM hv hf hn h0 hm0 ih hL hR hw hI hF hm hz
 go_enter Tryz.func73,Tryz.ntmps73
 go_wp2_with fail
 go_loopw [9] (fun i wr=> ∃(k:Nat) (z1:Nat) (l1:List Int),k≤n∧i= .int .i64 k∧FndI W0 bv bf bn mb fb wr∧VMapW L W0 wr fb z1 l1∧leftN L l1≤leftN L l∧z1+leftN L l1≤1000∧Fd L l (xs.take k) l1) (fun i _=>n-(intOf i).toNat)
 case atStart=>exact⟨0,z,l,Nat.zero_le _,rfl,HI.out,HF.out,Nat.le_refl _,HMZ.out.2,Fd.nil _ _⟩
 case round=>
  obtain⟨k,z1,l1,hk,rfl,hI1,hF1,hle,hz1,hfd⟩:=hrel
  have I1:Hid (FndI W0 bv bf bn mb fb wr):=hI1
  have F1:Hid (VMapW L W0 wr fb z1 l1):=hF1
  have LZ:Hid (leftN L l1≤leftN L l∧z1+leftN L l1≤1000):=⟨hle,hz1⟩
  have FD:Hid (Fd L l (xs.take k) l1):=hfd
  by_cases hlt:k<n
  ·obtain⟨x,hx⟩:=at_lt HL.out hlt
   have HX:Hid (xs[k]? =some x):=hx
   have HXW:Hid ((Lit.int .i64 x).wf=true):=HW.out x (List.mem_of_getElem? hx)
   obtain⟨b,o,rfl,hl,cs⟩:=int_cell HR.out hx
   have hb0:=hI1.bl
   rw [←hb0.cell (p:=⟨_,_,none⟩) hl]at cs
   have hl2:b<wr.heap.size:=Nat.lt_of_lt_of_le hl hb0.size
   have q0:(0:Int)≤(k:Int):=by omega
   have q1:(k:Int)<(n:Int):=by omega
   have cv:=hI1.cv
   clear hx hI1 hF1 hle hz1 hfd hb0
   by_cases hin:x∈idsL L
   ·have HIN:Hid (x∈idsL L):=hin
    have hdi:decide (x∈idsL L)=true:=decide_eq_true hin
    clear hin
    by_cases hfo:x∈l1
    ·have hdf:decide (x∈l1)=true:=decide_eq_true hfo
     have HFO:Hid (x∈l1):=hfo
     clear hfo
     go_wp2_with fail
     refine(impl_vmHas x _ (HM.out.map.below I1.out.bl) HXW.out).mono ?_
     rintro e w1 ⟨rfl,hb⟩
     rw [hdi]
     have I2:Hid (FndI W0 bv bf bn mb fb w1):=I1.out.below hb
     have F2:Hid (VMapW L W0 w1 fb z1 l1):=F1.out.below hb
     have cf:=I2.out.cf
     clear hb
     go_wp2_with fail
     refine(impl_vmHas x _ F2.out.map HXW.out).mono ?_
     rintro e w2 ⟨rfl,hb⟩
     rw [hdf]
     have I3:Hid (FndI W0 bv bf bn mb fb w2):=I2.out.below hb
     have F3:Hid (VMapW L W0 w2 fb z1 l1):=F2.out.below hb
     clear hb
     go_wp2_with fail
     go_roundw
     case rel=>exact⟨k+1,z1,l1,by omega,by go_num,I3.out,F3.out,LZ.out.1,LZ.out.2,by rw [take_succ_at HX.out];exact FD.out.skip (fun _=>HFO.out)⟩
     case measure=>simp [intOf];omega
    ·have hdf:decide (x∈l1)=false:=decide_eq_false hfo
     have HFO:Hid (x∉l1):=hfo
     clear hfo
     obtain⟨y,hym,rfl⟩:=ids_mem HIN.out
     have HYM:Hid (y∈L):=hym
     obtain⟨v,hag,hlk⟩:=HM.out.look hym HIN.out HXW.out
     have HAG:Hid (VrAg W0 y v):=hag
     obtain⟨yu,yuc,ys,ysc,rfl,hyu,_⟩:=hag
     have HYU:Hid (IntRow W0 yu y.ups):=hyu
     have HLK:Hid (∀w',Below W0.heap.size W0 w'→(Instr.lookup 69 (.map (some mb)) (.int .i64 y.id) false).run Tryz.prog w'= .ok (.agg #[.int .i64 y.id,.slice yu y.ups.length yuc,.slice ys y.m ysc]) w'):=fun w' h=>hlk w' (Or.inl h)
     obtain⟨yn,HYN⟩: ∃yn,Hid (y.ups.length=yn):=⟨_,rfl⟩
     have HLT:Hid (leftN L (l1++ [y.id])+1≤leftN L l1):=leftN_add HIN.out HFO.out
     clear hym hyu hlk
     go_wp2_with fail
     refine(impl_vmHas y.id _ (HM.out.map.below I1.out.bl) HXW.out).mono ?_
     rintro e w1 ⟨rfl,hb⟩
     rw [hdi]
     have I2:Hid (FndI W0 bv bf bn mb fb w1):=I1.out.below hb
     have F2:Hid (VMapW L W0 w1 fb z1 l1):=F1.out.below hb
     have cf:=I2.out.cf
     clear hb
     go_wp2_with fail
     refine(impl_vmHas y.id _ F2.out.map HXW.out).mono ?_
     rintro e w2 ⟨rfl,hb⟩
     rw [hdf]
     have I3:Hid (FndI W0 bv bf bn mb fb w2):=I2.out.below hb
     have F3:Hid (VMapW L W0 w2 fb z1 l1):=F2.out.below hb
     have cv2:=I3.out.cv
     have cf2:=I3.out.cf
     have lk2:=HLK.out w2 I3.out.bl
     rw [HYN.out]at lk2
     clear hb
     obtain⟨D,ho,hD,hh,hvs⟩:=F3.out
     have HO:Hid (w2.ownsMap Tryz.prog 2 vmE fb z1 D):=ho
     have HD:Hid (IsMap D):=hD
     have HH:Hid (∀d,(Lit.int .i64 d).wf=true→Maps.has D (.int .i64 d)=decide (d∈l1)):=hh
     have HVS:Hid (∀y∈L,y.id∈l1→ ∃v,D.atKey (.int .i64 y.id) (.held (.agg #[.int .i64 0,.slice none 0 0,.slice none 0 0]))= .held v∧VrAg W0 y v):=hvs
     have hz9:z1≤1000:=by have:=LZ.out.2;omega
     clear ho hD hh hvs
     go_wp2_with (first
      | (at_mapUpdate;refine wpList_mapUpdate_own _ rfl _ _ _ 69 rfl 2 54 keyedI Tryz.underlying69 vmE fb z1 _ rfl HO.out (by unfold maxLen;omega) _ _ (.int .i64 y.id) rfl rfl (keyI HXW.out) _ [] (vmE_mk _ _ _ _ _ _ _) ?_;intro w3 hown3 hgrow3;have I4:Hid (FndI W0 bv bf bn mb fb w3):=I3.out.grown hgrow3 HNE.out.1 HNE.out.2.1 HNE.out.2.2.1 HNE.out.2.2.2.1;have F4:Hid (VMapW L W0 w3 fb (z1+1) (l1++ [y.id])):=(by rw [←HYN.out]at hown3;exact VMapW.put HAS.out HYM.out HD.out HXW.out HH.out HVS.out HAG.out hown3);have cv3:=I4.out.cv;have cn3:=I4.out.cn;have lk3:=HLK.out w3 I4.out.bl;rw [HYN.out]at lk3;have fl3:=vr_ups y.id yu ys yn yuc y.m ysc w3;clear hown3 hgrow3)
      | fail)
     refine(IH.out (leftN L (l1++ [y.id])) (by have:=HLT.out;have:=LZ.out.1;have:=HMZ.out.1;omega) w3 yu y.ups yn yuc (l1++ [y.id]) (z1+1) HYN.out HYU.out (HUP.out y HYM.out) I4.out F4.out (Nat.le_refl _) (by have:=HLT.out;have:=LZ.out.2;omega)).mono ?_
     rintro e w4 ⟨rfl,z4,l4,hI4,hF4,hle4,hz4,hfd4⟩
     have HE:Hid (FndI W0 bv bf bn mb fb w4∧VMapW L W0 w4 fb z4 l4∧leftN L l4≤leftN L l∧z4+leftN L l4≤1000∧Fd L l (xs.take (k+1)) l4):=⟨hI4,hF4,by have:=HLT.out;have:=LZ.out.1;omega,hz4,by rw [take_succ_at HX.out];exact Fd.step HAS.out HYM.out FD.out hfd4⟩
     clear hI4 hF4 hle4 hz4 hfd4
     go_wp2_with fail
     go_roundw
     case rel=>exact⟨k+1,z4,l4,by omega,by go_num,HE.out.1,HE.out.2.1,HE.out.2.2.1,HE.out.2.2.2.1,HE.out.2.2.2.2⟩
     case measure=>simp [intOf];omega
   ·have hdi:decide (x∈idsL L)=false:=decide_eq_false hin
    have HIN:Hid (x∉idsL L):=hin
    clear hin
    go_wp2_with fail
    refine(impl_vmHas x _ (HM.out.map.below I1.out.bl) HXW.out).mono ?_
    rintro e w1 ⟨rfl,hb⟩
    rw [hdi]
    have I2:Hid (FndI W0 bv bf bn mb fb w1):=I1.out.below hb
    have F2:Hid (VMapW L W0 w1 fb z1 l1):=F1.out.below hb
    clear hb
    go_wp2_with fail
    go_roundw
    case rel=>exact⟨k+1,z1,l1,by omega,by go_num,I2.out,F2.out,LZ.out.1,LZ.out.2,by rw [take_succ_at HX.out];exact FD.out.skip (fun h=>absurd h HIN.out)⟩
    case measure=>simp [intOf];omega
  ·have h1: ¬(k:Int)<(n:Int):=by omega
   obtain rfl:k=n:=by omega
   clear hI1 hF1 hle hz1 hfd
   go_wp2_with fail
   go_returns
   refine⟨rfl,z1,l1,I1.out,F1.out,LZ.out.1,LZ.out.2,?_⟩
   have:=FD.out
   rwa [←HL.out,List.take_length]at this
theorem find_all {L:List VR} {W0:World} {bv bf bn mb fb mn:Nat} (ha:ascR ltV L=true) (hwf: ∀x∈L,(Lit.int .i64 x.id).wf=true) (hup: ∀x∈L,∀u∈x.ups,(Lit.int .i64 u).wf=true)
  (hM:VMapW L W0 W0 mb mn (idsL L)) (hv:bv≠fb) (hf:bf≠fb) (hn:bn≠fb) (h0:W0.heap.size≤fb) (hm0:mb<W0.heap.size) (m:Nat):FindC L W0 bv bf bn mb fb m:=by
 induction m using Nat.strongRecOn with
 | _ m ih=>exact find_step ha hwf hup hM hv hf hn h0 hm0 ih
def AbvP (L:List VR) (w:World) (xs:List Int) (w':World):Prop:= ∃z l,z≤1000∧VMapW L w w' (w.heap.size+1) z l∧(∀y,y∈l↔ ∃x∈xs,Rvh L x y)∧Below w.heap.size w w'
theorem impl_above {L:List VR} {mb mn:Nat} {u:Option Addr} {xs:List Int} {n c:Nat} (w:World) (ha:ascR ltV L=true) (hwf: ∀x∈L,(Lit.int .i64 x.id).wf=true) (hup: ∀x∈L,∀u∈x.ups,(Lit.int .i64 u).wf=true)
  (hM:VMapW L w w mb mn (idsL L)) (hm0:mb<w.heap.size) (hR:IntRow w u xs) (hL:xs.length=n) (hw: ∀x∈xs,(Lit.int .i64 x).wf=true) (h40:L.length≤40):
  Calls Tryz.prog 50 #[.map (some mb),.slice u n c] w fun e w'=>e= .returned (.map (some (w.heap.size+1)))∧AbvP L w xs w':=by
 have HAS:Hid (ascR ltV L=true):=ha
 have HWF:Hid (∀x∈L,(Lit.int .i64 x.id).wf=true):=hwf
 have HUP:Hid (∀x∈L,∀u∈x.ups,(Lit.int .i64 u).wf=true):=hup
 have HM:Hid (VMapW L w w mb mn (idsL L)):=hM
 have HM0:Hid (mb<w.heap.size):=hm0
 have HR:Hid (IntRow w u xs):=hR
 have HL:Hid (xs.length=n):=hL
 have HW:Hid (∀x∈xs,(Lit.int .i64 x).wf=true):=hw
 have H40:Hid (L.length≤40):=h40
 clear ha hwf hup hM hm0 hR hL hw h40
 have hmm:= @run_makeMap Tryz.prog
 have hmf: ∀(fn:Fn) (first cap:Array Value) (w:World),(Instr.makeFunc fn first cap).run Tryz.prog w= .ok (.func fn first cap) w:=fun _ _ _ _=>rfl
 have hsf: ∀(a:Addr) (fn:Fn) (first cap:Array Value) (w:World),(store a (.func fn first cap)).run Tryz.prog w=stored Tryz.prog w a (.func fn first cap) .plain:=fun a fn first cap w=>run_store Tryz.prog w a _ _ rfl
 go_enter Tryz.func50,Tryz.ntmps50
 go_wp2_with fail
 obtain⟨X,HX⟩: ∃X,Hid (((((w.alloc (.cells #[.map (some mb)] 69)).alloc (.map #[] 0)).alloc (.cells #[.map (some (w.heap.size+1))] 69)).alloc (.cells #[.func (.func 73) #[] #[.pointer (some ⟨w.heap.size,0,none⟩),.pointer (some ⟨w.heap.size+1+1,0,none⟩),.pointer (some ⟨w.heap.size+1+1+1,0,none⟩)]] 106))=X):=⟨_,rfl⟩
 rw [HX.out]
 have HB:Hid (Below w.heap.size w X):=by rw [←HX.out];show Below _ _ _;go_grown
 have HI:Hid (FndI w w.heap.size (w.heap.size+1+1) (w.heap.size+1+1+1) mb (w.heap.size+1) X):=by
  refine⟨?_,?_,?_,HB.out⟩
  ·rw [←HX.out];go_simp
  ·rw [←HX.out];go_simp
  ·rw [←HX.out];go_simp
 have HE:Hid (VMapW L w X (w.heap.size+1) 0 []):=by
  rw [←HX.out]
  refine⟨.map [],by rw [show w.heap.size+1=(w.alloc (.cells #[.map (some mb)] 69)).heap.size by simp];exact((World.ownsMap_made (w.alloc (.cells #[.map (some mb)] 69)) _ _ _).alloc _).alloc _,⟨_,rfl⟩,fun d _=>by simp;rfl,fun x _ hl=>absurd hl (by simp)⟩
 clear HX
 refine(find_all HAS.out HWF.out HUP.out HM.out (by omega) (by omega) (by omega) (by omega) HM0.out (leftN L []) X u xs n c [] 0 HL.out HR.out HW.out HI.out HE.out (Nat.le_refl _) (by have h1:=leftN_le L [];have h2:=H40.out;omega)).mono ?_
 rintro e w1 ⟨rfl,z1,l1,hI1,hF1,hle,hz1,hfd⟩
 have HP:Hid (AbvP L w xs w1):=⟨z1,l1,by omega,hF1,hfd.all,hI1.bl⟩
 have cf:=hI1.cf
 clear hI1 hF1 hle hz1 hfd HI HE HB
 go_wp2_with fail
 go_ret
 exact⟨rfl,HP.out⟩
def Grt (la lb:List Int) (left:Lit→Bool) (g:Int):Prop:=(g=0∨(g∈la∧g∈lb))∧ ∀y,y∈la→left (.int .i64 y)=false→y∈lb→y≤g
theorem same_int (x y:Int):(Lit.int .i64 y).sameKey (.int .i64 x)=decide (y=x):=by
 by_cases e:y=x
 ·subst e;simp [Lit.sameKey]
 ·simp [Lit.sameKey,e]
theorem Grt.yes {la lb:List Int} {left:Lit→Bool} {g x:Int} (h:Grt la lb left g) (hx:x∈la) (hm:x∈lb) (hlt:g<x):Grt la lb (fun z=>left z&& !z.sameKey (.int .i64 x)) x:=
 ⟨Or.inr ⟨hx,hm⟩,fun y hy hl hb=>by
  simp only [same_int]at hl
  by_cases e:y=x
  ·subst e;exact Int.le_refl _
  ·have:=h.2 y hy (by simpa [e]using hl) hb
   omega⟩
theorem Grt.no {la lb:List Int} {left:Lit→Bool} {g x:Int} (h:Grt la lb left g) (hm:x∈lb→x≤g):Grt la lb (fun z=>left z&& !z.sameKey (.int .i64 x)) g:=
 ⟨h.1,fun y hy hl hb=>by
  simp only [same_int]at hl
  by_cases e:y=x
  ·subst e;exact hm hb
  ·exact h.2 y hy (by simpa [e]using hl) hb⟩
theorem Grt.lca {L:List VR} {a b g:Int} {la lb:List Int} {left:Lit→Bool} (h:Grt la lb left g) (hl: ∀k,left k=false) (ha: ∀y,y∈la↔Rvh L a y) (hb: ∀y,y∈lb↔Rvh L b y) (h1: ∀x∈L,1≤x.id):IsL L a b g:=by
 have h3: ∀y,Rvh L a y→Rvh L b y→y≤g:=fun y h5 h6=>h.2 y ((ha y).2 h5) (hl _) ((hb y).2 h6)
 rcases h.1 with h2 | ⟨h2,h4⟩
 ·refine Or.inl ⟨h2,fun y h5 h6=> ?_⟩
  obtain⟨x,hx,e⟩:=ids_mem h5.mem
  have:=h1 x hx
  have:=h3 y h5 h6
  omega
 ·exact Or.inr ⟨(ha g).1 h2,(hb g).1 h4,h3⟩
theorem int_lit1 (W:World) (x:Int):IntRow (W.alloc (.cells #[.int .i64 x] 2)) (some ⟨W.heap.size,0,none⟩) [x]:=
 int_ownN (n:=1) (cap:=1) rfl (World.ownsRow_lit W #[.int .i64 x] 1 (Nat.le_refl _) (by unfold maxLen;omega) rfl)
theorem one_allV {L:List VR} {a:Int} {l:List Int} (h: ∀y,y∈l↔ ∃x∈ [a],Rvh L x y): ∀y,y∈l↔Rvh L a y:=fun y=>by
 rw [h]
 constructor
 ·rintro⟨x,hx,hr⟩;obtain rfl:=List.mem_singleton.1 hx;exact hr
 ·intro hr;exact⟨a,by simp,hr⟩
theorem impl_lca {L:List VR} {mb mn:Nat} {gg:Int} (a b:Int) (w:World) (ha:ascR ltV L=true) (hwf: ∀x∈L,(Lit.int .i64 x.id).wf=true) (hup: ∀x∈L,∀u∈x.ups,(Lit.int .i64 u).wf=true)
  (hM:VMapW L w w mb mn (idsL L)) (hm0:mb<w.heap.size) (h40:L.length≤40) (h1: ∀x∈L,1≤x.id) (hwa:(Lit.int .i64 a).wf=true) (hwb:(Lit.int .i64 b).wf=true) (hgg:IsL L a b gg):
  Calls Tryz.prog 53 #[.map (some mb),.int .i64 a,.int .i64 b] w fun e w'=>e= .returned (.int .i64 gg)∧Below w.heap.size w w':=by
 have HAS:Hid (ascR ltV L=true):=ha
 have HWF:Hid (∀x∈L,(Lit.int .i64 x.id).wf=true):=hwf
 have HUP:Hid (∀x∈L,∀u∈x.ups,(Lit.int .i64 u).wf=true):=hup
 have HM:Hid (VMapW L w w mb mn (idsL L)):=hM
 have HM0:Hid (mb<w.heap.size):=hm0
 have H40:Hid (L.length≤40):=h40
 have H1:Hid (∀x∈L,1≤x.id):=h1
 have HWA:Hid (∀x∈ [a],(Lit.int .i64 x).wf=true):=fun x hx=>by obtain rfl:=List.mem_singleton.1 hx;exact hwa
 have HWB:Hid (∀x∈ [b],(Lit.int .i64 x).wf=true):=fun x hx=>by obtain rfl:=List.mem_singleton.1 hx;exact hwb
 have HGG:Hid (IsL L a b gg):=hgg
 clear ha hwf hup hM hm0 h40 h1 hwa hwb hgg
 go_enter Tryz.func53,Tryz.ntmps53
 go_wp2_with fail
 have K0:Hid (Below w.heap.size w (w.alloc (.cells #[.int .i64 b] 2))):=by show Below _ _ _;go_grown
 refine(impl_above _ HAS.out HWF.out HUP.out ((HM.out.base K0.out).below K0.out) (Nat.lt_of_lt_of_le HM0.out K0.out.size) (int_lit1 w b) rfl HWB.out H40.out).mono ?_
 rintro e u1 ⟨rfl,z1,lb,hz1,hF1,hm1,hb⟩
 have K1:Hid (Below w.heap.size w u1):=bchain K0.out hb
 have F1:Hid (VMap u1 (w.heap.size+1+1) z1 lb):=by show VMap _ _ _ _;simpa using hF1.map
 have M1:Hid (∀y,y∈lb↔Rvh L b y):=one_allV hm1
 clear hF1 hm1 hb K0
 simp only [World.size_alloc]
 go_wp2_with fail
 have K2:Hid (Below u1.heap.size u1 (u1.alloc (.cells #[.int .i64 a] 2))):=by show Below _ _ _;go_grown
 have K3:Hid (Below w.heap.size w (u1.alloc (.cells #[.int .i64 a] 2))):=bchain K1.out K2.out
 refine(impl_above _ HAS.out HWF.out HUP.out ((HM.out.base K3.out).below K3.out) (Nat.lt_of_lt_of_le HM0.out K3.out.size) (int_lit1 u1 a) rfl HWA.out H40.out).mono ?_
 rintro e u2 ⟨rfl,z2,la,hz2,hF2,hm2,hb⟩
 have K4:Hid (Below w.heap.size w u2):=bchain K3.out hb
 have F3:Hid (VMap u2 (w.heap.size+1+1) z1 lb):=(F1.out.below K2.out).below hb
 have F2:Hid (VMap u2 (u1.heap.size+1+1) z2 la):=by show VMap _ _ _ _;simpa using hF2.map
 have M2:Hid (∀y,y∈la↔Rvh L a y):=one_allV hm2
 have HLW:Hid (∀y∈la,(Lit.int .i64 y).wf=true):=fun y hy=>by
  obtain⟨x,hx,rfl⟩:=ids_mem ((M2.out y).1 hy).mem
  exact HWF.out x hx
 clear hF2 hm2 hb K2 K3 K1 F1
 simp only [World.size_alloc]
 obtain⟨fb,HFB⟩: ∃fb,Hid (u1.heap.size+1+1=fb):=⟨_,rfl⟩
 rw [HFB.out]at F2 ⊢
 obtain⟨D,ho,hD,hh⟩:=F2.out
 have HO:Hid (u2.ownsMap Tryz.prog 2 vmE fb z2 D):=ho
 have HH:Hid (∀d,(Lit.int .i64 d).wf=true→Maps.has D (.int .i64 d)=decide (d∈la)):=hh
 clear ho hD hh F2
 go_wp2_with (first
  | (at_range;refine wpList_range_own _ rfl _ 69 rfl 2 54 keyedI Tryz.underlying69 _ fb z2 _ rfl HO.out ?_;intro w0 hrg0 hg0 hs0)
  | fail)
 go_frame
 have HR0:Hid (w0.ranges Tryz.prog 2 vmE fb u2.heap.size z2 D (Maps.has D) (Maps.size D)):=hrg0
 have HB0:Hid (Below u2.heap.size u2 w0):=(Below.refl _ _).grown hg0 (Nat.le_refl _) (fun j hj=>by cases hj)
 clear hrg0 hg0
 go_loopw [7] (fun q wr=> ∃(left:Lit→Bool) (cnt:Nat) (g:Int),q= .int .i64 g∧wr.ranges Tryz.prog 2 vmE fb u2.heap.size z2 D left cnt∧Grt la lb left g∧Below u2.heap.size u2 wr)
  (fun _ wr=>wr.rangeLeft fb u2.heap.size)
 case atStart=>exact⟨_,_,0,rfl,HR0.out,⟨Or.inl rfl,fun y hy hl _=>by rw [HH.out y (HLW.out y hy)]at hl;simp [hy]at hl⟩,HB0.out⟩
 case round=>
  clear HR0 HB0
  obtain⟨left,cnt,g,rfl,hrg,hgr,hbel⟩:=hrel
  have HRG:Hid (wr.ranges Tryz.prog 2 vmE fb u2.heap.size z2 D left cnt):=hrg
  have HB:Hid (Below u2.heap.size u2 wr):=hbel
  have HGR:Hid (Grt la lb left g):=hgr
  clear hrg hbel hgr
  go_wp2_with (first
   | (at_next;refine wpList_next_ranges (α:=Int) (β:=Value) _ rfl _ rfl 2 keyedI vmE (Value.int .i64) (fun c=>c) ?k1 ?k2 fb u2.heap.size z2 D left cnt rfl HRG.out ?_ ?_)
   | fail)
  case k1=>
   intro key kl hk
   obtain⟨x,rfl,_⟩:=Maps.keyOf_int_inv Tryz.underlying2 hk
   exact⟨x,rfl⟩
  case k2=>exact fun v y hv=>⟨v,rfl⟩
  ·intro _ hl0
   have HV:Hid (gg=g):=HGG.out.one (HGR.out.lca hl0 M2.out M1.out H1.out)
   go_wp2_with fail
   go_ret
   exact⟨ret_int HV.out.symm,bchain K4.out HB.out⟩
  ·rintro x c kl y yp w1 cnt1 hkx hlx hv hat hrg1 hlt hg1 hs1 hen
   obtain⟨x',ex,rfl,hwx⟩:=Maps.keyOf_int_inv Tryz.underlying2 hkx
   cases ex
   have HXW:Hid ((Lit.int .i64 x).wf=true):=hwx
   have HXA:Hid (x∈la):=by
    have h9:=has_true_of_atKey hat
    rw [HH.out x hwx]at h9
    exact(of_decide_eq_true h9:x∈la)
   have HRG1:Hid (w1.ranges Tryz.prog 2 vmE fb u2.heap.size z2 D (fun z=>left z&& !z.sameKey (.int .i64 x)) cnt1):=hrg1
   have HB1:Hid (Below u2.heap.size u2 w1):=HB.out.grown hg1 HB.out.size (fun j hj=>by cases hj;exact Nat.le_refl _)
   have hen2:(Instr.entry (.pointer (some ⟨u2.heap.size,0,none⟩))).run Tryz.prog w1= .ok (.tuple #[.int .i64 x,c]) w1:=hen
   clear hrg1 hg1 hkx hlx hv hat hen hwx
   by_cases hin:x∈lb
   ·have hdz:decide (x∈lb)=true:=decide_eq_true hin
    have HIN:Hid (x∈lb):=hin
    clear hin
    by_cases hgx:g<x
    ·have HG:Hid (Grt la lb (fun z=>left z&& !z.sameKey (.int .i64 x)) x):=HGR.out.yes HXA.out HIN.out hgx
     go_wp2_with fail
     refine(impl_vmHas x _ (F3.out.below HB1.out) HXW.out).mono ?_
     rintro e w2 ⟨rfl,hb⟩
     rw [hdz]
     have HB2:Hid (Below u2.heap.size u2 w2):=bchain HB1.out hb
     have HRG2:Hid (w2.ranges Tryz.prog 2 vmE fb u2.heap.size z2 D (fun z=>left z&& !z.sameKey (.int .i64 x)) cnt1):=HRG1.out.kept (grown_below none hb) (by simp) (by simp)
     clear hb
     go_wp2_with fail
     go_roundw
     case rel=>exact⟨_,cnt1,x,(by first | rfl | (congr 1;omega)),HRG2.out,HG.out,HB2.out⟩
     case measure=>rw [HRG2.out.left_eq,HRG.out.left_eq];exact hlt
    ·have HG:Hid (Grt la lb (fun z=>left z&& !z.sameKey (.int .i64 x)) g):=HGR.out.no (fun _=>by omega)
     go_wp2_with fail
     refine(impl_vmHas x _ (F3.out.below HB1.out) HXW.out).mono ?_
     rintro e w2 ⟨rfl,hb⟩
     rw [hdz]
     have HB2:Hid (Below u2.heap.size u2 w2):=bchain HB1.out hb
     have HRG2:Hid (w2.ranges Tryz.prog 2 vmE fb u2.heap.size z2 D (fun z=>left z&& !z.sameKey (.int .i64 x)) cnt1):=HRG1.out.kept (grown_below none hb) (by simp) (by simp)
     clear hb
     go_wp2_with fail
     go_roundw
     case rel=>exact⟨_,cnt1,g,(by first | rfl | (congr 1;omega)),HRG2.out,HG.out,HB2.out⟩
     case measure=>rw [HRG2.out.left_eq,HRG.out.left_eq];exact hlt
   ·have hdz:decide (x∈lb)=false:=decide_eq_false hin
    have HG:Hid (Grt la lb (fun z=>left z&& !z.sameKey (.int .i64 x)) g):=HGR.out.no (fun h=>absurd h hin)
    clear hin
    go_wp2_with fail
    refine(impl_vmHas x _ (F3.out.below HB1.out) HXW.out).mono ?_
    rintro e w2 ⟨rfl,hb⟩
    rw [hdz]
    have HB2:Hid (Below u2.heap.size u2 w2):=bchain HB1.out hb
    have HRG2:Hid (w2.ranges Tryz.prog 2 vmE fb u2.heap.size z2 D (fun z=>left z&& !z.sameKey (.int .i64 x)) cnt1):=HRG1.out.kept (grown_below none hb) (by simp) (by simp)
    clear hb
    go_wp2_with fail
    go_roundw
    case rel=>exact⟨_,cnt1,g,(by first | rfl | (congr 1;omega)),HRG2.out,HG.out,HB2.out⟩
    case measure=>rw [HRG2.out.left_eq,HRG.out.left_eq];exact hlt
theorem impl_Lca {v:Value} {d:DG} {gg:Int} (a b:Int) (w:World) (h:DgRow w v d) (hk:DgOk d) (hl:DgLil d) (hg:GI w) (hwa:(Lit.int .i64 a).wf=true) (hwb:(Lit.int .i64 b).wf=true) (hgg:LcaI d a b gg):
  Calls Tryz.prog 27 #[v,.int .i64 a,.int .i64 b] w fun e w'=>e= .returned (.int .i64 gg)∧Below w.heap.size w w':=by
 obtain⟨A1,n1,c1,A2,n2,c2,rfl⟩:=h.agg
 have HR:Hid (DgRow w (.agg #[.int .i64 d.next,.slice A1 n1 c1,.slice A2 n2 c2]) d):=h
 have HK:Hid (DgOk d):=hk
 have HL:Hid (DgLil d):=hl
 have HG:Hid (GI w):=hg
 obtain⟨f,HFF⟩: ∃f:Bool,Hid (f=dagB d):=⟨_,rfl⟩
 have HWA:Hid ((Lit.int .i64 a).wf=true):=hwa
 have HWB:Hid ((Lit.int .i64 b).wf=true):=hwb
 have HGG:Hid (LcaI d a b gg):=hgg
 clear h hk hl hg hwa hwb hgg
 go_enter Tryz.func27,Tryz.ntmps27
 go_wp2_with fail
 obtain⟨X,HX⟩: ∃X,Hid (w.alloc (.cells #[.int .i64 d.next,.slice A1 n1 c1,.slice A2 n2 c2] 31)=X):=⟨_,rfl⟩
 rw [HX.out]
 have c_0:X.cell? ⟨w.heap.size,0,none⟩=some (.int .i64 d.next):=by rw [←HX.out];go_simp
 have c_1:X.cell? ⟨w.heap.size,1,none⟩=some (.slice A1 n1 c1):=by rw [←HX.out];go_simp
 have c_2:X.cell? ⟨w.heap.size,2,none⟩=some (.slice A2 n2 c2):=by rw [←HX.out];go_simp
 have zX:w.heap.size<X.heap.size:=by rw [←HX.out];simp
 have KX:Hid (Below w.heap.size w X):=by rw [←HX.out];show Below _ _ _;go_grown
 clear HX
 refine(impl_DagOk _ (HR.out.below KX.out) HK.out HL.out (HG.out.below KX.out)).mono ?_
 rintro e u1 ⟨rfl,hb⟩
 rw [←HFF.out]
 replace c_0:=cy hb c_0
 replace c_1:=cy hb c_1
 replace c_2:=cy hb c_2
 replace zX:w.heap.size<u1.heap.size:=Nat.lt_of_lt_of_le zX hb.size
 replace KX:Hid (Below w.heap.size w u1):=bchain KX.out hb
 clear hb
 cases f
 ·go_wp2_with fail
  go_ret
  exact⟨ret_int (HGG.out.2 HFF.out.symm).symm,KX.out⟩
 have HF:Hid (DgFacts d):=dag_facts HFF.out.symm
 obtain⟨rv,ev,_,_⟩:=HR.out.open
 have RV:Hid (VrRow w A1 d.vs):=rv
 have EV:Hid (d.vs.length=n1):=ev
 have hn40:n1≤40:=by rw [←ev];exact HF.out.nv
 have HWF:Hid (∀x∈d.vs,(Lit.int .i64 x.id).wf=true):=fun x hx=>wf_id (HF.out.lo x hx) (by have h1:=HF.out.hi x hx;have h2:=HF.out.nx;omega)
 have HUP:Hid (∀x∈d.vs,∀u∈x.ups,(Lit.int .i64 u).wf=true):=fun x hx=>(HK.out.v x hx).2
 clear rv ev
 go_wp2_with fail
 refine(impl_versionMapOfW _ (RV.out.below KX.out) EV.out HWF.out HF.out.asc (by omega)).mono ?_
 rintro e u2 ⟨rfl,hm,hb⟩
 have HM:Hid (VMapW d.vs u2 u2 u1.heap.size n1 (idsL d.vs)):=hm.base hb
 have HLT:Hid (u1.heap.size<u2.heap.size):=by
  obtain⟨D,ho,_⟩:=hm
  exact World.ownsMap.lt ho
 replace KX:Hid (Below w.heap.size w u2):=bchain KX.out hb
 clear hm hb
 go_wp2_with fail
 refine(impl_lca a b _ HF.out.asc HWF.out HUP.out HM.out HLT.out HF.out.nv HF.out.lo HWA.out HWB.out (HGG.out.1 HFF.out.symm)).mono ?_
 rintro e u3 ⟨rfl,hb⟩
 have K2:Hid (Below w.heap.size w u3):=bchain KX.out hb
 clear hb
 go_wp2_with fail
 go_ret
 exact⟨rfl,K2.out⟩
end Go.Proofs.YtbmmjfmgpdddeaaGreatDoor
namespace Go.Proofs.YtbmmjfmgpdddeaaGreatDoor
open Go.RowKit
theorem law_FnExactLca (v:Value) (a b:Int) (d:DG) (w:World) (hwa:(Lit.int .i64 a).wf=true) (hwb:(Lit.int .i64 b).wf=true) (h:DgRow w v d) (hk:DgOk d) (hg:GI w):Calls Tryz.prog 7 #[v,.int .i64 a,.int .i64 b] w fun e w'=>
  e= .returned (.bool true)∧Below w.heap.size w w':=by
 obtain⟨A,n,c,B,m,q,rfl⟩:=h.agg
 have HR:Hid (DgRow w (.agg #[.int .i64 d.next,.slice A n c,.slice B m q]) d):=h
 have HK:Hid (DgOk d):=hk
 have HG:Hid (GI w):=hg
 have HWA:Hid ((Lit.int .i64 a).wf=true):=hwa
 have HWB:Hid ((Lit.int .i64 b).wf=true):=hwb
 obtain⟨f,hff⟩:=lca_ex d a b
 have HFF:Hid (LcaI d a b f):=hff
 have e1:(f==f)=true:=by simp
 clear h hk hg hwa hwb hff
 go_enter Tryz.func7,Tryz.ntmps7
 go_wp2_with fail
 obtain⟨X,HX⟩: ∃X,Hid (w.alloc (.cells #[.int .i64 d.next,.slice A n c,.slice B m q] 25)=X):=⟨_,rfl⟩
 rw [HX.out]
 have c_0:X.cell? ⟨w.heap.size,0,none⟩=some (.int .i64 d.next):=by rw [←HX.out];go_simp
 have c_1:X.cell? ⟨w.heap.size,1,none⟩=some (.slice A n c):=by rw [←HX.out];go_simp
 have c_2:X.cell? ⟨w.heap.size,2,none⟩=some (.slice B m q):=by rw [←HX.out];go_simp
 have zX:w.heap.size<X.heap.size:=by rw [←HX.out];simp
 have KX:Hid (Below w.heap.size w X):=by rw [←HX.out];show Below _ _ _;go_grown
 clear HX
 refine(laws_szDag _ (HR.out.below KX.out) HK.out).mono ?_
 rintro e u1 ⟨z,rfl,hz,hb⟩
 replace c_0:=cy hb c_0
 replace c_1:=cy hb c_1
 replace c_2:=cy hb c_2
 replace zX:w.heap.size<u1.heap.size:=Nat.lt_of_lt_of_le zX hb.size
 replace KX:Hid (Below w.heap.size w u1):=bchain KX.out hb
 clear hb
 by_cases hneg:z<0
 ·go_wp2_with fail
  go_ret
  exact⟨rfl,KX.out⟩
 have HL:Hid (DgLil d):=hz (by omega)
 clear hz
 go_wp2_with fail
 refine(laws_toDag _ (HR.out.below KX.out) HL.out).mono ?_
 rintro e u2 ⟨v2,rfl,ho,hb⟩
 have hr:=ho.row HK.out
 obtain⟨A2,n2,c2,B2,m2,q2,rfl⟩:=hr.agg
 have R1:Hid (DgRow u2 (.agg #[.int .i64 d.next,.slice A2 n2 c2,.slice B2 m2 q2]) d):=hr
 replace c_0:=cy hb c_0
 replace c_1:=cy hb c_1
 replace c_2:=cy hb c_2
 replace zX:w.heap.size<u2.heap.size:=Nat.lt_of_lt_of_le zX hb.size
 replace KX:Hid (Below w.heap.size w u2):=bchain KX.out hb
 clear hb hr ho
 go_wp2_with fail
 refine(spec_Lca a b _ R1.out HK.out HFF.out).mono ?_
 rintro e u3 ⟨rfl,hb⟩
 replace c_0:=cy hb c_0
 replace c_1:=cy hb c_1
 replace c_2:=cy hb c_2
 replace zX:w.heap.size<u3.heap.size:=Nat.lt_of_lt_of_le zX hb.size
 replace KX:Hid (Below w.heap.size w u3):=bchain KX.out hb
 clear hb R1
 go_wp2_with fail
 refine(laws_toDag _ (HR.out.below KX.out) HL.out).mono ?_
 rintro e u4 ⟨v4,rfl,ho,hb⟩
 have hr:=ho.row HK.out
 obtain⟨A4,n4,c4,B4,m4,q4,rfl⟩:=hr.agg
 have R2:Hid (DgRow u4 (.agg #[.int .i64 d.next,.slice A4 n4 c4,.slice B4 m4 q4]) d):=hr
 replace c_0:=cy hb c_0
 replace c_1:=cy hb c_1
 replace c_2:=cy hb c_2
 replace zX:w.heap.size<u4.heap.size:=Nat.lt_of_lt_of_le zX hb.size
 replace KX:Hid (Below w.heap.size w u4):=bchain KX.out hb
 clear hb hr ho
 go_wp2_with fail
 obtain⟨Y,HY⟩: ∃X,Hid (u4.alloc (.cells #[.int .i64 d.next,.slice A4 n4 c4,.slice B4 m4 q4] 31)=X):=⟨_,rfl⟩
 rw [HY.out]
 have hb:Below u4.heap.size u4 Y:=by rw [←HY.out];go_grown
 have d_0:Y.cell? ⟨u4.heap.size,0,none⟩=some (.int .i64 d.next):=by rw [←HY.out];go_simp
 have d_1:Y.cell? ⟨u4.heap.size,1,none⟩=some (.slice A4 n4 c4):=by rw [←HY.out];go_simp
 have d_2:Y.cell? ⟨u4.heap.size,2,none⟩=some (.slice B4 m4 q4):=by rw [←HY.out];go_simp
 have zY:u4.heap.size<Y.heap.size:=by rw [←HY.out];simp
 replace c_0:=cy hb c_0
 replace c_1:=cy hb c_1
 replace c_2:=cy hb c_2
 replace zX:w.heap.size<Y.heap.size:=Nat.lt_of_lt_of_le zX hb.size
 replace KX:Hid (Below w.heap.size w Y):=bchain KX.out hb
 replace R2:Hid (DgRow Y (.agg #[.int .i64 d.next,.slice A4 n4 c4,.slice B4 m4 q4]) d):=R2.out.below hb
 clear hb HY
 refine(impl_Lca a b _ R2.out HK.out HL.out (HG.out.below KX.out) HWA.out HWB.out HFF.out).mono ?_
 rintro e u5 ⟨rfl,hb⟩
 replace c_0:=cy hb c_0
 replace c_1:=cy hb c_1
 replace c_2:=cy hb c_2
 replace d_0:=cy hb d_0
 replace d_1:=cy hb d_1
 replace d_2:=cy hb d_2
 replace zX:w.heap.size<u5.heap.size:=Nat.lt_of_lt_of_le zX hb.size
 replace zY:u4.heap.size<u5.heap.size:=Nat.lt_of_lt_of_le zY hb.size
 replace KX:Hid (Below w.heap.size w u5):=bchain KX.out hb
 replace R2:Hid (DgRow u5 (.agg #[.int .i64 d.next,.slice A4 n4 c4,.slice B4 m4 q4]) d):=R2.out.below hb
 clear hb
 go_wp2_with fail
 go_region_held3 (fun w'=>(∀bq oq,bq<u5.heap.size→w'.cell? ⟨bq,oq,none⟩=u5.cell? ⟨bq,oq,none⟩)∧u5.heap.size≤w'.heap.size∧Below u5.heap.size u5 w')
  (exact sc_of (Nat.le_refl _) (by go_grown))
  (first
  | (go_at_call 10;refine(laws_toDag _ (HR.out.below (bchain KX.out (by go_grown))) HL.out).mono ?_;rintro e y1 ⟨v6,rfl,ho,hb⟩;have R3:Hid (DgRow y1 v6 d):=ho.row HK.out;obtain⟨hk1,hz1⟩:=bframe (B:=u5.heap.size) (X:=u5) (by go_grown) (by go_size) hb;clear hb ho)
  | (go_at_call 12;refine(laws_eqDag _ (R2.out.below hk1) R3.out).mono ?_;rintro e y2 ⟨rfl,hb⟩;obtain⟨hk2,hz2⟩:=bframe (B:=u5.heap.size) (X:=u5) hk1 hz1 hb;clear hb))
 all_goals
  go_wp2_with fail
  go_ret
  exact⟨rfl,bchain KX.out (by go_grown)⟩
end Go.Proofs.YtbmmjfmgpdddeaaGreatDoor
