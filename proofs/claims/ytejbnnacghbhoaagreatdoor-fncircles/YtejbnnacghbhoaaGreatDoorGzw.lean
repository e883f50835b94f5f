import Derived.Test.YtejbnnacghbhoaaGreatDoorMn
import Derived.Test.YtejbnnacghbhoaaGreatDoorGzs
import Derived.Shelf.SlIter.Collect
import Derived.Sort.MapsRangeIn
import Derived.Test.YtejbnnacghbhoaaGreatDoorGzj
import Derived.Sort.Grow
import Derived.Test.YtejbnnacghbhoaaGreatDoorShelfC
import Derived.Test.YtejbnnacghbhoaaGreatDoorGzeA
import Derived.Test.YtejbnnacghbhoaaGreatDoorGze
set_option linter.unusedSimpArgs false
set_option linter.unusedVariables false
set_option maxHeartbeats 8000000
set_option maxRecDepth 100000
namespace Go.Proofs.YtejbnnacghbhoaaGreatDoor
open Go.RowKit Go.Maps Go.Sort Go.Shelf
structure CL where
 c:Int
 r:Int
 s:ByteArray
def CL.key (x:CL):Value:= .agg #[.int .i64 x.c,.int .i64 x.r]
def CL.enc (x:CL):Value:= .agg #[.int .i64 x.c,.int .i64 x.r,.string x.s]
structure CmD (D:DataW Value) (E:List CL):Prop where
 nd:E.Pairwise (fun x y=>x.key≠y.key)
 into: ∀x∈E,∃kl,keyOf Tryz.prog 26 x.key=some kl∧ ∀zd,D.atKey kl zd= .held x.enc
 back: ∀kl,Maps.has D kl=true→ ∃x∈E,keyOf Tryz.prog 26 x.key=some kl
def GotC (E:List CL) (left:Lit→Bool) (ss:List CL):Prop:=ss.Nodup∧ ∀x,x∈ss↔x∈E∧ ∃kl,keyOf Tryz.prog 26 x.key=some kl∧left kl=false
theorem GotC.start {D:DataW Value} {E:List CL} (h:CmD D E):GotC E (Maps.has D) []:=⟨List.nodup_nil,fun x=>by
 constructor
 ·intro hx;cases hx
 ·rintro⟨hx,kl,hk,hl⟩;obtain⟨kl2,hk2,hat⟩:=h.into x hx;rw [hk]at hk2;cases hk2
  rw [has_true_of_atKey hat]at hl;cases hl⟩
theorem CmD.one {D:DataW Value} {E:List CL} (h:CmD D E) {kl:Lit} {v:Value} (hat: ∀zd,D.atKey kl zd= .held v): ∃x∈E,v=x.enc∧keyOf Tryz.prog 26 x.key=some kl:=by
 obtain⟨x,hx,hk⟩:=h.back kl (has_true_of_atKey hat);obtain⟨kl2,hk2,hat2⟩:=h.into x hx;rw [hk]at hk2;cases hk2;have e:=(hat (.held v)).symm.trans (hat2 (.held v));exact⟨x,hx,by cases e;rfl,hk⟩
theorem GotC.step {D:DataW Value} {E:List CL} (hD:CmD D E) {left:Lit→Bool} {ss:List CL} (h:GotC E left ss) {x:CL} {kl:Lit} (hx:x∈E) (hk:keyOf Tryz.prog 26 x.key=some kl) (hlk:left kl=true):
  GotC E (fun z=>left z&& !z.sameKey kl) (ss++ [x]):=by
 have hnew:x∉ss:=fun hm=>by
  obtain⟨_,kl2,hk2,hl⟩:=(h.2 x).1 hm;rw [hk]at hk2;cases hk2;rw [hlk]at hl;cases hl
 refine⟨List.nodup_append.2 ⟨h.1,by simp,fun a ha b hb=>by simp at hb;subst hb;exact fun e=>hnew (e▸ha)⟩,fun y=> ?_⟩;rw [List.mem_append,List.mem_singleton,h.2 y];constructor
 ·rintro(⟨hy,kl2,hk2,hl⟩ | rfl)
  ·exact⟨hy,kl2,hk2,by simp [hl]⟩
  ·exact⟨hx,kl,hk,by simp [WideAt.sameKey_self (keyedRef.key hk)]⟩
 ·rintro⟨hy,kl2,hk2,hl⟩;by_cases e:kl2=kl
  ·subst e;refine .inr ?_;have e2:=keyedRef.inj hk2 hk;obtain⟨i,hi,e3⟩:=List.mem_iff_getElem.1 hx;obtain⟨j,hj,e4⟩:=List.mem_iff_getElem.1 hy;rcases Nat.lt_trichotomy i j with hij | hij | hij
   ·exact absurd (by rw [e3,e4];exact e2.symm) (List.pairwise_iff_getElem.1 hD.nd i j hi hj hij)
   ·subst hij;rw [←e3,←e4]
   ·exact absurd (by rw [e3,e4];exact e2) (List.pairwise_iff_getElem.1 hD.nd j i hj hi hij)
  ·refine .inl ⟨hy,kl2,hk2,?_⟩;cases hv:left kl2 with
   | false=>rfl
   | true=>
    exfalso
    simp [hv]at hl;exact e (WideAt.sameKey_eq hl)
def CL.cs (x:CL):List Value:= [.int .i64 x.c,.int .i64 x.r,.string x.s]
end Go.Proofs.YtejbnnacghbhoaaGreatDoor
namespace Go.Proofs.YtejbnnacghbhoaaGreatDoor
open Go.RowKit Go.Maps
def Grw (X W:World):Prop:= ∃q os,W=Go.Sort.grow (X.drewN q) os
theorem Qbr (w:World) (n:Nat):(w.drewN n).drew=w.drewN (n+1):=rfl
theorem Grw.refl (X:World):Grw X X:=⟨0,#[],by rw [Go.Sort.grow_empty];rfl⟩
theorem Grw.alloc {X W:World} (h:Grw X W) (o:Obj):Grw X (W.alloc o):=by
 obtain⟨q,os,rfl⟩:=h;exact⟨q,os++ #[o],by rw [Go.Sort.alloc_eq_grow,Go.Sort.grow_grow]⟩
theorem Grw.drew {X W:World} (h:Grw X W):Grw X W.drew:=by
 obtain⟨q,os,rfl⟩:=h;exact⟨q+1,os,by rw [Go.Sort.drew_grow,Qbr]⟩
def ltC (x y:CL):Bool:=Zy x.c x.r y.c y.r
end Go.Proofs.YtejbnnacghbhoaaGreatDoor
namespace Go.Proofs.YtejbnnacghbhoaaGreatDoor
open Go.RowKit Go.Maps Go.Sort Go.Shelf
theorem CL.key_eq {x y:CL}:x.key=y.key↔x.c=y.c∧x.r=y.r:=by simp [CL.key]
def MQ (p q:Int) (E:List CL):List CL:=E.filter (fun y=> !decide (y.c=p∧y.r=q))
theorem offP_mem {p q:Int} {E:List CL} {y:CL}:y∈MQ p q E↔y∈E∧ ¬(y.c=p∧y.r=q):=by
 unfold MQ;rw [List.mem_filter];simp only [Bool.not_eq_true',decide_eq_false_iff_not]
theorem CmD.nil:CmD (.map []) []:=⟨List.Pairwise.nil,fun x hx=>(by cases hx),fun kl h=>by simp [has_eq]at h⟩
theorem CmD.off {D:DataW Value} {E:List CL} (h:CmD D E) {p q:Int} {kl:Lit} (hk:keyOf Tryz.prog 26 (.agg #[.int .i64 p,.int .i64 q])=some kl):CmD (D.del kl) (MQ p q E) where
 nd:=h.nd.filter _
 into x hx:=by
  obtain⟨hm,hn⟩:=offP_mem.1 hx;obtain⟨k2,hk2,hat⟩:=h.into x hm;refine⟨k2,hk2,fun zd=> ?_⟩
  have hne:k2≠kl:=fun e=>hn (by
   subst e;have:=keyedRef.inj hk2 hk
   simpa [CL.key]using this)
  rw [atKey_del_other hne];exact hat zd
 back k2 hh:=by
  have hne:k2≠kl:=fun e=>by subst e;rw [has_del_same]at hh;cases hh
  rw [has_del_other hne]at hh;obtain⟨x,hx,hk2⟩:=h.back k2 hh;refine⟨x,offP_mem.2 ⟨hx,fun e=>hne ?_⟩,hk2⟩;have h2:x.key= .agg #[.int .i64 p,.int .i64 q]:=by simp [CL.key,e.1,e.2]
  rw [h2,hk]at hk2;exact(Option.some.inj hk2).symm
theorem CmD.on {D:DataW Value} {E:List CL} (h:CmD D E) (hm:IsMap D) {x:CL} {kl:Lit} (hk:keyOf Tryz.prog 26 x.key=some kl):CmD (D.put kl (.held x.enc)) (MQ x.c x.r E++ [x]) where
 nd:=List.pairwise_append.2 ⟨h.nd.filter _,List.pairwise_singleton _ _,fun a ha b hb e=>by
  rw [List.mem_singleton]at hb;subst hb
  exact(offP_mem.1 ha).2 (CL.key_eq.1 e)⟩
 into y hy:=by
  rcases List.mem_append.1 hy with hy | hy
  ·obtain⟨hm,hn⟩:=offP_mem.1 hy;obtain⟨k2,hk2,hat⟩:=h.into y hm;refine⟨k2,hk2,fun zd=> ?_⟩;have hne:k2≠kl:=fun e=>hn (by subst e;exact CL.key_eq.1 (keyedRef.inj hk2 hk));rw [atKey_put_other hne];exact hat zd
  ·rw [List.mem_singleton]at hy;subst hy;exact⟨kl,hk,fun zd=>atKey_put_same hm (keyedRef.key hk) _ _⟩
 back k2 hh:=by
  by_cases e:k2=kl
  ·subst e;exact⟨x,by simp,hk⟩
  ·rw [has_put_other e]at hh;obtain⟨y,hy,hk2⟩:=h.back k2 hh;refine⟨y,List.mem_append_left _ (offP_mem.2 ⟨hy,fun e2=>e ?_⟩),hk2⟩;rw [CL.key_eq.2 e2,hk]at hk2;exact(Option.some.inj hk2).symm
theorem CmD.size {w:World} {b n:Nat} {D:DataW Value} {E:List CL} (h:CmD D E) (ho:w.ownsMap Tryz.prog 26 Gs b n D):Maps.size D=E.length:=by
 obtain⟨es,hD,hpw,_⟩:=ho.entries keyedRef;obtain⟨es',hD',hko⟩:=ho.keysOf;obtain rfl:es=es':=by rw [hD]at hD';simpa using hD'
 subst hD
 have h1:(E.map (fun x=>keyOf Tryz.prog 26 x.key)).Nodup:=by
  unfold List.Nodup;rw [List.pairwise_map];refine List.Pairwise.imp_of_mem (fun{x y} hx hy hne e=>hne ?_) h.nd;obtain⟨k1,hk1,_⟩:=h.into x hx;rw [hk1]at e;exact keyedRef.inj hk1 e.symm
 have h2:(es.map (fun p=>some p.1)).Nodup:=by
  unfold List.Nodup;rw [List.pairwise_map];exact hpw.imp (fun hne e=>hne (Option.some.inj e))
 have hp:=(List.perm_ext_iff_of_nodup h1 h2).2 fun o=>by
  rw [List.mem_map,List.mem_map];constructor
  ·rintro⟨x,hx,rfl⟩;obtain⟨k1,hk1,hat⟩:=h.into x hx;have hh:=has_true_of_atKey hat;rw [has_eq,List.any_eq_true]at hh;obtain⟨p,hp,hs⟩:=hh;exact⟨p,hp,by rw [hk1,WideAt.sameKey_eq hs]⟩
  ·rintro⟨p,hp,rfl⟩;obtain⟨v,hv⟩:=hko p hp;obtain⟨x,hx,hk⟩:=h.back p.1 (by rw [has_eq,List.any_eq_true];exact⟨p,hp,WideAt.sameKey_self (keyedRef.key hv)⟩);exact⟨x,hx,hk⟩
 have:=hp.length_eq;simp only [List.length_map]at this;exact this.symm
def clE (C R:Nat→Int) (S:Nat→ByteArray) (n:Nat):List CL:=(List.range n).map fun i=>⟨C i,R i,S i⟩
theorem Qag (C R:Nat→Int) (S:Nat→ByteArray) (n:Nat):clE C R S (n+1)=clE C R S n++ [⟨C n,R n,S n⟩]:=by simp [clE,List.range_succ]
theorem Dz (C R:Nat→Int) (S:Nat→ByteArray) (n:Nat):(clE C R S n).length=n:=by simp [clE]
theorem Gk {α:Type} {p:List α→Prop} (h0:p []) (h1: ∀l x,p l→p (l++ [x])) (l:List α):p l:=by
 have: ∀n (l:List α),l.length=n→p l:=fun n=>by
  induction n with
  | zero=>intro l hl;rw [List.length_eq_zero_iff.1 hl];exact h0
  | succ n ih=>
   intro l hl;have hne:l≠ []:=fun e=>by subst e;cases hl
   rw [←List.dropLast_concat_getLast hne];exact h1 _ _ (ih _ (by rw [List.length_dropLast,hl];rfl))
 exact this _ l rfl
def Us (x y:CL):Bool:=decide (y.c=x.c∧y.r=x.r)
def stC (x:CL) (a:List CL × Bool) (y:CL):List CL × Bool:=(a.1++(if(!a.2&& !ltC y x)=true then [x]else [])++(if Us x y=true then []else [y]),a.2 || !ltC y x)
def XQ (x:CL) (d:Bool) (L:List CL):List CL × Bool:=L.foldl (stC x) ([],d)
theorem Vf (x:CL) (d:Bool) (L:List CL) (y:CL):XQ x d (L++ [y])=stC x (XQ x d L) y:=by simp [XQ,List.foldl_append]
theorem Qg0 (x:CL) (d:Bool): ∀L:List CL,(XQ x d L).1.length≤L.length+(XQ x d L).2.toNat:=fun L=>by
 induction L using Gk with
 | h0=>simp [XQ]
 | h1 L y ih=>
  rw [Vf];obtain⟨⟨a,b⟩,hr⟩: ∃r,XQ x d L=r:=⟨_,rfl⟩;rw [hr]at ih ⊢;cases b<;>cases h3:ltC y x<;>cases h4:Us x y<;>simp [stC,h3,h4]at ih ⊢ <;>omega
theorem Qej (x:CL): ∀L:List CL,XQ x true L=(MQ x.c x.r L,true):=fun L=>by
 induction L using Gk with
 | h0=>rfl
 | h1 L y ih=>
  rw [Vf,ih];simp only [stC,MQ,Us,List.filter_append,List.filter_cons,List.filter_nil];by_cases h:y.c=x.c∧y.r=x.r<;>simp [h]
def Qf9 (x:CL) (L:List CL):List CL:=L.filter (fun y=>ltC y x)
def GU (x:CL) (L:List CL):List CL:=L.filter (fun y=> !ltC y x&& !Us x y)
theorem Qa2 (x:CL): ∀L:List CL,L.Pairwise (fun a b=>ltC a b=true)→XQ x false L=(Qf9 x L++(if L.any (fun y=> !ltC y x)=true then [x]else [])++GU x L,L.any (fun y=> !ltC y x)):=fun L=>by
 induction L using Gk with
 | h0=>intro _;rfl
 | h1 L y ih=>
  intro hp;obtain⟨h1,_,h3⟩:=List.pairwise_append.1 hp;rw [Vf,ih h1];cases hy:ltC y x with
  | true=>
   have hall: ∀z∈L,ltC z x=true:=fun z hz=>by
    have h4:=of_decide_eq_true (h3 z hz y (by simp));have h5:=of_decide_eq_true hy;exact decide_eq_true (by omega)
   have hany:L.any (fun y=> !ltC y x)=false:=by
    rw [List.any_eq_false];intro z hz;simp [hall z hz]
   have haft:GU x L= []:=by
    unfold GU;rw [List.filter_eq_nil_iff];intro z hz;simp [hall z hz]
   have hns:Us x y=false:=decide_eq_false (fun e=>by have h5:=of_decide_eq_true hy;omega);have haft2:=haft;unfold GU at haft2;simp [stC,hany,hy,hns,Qf9,GU,List.filter_append,haft2]
  | false=>
   cases hany:L.any (fun y=> !ltC y x)with
   | true=>
    cases hs:Us x y<;>simp [stC,hany,hy,hs,Qf9,GU,List.filter_append]
   | false=>
    have hall: ∀z∈L,ltC z x=true:=fun z hz=>by
     have:=List.any_eq_false.1 hany z hz;simpa using this
    have haft:GU x L= []:=by
     unfold GU;rw [List.filter_eq_nil_iff];intro z hz;simp [hall z hz]
    have haft2:=haft;unfold GU at haft2;cases hs:Us x y<;>simp [stC,hany,hy,hs,Qf9,GU,List.filter_append,haft2]
def MM (x:CL) (E:List CL):List CL:=if x.s.toList.isEmpty=true then MQ x.c x.r E else Qf9 x E++ [x]++GU x E
theorem Qgx {x:CL} {E:List CL} (h:E.Pairwise (fun a b=>ltC a b=true)):MM x E=(let a:=XQ x x.s.toList.isEmpty E;if a.2=true then a.1 else a.1++ [x]):=by
 unfold MM;cases he:x.s.toList.isEmpty with
 | true=>rw [Qej];rfl
 | false=>
  rw [Qa2 x E h];cases hany:E.any (fun y=> !ltC y x)with
  | true=>simp
  | false=>
   have haft:GU x E= []:=by
    unfold GU;rw [List.filter_eq_nil_iff];intro z hz;have:=List.any_eq_false.1 hany z hz;simp at this;simp [this]
   simp [haft]
theorem Qef (x:CL) (E:List CL):(MM x E).Perm (if x.s.toList.isEmpty=true then MQ x.c x.r E else MQ x.c x.r E++ [x]):=by
 unfold MM;split
 ·exact List.Perm.refl _
 ·have h1:Qf9 x E=(MQ x.c x.r E).filter (fun y=>ltC y x):=by
   unfold Qf9 MQ;rw [List.filter_filter];refine List.filter_congr (fun y _=> ?_);cases h:ltC y x with
   | false=>rfl
   | true=>
    have h5:=of_decide_eq_true h;simp only [Bool.true_and];exact(by simp only [Bool.not_eq_true',decide_eq_false_iff_not];omega:(!decide (y.c=x.c∧y.r=x.r))=true).symm
  have h2:GU x E=(MQ x.c x.r E).filter (fun y=> !ltC y x):=by
   unfold GU MQ;rw [List.filter_filter];rfl
  rw [h1,h2,List.append_assoc];refine((List.perm_append_comm_assoc _ _ _).trans ?_);refine(List.Perm.append_left [x] (List.filter_append_perm _ _)).trans ?_;exact List.perm_append_comm
end Go.Proofs.YtejbnnacghbhoaaGreatDoor
namespace Go.Proofs.YtejbnnacghbhoaaGreatDoor
open Go.RowKit Go.Maps
theorem QR {ops:Array Oper} {rest:List Oper} {o:Oper} {a:Act} {Q:Exit→Act→World→Prop} {W:World} (hgd:o.guard=none) (s x:Operand) (ho:o.op= .call {callee:= .builtin .append,args:= #[s,x],argTypes:= #[24,24]}) (B:Nat) (v:Value) (n:Nat) (L:List CL) (hs:a.eval s=v)
  (hown:W.ownsRow B 55 3 v n (QC CL.cs L)) (c r:Int) (tx:ByteArray) (g:Nat) (hx:a.eval x= .slice (some ⟨g,0,none⟩) 1 1) (h0:W.cell? ⟨g,0,none⟩=some (.int .i64 c)) (h1:W.cell? ⟨g,1,none⟩=some (.int .i64 r)) (h2:W.cell? ⟨g,2,none⟩=some (.string tx)) (hn:n≤1099511627776) (hB:B≤W.heap.size)
  (h: ∀v' w',w'.ownsRow B 55 3 v' (n+1) (QC CL.cs (L++ [⟨c,r,tx⟩]))→W.grownBy w' v.ownBlock→wpList Tryz.prog ops Q rest (a.put o.dst v') w'):wpList Tryz.prog ops Q (o::rest) a W:=by
 obtain⟨i0,hi,iz0,iz1,iz2⟩:=info_parts Qp5;refine wpList_append_own W hgd s x 24 ho B 55 i0 (.agg #[.int .i64 0,.int .i64 0,.string ⟨#[]⟩]) 3 32 Tryz.underlying24 hi iz0 iz1 iz2 rfl (by decide) v n _ hs hown ⟨g,0,none⟩ 1 1 [.int .i64 c,.int .i64 r,.string tx] hx rfl ?_ ?_ ?_ ?_ hB ?_
 ·intro q u hq;match q,hq with
  | 0,hq=>simp at hq;subst hq;simpa [Addr.add]using h0
  | 1,hq=>simp at hq;subst hq;simpa [Addr.add]using h1
  | 2,hq=>simp at hq;subst hq;simpa [Addr.add]using h2
 ·intro u hu;simp at hu;rcases hu with rfl | rfl | rfl<;>rfl
 ·unfold maxLen;omega
 ·omega
 ·intro v' w3 hown' hgrow _;refine h v' w3 ?_ hgrow;rw [Vn];exact hown'
def Qf6 (x:CL) (E:List CL):List CL:=if(XQ x x.s.toList.isEmpty E).2=true then(XQ x x.s.toList.isEmpty E).1 else(XQ x x.s.toList.isEmpty E).1++ [x]
theorem Qaz {A:Option Addr} {n cap:Nat} {C R:Nat→Int} {S:Nat→ByteArray} {p q:Int} {s:ByteArray} (w:World) (h:ClRow w A n C R S) (hn:n≤10000):
  Calls Tryz.prog 110 #[.slice A n cap,.agg #[.int .i64 p,.int .i64 q],.string s] w fun e w'=> ∃A' c' m,e= .returned (.slice A' m c')∧(Qf6 ⟨p,q,s⟩ (clE C R S n)).length=m∧w'.ownsRow w.heap.size 55 3 (.slice A' m c') m (QC CL.cs (Qf6 ⟨p,q,s⟩ (clE C R S n)))∧Below w.heap.size w w':=by
 have HR:Hid (ClRow w A n C R S):=h;clear h;obtain⟨x,HX⟩: ∃x:CL,Hid (x=⟨p,q,s⟩):=⟨_,rfl⟩;have HXE:Hid ((⟨p,q,s⟩:CL)=x):=HX.out.symm;rw [HXE.out];obtain⟨d0,HD0⟩: ∃d0:Bool,Hid (s.toList.isEmpty=d0):=⟨_,rfl⟩;have hd0:=HD0.out
 go_enter Tryz.func110,Tryz.ntmps110;go_wp2_with fail
 obtain⟨u,HU⟩: ∃u,Hid (w.alloc (.cells #[.int .i64 p,.int .i64 q] 26)=u):=⟨_,rfl⟩;have HBU:Hid (Below w.heap.size w u):=by rw [←HU.out];exact(Below.refl _ _).alloc (Nat.le_refl _) _
 have HUS:Hid (u.heap.size=w.heap.size+1):=by show _=_;rw [←HU.out];simp
 have p0:u.cell? ⟨w.heap.size,0,none⟩=some (.int .i64 p):=by rw [←HU.out];go_simp
 have p1:u.cell? ⟨w.heap.size,1,none⟩=some (.int .i64 q):=by rw [←HU.out];go_simp
 have P0:Hid (u.cell? ⟨w.heap.size,0,none⟩=some (.int .i64 p)):=p0;have P1:Hid (u.cell? ⟨w.heap.size,1,none⟩=some (.int .i64 q)):=p1;clear p0 p1;rw [HU.out];have HE0:Hid ((u.alloc (.cells #[] 55)).ownsRow u.heap.size 55 3 (.slice (some ⟨u.heap.size,0,none⟩) 0 0) 0 []):=own_empty (Nat.le_refl _) rfl;go_loopw [7,8,9] (fun v b i wr=> ∃(t:Nat) (A':Option Addr) (k c:Nat),t≤n∧v= .slice A' k c∧b= .bool (XQ x d0 (clE C R S t)).2∧i= .int .i64 t∧(XQ x d0 (clE C R S t)).1.length=k∧wr.ownsRow u.heap.size 55 3 (.slice A' k c) k (QC CL.cs (XQ x d0 (clE C R S t)).1)∧Below u.heap.size u wr) (fun _ _ i _=>n-(intOf i).toNat)
 case atStart=>exact⟨0,_,0,0,Nat.zero_le _,rfl,rfl,rfl,rfl,by have h9:=HE0.out;rw [HUS.out]at h9;rw [HUS.out];exact h9,(Below.refl _ _).alloc (Nat.le_refl _) _⟩
 case round=>
  obtain⟨t,A',k,c,ht,rfl,rfl,rfl,hkl,hown,hbel⟩:=hrel;obtain⟨⟨LT,dn⟩,HLT⟩: ∃r,Hid (XQ x d0 (clE C R S t)=r):=⟨_,rfl⟩;rw [HLT.out]at hkl hown ⊢;have HOW:Hid (wr.ownsRow u.heap.size 55 3 (.slice A' k c) k (QC CL.cs LT)):=hown;have HKL:Hid (LT.length=k):=hkl
  have HKT:Hid (k≤t+1):=by
   have h9:=Qg0 x d0 (clE C R S t);rw [HLT.out,Dz]at h9;show k≤t+1;rw [←HKL.out];have h8:dn.toNat≤1:=by cases dn<;>decide
   simp only at h9;omega
  have hkt:=HKT.out;have KV:Hid (Below u.heap.size u wr):=hbel;have hsv:=hbel.size;have KA:Hid (Below w.heap.size w wr):=HBU.out.trans (hbel.mono (by have:=HUS.out;omega));have y0:=(hbel.cell (p:=⟨w.heap.size,0,none⟩) (by show w.heap.size<u.heap.size;have:=HUS.out;omega)).trans P0.out;have y1:=(hbel.cell (p:=⟨w.heap.size,1,none⟩) (by show w.heap.size<u.heap.size;have:=HUS.out;omega)).trans P1.out;have yz:w.heap.size<wr.heap.size:=by have:=HUS.out;omega
  clear hown hkl hbel;by_cases hlt:t<n
  ·obtain⟨b,o,rfl,hl,c0,c1,c2,_⟩:=HR.out.2 t hlt;rw [←KA.out.cell (p:=⟨_,_,none⟩) hl]at c0 c1 c2;have hl2:b<wr.heap.size:=Nat.lt_of_lt_of_le hl KA.out.size;have HBL:Hid (b<w.heap.size):=hl;have q0:(0:Int)≤(t:Int):=by omega
   have q1:(t:Int)<(n:Int):=by omega
   obtain⟨y,HY⟩: ∃y:CL,Hid (y=⟨C t,R t,S t⟩):=⟨_,rfl⟩;have HRN:Hid (XQ x d0 (clE C R S (t+1))=stC x (LT,dn) y):=by show _=_;rw [Qag,←HY.out,Vf,HLT.out]
   obtain⟨ah,HA⟩: ∃ah:Bool,Hid (Zy (C t) (R t) p q=ah):=⟨_,rfl⟩;have HLA:Hid (ltC y x=ah):=by show _=_;rw [HY.out,HX.out];exact HA.out
   have SX:Hid (∀v,stC x (LT,dn) y=v→XQ x d0 (clE C R S (t+1))=v):=fun v h9=>HRN.out.trans h9;go_upto_region 6 with fail
   go_cut [30]from 13 to 50 (fun v wx=>v= .bool (!dn&& !ah)∧Below wr.heap.size wr wx)
   case first=>
    cases dn
    ·go_region_held3 (fun w'=>(∀bq oq,bq<wr.heap.size→w'.cell? ⟨bq,oq,none⟩=wr.cell? ⟨bq,oq,none⟩)∧wr.heap.size≤w'.heap.size∧Below wr.heap.size wr w')
      (exact Qq (Nat.le_refl _) (by go_grown))
      (first
      | (go_at_call 77;refine(Kv _ _ _ _ _).mono ?_;rintro e w1 ⟨rfl,hb⟩;rw [HA.out];obtain⟨hk1,hz1⟩:=Qh (B:=wr.heap.size) (X:=wr) (by go_grown) (by go_size) hb;have hC:=fun b o h=>hk1.cell (p:=⟨b,o,none⟩) h;clear hb))
     all_goals
      go_wp2_with fail
      go_meet;exact⟨rfl,by go_grown⟩
    ·go_quiet (fail)
     go_wp2_with fail
     go_meet;exact⟨rfl,below_drewN (Below.refl _ _) _⟩
   case rest=>
    obtain⟨rfl,hbx⟩:=hcut;have KC:Hid (Below u.heap.size u wc):=KV.out.trans (hbx.mono hsv);have HOc:=hd (Qi HOW.out hbx);replace y0:=(hbx.cell (p:=⟨w.heap.size,0,none⟩) yz).trans y0;replace y1:=(hbx.cell (p:=⟨w.heap.size,1,none⟩) yz).trans y1;replace c0:=(hbx.cell (p:=⟨b,_,none⟩) hl2).trans c0;replace c1:=(hbx.cell (p:=⟨b,_,none⟩) hl2).trans c1
    replace c2:=(hbx.cell (p:=⟨b,_,none⟩) hl2).trans c2;have zx:=hbx.size;replace yz:w.heap.size<wc.heap.size:=by omega
    replace hl2:b<wc.heap.size:=by omega
    have hsc:u.heap.size≤wc.heap.size:=by omega
    clear hbx KV KA HOW;have hor:(!dn&& !ah)=false→(dn || !ah)=dn:=by cases dn<;>cases ah<;>simp
    have hor2:(!dn&& !ah)=true→(dn || !ah)=true:=by cases dn<;>cases ah<;>simp
    have HOR:Hid ((!dn&& !ah)=false→(dn || !ah)=dn):=hor;have HOR2:Hid ((!dn&& !ah)=true→(dn || !ah)=true):=hor2;clear hor hor2;by_cases hsame:C t=p∧R t=q
    ·have HSM:Hid (Us x y=true):=by show _=_;rw [HY.out,HX.out];exact decide_eq_true hsame
     cases hput:(!dn&& !ah)
     ·have HI:Hid (XQ x d0 (clE C R S (t+1))=(LT,dn)):=by
       show _=_;rw [HRN.out,stC,HLA.out,HSM.out,if_neg (by rw [hput];decide),if_pos rfl,List.append_nil,List.append_nil,HOR.out hput]
      go_wp2_with fail
      go_quiet (fail)
      go_wp2_with fail
      go_roundw
      case rel=>exact⟨t+1,A',k,c,by omega,rfl,by rw [HI.out],by go_num,by rw [HI.out];exact HKL.out,by rw [HI.out];exact Qi HOc.out (below_drewN (Below.refl _ _) _),below_drewN KC.out _⟩
      case measure=>simp [intOf];omega
     ·have HI:Hid (XQ x d0 (clE C R S (t+1))=(LT++ [⟨p,q,s⟩],true)):=by
       show _=_;rw [HRN.out,stC,HLA.out,HSM.out,if_pos hput,if_pos rfl,List.append_nil,HOR2.out hput,HXE.out]
      go_wp2_with (first
       | (at_builtin;refine QR rfl _ _ rfl u.heap.size (.slice A' k c) k LT rfl (HOc.out.alloc _) p q s wc.heap.size rfl (by simp [go_sem]) (by simp [go_sem]) (by simp [go_sem]) (by omega) (by simp;omega) ?_)
       | fail)
      intro va w6 ho hg;obtain⟨F6,h6,rfl,_,_⟩:=Qu ho;have hba:Below wc.heap.size wc (wc.alloc (.cells #[.int .i64 p,.int .i64 q,.string s] 55)):=(Below.refl _ _).alloc (Nat.le_refl _) _;have HO6:Hid (w6.ownsRow u.heap.size 55 3 (.slice F6 (k+1) h6) (k+1) (QC CL.cs (LT++ [⟨p,q,s⟩]))):=ho;have K6:Hid (Below u.heap.size u w6):=(KC.out.alloc hsc _).grown hg (by simp;omega) (fun j hj=>(HOc.out.lt j hj).1);have nB:some b≠(Value.slice A' k c).ownBlock:=fun e=>by have h8:=(HOc.out.lt _ e.symm).1;have h9:=HBL.out;have:=HUS.out;omega
      have nW:some w.heap.size≠(Value.slice A' k c).ownBlock:=fun e=>by have h8:=(HOc.out.lt _ e.symm).1;have:=HUS.out;omega
      replace c0:=hg.cell ((hba.cell (p:=⟨b,_,none⟩) hl2).trans c0) nB;replace c1:=hg.cell ((hba.cell (p:=⟨b,_,none⟩) hl2).trans c1) nB;replace c2:=hg.cell ((hba.cell (p:=⟨b,_,none⟩) hl2).trans c2) nB;replace y0:=hg.cell ((hba.cell (p:=⟨w.heap.size,0,none⟩) yz).trans y0) nW;replace y1:=hg.cell ((hba.cell (p:=⟨w.heap.size,1,none⟩) yz).trans y1) nW;have sz6:wc.heap.size≤w6.heap.size:=Nat.le_trans hba.size hg.size;replace hl2:b<w6.heap.size:=Nat.lt_of_lt_of_le hl2 sz6
      replace yz:w.heap.size<w6.heap.size:=Nat.lt_of_lt_of_le yz sz6;have hs6:u.heap.size≤w6.heap.size:=Nat.le_trans hsc sz6;clear ho hg hba;go_wp2_with fail
      go_quiet (fail)
      go_wp2_with fail
      go_roundw
      case rel=>exact⟨t+1,F6,k+1,h6,by omega,rfl,by rw [HI.out],by go_num,by rw [HI.out];simp [HKL.out],by rw [HI.out];exact Qi HO6.out (below_drewN (Below.refl _ _) _),below_drewN K6.out _⟩
      case measure=>simp [intOf];omega
    ·have HSM:Hid (Us x y=false):=by show _=_;rw [HY.out,HX.out];exact decide_eq_false hsame
     by_cases e1:C t=p
     ·have e1c:(C t==p)=true:=beq_iff_eq.2 e1;have e2: ¬R t=q:=fun e=>hsame ⟨e1,e⟩;have e2b:(R t==q)=false:=beq_eq_false_iff_ne.2 e2;clear hsame;cases hput:(!dn&& !ah)
      ·have HI:Hid (XQ x d0 (clE C R S (t+1))=(LT++ [⟨C t,R t,S t⟩],dn)):=by
        show _=_;rw [HRN.out,stC,HLA.out,HSM.out,if_neg (by rw [hput];decide),if_neg (by decide),List.append_nil,HOR.out hput,←HY.out]
       go_wp2_with fail
       go_quiet (fail)
       obtain⟨wq,HWQ⟩: ∃wq,Hid (wc.drewN nq=wq):=⟨_,rfl⟩;rw [HWQ.out];have hbq:Below wc.heap.size wc wq:=by rw [←HWQ.out];exact below_drewN (Below.refl _ _) _
       replace c0:=(hbq.cell (p:=⟨b,_,none⟩) hl2).trans c0;replace c1:=(hbq.cell (p:=⟨b,_,none⟩) hl2).trans c1;replace c2:=(hbq.cell (p:=⟨b,_,none⟩) hl2).trans c2;have HOd:=hd (Qi HOc.out hbq);have KQ:Hid (Below u.heap.size u wq):=KC.out.trans (hbq.mono hsc);have hsq:u.heap.size≤wq.heap.size:=Nat.le_trans hsc hbq.size;replace hl2:b<wq.heap.size:=Nat.lt_of_lt_of_le hl2 hbq.size
       clear hbq
       go_wp2_with (first
        | (at_builtin;refine QR rfl _ _ rfl u.heap.size (.slice A' (k) c) (k) (LT) rfl (HOd.out.alloc _) (C t) (R t) (S t) wq.heap.size rfl (by simp [go_sem, *]) (by simp [go_sem, *]) (by simp [go_sem, *]) (by omega) (by simp;omega) ?_)
        | fail)
       intro va w7 ho hg;obtain⟨F7,h7,rfl,_,_⟩:=Qu ho
       have HO7:Hid (w7.ownsRow u.heap.size 55 3 (.slice F7 (k+1) h7) (k+1) (QC CL.cs (LT++ [⟨C t,R t,S t⟩]))):=by
        show w7.ownsRow u.heap.size 55 3 (.slice F7 (k+1) h7) (k+1) (QC CL.cs (LT++ [⟨C t,R t,S t⟩]));first | exact ho | (rw [e1];exact ho) | (rw [List.append_assoc];exact ho) | (rw [List.append_assoc,e1];exact ho)
       have K7:Hid (Below u.heap.size u w7):=(KQ.out.alloc hsq _).grown hg (by simp;omega) (fun j hj=>(HOd.out.lt j hj).1);clear ho hg;go_wp2_with fail
       go_roundw
       case rel=>exact⟨t+1,F7,k+1,h7,by omega,rfl,by rw [HI.out],by go_num,by rw [HI.out];simp [HKL.out],by rw [HI.out];exact HO7.out,K7.out⟩
       case measure=>simp [intOf];omega
      ·have HI:Hid (XQ x d0 (clE C R S (t+1))=(LT++ [⟨p,q,s⟩]++ [⟨C t,R t,S t⟩],true)):=by
        show _=_;rw [HRN.out,stC,HLA.out,HSM.out,if_pos hput,if_neg (by decide),HOR2.out hput,HXE.out,←HY.out]
       go_wp2_with (first
        | (at_builtin;refine QR rfl _ _ rfl u.heap.size (.slice A' k c) k LT rfl (HOc.out.alloc _) p q s wc.heap.size rfl (by simp [go_sem]) (by simp [go_sem]) (by simp [go_sem]) (by omega) (by simp;omega) ?_)
        | fail)
       intro va w6 ho hg;obtain⟨F6,h6,rfl,_,_⟩:=Qu ho;have hba:Below wc.heap.size wc (wc.alloc (.cells #[.int .i64 p,.int .i64 q,.string s] 55)):=(Below.refl _ _).alloc (Nat.le_refl _) _;have HO6:Hid (w6.ownsRow u.heap.size 55 3 (.slice F6 (k+1) h6) (k+1) (QC CL.cs (LT++ [⟨p,q,s⟩]))):=ho;have K6:Hid (Below u.heap.size u w6):=(KC.out.alloc hsc _).grown hg (by simp;omega) (fun j hj=>(HOc.out.lt j hj).1);have nB:some b≠(Value.slice A' k c).ownBlock:=fun e=>by have h8:=(HOc.out.lt _ e.symm).1;have h9:=HBL.out;have:=HUS.out;omega
       have nW:some w.heap.size≠(Value.slice A' k c).ownBlock:=fun e=>by have h8:=(HOc.out.lt _ e.symm).1;have:=HUS.out;omega
       replace c0:=hg.cell ((hba.cell (p:=⟨b,_,none⟩) hl2).trans c0) nB;replace c1:=hg.cell ((hba.cell (p:=⟨b,_,none⟩) hl2).trans c1) nB;replace c2:=hg.cell ((hba.cell (p:=⟨b,_,none⟩) hl2).trans c2) nB;replace y0:=hg.cell ((hba.cell (p:=⟨w.heap.size,0,none⟩) yz).trans y0) nW;replace y1:=hg.cell ((hba.cell (p:=⟨w.heap.size,1,none⟩) yz).trans y1) nW;have sz6:wc.heap.size≤w6.heap.size:=Nat.le_trans hba.size hg.size;replace hl2:b<w6.heap.size:=Nat.lt_of_lt_of_le hl2 sz6
       replace yz:w.heap.size<w6.heap.size:=Nat.lt_of_lt_of_le yz sz6;have hs6:u.heap.size≤w6.heap.size:=Nat.le_trans hsc sz6;clear ho hg hba;go_wp2_with fail
       go_quiet (fail)
       obtain⟨wq,HWQ⟩: ∃wq,Hid (w6.drewN nq=wq):=⟨_,rfl⟩;rw [HWQ.out];have hbq:Below w6.heap.size w6 wq:=by rw [←HWQ.out];exact below_drewN (Below.refl _ _) _
       replace c0:=(hbq.cell (p:=⟨b,_,none⟩) hl2).trans c0;replace c1:=(hbq.cell (p:=⟨b,_,none⟩) hl2).trans c1;replace c2:=(hbq.cell (p:=⟨b,_,none⟩) hl2).trans c2;have HOd:=hd (Qi HO6.out hbq);have KQ:Hid (Below u.heap.size u wq):=K6.out.trans (hbq.mono hs6);have hsq:u.heap.size≤wq.heap.size:=Nat.le_trans hs6 hbq.size;replace hl2:b<wq.heap.size:=Nat.lt_of_lt_of_le hl2 hbq.size
       clear hbq
       go_wp2_with (first
        | (at_builtin;refine QR rfl _ _ rfl u.heap.size (.slice F6 (k+1) h6) (k+1) (LT++ [⟨p,q,s⟩]) rfl (HOd.out.alloc _) (C t) (R t) (S t) wq.heap.size rfl (by simp [go_sem, *]) (by simp [go_sem, *]) (by simp [go_sem, *]) (by omega) (by simp;omega) ?_)
        | fail)
       intro va w7 ho hg;obtain⟨F7,h7,rfl,_,_⟩:=Qu ho
       have HO7:Hid (w7.ownsRow u.heap.size 55 3 (.slice F7 (k+1+1) h7) (k+1+1) (QC CL.cs (LT++ [⟨p,q,s⟩]++ [⟨C t,R t,S t⟩]))):=by
        show w7.ownsRow u.heap.size 55 3 (.slice F7 (k+1+1) h7) (k+1+1) (QC CL.cs (LT++ [⟨p,q,s⟩]++ [⟨C t,R t,S t⟩]));first | exact ho | (rw [e1];exact ho) | (rw [List.append_assoc];exact ho) | (rw [List.append_assoc,e1];exact ho)
       have K7:Hid (Below u.heap.size u w7):=(KQ.out.alloc hsq _).grown hg (by simp;omega) (fun j hj=>(HOd.out.lt j hj).1);clear ho hg;go_wp2_with fail
       go_roundw
       case rel=>exact⟨t+1,F7,k+1+1,h7,by omega,rfl,by rw [HI.out],by go_num,by rw [HI.out];simp [HKL.out],by rw [HI.out];exact HO7.out,K7.out⟩
       case measure=>simp [intOf];omega
     ·have e1b:(C t==p)=false:=beq_eq_false_iff_ne.2 e1;clear hsame;cases hput:(!dn&& !ah)
      ·have HI:Hid (XQ x d0 (clE C R S (t+1))=(LT++ [⟨C t,R t,S t⟩],dn)):=by
        show _=_;rw [HRN.out,stC,HLA.out,HSM.out,if_neg (by rw [hput];decide),if_neg (by decide),List.append_nil,HOR.out hput,←HY.out]
       go_wp2_with fail
       go_quiet (fail)
       obtain⟨wq,HWQ⟩: ∃wq,Hid (wc.drewN nq=wq):=⟨_,rfl⟩;rw [HWQ.out];have hbq:Below wc.heap.size wc wq:=by rw [←HWQ.out];exact below_drewN (Below.refl _ _) _
       replace c0:=(hbq.cell (p:=⟨b,_,none⟩) hl2).trans c0;replace c1:=(hbq.cell (p:=⟨b,_,none⟩) hl2).trans c1;replace c2:=(hbq.cell (p:=⟨b,_,none⟩) hl2).trans c2;have HOd:=hd (Qi HOc.out hbq);have KQ:Hid (Below u.heap.size u wq):=KC.out.trans (hbq.mono hsc);have hsq:u.heap.size≤wq.heap.size:=Nat.le_trans hsc hbq.size;replace hl2:b<wq.heap.size:=Nat.lt_of_lt_of_le hl2 hbq.size
       clear hbq
       go_wp2_with (first
        | (at_builtin;refine QR rfl _ _ rfl u.heap.size (.slice A' (k) c) (k) (LT) rfl (HOd.out.alloc _) (C t) (R t) (S t) wq.heap.size rfl (by simp [go_sem, *]) (by simp [go_sem, *]) (by simp [go_sem, *]) (by omega) (by simp;omega) ?_)
        | fail)
       intro va w7 ho hg;obtain⟨F7,h7,rfl,_,_⟩:=Qu ho
       have HO7:Hid (w7.ownsRow u.heap.size 55 3 (.slice F7 (k+1) h7) (k+1) (QC CL.cs (LT++ [⟨C t,R t,S t⟩]))):=by
        show w7.ownsRow u.heap.size 55 3 (.slice F7 (k+1) h7) (k+1) (QC CL.cs (LT++ [⟨C t,R t,S t⟩]));first | exact ho | (rw [e1];exact ho) | (rw [List.append_assoc];exact ho) | (rw [List.append_assoc,e1];exact ho)
       have K7:Hid (Below u.heap.size u w7):=(KQ.out.alloc hsq _).grown hg (by simp;omega) (fun j hj=>(HOd.out.lt j hj).1);clear ho hg;go_wp2_with fail
       go_roundw
       case rel=>exact⟨t+1,F7,k+1,h7,by omega,rfl,by rw [HI.out],by go_num,by rw [HI.out];simp [HKL.out],by rw [HI.out];exact HO7.out,K7.out⟩
       case measure=>simp [intOf];omega
      ·have HI:Hid (XQ x d0 (clE C R S (t+1))=(LT++ [⟨p,q,s⟩]++ [⟨C t,R t,S t⟩],true)):=by
        show _=_;rw [HRN.out,stC,HLA.out,HSM.out,if_pos hput,if_neg (by decide),HOR2.out hput,HXE.out,←HY.out]
       go_wp2_with (first
        | (at_builtin;refine QR rfl _ _ rfl u.heap.size (.slice A' k c) k LT rfl (HOc.out.alloc _) p q s wc.heap.size rfl (by simp [go_sem]) (by simp [go_sem]) (by simp [go_sem]) (by omega) (by simp;omega) ?_)
        | fail)
       intro va w6 ho hg;obtain⟨F6,h6,rfl,_,_⟩:=Qu ho;have hba:Below wc.heap.size wc (wc.alloc (.cells #[.int .i64 p,.int .i64 q,.string s] 55)):=(Below.refl _ _).alloc (Nat.le_refl _) _;have HO6:Hid (w6.ownsRow u.heap.size 55 3 (.slice F6 (k+1) h6) (k+1) (QC CL.cs (LT++ [⟨p,q,s⟩]))):=ho;have K6:Hid (Below u.heap.size u w6):=(KC.out.alloc hsc _).grown hg (by simp;omega) (fun j hj=>(HOc.out.lt j hj).1);have nB:some b≠(Value.slice A' k c).ownBlock:=fun e=>by have h8:=(HOc.out.lt _ e.symm).1;have h9:=HBL.out;have:=HUS.out;omega
       have nW:some w.heap.size≠(Value.slice A' k c).ownBlock:=fun e=>by have h8:=(HOc.out.lt _ e.symm).1;have:=HUS.out;omega
       replace c0:=hg.cell ((hba.cell (p:=⟨b,_,none⟩) hl2).trans c0) nB;replace c1:=hg.cell ((hba.cell (p:=⟨b,_,none⟩) hl2).trans c1) nB;replace c2:=hg.cell ((hba.cell (p:=⟨b,_,none⟩) hl2).trans c2) nB;replace y0:=hg.cell ((hba.cell (p:=⟨w.heap.size,0,none⟩) yz).trans y0) nW;replace y1:=hg.cell ((hba.cell (p:=⟨w.heap.size,1,none⟩) yz).trans y1) nW;have sz6:wc.heap.size≤w6.heap.size:=Nat.le_trans hba.size hg.size;replace hl2:b<w6.heap.size:=Nat.lt_of_lt_of_le hl2 sz6
       replace yz:w.heap.size<w6.heap.size:=Nat.lt_of_lt_of_le yz sz6;have hs6:u.heap.size≤w6.heap.size:=Nat.le_trans hsc sz6;clear ho hg hba;go_wp2_with fail
       go_quiet (fail)
       obtain⟨wq,HWQ⟩: ∃wq,Hid (w6.drewN nq=wq):=⟨_,rfl⟩;rw [HWQ.out];have hbq:Below w6.heap.size w6 wq:=by rw [←HWQ.out];exact below_drewN (Below.refl _ _) _
       replace c0:=(hbq.cell (p:=⟨b,_,none⟩) hl2).trans c0;replace c1:=(hbq.cell (p:=⟨b,_,none⟩) hl2).trans c1;replace c2:=(hbq.cell (p:=⟨b,_,none⟩) hl2).trans c2;have HOd:=hd (Qi HO6.out hbq);have KQ:Hid (Below u.heap.size u wq):=K6.out.trans (hbq.mono hs6);have hsq:u.heap.size≤wq.heap.size:=Nat.le_trans hs6 hbq.size;replace hl2:b<wq.heap.size:=Nat.lt_of_lt_of_le hl2 hbq.size
       clear hbq
       go_wp2_with (first
        | (at_builtin;refine QR rfl _ _ rfl u.heap.size (.slice F6 (k+1) h6) (k+1) (LT++ [⟨p,q,s⟩]) rfl (HOd.out.alloc _) (C t) (R t) (S t) wq.heap.size rfl (by simp [go_sem, *]) (by simp [go_sem, *]) (by simp [go_sem, *]) (by omega) (by simp;omega) ?_)
        | fail)
       intro va w7 ho hg;obtain⟨F7,h7,rfl,_,_⟩:=Qu ho
       have HO7:Hid (w7.ownsRow u.heap.size 55 3 (.slice F7 (k+1+1) h7) (k+1+1) (QC CL.cs (LT++ [⟨p,q,s⟩]++ [⟨C t,R t,S t⟩]))):=by
        show w7.ownsRow u.heap.size 55 3 (.slice F7 (k+1+1) h7) (k+1+1) (QC CL.cs (LT++ [⟨p,q,s⟩]++ [⟨C t,R t,S t⟩]));first | exact ho | (rw [e1];exact ho) | (rw [List.append_assoc];exact ho) | (rw [List.append_assoc,e1];exact ho)
       have K7:Hid (Below u.heap.size u w7):=(KQ.out.alloc hsq _).grown hg (by simp;omega) (fun j hj=>(HOd.out.lt j hj).1);clear ho hg;go_wp2_with fail
       go_roundw
       case rel=>exact⟨t+1,F7,k+1+1,h7,by omega,rfl,by rw [HI.out],by go_num,by rw [HI.out];simp [HKL.out],by rw [HI.out];exact HO7.out,K7.out⟩
       case measure=>simp [intOf];omega
  ·have h1: ¬(t:Int)<(n:Int):=by omega
   obtain rfl:n=t:=by omega
   have HXS:Hid (x.s.toList.isEmpty=d0):=by show _=_;rw [HX.out];exact HD0.out
   cases dn
   ·have HI:Hid (Qf6 x (clE C R S n)=LT++ [⟨p,q,s⟩]):=by show _=_;rw [Qf6,HXS.out,HLT.out,if_neg (fun e=>by cases e),HXE.out]
    go_wp2_with (first
     | (at_builtin;refine QR rfl _ _ rfl u.heap.size (.slice A' k c) k LT rfl (HOW.out.alloc _) p q s wr.heap.size rfl (by simp [go_sem]) (by simp [go_sem]) (by simp [go_sem]) (by omega) (by simp;omega) ?_)
     | fail)
    intro va w6 ho hg;obtain⟨F6,h6,rfl,_,_⟩:=Qu ho;have HO6:Hid (w6.ownsRow u.heap.size 55 3 (.slice F6 (k+1) h6) (k+1) (QC CL.cs (LT++ [⟨p,q,s⟩]))):=ho;have K6:Hid (Below u.heap.size u w6):=(KV.out.alloc hsv _).grown hg (by simp;omega) (fun j hj=>(HOW.out.lt j hj).1);clear ho hg;go_wp2_with fail
    go_ret;refine⟨F6,h6,k+1,rfl,by rw [HI.out];simp [HKL.out],?_,HBU.out.trans (K6.out.mono (by have:=HUS.out;omega))⟩;rw [HI.out];exact ownsRow_base_a HO6.out (by have:=HUS.out;omega)
   ·have HI:Hid (Qf6 x (clE C R S n)=LT):=by show _=_;rw [Qf6,HXS.out,HLT.out,if_pos rfl]
    go_wp2_with fail
    go_ret;refine⟨A',c,k,rfl,by rw [HI.out];exact HKL.out,?_,KA.out⟩;rw [HI.out];exact ownsRow_base_a HOW.out (by have:=HUS.out;omega)
theorem Qlk {C R:Nat→Int} {S:Nat→ByteArray} {n:Nat} (h:Yv C R n=true):(∀i,i<n→Qg (C i) (R i)=true)∧(clE C R S n).Pairwise (fun a b=>ltC a b=true):=by
 have hr: ∀i,i<n→QY C R i=true:=fun i hi=>List.all_eq_true.1 h i (List.mem_range.2 hi)
 have hs: ∀i,i+1<n→Zy (C i) (R i) (C (i+1)) (R (i+1))=true:=fun i hi=>by
  have h9:=hr (i+1) hi;simp only [QY,Bool.and_eq_true,Bool.or_eq_true,decide_eq_true_eq]at h9;rcases h9.2 with e | e
  ·omega
  ·exact e
 have ht: ∀i j,i<j→j<n→Zy (C i) (R i) (C j) (R j)=true:=fun i j=>by
  induction j with
  | zero=>intro hi;omega
  | succ j ih=>
   intro hi hj;have h1:=hs j hj;by_cases e:i=j
   ·subst e;exact h1
   ·have h2:=of_decide_eq_true (ih (by omega) (by omega));have h3:=of_decide_eq_true h1;exact decide_eq_true (by omega)
 refine⟨fun i hi=> ?_,?_⟩
 ·have h9:=hr i hi;simp only [QY,Bool.and_eq_true]at h9;exact h9.1
 ·rw [List.pairwise_iff_getElem];intro i j hi hj hij;rw [Dz]at hi hj;simp only [clE,List.getElem_map,List.getElem_range];exact ht i j hij hj
theorem Qp6 {s t:ByteArray} (h:inF s=some t):t.size≤200:=by
 unfold inF at h;split at h
 ·unfold lim at h;split at h
  ·split at h
   ·cases h;assumption
   ·cases h
  ·cases h
 ·cases h
theorem Qnv {C R:Nat→Int} {S:Nat→ByteArray} {n:Nat} (h:QD C R S n=true):n≤120∧(∀i,i<n→Qg (C i) (R i)=true)∧(clE C R S n).Pairwise (fun a b=>ltC a b=true):=by
 unfold QD at h;simp only [Bool.and_eq_true,decide_eq_true_eq]at h;exact⟨h.1.1,Qlk h.1.2⟩
end Go.Proofs.YtejbnnacghbhoaaGreatDoor
