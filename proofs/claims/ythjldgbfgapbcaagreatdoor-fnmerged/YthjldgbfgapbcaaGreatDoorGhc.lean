import Derived.Test.YthjldgbfgapbcaaGreatDoorGze
import Derived.Test.YthjldgbfgapbcaaGreatDoorGge
import Derived.Test.YthjldgbfgapbcaaGreatDoorMn
set_option linter.unusedSimpArgs false
set_option linter.unusedVariables false
set_option maxHeartbeats 8000000
set_option maxRecDepth 100000
namespace Go.Proofs.YthjldgbfgapbcaaGreatDoor
open Go.RowKit
theorem NU {C R:Nat→Int} {S:Nat→ByteArray} {n:Nat} (h:Qm C R S n=true): ∀i,i<n→(S i).toList.isEmpty=false:=fun i hi=>by
 unfold Qm at h;simp only [Bool.and_eq_true,List.all_eq_true]at h;have h9:=h.2 i (List.mem_range.2 hi);unfold Yz at h9;simp only [Bool.and_eq_true,Bool.not_eq_true']at h9;exact h9.1
end Go.Proofs.YthjldgbfgapbcaaGreatDoor
namespace Go.Proofs.YthjldgbfgapbcaaGreatDoor
open Go.RowKit Go.Maps
theorem Yt {α:Type} {r:α→α→Prop} (irr: ∀x y,r x y→r y x→False): ∀{l1 l2:List α},l1.Pairwise r→l2.Pairwise r→(∀x,x∈l1↔x∈l2)→l1=l2
 | [],[],_,_,_=>rfl
 | [],y::l2,_,_,h=>absurd ((h y).2 (by simp)) (by simp)
 | x::l1,[],_,_,h=>absurd ((h x).1 (by simp)) (by simp)
 | x::l1,y::l2,h1,h2,h=>by
  obtain⟨a1,b1⟩:=List.pairwise_cons.1 h1;obtain⟨a2,b2⟩:=List.pairwise_cons.1 h2
  have e:x=y:=by
   rcases List.mem_cons.1 ((h x).1 (by simp))with e | e
   ·exact e
   ·rcases List.mem_cons.1 ((h y).2 (by simp))with e2 | e2
    ·exact e2.symm
    ·exact(irr _ _ (a2 x e) (a1 y e2)).elim
  subst e;congr 1
  refine Yt irr b1 b2 (fun z=>⟨fun hz=> ?_,fun hz=> ?_⟩)
  ·rcases List.mem_cons.1 ((h z).1 (by simp [hz]))with e | e
   ·subst e;exact(irr _ _ (a1 z hz) (a1 z hz)).elim
   ·exact e
  ·rcases List.mem_cons.1 ((h z).2 (by simp [hz]))with e | e
   ·subst e;exact(irr _ _ (a2 z hz) (a2 z hz)).elim
   ·exact e
theorem Nr (p q:Int) (x:CL) (a:List CL):atC p q (x::a)=if x.c=p∧x.r=q then x.s else atC p q a:=by
 unfold atC;rw [List.find?_cons];by_cases h:x.c=p∧x.r=q<;>simp [h]
theorem Qj7 {p q:Int} {a:List CL} (h: ∀x∈a,¬(x.c=p∧x.r=q)):atC p q a=⟨#[]⟩:=by
 unfold atC;rw [List.find?_eq_none.2 (fun x hx=>by simpa using h x hx)];rfl
def Zo (p q:Int) (a:List CL):Prop:= ∃x∈a,x.c=p∧x.r=q
theorem VC {p q:Int} {x:CL} {a:List CL}:Zo p q (x::a)↔(x.c=p∧x.r=q)∨Zo p q a:=by
 unfold Zo;constructor
 ·rintro⟨y,hy,h⟩;rcases List.mem_cons.1 hy with rfl | hy
  ·exact .inl h
  ·exact .inr ⟨y,hy,h⟩
 ·rintro(h | ⟨y,hy,h⟩)
  ·exact⟨x,by simp,h⟩
  ·exact⟨y,by simp [hy],h⟩
theorem Yx {p q:Int} {a:List CL} (h: ¬Zo p q a):atC p q a=⟨#[]⟩:=Qj7 (fun x hx e=>h ⟨x,hx,e⟩)
theorem XZ {p q:Int} {x:CL} {a:List CL} (h: ∀y∈a,ltC x y=true) (hp:Zo p q a):QF x.c x.r p q=true:=by
 obtain⟨y,hy,e1,e2⟩:=hp;have:=h y hy;rw [ltC,e1,e2]at this;exact this
def dfM:List CL→List CL→List CH
 | [],[]=> []
 | x::a,[]=>⟨x.c,x.r,x.s,⟨#[]⟩⟩::dfM a []
 | [],y::b=>⟨y.c,y.r,⟨#[]⟩,y.s⟩::dfM [] b
 | x::a,y::b=>if ltC x y=true then⟨x.c,x.r,x.s,⟨#[]⟩⟩::dfM a (y::b)else if ltC y x=true then⟨y.c,y.r,⟨#[]⟩,y.s⟩::dfM (x::a) b else⟨x.c,x.r,x.s,y.s⟩::dfM a b
 termination_by a b=>a.length+b.length
def inM (a b:List CL) (z:CH):Prop:=(Zo z.c z.r a∨Zo z.c z.r b)∧z.f=atC z.c z.r a∧z.t=atC z.c z.r b
theorem ZM {p q p' q':Int} (h:QF p q p' q'=true): ¬(p=p'∧q=q'):=fun e=>by
 have:=of_decide_eq_true h;omega
theorem Ul {p q p' q':Int} (h:QF p q p' q'=true) (h':QF p' q' p q=true):False:=by
 have:=of_decide_eq_true h;have:=of_decide_eq_true h';omega
theorem Qka {p q p' q' p2 q2:Int} (h:QF p q p' q'=true) (h':QF p' q' p2 q2=true):QF p q p2 q2=true:=by
 have:=of_decide_eq_true h;have:=of_decide_eq_true h';exact decide_eq_true (by omega)
theorem Qg1 {p q p' q':Int} (h:QF p q p' q'=false) (h':QF p' q' p q=false):p=p'∧q=q':=by
 have:=of_decide_eq_false h;have:=of_decide_eq_false h';omega
theorem Qaq {x:CL} {a b:List CL} (ha: ∀y∈a,ltC x y=true) (hb: ∀y∈b,ltC x y=true) (z:CH):inM (x::a) b z↔z=⟨x.c,x.r,x.s,⟨#[]⟩⟩∨inM a b z:=by
 obtain⟨zc,zr,zf,zt⟩:=z;unfold inM;simp only [Nr,VC,CH.mk.injEq];by_cases h:x.c=zc∧x.r=zr
 ·have n1: ¬Zo zc zr a:=fun hp=>ZM (XZ ha hp) h;have n2: ¬Zo zc zr b:=fun hp=>ZM (XZ hb hp) h;rw [if_pos h,Yx n2];constructor
  ·rintro⟨_,e1,e2⟩;exact .inl ⟨h.1.symm,h.2.symm,e1,e2⟩
  ·rintro(⟨_,_,e1,e2⟩ | ⟨h9,_⟩)
   ·exact⟨.inl (.inl h),e1,e2⟩
   ·rcases h9 with h9 | h9
    ·exact(n1 h9).elim
    ·exact(n2 h9).elim
 ·rw [if_neg h];constructor
  ·rintro⟨h9,e⟩;refine .inr ⟨?_,e⟩;rcases h9 with(h9 | h9) | h9
   ·exact(h h9).elim
   ·exact .inl h9
   ·exact .inr h9
  ·rintro(⟨e1,e2,_⟩ | ⟨h9,e⟩)
   ·exact(h ⟨e1.symm,e2.symm⟩).elim
   ·refine⟨?_,e⟩;rcases h9 with h9 | h9
    ·exact .inl (.inr h9)
    ·exact .inr h9
theorem OO {y:CL} {a b:List CL} (ha: ∀x∈a,ltC y x=true) (hb: ∀x∈b,ltC y x=true) (z:CH):inM a (y::b) z↔z=⟨y.c,y.r,⟨#[]⟩,y.s⟩∨inM a b z:=by
 obtain⟨zc,zr,zf,zt⟩:=z;unfold inM;simp only [Nr,VC,CH.mk.injEq];by_cases h:y.c=zc∧y.r=zr
 ·have n1: ¬Zo zc zr a:=fun hp=>ZM (XZ ha hp) h;have n2: ¬Zo zc zr b:=fun hp=>ZM (XZ hb hp) h;rw [if_pos h,Yx n1];constructor
  ·rintro⟨_,e1,e2⟩;exact .inl ⟨h.1.symm,h.2.symm,e1,e2⟩
  ·rintro(⟨_,_,e1,e2⟩ | ⟨h9,_⟩)
   ·exact⟨.inr (.inl h),e1,e2⟩
   ·rcases h9 with h9 | h9
    ·exact(n1 h9).elim
    ·exact(n2 h9).elim
 ·rw [if_neg h];constructor
  ·rintro⟨h9,e⟩;refine .inr ⟨?_,e⟩;rcases h9 with h9 | (h9 | h9)
   ·exact .inl h9
   ·exact(h h9).elim
   ·exact .inr h9
  ·rintro(⟨e1,e2,_⟩ | ⟨h9,e⟩)
   ·exact(h ⟨e1.symm,e2.symm⟩).elim
   ·refine⟨?_,e⟩;rcases h9 with h9 | h9
    ·exact .inl h9
    ·exact .inr (.inr h9)
theorem Qi8 {x y:CL} {a b:List CL} (e0:x.c=y.c∧x.r=y.r) (ha: ∀u∈a,ltC x u=true) (hb: ∀u∈b,ltC y u=true) (z:CH):inM (x::a) (y::b) z↔z=⟨x.c,x.r,x.s,y.s⟩∨inM a b z:=by
 obtain⟨zc,zr,zf,zt⟩:=z;unfold inM;simp only [Nr,VC,CH.mk.injEq,←e0.1,←e0.2];by_cases h:x.c=zc∧x.r=zr
 ·have n1: ¬Zo zc zr a:=fun hp=>ZM (XZ ha hp) h;have n2: ¬Zo zc zr b:=fun hp=>ZM (XZ hb hp) (by rw [←e0.1,←e0.2];exact h);rw [if_pos h,if_pos h];constructor
  ·rintro⟨_,e1,e2⟩;exact .inl ⟨h.1.symm,h.2.symm,e1,e2⟩
  ·rintro(⟨_,_,e1,e2⟩ | ⟨h9,_⟩)
   ·exact⟨.inl (.inl h),e1,e2⟩
   ·rcases h9 with h9 | h9
    ·exact(n1 h9).elim
    ·exact(n2 h9).elim
 ·rw [if_neg h,if_neg h];constructor
  ·rintro⟨h9,e⟩;refine .inr ⟨?_,e⟩;rcases h9 with(h9 | h9) | (h9 | h9)
   ·exact(h h9).elim
   ·exact .inl h9
   ·exact(h h9).elim
   ·exact .inr h9
  ·rintro(⟨e1,e2,_⟩ | ⟨h9,e⟩)
   ·exact(h ⟨e1.symm,e2.symm⟩).elim
   ·refine⟨?_,e⟩;rcases h9 with h9 | h9
    ·exact .inl (.inr h9)
    ·exact .inr (.inr h9)
abbrev ltH (z z':CH):Prop:=QF z.c z.r z'.c z'.r=true
theorem Jm {a b:List CL} {z:CH} {x:CL} (h:inM a b z) (ha: ∀y∈a,ltC x y=true) (hb: ∀y∈b,ltC x y=true):QF x.c x.r z.c z.r=true:=by
 rcases h.1 with h | h
 ·exact XZ ha h
 ·exact XZ hb h
abbrev upC (a:List CL):Prop:=a.Pairwise (fun x y=>ltC x y=true)
theorem Qkv {x y z:CL} (h:ltC x y=true) (h':ltC y z=true):ltC x z=true:=Qka h h'
theorem Yl: ∀(a b:List CL),upC a→upC b→(∀z,z∈dfM a b↔inM a b z)∧(dfM a b).Pairwise ltH
 | [],[],_,_=>by
  rw [dfM];refine⟨fun z=>⟨fun h=>(by cases h),fun h=> ?_⟩,List.Pairwise.nil⟩;rcases h.1 with⟨_,h,_⟩ | ⟨_,h,_⟩<;>cases h
 | x::a,[],ha,hb=>by
  obtain⟨h1,h2⟩:=List.pairwise_cons.1 ha;obtain⟨ih,ip⟩:=Yl a [] h2 hb;rw [dfM];refine⟨fun z=> ?_,List.pairwise_cons.2 ⟨fun z hz=>Jm ((ih z).1 hz) h1 (by simp),ip⟩⟩;rw [List.mem_cons,ih,Qaq h1 (by simp)]
 | [],y::b,ha,hb=>by
  obtain⟨h1,h2⟩:=List.pairwise_cons.1 hb;obtain⟨ih,ip⟩:=Yl [] b ha h2;rw [dfM];refine⟨fun z=> ?_,List.pairwise_cons.2 ⟨fun z hz=>Jm ((ih z).1 hz) (by simp) h1,ip⟩⟩;rw [List.mem_cons,ih,OO (by simp) h1]
 | x::a,y::b,ha,hb=>by
  obtain⟨h1,h2⟩:=List.pairwise_cons.1 ha;obtain⟨h3,h4⟩:=List.pairwise_cons.1 hb;rw [dfM];by_cases e1:ltC x y=true
  ·rw [if_pos e1]
   have h5: ∀u∈y::b,ltC x u=true:=fun u hu=>by
    rcases List.mem_cons.1 hu with rfl | hu
    ·exact e1
    ·exact Qkv e1 (h3 u hu)
   obtain⟨ih,ip⟩:=Yl a (y::b) h2 hb;refine⟨fun z=> ?_,List.pairwise_cons.2 ⟨fun z hz=>Jm ((ih z).1 hz) h1 h5,ip⟩⟩;rw [List.mem_cons,ih,Qaq h1 h5]
  ·rw [if_neg e1];by_cases e2:ltC y x=true
   ·rw [if_pos e2]
    have h5: ∀u∈x::a,ltC y u=true:=fun u hu=>by
     rcases List.mem_cons.1 hu with rfl | hu
     ·exact e2
     ·exact Qkv e2 (h1 u hu)
    obtain⟨ih,ip⟩:=Yl (x::a) b ha h4;refine⟨fun z=> ?_,List.pairwise_cons.2 ⟨fun z hz=>Jm ((ih z).1 hz) h5 h3,ip⟩⟩;rw [List.mem_cons,ih,OO h5 h3]
   ·rw [if_neg e2];have e0:=Qg1 (Bool.eq_false_iff.2 e1) (Bool.eq_false_iff.2 e2)
    have h6: ∀u∈b,ltC x u=true:=fun u hu=>by
     have:=h3 u hu;unfold ltC at this ⊢;rw [e0.1,e0.2];exact this
    obtain⟨ih,ip⟩:=Yl a b h2 h4;refine⟨fun z=> ?_,List.pairwise_cons.2 ⟨fun z hz=>Jm ((ih z).1 hz) h1 h6,ip⟩⟩;rw [List.mem_cons,ih,Qi8 e0 h1 h3]
 termination_by a b=>a.length+b.length
theorem Qrt {a b M:List CL} (ha:upC a) (hb:upC b) (hM:upC M) (hm: ∀p q,Zo p q M↔Zo p q a∨Zo p q b):dfM a b=M.map (fun m=>⟨m.c,m.r,atC m.c m.r a,atC m.c m.r b⟩):=by
 obtain⟨h1,h2⟩:=Yl a b ha hb;refine Yt (fun x y=>Ul) h2 ?_ (fun z=> ?_)
 ·rw [List.pairwise_map];exact hM
 ·rw [h1,List.mem_map];constructor
  ·rintro⟨h,e1,e2⟩;obtain⟨m,hm9,e3,e4⟩:=(hm z.c z.r).2 h;refine⟨m,hm9,?_⟩;obtain⟨zc,zr,zf,zt⟩:=z;simp only at e1 e2 e3 e4;subst e3 e4 e1 e2;rfl
  ·rintro⟨m,hm9,rfl⟩;exact⟨(hm _ _).1 ⟨m,hm9,rfl,rfl⟩,rfl,rfl⟩
def neH (z:CH):Bool:= !(z.f.toList==z.t.toList)
def dfL (a b:List CL):List CH:=(dfM a b).filter neH
theorem Jr {B:Nat} {X W:World} (hs:X.heap.size≤W.heap.size) (h:Below B X W):(∀bq oq,bq<B→W.cell? ⟨bq,oq,none⟩=X.cell? ⟨bq,oq,none⟩)∧X.heap.size≤W.heap.size∧Below B X W:=⟨fun b o hb=>h.cell (p:=⟨b,o,none⟩) hb,hs,h⟩
theorem Qj2 (x:CH):(chL x).length=4:=rfl
theorem Yh {ops:Array Oper} {rest:List Oper} {o:Oper} {a:Act} {Q:Exit→Act→World→Prop} {W:World} (hgd:o.guard=none) (s x:Operand) (ho:o.op= .call {callee:= .builtin .append,args:= #[s,x],argTypes:= #[27,27]}) (B:Nat) (v:Value) (n:Nat) (L:List CH) (hs:a.eval s=v)
  (hown:W.ownsRow B 40 4 v n (Qu chL L)) (z:CH) (g:Nat) (hx:a.eval x= .slice (some ⟨g,0,none⟩) 1 1) (h0:W.cell? ⟨g,0,none⟩=some (.int .i64 z.c)) (h1:W.cell? ⟨g,1,none⟩=some (.int .i64 z.r)) (h2:W.cell? ⟨g,2,none⟩=some (.string z.f)) (h3:W.cell? ⟨g,3,none⟩=some (.string z.t)) (hn:n≤1099511627776) (hB:B≤W.heap.size)
  (h: ∀v' w',w'.ownsRow B 40 4 v' (n+1) (Qu chL (L++ [z]))→W.grownBy w' v.ownBlock→wpList Tryz.prog ops Q rest (a.put o.dst v') w'):wpList Tryz.prog ops Q (o::rest) a W:=by
 obtain⟨i0,hi,iz0,iz1,iz2⟩:=info_parts BS;refine wpList_append_own W hgd s x 27 ho B 40 i0 (.agg #[.int .i64 0,.int .i64 0,.string ⟨#[]⟩,.string ⟨#[]⟩]) 4 48 Tryz.underlying27 hi iz0 iz1 iz2 rfl (by decide) v n _ hs hown ⟨g,0,none⟩ 1 1 (chL z) hx rfl ?_ ?_ ?_ ?_ hB ?_
 ·intro q u hq;match q,hq with
  | 0,hq=>simp [chL]at hq;subst hq;simpa [Addr.add]using h0
  | 1,hq=>simp [chL]at hq;subst hq;simpa [Addr.add]using h1
  | 2,hq=>simp [chL]at hq;subst hq;simpa [Addr.add]using h2
  | 3,hq=>simp [chL]at hq;subst hq;simpa [Addr.add]using h3
 ·intro u hu;simp [chL]at hu;rcases hu with rfl | rfl | rfl | rfl<;>rfl
 ·unfold maxLen;omega
 ·omega
 ·intro v' w3 hown' hgrow _;refine h v' w3 ?_ hgrow;rw [Ye];exact hown'
def DfR (B:Nat) (w':World) (L:List CH) (e:Ending):Prop:= ∃A c m,e= .returned (.slice A m c)∧L.length=m∧w'.ownsRow B 40 4 (.slice A m c) m (Qu chL L)
def dfF (C R:Nat→Int) (S:Nat→ByteArray) (n:Nat) (C' R':Nat→Int) (S':Nat→ByteArray) (m:Nat):List CH:=if Qm C R S n=true∧Qm C' R' S' m=true then dfL (clE C R S n) (clE C' R' S' m)else []
theorem Qei {C R:Nat→Int} {S:Nat→ByteArray} {n:Nat} {C' R':Nat→Int} {S':Nat→ByteArray} {m:Nat} (h:Qm C R S n=false):dfF C R S n C' R' S' m= []:=by rw [dfF,if_neg (fun e=>by rw [h]at e;cases e.1)]
theorem Qeh {C R:Nat→Int} {S:Nat→ByteArray} {n:Nat} {C' R':Nat→Int} {S':Nat→ByteArray} {m:Nat} (h:Qm C' R' S' m=false):dfF C R S n C' R' S' m= []:=by rw [dfF,if_neg (fun e=>by rw [h]at e;cases e.2)]
theorem Br {C R:Nat→Int} {S:Nat→ByteArray} {n:Nat} {C' R':Nat→Int} {S':Nat→ByteArray} {m:Nat} (h:Qm C R S n=true) (h':Qm C' R' S' m=true):dfF C R S n C' R' S' m=dfL (clE C R S n) (clE C' R' S' m):=by rw [dfF,if_pos ⟨h,h'⟩]
theorem Xc {C R:Nat→Int} {S:Nat→ByteArray} {n i:Nat} (h:i<n):(clE C R S n).drop i=⟨C i,R i,S i⟩::(clE C R S n).drop (i+1):=by
 rw [List.drop_eq_getElem_cons (by rw [Ym];exact h)];simp [clE]
theorem Xh {C R:Nat→Int} {S:Nat→ByteArray} {n:Nat}:(clE C R S n).drop n= []:=List.drop_eq_nil_of_le (by rw [Ym];exact Nat.le_refl _)
theorem GR {a b O:List CH} {z:CH} {r r2:List CH} (h:a=O++r.filter neH) (hr:r=z::r2):(neH z=true→a=(O++ [z])++r2.filter neH)∧(neH z=false→a=O++r2.filter neH):=by
 subst hr;constructor
 ·intro hz;rw [h,List.filter_cons_of_pos hz,List.append_assoc];rfl
 ·intro hz;rw [h,List.filter_cons_of_neg (by rw [hz];decide)]
theorem XH {A A':Option Addr} {n cap m cap':Nat} {C R C' R':Nat→Int} {S S':Nat→ByteArray} (w:World) (h:ClRow w A n C R S) (h':ClRow w A' m C' R' S'):
  Calls Tryz.prog 10 #[.slice A n cap,.slice A' m cap'] w fun e w'=>DfR w.heap.size w' (dfF C R S n C' R' S' m) e∧Below w.heap.size w w':=by
 have HR:Hid (ClRow w A n C R S):=h;have HR':Hid (ClRow w A' m C' R' S'):=h';clear h h';obtain⟨ck,HCK⟩: ∃ck,Hid (Qm C R S n=ck):=⟨_,rfl⟩;obtain⟨ck',HCK'⟩: ∃ck',Hid (Qm C' R' S' m=ck'):=⟨_,rfl⟩;obtain⟨DL,HDL⟩: ∃DL,Hid (dfF C R S n C' R' S' m=DL):=⟨_,rfl⟩;rw [HDL.out]
 have HE0:Hid ((w.alloc (.cells #[] 40)).ownsRow w.heap.size 40 4 (.slice (some ⟨w.heap.size,0,none⟩) 0 0) 0 []):=Jj (Nat.le_refl _) rfl;go_enter Tryz.func10,Tryz.ntmps10;go_wp2_with fail
 obtain⟨X0,HX0⟩: ∃X0,Hid (w.alloc (.cells #[] 40)=X0):=⟨_,rfl⟩;rw [HX0.out];rw [HX0.out]at HE0;have K0:Hid (Below w.heap.size w X0):=by rw [←HX0.out];show Below _ _ _;go_grown
 clear HX0;refine(QI _ (HR.out.below K0.out)).mono ?_;rintro e u1 ⟨rfl,hb⟩;have K1:=hd (Qb K0.out hb);have HE1:=hd (Qe HE0.out hb);clear hb;rw [HCK.out]
 cases ck
 ·have HV:Hid (DL= []):=by rw [←HDL.out];exact Qei HCK.out
  go_wp2_with fail
  go_ret;exact⟨⟨_,_,0,rfl,by rw [HV.out];rfl,by rw [HV.out];exact HE1.out⟩,K1.out⟩
 go_wp2_with fail
 refine(QI _ (HR'.out.below K1.out)).mono ?_;rintro e u2 ⟨rfl,hb⟩;have K2:=hd (Qb K1.out hb);have HE2:=hd (Qe HE1.out hb);clear hb;rw [HCK'.out];cases ck'
 ·have HV:Hid (DL= []):=by rw [←HDL.out];exact Qeh HCK'.out
  go_wp2_with fail
  go_ret;exact⟨⟨_,_,0,rfl,by rw [HV.out];rfl,by rw [HV.out];exact HE2.out⟩,K2.out⟩
 have hn:n≤120:=(Qx HCK.out).1;have hm:m≤120:=(Qx HCK'.out).1;have HDD:Hid (DL=dfL (clE C R S n) (clE C' R' S' m)):=by show _=_;rw [←HDL.out];exact Br HCK.out HCK'.out
 clear HE0 HE1 K0;go_wp2_with fail
 go_loopw [5,6,7] (fun v i k wr=> ∃(t s:Nat) (O:List CH) (F:Option Addr) (j c:Nat),t≤n∧s≤m∧v= .slice F j c∧i= .int .i64 t∧k= .int .i64 s∧DL=O++(dfM ((clE C R S n).drop t) ((clE C' R' S' m).drop s)).filter neH∧O.length=j∧j≤t+s∧wr.ownsRow w.heap.size 40 4 (.slice F j c) j (Qu chL O)∧Below w.heap.size w wr) (fun _ i k _=>(n-(intOf i).toNat)+(m-(intOf k).toNat))
 case atStart=>exact⟨0,0,[],_,0,0,Nat.zero_le _,Nat.zero_le _,rfl,rfl,rfl,HDD.out,rfl,Nat.zero_le _,HE2.out,K2.out⟩
 case round=>
  clear HE2 K2 K1;obtain⟨t,s,O,F,j,c,ht,hs,rfl,rfl,rfl,hdl,hj,hjl,hown,hbel⟩:=hrel;have HO:Hid (wr.ownsRow w.heap.size 40 4 (.slice F j c) j (Qu chL O)):=hown;have KV:Hid (Below w.heap.size w wr):=hbel;have HJ:Hid (O.length=j):=hj;have zv:w.heap.size≤wr.heap.size:=hbel.size;clear hown hbel hj
  have HDR:Hid (DL=O++(dfM ((clE C R S n).drop t) ((clE C' R' S' m).drop s)).filter neH):=hdl;clear hdl;by_cases hend:t=n∧s=m
  ·obtain⟨rfl,rfl⟩:=hend;have HI:Hid (DL=O):=by show _=_;rw [HDR.out,Xh,Xh,dfM];simp
   have q1: ¬(t:Int)<(t:Int):=by omega
   have q2: ¬(s:Int)<(s:Int):=by omega
   go_wp2_with fail
   go_ret;exact⟨⟨F,c,j,rfl,by rw [HI.out];exact HJ.out,by rw [HI.out];exact HO.out⟩,KV.out⟩
  by_cases hlt:t<n
  ·by_cases hls:s<m
   ·obtain⟨b,o,rfl,hl,c0,c1,c2,_⟩:=HR.out.2 t hlt;rw [←KV.out.cell (p:=⟨_,_,none⟩) hl]at c0 c1 c2;have hl2:b<wr.heap.size:=Nat.lt_of_lt_of_le hl KV.out.size;have q0:(0:Int)≤(t:Int):=by omega
    have q1:(t:Int)<(n:Int):=by omega
    obtain⟨b',o',rfl,hl',d0,d1,d2,_⟩:=HR'.out.2 s hls;rw [←KV.out.cell (p:=⟨_,_,none⟩) hl']at d0 d1 d2;have hl2':b'<wr.heap.size:=Nat.lt_of_lt_of_le hl' KV.out.size;have p0:(0:Int)≤(s:Int):=by omega
    have p1:(s:Int)<(m:Int):=by omega
    have e1:((s:Int)==(m:Int))=false:=by simp;omega
    have e2:((t:Int)==(n:Int))=false:=by simp;omega
    obtain⟨ab,HAB⟩: ∃ab,Hid (QF (C t) (R t) (C' s) (R' s)=ab):=⟨_,rfl⟩;obtain⟨ba,HBA⟩: ∃ba,Hid (QF (C' s) (R' s) (C t) (R t)=ba):=⟨_,rfl⟩;have HLX:Hid (ltC ⟨C t,R t,S t⟩ ⟨C' s,R' s,S' s⟩=ab):=HAB.out;have HLY:Hid (ltC ⟨C' s,R' s,S' s⟩ ⟨C t,R t,S t⟩=ba):=HBA.out;go_upto_region 11 with fail
    obtain⟨X,HX⟩: ∃X,Hid (wr.alloc (.cells #[.int .i64 0,.int .i64 0,.string ⟨#[]⟩,.string ⟨#[]⟩] 40)=X):=⟨_,rfl⟩;rw [HX.out];have x0:X.cell? ⟨wr.heap.size,0,none⟩=some (.int .i64 0):=by rw [←HX.out];go_simp
    have x1:X.cell? ⟨wr.heap.size,1,none⟩=some (.int .i64 0):=by rw [←HX.out];go_simp
    have x2:X.cell? ⟨wr.heap.size,2,none⟩=some (.string ⟨#[]⟩):=by rw [←HX.out];go_simp
    have x3:X.cell? ⟨wr.heap.size,3,none⟩=some (.string ⟨#[]⟩):=by rw [←HX.out];go_simp
    have f0:X.frozen? ⟨wr.heap.size,0,none⟩=false:=by rw [←HX.out];go_simp
    have f1:X.frozen? ⟨wr.heap.size,1,none⟩=false:=by rw [←HX.out];go_simp
    have f2:X.frozen? ⟨wr.heap.size,2,none⟩=false:=by rw [←HX.out];go_simp
    have f3:X.frozen? ⟨wr.heap.size,3,none⟩=false:=by rw [←HX.out];go_simp
    have zX:wr.heap.size<X.heap.size:=by rw [←HX.out];simp
    have zX0:wr.heap.size<X.heap.size:=zX;have KX:Hid (Below wr.heap.size wr X):=by rw [←HX.out];show Below _ _ _;go_grown
    have KW:=hd (Qb KV.out KX.out);have HOX:=hd (Qe HO.out KX.out);clear HX;replace c0:=(KX.out.cell (p:=⟨b,_,none⟩) hl2).trans c0;replace c1:=(KX.out.cell (p:=⟨b,_,none⟩) hl2).trans c1;replace c2:=(KX.out.cell (p:=⟨b,_,none⟩) hl2).trans c2;have hl3:b<X.heap.size:=by omega
    replace d0:=(KX.out.cell (p:=⟨b',_,none⟩) hl2').trans d0;replace d1:=(KX.out.cell (p:=⟨b',_,none⟩) hl2').trans d1;replace d2:=(KX.out.cell (p:=⟨b',_,none⟩) hl2').trans d2;have hl3':b'<X.heap.size:=by omega
    cases ab
    ·refine wp_region_held_drew (S:=(fun w'=>(∀bq oq,bq<X.heap.size→w'.cell? ⟨bq,oq,none⟩=X.cell? ⟨bq,oq,none⟩)∧X.heap.size≤w'.heap.size∧Below X.heap.size X w')) (by kernel_rfl) (Qk (by go_size) (by go_grown)) (fun hHeld=> ?_);refine tkA 0 ?_;refine tkB 1 ?_;refine tkA 2 ?_;refine tkB 3 ?_;refine tkA 4 ?_;refine tkB 5 ?_
     refine tkA 6 ?_;refine tkB 7 ?_;refine tkA 8 ?_;refine tkB 9 ?_;refine tkA 10 ?_;refine tkB 11 ?_;refine tkA 12 ?_
     refine tkB 13 ?_;refine tkA 14 ?_;refine tkB 15 ?_;refine tkA 16 ?_;refine tkB 17 ?_;refine tkA 18 ?_;refine tkB 19 ?_
     refine rqA 20 (fun Kq hKq=> ?_);go_simp
     (refine(ZS _ _ _ _ _).mono ?_;rintro e w1 ⟨rfl,hb⟩;rw [HAB.out];obtain⟨hk1,hz1⟩:=Qg (B:=X.heap.size) (X:=X) (by go_grown) (by go_size) hb;have hC1:=fun b o h=>hk1.cell (p:=⟨b,o,none⟩) h;have hw1:=hk1.mono (Nat.le_of_lt zX0);have xa0:=(hk1.cell (p:=⟨wr.heap.size,0,none⟩) zX0).trans x0;have fa0:=(hk1.frozen (p:=⟨wr.heap.size,0,none⟩) zX0).trans f0;have xa1:=(hk1.cell (p:=⟨wr.heap.size,1,none⟩) zX0).trans x1;have fa1:=(hk1.frozen (p:=⟨wr.heap.size,1,none⟩) zX0).trans f1;have xa2:=(hk1.cell (p:=⟨wr.heap.size,2,none⟩) zX0).trans x2;have fa2:=(hk1.frozen (p:=⟨wr.heap.size,2,none⟩) zX0).trans f2;have xa3:=(hk1.cell (p:=⟨wr.heap.size,3,none⟩) zX0).trans x3;have fa3:=(hk1.frozen (p:=⟨wr.heap.size,3,none⟩) zX0).trans f3;have zXa:wr.heap.size<w1.heap.size:=Nat.lt_of_lt_of_le zX0 hk1.size;clear hb)
     refine hkB hKq (Qk (by go_size) (by go_grown)) fun hHeld=> ?_;clear hKq Kq;refine tkA 21 ?_;refine tkB 22 ?_;refine tkB 23 ?_;refine wpAnyH_done (by kernel_rfl) ?_ _;go_upto_region 14 with fail
     cases ba
     ·refine wp_region_held_drew (S:=(fun w'=>(∀bq oq,bq<X.heap.size→w'.cell? ⟨bq,oq,none⟩=X.cell? ⟨bq,oq,none⟩)∧X.heap.size≤w'.heap.size∧Below X.heap.size X w')) (by kernel_rfl) (Qk (by go_size) (by go_grown)) (fun hHeld=> ?_);refine tkA 0 ?_;refine tkB 1 ?_;refine tkA 2 ?_;refine tkB 3 ?_;refine tkA 4 ?_;refine tkB 5 ?_
      refine tkA 6 ?_;refine tkB 7 ?_;refine tkA 8 ?_;refine tkB 9 ?_;refine tkA 10 ?_;refine tkB 11 ?_;refine tkA 12 ?_
      refine tkB 13 ?_;refine tkB 14 ?_;refine rqA 15 (fun Kq hKq=> ?_);go_simp
      (refine(ZS _ _ _ _ _).mono ?_;rintro e w2 ⟨rfl,hb⟩;rw [HBA.out];obtain⟨hk2,hz2⟩:=Qg (B:=X.heap.size) (X:=X) (by go_grown) (by go_size) hb;have hC2:=fun b o h=>hk2.cell (p:=⟨b,o,none⟩) h;have hw2:=hk2.mono (Nat.le_of_lt zX0);have xb0:=(hk2.cell (p:=⟨wr.heap.size,0,none⟩) zX0).trans x0;have fb0:=(hk2.frozen (p:=⟨wr.heap.size,0,none⟩) zX0).trans f0;have xb1:=(hk2.cell (p:=⟨wr.heap.size,1,none⟩) zX0).trans x1;have fb1:=(hk2.frozen (p:=⟨wr.heap.size,1,none⟩) zX0).trans f1;have xb2:=(hk2.cell (p:=⟨wr.heap.size,2,none⟩) zX0).trans x2;have fb2:=(hk2.frozen (p:=⟨wr.heap.size,2,none⟩) zX0).trans f2;have xb3:=(hk2.cell (p:=⟨wr.heap.size,3,none⟩) zX0).trans x3;have fb3:=(hk2.frozen (p:=⟨wr.heap.size,3,none⟩) zX0).trans f3;have zXb:wr.heap.size<w2.heap.size:=Nat.lt_of_lt_of_le zX0 hk2.size;clear hb)
      refine hkB hKq (Qk (by go_size) (by go_grown)) fun hHeld=> ?_;clear hKq Kq;refine tkA 16 ?_;refine tkB 17 ?_;refine wpAnyH_done (by kernel_rfl) ?_ _;go_upto_region 8 with fail
      refine wp_region_held_drew (S:=(fun w'=>(∀bq oq,bq<wr.heap.size→w'.cell? ⟨bq,oq,none⟩=X.cell? ⟨bq,oq,none⟩)∧X.heap.size≤w'.heap.size∧Below wr.heap.size X w')) (by kernel_rfl) (Jr (by go_size) (by have h9:=hw2;go_grown)) (fun hHeld=> ?_);refine tkA 0 ?_;refine tkB 1 ?_;refine tkA 2 ?_;refine tkB 3 ?_;refine tkA 4 ?_;refine tkB 5 ?_
      refine tkA 6 ?_;refine tkB 7 ?_;refine tkA 8 ?_;refine tkB 9 ?_;refine tkA 10 ?_;refine tkB 11 ?_;refine tkA 12 ?_
      refine tkB 13 ?_;refine tkA 14 ?_;refine tkB 15 ?_;refine rqA 16 (fun Kq hKq=> ?_);go_simp;skip
      refine hkB hKq (Jr (by go_size) (by have h9:=hw2;go_grown)) fun hHeld=> ?_;clear hKq Kq;refine wpAnyH_done (by kernel_rfl) ?_ _;obtain⟨Z,HZ⟩: ∃Z,Hid (((((w2.setCell ⟨wr.heap.size,0,none⟩ (.int .i64 (C t))).setCell ⟨wr.heap.size,1,none⟩ (.int .i64 (R t))).setCell ⟨wr.heap.size,2,none⟩ (.string (S t))).setCell ⟨wr.heap.size,3,none⟩ (.string (S' s))).drew=Z):=⟨_,rfl⟩;have z0:Z.cell? ⟨wr.heap.size,0,none⟩=some (.int .i64 (C t)):=by rw [←HZ.out];go_simp
      have z1:Z.cell? ⟨wr.heap.size,1,none⟩=some (.int .i64 (R t)):=by rw [←HZ.out];go_simp
      have z2:Z.cell? ⟨wr.heap.size,2,none⟩=some (.string (S t)):=by rw [←HZ.out];go_simp
      have z3:Z.cell? ⟨wr.heap.size,3,none⟩=some (.string (S' s)):=by rw [←HZ.out];go_simp
      rw [HZ.out]at hHeld;rw [HZ.out];have hwZ:=hHeld.2.2;have KZ:Hid (Below w.heap.size w Z):=KW.out.trans (hwZ.mono zv);have HOZ:=hd (Qe HO.out (KX.out.trans hwZ));have zZ:wr.heap.size<Z.heap.size:=by have h9:=hHeld.2.1;omega
      have zw:w.heap.size≤Z.heap.size:=by omega
      obtain⟨hN1,hN2⟩:=GR (b:= []) (z:=⟨C t,R t,(S t),(S' s)⟩) (r2:=dfM ((clE C R S n).drop (t+1)) ((clE C' R' S' m).drop (s+1))) HDR.out (by rw [Xc hlt,Xc hls,dfM,if_neg (by rw [HLX.out];decide),if_neg (by rw [HLY.out];decide)]);have HN1:Hid (_→_):=hN1;have HN2:Hid (_→_):=hN2;clear hHeld hwZ HZ HOX KX KW x0 x1 x2 x3 f0 f1 f2 f3 hN1 hN2;obtain⟨sm,HSM⟩: ∃sm,Hid (((S t).toList==(S' s).toList)=sm):=⟨_,rfl⟩;have hsm:=HSM.out;cases sm
      ·have HNE:Hid (neH ⟨C t,R t,(S t),(S' s)⟩=true):=by show _=_;unfold neH;simp only;rw [HSM.out];rfl
       go_wp2_with (first
        | (at_builtin;refine Yh rfl _ _ rfl w.heap.size (.slice F j c) j O rfl (HOZ.out.alloc _) ⟨C t,R t,(S t),(S' s)⟩ Z.heap.size rfl (by simp [go_sem, *]) (by simp [go_sem, *]) (by simp [go_sem, *]) (by simp [go_sem, *]) (by omega) (by simp;omega) ?_)
        | fail)
       intro va w6 ho hg;obtain⟨F6,h6,rfl,_,_⟩:=Qh ho;have HO6:Hid (w6.ownsRow w.heap.size 40 4 (.slice F6 (j+1) h6) (j+1) (Qu chL (O++ [⟨C t,R t,(S t),(S' s)⟩]))):=ho;have K6:Hid (Below w.heap.size w w6):=(KZ.out.alloc zw _).grown hg (by simp;omega) (fun j hj=>(HOZ.out.lt j hj).1);clear ho hg;go_wp2_with fail
       go_roundw
       case rel=>exact⟨t+1,s+1,O++ [⟨C t,R t,(S t),(S' s)⟩],F6,j+1,h6,by omega,by omega,rfl,by go_num,by go_num,HN1.out HNE.out,by simp [HJ.out],by omega,HO6.out,K6.out⟩
       case measure=>simp [intOf];omega
      ·have HNE:Hid (neH ⟨C t,R t,(S t),(S' s)⟩=false):=by show _=_;unfold neH;simp only;rw [HSM.out];rfl
       go_wp2_with fail
       go_roundw
       case rel=>exact⟨t+1,s+1,O,F,j,c,by omega,by omega,rfl,by go_num,by go_num,HN2.out HNE.out,HJ.out,by omega,HOZ.out,KZ.out⟩
       case measure=>simp [intOf];omega
     ·refine wp_region_held_drew (S:=(fun w'=>(∀bq oq,bq<X.heap.size→w'.cell? ⟨bq,oq,none⟩=X.cell? ⟨bq,oq,none⟩)∧X.heap.size≤w'.heap.size∧Below X.heap.size X w')) (by kernel_rfl) (Qk (by go_size) (by go_grown)) (fun hHeld=> ?_);refine tkA 0 ?_;refine tkB 1 ?_;refine tkA 2 ?_;refine tkB 3 ?_;refine tkA 4 ?_;refine tkB 5 ?_
      refine tkA 6 ?_;refine tkB 7 ?_;refine tkA 8 ?_;refine tkB 9 ?_;refine tkA 10 ?_;refine tkB 11 ?_;refine tkA 12 ?_
      refine tkB 13 ?_;refine tkB 14 ?_;refine rqA 15 (fun Kq hKq=> ?_);go_simp
      (refine(ZS _ _ _ _ _).mono ?_;rintro e w2 ⟨rfl,hb⟩;rw [HBA.out];obtain⟨hk2,hz2⟩:=Qg (B:=X.heap.size) (X:=X) (by go_grown) (by go_size) hb;have hC2:=fun b o h=>hk2.cell (p:=⟨b,o,none⟩) h;have hw2:=hk2.mono (Nat.le_of_lt zX0);have xb0:=(hk2.cell (p:=⟨wr.heap.size,0,none⟩) zX0).trans x0;have fb0:=(hk2.frozen (p:=⟨wr.heap.size,0,none⟩) zX0).trans f0;have xb1:=(hk2.cell (p:=⟨wr.heap.size,1,none⟩) zX0).trans x1;have fb1:=(hk2.frozen (p:=⟨wr.heap.size,1,none⟩) zX0).trans f1;have xb2:=(hk2.cell (p:=⟨wr.heap.size,2,none⟩) zX0).trans x2;have fb2:=(hk2.frozen (p:=⟨wr.heap.size,2,none⟩) zX0).trans f2;have xb3:=(hk2.cell (p:=⟨wr.heap.size,3,none⟩) zX0).trans x3;have fb3:=(hk2.frozen (p:=⟨wr.heap.size,3,none⟩) zX0).trans f3;have zXb:wr.heap.size<w2.heap.size:=Nat.lt_of_lt_of_le zX0 hk2.size;clear hb)
      refine hkB hKq (Qk (by go_size) (by go_grown)) fun hHeld=> ?_;clear hKq Kq;refine tkA 16 ?_;refine tkB 17 ?_;refine wpAnyH_done (by kernel_rfl) ?_ _;go_upto_region 15 with fail
      have hse:(S' s).toList.isEmpty=false:=NU HCK'.out s hls;have hse2:((S' s).toList== [])=false:=by cases h9:(S' s).toList with | nil=>rw [h9]at hse;cases hse | cons _ _=>rfl
      have hse3:(([]:List UInt8)==(S' s).toList)=false:=by cases h9:(S' s).toList with | nil=>rw [h9]at hse;cases hse | cons _ _=>rfl
      have HNE0:Hid (neH ⟨C' s,R' s,⟨#[]⟩,(S' s)⟩=true):=by show _=_;unfold neH;simp only;rw [show(⟨#[]⟩:ByteArray).toList= []from by(first | rfl | decide | simp | kernel_rfl),hse3];rfl
      refine wp_region_held_drew (S:=(fun w'=>(∀bq oq,bq<wr.heap.size→w'.cell? ⟨bq,oq,none⟩=X.cell? ⟨bq,oq,none⟩)∧X.heap.size≤w'.heap.size∧Below wr.heap.size X w')) (by kernel_rfl) (Jr (by go_size) (by have h9:=hw2;go_grown)) (fun hHeld=> ?_);refine tkA 0 ?_;refine tkB 1 ?_;refine tkA 2 ?_;refine tkB 3 ?_;refine tkA 4 ?_;refine tkB 5 ?_
      refine tkA 6 ?_;refine tkB 7 ?_;refine tkA 8 ?_;refine tkB 9 ?_;refine tkB 10 ?_;refine rqA 11 (fun Kq hKq=> ?_);go_simp
      skip
      refine hkB hKq (Jr (by go_size) (by have h9:=hw2;go_grown)) fun hHeld=> ?_;clear hKq Kq;refine wpAnyH_done (by kernel_rfl) ?_ _;obtain⟨Z,HZ⟩: ∃Z,Hid (((((w2.setCell ⟨wr.heap.size,0,none⟩ (.int .i64 (C' s))).setCell ⟨wr.heap.size,1,none⟩ (.int .i64 (R' s))).setCell ⟨wr.heap.size,2,none⟩ (.string ⟨#[]⟩)).setCell ⟨wr.heap.size,3,none⟩ (.string (S' s))).drew=Z):=⟨_,rfl⟩;have z0:Z.cell? ⟨wr.heap.size,0,none⟩=some (.int .i64 (C' s)):=by rw [←HZ.out];go_simp
      have z1:Z.cell? ⟨wr.heap.size,1,none⟩=some (.int .i64 (R' s)):=by rw [←HZ.out];go_simp
      have z2:Z.cell? ⟨wr.heap.size,2,none⟩=some (.string ⟨#[]⟩):=by rw [←HZ.out];go_simp
      have z3:Z.cell? ⟨wr.heap.size,3,none⟩=some (.string (S' s)):=by rw [←HZ.out];go_simp
      rw [HZ.out]at hHeld;rw [HZ.out];have hwZ:=hHeld.2.2;have KZ:Hid (Below w.heap.size w Z):=KW.out.trans (hwZ.mono zv);have HOZ:=hd (Qe HO.out (KX.out.trans hwZ));have zZ:wr.heap.size<Z.heap.size:=by have h9:=hHeld.2.1;omega
      have zw:w.heap.size≤Z.heap.size:=by omega
      obtain⟨hN1,hN2⟩:=GR (b:= []) (z:=⟨C' s,R' s,⟨#[]⟩,(S' s)⟩) (r2:=dfM ((clE C R S n).drop t) ((clE C' R' S' m).drop (s+1))) HDR.out (by rw [Xc hlt,Xc hls,dfM,if_neg (by rw [HLX.out];decide),if_pos HLY.out]);have HN1:Hid (_→_):=hN1;have HN2:Hid (_→_):=hN2;clear hHeld hwZ HZ HOX KX KW x0 x1 x2 x3 f0 f1 f2 f3 hN1 hN2;have HNE:Hid (neH ⟨C' s,R' s,⟨#[]⟩,(S' s)⟩=true):=HNE0.out
      go_wp2_with (first
       | (at_builtin;refine Yh rfl _ _ rfl w.heap.size (.slice F j c) j O rfl (HOZ.out.alloc _) ⟨C' s,R' s,⟨#[]⟩,(S' s)⟩ Z.heap.size rfl (by simp [go_sem, *]) (by simp [go_sem, *]) (by simp [go_sem, *]) (by simp [go_sem, *]) (by omega) (by simp;omega) ?_)
       | fail)
      intro va w6 ho hg;obtain⟨F6,h6,rfl,_,_⟩:=Qh ho;have HO6:Hid (w6.ownsRow w.heap.size 40 4 (.slice F6 (j+1) h6) (j+1) (Qu chL (O++ [⟨C' s,R' s,⟨#[]⟩,(S' s)⟩]))):=ho;have K6:Hid (Below w.heap.size w w6):=(KZ.out.alloc zw _).grown hg (by simp;omega) (fun j hj=>(HOZ.out.lt j hj).1);clear ho hg;go_wp2_with fail
      go_roundw
      case rel=>exact⟨t,s+1,O++ [⟨C' s,R' s,⟨#[]⟩,(S' s)⟩],F6,j+1,h6,by omega,by omega,rfl,by go_num,by go_num,HN1.out HNE.out,by simp [HJ.out],by omega,HO6.out,K6.out⟩
      case measure=>simp [intOf];omega
    ·refine wp_region_held_drew (S:=(fun w'=>(∀bq oq,bq<X.heap.size→w'.cell? ⟨bq,oq,none⟩=X.cell? ⟨bq,oq,none⟩)∧X.heap.size≤w'.heap.size∧Below X.heap.size X w')) (by kernel_rfl) (Qk (by go_size) (by go_grown)) (fun hHeld=> ?_);refine tkA 0 ?_;refine tkB 1 ?_;refine tkA 2 ?_;refine tkB 3 ?_;refine tkA 4 ?_;refine tkB 5 ?_
     refine tkA 6 ?_;refine tkB 7 ?_;refine tkA 8 ?_;refine tkB 9 ?_;refine tkA 10 ?_;refine tkB 11 ?_;refine tkA 12 ?_
     refine tkB 13 ?_;refine tkA 14 ?_;refine tkB 15 ?_;refine tkA 16 ?_;refine tkB 17 ?_;refine tkA 18 ?_;refine tkB 19 ?_
     refine rqA 20 (fun Kq hKq=> ?_);go_simp
     (refine(ZS _ _ _ _ _).mono ?_;rintro e w1 ⟨rfl,hb⟩;rw [HAB.out];obtain⟨hk1,hz1⟩:=Qg (B:=X.heap.size) (X:=X) (by go_grown) (by go_size) hb;have hC1:=fun b o h=>hk1.cell (p:=⟨b,o,none⟩) h;have hw1:=hk1.mono (Nat.le_of_lt zX0);have xa0:=(hk1.cell (p:=⟨wr.heap.size,0,none⟩) zX0).trans x0;have fa0:=(hk1.frozen (p:=⟨wr.heap.size,0,none⟩) zX0).trans f0;have xa1:=(hk1.cell (p:=⟨wr.heap.size,1,none⟩) zX0).trans x1;have fa1:=(hk1.frozen (p:=⟨wr.heap.size,1,none⟩) zX0).trans f1;have xa2:=(hk1.cell (p:=⟨wr.heap.size,2,none⟩) zX0).trans x2;have fa2:=(hk1.frozen (p:=⟨wr.heap.size,2,none⟩) zX0).trans f2;have xa3:=(hk1.cell (p:=⟨wr.heap.size,3,none⟩) zX0).trans x3;have fa3:=(hk1.frozen (p:=⟨wr.heap.size,3,none⟩) zX0).trans f3;have zXa:wr.heap.size<w1.heap.size:=Nat.lt_of_lt_of_le zX0 hk1.size;clear hb)
     refine hkB hKq (Qk (by go_size) (by go_grown)) fun hHeld=> ?_;clear hKq Kq;refine tkA 21 ?_;refine tkB 22 ?_;refine tkB 23 ?_;refine wpAnyH_done (by kernel_rfl) ?_ _;go_upto_region 12 with fail
     have hse:(S t).toList.isEmpty=false:=NU HCK.out t hlt;have hse2:((S t).toList== [])=false:=by cases h9:(S t).toList with | nil=>rw [h9]at hse;cases hse | cons _ _=>rfl
     have HNE0:Hid (neH ⟨C t,R t,(S t),⟨#[]⟩⟩=true):=by show _=_;unfold neH;simp only;rw [show(⟨#[]⟩:ByteArray).toList= []from by(first | rfl | decide | simp | kernel_rfl),hse2];rfl
     refine wp_region_held_drew (S:=(fun w'=>(∀bq oq,bq<wr.heap.size→w'.cell? ⟨bq,oq,none⟩=X.cell? ⟨bq,oq,none⟩)∧X.heap.size≤w'.heap.size∧Below wr.heap.size X w')) (by kernel_rfl) (Jr (by go_size) (by have h9:=hw1;go_grown)) (fun hHeld=> ?_);refine tkA 0 ?_;refine tkB 1 ?_;refine tkA 2 ?_;refine tkB 3 ?_;refine tkA 4 ?_;refine tkB 5 ?_
     refine tkA 6 ?_;refine tkB 7 ?_;refine tkA 8 ?_;refine tkB 9 ?_;refine tkB 10 ?_;refine rqA 11 (fun Kq hKq=> ?_);go_simp
     skip
     refine hkB hKq (Jr (by go_size) (by have h9:=hw1;go_grown)) fun hHeld=> ?_;clear hKq Kq;refine wpAnyH_done (by kernel_rfl) ?_ _;obtain⟨Z,HZ⟩: ∃Z,Hid (((((w1.setCell ⟨wr.heap.size,0,none⟩ (.int .i64 (C t))).setCell ⟨wr.heap.size,1,none⟩ (.int .i64 (R t))).setCell ⟨wr.heap.size,2,none⟩ (.string (S t))).setCell ⟨wr.heap.size,3,none⟩ (.string ⟨#[]⟩)).drew=Z):=⟨_,rfl⟩;have z0:Z.cell? ⟨wr.heap.size,0,none⟩=some (.int .i64 (C t)):=by rw [←HZ.out];go_simp
     have z1:Z.cell? ⟨wr.heap.size,1,none⟩=some (.int .i64 (R t)):=by rw [←HZ.out];go_simp
     have z2:Z.cell? ⟨wr.heap.size,2,none⟩=some (.string (S t)):=by rw [←HZ.out];go_simp
     have z3:Z.cell? ⟨wr.heap.size,3,none⟩=some (.string ⟨#[]⟩):=by rw [←HZ.out];go_simp
     rw [HZ.out]at hHeld;rw [HZ.out];have hwZ:=hHeld.2.2;have KZ:Hid (Below w.heap.size w Z):=KW.out.trans (hwZ.mono zv);have HOZ:=hd (Qe HO.out (KX.out.trans hwZ));have zZ:wr.heap.size<Z.heap.size:=by have h9:=hHeld.2.1;omega
     have zw:w.heap.size≤Z.heap.size:=by omega
     obtain⟨hN1,hN2⟩:=GR (b:= []) (z:=⟨C t,R t,(S t),⟨#[]⟩⟩) (r2:=dfM ((clE C R S n).drop (t+1)) ((clE C' R' S' m).drop s)) HDR.out (by rw [Xc hlt,Xc hls,dfM,if_pos HLX.out]);have HN1:Hid (_→_):=hN1;have HN2:Hid (_→_):=hN2;clear hHeld hwZ HZ HOX KX KW x0 x1 x2 x3 f0 f1 f2 f3 hN1 hN2;have HNE:Hid (neH ⟨C t,R t,(S t),⟨#[]⟩⟩=true):=HNE0.out
     go_wp2_with (first
      | (at_builtin;refine Yh rfl _ _ rfl w.heap.size (.slice F j c) j O rfl (HOZ.out.alloc _) ⟨C t,R t,(S t),⟨#[]⟩⟩ Z.heap.size rfl (by simp [go_sem, *]) (by simp [go_sem, *]) (by simp [go_sem, *]) (by simp [go_sem, *]) (by omega) (by simp;omega) ?_)
      | fail)
     intro va w6 ho hg;obtain⟨F6,h6,rfl,_,_⟩:=Qh ho;have HO6:Hid (w6.ownsRow w.heap.size 40 4 (.slice F6 (j+1) h6) (j+1) (Qu chL (O++ [⟨C t,R t,(S t),⟨#[]⟩⟩]))):=ho;have K6:Hid (Below w.heap.size w w6):=(KZ.out.alloc zw _).grown hg (by simp;omega) (fun j hj=>(HOZ.out.lt j hj).1);clear ho hg;go_wp2_with fail
     go_roundw
     case rel=>exact⟨t+1,s,O++ [⟨C t,R t,(S t),⟨#[]⟩⟩],F6,j+1,h6,by omega,by omega,rfl,by go_num,by go_num,HN1.out HNE.out,by simp [HJ.out],by omega,HO6.out,K6.out⟩
     case measure=>simp [intOf];omega
   ·obtain rfl:s=m:=by omega
    obtain⟨b,o,rfl,hl,c0,c1,c2,_⟩:=HR.out.2 t hlt;rw [←KV.out.cell (p:=⟨_,_,none⟩) hl]at c0 c1 c2;have hl2:b<wr.heap.size:=Nat.lt_of_lt_of_le hl KV.out.size;have q0:(0:Int)≤(t:Int):=by omega
    have q1:(t:Int)<(n:Int):=by omega
    have e1:((s:Int)==(s:Int))=true:=by simp
    go_upto_region 11 with fail
    obtain⟨X,HX⟩: ∃X,Hid (wr.alloc (.cells #[.int .i64 0,.int .i64 0,.string ⟨#[]⟩,.string ⟨#[]⟩] 40)=X):=⟨_,rfl⟩;rw [HX.out];have x0:X.cell? ⟨wr.heap.size,0,none⟩=some (.int .i64 0):=by rw [←HX.out];go_simp
    have x1:X.cell? ⟨wr.heap.size,1,none⟩=some (.int .i64 0):=by rw [←HX.out];go_simp
    have x2:X.cell? ⟨wr.heap.size,2,none⟩=some (.string ⟨#[]⟩):=by rw [←HX.out];go_simp
    have x3:X.cell? ⟨wr.heap.size,3,none⟩=some (.string ⟨#[]⟩):=by rw [←HX.out];go_simp
    have f0:X.frozen? ⟨wr.heap.size,0,none⟩=false:=by rw [←HX.out];go_simp
    have f1:X.frozen? ⟨wr.heap.size,1,none⟩=false:=by rw [←HX.out];go_simp
    have f2:X.frozen? ⟨wr.heap.size,2,none⟩=false:=by rw [←HX.out];go_simp
    have f3:X.frozen? ⟨wr.heap.size,3,none⟩=false:=by rw [←HX.out];go_simp
    have zX:wr.heap.size<X.heap.size:=by rw [←HX.out];simp
    have zX0:wr.heap.size<X.heap.size:=zX;have KX:Hid (Below wr.heap.size wr X):=by rw [←HX.out];show Below _ _ _;go_grown
    have KW:=hd (Qb KV.out KX.out);have HOX:=hd (Qe HO.out KX.out);clear HX;replace c0:=(KX.out.cell (p:=⟨b,_,none⟩) hl2).trans c0;replace c1:=(KX.out.cell (p:=⟨b,_,none⟩) hl2).trans c1;replace c2:=(KX.out.cell (p:=⟨b,_,none⟩) hl2).trans c2;have hl3:b<X.heap.size:=by omega
    have hw0:Below wr.heap.size X X:=Below.refl _ _;refine wp_region_held_drew (S:=(fun w'=>(∀bq oq,bq<X.heap.size→w'.cell? ⟨bq,oq,none⟩=X.cell? ⟨bq,oq,none⟩)∧X.heap.size≤w'.heap.size∧Below X.heap.size X w')) (by kernel_rfl) (Qk (by go_size) (by go_grown)) (fun hHeld=> ?_);refine tkA 0 ?_;refine tkB 1 ?_;refine tkA 2 ?_;refine tkB 3 ?_;refine tkA 4 ?_
    refine tnB 5 ?_;refine tnA 6 ?_;refine tnB 7 ?_;refine tnA 8 ?_;refine tnB 9 ?_;refine tnA 10 ?_;refine tnB 11 ?_
    refine tnA 12 ?_;refine tnB 13 ?_;refine tnA 14 ?_;refine tnB 15 ?_;refine tnA 16 ?_;refine tnB 17 ?_;refine tnA 18 ?_
    refine tnB 19 ?_;refine tnA 20 ?_;refine tnB 21 ?_;refine tkA 22 ?_;refine tkB 23 ?_;refine wpAnyH_done (by kernel_rfl) ?_ _;go_upto_region 12 with fail
    have hse:(S t).toList.isEmpty=false:=NU HCK.out t hlt;have hse2:((S t).toList== [])=false:=by cases h9:(S t).toList with | nil=>rw [h9]at hse;cases hse | cons _ _=>rfl
    have HNE0:Hid (neH ⟨C t,R t,(S t),⟨#[]⟩⟩=true):=by show _=_;unfold neH;simp only;rw [show(⟨#[]⟩:ByteArray).toList= []from by(first | rfl | decide | simp | kernel_rfl),hse2];rfl
    refine wp_region_held_drew (S:=(fun w'=>(∀bq oq,bq<wr.heap.size→w'.cell? ⟨bq,oq,none⟩=X.cell? ⟨bq,oq,none⟩)∧X.heap.size≤w'.heap.size∧Below wr.heap.size X w')) (by kernel_rfl) (Jr (by go_size) (by have h9:=hw0;go_grown)) (fun hHeld=> ?_);refine tkA 0 ?_;refine tkB 1 ?_;refine tkA 2 ?_;refine tkB 3 ?_;refine tkA 4 ?_;refine tkB 5 ?_
    refine tkA 6 ?_;refine tkB 7 ?_;refine tkA 8 ?_;refine tkB 9 ?_;refine tkB 10 ?_;refine rqA 11 (fun Kq hKq=> ?_);go_simp
    skip
    refine hkB hKq (Jr (by go_size) (by have h9:=hw0;go_grown)) fun hHeld=> ?_;clear hKq Kq;refine wpAnyH_done (by kernel_rfl) ?_ _;obtain⟨Z,HZ⟩: ∃Z,Hid (((((X.setCell ⟨wr.heap.size,0,none⟩ (.int .i64 (C t))).setCell ⟨wr.heap.size,1,none⟩ (.int .i64 (R t))).setCell ⟨wr.heap.size,2,none⟩ (.string (S t))).setCell ⟨wr.heap.size,3,none⟩ (.string ⟨#[]⟩)).drew.drew=Z):=⟨_,rfl⟩;have z0:Z.cell? ⟨wr.heap.size,0,none⟩=some (.int .i64 (C t)):=by rw [←HZ.out];go_simp
    have z1:Z.cell? ⟨wr.heap.size,1,none⟩=some (.int .i64 (R t)):=by rw [←HZ.out];go_simp
    have z2:Z.cell? ⟨wr.heap.size,2,none⟩=some (.string (S t)):=by rw [←HZ.out];go_simp
    have z3:Z.cell? ⟨wr.heap.size,3,none⟩=some (.string ⟨#[]⟩):=by rw [←HZ.out];go_simp
    rw [HZ.out]at hHeld;rw [HZ.out];have hwZ:=hHeld.2.2;have KZ:Hid (Below w.heap.size w Z):=KW.out.trans (hwZ.mono zv);have HOZ:=hd (Qe HO.out (KX.out.trans hwZ));have zZ:wr.heap.size<Z.heap.size:=by have h9:=hHeld.2.1;omega
    have zw:w.heap.size≤Z.heap.size:=by omega
    obtain⟨hN1,hN2⟩:=GR (b:= []) (z:=⟨C t,R t,(S t),⟨#[]⟩⟩) (r2:=dfM ((clE C R S n).drop (t+1)) ((clE C' R' S' s).drop s)) HDR.out (by rw [Xc hlt,Xh,dfM]);have HN1:Hid (_→_):=hN1;have HN2:Hid (_→_):=hN2;clear hHeld hwZ HZ HOX KX KW x0 x1 x2 x3 f0 f1 f2 f3 hN1 hN2;have HNE:Hid (neH ⟨C t,R t,(S t),⟨#[]⟩⟩=true):=HNE0.out
    go_wp2_with (first
     | (at_builtin;refine Yh rfl _ _ rfl w.heap.size (.slice F j c) j O rfl (HOZ.out.alloc _) ⟨C t,R t,(S t),⟨#[]⟩⟩ Z.heap.size rfl (by simp [go_sem, *]) (by simp [go_sem, *]) (by simp [go_sem, *]) (by simp [go_sem, *]) (by omega) (by simp;omega) ?_)
     | fail)
    intro va w6 ho hg;obtain⟨F6,h6,rfl,_,_⟩:=Qh ho;have HO6:Hid (w6.ownsRow w.heap.size 40 4 (.slice F6 (j+1) h6) (j+1) (Qu chL (O++ [⟨C t,R t,(S t),⟨#[]⟩⟩]))):=ho;have K6:Hid (Below w.heap.size w w6):=(KZ.out.alloc zw _).grown hg (by simp;omega) (fun j hj=>(HOZ.out.lt j hj).1);clear ho hg;go_wp2_with fail
    go_roundw
    case rel=>exact⟨t+1,s,O++ [⟨C t,R t,(S t),⟨#[]⟩⟩],F6,j+1,h6,by omega,by omega,rfl,by go_num,by go_num,HN1.out HNE.out,by simp [HJ.out],by omega,HO6.out,K6.out⟩
    case measure=>simp [intOf];omega
  ·have hls:s<m:=by omega
   obtain rfl:t=n:=by omega
   obtain⟨b',o',rfl,hl',d0,d1,d2,_⟩:=HR'.out.2 s hls;rw [←KV.out.cell (p:=⟨_,_,none⟩) hl']at d0 d1 d2;have hl2':b'<wr.heap.size:=Nat.lt_of_lt_of_le hl' KV.out.size;have p0:(0:Int)≤(s:Int):=by omega
   have p1:(s:Int)<(m:Int):=by omega
   have e1:((s:Int)==(m:Int))=false:=by simp;omega
   have e2:((t:Int)==(t:Int))=true:=by simp
   have q1: ¬(t:Int)<(t:Int):=by omega
   go_upto_region 11 with fail
   obtain⟨X,HX⟩: ∃X,Hid (wr.alloc (.cells #[.int .i64 0,.int .i64 0,.string ⟨#[]⟩,.string ⟨#[]⟩] 40)=X):=⟨_,rfl⟩;rw [HX.out];have x0:X.cell? ⟨wr.heap.size,0,none⟩=some (.int .i64 0):=by rw [←HX.out];go_simp
   have x1:X.cell? ⟨wr.heap.size,1,none⟩=some (.int .i64 0):=by rw [←HX.out];go_simp
   have x2:X.cell? ⟨wr.heap.size,2,none⟩=some (.string ⟨#[]⟩):=by rw [←HX.out];go_simp
   have x3:X.cell? ⟨wr.heap.size,3,none⟩=some (.string ⟨#[]⟩):=by rw [←HX.out];go_simp
   have f0:X.frozen? ⟨wr.heap.size,0,none⟩=false:=by rw [←HX.out];go_simp
   have f1:X.frozen? ⟨wr.heap.size,1,none⟩=false:=by rw [←HX.out];go_simp
   have f2:X.frozen? ⟨wr.heap.size,2,none⟩=false:=by rw [←HX.out];go_simp
   have f3:X.frozen? ⟨wr.heap.size,3,none⟩=false:=by rw [←HX.out];go_simp
   have zX:wr.heap.size<X.heap.size:=by rw [←HX.out];simp
   have zX0:wr.heap.size<X.heap.size:=zX;have KX:Hid (Below wr.heap.size wr X):=by rw [←HX.out];show Below _ _ _;go_grown
   have KW:=hd (Qb KV.out KX.out);have HOX:=hd (Qe HO.out KX.out);clear HX;replace d0:=(KX.out.cell (p:=⟨b',_,none⟩) hl2').trans d0;replace d1:=(KX.out.cell (p:=⟨b',_,none⟩) hl2').trans d1;replace d2:=(KX.out.cell (p:=⟨b',_,none⟩) hl2').trans d2;have hl3':b'<X.heap.size:=by omega
   have hw0:Below wr.heap.size X X:=Below.refl _ _;refine wp_region_held_drew (S:=(fun w'=>(∀bq oq,bq<X.heap.size→w'.cell? ⟨bq,oq,none⟩=X.cell? ⟨bq,oq,none⟩)∧X.heap.size≤w'.heap.size∧Below X.heap.size X w')) (by kernel_rfl) (Qk (by go_size) (by go_grown)) (fun hHeld=> ?_);refine tkA 0 ?_;refine tkB 1 ?_;refine tkA 2 ?_;refine tkB 3 ?_;refine tkA 4 ?_
   refine tkB 5 ?_;refine tkA 6 ?_;refine tkB 7 ?_;refine tkA 8 ?_;refine tkB 9 ?_;refine tnA 10 ?_;refine tnB 11 ?_
   refine tnA 12 ?_;refine tnB 13 ?_;refine tnA 14 ?_;refine tnB 15 ?_;refine tnA 16 ?_;refine tnB 17 ?_;refine tnA 18 ?_
   refine tnB 19 ?_;refine tnA 20 ?_;refine tkB 21 ?_;refine tkA 22 ?_;refine tkB 23 ?_;refine wpAnyH_done (by kernel_rfl) ?_ _;go_upto_region 14 with fail
   refine wp_region_held_drew (S:=(fun w'=>(∀bq oq,bq<X.heap.size→w'.cell? ⟨bq,oq,none⟩=X.cell? ⟨bq,oq,none⟩)∧X.heap.size≤w'.heap.size∧Below X.heap.size X w')) (by kernel_rfl) (Qk (by go_size) (by go_grown)) (fun hHeld=> ?_);refine tkA 0 ?_;refine tkB 1 ?_;refine tkA 2 ?_;refine tkB 3 ?_;refine tkA 4 ?_;refine tnB 5 ?_
   refine tnA 6 ?_;refine tnB 7 ?_;refine tnA 8 ?_;refine tnB 9 ?_;refine tnA 10 ?_;refine tnB 11 ?_;refine tnA 12 ?_
   refine tnB 13 ?_;refine tnA 14 ?_;refine tnB 15 ?_;refine tkA 16 ?_;refine tkB 17 ?_;refine wpAnyH_done (by kernel_rfl) ?_ _;go_upto_region 15 with fail
   have hse:(S' s).toList.isEmpty=false:=NU HCK'.out s hls;have hse2:((S' s).toList== [])=false:=by cases h9:(S' s).toList with | nil=>rw [h9]at hse;cases hse | cons _ _=>rfl
   have hse3:(([]:List UInt8)==(S' s).toList)=false:=by cases h9:(S' s).toList with | nil=>rw [h9]at hse;cases hse | cons _ _=>rfl
   have HNE0:Hid (neH ⟨C' s,R' s,⟨#[]⟩,(S' s)⟩=true):=by show _=_;unfold neH;simp only;rw [show(⟨#[]⟩:ByteArray).toList= []from by(first | rfl | decide | simp | kernel_rfl),hse3];rfl
   refine wp_region_held_drew (S:=(fun w'=>(∀bq oq,bq<wr.heap.size→w'.cell? ⟨bq,oq,none⟩=X.cell? ⟨bq,oq,none⟩)∧X.heap.size≤w'.heap.size∧Below wr.heap.size X w')) (by kernel_rfl) (Jr (by go_size) (by have h9:=hw0;go_grown)) (fun hHeld=> ?_);refine tkA 0 ?_;refine tkB 1 ?_;refine tkA 2 ?_;refine tkB 3 ?_;refine tkA 4 ?_;refine tkB 5 ?_
   refine tkA 6 ?_;refine tkB 7 ?_;refine tkA 8 ?_;refine tkB 9 ?_;refine tkB 10 ?_;refine rqA 11 (fun Kq hKq=> ?_);go_simp
   skip
   refine hkB hKq (Jr (by go_size) (by have h9:=hw0;go_grown)) fun hHeld=> ?_;clear hKq Kq;refine wpAnyH_done (by kernel_rfl) ?_ _;obtain⟨Z,HZ⟩: ∃Z,Hid (((((X.setCell ⟨wr.heap.size,0,none⟩ (.int .i64 (C' s))).setCell ⟨wr.heap.size,1,none⟩ (.int .i64 (R' s))).setCell ⟨wr.heap.size,2,none⟩ (.string ⟨#[]⟩)).setCell ⟨wr.heap.size,3,none⟩ (.string (S' s))).drew.drew.drew=Z):=⟨_,rfl⟩;have z0:Z.cell? ⟨wr.heap.size,0,none⟩=some (.int .i64 (C' s)):=by rw [←HZ.out];go_simp
   have z1:Z.cell? ⟨wr.heap.size,1,none⟩=some (.int .i64 (R' s)):=by rw [←HZ.out];go_simp
   have z2:Z.cell? ⟨wr.heap.size,2,none⟩=some (.string ⟨#[]⟩):=by rw [←HZ.out];go_simp
   have z3:Z.cell? ⟨wr.heap.size,3,none⟩=some (.string (S' s)):=by rw [←HZ.out];go_simp
   rw [HZ.out]at hHeld;rw [HZ.out];have hwZ:=hHeld.2.2;have KZ:Hid (Below w.heap.size w Z):=KW.out.trans (hwZ.mono zv);have HOZ:=hd (Qe HO.out (KX.out.trans hwZ));have zZ:wr.heap.size<Z.heap.size:=by have h9:=hHeld.2.1;omega
   have zw:w.heap.size≤Z.heap.size:=by omega
   obtain⟨hN1,hN2⟩:=GR (b:= []) (z:=⟨C' s,R' s,⟨#[]⟩,(S' s)⟩) (r2:=dfM ((clE C R S t).drop t) ((clE C' R' S' m).drop (s+1))) HDR.out (by rw [Xc hls,Xh,dfM]);have HN1:Hid (_→_):=hN1;have HN2:Hid (_→_):=hN2;clear hHeld hwZ HZ HOX KX KW x0 x1 x2 x3 f0 f1 f2 f3 hN1 hN2;have HNE:Hid (neH ⟨C' s,R' s,⟨#[]⟩,(S' s)⟩=true):=HNE0.out
   go_wp2_with (first
    | (at_builtin;refine Yh rfl _ _ rfl w.heap.size (.slice F j c) j O rfl (HOZ.out.alloc _) ⟨C' s,R' s,⟨#[]⟩,(S' s)⟩ Z.heap.size rfl (by simp [go_sem, *]) (by simp [go_sem, *]) (by simp [go_sem, *]) (by simp [go_sem, *]) (by omega) (by simp;omega) ?_)
    | fail)
   intro va w6 ho hg;obtain⟨F6,h6,rfl,_,_⟩:=Qh ho;have HO6:Hid (w6.ownsRow w.heap.size 40 4 (.slice F6 (j+1) h6) (j+1) (Qu chL (O++ [⟨C' s,R' s,⟨#[]⟩,(S' s)⟩]))):=ho;have K6:Hid (Below w.heap.size w w6):=(KZ.out.alloc zw _).grown hg (by simp;omega) (fun j hj=>(HOZ.out.lt j hj).1);clear ho hg;go_wp2_with fail
   go_roundw
   case rel=>exact⟨t,s+1,O++ [⟨C' s,R' s,⟨#[]⟩,(S' s)⟩],F6,j+1,h6,by omega,by omega,rfl,by go_num,by go_num,HN1.out HNE.out,by simp [HJ.out],by omega,HO6.out,K6.out⟩
   case measure=>simp [intOf];omega
theorem sb_iff {a b:ByteArray}:(a.toList==b.toList)=true↔a=b:=⟨fun h=>Qcu h,fun h=>by rw [h];simp⟩
theorem Qlw {a b:ByteArray}:(a.toList==b.toList)=false↔a≠b:=by
 rw [←Bool.not_eq_true,sb_iff]
def mgS (o x y:ByteArray):Option ByteArray:=if(x.toList==o.toList)=true then some y else if(y.toList==o.toList)=true then some x else if(x.toList==y.toList)=true then some x else none
def Ow (O X Y:List CL) (p q:Int):Option ByteArray:=mgS (atC p q O) (atC p q X) (atC p q Y)
def mgC (O X Y M:List CL):List (Int × Int):=(M.filter (fun m=>(Ow O X Y m.c m.r).isNone)).map (fun m=>(m.c,m.r))
def Qan (O X Y:List CL) (m:CL):Option CL:=(Ow O X Y m.c m.r).bind (fun s=>if s.toList.isEmpty=true then none else some ⟨m.c,m.r,s⟩)
def mgL (O X Y M:List CL):List CL:=M.filterMap (Qan O X Y)
def Hi (X:List CL) (c:CH):Bool:=(atC c.c c.r X).toList==c.f.toList
def EQ (X:List CL) (c:CH):Bool:= !((atC c.c c.r X).toList==c.f.toList)&& !((atC c.c c.r X).toList==c.t.toList)
def spO (X:List CL) (E:List CL) (ds:List CH):List CL:=ds.foldl (fun E c=>if Hi X c=true then YE ⟨c.c,c.r,c.t⟩ E else E) E
def spC (X:List CL) (ds:List CH):List (Int × Int):=(ds.filter (EQ X)).map (fun c=>(c.c,c.r))
theorem EP (X E:List CL) (ds:List CH) (c:CH):spO X E (ds++ [c])=if Hi X c=true then YE ⟨c.c,c.r,c.t⟩ (spO X E ds)else spO X E ds:=by simp [spO,List.foldl_append]
theorem MW (X:List CL) (ds:List CH) (c:CH):spC X (ds++ [c])=if EQ X c=true then spC X ds++ [(c.c,c.r)]else spC X ds:=by
 unfold spC;rw [List.filter_append];by_cases h:EQ X c=true<;>simp [h]
theorem Qh0 {w:CL} {E:List CL} {z:CL}:z∈YE w E↔(z∈E∧ ¬(z.c=w.c∧z.r=w.r))∨(z=w∧w.s.toList.isEmpty=false):=by
 rw [(Xo w E).mem_iff];by_cases h:w.s.toList.isEmpty=true
 ·rw [if_pos h,offP_mem];simp [h]
 ·rw [if_neg h,List.mem_append,offP_mem,List.mem_singleton];simp [Bool.eq_false_iff.2 h]
theorem XQ {X:List CL}: ∀{ds:List CH} {E:List CL},ds.Pairwise ltH→ ∀z,z∈spO X E ds↔(z∈E∧ ∀c∈ds,Hi X c=true→ ¬(z.c=c.c∧z.r=c.r))∨(∃c∈ds,Hi X c=true∧z=⟨c.c,c.r,c.t⟩∧c.t.toList.isEmpty=false)
 | [],E,_,z=>by simp [spO]
 | c::ds,E,hp,z=>by
  obtain⟨h1,h2⟩:=List.pairwise_cons.1 hp;have e:spO X E (c::ds)=spO X (if Hi X c=true then YE ⟨c.c,c.r,c.t⟩ E else E) ds:=rfl;rw [e,XQ h2];by_cases hc:Hi X c=true
  ·rw [if_pos hc,Qh0];simp only;constructor
   ·rintro(⟨(⟨hz,hn⟩ | ⟨hz,hn⟩),hall⟩ | ⟨c',hc',h3⟩)
    ·exact .inl ⟨hz,fun c' hm hi=>by
      rcases List.mem_cons.1 hm with rfl | hm
      ·exact hn
      ·exact hall c' hm hi⟩
    ·exact .inr ⟨c,by simp,hc,hz,hn⟩
    ·exact .inr ⟨c',by simp [hc'],h3⟩
   ·rintro(⟨hz,hall⟩ | ⟨c',hm,hi,hz,hn⟩)
    ·exact .inl ⟨.inl ⟨hz,hall c (by simp) hc⟩,fun c' hm hi=>hall c' (by simp [hm]) hi⟩
    ·rcases List.mem_cons.1 hm with rfl | hm
     ·refine .inl ⟨.inr ⟨hz,hn⟩,fun c2 hm2 hi2 e2=> ?_⟩;subst hz;exact ZM (h1 c2 hm2) e2
     ·exact .inr ⟨c',hm,hi,hz,hn⟩
  ·rw [if_neg hc];constructor
   ·rintro(⟨hz,hall⟩ | ⟨c',hm,h3⟩)
    ·exact .inl ⟨hz,fun c' hm hi=>by
      rcases List.mem_cons.1 hm with rfl | hm
      ·exact absurd hi hc
      ·exact hall c' hm hi⟩
    ·exact .inr ⟨c',by simp [hm],h3⟩
   ·rintro(⟨hz,hall⟩ | ⟨c',hm,hi,h3⟩)
    ·exact .inl ⟨hz,fun c' hm hi=>hall c' (by simp [hm]) hi⟩
    ·rcases List.mem_cons.1 hm with rfl | hm
     ·exact absurd hi hc
     ·exact .inr ⟨c',hm,hi,h3⟩
theorem VM {X:List CL}: ∀{ds:List CH} {E:List CL},upC E→upC (spO X E ds)
 | [],E,h=>h
 | c::ds,E,h=>by
  have e:spO X E (c::ds)=spO X (if Hi X c=true then YE ⟨c.c,c.r,c.t⟩ E else E) ds:=rfl;rw [e];refine VM ?_;split
  ·exact Vw h
  ·exact h
theorem Vc {X:List CL} (h:upC X) {z:CL} (hz:z∈X):atC z.c z.r X=z.s:=by
  unfold atC;cases hf:X.find? (fun y=>decide (y.c=z.c∧y.r=z.r))with
  | none=>exact absurd (List.find?_eq_none.1 hf z hz) (by simp)
  | some y=>
   have hy:=List.mem_of_find?_eq_some hf;have he9:=List.find?_some hf;have he:y.c=z.c∧y.r=z.r:=of_decide_eq_true he9
   have:y=z:=by
    obtain⟨i,hi,e1⟩:=List.mem_iff_getElem.1 hy;obtain⟨j,hj,e2⟩:=List.mem_iff_getElem.1 hz;rcases Nat.lt_trichotomy i j with h9 | h9 | h9
    ·have:=List.pairwise_iff_getElem.1 h i j hi hj h9;rw [e1,e2]at this;exact absurd he (ZM this)
    ·subst h9;rw [←e1,←e2]
    ·have:=List.pairwise_iff_getElem.1 h j i hj hi h9;rw [e1,e2]at this;exact absurd ⟨he.1.symm,he.2.symm⟩ (ZM this)
   rw [this];rfl
theorem Vd {X:List CL} (h:upC X) {z:CL}:z∈X↔Zo z.c z.r X∧atC z.c z.r X=z.s:=by
 constructor
 ·intro hz;exact⟨⟨z,hz,rfl,rfl⟩,Vc h hz⟩
 ·rintro⟨⟨y,hy,e1,e2⟩,e3⟩;have h9:=Vc h hy
  have:y=z:=by
   obtain⟨yc,yr,ys⟩:=y;obtain⟨zc,zr,zs⟩:=z;simp only at e1 e2 e3 h9;subst e1 e2;rw [h9]at e3;rw [e3]
  rw [←this];exact hy
theorem XY {X:List CL} {p q:Int} (h:(atC p q X).toList.isEmpty=false):Zo p q X:=by
 refine Classical.byContradiction fun hn=> ?_;rw [Yx hn,show(⟨#[]⟩:ByteArray).toList= []from by(first | rfl | decide | simp | kernel_rfl)]at h;cases h
theorem MJ {O Y:List CL} {p q:Int} (h:atC p q O≠atC p q Y):Zo p q O∨Zo p q Y:=by
 refine Classical.byContradiction fun hn=> ?_;rw [not_or]at hn;exact h (by rw [Yx hn.1,Yx hn.2])
theorem ZP {O Y:List CL} (hO:upC O) (hY:upC Y) {c:CH}:c∈dfL O Y↔c.f=atC c.c c.r O∧c.t=atC c.c c.r Y∧c.f≠c.t:=by
 unfold dfL;rw [List.mem_filter,(Yl O Y hO hY).1,neH,Bool.not_eq_true',Qlw];constructor
 ·rintro⟨⟨_,h1,h2⟩,h3⟩;exact⟨h1,h2,h3⟩
 ·rintro⟨h1,h2,h3⟩;exact⟨⟨MJ (by rw [←h1,←h2];exact h3),h1,h2⟩,h3⟩
theorem mg_none {O X Y:List CL} {p q:Int}:(Ow O X Y p q).isNone=true↔atC p q X≠atC p q O∧atC p q Y≠atC p q O∧atC p q X≠atC p q Y:=by
 unfold Ow mgS;by_cases h1:atC p q X=atC p q O
 ·rw [if_pos (sb_iff.2 h1)];simp [h1]
 ·rw [if_neg (by rw [sb_iff];exact h1)];by_cases h2:atC p q Y=atC p q O
  ·rw [if_pos (sb_iff.2 h2)];simp [h2]
  ·rw [if_neg (by rw [sb_iff];exact h2)];by_cases h3:atC p q X=atC p q Y
   ·rw [if_pos (sb_iff.2 h3)];simp [h3]
   ·rw [if_neg (by rw [sb_iff];exact h3)];simp [h1,h2,h3]
theorem Qis {O X Y M:List CL} (hO:upC O) (hY:upC Y) (hM:upC M) (hm: ∀p q,Zo p q M↔Zo p q O∨Zo p q X∨Zo p q Y):spC X (dfL O Y)=mgC O X Y M:=by
 refine Yt (r:=fun a b=>QF a.1 a.2 b.1 b.2=true) (fun x y h h'=>Ul h h') ?_ ?_ (fun z=> ?_)
 ·unfold spC;rw [List.pairwise_map];exact((Yl O Y hO hY).2.filter _).filter _
 ·unfold mgC;rw [List.pairwise_map];exact hM.filter _
 ·obtain⟨p,q⟩:=z;unfold spC mgC;simp only [List.mem_map,List.mem_filter,Prod.mk.injEq];constructor
  ·rintro⟨c,⟨hc,hn⟩,rfl,rfl⟩;obtain⟨e1,e2,e3⟩:=(ZP hO hY).1 hc;unfold EQ at hn;simp only [Bool.and_eq_true,Bool.not_eq_true',Qlw]at hn;rw [e1,e2]at hn;rw [e1,e2]at e3;obtain⟨m,hm9,e4,e5⟩:=(hm c.c c.r).2 (by rcases MJ e3 with h | h;exact .inl h;exact .inr (.inr h))
   exact⟨m,⟨hm9,by rw [e4,e5];exact mg_none.2 ⟨hn.1,fun e=>e3 e.symm,hn.2⟩⟩,e4,e5⟩
  ·rintro⟨m,⟨hm9,hn⟩,rfl,rfl⟩;obtain⟨h1,h2,h3⟩:=mg_none.1 hn;refine⟨⟨m.c,m.r,atC m.c m.r O,atC m.c m.r Y⟩,⟨(ZP hO hY).2 ⟨rfl,rfl,fun e=>h2 e.symm⟩,?_⟩,rfl,rfl⟩;unfold EQ;simp only [Bool.and_eq_true,Bool.not_eq_true',Qlw];exact⟨h1,h3⟩
theorem Qq1 {O X Y M:List CL} (hO:upC O) (hX:upC X) (hY:upC Y) (hM:upC M) (hs: ∀x∈X,x.s.toList.isEmpty=false) (hm: ∀p q,Zo p q M↔Zo p q O∨Zo p q X∨Zo p q Y) (hc:mgC O X Y M= []):spO X X (dfL O Y)=mgL O X Y M:=by
 have hno: ∀p q,Zo p q M→ ¬(atC p q X≠atC p q O∧atC p q Y≠atC p q O∧atC p q X≠atC p q Y):=fun p q ⟨m,hm9,e1,e2⟩ h=>by
  have:(m.c,m.r)∈mgC O X Y M:=by
   unfold mgC;exact List.mem_map.2 ⟨m,List.mem_filter.2 ⟨hm9,mg_none.2 (by rw [e1,e2];exact h)⟩,rfl⟩
  rw [hc]at this;cases this
 have happ: ∀c:CH,c∈dfL O Y∧Hi X c=true↔c.f=atC c.c c.r O∧c.t=atC c.c c.r Y∧atC c.c c.r O≠atC c.c c.r Y∧atC c.c c.r X=atC c.c c.r O:=fun c=>by
  rw [ZP hO hY,Hi,sb_iff];constructor
  ·rintro⟨⟨h1,h2,h3⟩,h4⟩;exact⟨h1,h2,by rw [←h1,←h2];exact h3,by rw [h4,h1]⟩
  ·rintro⟨h1,h2,h3,h4⟩;exact⟨⟨h1,h2,by rw [h1,h2];exact h3⟩,by rw [h4,h1]⟩
 refine Yt (r:=fun x y=>ltC x y=true) (fun x y h h'=>Ul h h') (VM hX) ?_ (fun z=> ?_)
 ·unfold mgL;refine List.Pairwise.filterMap _ (fun a b hab x hx y hy=> ?_) hM
  have ex:x.c=a.c∧x.r=a.r:=by
   unfold Qan at hx;obtain⟨s,_,h2⟩:=Option.bind_eq_some_iff.1 hx;split at h2
   ·cases h2
   ·cases h2;exact⟨rfl,rfl⟩
  have ey:y.c=b.c∧y.r=b.r:=by
   unfold Qan at hy;obtain⟨s,_,h2⟩:=Option.bind_eq_some_iff.1 hy;split at h2
   ·cases h2
   ·cases h2;exact⟨rfl,rfl⟩
  show QF x.c x.r y.c y.r=true;rw [ex.1,ex.2,ey.1,ey.2];exact hab
 ·have hml:z∈mgL O X Y M↔Zo z.c z.r M∧Ow O X Y z.c z.r=some z.s∧z.s.toList.isEmpty=false:=by
   unfold mgL;rw [List.mem_filterMap];constructor
   ·rintro⟨m,hm9,h⟩;unfold Qan at h;obtain⟨s,h1,h2⟩:=Option.bind_eq_some_iff.1 h;split at h2
    ·cases h2
    ·rename_i hne
     cases h2
     exact⟨⟨m,hm9,rfl,rfl⟩,h1,Bool.eq_false_iff.2 hne⟩
   ·rintro⟨⟨m,hm9,e1,e2⟩,h1,h2⟩;refine⟨m,hm9,?_⟩;unfold Qan;rw [e1,e2,h1];simp only [Option.bind_some,h2,Bool.false_eq_true,if_false]
  rw [hml,XQ (show(dfL O Y).Pairwise ltH from(Yl O Y hO hY).2.filter _)];obtain⟨p,q,s⟩:=z;simp only;constructor
  ·rintro(⟨hz,hall⟩ | ⟨c,hcm,hi,hz,hne⟩)
   ·have hx:=(Vd hX).1 hz;simp only at hx;have hse:=hs _ hz;simp only at hse;refine⟨(hm p q).2 (.inr (.inl hx.1)),?_,hse⟩
    have hna: ¬(atC p q O≠atC p q Y∧atC p q X=atC p q O):=fun h=>by
     have h9:=(happ ⟨p,q,atC p q O,atC p q Y⟩).2 ⟨rfl,rfl,h.1,h.2⟩;exact hall _ h9.1 h9.2 ⟨rfl,rfl⟩
    have hnc:=hno p q ((hm p q).2 (.inr (.inl hx.1)));unfold Ow mgS;by_cases h1:atC p q X=atC p q O
    ·have h2:atC p q O=atC p q Y:=Classical.byContradiction fun h=>hna ⟨h,h1⟩;rw [if_pos (sb_iff.2 h1),←h2,←h1,hx.2]
    ·rw [if_neg (by rw [sb_iff];exact h1)];by_cases h2:atC p q Y=atC p q O
     ·rw [if_pos (sb_iff.2 h2),hx.2]
     ·rw [if_neg (by rw [sb_iff];exact h2)];have h3:atC p q X=atC p q Y:=Classical.byContradiction fun h=>hnc ⟨h1,h2,h⟩;rw [if_pos (sb_iff.2 h3),hx.2]
   ·obtain⟨h1,h2,h3,h4⟩:=(happ c).1 ⟨hcm,hi⟩;cases hz
    refine⟨(hm c.c c.r).2 (by rcases MJ h3 with h | h;exact .inl h;exact .inr (.inr h)),?_,hne⟩;unfold Ow mgS;rw [if_pos (sb_iff.2 h4),h2]
  ·rintro⟨hp,hmg,hne⟩;unfold Ow mgS at hmg;by_cases h1:atC p q X=atC p q O
   ·rw [if_pos (sb_iff.2 h1)]at hmg;have hY9:=Option.some.inj hmg;by_cases h2:atC p q O=atC p q Y
    ·have hxs:atC p q X=s:=by rw [h1,h2];exact hY9
     refine .inl ⟨(Vd hX).2 ⟨XY (by rw [hxs];exact hne),hxs⟩,fun c hcm hi e=> ?_⟩;obtain⟨_,_,h3,_⟩:=(happ c).1 ⟨hcm,hi⟩;rw [←e.1,←e.2]at h3;exact h3 h2
    ·have h9:=(happ ⟨p,q,atC p q O,atC p q Y⟩).2 ⟨rfl,rfl,h2,h1⟩;exact .inr ⟨_,h9.1,h9.2,by rw [hY9],by rw [hY9];exact hne⟩
   ·rw [if_neg (by rw [sb_iff];exact h1)]at hmg
    have hxs:atC p q X=s:=by
     split at hmg
     ·exact Option.some.inj hmg
     ·split at hmg
      ·exact Option.some.inj hmg
      ·cases hmg
    refine .inl ⟨(Vd hX).2 ⟨XY (by rw [hxs];exact hne),hxs⟩,fun c hcm hi e=> ?_⟩;obtain⟨_,_,_,h4⟩:=(happ c).1 ⟨hcm,hi⟩;rw [←e.1,←e.2]at h4;exact h1 h4
end Go.Proofs.YthjldgbfgapbcaaGreatDoor
