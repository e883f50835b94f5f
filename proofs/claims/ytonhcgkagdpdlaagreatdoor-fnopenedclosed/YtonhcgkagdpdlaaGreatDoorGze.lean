import Derived.Test.YtonhcgkagdpdlaaGreatDoorGap
import Derived.Test.YtonhcgkagdpdlaaGreatDoorGzb
set_option linter.unusedSimpArgs false
set_option linter.unusedVariables false
set_option maxHeartbeats 8000000
set_option maxRecDepth 100000
namespace Go.Proofs.YtonhcgkagdpdlaaGreatDoor
open Go.RowKit
theorem rd_goodF {s:ByteArray} {out:List FN} (h:rdF s=some out):good out=true∧1≤out.length∧fOkB (ouF out) out.length=true:=by
 unfold rdF at h
 split at h
 ·obtain⟨y,hy⟩: ∃y,PB RF 1 1 0 [] s.data.toList []=y:=⟨_,rfl⟩
  rw [hy]at h
  cases y with
  | none=>cases h
  | some z=>
   unfold rdE at h
   simp only at h
   split at h
   ·rename_i hc
    cases h
    refine⟨hc.2.1,?_,hc.2.2⟩
    have h9:=hc.2.2
    unfold fOkB at h9
    simp only [Bool.and_eq_true,decide_eq_true_eq]at h9
    exact h9.1.1.1.1.1
   ·cases h
 ·cases h
theorem good_atF {out:List FN} (h:good out=true):(∀i,i<out.length→(ouF out i).cs.size≤maxLen)∧(∀i,i<out.length→(ouF out i).kids.length≤1048576):=
 ⟨fun i hi=>Nat.le_trans (nodeX_small (ouF_good h i hi)).1 (by unfold maxLen;omega),fun i hi=>Nat.le_trans (nodeX_small (ouF_good h i hi)).2 (by omega)⟩
structure FR (W:World) (r g n:Nat) (F:Nat→FN):Prop where
 gr:g≠r
 gl:g<W.heap.size
 node: ∀i,i<n→ ∃KA kc,(∀j,j<14→W.cell? ⟨g,i*14+j,none⟩=(nodeL (F i) KA kc)[j]?)∧(KA=none→kc=0)∧(∀j,j<(F i).kids.length→ ∃b o,KA=some ⟨b,o,none⟩∧b≠r∧b≠g∧b<W.heap.size∧W.cell? ⟨b,o+j,none⟩=some (.int .i64 ((F i).kids.getD j 0)))
 fz: ∀p,p<n*14→W.frozen? ⟨g,p,none⟩=false
theorem own_ne_typeF {W:World} {B B':Nat} {e e':TypeId} {s s' n n':Nat} {v v':Value} {xs xs':List Value} (h:W.ownsRow B e s v n xs) (h':W.ownsRow B' e' s' v' n' xs') (hne:e≠e'):v.ownBlock=none∨v.ownBlock≠v'.ownBlock:=by
 rcases h.2 with⟨rfl,_⟩ | ⟨g,cap,cur,rfl,_,hg,_⟩
 ·exact Or.inl rfl
 ·right
  rcases h'.2 with⟨rfl,_⟩ | ⟨g',cap',cur',rfl,_,hg',_⟩
  ·intro e;cases e
  ·intro e9
   cases e9
   rw [hg]at hg'
   cases hg'
   exact hne rfl
theorem cell_set_neF {W:World} {b p q:Nat} {u:Value} (h:p≠q):(W.setCell ⟨b,p,none⟩ u).cell? ⟨b,q,none⟩=W.cell? ⟨b,q,none⟩:=by
 rw [World.cell?_setCell_other]
 intro e
 cases e
 exact h rfl
theorem FR.of_own {W:World} {B r g n cap:Nat} {ys:List Value} {F:Nat→FN} (h:W.ownsRow B 54 14 (.slice (some ⟨g,0,none⟩) n cap) n ys) (hp:FnPart W B ys F n) (hr:r<B):FR W r g n F:=by
 obtain⟨A',cap',e,hn,hc⟩:=own_shape h
 cases e
 have hg:=h.lt g rfl
 refine⟨by omega,hg.2,fun i hi=> ?_,fun p hp=> ?_⟩
 ·obtain⟨KA,kc,h1,h2⟩:=hp i hi
  refine⟨KA,kc,fun j hj=> ?_,fun e0=> ?_,fun j hj=> ?_⟩
  ·obtain⟨g',e',_,_,c,_⟩:=hc (i*14+j) (by omega)
   cases e'
   rw [c,h1 j hj]
  ·rcases h2.2 with⟨e,_⟩ | ⟨g,cap,cur,e,_⟩
   ·injection e with _ _ e3
   ·injection e with e1
    rw [e0]at e1
    cases e1
  ·obtain⟨b,o,e,hl,c⟩:=(int_of_own h2).2 j hj
   subst e
   have hne:=own_ne_typeF h2 h (by decide)
   have hb:=h2.lt b rfl
   refine⟨b,o,rfl,by omega,fun e=> ?_,hl,c⟩
   rcases hne with hne | hne
   ·cases hne
   ·exact hne (by rw [e];rfl)
 ·obtain⟨g',e',_,_,_,f⟩:=hc p hp
  cases e'
  exact f
theorem FR.upd {W w':World} {r g n:Nat} {F:Nat→FN} (h:FR W r g n F) (hu:Upd r W w'):FR w' r g n F:=by
 refine⟨h.gr,Nat.lt_of_lt_of_le h.gl hu.2.2.1,fun i hi=> ?_,fun p hp=>(hu.2.1 g p h.gl h.gr).trans (h.fz p hp)⟩
 obtain⟨KA,kc,h1,h2,h3⟩:=h.node i hi
 refine⟨KA,kc,fun j hj=>(hu.1 g _ h.gl h.gr).trans (h1 j hj),h2,fun j hj=> ?_⟩
 obtain⟨b,o,e,n1,n2,hl,c⟩:=h3 j hj
 exact⟨b,o,e,n1,n2,Nat.lt_of_lt_of_le hl hu.2.2.1,(hu.1 b _ hl n1).trans c⟩
theorem FR.set {W:World} {r g n t q:Nat} {F:Nat→FN} {v:Value} {x:FN} (h:FR W r g n F) (ht:t<n) (hq:q<13) (hx: ∀(KA:Option Addr) (kc j:Nat),j<14→(nodeL x KA kc)[j]? =if j=q then some v else(nodeL (F t) KA kc)[j]?) (hk:x.kids=(F t).kids):
  FR (W.setCell ⟨g,t*14+q,none⟩ v) r g n (fun i=>if i=t then x else F i):=by
 refine⟨h.gr,by simpa using h.gl,fun i hi=> ?_,fun p hp=>by simpa using h.fz p hp⟩
 obtain⟨KA,kc,h1,h2,h3⟩:=h.node i hi
 have far: ∀p,p≠t*14+q→(W.setCell ⟨g,t*14+q,none⟩ v).cell? ⟨g,p,none⟩=W.cell? ⟨g,p,none⟩:=fun p hp=>cell_set_neF (fun e=>hp e.symm)
 have kid: ∀b o,b≠g→(W.setCell ⟨g,t*14+q,none⟩ v).cell? ⟨b,o,none⟩=W.cell? ⟨b,o,none⟩:=fun b o hb=>World.cell?_setCell_other W _ ⟨b,o,none⟩ v (fun e=>hb (congrArg Addr.block e).symm)
 by_cases e:i=t
 ·subst e
  refine⟨KA,kc,fun j hj=> ?_,h2,fun j hj=> ?_⟩
  ·rw [if_pos rfl,hx KA kc j hj]
   by_cases ej:j=q
   ·subst ej
    rw [if_pos rfl]
    obtain⟨u,hu⟩: ∃u,(nodeL (F i) KA kc)[j]? =some u:=⟨_,List.getElem?_eq_getElem (show j<14 by omega)⟩
    exact World.cell?_setCell_same _ _ _ ((h1 j hj).trans hu)
   ·rw [if_neg ej,far _ (by omega),h1 j hj]
  ·rw [if_pos rfl,hk]at hj ⊢
   obtain⟨b,o,e,n1,n2,hl,c⟩:=h3 j hj
   exact⟨b,o,e,n1,n2,by simpa using hl,(kid b _ n2).trans c⟩
 ·refine⟨KA,kc,fun j hj=> ?_,h2,fun j hj=> ?_⟩
  ·rw [if_neg e,far _ (by omega),h1 j hj]
  ·rw [if_neg e]at hj ⊢
   obtain⟨b,o,e,n1,n2,hl,c⟩:=h3 j hj
   exact⟨b,o,e,n1,n2,by simpa using hl,(kid b _ n2).trans c⟩
def FnRowZ (W:World) (A:Option Addr) (n:Nat) (F:Nat→FN):Prop:=
 n≤maxLen∧ ∀i,i<n→ ∃b o KA kc,A=some ⟨b,o,none⟩∧b<W.heap.size∧NodeAt W b (o+i*14) (F i) KA kc∧IntRow W KA (F i).kids∧(F i).cs.size≤maxLen∧(KA=none→kc=0)
theorem FnRowZ.row {W:World} {A:Option Addr} {n:Nat} {F:Nat→FN} (h:FnRowZ W A n F):FnRow W A n F:=
 ⟨h.1,fun i hi=>by
  obtain⟨b,o,KA,kc,e,hl,hn,hk,hs,_⟩:=h.2 i hi
  exact⟨b,o,KA,kc,e,hl,hn,hk,hs⟩⟩
theorem FR.row {W:World} {r g n:Nat} {F G:Nat→FN} (h:FR W r g n F) (hG: ∀i,i<n→G i=F i) (hn:n≤maxLen) (hs: ∀i,i<n→(F i).cs.size≤maxLen∧(F i).kids.length≤maxLen):FnRowZ W (some ⟨g,0,none⟩) n G:=by
 refine⟨hn,fun i hi=> ?_⟩
 obtain⟨KA,kc,h1,h2,h3⟩:=h.node i hi
 rw [hG i hi]
 have hcell: ∀j,j<14→W.cell? ⟨g,0+i*14+j,none⟩=(nodeL (F i) KA kc)[j]?:=fun j hj=>by rw [Nat.zero_add];exact h1 j hj
 exact⟨g,0,KA,kc,rfl,h.gl,⟨hcell 0 (by omega),hcell 1 (by omega),hcell 2 (by omega),hcell 3 (by omega),hcell 4 (by omega),hcell 5 (by omega),hcell 6 (by omega),hcell 7 (by omega),hcell 8 (by omega),hcell 9 (by omega),hcell 10 (by omega),hcell 11 (by omega),hcell 12 (by omega),hcell 13 (by omega)⟩,⟨(hs i hi).2,fun j hj=>by
  obtain⟨b,o,e,_,_,hl,c⟩:=h3 j hj
  exact⟨b,o,e,hl,c⟩⟩,(hs i hi).1,h2⟩
theorem ouF_set (out:List FN) (t:Nat) (x:FN) (i:Nat) (hi:i<out.length):ouF (out.set t x) i=if i=t then x else ouF out i:=by
 unfold ouF
 rw [List.getD_eq_getElem?_getD,List.getElem?_set]
 by_cases e:t=i
 ·subst e
  rw [if_pos rfl,if_pos rfl,if_pos hi]
  rfl
 ·rw [if_neg e,if_neg (fun h=>e h.symm),List.getD_eq_getElem?_getD]
theorem Upd.store {r g p:Nat} {w W:World} {v:Value} (h:Upd r w W) (hg:w.heap.size≤g) (hr:r≤g):Upd r w (W.setCell ⟨g,p,none⟩ v):=
 ⟨fun b o hb hn=>(World.cell?_setCell_other W ⟨g,p,none⟩ ⟨b,o,none⟩ v (fun e=>by have:=congrArg Addr.block e;simp at this;omega)).trans (h.1 b o hb hn),fun b o hb hn=>(by simp:_=_).trans (h.2.1 b o hb hn),by simpa using h.2.2.1,h.2.2.2.setCell (p:=⟨g,p,none⟩) hr v⟩
theorem Upd.refl (r:Nat) (W:World):Upd r W W:=⟨fun _ _ _ _=>rfl,fun _ _ _ _=>rfl,Nat.le_refl _,Below.refl _ _⟩
def FmlP (r:Nat) (A:Option Addr) (len cap:Nat) (w:World) (e:Ending) (w':World):Prop:=
 ∃(out:List FN) (B:Option Addr) (c:Nat),e= .returned (.slice B out.length c)∧(∀W,Upd r w' W→FnRowZ W B out.length (ouF out))∧out.length≤60∧(∀i,i<out.length→(ouF out i).kids.length≤1048576)∧Rd w' r A len cap∧Upd r w w'
theorem fml_of {w W:World} {r g n c len cap t:Nat} {A:Option Addr} {out:List FN} {F:Nat→FN} {x:FN} (hn:out.length=n) (hF:FR W r g n F) (hFx: ∀i,i<n→F i=if i=t then x else ouF out i) (hx:x.cs.size≤maxLen∧x.kids.length≤1048576) (h60:n≤60) (hs: ∀i,i<n→(ouF out i).cs.size≤maxLen) (hk: ∀i,i<n→(ouF out i).kids.length≤1048576) (hr:Rd W r A len cap) (hu:Upd r w W):
  FmlP r A len cap w (.returned (.slice (some ⟨g,0,none⟩) n c)) W:=by
 have hm:(1048576:Nat)≤maxLen:=by unfold maxLen;omega
 refine⟨out.set t x,some ⟨g,0,none⟩,c,by rw [List.length_set,hn],?_,by rw [List.length_set,hn];exact h60,fun i hi=> ?_,hr,hu⟩
 ·intro V hV
  rw [List.length_set,hn]
  refine(hF.upd hV).row (fun i hi=> ?_) (by omega) (fun i hi=> ?_)
  ·rw [ouF_set _ _ _ _ (by omega),hFx i hi]
  ·rw [hFx i hi]
   by_cases e:i=t
   ·rw [if_pos e];exact⟨hx.1,Nat.le_trans hx.2 hm⟩
   ·rw [if_neg e];exact⟨hs i hi,Nat.le_trans (hk i hi) hm⟩
 ·rw [List.length_set]at hi
  rw [ouF_set _ _ _ _ hi]
  by_cases e:i=t
  ·rw [if_pos e];exact hx.2
  ·rw [if_neg e];exact hk i (by omega)
theorem node_set1 (x:FN) (u:Int) (KA:Option Addr) (kc j:Nat) (hj:j<14):(nodeL {x with o:=u} KA kc)[j]? =if j=1 then some (.int .i64 u)else(nodeL x KA kc)[j]?:=by
 match j,hj with
 | 0,_=>rfl
 | 1,_=>rfl
 | 2,_=>rfl
 | 3,_=>rfl
 | 4,_=>rfl
 | 5,_=>rfl
 | 6,_=>rfl
 | 7,_=>rfl
 | 8,_=>rfl
 | 9,_=>rfl
 | 10,_=>rfl
 | 11,_=>rfl
 | 12,_=>rfl
 | 13,_=>rfl
theorem node_set0 (x:FN) (u:Int) (KA:Option Addr) (kc j:Nat) (hj:j<14):(nodeL {x with k:=u} KA kc)[j]? =if j=0 then some (.int .i64 u)else(nodeL x KA kc)[j]?:=by
 match j,hj with
 | 0,_=>rfl
 | 1,_=>rfl
 | 2,_=>rfl
 | 3,_=>rfl
 | 4,_=>rfl
 | 5,_=>rfl
 | 6,_=>rfl
 | 7,_=>rfl
 | 8,_=>rfl
 | 9,_=>rfl
 | 10,_=>rfl
 | 11,_=>rfl
 | 12,_=>rfl
 | 13,_=>rfl
theorem node_set5 (x:FN) (a b:Int) (p q:Bool) (KA:Option Addr) (kc j:Nat) (hj:j<14):(nodeL {x with ac:=a,ar:=b,af:=p,ag:=q} KA kc)[j]? =if j=5 then some (.int .i64 a)else if j=6 then some (.int .i64 b)else if j=7 then some (.bool p)else if j=8 then some (.bool q)else(nodeL x KA kc)[j]?:=by
 match j,hj with
 | 0,_=>rfl
 | 1,_=>rfl
 | 2,_=>rfl
 | 3,_=>rfl
 | 4,_=>rfl
 | 5,_=>rfl
 | 6,_=>rfl
 | 7,_=>rfl
 | 8,_=>rfl
 | 9,_=>rfl
 | 10,_=>rfl
 | 11,_=>rfl
 | 12,_=>rfl
 | 13,_=>rfl
theorem FR.place {W:World} {r g n t:Nat} {F:Nat→FN} (h:FR W r g n F) (ht:t<n) (a b:Int) (p q:Bool):
  FR ((((W.setCell ⟨g,t*14+5,none⟩ (.int .i64 a)).setCell ⟨g,t*14+6,none⟩ (.int .i64 b)).setCell ⟨g,t*14+7,none⟩ (.bool p)).setCell ⟨g,t*14+8,none⟩ (.bool q)) r g n (fun i=>if i=t then{F t with ac:=a,ar:=b,af:=p,ag:=q}else F i):=by
 have h1:=h.set (q:=5) (v:= .int .i64 a) (x:={F t with ac:=a}) ht (by omega) (fun KA kc j hj=>by
  have:=node_set5 (F t) a (F t).ar (F t).af (F t).ag KA kc j hj
  rw [show({F t with ac:=a}:FN)={F t with ac:=a,ar:=(F t).ar,af:=(F t).af,ag:=(F t).ag}from rfl,this]
  match j,hj with
  | 0,_=>rfl
  | 1,_=>rfl
  | 2,_=>rfl
  | 3,_=>rfl
  | 4,_=>rfl
  | 5,_=>rfl
  | 6,_=>rfl
  | 7,_=>rfl
  | 8,_=>rfl
  | 9,_=>rfl
  | 10,_=>rfl
  | 11,_=>rfl
  | 12,_=>rfl
  | 13,_=>rfl) rfl
 have h2:=h1.set (q:=6) (v:= .int .i64 b) (x:={F t with ac:=a,ar:=b}) ht (by omega) (fun KA kc j hj=>by
  rw [if_pos rfl]
  match j,hj with
  | 0,_=>rfl
  | 1,_=>rfl
  | 2,_=>rfl
  | 3,_=>rfl
  | 4,_=>rfl
  | 5,_=>rfl
  | 6,_=>rfl
  | 7,_=>rfl
  | 8,_=>rfl
  | 9,_=>rfl
  | 10,_=>rfl
  | 11,_=>rfl
  | 12,_=>rfl
  | 13,_=>rfl) (by simp only [if_true])
 have h3:=h2.set (q:=7) (v:= .bool p) (x:={F t with ac:=a,ar:=b,af:=p}) ht (by omega) (fun KA kc j hj=>by
  rw [if_pos rfl]
  match j,hj with
  | 0,_=>rfl
  | 1,_=>rfl
  | 2,_=>rfl
  | 3,_=>rfl
  | 4,_=>rfl
  | 5,_=>rfl
  | 6,_=>rfl
  | 7,_=>rfl
  | 8,_=>rfl
  | 9,_=>rfl
  | 10,_=>rfl
  | 11,_=>rfl
  | 12,_=>rfl
  | 13,_=>rfl) (by simp only [if_true])
 have h4:=h3.set (q:=8) (v:= .bool q) (x:={F t with ac:=a,ar:=b,af:=p,ag:=q}) ht (by omega) (fun KA kc j hj=>by
  rw [if_pos rfl]
  match j,hj with
  | 0,_=>rfl
  | 1,_=>rfl
  | 2,_=>rfl
  | 3,_=>rfl
  | 4,_=>rfl
  | 5,_=>rfl
  | 6,_=>rfl
  | 7,_=>rfl
  | 8,_=>rfl
  | 9,_=>rfl
  | 10,_=>rfl
  | 11,_=>rfl
  | 12,_=>rfl
  | 13,_=>rfl) (by simp only [if_true])
 refine⟨h4.gr,h4.gl,fun i hi=> ?_,h4.fz⟩
 have:=h4.node i hi
 by_cases e:i=t
 ·simp only [e,if_true]at this ⊢;exact this
 ·simp only [if_neg e]at this ⊢;exact this
theorem rd_formula (H3:FtX 3 705) (r:Nat) (A:Option Addr) (len cap:Nat) (w:World) (hr:Rd w r A len cap) (hA:0<len→ ∀x,A=some x→x.block<w.heap.size):Calls Tryz.prog 13 #[.pointer (some ⟨r,0,none⟩)] w (FmlP r A len cap w):=by
 have HR:Hid (Rd w r A len cap):=hr
 have HA:Hid (0<len→ ∀x,A=some x→x.block<w.heap.size):=hA
 have HL:Hid (r<w.heap.size):=hr.lt
 clear hr hA
 go_enter Tryz.func13,Tryz.ntmps13
 go_wp2_with fail
 refine(H3 r A len cap _ HR.out).mono ?_
 rintro e w1 ⟨s,rfl,hs,hr,hu⟩
 have HR1:Hid (Rd w1 r A len cap):=hr
 have HU1:Hid (Upd r w w1):=hu
 have HL1:Hid (w.heap.size≤w1.heap.size):=hu.2.2.1
 clear hr hu
 go_wp2_with fail
 refine(spec_ReadFormula s _ (by unfold maxLen;omega)).mono ?_
 rintro _ w2 ⟨hb,(⟨h9,rfl⟩ | ⟨out,v,ys,h9,rfl,ho,hp⟩)⟩
 ·have HR2:Hid (Rd w2 r A len cap):=HR1.out.below hb
  have HU2:Hid (Upd r w w2):=HU1.out.trans (Upd.of_below (Nat.le_of_lt (Nat.lt_of_lt_of_le HL.out HL1.out)) hb)
  clear hb h9 HR1 HU1 HL1
  go_wp2_with fail
  refine(rd_once r A len cap 30 _ HR2.out (by omega) (by omega)).mono ?_
  rintro e w3 ⟨b,rfl,hr,hu⟩
  have HR3:Hid (Rd w3 r A len cap):=hr
  have HU3:Hid (Upd r w w3):=HU2.out.trans hu
  clear hr hu
  cases b
  all_goals
   go_wp2_with fail
   go_ret
   exact⟨[],none,0,rfl,fun _ _=>⟨Nat.zero_le _,fun i hi=>absurd hi (Nat.not_lt_zero _)⟩,Nat.zero_le _,fun i hi=>absurd hi (Nat.not_lt_zero _),HR3.out,HU3.out⟩
 obtain⟨g0,g1,_⟩:=rd_goodF h9
 have HSZ:Hid (∀i,i<out.length→(ouF out i).cs.size≤maxLen):=(good_atF g0).1
 have HKZ:Hid (∀i,i<out.length→(ouF out i).kids.length≤1048576):=(good_atF g0).2
 have hn60:=good_len g0
 obtain⟨g,c,rfl⟩: ∃g c,v= .slice (some ⟨g,0,none⟩) out.length c:=by
  rcases ho.2 with⟨_,e⟩ | ⟨g,cap,cur,e,_⟩
  ·omega
  ·exact⟨g,cap,e⟩
 obtain⟨n,HNN⟩: ∃n,Hid (out.length=n):=⟨_,rfl⟩
 rw [HNN.out]at HSZ HKZ hn60 g1 ho hp ⊢
 have HG:Hid (w.heap.size≤g):=by show _≤_;have:=(ho.lt g rfl).1;have:=HL1.out;omega
 have HF2:Hid (FR w2 r g n (ouF out)):=FR.of_own ho hp (by have:=HL.out;have:=HL1.out;omega)
 have HR2:Hid (Rd w2 r A len cap):=HR1.out.below hb
 have HU2:Hid (Upd r w w2):=HU1.out.trans (Upd.of_below (Nat.le_of_lt (Nat.lt_of_lt_of_le HL.out HL1.out)) hb)
 have q0:(0:Int)<(n:Int):=by omega
 clear hb h9 HR1 HU1 HL1 g0 ho hp
 go_wp2_with fail
 refine(rd_once r A len cap 30 _ HR2.out (by omega) (by omega)).mono ?_
 rintro e w3 ⟨b,rfl,hr,hu⟩
 have HR3:Hid (Rd w3 r A len cap):=hr
 have HU3:Hid (Upd r w w3):=HU2.out.trans hu
 have HF3:Hid (FR w3 r g n (ouF out)):=HF2.out.upd hu
 clear hr hu HR2 HU2 HF2
 cases b
 ·go_wp2_with fail
  go_ret
  exact fml_of (t:=n) (x:=dFN) HNN.out HF3.out (fun i hi=>by rw [if_neg (by omega)]) ⟨Nat.zero_le _,Nat.zero_le _⟩ hn60 HSZ.out HKZ.out HR3.out HU3.out
 go_wp2_with fail
 refine(rd_below r A len cap n _ HR3.out (by omega) (by omega)).mono ?_
 rintro e w4 ⟨v,rfl,v0,v1,hr,hu⟩
 obtain⟨t,rfl⟩: ∃t:Nat,v=(t:Int):=⟨v.toNat,by omega⟩
 have ht:t<n:=by omega
 have HR4:Hid (Rd w4 r A len cap):=hr
 have HU4:Hid (Upd r w w4):=HU3.out.trans hu
 have HF4:Hid (FR w4 r g n (ouF out)):=HF3.out.upd hu
 clear hr hu HR3 HU3 HF3
 go_wp2_with fail
 refine(rd_below r A len cap 3 _ HR4.out (by omega) (by omega)).mono ?_
 rintro e w5 ⟨v,rfl,v2,v3,hr,hu⟩
 have HR5:Hid (Rd w5 r A len cap):=hr
 have HU5:Hid (Upd r w w5):=HU4.out.trans hu
 have HF5:Hid (FR w5 r g n (ouF out)):=HF4.out.upd hu
 clear hr hu HR4 HU4 HF4
 obtain⟨xsz,xkz⟩:(ouF out t).cs.size≤maxLen∧(ouF out t).kids.length≤1048576:=⟨HSZ.out t ht,HKZ.out t ht⟩
 have hgr: ¬g=r:=HF5.out.gr
 have hrg:r≤g:=by have:=HL.out;have:=HG.out;omega
 have hv:v=0∨v=1∨v=2:=by omega
 rcases hv with rfl | rfl | rfl
 ·go_wp2_with fail
  refine(rd_off r A len cap 0 11 _ HR5.out (by omega) (by omega) (by omega)).mono ?_
  rintro e w6 ⟨u,rfl,hr,hu⟩
  have HR6:Hid (Rd w6 r A len cap):=hr
  have HU6:Hid (Upd r w w6):=HU5.out.trans hu
  have HF6:Hid (FR w6 r g n (ouF out)):=HF5.out.upd hu
  clear hr hu HR5 HU5 HF5
  obtain⟨KA,kc,hc,_⟩:=HF6.out.node t ht
  have d1:w6.cell? ⟨g,t*14+1,none⟩=some (.int .i64 (ouF out t).o):=hc 1 (by omega)
  have f1:=HF6.out.fz (t*14+1) (by omega)
  clear hc
  go_wp2_with fail
  go_ret
  exact fml_of (t:=t) HNN.out (HF6.out.set (v:= .int .i64 u) ht (by omega) (node_set1 _ u) rfl) (fun i hi=>rfl) ⟨xsz,xkz⟩ hn60 HSZ.out HKZ.out (HR6.out.store HA.out HG.out hgr) (HU6.out.store HG.out hrg)
 ·go_wp2_with fail
  refine(rd_off r A len cap 1 6 _ HR5.out (by omega) (by omega) (by omega)).mono ?_
  rintro e w6 ⟨u,rfl,hr,hu⟩
  have HR6:Hid (Rd w6 r A len cap):=hr
  have HU6:Hid (Upd r w w6):=HU5.out.trans hu
  have HF6:Hid (FR w6 r g n (ouF out)):=HF5.out.upd hu
  clear hr hu HR5 HU5 HF5
  obtain⟨KA,kc,hc,_⟩:=HF6.out.node t ht
  have d1:w6.cell? ⟨g,t*14,none⟩=some (.int .i64 (ouF out t).k):=hc 0 (by omega)
  have f1:=HF6.out.fz (t*14) (by omega)
  clear hc
  go_wp2_with fail
  go_ret
  exact fml_of (t:=t) HNN.out (HF6.out.set (q:=0) (v:= .int .i64 u) ht (by omega) (node_set0 _ u) rfl) (fun i hi=>rfl) ⟨xsz,xkz⟩ hn60 HSZ.out HKZ.out (HR6.out.store HA.out HG.out hgr) (HU6.out.store HG.out hrg)
 ·go_wp2_with fail
  refine(rd_place r A len cap _ HR5.out).mono ?_
  rintro e w6 ⟨pa,pb,px,py,rfl,hr,hu⟩
  have HR6:Hid (Rd w6 r A len cap):=hr
  have HU6:Hid (Upd r w w6):=HU5.out.trans hu
  have HF6:Hid (FR w6 r g n (ouF out)):=HF5.out.upd hu
  clear hr hu HR5 HU5 HF5
  obtain⟨KA,kc,hc,_⟩:=HF6.out.node t ht
  have d5:w6.cell? ⟨g,t*14+5,none⟩=some (.int .i64 (ouF out t).ac):=hc 5 (by omega)
  have d6:w6.cell? ⟨g,t*14+6,none⟩=some (.int .i64 (ouF out t).ar):=hc 6 (by omega)
  have d7:w6.cell? ⟨g,t*14+7,none⟩=some (.bool (ouF out t).af):=hc 7 (by omega)
  have d8:w6.cell? ⟨g,t*14+8,none⟩=some (.bool (ouF out t).ag):=hc 8 (by omega)
  have f5:=HF6.out.fz (t*14+5) (by omega)
  have f6:=HF6.out.fz (t*14+6) (by omega)
  have f7:=HF6.out.fz (t*14+7) (by omega)
  have f8:=HF6.out.fz (t*14+8) (by omega)
  clear hc
  go_wp2_with fail
  go_ret
  exact fml_of (t:=t) HNN.out (HF6.out.place ht pa pb px py) (fun i hi=>rfl) ⟨xsz,xkz⟩ hn60 HSZ.out HKZ.out ((((HR6.out.store HA.out HG.out hgr).store HA.out HG.out hgr).store HA.out HG.out hgr).store HA.out HG.out hgr) ((((HU6.out.store HG.out hrg).store HG.out hrg).store HG.out hrg).store HG.out hrg)
end Go.Proofs.YtonhcgkagdpdlaaGreatDoor
