import Derived.Test.YtomadadmakdkgaaGreatDoorGal
open Go.Proofs.Tryz
open Go.Value renaming int → g, bool → A, string → L, slice → M
open Go.IntKind renaming i64 → i, wrap_i64 → J
open Or renaming inl → C, inr → K
open Bool renaming false_or → D, and_eq_true_iff → E
open Go renaming maxLen → F
open Go.Obj renaming cells → G
open Option.some renaming injEq → H
open Go.Ending renaming returned → I
set_option linter.unusedSimpArgs false
set_option linter.unusedVariables false
set_option maxHeartbeats 8000000
set_option maxRecDepth 100000
namespace Go.Proofs.YtomadadmakdkgaaGreatDoor
open Go.RowKit
variable {Z:Nat->Prop} {W w1 w2:World} {r k B j m:Nat} {s:ByteArray} {bad:Bool} {v v1:Value} {out o:List FN} {l:List UInt8}
def NI(o:List UInt8)(q:Option (List UInt8 × List UInt8)):Option (List UInt8 × List UInt8):=q.map fun y=>(o++y.1,y.2)
theorem Qk8(q:Option (List UInt8 × List UInt8)):NI [] q=q:=by
 cases q<;>rfl
theorem Qco(o b:List UInt8)(q:Option (List UInt8 × List UInt8)):NI o (NI b q)=NI (o++b) q:=by
 cases q with
 | none=>rfl
 | some y=>simp[NI]
theorem NF{b:UInt8}{t:List UInt8}(h:b≠34):ZE (b::t)=NI [b] (ZE t):=by
 cases t with
 | nil=>rw[ZE];simp[h,NI,ZE]
 | cons c u=>
  rw[ZE];simp only[h,if_false];cases ZE (c::u)<;>rfl
theorem Qcm(u:List UInt8):ZE (34::34::u)=NI [34] (ZE u):=by
 rw[ZE];simp only[if_true];cases ZE u<;>rfl
theorem Bu{u:List UInt8}(h:u.head?≠some 34):ZE (34::u)=some ([],u):=by
 cases u with
 | nil=>rw[ZE];simp
 | cons c v=>
  have hc:c≠34:=fun e=>h (by rw[e];rfl);rw[ZE];simp[hc]
theorem RdS.draws(h:RdS Z W r s k bad v B out)(n:Nat):RdS Z (W.drewN n) r s k bad v B out:=h.gb (h.rs.draws n) (Qv _ _ n)
theorem RdS.at'(h:RdS Z W r s k bad v B out)(j:Nat)(z:Int)(hj:j<=s.size)(hz:z=(j:Int)):RdS Z (W.setCell ⟨r,1,none⟩ (g i z)) r s j bad v B out:=by
 subst hz;exact h.gb (h.rs.at j hj) (Ze _ _ _ _)
theorem Qoj{b:UInt8}(h:(b.toNat:Int)=34):b=34:=by
 apply UInt8.toNat_inj.1;have e9:b.toNat=34:=by omega
 rw[e9];rfl
theorem YE(W:World)(B:Nat):W.ownsRow B 2 1 (M none 0 0) 0 []:=⟨rfl,C ⟨rfl,rfl⟩⟩
theorem Qxa(s:ByteArray)(j:Nat)(h:j<s.size):s.extract j (j+1)=bs [s[j]]/\(s.extract j (j+1)).size=1:=by
 have e:=Qg4 s j h;exact⟨e,by rw[e];rfl⟩
theorem Qhn(o:ByteArray)(b:UInt8):(o++bs [b]).data.toList=o.data.toList++ [b]:=by
 rw[Qvj];rfl
theorem Qid(h: ¬(j<s.size/\ ∃h:j<s.size,s[j]=34)):(rest s j).head?≠some 34:=by
 by_cases hj:j<s.size
 ·rw[Zk s j hj];intro e;simp only[List.head?_cons,H]at e;exact h ⟨hj,hj,e⟩
 ·rw[XK s j (by omega)];intro e;cases e
theorem Qol{z:Int}(hz:z=(j:Int))(h:RdS Z W r s k bad v B out):atOf (W.setCell ⟨r,1,none⟩ (g i z)) r=j:=by
 subst hz;unfold atOf;rw[World.cell?_setCell_same _ _ _ h.rs.2.1.2.1];simp
theorem Qp1(r:Nat)(s:ByteArray)(k:Nat)(v:Value)(B:Nat)(out:List FN)(W:World)(h:RdS Z W r s k false v B out)(hs:s.size<=1000)(hl:out.length<=30000):
  Calls prog 204 #[.pointer (some ⟨r,0,none⟩)] W fun e w'=> ∃x k' bad' v' out',e= I (g i x)/\RdS Z w' r s k' bad' v' B out'/\NB W v v'/\Fr r v W w'/\
   (∀t l1,ZE (rest s k)=some (t,l1)->rest s k'=l1/\x=(out.length:Int)/\out'=out++ [RF.cst 2 0 t]/\bad'= !(decide (out.length+1<=60)&&Qp (RF.cst 2 0 t)))/\(ZE (rest s k)=none->bad'=true/\out'=out):=by
 have HS:Hid (RdS Z W r s k false v B out):=h;clear h;go_enter func204,ntmps204;go_wp2_with fail
 go_loopw [3] (fun v3 wr=> ∃(j:Nat) (o:ByteArray),v3= L o/\o.size<=j/\RdS Z wr r s j false v B out/\ZE (rest s k)=NI o.data.toList (ZE (rest s j))/\Fr r v W wr) (fun _ wr=>s.size-atOf wr r)
 case atStart=>exact⟨k,⟨#[]⟩,rfl,Nat.zero_le _,HS.out,(Qk8 _).symm,Fr.refl _ _ _⟩
 case round=>
  clear HS;obtain⟨j,o,rfl,ho,hr,hq,hf⟩:=hrel;have HS:Hid (RdS Z wr r s j false v B out):=hr;have HQ:Hid (ZE (rest s k)=NI o.data.toList (ZE (rest s j))):=hq;have HF:Hid (Fr r v W wr):=hf;have HA:Hid (atOf wr r=j):=hr.rs.atOf;obtain⟨hj,⟨c0,c1,c2,c3⟩,f1,f2,f3⟩:=hr.rs
  clear hr hq hf;have q0:(0:Int)<=(j:Int):=by omega
  have z1: ¬9223372036854775807<o.size+1:=by omega
  by_cases h7:j<s.size
  ·have q1:(j:Int)<(s.size:Int):=by omega
   have HC:Hid (rest s j=s[j]::rest s (j+1)):=Zk s j h7;by_cases hb:s[j]=34
   ·have h8:(s[j].toNat:Int)=34:=by rw[hb];rfl
    by_cases h2: ∃h:j+1<s.size,s[j+1]=34
    ·obtain⟨h0,h1⟩:=h2;have H1:(s[j+1].toNat:Int)=34:=by rw[h1];rfl
     have q2:(j:Int)+1<(s.size:Int):=by omega
     have h3: ¬(s.size:Int)<=(j:Int)+1:=by omega
     have H0:decide ((s.size:Int)<=(j:Int)+1)=false:=by simpa using h3
     have q3:(0:Int)<=(j:Int)+1:=by omega
     have q4:((j:Int)+1).toNat=j+1:=by omega
     have HN:Hid (ZE (rest s k)=NI (o++(⟨#[34]⟩:ByteArray)).data.toList (ZE (rest s (j+2)))):=by
      show _=_;rw[HQ.out,HC.out,Zk s (j+1) h0,hb,h1,Qcm,Qco,show(⟨#[34]⟩:ByteArray)=bs [34]from rfl,Qhn]
     clear hb h1;go_wp2_with fail
     go_quiet (fail)
     go_wp2_with fail
     go_quiet (fail)
     go_wp2_with fail
     go_quiet (fail)
     go_wp2_with fail
     refine⟨⟨j+2,_,rfl,?_,(((HS.out.draws _).at' (j+1) _ (by omega) ?_).draws _).at' (j+2) _ (by omega) ?_,HN.out,HF.out.trans (NB.refl _ _) (Fr.gb (Qs (Qv _ _ _) (Qs (Ze _ _ _ _) (Qs (Qv _ _ _) (Ze _ _ _ _)))))⟩,?_⟩
     ·rw[ByteArray.size_append,show(⟨#[34]⟩:ByteArray).size=1 from rfl];omega
     ·omega
     ·omega
     ·rw[Qol (by omega:(j:Int)+1+1=((j+2:Nat):Int)) ((((HS.out.draws _).at' (j+1) _ (by omega) (by omega)).draws _)),HA.out];omega
    ·have HN:Hid (ZE (rest s k)=some (o.data.toList,rest s (j+1))):=by
      show _=_;rw[HQ.out,HC.out,hb,Bu (Qid (fun e=>h2 e.2))];simp[NI]
     have h9:Hid ((RF.cst 2 0 o.data.toList).cs.size<=F):=by show o.size<=F;unfold F;omega
     have q3:(0:Int)<=(j:Int)+1:=by omega
     have q4:((j:Int)+1).toNat=j+1:=by omega
     clear hb;by_cases h0:j+1<s.size
     ·have h1: ¬(s[j+1].toNat:Int)=34:=fun e=>h2 ⟨h0,Qoj e⟩;have H1:((s[j+1].toNat:Int) !=34)=true:=by simpa using h1
      have q2:(j:Int)+1<(s.size:Int):=by omega
      have h3: ¬(s.size:Int)<=(j:Int)+1:=by omega
      have H0:decide ((s.size:Int)<=(j:Int)+1)=false:=by simpa using h3
      clear h2;go_wp2_with fail
      go_quiet (fail)
      go_wp2_with fail
      go_quiet (fail)
      go_wp2_with fail
      go_quiet (fail)
      go_wp2_with fail
      refine(VH (RF.cst 2 0 o.data.toList) none 0 r s (j+1) false v B out _ ((((HS.out.draws _).at' (j+1) _ (by omega) (by omega)).draws _)) (YE _ _) (fun _ h=>by cases h) h9.out hl).mono ?_;rintro e w2 ⟨v',rfl,hs2,hnb,hfr⟩;have h4:Hid (RdS Z w2 r s (j+1) (false || !(decide (out.length+1<=60)&&Qp (RF.cst 2 0 o.data.toList))) v' B (out++ [RF.cst 2 0 o.data.toList])):=hs2;have h6:Hid (Fr r v W w2):=HF.out.trans (NB.refl _ _) ((Fr.gb (Qs (Qv _ _ _) (Qs (Ze _ _ _ _) (Qv _ _ _)))).trans (NB.refl _ _) hfr)
      have h5:Hid (NB W v v'):=fun q hq=>by
       rcases hnb q hq with e | e
       ·exact C e
       ·exact K (Nat.le_trans HF.out.2.2.2.1 (by simpa using e))
      clear hs2 hnb hfr;go_wp2_with fail
      go_ret;exact⟨_,_,_,_,_,rfl,h4.out,h5.out,h6.out,fun t l1 e=>(by rw[HN.out]at e;cases e;exact⟨rfl,rfl,rfl,by rw[D]⟩),fun e=>(by rw[HN.out]at e;cases e)⟩
     ·have q2:(s.size:Int)<=(j:Int)+1:=by omega
      clear h2;go_wp2_with fail
      go_quiet (fail)
      go_wp2_with fail
      go_quiet (fail)
      go_wp2_with fail
      go_quiet (fail)
      go_wp2_with fail
      refine(VH (RF.cst 2 0 o.data.toList) none 0 r s (j+1) false v B out _ ((((HS.out.draws _).at' (j+1) _ (by omega) (by omega)).draws _)) (YE _ _) (fun _ h=>by cases h) h9.out hl).mono ?_;rintro e w2 ⟨v',rfl,hs2,hnb,hfr⟩;have h4:Hid (RdS Z w2 r s (j+1) (false || !(decide (out.length+1<=60)&&Qp (RF.cst 2 0 o.data.toList))) v' B (out++ [RF.cst 2 0 o.data.toList])):=hs2;have h6:Hid (Fr r v W w2):=HF.out.trans (NB.refl _ _) ((Fr.gb (Qs (Qv _ _ _) (Qs (Ze _ _ _ _) (Qv _ _ _)))).trans (NB.refl _ _) hfr)
      have h5:Hid (NB W v v'):=fun q hq=>by
       rcases hnb q hq with e | e
       ·exact C e
       ·exact K (Nat.le_trans HF.out.2.2.2.1 (by simpa using e))
      clear hs2 hnb hfr;go_wp2_with fail
      go_ret;exact⟨_,_,_,_,_,rfl,h4.out,h5.out,h6.out,fun t l1 e=>(by rw[HN.out]at e;cases e;exact⟨rfl,rfl,rfl,by rw[D]⟩),fun e=>(by rw[HN.out]at e;cases e)⟩
   ·have h8: ¬(s[j].toNat:Int)=34:=fun e=>hb (Qoj e);have h1:((s[j].toNat:Int) !=34)=true:=by simpa using h8
    obtain⟨x1,x2⟩:=Qxa s j h7;have HX:Hid (s.extract j (j+1)=bs [s[j]]):=x1;have q2:(j:Int)+1<=(s.size:Int):=by omega
    have q3:(j:Int)<=(j:Int)+1:=by omega
    have q4:((j:Int)+1).toNat=j+1:=by omega
    have q5:(0:Int)<=(j:Int)+1:=by omega
    have hwr:IntKind.i64.wrap ((j:Int)+1)=(j:Int)+1:=by rw[J];omega
    have r1: ∀W,(Op.stringOp .add o (s.extract j (j+1))).run prog W= .ok (L (o++s.extract j (j+1))) W:=fun W=>run_string_add_sum W _ _ (by rw[x2];omega)
    have HN:Hid (ZE (rest s k)=NI (o++s.extract j (j+1)).data.toList (ZE (rest s (j+1)))):=by
     show _=_;rw[HQ.out,HC.out,NF hb,Qco,HX.out,Qhn]
    clear hb x1;go_wp2_with fail
    go_quiet (fail)
    go_wp2_with fail
    go_quiet (fail)
    go_wp2_with fail
    go_quiet (fail)
    go_wp2_with fail
    refine⟨⟨j+1,_,rfl,?_,((HS.out.draws _)).at' (j+1) _ (by omega) ?_,HN.out,HF.out.trans (NB.refl _ _) (Fr.gb (Qs (Qv _ _ _) (Ze _ _ _ _)))⟩,?_⟩
    ·rw[ByteArray.size_append,x2];omega
    ·omega
    ·rw[Qol (by omega:(j:Int)+1=((j+1:Nat):Int)) ((HS.out.draws _)),HA.out];omega
  ·have q1: ¬(j:Int)<(s.size:Int):=by omega
   have HN:Hid (ZE (rest s k)=none):=by show _=_;rw[HQ.out,XK s j (by omega)];rfl
   go_wp2_with fail
   go_quiet (fail)
   go_wp2_with fail
   go_ret;exact⟨0,j,true,v,out,rfl,(HS.out.draws _).bad,NB.refl _ _,HF.out.trans (NB.refl _ _) (Fr.gb (Qs (Qv _ _ _) (Ze _ _ _ _))),fun t l1 e=>(by rw[HN.out]at e;cases e),fun _=>⟨rfl,rfl⟩⟩
structure St (Z:Nat->Prop) (W:World) (v:Value) (r:Nat) (s:ByteArray) (B:Nat) (wr:World) (k:Nat) (bad:Bool) (v1:Value) (out:List FN):Prop where
 st:RdS Z wr r s k bad v1 B out
 nb:NB W v v1
 fr:Fr r v W wr
theorem St.start(h:RdS Z W r s k bad v B out):St Z W v r s B W k bad v out:=⟨h,NB.refl _ _,Fr.refl _ _ _⟩
theorem St.step{v2:Value}{k2:Nat}{bad2:Bool}{out2:List FN}(h:St Z W v r s B w1 k bad v1 out)(h2:RdS Z w2 r s k2 bad2 v2 B out2)(hn:NB w1 v1 v2)(hf:Fr r v1 w1 w2):St Z W v r s B w2 k2 bad2 v2 out2:=
 ⟨h2,h.nb.trans h.fr.2.2.2.1 hn,h.fr.trans h.nb hf⟩
theorem St.gb{k2:Nat}{bad2:Bool}(h:St Z W v r s B w1 k bad v1 out)(hr:Rs w2 r s k2 bad2 v1)(hg:w1.grownBy w2 (some r)):St Z W v r s B w2 k2 bad2 v1 out:=
 h.step (h.st.gb hr hg) (NB.refl _ _) (Fr.gb hg)
theorem St.bel(h:St Z W v r s B w1 k bad v1 out)(hb:Below w1.heap.size w1 w2):St Z W v r s B w2 k bad v1 out:=
 h.step (h.st.bel hb) (NB.refl _ _) (Fr.bel hb)
theorem St.mad(h:St Z W v r s B w1 k bad v1 out):St Z W v r s B (w1.setCell ⟨r,2,none⟩ (A true)) k true v1 out:=
 h.step h.st.bad (NB.refl _ _) (Fr.gb (Ze _ _ _ _))
def Qdh(Z:Nat->Prop)(r:Nat)(s:ByteArray)(B:Nat)(m:Nat)(W:World)(v:Value)(res:Option (Int × List UInt8 × List FN))(e:Ending)(w':World):Prop:=
 ∃x k' bad' v' out',e= I (g i x)/\St Z W v r s B w' k' bad' v' out'/\YC res bad' x (rest s k') out'/\out'.length<=61+m
def QV(s:ByteArray)(k:Nat):Nat:=(sb (rest s k)).length
theorem YN(s:ByteArray)(k:Nat)(h:s.size<=1000):(sb (rest s k)).length<=1000/\(rest s k).length<=1000:=by
 have h1:=Xr (rest s k);have h2:=Uf s k;omega
theorem Qsu(h:pk l≠ []):(nx l).length<(sb l).length:=by
 have e:=Ue h;have hz:0<(pk l).length:=List.length_pos_iff.2 h;rw[e,List.length_append];omega
def Qaw(Z:Nat->Prop)(r:Nat)(s:ByteArray)(B m:Nat):Prop:= ∀(W:World) (k:Nat) (v:Value) (out:List FN) (lv:Int),RdS Z W r s k false v B out->good out=true->1<=lv->lv<=5->12*QV s k+(8-lv).toNat<=m->
 Calls prog 131 #[.pointer (some ⟨r,0,none⟩),g i lv] W (Qdh Z r s B m W v (PB RF 1 lv 0 [] (rest s k) out))
def Qta(Z:Nat->Prop)(r:Nat)(s:ByteArray)(B m:Nat):Prop:= ∀(W:World) (k:Nat) (v:Value) (out:List FN),RdS Z W r s k false v B out->good out=true->12*QV s k+2<=m->
 Calls prog 164 #[.pointer (some ⟨r,0,none⟩)] W (Qdh Z r s B m W v (PB RF 3 0 0 [] (rest s k) out))
def Qe8(Z:Nat->Prop)(r:Nat)(s:ByteArray)(B m:Nat):Prop:= ∀(W:World) (k:Nat) (v:Value) (out:List FN) (fn:Int),RdS Z W r s k false v B out->good out=true->1<=fn->fn<=10->12*QV s k+9<=m->
 Calls prog 206 #[.pointer (some ⟨r,0,none⟩),g i fn] W (Qdh Z r s B m W v (Yg (PB RF 6 0 0 [] (rest s k) out) (fun a l1 o1=>PB RF 5 fn 0 [a] l1 o1)))
def Qxi(Z:Nat->Prop)(r:Nat)(s:ByteArray)(B:Nat)(m:Nat)(W:World)(v:Value)(res:Option (Int × List UInt8 × List FN))(e:Ending)(w':World):Prop:=
 ∃x k' bad' v' out',e= I (g i x)/\St Z W v r s B w' k' bad' v' out'/\(YC res bad' x (rest s k') out'\/(bad'=false/\pk (rest s k')= [58]/\res=none))/\out'.length<=61+m/\(bad'=false->good out'=true)
def Qte(Z:Nat->Prop)(r:Nat)(s:ByteArray)(B m:Nat):Prop:= ∀(W:World) (k:Nat) (v:Value) (out:List FN),RdS Z W r s k false v B out->good out=true->12*QV s k+8<=m->
 Calls prog 233 #[.pointer (some ⟨r,0,none⟩)] W (Qxi Z r s B m W v (PB RF 6 0 0 [] (rest s k) out))
theorem Yn(h:good o=true):o.length<=60:=by
 unfold good at h;exact of_decide_eq_true (E.1 h).1
theorem He{x:FN}(h:good o=true):good (o++ [x])=(decide (o.length+1<=60)&&Qp x):=by
 unfold good at*;have h2:=(E.1 h).2;rw[List.all_append,h2];simp
theorem Xz{x:FN}(h:good o=true):YC (some ((o.length:Int),sb l,o++ [x])) (false || !(decide (o.length+1<=60)&&Qp x)) (o.length:Int) l (o++ [x]):=by
 rw[<-He h,D];refine⟨fun hb=>⟨rfl,by simpa using hb⟩,fun hb y hy=> ?_⟩;cases hy
 simpa using hb
def Qs5(W:World)(r:Nat):Bool:=match W.cell? ⟨r,2,none⟩with
 | some (A b)=>b
 | _=>true
def msr(s:ByteArray)(r:Nat)(W:World):Nat:=if Qs5 W r then 0 else 1+QV s (atOf W r)
theorem Dx(h:RdS Z W r s k bad v B out):msr s r W=if bad then 0 else 1+QV s k:=by
 unfold msr Qs5;rw[h.rs.2.1.2.2.1,h.rs.atOf]
theorem Qgi(W:World)(B:Nat)(x y:Int)(hB:B<=W.heap.size):(W.alloc (G #[g i x,g i y] 2)).ownsRow B 2 1 (M (some ⟨W.heap.size,0,none⟩) 2 2) 2 [g i x,g i y]:=
 ⟨rfl,.inr ⟨W.heap.size,2,_,rfl,hB,heap_alloc_new W _,Nat.le_refl _,by unfold F;omega,by simp,by simp⟩⟩
theorem Qqq(lv:Int)(h1:1<=lv)(h4:lv<=4)(l:List UInt8):opB false lv l=if QR (pk l)=0\/lvl (QR (pk l))≠lv then 0 else QR (pk l):=by
 unfold opB;rw[nG (by simp),Quz lv h1 h4,Qab];by_cases hc:Zg (sb l)=0\/lvl (Zg (sb l))≠lv
 ·rw[pS hc,nG (fun e=>by rcases hc with h | h;exact e.1 h;exact h e.2)]
 ·rw[nG hc,pS ⟨fun e=>hc (C e),by
   by_cases e:lvl (Zg (sb l))=lv
   ·exact e
   ·exact absurd (K e) hc⟩]
theorem Qk2(hm:m<=20000)(hO:Qta Z r s B m)(W:World)(k:Nat)(v:Value)(out:List FN)(h:RdS Z W r s k false v B out)(hg:good out=true)(hk:12*QV s k+3<=m+1)(hs:s.size<=1000):
  Calls prog 131 #[.pointer (some ⟨r,0,none⟩),g i 5] W (Qdh Z r s B (m+1) W v (PB RF 1 5 0 [] (rest s k) out)):=by
 have HS:Hid (RdS Z W r s k false v B out):=h;have HG:Hid (good out=true):=hg;have HO:Hid (Qta Z r s B m):=hO;obtain⟨_,⟨c0,c1,c2,c3⟩,f1,f2,f3⟩:=h.rs;rw[Qe7 (YN s k hs).2];clear h hg hO;go_enter func131,ntmps131
 go_wp2_with fail
 refine(HO.out W k v out HS.out HG.out (by omega)).mono ?_;rintro e w1 ⟨x,k',bad',v',out',rfl,hst,hag,hlen⟩;have H1:Hid (St Z W v r s B w1 k' bad' v' out'/\YC (PB RF 3 0 0 [] (rest s k) out) bad' x (rest s k') out'/\out'.length<=61+m):=⟨hst,hag,hlen⟩;clear hst hag hlen;go_wp2_with fail
 go_ret;exact⟨x,k',bad',v',out',rfl,H1.out.1,H1.out.2.1,Nat.le_succ_of_le H1.out.2.2⟩
def Qs8(Z:Nat->Prop)(r:Nat)(s:ByteArray)(B m:Nat)(W:World)(v:Value)(lv:Int)(res:Option (Int × List UInt8 × List FN))(n0:Nat)(x:Int)(wr:World)(k:Nat)(bad:Bool)(v1:Value)(out:List FN):Prop:=
 St Z W v r s B wr k bad v1 out/\out.length<=61+m/\(bad=false->good out=true/\QV s k<=n0/\res=PB RF 2 lv x [] (rest s k) out)/\(bad=true->Ej res)
theorem Qp5(hm:m<=20000)(hR: ∀m',m'<=m->Qaw Z r s B m')(W:World)(k:Nat)(v:Value)(out:List FN)(lv:Int)(h:RdS Z W r s k false v B out)(hg:good out=true)(h1:1<=lv)(h4:lv<=4)(hk:12*QV s k+(8-lv).toNat<=m+1)(hs:s.size<=1000):
  Calls prog 131 #[.pointer (some ⟨r,0,none⟩),g i lv] W (Qdh Z r s B (m+1) W v (PB RF 1 lv 0 [] (rest s k) out)):=by
 have HS:Hid (RdS Z W r s k false v B out):=h;have HG:Hid (good out=true):=hg;have HR:Hid (∀m',m'<=m->Qaw Z r s B m'):=hR;have H6:Hid (1<=lv/\lv<=4):=⟨h1,h4⟩;obtain⟨_,⟨c0,c1,c2,c3⟩,f1,f2,f3⟩:=h.rs;have HE:Hid (PB RF 1 lv 0 [] (rest s k) out=Yg (PB RF 1 (lv+1) 0 [] (rest s k) out) (fun x l1 o1=>PB RF 2 lv x [] l1 o1)):=PB1 h1 h4 (YN s k hs).2;obtain⟨h3,H8⟩: ∃h3,Hid (PB RF 1 lv 0 [] (rest s k) out=h3):=⟨_,rfl⟩
 rw[H8.out]at HE ⊢;obtain⟨n0,g0⟩: ∃n0,Hid (QV s k=n0):=⟨_,rfl⟩;rw[g0.out]at hk;have h5: ¬lv=5:=by omega
 have h5':(lv==5)=false:=by simpa using h5
 have hw:IntKind.i64.wrap (lv+1)=lv+1:=by rw[J];omega
 clear h hg hR;go_enter func131,ntmps131;go_wp2_with fail
 refine(HR.out m (Nat.le_refl _) W k v out (lv+1) HS.out HG.out (by omega) (by omega) (by rw[g0.out];omega)).mono ?_;rintro e w1 ⟨x,k1,h2,v1,h0,rfl,hst,hag,hlen⟩
 have HI:Hid (Qs8 Z r s B m W v lv h3 n0 x w1 k1 h2 v1 h0):=by
  refine⟨hst,hlen,fun hb=> ?_,fun hb=> ?_⟩
  ·obtain⟨e1,e2⟩:=hag.1 hb;refine⟨e2,?_,?_⟩
   ·have:=(DX e1).2 (by omega);rw[<-g0.out];unfold QV;have h9:PB RF 1 (lv+1) 0 [] (sb (rest s k)) out=some (x,sb (rest s k1),h0):=by rw[<-e1];exact JJ (Zj _)
    have:=(DX h9).2 (by omega);omega
   ·rw[HE.out,e1];exact JJ (Zj _)
  ·rw[HE.out];exact JM (hag.2 hb) (fun x l o=>Qbn 2 lv x [] l o)
 clear hst hag hlen HS HG c0 c1 c2 c3 f1 f2 f3;go_wp2_with fail
 go_loopw [5] (fun a wr=> ∃x k1 h2 v1 h0,a= g i x/\Qs8 Z r s B m W v lv h3 n0 x wr k1 h2 v1 h0) (fun _ wr=>msr s r wr)
 case atStart=>exact⟨x,k1,h2,v1,h0,rfl,HI.out⟩
 case round=>
  clear HI;obtain⟨x,k1,h2,v1,h0,rfl,hi⟩:=hrel;have HI:Hid (Qs8 Z r s B m W v lv h3 n0 x wr k1 h2 v1 h0):=hi;have G8:Hid (msr s r wr=if h2 then 0 else 1+QV s k1):=Dx hi.1.st;obtain⟨_,⟨c0,c1,c2,c3⟩,f1,f2,f3⟩:=hi.1.st.rs;clear hi;cases h2
  rotate_left
  ·go_wp2_with fail
   go_ret;exact⟨x,k1,true,v1,h0,rfl,HI.out.1,⟨fun e=>(by cases e),fun _=>HI.out.2.2.2 rfl⟩,Nat.le_succ_of_le HI.out.2.1⟩
  ·obtain⟨g4,g3,H1⟩:=HI.out.2.2.1 rfl;have G4:Hid (good h0=true):=g4;have g1:Hid (QV s k1<=n0):=g3;have g6:Hid (h3=PB RF 2 lv x [] (rest s k1) h0):=H1;have g7:Hid (PB RF 2 lv x [] (rest s k1) h0=if QR (pk (rest s k1))=0\/lvl (QR (pk (rest s k1)))≠lv then some (x,sb (rest s k1),h0)else Yg (PB RF 1 (lv+1) 0 [] (nx (rest s k1)) h0) (fun b l1 o1=>PB RF 2 lv (o1.length:Int) [] l1 (o1++ [RF.bin (QR (pk (rest s k1))) x b]))):=PB2 h1 h4 (YN s k1 hs).2;have g8:Hid (opB false lv (rest s k1)=if QR (pk (rest s k1))=0\/lvl (QR (pk (rest s k1)))≠lv then 0 else QR (pk (rest s k1))):=Qqq lv h1 h4 _;clear g4 g3 H1
   by_cases hc:QR (pk (rest s k1))=0\/lvl (QR (pk (rest s k1)))≠lv
   ·have g9:Hid (opB false lv (rest s k1)=0):=by show _=_;rw[g8.out,pS hc]
    have H4:Hid (h3=some (x,sb (rest s k1),h0)):=by show _=_;rw[g6.out,g7.out,pS hc]
    clear hc;go_wp2_with fail
    refine(Qss r s k1 false v1 lv _ HI.out.1.st.rs hs H6.out.1 H6.out.2).mono ?_;rintro e w2 ⟨rfl,j,hrj,hz,hnz,hgb⟩;have h6:Hid (St Z W v r s B w2 j false v1 h0):=HI.out.1.gb hrj hgb;have HZ:Hid (sb (rest s j)=sb (rest s k1)):=hz g9.out;rw[g9.out];clear hrj hz hnz hgb;go_wp2_with fail
    go_ret;exact⟨x,j,false,v1,h0,rfl,h6.out,⟨fun _=>⟨by rw[H4.out,HZ.out],G4.out⟩,fun e=>(by cases e)⟩,Nat.le_succ_of_le HI.out.2.1⟩
   ·obtain⟨o,H5⟩: ∃o,Hid (QR (pk (rest s k1))=o):=⟨_,rfl⟩;have g2:pk (rest s k1)≠ []:=fun e=>hc (C (by rw[e];rfl));have H9:Hid (opB false lv (rest s k1)=o):=by show _=_;rw[g8.out,nG hc,H5.out]
    have H7: ¬o=0:=by rw[<-H5.out];exact fun e=>hc (C e)
    have ho0':(o==0)=false:=by simpa using H7
    have H4:Hid (h3=Yg (PB RF 1 (lv+1) 0 [] (nx (rest s k1)) h0) (fun b l1 o1=>PB RF 2 lv (o1.length:Int) [] l1 (o1++ [RF.bin o x b]))):=by show _=_;rw[g6.out,g7.out,nG hc,H5.out]
    have G7:Hid ((sb (rest s k1)).drop (sgT o).length=nx (rest s k1)):=by
     show _=_;have e1:Zg (sb (rest s k1))=o:=by rw[<-Qab,H5.out]
     have h9:=(Qot (l:=rest s k1) (by rw[e1];exact H7)).2;rw[e1]at h9;conv=>lhs;rw[h9]
     exact List.drop_left
    have G0:Hid ((nx (rest s k1)).length<QV s k1):=Qsu g2;clear hc g2;go_wp2_with fail
    refine(Qss r s k1 false v1 lv _ HI.out.1.st.rs hs H6.out.1 H6.out.2).mono ?_;rintro e w2 ⟨rfl,j,hrj,hz,hnz,hgb⟩;have h6:Hid (St Z W v r s B w2 j false v1 h0):=HI.out.1.gb hrj hgb;have HZ:Hid (rest s j=nx (rest s k1)):=by show _=_;rw[hnz (by rw[H9.out];exact H7),H9.out,G7.out]
    rw[H9.out];clear hrj hz hnz hgb
    have G2:Hid (QV s j<QV s k1):=by
     show(sb (rest s j)).length<QV s k1;rw[HZ.out];exact Nat.lt_of_le_of_lt (Xr _) G0.out
    go_wp2_with fail
    refine(HR.out (m-1) (Nat.sub_le _ _) w2 j v1 h0 (lv+1) h6.out.st G4.out (by omega) (by omega) (by have a1:=G2.out;have a2:=g1.out;omega)).mono ?_;rintro e w3 ⟨b,k3,bad3,v3,out3,rfl,hst3,hag3,hlen3⟩;rw[HZ.out]at hag3;have h7:Hid (St Z W v r s B w3 k3 bad3 v3 out3):=h6.out.step hst3.st hst3.nb hst3.fr;have H0:Hid (YC (PB RF 1 (lv+1) 0 [] (nx (rest s k1)) h0) bad3 b (rest s k3) out3):=hag3;have G3:Hid (out3.length+1<=61+m):=by show _<=_;have a1:=G2.out;have a2:=g1.out;omega
    have G1:Hid (bad3=false->QV s k3<QV s k1):=fun hb=>by
     have h9:=(DX (hag3.1 hb).1).1;have h8:=G0.out;show(sb (rest s k3)).length<_;omega
    have G6:B<=w3.heap.size:=hst3.st.bw;clear hst3 hag3 hlen3;go_wp2_with fail
    refine(VH (RF.bin o x b) (some ⟨w3.heap.size,0,none⟩) 2 r s k3 bad3 v3 B out3 _ (h7.out.st.bel (by go_grown)) (Qgi w3 B x b G6) (fun b9 h9 hz9=>by have h8:=h7.out.st.zl b9 hz9;cases h9;exact absurd h8 (Nat.lt_irrefl _)) (by show(⟨#[]⟩:ByteArray).size<=F;exact Nat.zero_le _) (by have:=G3.out;omega)).mono ?_;rintro e w4 ⟨v4,rfl,hs4,hnb4,hfr4⟩;have H3:Hid (St Z W v r s B w4 k3 (bad3 || !(decide (out3.length+1<=60)&&Qp (RF.bin o x b))) v4 (out3++ [RF.bin o x b])):=(h7.out.bel (by go_grown)).step hs4 hnb4 hfr4;clear hs4 hnb4 hfr4;go_wp2_with fail
    have G9:Qs8 Z r s B m W v lv h3 n0 (out3.length:Int) w4 k3 (bad3 || !(decide (out3.length+1<=60)&&Qp (RF.bin o x b))) v4 (out3++ [RF.bin o x b]):=by
     refine⟨H3.out,?_,fun hb=> ?_,fun hb=> ?_⟩
     ·rw[List.length_append];exact G3.out
     ·obtain⟨g5,G5⟩:=Bool.or_eq_false_iff.1 hb;obtain⟨e1,e2⟩:=H0.out.1 g5;refine⟨?_,?_,?_⟩
      ·rw[He e2];simpa using G5
      ·have a1:=G1.out g5;have a2:=g1.out;omega
      ·rw[H4.out,e1];exact JJ (Zj _)
     ·cases H2:bad3
      ·obtain⟨e1,e2⟩:=H0.out.1 H2;rw[H2,D]at hb;rw[H4.out,e1];exact Qc3 (o:=out3++ [RF.bin o x b]) (by rw[He e2];rw[Bool.not_eq_true']at hb;exact hb) (Qbn 2 lv _ [] _ _)
      ·rw[H4.out]
       exact JM (H0.out.2 H2) (fun b l1 o1 y hy=>by
        obtain⟨e9,h9⟩:=Qbn 2 lv (o1.length:Int) [] l1 (o1++ [RF.bin o x b]) y hy
        exact⟨[RF.bin o x b]++e9,by rw[h9,List.append_assoc]⟩)
    refine⟨⟨_,_,_,_,_,rfl,G9⟩,?_⟩;rw[Dx H3.out.st,G8.out];simp only[Bool.false_eq_true,if_false];split
    ·omega
    ·rename_i hb
     have H2:bad3=false:=by
      cases hq:bad3
      ·rfl
      ·rw[hq]at hb;simp at hb
     have:=G1.out H2;omega
theorem Np(l:List UInt8):(∃c t,sb l=c::t/\isW c=true)\/((sb l).takeWhile isW= []/\rpL (pk l)=none):=by
 cases hs:sb l with
 | nil=>exact K ⟨rfl,by rw[(Qa9 hs).1];exact VI⟩
 | cons c t=>
  cases hw:isW c
  ·right
   refine⟨by simp[List.takeWhile,hw],?_⟩;by_cases hp:pk l= []
   ·rw[hp];exact VI
   ·have h1:=Ue hp;rw[hs]at h1;cases hq:pk l with
    | nil=>exact absurd hq hp
    | cons d u=>
     rw[hq]at h1;simp only[List.cons_append,List.cons.injEq]at h1;rw[<-h1.1];exact Nz hw
  ·exact C ⟨c,t,rfl,hw⟩
theorem Qfr(l:List UInt8):rpL ((sb l).takeWhile isW)=rpL (pk l):=by
 rcases Np l with⟨c,t,hs,hw⟩ | ⟨h1,h2⟩
 ·rw[(NL hs hw).1]
 ·rw[h1,h2];exact VI
theorem Bd{p:Int × Int × Bool × Bool}(h:rpL ((sb l).takeWhile isW)=some p):pk l=(sb l).takeWhile isW/\nx l=(sb l).dropWhile isW/\pk l≠ []:=by
 rcases Np l with⟨c,t,hs,hw⟩ | ⟨h1,h2⟩
 ·exact NL hs hw
 ·rw[h1,VI]at h;cases h
theorem Vz(l:List UInt8)(c:UInt8)(hc:c=40\/c=41\/c=44\/c=58\/c=45):isB false (bs [c]) l=decide (pk l= [c]):=by
 rw[Bool.eq_iff_iff,decide_eq_true_eq,Qn0 l c hc];unfold isB;show(!false&& [c].isPrefixOf (sb l))=true↔_;cases hs:sb l with
 | nil=>simp
 | cons b t=>
  simp only[Bool.not_false,Bool.true_and,List.isPrefixOf,Bool.and_true,beq_iff_eq,List.head?_cons,H];exact eq_comm
theorem UJ{c:UInt8}(hc:c=40\/c=41\/c=44\/c=58\/c=45)(h:pk l= [c]):isR false (bs [c]) l=nx l:=by
 rw[NT (by rw[Vz l c hc,h];simp)];have e:=Ue (l:=l) (by rw[h];simp);rw[e,h];rfl
theorem UK{c:UInt8}(hc:c=40\/c=41\/c=44\/c=58\/c=45)(h:pk l≠ [c]):isB false (bs [c]) l=false/\isR false (bs [c]) l=sb l:=by
 have e:isB false (bs [c]) l=false:=by rw[Vz l c hc];simp[h]
 exact⟨e,Ua e⟩
theorem Qq6(h:sb (rest s j)=sb (rest s k)):QV s j=QV s k:=by unfold QV;rw[h]
theorem EP(s:ByteArray)(j:Nat)(h:s.size<=1000):((rest s j).takeWhile isW).length<=1000:=by
 have h1:=(List.takeWhile_sublist isW (l:=rest s j)).length_le;have h2:=Uf s j;omega
theorem Qbl(l:List UInt8):RF.rp l=rpL l:=by simp only[RF]
theorem Qs9(l:List UInt8):RF.rv l=rvL l:=by simp only[RF]
def Qxx{α β:Type}(x y:Option α)(f:α->α->Option β):Option β:=match x,y with
 | some p,some q=>f p q
 | _,_=>none
theorem Qbo{x y:Option (Int × Int × Bool × Bool)}(hn:l.length<=1000)(hc:pk l≠ []/\pk (nx l)= [58])(h:rpL (pk l)=x)(h':rpL (pk (nx (nx l)))=y):PB RF 6 0 0 [] l out=Qxx x y (fun p q=>some ((out.length:Int),sb (nx (nx (nx l))),out++ [RF.are p q])):=by
 have e:=PB6 (R:=RF) (l:=l) (out:=out) hn;rw[pS hc,Qbl,Qbl,h,h']at e;rw[e];cases x<;>cases y<;>rfl
theorem Qna(hn:l.length<=1000)(hc:pk l≠ []/\pk (nx l)= [58])(h:rpL (pk l)=none):PB RF 6 0 0 [] l out=none:=by
 obtain⟨y,hy⟩: ∃y,rpL (pk (nx (nx l)))=y:=⟨_,rfl⟩;rw[Qbo hn hc h hy];rfl
theorem Qjv{p:Int × Int × Bool × Bool}(hn:l.length<=1000)(hc:pk l≠ []/\pk (nx l)= [58])(h:rpL (pk l)=some p)(h':rpL (pk (nx (nx l)))=none):PB RF 6 0 0 [] l out=none:=by
 rw[Qbo hn hc h h'];rfl
theorem Qm9{p q:Int × Int × Bool × Bool}(hn:l.length<=1000)(hc:pk l≠ []/\pk (nx l)= [58])(h:rpL (pk l)=some p)(h':rpL (pk (nx (nx l)))=some q):PB RF 6 0 0 [] l out=some ((out.length:Int),sb (nx (nx (nx l))),out++ [RF.are p q]):=by
 rw[Qbo hn hc h h'];rfl
theorem Qhq{l':List UInt8}{out':List FN}{x:Int}(hn:l.length<=1000)(hN:rpL (pk l)=none\/ ¬pk (nx l)= [58])(hag:YC (PB RF 1 1 0 [] l out) bad x l' out'):YC (PB RF 6 0 0 [] l out) bad x l' out'\/(bad=false/\pk l'= [58]/\PB RF 6 0 0 [] l out=none):=by
 by_cases hc:pk l≠ []/\pk (nx l)= [58]
 ·have h0:rpL (pk l)=none:=by
   rcases hN with h | h
   ·exact h
   ·exact absurd hc.2 h
  have e:=Qna (out:=out) hn hc h0;cases hb:bad
  ·right
   refine⟨rfl,?_,e⟩;have h1:=(hag.1 hb).1;have h2:=Qvo hc.2 hn 4 1 rfl (by omega) _ _ _ h1;rw[Jd]at h2;exact h2
  ·left
   rw[e];exact⟨fun h=>(by cases h),fun _=>Ys⟩
 ·left
  rw[PB6 hn,nG hc];exact hag
theorem St.at(h:St Z W v r s B w1 k bad v1 out)(j:Nat)(z:Int)(hj:j<=s.size)(hz:z=(j:Int)):St Z W v r s B (w1.setCell ⟨r,1,none⟩ (g i z)) j bad v1 out:=
 h.step (h.st.at' j z hj hz) (NB.refl _ _) (Fr.gb (Ze _ _ _ _))
def RPC:Prop:= ∀(l:List UInt8) (w:World),l.length<=1048576->Calls prog 207 #[L (bs l)] w fun e w'=>e= I (plA l)/\Below w.heap.size w w'
theorem Qsg(hRP:RPC)(hm:m<=20000)(hR:Qaw Z r s B m)(hs:s.size<=1000):Qte Z r s B (m+1):=by
 intro W k v out h hg hk;have g0:Hid RPC:=hRP;have HR:Hid (Qaw Z r s B m):=hR;have HG:Hid (good out=true):=hg;have HS:Hid (St Z W v r s B W k false v out):=St.start h;obtain⟨l,HL⟩: ∃l,Hid (rest s k=l):=⟨_,rfl⟩;have h8:Hid (l.length<=1000):=by show _<=_;rw[<-HL.out];exact(YN s k hs).2
 have H8:=PB6 (R:=RF) (l:=l) (out:=out) h8.out;have G2:=(show Hid _ from H8);clear H8;rw[HL.out];have H5:Hid (out.length<=60):=Yn hg;clear h hg hR hRP;go_enter func233,ntmps233
 go_wp2_with fail
 refine(Ha r s k false v W HS.out.st.rs hs).mono ?_;rintro e w1 ⟨x0,j,rfl,hrj,hre,hgb⟩;have H9:Hid (St Z W v r s B w1 j false v out):=HS.out.gb hrj hgb;rw[HL.out]at hre;have HJ:Hid (rest s j=sb l):=hre;obtain⟨H7,⟨c0,c1,c2,c3⟩,f1,f2,f3⟩:=hrj;clear hre hgb HS
 have g1:Hid (QV s j=QV s k):=Qq6 (by rw[HJ.out,HL.out,Zj]);go_wp2_with fail
 refine(ET r s j false v w1 H9.out.st.rs hs).mono ?_;rintro e w2 ⟨rfl,j2,hrj2,hre2,hgb2⟩;have g5:Hid (St Z W v r s B w2 j2 false v out):=H9.out.gb hrj2 hgb2;rw[HJ.out]at hre2;have G0:Hid (rest s j2=(sb l).dropWhile isW):=hre2;have g2:Hid (((sb l).takeWhile isW).length<=1000):=by show _<=_;rw[<-HJ.out];exact EP s j hs
 rw[HJ.out];clear hrj2 hre2 hgb2 c0 c1 c2 c3 f1 f2 f3;go_wp2_with fail
 refine(g0.out ((sb l).takeWhile isW) w2 (by have:=g2.out;omega)).mono ?_;rintro e w3 ⟨rfl,hb3⟩;have h4:Hid (St Z W v r s B w3 j2 false v out):=g5.out.bel hb3;clear hb3;cases hp:rpL ((sb l).takeWhile isW)with
 | none=>
  rw[Qd7 hp];have HN:Hid (rpL (pk l)=none):=by show _=_;rw[<-Qfr,hp]
  obtain⟨_,⟨c0,c1,c2,c3⟩,f1,f2,f3⟩:=h4.out.st.rs;have H6:r<w3.heap.size:=h4.out.st.rs.lt;clear hp;go_wp2_with fail
  have h3:Hid (St Z W v r s B ((w3.setCell ⟨r,1,none⟩ (g i j)).alloc (G #[g i 0,g i 0,A false,A false] 126)) j false v out):=(h4.out.at j _ H7 rfl).bel (by go_grown);refine(HR.out _ j v out 1 (h3.out.st) HG.out (by omega) (by omega) (by rw[g1.out];omega)).mono ?_;rintro e w5 ⟨x,k5,bad5,v5,out5,rfl,hst5,hag5,hlen5⟩;rw[HJ.out]at hag5;have h2:Hid (St Z W v r s B w5 k5 bad5 v5 out5):=h3.out.step hst5.st hst5.nb hst5.fr
  have h1:Hid (YC (PB RF 1 1 0 [] l out) bad5 x (rest s k5) out5):=by
   have e9:PB RF 1 1 0 [] (sb l) out=PB RF 1 1 0 [] l out:=JJ (Zj _);rw[e9]at hag5;exact hag5
  have H2:Hid (out5.length<=61+m):=hlen5;clear hst5 hag5 hlen5;go_wp2_with fail
  go_ret;exact⟨x,k5,bad5,v5,out5,rfl,h2.out,Qhq h8.out (C HN.out) h1.out,Nat.le_succ_of_le H2.out,fun hb=>(h1.out.1 hb).2⟩
 | some p=>
  rw[Qa4 hp];obtain⟨e1,e2,e3⟩:=Bd hp;have h9:Hid (pk l≠ []/\rpL (pk l)=some p):=⟨e3,by rw[e1];exact hp⟩;have H1:Hid (rest s j2=nx l):=by show _=_;rw[G0.out,e2]
  obtain⟨_,⟨c0,c1,c2,c3⟩,f1,f2,f3⟩:=h4.out.st.rs;have H6:r<w3.heap.size:=h4.out.st.rs.lt;clear hp e1 e2 e3;go_wp2_with fail
  have h3:Hid (St Z W v r s B (w3.alloc (G #[g i p.1,g i p.2.1,A p.2.2.1,A p.2.2.2] 126)) j2 false v out):=h4.out.bel (by go_grown);have d0:(w3.alloc (G #[g i p.1,g i p.2.1,A p.2.2.1,A p.2.2.2] 126)).cell? ⟨w3.heap.size,0,none⟩=some (g i p.1):=by simp
  have d1:(w3.alloc (G #[g i p.1,g i p.2.1,A p.2.2.1,A p.2.2.2] 126)).cell? ⟨w3.heap.size,1,none⟩=some (g i p.2.1):=by simp
  have d2:(w3.alloc (G #[g i p.1,g i p.2.1,A p.2.2.1,A p.2.2.2] 126)).cell? ⟨w3.heap.size,2,none⟩=some (A p.2.2.1):=by simp
  have d3:(w3.alloc (G #[g i p.1,g i p.2.1,A p.2.2.1,A p.2.2.2] 126)).cell? ⟨w3.heap.size,3,none⟩=some (A p.2.2.2):=by simp
  have g6:Hid (r<w3.heap.size):=H6;by_cases hc:pk (nx l)= [58]
  ·have HC:Hid (pk (nx l)= [58]):=hc;have H4:Hid (isB false (bs [58]) (rest s j2)=true):=by show _=_;rw[H1.out,Vz _ 58 (by simp),hc];rfl
   have G1:Hid (isR false (bs [58]) (rest s j2)=nx (nx l)):=by show _=_;rw[H1.out];exact UJ (by simp) hc
   clear hc c0 c1 c2 c3 f1 f2 f3;refine(Yq r s (bs [58]) j2 false v _ h3.out.st.rs hs (by decide)).mono ?_;rintro e w4 ⟨rfl,j3,hrj3,hre3,hgb3⟩;rw[H4.out];rw[G1.out]at hre3;have h7:Hid (St Z W v r s B w4 j3 false v out):=h3.out.gb hrj3 hgb3;have g9:Hid (rest s j3=nx (nx l)):=hre3
   have h0:some w3.heap.size≠some r:=fun e=>by have:=g6.out;cases e;omega
   have d0:=hgb3.cell d0 h0;have d1:=hgb3.cell d1 h0;have d2:=hgb3.cell d2 h0;have d3:=hgb3.cell d3 h0;clear hrj3 hre3 hgb3;go_wp2_with fail
   refine(Ha r s j3 false v w4 h7.out.st.rs hs).mono ?_;rintro e w5 ⟨x5,j5,rfl,hrj5,hre5,hgb5⟩;have h6:Hid (St Z W v r s B w5 j5 false v out):=h7.out.gb hrj5 hgb5;rw[g9.out]at hre5;have H3:Hid (rest s j5=sb (nx (nx l))):=hre5;have d0:=hgb5.cell d0 h0;have d1:=hgb5.cell d1 h0
   have d2:=hgb5.cell d2 h0;have d3:=hgb5.cell d3 h0;clear hrj5 hre5 hgb5;go_wp2_with fail
   refine(ET r s j5 false v w5 h6.out.st.rs hs).mono ?_;rintro e w6 ⟨rfl,j6,hrj6,hre6,hgb6⟩;have g4:Hid (St Z W v r s B w6 j6 false v out):=h6.out.gb hrj6 hgb6;rw[H3.out]at hre6;have g8:Hid (rest s j6=(sb (nx (nx l))).dropWhile isW):=hre6;have H0:Hid (((sb (nx (nx l))).takeWhile isW).length<=1000):=by show _<=_;rw[<-H3.out];exact EP s j5 hs
   rw[H3.out];have d0:=hgb6.cell d0 h0;have d1:=hgb6.cell d1 h0;have d2:=hgb6.cell d2 h0;have d3:=hgb6.cell d3 h0;clear hrj6 hre6 hgb6;go_wp2_with fail
   refine(g0.out ((sb (nx (nx l))).takeWhile isW) w6 (by have:=H0.out;omega)).mono ?_;rintro e w7 ⟨rfl,hb7⟩;have h5:Hid (St Z W v r s B w7 j6 false v out):=g4.out.bel hb7;have l7:w3.heap.size<w6.heap.size:=World.block_lt_of_cell? w6 ⟨w3.heap.size,0,none⟩ d0;have d0:=(hb7.cell (p:=⟨w3.heap.size,0,none⟩) l7).trans d0;have d1:=(hb7.cell (p:=⟨w3.heap.size,1,none⟩) l7).trans d1;have d2:=(hb7.cell (p:=⟨w3.heap.size,2,none⟩) l7).trans d2
   have d3:=(hb7.cell (p:=⟨w3.heap.size,3,none⟩) l7).trans d3;have l8:w3.heap.size<w7.heap.size:=World.block_lt_of_cell? w7 ⟨w3.heap.size,0,none⟩ d0;clear hb7;cases hq:rpL ((sb (nx (nx l))).takeWhile isW)with
   | none=>
    rw[Qd7 hq];have HN:Hid (PB RF 6 0 0 [] l out=none):=Qjv h8.out ⟨h9.out.1,HC.out⟩ h9.out.2 (by rw[<-Qfr,hq]);obtain⟨_,⟨c0,c1,c2,c3⟩,f1,f2,f3⟩:=h5.out.st.rs;have hrl8:r<w7.heap.size:=h5.out.st.rs.lt;clear hq d0 d1 d2 d3;go_wp2_with fail
    go_ret;exact⟨0,j6,true,v,out,rfl,h5.out.mad.bel (by go_grown),C (by rw[HN.out];exact⟨fun e=>(by cases e),fun _=>Ys⟩),by have:=H5.out;omega,fun e=>(by cases e)⟩
   | some q=>
    rw[Qa4 hq];obtain⟨e1,e2,e3⟩:=Bd hq;have HN:Hid (PB RF 6 0 0 [] l out=some ((out.length:Int),sb (nx (nx (nx l))),out++ [RF.are p q])):=Qm9 h8.out ⟨h9.out.1,HC.out⟩ h9.out.2 (by rw[e1];exact hq);have g7:Hid (rest s j6=nx (nx (nx l))):=by show _=_;rw[g8.out,e2]
    clear hq e1 e2 e3;go_wp2_with fail
    refine(VH (RF.are p q) none 0 r s j6 false v B out _ (h5.out.st.bel (by go_grown)) (YE _ _) (fun _ h=>by cases h) (by show(⟨#[]⟩:ByteArray).size<=F;exact Nat.zero_le _) (by have:=H5.out;omega)).mono ?_;rintro e w8 ⟨v8,rfl,hs8,hnb8,hfr8⟩;have g3:Hid (St Z W v r s B w8 j6 (false || !(decide (out.length+1<=60)&&Qp (RF.are p q))) v8 (out++ [RF.are p q])):=(h5.out.bel (by go_grown)).step hs8 hnb8 hfr8;clear hs8 hnb8 hfr8;go_wp2_with fail
    go_ret;refine⟨_,j6,_,v8,_,rfl,g3.out,C ?_,?_,?_⟩
    ·rw[HN.out,<-g7.out];exact Xz HG.out
    ·rw[List.length_append];have:=H5.out;simp only[List.length_cons,List.length_nil];omega
    ·intro hb;rw[He HG.out];simpa using hb
  ·have HC:Hid (¬pk (nx l)= [58]):=hc;have H4:Hid (isB false (bs [58]) (rest s j2)=false):=by show _=_;rw[H1.out];exact(UK (by simp) hc).1
   clear hc c0 c1 c2 c3 f1 f2 f3 d0 d1 d2 d3;refine(Yq r s (bs [58]) j2 false v _ h3.out.st.rs hs (by decide)).mono ?_;rintro e w4 ⟨rfl,j3,hrj3,hre3,hgb3⟩;rw[H4.out];have h7:Hid (St Z W v r s B w4 j3 false v out):=h3.out.gb hrj3 hgb3;clear hrj3 hre3 hgb3;obtain⟨_,⟨c0,c1,c2,c3⟩,f1,f2,f3⟩:=h7.out.st.rs
   go_wp2_with fail
   have h6:Hid (St Z W v r s B (w4.setCell ⟨r,1,none⟩ (g i j)) j false v out):=h7.out.at j _ H7 rfl;refine(HR.out _ j v out 1 (h6.out.st) HG.out (by omega) (by omega) (by rw[g1.out];omega)).mono ?_;rintro e w5 ⟨x,k5,bad5,v5,out5,rfl,hst5,hag5,hlen5⟩;rw[HJ.out]at hag5;have h2:Hid (St Z W v r s B w5 k5 bad5 v5 out5):=h6.out.step hst5.st hst5.nb hst5.fr
   have h1:Hid (YC (PB RF 1 1 0 [] l out) bad5 x (rest s k5) out5):=by
    have e9:PB RF 1 1 0 [] (sb l) out=PB RF 1 1 0 [] l out:=JJ (Zj _);rw[e9]at hag5;exact hag5
   have H2:Hid (out5.length<=61+m):=hlen5;clear hst5 hag5 hlen5;go_wp2_with fail
   go_ret;exact⟨x,k5,bad5,v5,out5,rfl,h2.out,Qhq h8.out (K HC.out) h1.out,Nat.le_succ_of_le H2.out,fun hb=>(h1.out.1 hb).2⟩
end Go.Proofs.YtomadadmakdkgaaGreatDoor
