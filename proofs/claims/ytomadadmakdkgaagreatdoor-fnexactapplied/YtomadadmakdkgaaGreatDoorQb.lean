import Derived.Test.YtomadadmakdkgaaGreatDoorMn
import Derived.Test.YtomadadmakdkgaaGreatDoorGbf
import Derived.Test.YtomadadmakdkgaaGreatDoorGbg
import Derived.Test.YtomadadmakdkgaaGreatDoorGay
import Derived.Test.YtomadadmakdkgaaGreatDoorGzeA
import Derived.Test.YtomadadmakdkgaaGreatDoorQa
import Derived.Test.YtomadadmakdkgaaGreatDoorGpp
import Derived.Test.YtomadadmakdkgaaGreatDoorGze
import Derived.Test.YtomadadmakdkgaaGreatDoorGzw
import Derived.Test.YtomadadmakdkgaaGreatDoorGbd
import Derived.Test.YtomadadmakdkgaaGreatDoorGzd
import Derived.Test.YtomadadmakdkgaaGreatDoorGzs
import Derived.Test.YtomadadmakdkgaaGreatDoorGzx
import Derived.Test.YtomadadmakdkgaaGreatDoorGzj
open Go.Proofs.Tryz
open Go.Value renaming int → l, slice → J, string → N, tuple → U, bool → V, agg → je
open Go.IntKind renaming i64 → u
open Go renaming bodyPost_ret → G, results → I, World → O, Calls → ja
open Bool renaming and_eq_true → H, eq_iff_iff → Y, not_eq_true' → jb
open Go.RowKit renaming Below → K
open Go.ByteArray renaming toList_eq → Q
open Go.Ending renaming returned → T
open Go.RowKit.Below renaming refl → jc
open Or renaming inl → jd
open Go.Obj renaming cells → jf
set_option linter.unusedSimpArgs false
set_option linter.unusedVariables false
set_option maxHeartbeats 4000000
set_option maxRecDepth 100000
namespace Go.Proofs.YtomadadmakdkgaaGreatDoor
open Go.RowKit
def lnF(s:ByteArray):Option (List FN):=if eqH s=true then rdF (JP s)else none
theorem Qhh{s:ByteArray}(hs:s.size<=200):(JP s).size<=maxLen:=by
 unfold JP maxLen;split
 ·simp;omega
 ·omega
theorem QN{s:ByteArray}{o:List FN}(h:rdF s=some o):o.length<=60/\ ∀i,i<o.length->(ouF o i).cs.size<=maxLen/\(ouF o i).kids.length<=1048576:=by
 obtain⟨h1,_,_⟩:=XL h;refine⟨Yn h1,fun i hi=> ?_⟩;obtain⟨h2,h3⟩:=XF (Ku h1 i hi);unfold maxLen;exact⟨by omega,by omega⟩
theorem Mt{W:O}{B n:Nat}{v:Value}{ys:List Value}{F:Nat->FN}(h:W.ownsRow B 177 14 v n ys){B':Nat}(hp:FnPart W B' ys F n)(hs: ∀i,i<n->(F i).cs.size<=maxLen): ∃A cap,v= J A n cap/\FnRowS W A n F:=by
 rcases h.2 with⟨rfl,rfl⟩ | ⟨g,cap,cur,rfl,_⟩
 ·exact⟨none,0,rfl,Nat.zero_le _,fun i hi=>by omega⟩
 ·exact⟨_,cap,rfl,Oa h hp hs⟩
def Qon(s:ByteArray)(w:O)(e:Ending)(w':O):Prop:=
 K w.heap.size w w'/\((lnF s=none/\e= T (U #[J none 0 0,V false]))\/ ∃o A c,lnF s=some o/\rdF (JP s)=some o/\e= T (U #[J A o.length c,V true])/\FnRowS w' A o.length (ouF o))
theorem MB(s:ByteArray)(w:O)(hs:s.size<=200)(hg:GI w):ja prog 118 #[N s] w (Qon s w):=by
 have HG:Hid (GI w):=hg;clear hg;cases he:eqH s
 ·have HE:Hid (eqH s=false):=he;have HN:Hid (lnF s=none):=by show _=_;unfold lnF;rw[he];rfl
  clear he;go_enter func118,ntmps118;go_wp2_with fail
  refine(OK s _ (by omega)).mono ?_;rintro e w1 ⟨rfl,hw1⟩;obtain rfl:=hw1.symm;rw[HE.out];go_wp2_with fail
  refine G (v:= U #[J none 0 0,V false]) ?_ rfl ⟨jc _ _,jd ⟨HN.out,rfl⟩⟩;simp (maxDischargeDepth:=9) [I,results118,go_sem, *]
 ·have HE:Hid (eqH s=true):=he;have HN:Hid (lnF s=rdF (JP s)):=by show _=_;unfold lnF;rw[he,pS rfl]
  have HC:Hid ((JP s).size<=maxLen):=Qhh hs;clear he;obtain⟨t,HT⟩: ∃t,Hid (JP s=t):=⟨_,rfl⟩;rw[HT.out]at HN HC;go_enter func118,ntmps118;go_wp2_with fail
  refine(OK s _ (by omega)).mono ?_;rintro e w1 ⟨rfl,hw1⟩;obtain rfl:=hw1.symm;rw[HE.out,HT.out];go_wp2_with fail
  refine(JD t _ HC.out HG.out).mono ?_;rintro e w2 ⟨hb,h⟩;have B2:Hid (K w.heap.size w w2):=hb;rcases h with⟨h1,rfl⟩ | ⟨o,v,ys,h1,rfl,ho,hp,_⟩
  ·have H1:Hid (rdF t=none):=h1;clear h1 hb;go_wp2_with fail
   refine G (v:= U #[J none 0 0,V false]) ?_ rfl ⟨B2.out,jd ⟨HN.out.trans H1.out,rfl⟩⟩;simp (maxDischargeDepth:=9) [I,results118,go_sem, *]
  ·obtain⟨A,c,rfl,h0⟩:=Mt ho hp (fun i hi=>((QN h1).2 i hi).1);have H1:Hid (rdF t=some o):=h1;have h2:Hid (FnRowS w2 A o.length (ouF o)):=h0;clear h1 hb ho hp h0;go_wp2_with fail
   refine G (v:= U #[J A o.length c,V true]) ?_ rfl ⟨B2.out,Or.inr ⟨o,A,c,HN.out.trans H1.out,by rw[HT.out];exact H1.out,rfl,h2.out⟩⟩;simp (maxDischargeDepth:=9) [I,results118,go_sem, *]
theorem XI(s:ByteArray)(w:O)(hs:s.size<=200):ja prog 106 #[N s] w (Qon s w):=by
 by_cases h0:0<s.size
 rotate_left
 ·have HN:Hid (lnF s=none):=by show _=_;unfold lnF eqH;rw[dif_neg h0];rfl
  obtain rfl:=Za (s:=s) (by omega);go_enter func106,ntmps106;go_wp2_with fail
  refine G (v:= U #[J none 0 0,V false]) ?_ rfl ⟨jc _ _,jd ⟨HN.out,rfl⟩⟩;simp (maxDischargeDepth:=9) [I,results106,go_sem, *]
 have hne:s.toList.isEmpty=false:=by
  rw[Q,List.isEmpty_eq_false_iff];intro h;have h9:s.size=s.data.toList.length:=by simp
  rw[h]at h9;simp only[List.length_nil]at h9;omega
 have q0:(0:Int)<(s.size:Int):=by omega
 by_cases h2:s[0]=61
 rotate_left
 ·have HN:Hid (lnF s=none):=by show _=_;unfold lnF eqH;rw[dif_pos h0,nG];simpa using h2
  have hb:((s[0].toNat:Int)==61)=false:=by
   have: ¬(s[0].toNat:Int)=61:=fun e=>h2 (UInt8.toNat_inj.1 (by have:(61:UInt8).toNat=61:=rfl;omega));simpa using this
  go_enter func106,ntmps106;go_wp2_with fail
  refine G (v:= U #[J none 0 0,V false]) ?_ rfl ⟨jc _ _,jd ⟨HN.out,rfl⟩⟩;simp (maxDischargeDepth:=9) [I,results106,go_sem, *]
 have he:eqH s=true:=by unfold eqH;rw[dif_pos h0,h2];rfl
 have HC:Hid (JP s=s.extract 1 s.size):=by show _=_;unfold JP;rw[pS he]
 have HN:Hid (lnF s=rdF (s.extract 1 s.size)):=by show _=_;unfold lnF;rw[he,pS rfl,HC.out]
 have HZ:Hid ((s.extract 1 s.size).size<=maxLen):=by rw[<-HC.out];exact Qhh hs
 have hb:(s[0].toNat:Int)=61:=by rw[h2];rfl
 have q1:(1:Int)<=(s.size:Int):=by omega
 clear he h2;go_enter func106,ntmps106;go_wp2_with fail
 refine(Jv (s.extract 1 s.size) _ HZ.out).mono ?_;rintro e w2 ⟨hb2,h⟩;have B2:Hid (K w.heap.size w w2):=hb2;rcases h with⟨h1,rfl⟩ | ⟨o,v,ys,h1,rfl,ho,hp⟩
 ·have H1:Hid (rdF (s.extract 1 s.size)=none):=h1;clear h1 hb2;go_wp2_with fail
  refine G (v:= U #[J none 0 0,V false]) ?_ rfl ⟨B2.out,jd ⟨HN.out.trans H1.out,rfl⟩⟩;simp (maxDischargeDepth:=9) [I,results106,go_sem, *]
 ·obtain⟨A,c,rfl,h3⟩:=Mt ho hp (fun i hi=>((QN h1).2 i hi).1);have H1:Hid (rdF (s.extract 1 s.size)=some o):=h1;have h4:Hid (FnRowS w2 A o.length (ouF o)):=h3;clear h1 hb2 ho hp h3;go_wp2_with fail
  refine G (v:= U #[J A o.length c,V true]) ?_ rfl ⟨B2.out,Or.inr ⟨o,A,c,HN.out.trans H1.out,by rw[HC.out];exact H1.out,rfl,h4.out⟩⟩;simp (maxDischargeDepth:=9) [I,results106,go_sem, *]
end Go.Proofs.YtomadadmakdkgaaGreatDoor
namespace Go.Proofs.YtomadadmakdkgaaGreatDoor
open Go.RowKit Go.Maps
def Qfz(f g:Xy)(o:List FN):List FN:=o.map (QB f g)
theorem Qkv(f g:Xy)(o:List FN):(Qfz f g o).length=o.length:=by simp[Qfz]
theorem Qu5(f g:Xy):QB f g dFN=dFN:=Qfb f g (by decide) (by decide)
theorem Qtl(f g:Xy)(o:List FN)(i:Nat):ouF (Qfz f g o) i=QB f g (ouF o i):=by
 unfold ouF Qfz;rw[List.getD_eq_getElem?_getD,List.getD_eq_getElem?_getD,List.getElem?_map];cases o[i]? with
 | none=>exact(Qu5 f g).symm
 | some x=>rfl
def rwT(f g:Xy)(o:List FN):ByteArray:=ftx (fun i=>QB f g (ouF o i)) o.length
theorem Qtq(f g:Xy)(o:List FN):rwT f g o=ftx (ouF (Qfz f g o)) (Qfz f g o).length:=by
 rw[Qkv];unfold rwT;congr 1
 funext i
 exact(Qtl f g o i).symm
def rwS(f g:Xy)(s:ByteArray):ByteArray:=match lnF s with
 | none=>s
 | some o=>(⟨#[61]⟩:ByteArray)++rwT f g o
def rwB(f g:Xy)(s:ByteArray):Bool:=match lnF s with
 | none=>true
 | some o=>decide (0<(rwT f g o).size/\(rwT f g o).size+1<=200)
theorem Qtp(f g:Xy)(o:List FN):(rwT f g o).size<=200:=KH _ _
theorem Oc(t:ByteArray):((⟨#[61]⟩:ByteArray)++t).size=t.size+1:=by
 rw[ByteArray.size_append];show 1+_=_;omega
theorem Qoq{s:ByteArray}(h:0<s.size):s.toList.isEmpty=false:=by
 rw[Q,List.isEmpty_eq_false_iff];intro e;have h9:s.size=s.data.toList.length:=by simp
 rw[e]at h9;simp only[List.length_nil]at h9;omega
theorem Qtr{f g:Xy}{s:ByteArray}(h:s.size<=maxLen):(rwS f g s).size<=maxLen:=by
 unfold rwS;split
 ·exact h
 ·rename_i o _
  rw[Oc];have:=Qtp f g o;unfold maxLen;omega
theorem Qfe{f g:Xy}{s:ByteArray}(h:s.toList.isEmpty=false):(rwS f g s).toList.isEmpty=false:=by
 unfold rwS;split
 ·exact h
 ·exact Qoq (by rw[Oc];omega)
theorem Qqp{s:ByteArray}(h:inF s=some s):Vn s=true:=by
 unfold Vn;rw[h];exact beq_self_eq_true _
theorem Qgj{s:ByteArray}(h:Vn s=true):inF s=some s:=by
 unfold Vn at h;cases hi:inF s with
 | none=>rw[hi]at h;cases h
 | some t=>
  rw[hi]at h;have h9:t.toList=s.toList:=eq_of_beq h;rw[Q,Q]at h9;have:t=s:=ByteArray.ext (Array.ext' h9);rw[this]
theorem Qto{f g:Xy}{s:ByteArray}(h:Vn s=true):Vn (rwS f g s)=rwB f g s:=by
 unfold rwS rwB;cases hl:lnF s with
 | none=>exact h
 | some o=>
  simp only;have ht:=Qtq f g o;obtain⟨t,HT⟩: ∃t,rwT f g o=t:=⟨_,rfl⟩;rw[HT]at ht ⊢;obtain⟨g1,g2⟩:=Qrx (t:=t);by_cases hz:0<t.size/\t.size+1<=200
  ·rw[decide_eq_true hz];have hn:(ftx (ouF (Qfz f g o)) (Qfz f g o).length).size≠0:=by rw[<-ht];omega
   obtain⟨f1,f2,f3⟩:=Qmg hn;refine Qqp ?_;unfold inF;rw[pS (Qpu (by decide) (by rw[ht];exact f2) (by rw[Oc];omega))];unfold srT;rw[pS g1,g2,ht,f3];unfold fsT
   simp only;rw[nG hn];unfold lim;simp only;rw[<-ht,pS (by rw[Oc];omega)]
  ·rw[decide_eq_false hz];cases ho:Vn ((⟨#[61]⟩:ByteArray)++t)with
   | false=>rfl
   | true=>
    exfalso
    have hi:=Qgj ho;have h1:=Qbd hi;rw[Oc]at h1;have h0:t.size=0:=by omega
    unfold inF at hi;split at hi
    ·unfold srT at hi;rw[pS g1,g2]at hi;unfold fsT at hi;split at hi
     ·rename_i out _
      split at hi
      ·cases hi
      ·rename_i hne
       unfold lim at hi;simp only at hi;split at hi
       ·have h9:=congrArg ByteArray.size (Option.some.inj hi);rw[Oc,Oc]at h9;omega
       ·cases hi
     ·cases hi
    ·cases hi
def PostMv(f g:Xy)(o:List FN)(w:O)(z:Ending)(w':O):Prop:=
 ∃h ys,z= T (U #[J (some ⟨h,0,none⟩) o.length o.length,V true])/\w.heap.size<=h/\w'.ownsRow h 177 14 (J (some ⟨h,0,none⟩) o.length o.length) o.length ys/\FnPart w' (h+1) ys (fun i=>QB f g (ouF o i)) o.length/\K w.heap.size w w'
theorem PostMv.row{f g:Xy}{s:ByteArray}{o:List FN}(ho:rdF s=some o){h:Nat}{ys:List Value}{w':O}(hr:w'.ownsRow h 177 14 (J (some ⟨h,0,none⟩) o.length o.length) o.length ys)(hp:FnPart w' (h+1) ys (fun i=>QB f g (ouF o i)) o.length):FnRow w' (some ⟨h,0,none⟩) o.length (fun i=>QB f g (ouF o i)):=
 (Oa hr hp (fun i hi=>Qj3 f g _ ((QN ho).2 i hi).1)).row
theorem Ud{f g:Xy}{s:ByteArray}{o:List FN}(ho:rdF s=some o): ∀i,i<o.length->(QB f g (ouF o i)).kids.length<=1048576:=fun i hi=>by
 obtain⟨_,_,h3⟩:=XL ho;rw[Qpj f g (JN h3 i hi)];exact((QN ho).2 i hi).2
theorem Qx3{A:Option Addr}{cap:Nat}{s:ByteArray}{o:List FN}(d e:Int)(p:Nat)(w:O)(hp:p<w.heap.size)(c0:w.cell? ⟨p,0,none⟩=some (l u d))(c1:w.cell? ⟨p,1,none⟩=some (l u e))(h:FnRowS w A o.length (ouF o))(hrd:rdF s=some o)(hg:GI w)(hk:Yf d e=true):
  ja prog 83 #[J A o.length cap,.pointer (some ⟨p,0,none⟩)] w (PostMv (Zw d e) (Zv d e) o w):=by
 have HR:Hid (FnRowS w A o.length (ouF o)):=h;have HG:Hid (GI w):=hg;have h0:Hid (rdF s=some o):=hrd;have HK:Hid ((Zb (ouF o) o.length&&Yf d e)=true):=by show _=_;rw[(XL hrd).2.2,hk];rfl
 clear h hg;go_enter func83,ntmps83;go_wp2_with fail
 refine(Qim d e _ HR.out (by have:=(QN h0.out).1;omega) (fun i hi=>((QN h0.out).2 i hi).2) HG.out.gt.ft HK.out).mono ?_;rintro z w1 ⟨g,ys,rfl,h1,h2,h3,_,hb⟩;have H2:Hid (w1.ownsRow g 177 14 (J (some ⟨g,0,none⟩) o.length o.length) o.length ys):=h2;have H3:Hid (FnPart w1 (g+1) ys (fun i=>QB (Zw d e) (Zv d e) (ouF o i)) o.length):=h3;clear h2 h3;go_wp2_with fail
 refine G (v:= U #[J (some ⟨g,0,none⟩) o.length o.length,V true]) ?_ rfl ⟨g,ys,rfl,h1,H2.out,H3.out,hb⟩;simp (maxDischargeDepth:=9) [I,results83,go_sem, *]
theorem Qya{A:Option Addr}{cap:Nat}{s:ByteArray}{o:List FN}(d e:Int)(p:Nat)(w:O)(hp:p<w.heap.size)(c0:w.cell? ⟨p,0,none⟩=some (l u d))(c1:w.cell? ⟨p,1,none⟩=some (l u e))(h:FnRowS w A o.length (ouF o))(hrd:rdF s=some o)(hg:GI w)(hk:Yf d e=true):
  ja prog 87 #[J A o.length cap,.pointer (some ⟨p,0,none⟩)] w (PostMv (Zi d e) (Zh d e) o w):=by
 have HR:Hid (FnRowS w A o.length (ouF o)):=h;have HG:Hid (GI w):=hg;have h0:Hid (rdF s=some o):=hrd;have HK:Hid ((Zb (ouF o) o.length&&Qj9 d e)=true):=by show _=_;rw[(XL hrd).2.2];exact hk
 clear h hg;go_enter func87,ntmps87;go_wp2_with fail
 refine(Qiw d e _ HR.out (by have:=(QN h0.out).1;omega) (fun i hi=>((QN h0.out).2 i hi).2) HG.out.gt.ft HK.out).mono ?_;rintro z w1 ⟨g,ys,rfl,h1,h2,h3,_,hb⟩;have H2:Hid (w1.ownsRow g 177 14 (J (some ⟨g,0,none⟩) o.length o.length) o.length ys):=h2;have H3:Hid (FnPart w1 (g+1) ys (fun i=>QB (Zi d e) (Zh d e) (ouF o i)) o.length):=h3;clear h2 h3;go_wp2_with fail
 refine G (v:= U #[J (some ⟨g,0,none⟩) o.length o.length,V true]) ?_ rfl ⟨g,ys,rfl,h1,H2.out,H3.out,hb⟩;simp (maxDischargeDepth:=9) [I,results87,go_sem, *]
theorem Qmy{A:Option Addr}{cap:Nat}{s:ByteArray}{o:List FN}(a b c d x y:Int)(p:Nat)(w:O)(hp:p<w.heap.size)(c0:w.cell? ⟨p,0,none⟩=some (l u a))(c1:w.cell? ⟨p,1,none⟩=some (l u b))(c4:w.cell? ⟨p,4,none⟩=some (l u x))(c5:w.cell? ⟨p,5,none⟩=some (l u y))(h:FnRowS w A o.length (ouF o))(hrd:rdF s=some o)(hg:GI w)(hr1:Qf a b=true)(hr2:Qf x y=true):
  ja prog 91 #[J A o.length cap,.pointer (some ⟨p,0,none⟩)] w (PostMv (Qi (x-a) (y-b)) (Qh (x-a) (y-b)) o w):=by
 have HR:Hid (FnRowS w A o.length (ouF o)):=h;have HG:Hid (GI w):=hg;have h0:Hid (rdF s=some o):=hrd;unfold Qf at hr1 hr2;have q1:=of_decide_eq_true hr1;have q2:=of_decide_eq_true hr2
 have HK:Hid ((Zb (ouF o) o.length&&Hd (x-a) (y-b))=true):=by
  show _=_;rw[(XL hrd).2.2];unfold Hd;rw[decide_eq_true (by omega),decide_eq_true (by omega)];rfl
 clear h hg hr1 hr2;go_enter func91,ntmps91;go_wp2_with fail
 refine(UO (x-a) (y-b) _ HR.out (by have:=(QN h0.out).1;omega) (fun i hi=>((QN h0.out).2 i hi).2) HG.out.gt.ft HK.out).mono ?_;rintro z w1 ⟨g,ys,rfl,h1,h2,h3,_,hb⟩;have H2:Hid (w1.ownsRow g 177 14 (J (some ⟨g,0,none⟩) o.length o.length) o.length ys):=h2;have H3:Hid (FnPart w1 (g+1) ys (fun i=>QB (Qi (x-a) (y-b)) (Qh (x-a) (y-b)) (ouF o i)) o.length):=h3;clear h2 h3;go_wp2_with fail
 refine G (v:= U #[J (some ⟨g,0,none⟩) o.length o.length,V true]) ?_ rfl ⟨g,ys,rfl,h1,H2.out,H3.out,hb⟩;simp (maxDischargeDepth:=9) [I,results91,go_sem, *]
theorem Qts{f g:Xy}{s:ByteArray}(h:lnF s=none):rwS f g s=s:=by unfold rwS;rw[h]
theorem Qpv{f g:Xy}{s:ByteArray}{o:List FN}(h:lnF s=some o):rwS f g s=(⟨#[61]⟩:ByteArray)++ftx (fun i=>QB f g (ouF o i)) o.length:=by unfold rwS;rw[h];rfl
theorem Qqc{s:ByteArray}(d e:Int)(p:Nat)(w:O)(hs:s.size<=200)(hp:p<w.heap.size)(c0:w.cell? ⟨p,0,none⟩=some (l u d))(c1:w.cell? ⟨p,1,none⟩=some (l u e))(hg:GI w)(hk:Yf d e=true):
  ja prog 82 #[N s,.func (.func 83) #[] #[.pointer (some ⟨p,0,none⟩)]] w fun z w'=>z= T (N (rwS (Zw d e) (Zv d e) s))/\K w.heap.size w w':=by
 have HG:Hid (GI w):=hg;clear hg;go_enter func82,ntmps82;go_wp2_with fail
 refine(MB s _ hs HG.out).mono ?_;rintro z w1 ⟨hb,hz⟩;rcases hz with⟨hl,rfl⟩ | ⟨o,A,cp,hl,hrd,rfl,hfr⟩
 ·have HV:Hid (rwS (Zw d e) (Zv d e) s=s):=Qts hl;clear hl;go_wp2_with fail
  refine G (v:= N s) ?_ rfl ⟨by rw[HV.out],hb⟩;simp (maxDischargeDepth:=9) [I,results82,go_sem, *]
 ·have HV:Hid (rwS (Zw d e) (Zv d e) s=(⟨#[61]⟩:ByteArray)++ftx (fun i=>QB (Zw d e) (Zv d e) (ouF o i)) o.length):=Qpv hl;have h4:Hid (FnRowS w1 A o.length (ouF o)):=hfr;have h0:Hid (rdF (JP s)=some o):=hrd;have h1:=hd (HG.out.below hb);replace c0:=(hb.cell (p:=⟨p,0,none⟩) hp).trans c0;replace c1:=(hb.cell (p:=⟨p,1,none⟩) hp).trans c1;replace hp:=Nat.lt_of_lt_of_le hp hb.size
  have K1:Hid (K w.heap.size w w1):=hb;clear hl hfr hrd hb;go_wp2_with fail
  refine(Qx3 d e p _ hp c0 c1 h4.out h0.out h1.out hk).mono ?_;rintro z w2 ⟨h,ys,rfl,_,hr,hpt,hb⟩;have h5:Hid (FnRow w2 (some ⟨h,0,none⟩) o.length (fun i=>QB (Zw d e) (Zv d e) (ouF o i))):=PostMv.row h0.out hr hpt;have h3:=hd (h1.out.below hb);have K2:=hd (Qb K1.out hb);clear hb hr hpt c0 c1;go_wp2_with fail
  refine(Xn _ h5.out (by have:=(QN h0.out).1;omega) (Ud h0.out) h3.out.gt).mono ?_;rintro z w3 ⟨rfl,hb⟩;have K3:=hd (Qb K2.out hb);have h2:=KH (fun i=>QB (Zw d e) (Zv d e) (ouF o i)) o.length;clear hb;obtain⟨t,HT⟩: ∃t,Hid (ftx (fun i=>QB (Zw d e) (Zv d e) (ouF o i)) o.length=t):=⟨_,rfl⟩;rw[HT.out]at h2 HV ⊢
  go_wp2_with fail
  refine G (v:= N ((⟨#[61]⟩:ByteArray)++t)) ?_ rfl ⟨by rw[HV.out],K3.out⟩;simp (maxDischargeDepth:=9) [I,results82,go_sem, *]
theorem Qqe{s:ByteArray}(d e:Int)(p:Nat)(w:O)(hs:s.size<=200)(hp:p<w.heap.size)(c0:w.cell? ⟨p,0,none⟩=some (l u d))(c1:w.cell? ⟨p,1,none⟩=some (l u e))(hg:GI w)(hk:Yf d e=true):
  ja prog 82 #[N s,.func (.func 87) #[] #[.pointer (some ⟨p,0,none⟩)]] w fun z w'=>z= T (N (rwS (Zi d e) (Zh d e) s))/\K w.heap.size w w':=by
 have HG:Hid (GI w):=hg;clear hg;go_enter func82,ntmps82;go_wp2_with fail
 refine(MB s _ hs HG.out).mono ?_;rintro z w1 ⟨hb,hz⟩;rcases hz with⟨hl,rfl⟩ | ⟨o,A,cp,hl,hrd,rfl,hfr⟩
 ·have HV:Hid (rwS (Zi d e) (Zh d e) s=s):=Qts hl;clear hl;go_wp2_with fail
  refine G (v:= N s) ?_ rfl ⟨by rw[HV.out],hb⟩;simp (maxDischargeDepth:=9) [I,results82,go_sem, *]
 ·have HV:Hid (rwS (Zi d e) (Zh d e) s=(⟨#[61]⟩:ByteArray)++ftx (fun i=>QB (Zi d e) (Zh d e) (ouF o i)) o.length):=Qpv hl;have h4:Hid (FnRowS w1 A o.length (ouF o)):=hfr;have h0:Hid (rdF (JP s)=some o):=hrd;have h1:=hd (HG.out.below hb);replace c0:=(hb.cell (p:=⟨p,0,none⟩) hp).trans c0;replace c1:=(hb.cell (p:=⟨p,1,none⟩) hp).trans c1;replace hp:=Nat.lt_of_lt_of_le hp hb.size
  have K1:Hid (K w.heap.size w w1):=hb;clear hl hfr hrd hb;go_wp2_with fail
  refine(Qya d e p _ hp c0 c1 h4.out h0.out h1.out hk).mono ?_;rintro z w2 ⟨h,ys,rfl,_,hr,hpt,hb⟩;have h5:Hid (FnRow w2 (some ⟨h,0,none⟩) o.length (fun i=>QB (Zi d e) (Zh d e) (ouF o i))):=PostMv.row h0.out hr hpt;have h3:=hd (h1.out.below hb);have K2:=hd (Qb K1.out hb);clear hb hr hpt c0 c1;go_wp2_with fail
  refine(Xn _ h5.out (by have:=(QN h0.out).1;omega) (Ud h0.out) h3.out.gt).mono ?_;rintro z w3 ⟨rfl,hb⟩;have K3:=hd (Qb K2.out hb);have h2:=KH (fun i=>QB (Zi d e) (Zh d e) (ouF o i)) o.length;clear hb;obtain⟨t,HT⟩: ∃t,Hid (ftx (fun i=>QB (Zi d e) (Zh d e) (ouF o i)) o.length=t):=⟨_,rfl⟩;rw[HT.out]at h2 HV ⊢
  go_wp2_with fail
  refine G (v:= N ((⟨#[61]⟩:ByteArray)++t)) ?_ rfl ⟨by rw[HV.out],K3.out⟩;simp (maxDischargeDepth:=9) [I,results82,go_sem, *]
theorem Ex{s:ByteArray}(a b c d x y:Int)(p:Nat)(w:O)(hs:s.size<=200)(hp:p<w.heap.size)(c0:w.cell? ⟨p,0,none⟩=some (l u a))(c1:w.cell? ⟨p,1,none⟩=some (l u b))(c4:w.cell? ⟨p,4,none⟩=some (l u x))(c5:w.cell? ⟨p,5,none⟩=some (l u y))(hg:GI w)(hr1:Qf a b=true)(hr2:Qf x y=true):
  ja prog 82 #[N s,.func (.func 91) #[] #[.pointer (some ⟨p,0,none⟩)]] w fun z w'=>z= T (N (rwS (Qi (x-a) (y-b)) (Qh (x-a) (y-b)) s))/\K w.heap.size w w':=by
 have HG:Hid (GI w):=hg;clear hg;go_enter func82,ntmps82;go_wp2_with fail
 refine(MB s _ hs HG.out).mono ?_;rintro z w1 ⟨hb,hz⟩;rcases hz with⟨hl,rfl⟩ | ⟨o,A,cp,hl,hrd,rfl,hfr⟩
 ·have HV:Hid (rwS (Qi (x-a) (y-b)) (Qh (x-a) (y-b)) s=s):=Qts hl;clear hl;go_wp2_with fail
  refine G (v:= N s) ?_ rfl ⟨by rw[HV.out],hb⟩;simp (maxDischargeDepth:=9) [I,results82,go_sem, *]
 ·have HV:Hid (rwS (Qi (x-a) (y-b)) (Qh (x-a) (y-b)) s=(⟨#[61]⟩:ByteArray)++ftx (fun i=>QB (Qi (x-a) (y-b)) (Qh (x-a) (y-b)) (ouF o i)) o.length):=Qpv hl;have h4:Hid (FnRowS w1 A o.length (ouF o)):=hfr;have h0:Hid (rdF (JP s)=some o):=hrd;have h1:=hd (HG.out.below hb);replace c0:=(hb.cell (p:=⟨p,0,none⟩) hp).trans c0;replace c1:=(hb.cell (p:=⟨p,1,none⟩) hp).trans c1;replace c4:=(hb.cell (p:=⟨p,4,none⟩) hp).trans c4
  replace c5:=(hb.cell (p:=⟨p,5,none⟩) hp).trans c5;replace hp:=Nat.lt_of_lt_of_le hp hb.size;have K1:Hid (K w.heap.size w w1):=hb;clear hl hfr hrd hb;go_wp2_with fail
  refine(Qmy a b c d x y p _ hp c0 c1 c4 c5 h4.out h0.out h1.out hr1 hr2).mono ?_;rintro z w2 ⟨h,ys,rfl,_,hr,hpt,hb⟩;have h5:Hid (FnRow w2 (some ⟨h,0,none⟩) o.length (fun i=>QB (Qi (x-a) (y-b)) (Qh (x-a) (y-b)) (ouF o i))):=PostMv.row h0.out hr hpt;have h3:=hd (h1.out.below hb);have K2:=hd (Qb K1.out hb);clear hb hr hpt c0 c1 c4 c5;go_wp2_with fail
  refine(Xn _ h5.out (by have:=(QN h0.out).1;omega) (Ud h0.out) h3.out.gt).mono ?_;rintro z w3 ⟨rfl,hb⟩;have K3:=hd (Qb K2.out hb);have h2:=KH (fun i=>QB (Qi (x-a) (y-b)) (Qh (x-a) (y-b)) (ouF o i)) o.length;clear hb;obtain⟨t,HT⟩: ∃t,Hid (ftx (fun i=>QB (Qi (x-a) (y-b)) (Qh (x-a) (y-b)) (ouF o i)) o.length=t):=⟨_,rfl⟩;rw[HT.out]at h2 HV ⊢
  go_wp2_with fail
  refine G (v:= N ((⟨#[61]⟩:ByteArray)++t)) ?_ rfl ⟨by rw[HV.out],K3.out⟩;simp (maxDischargeDepth:=9) [I,results82,go_sem, *]
def inQ(a b c d p q:Int):Bool:=decide (a<=p)&&decide (p<=c)&&decide (b<=q)&&decide (q<=d)
def ZM(a b c d:Int)(E:List CL):List CL:=E.filter (fun y=> !inQ a b c d y.c y.r)
theorem BN(a b c d p q:Int)(w:O):ja prog 80 #[je #[l u a,l u b,l u c,l u d],je #[l u p,l u q]] w fun e w'=>
  e= T (V (inQ a b c d p q))/\K w.heap.size w w':=by
 go_enter func80,ntmps80;go_wp2
 all_goals
  go_ret;refine⟨Qc ?_,by go_grown⟩;unfold inQ;rw[Y];simp;try omega
theorem YP(a b c d p q:Int)(w:O):ja prog 63 #[je #[l u p,l u q],je #[l u a,l u b,l u c,l u d]] w fun e w'=>
  e= T (V (inQ a b c d p q))/\K w.heap.size w w':=by
 cases h1:decide (a<=p/\p<=c)
 ·have HF:Hid (inQ a b c d p q=false):=by
   show _=_;have:=of_decide_eq_false h1;unfold inQ;simp;omega
  go_enter func63,ntmps63;go_wp2_with (go_at_call 102;refine(QG _ _ _ _).mono ?_;rintro e w1 ⟨rfl,rfl⟩;rw[h1])
  all_goals
   go_ret;exact⟨Qc HF.out.symm,by go_grown⟩
 ·have HF:Hid (inQ a b c d p q=(decide (b<=q)&&decide (q<=d))):=by
   show _=_;have:=of_decide_eq_true h1;unfold inQ;rw[Y];simp;omega
  go_enter func63,ntmps63;go_wp2_with fail
  refine(QG _ _ _ _).mono ?_;rintro e w1 ⟨rfl,hw1⟩;obtain rfl:=hw1.symm;rw[h1];go_wp2_with fail
  refine(QG _ _ _ _).mono ?_;rintro e w2 ⟨rfl,hw2⟩;obtain rfl:=hw2.symm;go_wp2_with fail
  go_ret;exact⟨Qc HF.out.symm,by go_grown⟩
theorem Vp{W W':O}{b n:Nat}{D:DataW Value}(ho:W.ownsMap prog 26 YM b n D)(hb:K W.heap.size W W'):W'.ownsMap prog 26 YM b n D:=by
 have h1:=ho.lt;obtain⟨es,h0,h,Ft,hs,hD⟩:=ho;exact⟨es,h0,(hb.block b h1).trans h,Ft,hs,hD⟩
theorem Uv(C R:Nat->Int)(S:Nat->ByteArray)(k:Nat):clE C R S (k+1)=clE C R S k++ [⟨C k,R k,S k⟩]:=by simp[clE,List.range_succ]
theorem Hc(a b c d:Int)(C R:Nat->Int)(S:Nat->ByteArray)(k:Nat):ZM a b c d (clE C R S (k+1))=ZM a b c d (clE C R S k)++(if inQ a b c d (C k) (R k)=true then []else [⟨C k,R k,S k⟩]):=by
 rw[Uv,ZM,List.filter_append,ZM];cases h:inQ a b c d (C k) (R k)<;>simp[h]
theorem Qec{a b c d:Int}{C R:Nat->Int}{S:Nat->ByteArray}{k:Nat}(h: ∀i,i<k-> ¬(C i=C k/\R i=R k)):Kg (C k) (R k) (ZM a b c d (clE C R S k))=ZM a b c d (clE C R S k):=by
 unfold Kg;rw[List.filter_eq_self];intro x hx;have hx:=(List.mem_filter.1 hx).1;obtain⟨i,hi,rfl⟩:=List.mem_map.1 hx;have:=h i (List.mem_range.1 hi);rw[jb,decide_eq_false_iff_not]
 exact this
theorem Qe{B:Nat}{W W':O}(hb:K B W W'){b o:Nat}{v:Value}(hl:b<B)(hc:W.cell? ⟨b,o,none⟩=some v):W'.cell? ⟨b,o,none⟩=some v:=(hb.cell (p:=⟨b,o,none⟩) hl).trans hc
theorem Jm{A:Option Addr}{n cap:Nat}{C R:Nat->Int}{S:Nat->ByteArray}{kl:Nat->Lit}{a b c d:Int}(w:O)(h:ClRow w A n C R S)(hn:n<=120)
  (hkl: ∀i,i<n->keyOf prog 26 (je #[l u (C i),l u (R i)])=some (kl i)) (hap: ∀i j,i<j->j<n-> ¬(C i=C j/\R i=R j)):
  ja prog 53 #[J A n cap,je #[l u a,l u b,l u c,l u d]] w fun e w'=> ∃(B m:Nat) (D:DataW Value),e= T (.map (some B))/\w.heap.size<=B/\w'.ownsMap prog 26 YM B m D/\CmD D (ZM a b c d (clE C R S n))/\K w.heap.size w w'/\m<=n:=by
 have HR:Hid (ClRow w A n C R S):=h;have HK:Hid (∀i,i<n->keyOf prog 26 (je #[l u (C i),l u (R i)])=some (kl i)):=hkl;have HA:Hid (∀i j,i<j->j<n-> ¬(C i=C j/\R i=R j)):=hap;clear h hkl hap;have hmm:= @run_makeMap prog;go_enter func53,ntmps53;go_wp2_with fail
 obtain⟨X,HX⟩: ∃X,Hid (w.alloc (jf #[l u a,l u b,l u c,l u d] 28)=X):=⟨_,rfl⟩;rw[HX.out];have ZX:Hid (X.heap.size=w.heap.size+1):=by show _=_;rw[<-HX.out];simp
 have x0:X.cell? ⟨w.heap.size,0,none⟩=some (l u a):=by rw[<-HX.out];go_simp
 have x1:X.cell? ⟨w.heap.size,1,none⟩=some (l u b):=by rw[<-HX.out];go_simp
 have x2:X.cell? ⟨w.heap.size,2,none⟩=some (l u c):=by rw[<-HX.out];go_simp
 have x3:X.cell? ⟨w.heap.size,3,none⟩=some (l u d):=by rw[<-HX.out];go_simp
 have KX:Hid (K w.heap.size w X):=by rw[<-HX.out];show K _ _ _;go_grown
 have RX:=hd (HR.out.below KX.out);clear HX HR;have H0:Hid (X.cell? ⟨w.heap.size,0,none⟩=some (l u a)/\X.cell? ⟨w.heap.size,1,none⟩=some (l u b)/\X.cell? ⟨w.heap.size,2,none⟩=some (l u c)/\X.cell? ⟨w.heap.size,3,none⟩=some (l u d)):=⟨x0,x1,x2,x3⟩;clear x0 x1 x2 x3;go_loopw [11] (fun i wr=> ∃(k m:Nat) (D:DataW Value),k<=n/\i= l u k/\m<=k/\wr.ownsMap prog 26 YM (w.heap.size+1) m D/\CmD D (ZM a b c d (clE C R S k))/\K X.heap.size X wr) (fun i _=>n-(intOf i).toNat)
 case atStart=>exact⟨0,0,_,Nat.zero_le _,rfl,Nat.le_refl _,(by have h9:=World.ownsMap_made X prog 26 YM;rw[ZX.out]at h9;exact h9),CmD.nil,by go_grown⟩
 case round=>
  obtain⟨k,m,D,hk,rfl,hm,h3,h8,h2⟩:=hrel;have HW:Hid (wr.ownsMap prog 26 YM (w.heap.size+1) m D):=h3;have HC:Hid (CmD D (ZM a b c d (clE C R S k))):=h8;have HB:Hid (K X.heap.size X wr):=h2;clear h3 h8;by_cases h4:k<n
  ·obtain⟨br,o,rfl,hl,c0,c1,c2,_⟩:=RX.out.2 k h4;obtain⟨y0,y1,y2,y3⟩:=H0.out;have hs:=h2.size;have zX:w.heap.size<X.heap.size:=by have:=ZX.out;omega
   have zr:w.heap.size<wr.heap.size:=by omega
   replace c0:=Qe h2 hl c0;replace c1:=Qe h2 hl c1;replace c2:=Qe h2 hl c2;replace y0:=Qe h2 (by omega) y0;replace y1:=Qe h2 (by omega) y1;replace y2:=Qe h2 (by omega) y2;replace y3:=Qe h2 (by omega) y3
   clear h2;have hl2:br<wr.heap.size:=Nat.lt_of_lt_of_le hl hs;have h0:(0:Int)<=(k:Int):=by omega
   have h1:(k:Int)<(n:Int):=by omega
   have HO:=Hc a b c d C R S k;go_wp2_with fail
   refine(BN a b c d (C k) (R k) _).mono ?_;rintro e w1 ⟨rfl,hb⟩;cases hq:inQ a b c d (C k) (R k)
   ·rw[hq,nG (by simp)]at HO;have h6:Hid (ZM a b c d (clE C R S (k+1))=ZM a b c d (clE C R S k)++ [⟨C k,R k,S k⟩]):=HO;have h5:Hid (w1.ownsMap prog 26 YM (w.heap.size+1) m D):=Vp (HW.out.alloc _) hb;have h7:Hid (K X.heap.size X w1):=(HB.out.alloc hs _).trans (hb.mono (by go_size));have z1:wr.heap.size<w1.heap.size:=Nat.lt_of_lt_of_le (by go_size) hb.size;have d0:w1.cell? ⟨wr.heap.size,0,none⟩=some (l u (C k)):=Qe hb (by go_size) (by go_simp);have d1:w1.cell? ⟨wr.heap.size,1,none⟩=some (l u (R k)):=Qe hb (by go_size) (by go_simp)
    have d2:w1.cell? ⟨wr.heap.size,2,none⟩=some (N (S k)):=Qe hb (by go_size) (by go_simp);clear hb HO hq HW HB
    go_wp2_with (first
     | (at_mapUpdate;refine wpList_mapUpdate_own _ rfl _ _ _ 90 rfl 26 70 keyedRef underlying90 YM (w.heap.size+1) m _ rfl h5.out (by unfold maxLen;omega) _ _ (kl k) rfl rfl (HK.out k h4) _ [] rfl ?_;intro w2 hown1 hgrow1)
     | go_in)
    have R2:K X.heap.size X w2:=Below.grown h7.out hgrow1 (by omega) (fun j hj=>by cases hj;have:=ZX.out;omega)
    have C2:CmD (D.put (kl k) (.held (je #[l u (C k),l u (R k),N (S k)]))) (ZM a b c d (clE C R S (k+1))):=by
     have h9:=HC.out.on h5.out.isMap (x:=⟨C k,R k,S k⟩) (HK.out k h4);rw[Qec (fun i hi=>HA.out i k hi h4)]at h9;rw[h6.out];exact h9
    go_roundw
    case rel=>exact⟨k+1,m+1,_,by omega,by go_num,by omega,hown1,C2,R2⟩
    case measure=>simp[intOf];omega
   ·rw[hq,pS rfl,List.append_nil]at HO;have h6:Hid (ZM a b c d (clE C R S (k+1))=ZM a b c d (clE C R S k)):=HO;have h5:Hid (w1.ownsMap prog 26 YM (w.heap.size+1) m D):=Vp (HW.out.alloc _) hb;have h7:Hid (K X.heap.size X w1):=(HB.out.alloc hs _).trans (hb.mono (by go_size));clear hb HO hq HW HB;go_wp2_with fail
    go_roundw
    case rel=>exact⟨k+1,m,D,by omega,by go_num,by omega,h5.out,by rw[h6.out];exact HC.out,h7.out⟩
    case measure=>simp[intOf];omega
  ·have h1: ¬(k:Int)<(n:Int):=by omega
   obtain rfl:k=n:=by omega
   go_wp2_with fail
   refine G (v:= .map (some (w.heap.size+1))) ?_ rfl ⟨w.heap.size+1,rfl,by omega,m,D,HW.out,HC.out,KX.out.trans (HB.out.mono (by have:=ZX.out;omega)),hm⟩;simp (maxDischargeDepth:=9) [I,results53,go_sem, *]
def Na(a b c d:Int)(C R:Nat->Int)(S:Nat->ByteArray)(n:Nat):Option (List CL):=if Ql a b c d=true then some (ZM a b c d (clE C R S n))else none
theorem Uk(a b c d:Int)(C R:Nat->Int)(S:Nat->ByteArray)(n:Nat):(ZM a b c d (clE C R S n)).length<=n:=by
 have h:=List.length_filter_le (fun y:CL=> !inQ a b c d y.c y.r) (clE C R S n);rw[Yy]at h;exact h
theorem Qcn{M:List CL}(h:M.Pairwise (fun a b=>ltC a b=true))(hr: ∀z∈M,Qf z.c z.r=true):Gw (XH M) (XG M) M.length=true:=by
 refine List.all_eq_true.2 fun i hi=> ?_;have h1:=List.mem_range.1 hi;unfold Zs;have e1:XH M i=M[i].c/\XG M i=M[i].r:=by unfold XH XG;rw[List.getElem?_eq_getElem h1];exact⟨rfl,rfl⟩
 rw[H];refine⟨by rw[e1.1,e1.2];exact hr _ (List.getElem_mem h1),?_⟩;by_cases h0:i=0
 ·simp[h0]
 ·have e2:XH M (i-1)=(M[i-1]'(by omega)).c/\XG M (i-1)=(M[i-1]'(by omega)).r:=by unfold XH XG;rw[List.getElem?_eq_getElem (by omega)];exact⟨rfl,rfl⟩
  rw[Bool.or_eq_true];refine Or.inr ?_;rw[e1.1,e1.2,e2.1,e2.2];exact List.pairwise_iff_getElem.1 h (i-1) i (by omega) h1 (by omega)
theorem VE{M:List CL}{j:Nat}(hj:j<M.length):XH M j=M[j].c/\XG M j=M[j].r/\XT M j=M[j].s:=by
 unfold XH XG XT;rw[List.getElem?_eq_getElem hj];exact⟨rfl,rfl,rfl⟩
theorem Ns{C R:Nat->Int}{S:Nat->ByteArray}{p q:Int}: ∀n:Nat,(∀i,i<n-> ¬(C i=p/\R i=q))->Qfy C R S p q n=⟨#[]⟩
 | 0,_=>rfl
 | n+1,h=>by rw[Qfy,nG (h n (by omega)),Ns n (fun i hi=>h i (by omega))]
theorem Qkn{M:List CL}(h:M.Pairwise (fun a b=>ltC a b=true)){k:Nat}(hk:k<M.length): ∀m,k<m->m<=M.length->Qfy (XH M) (XG M) (XT M) (XH M k) (XG M k) m=XT M k:=by
 intro m;induction m with
 | zero=>intro h1;omega
 | succ m ih=>
  intro h1 h2;by_cases e:k=m
  ·subst e;rw[Qfy,pS ⟨rfl,rfl⟩]
  ·have h3:=List.pairwise_iff_getElem.1 h k m hk (by omega) (by omega);have c1:=VE hk;have c2:=VE (show m<M.length by omega);simp only[ltC,YL,decide_eq_true_eq]at h3;rw[Qfy,nG (by rw[c1.1,c1.2.1,c2.1,c2.2.1];omega)];exact ih (by omega) (by omega)
theorem Qh5{M:List CL}(h:M.Pairwise (fun a b=>ltC a b=true)){z:CL}(hz:z∈M):Qfy (XH M) (XG M) (XT M) z.c z.r M.length=z.s:=by
 obtain⟨j,hj,rfl⟩:=List.mem_iff_getElem.1 hz;have c1:=VE hj;have h9:=Qkn h hj M.length hj (Nat.le_refl _);rw[c1.1,c1.2.1,c1.2.2]at h9;exact h9
theorem Qlc{a b c d:Int}{E:List CL}{z:CL}:z∈ZM a b c d E↔z∈E/\inQ a b c d z.c z.r=false:=by
 unfold ZM;rw[List.mem_filter];simp
theorem Qeb(a b c d:Int)(E:List CL):ZM a b c d (ZM a b c d E)=ZM a b c d E:=by
 unfold ZM;rw[List.filter_filter];simp
structure ClrM (a b c d:Int) (C R:Nat->Int) (S:Nat->ByteArray) (n:Nat) (M:List CL):Prop where
 ok:QA (XH M) (XG M) (XT M) M.length=true
 at_: ∀i,i<n->Qxn (XH M) (XG M) (XT M) M.length (C i) (R i)=if inQ a b c d (C i) (R i)=true then⟨#[]⟩else S i
 len:M.length<=n
 again:ZM a b c d M=M
 sub: ∀z∈M,∃i,i<n/\z=⟨C i,R i,S i⟩
theorem Qmz{a b c d:Int}{C R:Nat->Int}{S:Nat->ByteArray}{n:Nat}(h:QA C R S n=true):ClrM a b c d C R S n (ZM a b c d (clE C R S n)):=by
 obtain⟨r0,r1,r2⟩:=Yj h
 have hv: ∀i,i<n->YA S i=true:=by
  unfold QA at h;simp only[H]at h;exact fun i hi=>List.all_eq_true.1 h.2 i (List.mem_range.2 hi)
 have h2:=Uk a b c d C R S n;have h6:=Qeb a b c d (clE C R S n);obtain⟨M,HM⟩: ∃M,ZM a b c d (clE C R S n)=M:=⟨_,rfl⟩;have h1: ∀z,z∈M↔z∈clE C R S n/\inQ a b c d z.c z.r=false:=fun z=>by rw[<-HM];exact Qlc
 have h3:M.Pairwise (fun a b=>ltC a b=true):=by rw[<-HM];exact r2.filter _
 rw[HM]at h2 h6 ⊢
 have h0: ∀z∈M,∃i,i<n/\z=⟨C i,R i,S i⟩:=fun z hz=>by
  obtain⟨i,hi,rfl⟩:=List.mem_map.1 ((h1 z).1 hz).1;exact⟨i,List.mem_range.1 hi,rfl⟩
 have h4:QA (XH M) (XG M) (XT M) M.length=true:=by
  refine Uu (by omega) (Qcn h3 (fun z hz=> ?_)) (List.all_eq_true.2 fun i hi=> ?_)
  ·obtain⟨i,hi,rfl⟩:=h0 z hz;exact r1 i hi
  ·have h5:=List.mem_range.1 hi;have c1:=VE h5;obtain⟨j,hj,e⟩:=h0 _ (List.getElem_mem h5);have h9:=hv j hj;unfold YA at h9 ⊢;rw[c1.2.2,e];exact h9
 refine⟨h4,fun i hi=> ?_,h2,h6,h0⟩;unfold Qxn;rw[h4,pS rfl];cases hq:inQ a b c d (C i) (R i)with
 | true=>
  rw[pS rfl];refine Ns _ (fun j hj e=> ?_);have c1:=VE hj;have h9:=((h1 _).1 (List.getElem_mem hj)).2;rw[<-c1.1,<-c1.2.1,e.1,e.2,hq]at h9;cases h9
 | false=>
  rw[nG (by simp)];exact Qh5 h3 (z:=⟨C i,R i,S i⟩) ((h1 _).2 ⟨List.mem_map.2 ⟨i,List.mem_range.2 hi,rfl⟩,hq⟩)
end Go.Proofs.YtomadadmakdkgaaGreatDoor
namespace Go.Proofs.YtomadadmakdkgaaGreatDoor
open Go.RowKit Go.Maps
def okC(y:CL):Bool:=Qf y.c y.r&&(!y.s.toList.isEmpty&&Vn y.s)
theorem Qog{C R:Nat->Int}{S:Nat->ByteArray}{n:Nat}(h:QA C R S n=true): ∀y∈clE C R S n,Qf y.c y.r=true/\y.s.toList.isEmpty=false/\Vn y.s=true:=fun y hy=>by
 obtain⟨_,hrf,_⟩:=Yj h;obtain⟨i,hi,rfl⟩:=List.mem_map.1 hy;have hi:=List.mem_range.1 hi;unfold QA at h;simp only[H]at h;have h9:=List.all_eq_true.1 h.2 i (List.mem_range.2 hi);unfold YA at h9
 simp only[H,jb]at h9;exact⟨hrf i hi,h9.1,h9.2⟩
theorem Qjk{M:List CL}(hp:M.Pairwise (fun a b=>ltC a b=true)):QA (XH M) (XG M) (XT M) M.length=(decide (M.length<=120)&&M.all okC):=by
 rw[Y];constructor
 ·intro h;obtain⟨h1,h2,_⟩:=Yj h;unfold QA at h;simp only[H]at h;rw[H];refine⟨decide_eq_true h1,List.all_eq_true.2 fun y hy=> ?_⟩;obtain⟨i,hi,rfl⟩:=List.getElem_of_mem hy
  obtain⟨e1,e2,e3⟩:=VE hi;have h9:=List.all_eq_true.1 h.2 i (List.mem_range.2 hi);have h8:=h2 i hi;unfold YA at h9;rw[e3]at h9;rw[e1,e2]at h8;unfold okC
  rw[h8,h9];rfl
 ·intro h;rw[H,decide_eq_true_eq]at h;have h2:=List.all_eq_true.1 h.2;refine Uu h.1 (Qcn hp fun z hz=> ?_) (List.all_eq_true.2 fun i hi=> ?_)
  ·have h9:=h2 z hz;unfold okC at h9;rw[H]at h9;exact h9.1
  ·have h0:=List.mem_range.1 hi;have h9:=h2 _ (List.getElem_mem h0);unfold okC at h9;rw[H]at h9;unfold YA;rw[(VE h0).2.2];exact h9.2
def rF(cl:Bool)(d e:Int):Xy:=if cl=true then Zi d e else Zw d e
def rG(cl:Bool)(d e:Int):Xy:=if cl=true then Zh d e else Zv d e
def rI(cl:Bool)(r d e:Int):Int:=if cl=true then clI r d e d else opI r d e
def inR(d e r:Int):Bool:=decide (d<=r)&&decide (r<d+e)
def mvC(cl:Bool)(d e:Int)(y:CL):CL:=⟨y.c,rI cl y.r d e,rwS (rF cl d e) (rG cl d e) y.s⟩
def rwP(cl:Bool)(d e:Int)(E:List CL):List CL:=(E.filter (fun y=> !(cl&&inR d e y.r))).map (mvC cl d e)
def rwG(cl:Bool)(d e:Int)(E:List CL):Bool:=(E.filter (fun y=> !(cl&&inR d e y.r))).all (fun y=>Qf y.c (rI cl y.r d e)&&rwB (rF cl d e) (rG cl d e) y.s)
theorem Qcf(cl:Bool)(d e:Int)(C R:Nat->Int)(S:Nat->ByteArray)(k:Nat):rwP cl d e (clE C R S (k+1))=rwP cl d e (clE C R S k)++(if(cl&&inR d e (R k))=true then []else [mvC cl d e ⟨C k,R k,S k⟩]):=by
 unfold rwP;rw[Uv,List.filter_append,List.map_append];congr 1
 cases h:(cl&&inR d e (R k))<;>simp[List.filter,h]
theorem Qcg(cl:Bool)(d e:Int)(C R:Nat->Int)(S:Nat->ByteArray)(k:Nat):rwG cl d e (clE C R S (k+1))=(rwG cl d e (clE C R S k)&&((cl&&inR d e (R k)) || (Qf (C k) (rI cl (R k) d e)&&rwB (rF cl d e) (rG cl d e) (S k)))):=by
 unfold rwG;rw[Uv,List.filter_append,List.all_append];congr 1
 cases h:(cl&&inR d e (R k))<;>simp[List.filter,h]
theorem Ho{cl:Bool}{d e:Int}{C R:Nat->Int}{S:Nat->ByteArray}{k n:Nat}(hk:k<n)(h1:(cl&&inR d e (R k))=false)(h:(Qf (C k) (rI cl (R k) d e)&&rwB (rF cl d e) (rG cl d e) (S k))=false):rwG cl d e (clE C R S n)=false:=by
 unfold rwG;rw[List.all_eq_false];refine⟨⟨C k,R k,S k⟩,List.mem_filter.2 ⟨List.mem_map.2 ⟨k,List.mem_range.2 hk,rfl⟩,?_⟩,?_⟩
 ·simp only;rw[h1];rfl
 ·simp only;rw[h];simp
theorem Qf3(cl:Bool)(d e:Int)(C R:Nat->Int)(S:Nat->ByteArray)(n:Nat):(rwP cl d e (clE C R S n)).length<=n:=by
 unfold rwP;rw[List.length_map];have h:=List.length_filter_le (fun y:CL=> !(cl&&inR d e y.r)) (clE C R S n);rw[Yy]at h;exact h
theorem Qux{cl:Bool}{d e:Int}{E:List CL}(he:1<=e)(h:E.Pairwise (fun a b=>ltC a b=true)):(rwP cl d e E).Pairwise (fun a b=>ltC a b=true):=by
 unfold rwP;rw[List.pairwise_map];refine List.Pairwise.imp_of_mem (fun{a b} ha hb hab=> ?_) (h.filter _);have h1:=(List.mem_filter.1 ha).2;have h2:=(List.mem_filter.1 hb).2;have h3:=of_decide_eq_true hab;show decide _=true
 refine decide_eq_true ?_;show rI cl a.r d e<rI cl b.r d e\/rI cl a.r d e=rI cl b.r d e/\a.c<b.c;cases cl with
 | false=>unfold rI opI;simp only[Bool.false_eq_true,if_false];split<;>split<;>omega
 | true=>
  simp only[Bool.true_and,jb]at h1 h2;unfold inR at h1 h2;rw[Bool.and_eq_false_iff,decide_eq_false_iff_not,decide_eq_false_iff_not]at h1 h2;unfold rI clI;simp only[if_true];split<;>split<;>(try split)<;>(try split)<;>omega
theorem Qyk{cl:Bool}{d e:Int}{y:CL}(h1:y.s.toList.isEmpty=false)(h2:Vn y.s=true):okC (mvC cl d e y)=(Qf y.c (rI cl y.r d e)&&rwB (rF cl d e) (rG cl d e) y.s):=by
 unfold okC mvC;simp only;rw[Qfe h1,Qto h2];rfl
theorem Qxy{α:Type}{p q:α->Bool}: ∀{L:List α},(∀y∈L,p y=q y)->L.all p=L.all q
 | [],_=>rfl
 | x::L,h=>by rw[List.all_cons,List.all_cons,h x (List.mem_cons_self),Qxy fun y hy=>h y (List.mem_cons_of_mem _ hy)]
theorem Qyh{cl:Bool}{d e:Int}{C R:Nat->Int}{S:Nat->ByteArray}{n:Nat}(h:QA C R S n=true)(he:1<=e):QA (XH (rwP cl d e (clE C R S n))) (XG (rwP cl d e (clE C R S n))) (XT (rwP cl d e (clE C R S n))) (rwP cl d e (clE C R S n)).length=rwG cl d e (clE C R S n):=by
 obtain⟨h0,_,hr⟩:=Yj h;have hl:=Qf3 cl d e C R S n;rw[Qjk (Qux he hr),decide_eq_true (by omega),Bool.true_and];unfold rwP rwG;rw[List.all_map]
 exact Qxy fun y hy=>by
  obtain⟨_,h2,h3⟩:=Qog h y (List.mem_filter.1 hy).1;exact Qyk h2 h3
theorem Qt2{cl:Bool}{d e:Int}{E:List CL}(h: ∀y∈E,y.s.size<=maxLen): ∀y∈rwP cl d e E,y.s.size<=maxLen:=fun y hy=>by
 obtain⟨z,hz,rfl⟩:=List.mem_map.1 hy;exact Qtr (h z (List.mem_filter.1 hz).1)
def cpC(dc dr:Int)(y:CL):CL:=⟨y.c+dc,y.r+dr,rwS (Qi dc dr) (Qh dc dr) y.s⟩
def cpF(a b c d dc dr:Int)(L0 E:List CL):List CL:=(E.filter (fun y=>inQ a b c d y.c y.r)).foldl (fun L y=>Xj (cpC dc dr y) L) L0
def cpG(a b c d dc dr:Int)(E:List CL):Bool:=(E.filter (fun y=>inQ a b c d y.c y.r)).all (fun y=>rwB (Qi dc dr) (Qh dc dr) y.s)
theorem Ut(a b c d dc dr:Int)(L0:List CL)(C R:Nat->Int)(S:Nat->ByteArray)(k:Nat):cpF a b c d dc dr L0 (clE C R S (k+1))=if inQ a b c d (C k) (R k)=true then Xj (cpC dc dr ⟨C k,R k,S k⟩) (cpF a b c d dc dr L0 (clE C R S k))else cpF a b c d dc dr L0 (clE C R S k):=by
 unfold cpF;rw[Uv,List.filter_append,List.foldl_append];cases h:inQ a b c d (C k) (R k)<;>simp[List.filter,h]
theorem Qoc{a b c d dc dr:Int}{C R:Nat->Int}{S:Nat->ByteArray}{k n:Nat}(hk:k<n)(h1:inQ a b c d (C k) (R k)=true)(h:rwB (Qi dc dr) (Qh dc dr) (S k)=false):cpG a b c d dc dr (clE C R S n)=false:=by
 unfold cpG;rw[List.all_eq_false];exact⟨⟨C k,R k,S k⟩,List.mem_filter.2 ⟨List.mem_map.2 ⟨k,List.mem_range.2 hk,rfl⟩,h1⟩,by simp only;rw[h];simp⟩
theorem Qr5{a b c d dc dr:Int}{C R:Nat->Int}{S:Nat->ByteArray}{n:Nat}(h: ∀k,k<n->inQ a b c d (C k) (R k)=true->rwB (Qi dc dr) (Qh dc dr) (S k)=true):cpG a b c d dc dr (clE C R S n)=true:=by
 unfold cpG;refine List.all_eq_true.2 fun y hy=> ?_;obtain⟨hy,hq⟩:=List.mem_filter.1 hy;obtain⟨k,hk,rfl⟩:=List.mem_map.1 hy;exact h k (List.mem_range.1 hk) hq
theorem Qak{dc dr:Int}: ∀{Z L:List CL},L.Pairwise (fun a b=>ltC a b=true)->(Z.foldl (fun L y=>Xj (cpC dc dr y) L) L).Pairwise (fun a b=>ltC a b=true)
 | [],_,h=>h
 | z::Z,L,h=>Qak (Z:=Z) (Mb h)
theorem Qh7{x:CL}{E:List CL}{y:CL}(h:y∈Xj x E):y∈E\/y=x:=by
 have h9:=(Yp x E).mem_iff.1 h;split at h9
 ·exact .inl (List.mem_filter.1 h9).1
 ·rcases List.mem_append.1 h9 with h9 | h9
  ·exact .inl (List.mem_filter.1 h9).1
  ·exact .inr (List.mem_singleton.1 h9)
theorem OP{dc dr:Int}{y:CL}: ∀{Z L:List CL},y∈Z.foldl (fun L y=>Xj (cpC dc dr y) L) L->y∈L\/ ∃z∈Z,y=cpC dc dr z
 | [],_,h=> .inl h
 | z::Z,L,h=>by
  rcases OP (Z:=Z) h with h | ⟨z',hz,e⟩
  ·rcases Qh7 h with h | h
   ·exact .inl h
   ·exact .inr ⟨z,List.mem_cons_self,h⟩
  ·exact .inr ⟨z',List.mem_cons_of_mem _ hz,e⟩
theorem BO{dc dr:Int}{y:CL}: ∀{Z L:List CL},y∈L->(∀z∈Z,¬(y.c=(cpC dc dr z).c/\y.r=(cpC dc dr z).r))->y∈Z.foldl (fun L y=>Xj (cpC dc dr y) L) L
 | [],_,h,_=>h
 | z::Z,L,h,hn=>by
  refine BO (Z:=Z) ?_ fun z' hz'=>hn z' (List.mem_cons_of_mem _ hz');refine(Yp _ L).mem_iff.2 ?_;have h9:y∈Kg (cpC dc dr z).c (cpC dc dr z).r L:=List.mem_filter.2 ⟨h,by rw[decide_eq_false (hn z List.mem_cons_self)];rfl⟩;split
  ·exact h9
  ·exact List.mem_append_left _ h9
theorem Qc1{dc dr:Int}: ∀{Z L:List CL},Z.Pairwise (fun a b=>ltC a b=true)->(∀z∈Z,z.s.toList.isEmpty=false)-> ∀z∈Z,cpC dc dr z∈Z.foldl (fun L y=>Xj (cpC dc dr y) L) L
 | [],_,_,_,z,hz=>by cases hz
 | x::Z,L,hp,hn,z,hz=>by
  rw[List.pairwise_cons]at hp;rcases List.mem_cons.1 hz with rfl | hz
  ·refine BO (Z:=Z) ?_ fun z' hz' e=> ?_
   ·refine(Yp _ L).mem_iff.2 ?_;have h9:(cpC dc dr z).s.toList.isEmpty=false:=Qfe (hn z List.mem_cons_self);rw[nG (by rw[h9];decide)];exact List.mem_append_right _ (List.mem_singleton.2 rfl)
   ·have h9:=of_decide_eq_true (hp.1 z' hz');simp only[cpC]at e;omega
  ·exact Qc1 (Z:=Z) hp.2 (fun z' hz'=>hn z' (List.mem_cons_of_mem _ hz')) z hz
theorem Qxe{a b c d dc dr:Int}{C R:Nat->Int}{S:Nat->ByteArray}{n:Nat}(h:QA C R S n=true)(ha:Ql (a+dc) (b+dr) (c+dc) (d+dr)=true){M:List CL}(hM:cpF a b c d dc dr (ZM (a+dc) (b+dr) (c+dc) (d+dr) (clE C R S n)) (clE C R S n)=M):
  M.Pairwise (fun a b=>ltC a b=true)/\QA (XH M) (XG M) (XT M) M.length=(decide (M.length<=120)&&cpG a b c d dc dr (clE C R S n)):=by
 obtain⟨h0,_,hr⟩:=Yj h;have h5:=Qog h;have hp:M.Pairwise (fun a b=>ltC a b=true):=by rw[<-hM];exact Qak (hr.filter _)
 refine⟨hp,?_⟩;rw[Qjk hp];congr 1
 have hc: ∀z∈(clE C R S n).filter (fun y=>inQ a b c d y.c y.r),okC (cpC dc dr z)=rwB (Qi dc dr) (Qh dc dr) z.s:=fun z hz=>by
  obtain⟨h7,h6⟩:=List.mem_filter.1 hz;obtain⟨_,h2,h3⟩:=h5 z h7;unfold okC cpC;simp only;rw[Qfe h2,Qto h3]
  have h4:Qf (z.c+dc) (z.r+dr)=true:=by
   unfold inQ at h6;simp only[H,decide_eq_true_eq]at h6;obtain⟨r1,r2⟩:=Jb ha;unfold Qf at r1 r2 ⊢;simp only[decide_eq_true_eq]at r1 r2 ⊢;omega
  rw[h4];rfl
 rw[Y];constructor
 ·intro hall;unfold cpG;refine List.all_eq_true.2 fun z hz=> ?_;rw[<-hc z hz];refine List.all_eq_true.1 hall _ ?_;rw[<-hM];exact Qc1 (hr.filter _) (fun z' hz'=>(h5 z' (List.mem_filter.1 hz').1).2.1) z hz
 ·intro hg;refine List.all_eq_true.2 fun y hy=> ?_;rw[<-hM]at hy;rcases OP hy with hy | ⟨z,hz,rfl⟩
  ·obtain⟨h1,h2,h3⟩:=h5 y (List.mem_filter.1 hy).1;unfold okC;rw[h1,h2,h3];rfl
  ·rw[hc z hz];exact List.all_eq_true.1 hg z hz
theorem Qs1{a b c d dc dr:Int}{L E:List CL}(h0: ∀y∈L,y.s.size<=maxLen)(h: ∀y∈E,y.s.size<=maxLen): ∀y∈cpF a b c d dc dr L E,y.s.size<=maxLen:=fun y hy=>by
 rcases OP hy with hy | ⟨z,hz,rfl⟩
 ·exact h0 y hy
 ·exact Qtr (h z (List.mem_filter.1 hz).1)
theorem Qhj(a b c d dc dr:Int)(L0 E:List CL):(cpF a b c d dc dr L0 E).length<=L0.length+E.length:=by
 unfold cpF
 have hs: ∀(Z L:List CL),(Z.foldl (fun L y=>Xj (cpC dc dr y) L) L).length<=L.length+Z.length:=fun Z=>by
  induction Z with
  | nil=>intro L;exact Nat.le_refl _
  | cons z Z ih=>
   intro L;have h1:=ih (Xj (cpC dc dr z) L)
   have h2:(Xj (cpC dc dr z) L).length<=L.length+1:=by
    rw[(Yp _ L).length_eq];have h9:(Kg (cpC dc dr z).c (cpC dc dr z).r L).length<=L.length:=List.length_filter_le _ _;split
    ·omega
    ·simp;omega
   simp only[List.foldl_cons,List.length_cons];omega
 have h1:=hs (E.filter (fun y=>inQ a b c d y.c y.r)) L0;have h2:=List.length_filter_le (fun y:CL=>inQ a b c d y.c y.r) E;omega
end Go.Proofs.YtomadadmakdkgaaGreatDoor
