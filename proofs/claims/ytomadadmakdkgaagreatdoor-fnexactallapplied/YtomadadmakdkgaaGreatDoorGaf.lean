import Derived.Test.YtomadadmakdkgaaGreatDoorMn
import Derived.Test.YtomadadmakdkgaaGreatDoorGae
import Derived.Test.YtomadadmakdkgaaGreatDoorFnDE
import Derived.Test.YtomadadmakdkgaaGreatDoorGzd
import Derived.Test.YtomadadmakdkgaaGreatDoorGab
open Go.Proofs.Tryz
open Go.Value renaming int → c, bool → B, slice → C, string → J, agg → K
open Go.IntKind renaming i64 → g
open Go.Ending renaming returned → r
open Bool renaming eq_iff_iff → D
open Option renaming map_some → E
open Go renaming Calls → H
open Option.some renaming injEq → I
set_option linter.unusedSimpArgs false
set_option linter.unusedVariables false
set_option maxHeartbeats 8000000
set_option maxRecDepth 100000
namespace Go.Proofs.YtomadadmakdkgaaGreatDoor
open Go.RowKit
variable {F:Nat->FN} {n cap mode:Nat} {A:Option Addr} {ks:List Int} {arr:Nat->Int} {a lv:Int} {G:Nat->List Int} {l l':List UInt8} {N:Type}
def Nb(F:Nat->FN)(n:Nat):Bool:=(List.range n).all fun i=>(F i).kids.all fun k=> !(decide ((F k.toNat).k=3)&& !decide ((F i).k=6))
theorem Qat{i:Nat}{k:Int}(hi:i<n)(hk:k∈(F i).kids)(h3:(F k.toNat).k=3)(h6: ¬(F i).k=6):Nb F n=false:=by
 unfold Nb;rw[List.all_eq_false];refine⟨i,List.mem_range.2 hi,?_⟩;rw[Bool.not_eq_true,List.all_eq_false];exact⟨k,hk,by simp[h3,h6]⟩
theorem Qdf(h: ∀i,i<n-> ∀k∈(F i).kids,¬((F k.toNat).k=3/\ ¬(F i).k=6)):Nb F n=true:=by
 unfold Nb;rw[List.all_eq_true];intro i hi;rw[List.all_eq_true];intro k hk;have:=h i (List.mem_range.1 hi) k hk;by_cases h3:(F k.toNat).k=3
 ·by_cases h6:(F i).k=6
  ·simp[h6]
  ·exact absurd ⟨h3,h6⟩ this
 ·simp[h3]
theorem GM(w:World)(HR:Hid (FnRow w A (n+1) F))(hn:n+1<=60)(hkn: ∀i,i<n+1->(F i).kids.length<=1048576)(HG:Hid (QT (fun j=>(F j).kids) (n+1))):
  H prog 158 #[C A (n+1:Nat) cap] w fun e w'=>e= r (B (Nb F (n+1)&& !decide ((F n).k=3)))/\Below w.heap.size w w':=by
 have G0:Hid (∀i,i<n+1->(F i).kids.length<=1048576):=hkn;clear hkn;obtain⟨N,HN⟩: ∃N,Hid (n+1=N):=⟨_,rfl⟩;rw[HN.out]at HR HG G0 hn ⊢;go_enter func158,ntmps158;go_wp2_with fail
 go_loopw [9] (fun i wr=> ∃(k:Nat),k<=N/\i= c g k/\(∀i,i<k-> ∀x∈(F i).kids,¬((F x.toNat).k=3/\ ¬(F i).k=6))/\Below w.heap.size w wr) (fun i _=>N-(intOf i).toNat)
 case atStart=>exact⟨0,Nat.zero_le _,rfl,fun i hi=>by omega,Below.refl _ _⟩
 case round=>
  obtain⟨k,hk,rfl,g8,h2⟩:=hrel;have G2:Hid (∀i,i<k-> ∀x∈(F i).kids,¬((F x.toNat).k=3/\ ¬(F i).k=6)):=g8;clear g8;by_cases H0:k<N
  ·obtain⟨b,o,KA,kc,rfl,hl,g6,H5,hs⟩:=HR.out.2 k H0;obtain⟨c0,c1,c2,c3,c4,c5,c6,c7,c8,c9,G7,G6,G5,H9⟩:=g6.below hl (W':=wr) h2;have hll:b<wr.heap.size:=Nat.lt_of_lt_of_le hl h2.size;obtain⟨ks,H1⟩: ∃ks,Hid ((F k).kids=ks):=⟨_,rfl⟩;have g7:=G0.out k H0;rw[H1.out]at H9 H5 g7;have G8:Hid (IntRow w KA ks):=H5
   obtain⟨kl,g0⟩: ∃kl,Hid (ks.length=kl):=⟨_,rfl⟩;rw[g0.out]at H9 g7;have HB:Hid (Below w.heap.size w wr):=h2;have G1:Hid (w.heap.size<=wr.heap.size):=h2.size;clear g6 H5 h2;have h0:(0:Int)<=(k:Int):=by omega
   have h1:(k:Int)<(N:Int):=by omega
   go_wp2_with fail
   go_loopw [16] (fun j wi=> ∃(t:Nat),t<=kl/\j= c g t/\(∀s,s<t-> ¬((F (ks.getD s 0).toNat).k=3/\ ¬(F k).k=6))/\Below w.heap.size w wi/\w.heap.size<wi.heap.size/\wr.heap.size<wi.heap.size/\wi.cell? ⟨wr.heap.size,0,none⟩=some (c g (F k).k)) (fun j _=>kl-(intOf j).toNat)
   case atStart=>exact⟨0,Nat.zero_le _,rfl,fun s hs=>by omega,by have hb:=HB.out;have hbs:=G1.out;go_grown,by have:=G1.out;simp;omega,by simp,by simp⟩
   case round=>
    clear c0 c1 c2 c3 c4 c5 c6 c7 c8 c9 G7 G6 G5 H9;obtain⟨t,ht,rfl,g4,h5,g3,g2,d0⟩:=hrel;have g9:Hid (∀s,s<t-> ¬((F (ks.getD s 0).toNat).k=3/\ ¬(F k).k=6)):=g4;clear g4;have H7:=h5.size;have H2:Hid (Below w.heap.size w wr):=h5;by_cases H4:t<kl
    ·have hs:t<ks.length:=by rw[g0.out];exact H4
     obtain⟨b',o',rfl,G4,e1⟩:=G8.out.2 t hs;rw[<-h5.cell (p:=⟨_,_,none⟩) G4]at e1;have h7:ks.getD t 0∈ks:=by rw[List.getD_eq_getElem?_getD,List.getElem?_eq_getElem hs];exact List.getElem_mem hs
     have hr:=HG.out k H0 (ks.getD t 0) (by show _∈(F k).kids;rw[H1.out];exact h7);obtain⟨a,HA⟩: ∃a:Nat,Hid (ks.getD t 0=(a:Int)):=⟨(ks.getD t 0).toNat,by show _=_;omega⟩;have hai:(a:Int)<(k:Int):=by rw[HA.out]at hr;exact hr.2
     rw[HA.out]at e1;clear hr;obtain⟨b'',o'',KB,kb,eA,h8,ck,H8,_⟩:=Vy HR.out a (by omega);cases eA
     rw[<-h5.cell (p:=⟨_,_,none⟩) h8]at H8;clear ck h5;have s0:(0:Int)<=(t:Int):=by omega
     have s1:(t:Int)<(kl:Int):=by omega
     have a0:(0:Int)<=(a:Int):=by omega
     have a1:(a:Int)<(N:Int):=by omega
     have lb:b<wr.heap.size:=Nat.lt_of_lt_of_le h8 H7;by_cases h3:(F a).k=3
     ·have e3:((F a).k==3)=true:=by simpa using h3
      by_cases h6:(F k).k=6
      ·have e6:((F k).k !=6)=false:=by simpa using h6
       have h4:Hid (∀s,s<t+1-> ¬((F (ks.getD s 0).toNat).k=3/\ ¬(F k).k=6)):=fun s _ h=>h.2 h6;have H6:Hid ((F k).k=6):=h6;have H3:Hid ((F a).k=3):=h3;clear h6 h3;go_wp2_with fail
       all_goals
        go_roundw
        case rel=>exact⟨t+1,by omega,by go_num,h4.out,H2.out,g3,g2,d0⟩
        case measure=>simp[intOf];omega
      ·have e6:((F k).k !=6)=true:=by simpa using h6
       have HF:Hid (Nb F (n+1)=false):=Qat (by rw[HN.out];exact H0) (by rw[H1.out];exact h7) (by rw[HA.out];simpa using h3) h6;have H6:Hid (¬(F k).k=6):=h6;have H3:Hid ((F a).k=3):=h3;clear h6 h3;go_wp2_with fail
       all_goals
        go_ret;exact⟨Qc (by rw[HN.out]at HF;rw[HF.out];rfl),H2.out⟩
     ·have e3:((F a).k==3)=false:=by simpa using h3
      have h4:Hid (∀s,s<t+1-> ¬((F (ks.getD s 0).toNat).k=3/\ ¬(F k).k=6)):=fun s hs' h=>by
       by_cases e:s=t
       ·subst e;rw[HA.out]at h;exact h3 (by simpa using h.1)
       ·exact g9.out s (by omega) h
      have H3:Hid (¬(F a).k=3):=h3;clear h3;go_wp2_with fail
      all_goals
       go_roundw
       case rel=>exact⟨t+1,by omega,by go_num,h4.out,H2.out,g3,g2,d0⟩
       case measure=>simp[intOf];omega
    ·have s1: ¬(t:Int)<(kl:Int):=by omega
     obtain rfl:t=kl:=by omega
     have g1:Hid (∀i,i<k+1-> ∀x∈(F i).kids,¬((F x.toNat).k=3/\ ¬(F i).k=6)):=fun i hi x hx=>by
      by_cases e:i=k
      ·subst e;rw[H1.out]at hx;obtain⟨s,g5,G3⟩:=List.getElem_of_mem hx;have h9:=g9.out s (by rw[<-g0.out];exact g5);rw[List.getD_eq_getElem?_getD,List.getElem?_eq_getElem g5]at h9;rw[<-G3];exact h9
      ·exact G2.out i (by omega) x hx
     clear h5;go_wp2_with fail
     go_roundw
     case rel=>exact⟨k+1,by omega,by go_num,g1.out,H2.out⟩
     case measure=>simp[intOf];omega
  ·have h1: ¬(k:Int)<(N:Int):=by omega
   obtain rfl:k=N:=by omega
   have HY:Hid (Nb F k=true):=Qdf G2.out;obtain⟨b,o,KA,kc,rfl,hl,ck,H8,_⟩:=Vy HR.out n (by have:=HN.out;omega);rw[<-h2.cell (p:=⟨_,_,none⟩) hl]at H8;have n0:(0:Int)<=(n:Int):=by omega
   have n1:(n:Int)<(k:Int):=by have:=HN.out;omega
   have n2:(k:Int)-1=(n:Int):=by have:=HN.out;omega
   have HE:Hid (((F n).k !=3)=(Nb F k&& !decide ((F n).k=3))):=by show _=_;rw[HY.out,D];simp
   have HB:Hid (Below w.heap.size w wr):=h2;clear h2 ck;go_wp2_with fail
   go_ret;exact⟨Qc HE.out,HB.out⟩
def JI(G:Nat->List Int)(n:Nat):Bool:=(Jt G (fun _=>0) n n).isSome
def VJ(arr:Nat->Int)(n:Nat):List Value:=(List.range n).map fun j=> c g (arr j)
theorem Hb(arr:Nat->Int)(n:Nat):(VJ arr n).length=n:=by simp[VJ]
theorem JT(arr:Nat->Int)(n j:Nat)(h:j<n):(VJ arr n)[j]? =some (c g (arr j)):=by
 simp[VJ,h]
theorem Qic(arr:Nat->Int)(n a:Nat)(x:Int)(h:a<n):(VJ arr n).set a (c g x)=VJ (fun j=>if j=a then x else arr j) n:=by
 apply List.ext_getElem?;intro j;by_cases hj:j<n
 ·by_cases e:a=j
  ·subst e;rw[List.getElem?_set_self (by rw[Hb];exact h),JT _ _ _ h,pS rfl]
  ·rw[List.getElem?_set_ne e,JT _ _ _ hj,JT _ _ _ hj,nG (fun h=>e h.symm)]
 ·rw[List.getElem?_eq_none (by simp[Hb];omega),List.getElem?_eq_none (by simp[Hb];omega)]
theorem Qd8(n:Nat):List.replicate n (Value.int .i64 0)=VJ (fun _=>0) n:=by
 apply List.ext_getElem?;intro j;by_cases hj:j<n
 ·rw[JT _ _ _ hj,List.getElem?_replicate,pS hj]
 ·rw[List.getElem?_eq_none (by simp;omega),List.getElem?_eq_none (by simp[Hb];omega)]
def Nc(ks:List Int)(arr:Nat->Int)(d:Int)(u:Nat):Nat->Int:=fun j=>if(j:Int)∈ks.take u then d else arr j
theorem Qjp{d:Int}{u a:Nat}(h:u<ks.length)(ha:ks.getD u 0=(a:Int)):(fun j=>if j=a then d else Nc ks arr d u j)=Nc ks arr d (u+1):=by
 funext j
 unfold Nc
 have e:ks.take (u+1)=ks.take u++ [(a:Int)]:=by
  rw[List.take_succ_eq_append_getElem h,<-ha,List.getD_eq_getElem?_getD,List.getElem?_eq_getElem h];rfl
 rw[e];by_cases h1:j=a
 ·rw[pS h1,pS (by subst h1;simp)]
 ·rw[nG h1];by_cases h2:(j:Int)∈ks.take u
  ·rw[pS h2,pS (List.mem_append_left _ h2)]
  ·rw[nG h2,nG];intro h3;rcases List.mem_append.1 h3 with h3 | h3
   ·exact h2 h3
   ·simp at h3;omega
theorem Qig{s:Nat}(hs:s<n)(h:Jt G (fun _=>0) n (n-(s+1))=some arr)(h12:12<=arr s):JI G n=false:=by
 have e:n=(n-(s+1))+(s+1):=by omega
 rw[JI];conv=>lhs;rw[show Jt G (fun _=>0) n n=Jt G (fun _=>0) n ((n-(s+1))+(s+1)) by rw[<-e]]
 rw[Ks,h];show(Jt G arr (n-(n-(s+1))) (s+1)).isSome=false;rw[show n-(n-(s+1))=s+1 by omega,Jt,show s+1-1=s by omega,Nr,pS h12];rfl
theorem Qif{s:Nat}(hs:s<n)(h:Jt G (fun _=>0) n (n-(s+1))=some arr)(h12: ¬12<=arr s):Jt G (fun _=>0) n (n-s)=some (fun j:Nat=>if(j:Int)∈G s then arr s+1 else arr j):=by
 rw[show n-s=(n-(s+1))+1 by omega,Ks,h];show Jt G arr (n-(n-(s+1))) 1=_;rw[show n-(n-(s+1))=s+1 by omega,Jt,show s+1-1=s by omega,Nr,nG h12];rfl
theorem Qlz:(prog.info? 3).map (fun i=>(i.zero,i.size,i.bytes))=some (some (c g 0),1,8):=by kernel_rfl
theorem MA(w:World)(HR:Hid (FnRow w A n F))(hn:n<=60)(hkn: ∀i,i<n->(F i).kids.length<=1048576)(HG:Hid (QT (fun j=>(F j).kids) n)):
  H prog 159 #[C A n cap] w fun e w'=>e= r (B (JI (fun j=>(F j).kids) n))/\Below w.heap.size w w':=by
 have g7:Hid (∀i,i<n->(F i).kids.length<=1048576):=hkn;clear hkn;obtain⟨i0,hi,g1,g0,H9⟩:=info_parts Qlz;go_enter func159,ntmps159;go_wp2_with (refine wpList_make_full _ rfl _ _ 185 rfl w.heap.size 3 i0 _ 1 underlying185 hi g1 g0 _ _ _ _ n rfl rfl rfl rfl ?m1 ?m2 ?m3 ?_)
 case m1=>rw[H9];omega
 case m2=>unfold maxLen;omega
 case m3=>exact Nat.le_refl _
 intro w1 h1 hgrow;have H4:Below w.heap.size w w1:=(Below.refl _ _).grown hgrow (Nat.le_refl _) (fun k hk=>by cases hk)
 have HO:Hid (w1.ownsRow w.heap.size 3 1 (C (some ⟨w.heap.size,0,none⟩) n n) n (VJ (fun _=>0) n)):=by
  show World.ownsRow _ _ _ _ _ _ _;rw[<-Qd8,<-toList_madeCells_one,<-Nat.mul_one n];simpa using h1
 clear hgrow h1;go_wp2_with fail
 go_loopw [4] (fun i wr=> ∃(t:Nat) (h0:Nat->Int),t<=n/\i= c g ((t:Int)-1)/\Jt (fun j=>(F j).kids) (fun _=>0) n (n-t)=some h0/\(∀j,0<=h0 j/\h0 j<=12)/\wr.ownsRow w.heap.size 3 1 (C (some ⟨w.heap.size,0,none⟩) n n) n (VJ h0 n)/\Below w.heap.size w wr) (fun i _=>(intOf i+1).toNat)
 case atStart=>exact⟨n,fun _=>0,Nat.le_refl _,rfl,by rw[Nat.sub_self];rfl,fun j=>by show(0:Int)<=0/\(0:Int)<=12;omega,HO.out,H4⟩
 case round=>
  clear HO H4;obtain⟨t,h0,ht,rfl,H2,H6,h1,h2⟩:=hrel;have h3:Hid (Jt (fun j=>(F j).kids) (fun _=>0) n (n-t)=some h0):=H2;have H8:Hid (∀j,0<=h0 j/\h0 j<=12):=H6;have HO:Hid (wr.ownsRow w.heap.size 3 1 (C (some ⟨w.heap.size,0,none⟩) n n) n (VJ h0 n)):=h1;have HB:Hid (Below w.heap.size w wr):=h2;clear H2 H6 h1
  match t,ht,h3 with
  | 0,ht,h3=>
   have HE:Hid (JI (fun j=>(F j).kids) n=true):=by show _=_;rw[JI,show Jt (fun j=>(F j).kids) (fun _=>0) n n=some h0 by simpa using h3.out];rfl
   clear h2;go_wp2_with fail
   go_ret;exact⟨Qc HE.out.symm,HB.out⟩
  | s+1,ht,h3=>
   obtain⟨b,o,KA,kc,rfl,hl,ck,g4,h7⟩:=Vy HR.out s (by omega);rw[<-h2.cell (p:=⟨_,_,none⟩) hl]at ck;obtain⟨ks,h6⟩: ∃ks,Hid ((F s).kids=ks):=⟨_,rfl⟩;have H3:=g7.out s (by omega);rw[h6.out]at ck h7 H3;have g8:Hid (IntRow w KA ks):=h7;obtain⟨kl,H0⟩: ∃kl,Hid (ks.length=kl):=⟨_,rfl⟩
   rw[H0.out]at ck H3;clear h7 g4 h2;obtain⟨A',h8,e,_,hc⟩:=Qr HO.out;cases e
   obtain⟨g',e',_,H5,d0,f0⟩:=hc s (by omega);cases e'
   rw[JT _ _ _ (by omega)]at d0;clear hc;obtain⟨x,HX⟩: ∃x,Hid (h0 s=x):=⟨_,rfl⟩;rw[HX.out]at d0;have H1:=H8.out s;rw[HX.out]at H1;obtain⟨hx1,hx2⟩:=H1
   have s0:(0:Int)<=(s:Int):=by omega
   have s1:(s:Int)<(n:Int):=by omega
   have s2:(s:Int)+1-1=(s:Int):=by omega
   by_cases H7:12<=x
   ·have HE:Hid (JI (fun j=>(F j).kids) n=false):=Qig (by omega) h3.out (by rw[HX.out];exact H7);go_wp2_with fail
    go_ret;exact⟨Qc HE.out.symm,HB.out⟩
   have g5:Hid (Jt (fun j=>(F j).kids) (fun _=>0) n (n-s)=some (Nc ks h0 (x+1) kl)):=by
    show _=_;rw[Qif (by omega) h3.out (by rw[HX.out];exact H7)];congr 1
    funext j
    show(if(j:Int)∈(F s).kids then h0 s+1 else h0 j)=_;rw[h6.out,HX.out,Nc,List.take_of_length_le (by rw[H0.out];exact Nat.le_refl _)]
   have g6:Hid (∀u,(s:Int)∉ks.take u):=fun u hm=>by
    have:=HG.out s (by omega) (s:Int) (by show _∈(F s).kids;rw[h6.out];exact List.mem_of_mem_take hm);omega
   go_wp2_with fail
   go_loopw [28] (fun j wi=> ∃(u:Nat),u<=kl/\j= c g u/\wi.ownsRow w.heap.size 3 1 (C (some ⟨w.heap.size,0,none⟩) n n) n (VJ (Nc ks h0 (x+1) u) n)/\Below w.heap.size w wi) (fun j _=>kl-(intOf j).toNat)
   case atStart=>exact⟨0,Nat.zero_le _,rfl,by rw[show Nc ks h0 (x+1) 0=h0 by funext j;simp[Nc]];exact HO.out,HB.out⟩
   case round=>
    clear d0 f0 H5 HO HB ck;obtain⟨u,hu,rfl,h1,h5⟩:=hrel;have HO:Hid (wr.ownsRow w.heap.size 3 1 (C (some ⟨w.heap.size,0,none⟩) n n) n (VJ (Nc ks h0 (x+1) u) n)):=h1;have HB:Hid (Below w.heap.size w wr):=h5;clear h1;by_cases g2:u<kl
    ·have hs:u<ks.length:=by rw[H0.out];exact g2
     obtain⟨b',o',rfl,g3,e1⟩:=g8.out.2 u hs;rw[<-h5.cell (p:=⟨_,_,none⟩) g3]at e1;have h4:ks.getD u 0∈ks:=by rw[List.getD_eq_getElem?_getD,List.getElem?_eq_getElem hs];exact List.getElem_mem hs
     have hr:=HG.out s (by omega) (ks.getD u 0) (by show _∈(F s).kids;rw[h6.out];exact h4);obtain⟨a,HA⟩: ∃a:Nat,Hid (ks.getD u 0=(a:Int)):=⟨(ks.getD u 0).toNat,by show _=_;omega⟩;have hai:(a:Int)<(s:Int):=by rw[HA.out]at hr;exact hr.2
     rw[HA.out]at e1;clear hr h4 h5;obtain⟨A',h8,e,_,hc⟩:=Qr HO.out;cases e
     obtain⟨g',e',_,H5,d0,f0⟩:=hc s (by omega);cases e'
     obtain⟨g',e',_,_,d1,f1⟩:=hc a (by omega);cases e'
     rw[JT _ _ _ (by omega)]at d0 d1;have ex:Nc ks h0 (x+1) u s=x:=by rw[Nc,nG (g6.out u),HX.out]
     rw[ex]at d0;obtain⟨y,HY⟩: ∃y,Hid (Nc ks h0 (x+1) u a=y):=⟨_,rfl⟩;rw[HY.out]at d1;clear hc ex
     have HT:Hid ((wr.setCell ⟨w.heap.size,a,none⟩ (c g (x+1))).ownsRow w.heap.size 3 1 (C (some ⟨w.heap.size,0,none⟩) n n) n (VJ (Nc ks h0 (x+1) (u+1)) n)/\wr.grownBy (wr.setCell ⟨w.heap.size,a,none⟩ (c g (x+1))) (some w.heap.size)):=by
      have h9:=HO.out.stored a (c g (x+1));rw[Qic _ _ _ _ (by omega),Qjp hs HA.out]at h9;exact h9
     have u0:(0:Int)<=(u:Int):=by omega
     have u1:(u:Int)<(kl:Int):=by omega
     have a0:(0:Int)<=(a:Int):=by omega
     have a1:(a:Int)<(n:Int):=by omega
     clear HO;go_wp2_with fail
     all_goals
      go_roundw
      case rel=>exact⟨u+1,by omega,by go_num,HT.out.1,HB.out.grown HT.out.2 HB.out.size (fun k hk=>by cases hk;exact Nat.le_refl _)⟩
      case measure=>simp[intOf];omega
    ·have u1: ¬(u:Int)<(kl:Int):=by omega
     obtain rfl:u=kl:=by omega
     clear h5;go_wp2_with fail
     go_roundw
     case rel=>exact⟨s,Nc ks h0 (x+1) u,by omega,by first | rfl | (congr 1;omega),g5.out,fun j=>by
      unfold Nc;split
      ·omega
      ·exact H8.out j,HO.out,HB.out⟩
     case measure=>first | (simp[intOf];done) | (simp[intOf];omega)
def Qp(x:FN):Bool:=QI x.k x.o x.ck x.cn x.cs x.ac x.ar x.af x.ag x.bc x.br x.bf x.bg x.kids.length
def MN(F:Nat->FN)(n:Nat):Bool:=(List.range n).all fun i=>Qp (F i)
def Zb(F:Nat->FN)(n:Nat):Bool:=decide (1<=n/\n<=60)&&MN F n&&Xs (fun j=>(F j).kids) n&&(Nb F n&& !decide ((F (n-1)).k=3))&&JI (fun j=>(F j).kids) n
theorem Qvl{f:Nat->Bool}{k:Nat}(hk:k<n)(h:f k=false):(List.range n).all f=false:=by
 rw[List.all_eq_false];exact⟨k,List.mem_range.2 hk,by simp[h]⟩
theorem Qhs{f:Nat->Bool}(h: ∀i,i<n->f i=true):(List.range n).all f=true:=by
 rw[List.all_eq_true];exact fun i hi=>h i (List.mem_range.1 hi)
theorem BH(h:Xs G n=true): ∃x,stk G n=some [x]:=by
 unfold Xs at h;split at h
 ·rename_i s hs
  have hl:=of_decide_eq_true h;match s,hl with
  | [x],_=>exact⟨x,hs⟩
 ·cases h
theorem Km(h:Xs G n=true):QT G n:=by
 obtain⟨x,hx⟩:=BH h;exact(EQ G n _ hx).2
theorem GD(G:Nat->List Int)(n:Nat):Xs G (n+1)=decide (Zx G n=0):=by
 rw[D,decide_eq_true_eq];constructor
 ·intro h;exact(Qcc G n).1 (BH h)
 ·intro h;obtain⟨x,hx⟩:=(Qcc G n).2 h;rw[NR hx];rfl
theorem Og(hG:QT G (n+1))(ht:Zx G n=0):JI G (n+1)=decide (Yt G n<=12):=by
 rw[D,decide_eq_true_eq,JI,Option.isSome_iff_exists];exact Qih hG ht
theorem Uq(h:n<1\/60<n):Zb F n=false:=by
 have e:decide (1<=n/\n<=60)=false:=by simp;omega
 simp[Zb,e]
theorem Qc5{k:Nat}(hk:k<n)(h:Qp (F k)=false):Zb F n=false:=by
 have e:MN F n=false:=Qvl hk h;simp[Zb,e]
theorem Qmn(h:Xs (fun j=>(F j).kids) n=false):Zb F n=false:=by simp[Zb,h]
theorem Qrs(h:Nb F n=false):Zb F n=false:=by simp[Zb,h]
theorem Qc4(h1:1<=n)(h2:n<=60)(hn:MN F n=true):Zb F n=(Xs (fun j=>(F j).kids) n&&(Nb F n&& !decide ((F (n-1)).k=3))&&JI (fun j=>(F j).kids) n):=by
 simp[Zb,h1,h2,hn]
theorem Qi9(x:FN){KA:Option Addr}{kc:Nat}(w:World)(hs:x.cs.size<=maxLen)(hft:FT w):
  H prog 156 #[K #[c g x.k,c g x.o,c g x.ck,c g x.cn,J x.cs,c g x.ac,c g x.ar,B x.af,B x.ag,c g x.bc,c g x.br,B x.bf,B x.bg,C KA x.kids.length kc]] w fun e w'=>e= r (B (Qp x))/\Below w.heap.size w w':=by
 obtain⟨k,o,ck,cn,cs,ac,ar,af,ag,bc,br,bf,bg,ks⟩:=x;show H _ _ _ _ fun e w'=>e= r (B (QI k o ck cn cs ac ar af ag bc br bf bg ks.length))/\_;by_cases h1:k=1
 ·subst h1;exact Qen _ _ _ _ _ _ _ _ _ _ _ _ _ hs
 by_cases h2:k=2
 ·subst h2;exact Qem _ _ _ _ _ _ _ _ _ _ _ _ _ hs
 by_cases h3:k=3
 ·subst h3;exact Qel _ _ _ _ _ _ _ _ _ _ _ _ _ hs
 by_cases h4:k=4
 ·subst h4;exact Qek _ _ _ _ _ _ _ _ _ _ _ _ _ hs
 by_cases h5:k=5
 ·subst h5;exact Qej _ _ _ _ _ _ _ _ _ _ _ _ _ hs
 by_cases h6:k=6
 ·subst h6;exact Qei _ _ _ _ _ _ _ _ _ _ _ _ _ hs hft
 ·exact Qeo _ _ _ _ _ _ _ _ _ _ _ _ _ _ hs h1 h2 h3 h4 h5 h6
theorem QM(x:FN){KA:Option Addr}{kc:Nat}(w:World)(hs:x.cs.size<=maxLen):
  H prog 139 #[K #[c g x.k,c g x.o,c g x.ck,c g x.cn,J x.cs,c g x.ac,c g x.ar,B x.af,B x.ag,c g x.bc,c g x.br,B x.bf,B x.bg,C KA x.kids.length kc]] w fun e w'=>e= r (B (Qp x))/\Below w.heap.size w w':=by
 obtain⟨k,o,ck,cn,cs,ac,ar,af,ag,bc,br,bf,bg,ks⟩:=x;show H _ _ _ _ fun e w'=>e= r (B (QI k o ck cn cs ac ar af ag bc br bf bg ks.length))/\_;by_cases h1:k=1
 ·subst h1;exact Qd1 _ _ _ _ _ _ _ _ _ _ _ _ _ hs
 by_cases h2:k=2
 ·subst h2;exact Qd0 _ _ _ _ _ _ _ _ _ _ _ _ _ hs
 by_cases h3:k=3
 ·subst h3;exact Qdz _ _ _ _ _ _ _ _ _ _ _ _ _ hs
 by_cases h4:k=4
 ·subst h4;exact Qdy _ _ _ _ _ _ _ _ _ _ _ _ _ hs
 by_cases h5:k=5
 ·subst h5;exact Qdx _ _ _ _ _ _ _ _ _ _ _ _ _ hs
 by_cases h6:k=6
 ·subst h6;exact Qdw _ _ _ _ _ _ _ _ _ _ _ _ _ hs
 ·exact Qd2 _ _ _ _ _ _ _ _ _ _ _ _ _ _ hs h1 h2 h3 h4 h5 h6
theorem YU(w:World)(h:FnRow w A n F)(hn:n<=1048576)(hkn: ∀i,i<n->(F i).kids.length<=1048576)(hft:FT w):
  H prog 120 #[C A n cap] w fun e w'=>e= r (B (Zb F n))/\Below w.heap.size w w':=by
 have HR:Hid (FnRow w A n F):=h;have h4:Hid (∀i,i<n->(F i).kids.length<=1048576):=hkn;have H5:Hid (FT w):=hft;clear h hkn hft;by_cases hz:n<1
 ·have HE:Hid (Zb F n=false):=Uq (Or.inl hz);have H2:(n:Int)<1:=by omega
  go_enter func120,ntmps120;go_wp2_with fail
  go_ret;exact⟨Qc HE.out.symm,by go_grown⟩
 have H2: ¬(n:Int)<1:=by omega
 by_cases hb:60<n
 ·have HE:Hid (Zb F n=false):=Uq (Or.inr hb);have H4:(60:Int)<(n:Int):=by omega
  go_enter func120,ntmps120;go_wp2_with fail
  go_ret;exact⟨Qc HE.out.symm,by go_grown⟩
 have H4: ¬(60:Int)<(n:Int):=by omega
 go_enter func120,ntmps120;go_wp2_with fail
 go_loopw [15] (fun i wr=> ∃k:Nat,k<=n/\i= c g k/\(∀i,i<k->Qp (F i)=true)/\Below w.heap.size w wr) (fun i _=>n-(intOf i).toNat)
 case atStart=>exact⟨0,Nat.zero_le _,rfl,fun i hi=>by omega,Below.refl _ _⟩
 case round=>
  obtain⟨k,hk,rfl,h8,h2⟩:=hrel;have H1:Hid (∀i,i<k->Qp (F i)=true):=h8;have HB:Hid (Below w.heap.size w wr):=h2;have H6:Hid (w.heap.size<=wr.heap.size):=h2.size;clear h8;by_cases h7:k<n
  ·obtain⟨b,o,KA,kc,rfl,hl,h6,H3,hs⟩:=HR.out.2 k h7;obtain⟨c0,c1,c2,c3,c4,c5,c6,c7,c8,c9,c10,c11,c12,c13⟩:=h6.below hl (W':=wr) h2;clear h6 H3 h2;have h0:(0:Int)<=(k:Int):=by omega
   have h1:(k:Int)<(n:Int):=by omega
   go_wp2_with fail
   refine(Qi9 (F k) _ hs ((H5.out.below HB.out).below (by go_grown))).mono ?_;rintro e w2 ⟨rfl,hb2⟩;have h3:Hid (Below w.heap.size w w2):=HB.out.trans (Below.mono (Qb (by go_grown) hb2) H6.out);clear hb2;cases hx:Qp (F k)
   ·have HE:Hid (Zb F n=false):=Qc5 h7 hx;go_wp2_with fail
    go_ret;exact⟨Qc HE.out.symm,h3.out⟩
   ·have HX:Hid (Qp (F k)=true):=hx;go_wp2_with fail
    go_roundw
    case rel=>exact⟨k+1,by omega,by go_num,fun i hi=>by
     by_cases e:i=k
     ·subst e;exact HX.out
     ·exact H1.out i (by omega),h3.out⟩
    case measure=>simp[intOf];omega
  ·have h1: ¬(k:Int)<(n:Int):=by omega
   obtain rfl:k=n:=by omega
   have HE:=Qc4 (F:=F) (n:=k) (by omega) (by omega) (Qhs H1.out);have H0:Hid (Zb F k=(Xs (fun j=>(F j).kids) k&&(Nb F k&& !decide ((F (k-1)).k=3))&&JI (fun j=>(F j).kids) k)):=HE;clear HE h2;go_wp2_with fail
   refine(UN _ (HR.out.below HB.out) (by omega) h4.out).mono ?_;rintro e w2 ⟨rfl,hb2⟩;have h3:=hd (Qb HB.out hb2);clear hb2;cases hx:Xs (fun j=>(F j).kids) k
   ·have HX:Hid (Xs (fun j=>(F j).kids) k=false):=hx;clear hx;go_wp2_with fail
    go_ret;exact⟨Qc (by rw[H0.out,HX.out];rfl),h3.out⟩
   have HX:Hid (Xs (fun j=>(F j).kids) k=true):=hx;have HG:Hid (QT (fun j=>(F j).kids) k):=Km hx;clear hx;obtain⟨m,hm⟩: ∃m,k=m+1:=⟨k-1,by omega⟩;subst hm;go_wp2_with fail
   refine(GM (n:=m) _ (HR.out.below h3.out) (by omega) h4.out HG).mono ?_;rintro e w3 ⟨rfl,hb2⟩;have h5:=hd (Qb h3.out hb2);clear hb2;have h9:Hid (Zb F (m+1)=((Nb F (m+1)&& !decide ((F m).k=3))&&JI (fun j=>(F j).kids) (m+1))):=by show _=_;rw[H0.out,HX.out];rfl
   obtain⟨y,HY⟩: ∃y,Hid ((Nb F (m+1)&& !decide ((F m).k=3))=y):=⟨_,rfl⟩;rw[HY.out];cases y
   ·go_wp2_with fail
    go_ret;exact⟨Qc (by rw[h9.out,HY.out];rfl),h5.out⟩
   go_wp2_with fail
   refine(MA _ (HR.out.below h5.out) (by omega) h4.out HG).mono ?_;rintro e w4 ⟨rfl,hb2⟩;have H7:=hd (Qb h5.out hb2);clear hb2;go_wp2_with fail
   go_ret;exact⟨Qc (by rw[h9.out,HY.out];rfl),H7.out⟩
def Bc(F:Nat->FN)(i:Nat)(x:Int):Prop:=(0<=x/\x<(i:Int))/\ ¬((F x.toNat).k=3/\ ¬(F i).k=6)
theorem YR(w:World)(h:FnRow w A n F)(hn:n<=1048576)(hkn: ∀i,i<n->(F i).kids.length<=1048576):
  H prog 133 #[C A n cap] w fun e w'=>e= r (B (Zb F n))/\Below w.heap.size w w':=by
 have HR:Hid (FnRow w A n F):=h;have H1:Hid (∀i,i<n->(F i).kids.length<=1048576):=hkn;clear h hkn;by_cases hz:n<1
 ·have HE:Hid (Zb F n=false):=Uq (Or.inl hz);have G4:(n:Int)<1:=by omega
  go_enter func133,ntmps133;go_wp2_with fail
  go_ret;exact⟨Qc HE.out.symm,by go_grown⟩
 have G4: ¬(n:Int)<1:=by omega
 by_cases hb:60<n
 ·have HE:Hid (Zb F n=false):=Uq (Or.inr hb);have G7:(60:Int)<(n:Int):=by omega
  go_enter func133,ntmps133;go_wp2_with fail
  go_ret;exact⟨Qc HE.out.symm,by go_grown⟩
 have G7: ¬(60:Int)<(n:Int):=by omega
 go_enter func133,ntmps133;go_wp2_with fail
 go_loopw [3,4,5] (fun i _v4 _v5 wr=> ∃k:Nat,k<=n/\i= c g k/\(∀i,i<k->Qp (F i)=true/\ ∀x∈(F i).kids,Bc F i x)/\Below w.heap.size w wr) (fun i _ _ _=>n-(intOf i).toNat)
 case atStart=>exact⟨0,Nat.zero_le _,rfl,fun i hi=>by omega,Below.refl _ _⟩
 case round=>
  obtain⟨k,hk,rfl,G2,h2⟩:=hrel;have H6:Hid (∀i,i<k->Qp (F i)=true/\ ∀x∈(F i).kids,Bc F i x):=G2;have HB:Hid (Below w.heap.size w wr):=h2;have x1:Hid (w.heap.size<=wr.heap.size):=h2.size;clear G2;by_cases h7:k<n
  ·obtain⟨b,o,KA,kc,rfl,hl,H8,G1,hs⟩:=HR.out.2 k h7;obtain⟨c0,c1,c2,c3,c4,c5,c6,c7,c8,c9,g5,g4,g3,g2⟩:=H8.below hl (W':=wr) h2;have G8:Hid (NodeAt w b (o+k*14) (F k) KA kc):=H8;obtain⟨ks,H0⟩: ∃ks,Hid ((F k).kids=ks):=⟨_,rfl⟩;have G9:Hid (IntRow w KA ks):=by rw[<-H0.out];exact G1
   obtain⟨kl,H5⟩: ∃kl,Hid (ks.length=kl):=⟨_,rfl⟩;have hkl:kl<=1048576:=by have:=H1.out k h7;rw[H0.out,H5.out]at this;exact this
   clear H8 G1 h2;have h0:(0:Int)<=(k:Int):=by omega
   have h1:(k:Int)<(n:Int):=by omega
   go_wp2_with fail
   refine(QM (F k) _ hs).mono ?_;rintro e w2 ⟨rfl,hb2⟩;have g8:=hd (Qb HB.out hb2);clear hb2 c0 c1 c2 c3 c4 c5 c6 c7 c8 c9 g5 g4 g3 g2;cases hx:Qp (F k)
   ·have HE:Hid (Zb F n=false):=Qc5 h7 hx;clear hx;go_wp2_with fail
    go_ret;exact⟨Qc HE.out.symm,g8.out⟩
   have HX:Hid (Qp (F k)=true):=hx;clear hx;go_wp2_with fail
   go_loopw [4,5] (fun j _v5 wi=> ∃t:Nat,t<=kl/\j= c g t/\(∀s,s<t->Bc F k (ks.getD s 0))/\Below w.heap.size w wi) (fun j _ _=>kl-(intOf j).toNat)
   case atStart=>exact⟨0,Nat.zero_le _,rfl,fun s hs=>by omega,g8.out⟩
   case round=>
    clear HB x1 g8;obtain⟨t,ht,rfl,G0,h4⟩:=hrel;have g6:Hid (∀s,s<t->Bc F k (ks.getD s 0)):=G0;have H2:Hid (Below w.heap.size w wr):=h4;clear G0;obtain⟨c0,c1,c2,c3,c4,c5,c6,c7,c8,c9,g5,g4,g3,g2⟩:=G8.out.below hl (W':=wr) h4;rw[H0.out,H5.out]at g2
    have lb:b<wr.heap.size:=Nat.lt_of_lt_of_le hl h4.size;clear c1 c2 c3 c4 c5 c6 c7 c8 c9 g5 g4 g3;by_cases H9:t<kl
    ·have H7:t<ks.length:=by rw[H5.out];exact H9
     obtain⟨b',o',rfl,G6,e1⟩:=G9.out.2 t H7;rw[<-h4.cell (p:=⟨_,_,none⟩) G6]at e1;have h8:Hid (ks.getD t 0∈(F k).kids):=by show _∈_;rw[H0.out,List.getD_eq_getElem?_getD,List.getElem?_eq_getElem H7];exact List.getElem_mem H7
     obtain⟨z,HZ⟩: ∃z,Hid (ks.getD t 0=z):=⟨_,rfl⟩;rw[HZ.out]at e1;have s0:(0:Int)<=(t:Int):=by omega
     have s1:(t:Int)<(kl:Int):=by omega
     by_cases hr:0<=z/\z<=(k:Int)-1
     rotate_left
     ·have HD:Hid (decide (0<=z/\z<=(k:Int)-1)=false):=decide_eq_false hr
      have HE:Hid (Zb F n=false):=by
       refine Qmn ?_;cases hq:Xs (fun j=>(F j).kids) n
       ·rfl
       ·have h9:=Km hq k h7 z (by show _∈(F k).kids;rw[<-HZ.out];exact h8.out);exact absurd (by omega) hr
      clear h4 hr;go_wp2_with (go_at_call 102;refine(QG _ _ _ _).mono ?_;rintro e w3 ⟨rfl,hw⟩;subst hw;rw[HD.out])
      all_goals
       go_ret;exact⟨Qc HE.out.symm,H2.out⟩
     have HD:Hid (decide (0<=z/\z<=(k:Int)-1)=true):=decide_eq_true hr;obtain⟨a,rfl⟩: ∃a:Nat,z=(a:Int):=⟨z.toNat,by omega⟩;have G3:(a:Int)<(k:Int):=by omega
     obtain⟨b'',o'',KB,kb,eA,g0,ck,g1,_⟩:=Vy HR.out a (by omega);cases eA
     rw[<-h4.cell (p:=⟨_,_,none⟩) g0]at g1;clear ck h4 hr;have a0:(0:Int)<=(a:Int):=by omega
     have a1:(a:Int)<(n:Int):=by omega
     by_cases h3:(F a).k=3
     ·have e3:((F a).k==3)=true:=by simpa using h3
      by_cases h6:(F k).k=6
      ·have e6:((F k).k !=6)=false:=by simpa using h6
       have h5:Hid (∀s,s<t+1->Bc F k (ks.getD s 0)):=fun s H3=>by
        by_cases e:s=t
        ·subst e;rw[HZ.out];exact⟨⟨by omega,G3⟩,fun h=>h.2 h6⟩
        ·exact g6.out s (by omega)
       clear h3 h6;go_wp2_with (go_at_call 102;refine(QG _ _ _ _).mono ?_;rintro e w3 ⟨rfl,hw⟩;subst hw;rw[HD.out])
       all_goals
        go_roundw
        case rel=>exact⟨t+1,by omega,by go_num,h5.out,H2.out⟩
        case measure=>simp[intOf];omega
      ·have e6:((F k).k !=6)=true:=by simpa using h6
       have HE:Hid (Zb F n=false):=Qrs (Qat h7 h8.out (by rw[HZ.out];simpa using h3) h6);clear h3 h6;go_wp2_with (go_at_call 102;refine(QG _ _ _ _).mono ?_;rintro e w3 ⟨rfl,hw⟩;subst hw;rw[HD.out])
       all_goals
        go_ret;exact⟨Qc HE.out.symm,H2.out⟩
     ·have e3:((F a).k==3)=false:=by simpa using h3
      have h5:Hid (∀s,s<t+1->Bc F k (ks.getD s 0)):=fun s H3=>by
       by_cases e:s=t
       ·subst e;rw[HZ.out];exact⟨⟨by omega,G3⟩,fun h=>h3 (by simpa using h.1)⟩
       ·exact g6.out s (by omega)
      clear h3;go_wp2_with (go_at_call 102;refine(QG _ _ _ _).mono ?_;rintro e w3 ⟨rfl,hw⟩;subst hw;rw[HD.out])
      all_goals
       go_roundw
       case rel=>exact⟨t+1,by omega,by go_num,h5.out,H2.out⟩
       case measure=>simp[intOf];omega
    ·have s1: ¬(t:Int)<(kl:Int):=by omega
     obtain rfl:t=kl:=by omega
     have g9:Hid (∀i,i<k+1->Qp (F i)=true/\ ∀x∈(F i).kids,Bc F i x):=fun i hi=>by
      by_cases e:i=k
      ·subst e;refine⟨HX.out,fun x hx=> ?_⟩;rw[H0.out]at hx;obtain⟨s,H3,G5⟩:=List.getElem_of_mem hx;have h9:=g6.out s (by rw[<-H5.out];exact H3);rw[List.getD_eq_getElem?_getD,List.getElem?_eq_getElem H3]at h9;rw[<-G5]
       exact h9
      ·exact H6.out i (by omega)
     clear h4;go_wp2_with fail
     go_roundw
     case rel=>exact⟨k+1,by omega,by go_num,g9.out,H2.out⟩
     case measure=>simp[intOf];omega
  ·have h1: ¬(k:Int)<(n:Int):=by omega
   obtain rfl:k=n:=by omega
   obtain⟨m,hm⟩: ∃m,k=m+1:=⟨k-1,by omega⟩;have HG:Hid (QT (fun j=>(F j).kids) k):=fun j hj x hx=>((H6.out j hj).2 x hx).1;have x2:Hid (Nb F k=true):=Qdf fun i hi x hx=>((H6.out i hi).2 x hx).2
   have g7:Hid (Zb F k=(decide (Zx (fun j=>(F j).kids) m=0)&& !decide ((F m).k=3)&&JI (fun j=>(F j).kids) k)):=by
    show _=_;rw[Qc4 (by omega) (by omega) (Qhs fun i hi=>(H6.out i hi).1),x2.out,Bool.true_and];subst hm;rw[GD];rfl
   have x0:Hid (Zx (fun j=>(F j).kids) m=0->JI (fun j=>(F j).kids) k=decide (Yt (fun j=>(F j).kids) m<=12)):=fun ht=>by
    subst hm;exact Og HG.out ht
   obtain⟨b,o,KA,kc,rfl,hl,ck,g1,_⟩:=Vy HR.out m (by omega);rw[<-h2.cell (p:=⟨_,_,none⟩) hl]at g1;have H4:=hd (HR.out.below h2);have hkm:(k:Int)-1=(m:Int):=by omega
   have m0:(0:Int)<=(m:Int):=by omega
   have m1:(m:Int)<(k:Int):=by omega
   have M:Hid (m<k):=(by omega:m<k);clear ck h2 hm;obtain⟨y,HY⟩: ∃y,Hid (Zx (fun j=>(F j).kids) (m:Int)=y):=⟨_,rfl⟩;by_cases hy:y=0
   rotate_left
   ·have ey:(y==0)=false:=by simpa using hy
    have HF:Hid (Zb F k=false):=by show _=_;rw[g7.out,HY.out,decide_eq_false hy];rfl
    go_wp2_with (go_at_call 167;refine(Kl _ H4 (by omega) H1.out (m+1) m (by omega) M.out).mono ?_;rintro e w3 ⟨rfl,hw⟩;subst hw;rw[HY.out])
    all_goals
     go_ret;exact⟨Qc HF.out.symm,HB.out⟩
   subst hy;by_cases h3:(F m).k=3
   ·have e3:((F m).k !=3)=false:=by simpa using h3
    have HF:Hid (Zb F k=false):=by show _=_;rw[g7.out,decide_eq_true h3];simp
    clear h3;go_wp2_with (go_at_call 167;refine(Kl _ H4 (by omega) H1.out (m+1) m (by omega) M.out).mono ?_;rintro e w3 ⟨rfl,hw⟩;subst hw;rw[HY.out])
    all_goals
     go_ret;exact⟨Qc HF.out.symm,HB.out⟩
   ·have e3:((F m).k !=3)=true:=by simpa using h3
    obtain⟨d,HD⟩: ∃d,Hid (Yt (fun j=>(F j).kids) (m:Int)=d):=⟨_,rfl⟩;have HF:Hid (Zb F k=decide (d<=12)):=by show _=_;rw[g7.out,decide_eq_false h3,x0.out HY.out,HY.out,HD.out];simp
    clear h3
    go_wp2_with (first
     | (go_at_call 167;refine(Kl _ H4 (by omega) H1.out (m+1) m (by omega) M.out).mono ?_;rintro e w3 ⟨rfl,hw⟩;subst hw;rw[HY.out])
     | (go_at_call 168;refine(Qbu _ H4 (by omega) H1.out HG (m+1) m (by omega) M.out).mono ?_;rintro e w3 ⟨rfl,hw⟩;subst hw;rw[HD.out]))
    all_goals
     go_ret;exact⟨Qc (by rw[HF.out]),HB.out⟩
def nrm{N:Type}(y:Int × List UInt8 × List N):Int × List UInt8 × List N:=(y.1,sb y.2.1,y.2.2)
theorem VL(h:sb l=sb l')(hp:pk l≠ []):nx l=nx l':=by
 have h1:=Hr hp;have e:tok l=tok l':=by rw[<-Qa2 l,<-Qa2 l',h]
 have h0:pk l'≠ []:=by unfold pk at hp ⊢;rw[<-e];exact hp
 have h2:=Hr h0;rw[e,h2]at h1;exact(Prod.mk.inj (Option.some.inj h1)).2.symm
theorem Qos(h:sb l=sb l'):pk l=pk l':=by rw[<-Jd l,<-Jd l',h]
theorem Dz{a b:Option (Int × List UInt8 × List N)}(h:a.map nrm=b.map nrm):(a=none/\b=none)\/ ∃x l l' o,a=some (x,l,o)/\b=some (x,l',o)/\sb l=sb l':=by
 cases a with
 | none=>cases b with
  | none=>exact Or.inl ⟨rfl,rfl⟩
  | some y=>cases h
 | some y=>cases b with
  | none=>cases h
  | some z=>
   obtain⟨x,l,o⟩:=y;obtain⟨x',l',o'⟩:=z;simp only[E,nrm,I,Prod.mk.injEq]at h;obtain⟨rfl,hl,rfl⟩:=h;exact Or.inr ⟨_,_,_,_,rfl,rfl,hl⟩
theorem UV(R:Rw N): ∀(m mode:Nat) (lv a:Int) (ks:List Int) (l l':List UInt8) (out:List N),sb l=sb l'->(P R m mode lv a ks l out).map nrm=(P R m mode lv a ks l' out).map nrm:=by
 intro m;induction m with
 | zero=>intro mode lv a ks l l' out h;rfl
 | succ m ih=>
  intro mode lv a ks l l' out h;have hp:pk l=pk l':=Qos h;rw[P,P];by_cases h1:mode=1
  ·rw[pS h1,pS h1];by_cases hg:4<lv
   ·rw[pS hg,pS hg];exact ih _ _ _ _ _ _ _ h
   ·rw[nG hg,nG hg];rcases Dz (ih 1 (lv+1) 0 [] l l' out h)with⟨e1,e2⟩ | ⟨x,l1,l2,o,e1,e2,hs⟩
    ·rw[e1,e2]
    ·rw[e1,e2];exact ih _ _ _ _ _ _ _ hs
  rw[nG h1,nG h1];by_cases h2:mode=2
  ·rw[pS h2,pS h2,<-hp];by_cases h6:QR (pk l)=0\/lvl (QR (pk l))≠lv
   ·rw[pS h6,pS h6];simp only[E,nrm,h]
   ·have hn:pk l≠ []:=fun e=>h6 (Or.inl (by rw[e];rfl));rw[nG h6,nG h6,VL h hn]
  rw[nG h2,nG h2];by_cases h3:mode=3
  ·rw[pS h3,pS h3,<-hp];by_cases hq:pk l= [45]
   ·rw[pS hq,pS hq,VL h (by rw[hq];simp)]
   ·rw[nG hq,nG hq];exact ih _ _ _ _ _ _ _ h
  rw[nG h3,nG h3];by_cases h4:mode=4
  ·rw[pS h4,pS h4,<-hp];by_cases hq:pk l= []
   ·rw[pS hq,pS hq]
   ·rw[nG hq,nG hq,VL h hq]
  rw[nG h4,nG h4];by_cases h5:mode=5
  ·rw[pS h5,pS h5,<-hp];by_cases hq:pk l= [44]
   ·rw[pS hq,pS hq,VL h (by rw[hq];simp)]
   ·rw[nG hq,nG hq];by_cases h0:pk l= [41]
    ·rw[pS h0,pS h0,VL h (by rw[h0];simp)]
    ·rw[nG h0,nG h0]
  rw[nG h5,nG h5,<-hp];by_cases hq:pk l≠ []/\pk (nx l)= [58]
  ·have h0:pk l≠ []/\pk (nx l')= [58]:=⟨hq.1,by rw[<-VL h hq.1];exact hq.2⟩;rw[pS hq,pS h0,VL h hq.1]
  ·have h0: ¬(pk l≠ []/\pk (nx l')= [58]):=fun e=>hq ⟨e.1,by rw[VL h e.1];exact e.2⟩;rw[nG hq,nG h0];exact ih _ _ _ _ _ _ _ h
def PB{N:Type}(R:Rw N)(mode:Nat)(lv a:Int)(ks:List Int)(l:List UInt8)(out:List N):Option (Int × List UInt8 × List N):=(P R 20000 mode lv a ks l out).map nrm
theorem JJ{R:Rw N}{out:List N}(h:sb l=sb l'):PB R mode lv a ks l out=PB R mode lv a ks l' out:=UV R _ _ _ _ _ _ _ _ h
theorem Qga(hl:Qnv mode lv)(hn:n<=1000):NA mode lv n<=19999:=by
 unfold NA;by_cases h1:mode=1
 ·rw[pS h1];have:=hl.1 h1;omega
 ·rw[nG h1];repeat' split
  all_goals omega
theorem XQ{R:Rw N}{out:List N}(hl:Qnv mode lv)(hn:l.length<=1000):P R 19999 mode lv a ks l out=P R 20000 mode lv a ks l out:=
 Qvu R _ _ _ _ _ _ _ _ hl (Qga hl hn) (Nat.le_trans (Qga hl hn) (by omega))
theorem Vx(mode:Nat)(lv:Int)(h1:mode≠1)(h2:mode≠2):Qnv mode lv:=⟨fun e=>absurd e h1,fun e=>absurd e h2⟩
def Yg{N:Type}(o:Option (Int × List UInt8 × List N))(f:Int->List UInt8->List N->Option (Int × List UInt8 × List N)):Option (Int × List UInt8 × List N):=match o with
 | some y=>f y.1 y.2.1 y.2.2
 | none=>none
theorem Vc{o:Option (Int × List UInt8 × List N)}{f:Int->List UInt8->List N->Option (Int × List UInt8 × List N)}(hf: ∀x l l' q,sb l=sb l'->f x l q=f x l' q):Yg (o.map nrm) f=Yg o f:=by
 cases o with
 | none=>rfl
 | some y=>exact hf _ _ _ _ (Zj _)
theorem JW{o:Option (Int × List UInt8 × List N)}{f:Int->List UInt8->List N->Option (Int × List UInt8 × List N)}:(Yg o f).map nrm=Yg o (fun x l q=>(f x l q).map nrm):=by
 cases o<;>rfl
theorem DX{R:Rw N}{out:List N}{x:Int}{l1:List UInt8}{o1:List N}(h:PB R mode lv a ks l out=some (x,l1,o1)):l1.length<=l.length/\(mode≠2->l1.length<l.length):=by
 unfold PB at h;cases hp:P R 20000 mode lv a ks l out with
 | none=>rw[hp]at h;cases h
 | some y=>
  obtain⟨x',l',o'⟩:=y;rw[hp]at h;simp only[E,nrm,I,Prod.mk.injEq]at h;obtain⟨rfl,rfl,rfl⟩:=h;have h2:=MG R _ _ _ _ _ _ _ _ _ _ hp;have h3:=Xr l';exact⟨by omega,fun hm=>by have:=h2.2 hm;omega⟩
theorem PB1{R:Rw N}{out:List N}(h1:1<=lv)(h4:lv<=4)(hn:l.length<=1000):
  PB R 1 lv 0 [] l out=Yg (PB R 1 (lv+1) 0 [] l out) (fun x l1 o1=>PB R 2 lv x [] l1 o1):=by
 unfold PB;rw[Vc (f:=fun x l1 o1=>(P R 20000 2 lv x [] l1 o1).map nrm) (fun x l l' q hs=>UV R _ _ _ _ _ _ _ _ hs),<-JW];rw[show(20000:Nat)=19999+1 from rfl,P,pS rfl,nG (by omega),XQ ⟨fun _=>by omega,fun e=>by omega⟩ hn,<-show(20000:Nat)=19999+1 from rfl];congr 1
 unfold Yg;cases hp:P R 20000 1 (lv+1) 0 [] l out with
 | none=>rfl
 | some y=>
  obtain⟨x,l1,o1⟩:=y;have:=(MG R _ _ _ _ _ _ _ _ _ _ hp).1;exact XQ ⟨fun e=>by omega,fun _=>by omega⟩ (by omega)
theorem Qe7{R:Rw N}{out:List N}(hn:l.length<=1000):PB R 1 5 0 [] l out=PB R 3 0 0 [] l out:=by
 unfold PB;rw[show(20000:Nat)=19999+1 from rfl,P,pS rfl,pS (by omega),XQ (Vx 3 0 (by omega) (by omega)) hn]
theorem PB2{R:Rw N}{out:List N}(h1:1<=lv)(h4:lv<=4)(hn:l.length<=1000):
  PB R 2 lv a [] l out=if QR (pk l)=0\/lvl (QR (pk l))≠lv then some (a,sb l,out)else Yg (PB R 1 (lv+1) 0 [] (nx l) out) (fun b l1 o1=>PB R 2 lv (o1.length:Int) [] l1 (o1++ [R.bin (QR (pk l)) a b])):=by
 by_cases h0:QR (pk l)=0\/lvl (QR (pk l))≠lv
 ·rw[pS h0];unfold PB;rw[show(20000:Nat)=19999+1 from rfl,P,nG (by omega),pS rfl,pS h0];rfl
 ·rw[nG h0];have hl:=Ul l;unfold PB;rw[Vc (f:=fun b l1 o1=>(P R 20000 2 lv (o1.length:Int) [] l1 (o1++ [R.bin (QR (pk l)) a b])).map nrm) (fun x l l' q hs=>UV R _ _ _ _ _ _ _ _ hs),<-JW];rw[show(20000:Nat)=19999+1 from rfl,P,nG (by omega),pS rfl,nG h0,XQ ⟨fun _=>by omega,fun e=>by omega⟩ (by omega),<-show(20000:Nat)=19999+1 from rfl];congr 1
  unfold Yg;cases hp:P R 20000 1 (lv+1) 0 [] (nx l) out with
  | none=>rfl
  | some y=>
   obtain⟨x,l1,o1⟩:=y;have:=(MG R _ _ _ _ _ _ _ _ _ _ hp).1;exact XQ ⟨fun e=>by omega,fun _=>by omega⟩ (by omega)
theorem PB3{R:Rw N}{out:List N}(hn:l.length<=1000):
  PB R 3 0 0 [] l out=if pk l= [45]then Yg (PB R 3 0 0 [] (nx l) out) (fun k l1 o1=>some ((o1.length:Int),sb l1,o1++ [R.neg k]))else PB R 4 0 0 [] l out:=by
 by_cases hp:pk l= [45]
 ·rw[pS hp];have hl:=Ul l;unfold PB;rw[Vc (fun x l l' q hs=>by rw[hs]),show(fun(k:Int) (l1:List UInt8) (o1:List N)=>some ((o1.length:Int),sb l1,o1++ [R.neg k]))=(fun k l1 o1=>(Qj8 (R.neg k) l1 o1).map nrm)from rfl,<-JW];rw[show(20000:Nat)=19999+1 from rfl,P,nG (by omega),nG (by omega),pS rfl,pS hp,XQ (Vx 3 0 (by omega) (by omega)) (by omega),<-show(20000:Nat)=19999+1 from rfl];congr 1
  unfold Yg;cases P R 20000 3 0 0 [] (nx l) out<;>rfl
 ·rw[nG hp];unfold PB;rw[show(20000:Nat)=19999+1 from rfl,P,nG (by omega),nG (by omega),pS rfl,nG hp,XQ (Vx 4 0 (by omega) (by omega)) hn]
theorem Qaz{R:Rw N}{out:List N}(h:pk l= []):PB R 4 0 0 [] l out=none:=by
 unfold PB;rw[show(20000:Nat)=19999+1 from rfl,P,nG (by omega),nG (by omega),nG (by omega),pS rfl,pS h];rfl
theorem Qay{R:Rw N}{out:List N}(h:pk l= [40])(hn:l.length<=1000):
  PB R 4 0 0 [] l out=Yg (PB R 1 1 0 [] (nx l) out) (fun x l1 o1=>if pk l1= [41]then some (x,sb (nx l1),o1)else none):=by
 have hl:=Ul l;unfold PB
 rw[Vc (fun x l l' q hs=>by
  rw[Qos hs];by_cases hq:pk l'= [41]
  ·rw[pS hq,pS hq,VL hs (by rw[Qos hs,hq];simp)]
  ·rw[nG hq,nG hq]),show(fun(x:Int) (l1:List UInt8) (o1:List N)=>if pk l1= [41]then some (x,sb (nx l1),o1)else none)=(fun x l1 o1=>(if pk l1= [41]then some (x,nx l1,o1)else none).map nrm)from by
   funext x l1 o1
   by_cases hq:pk l1= [41]
   ·rw[pS hq,pS hq];rfl
   ·rw[nG hq,nG hq];rfl,<-JW]
 rw[show(20000:Nat)=19999+1 from rfl,P,nG (by omega),nG (by omega),nG (by omega),pS rfl,nG (by rw[h];simp),pS h,XQ ⟨fun _=>by omega,fun e=>by omega⟩ (by omega),<-show(20000:Nat)=19999+1 from rfl];congr 1
 unfold Yg;cases P R 20000 1 1 0 [] (nx l) out<;>rfl
theorem Qax{R:Rw N}{out:List N}{x:List UInt8 × List UInt8}(h:(pk l).head? =some 34)(hq:ZE (pk l).tail=some x):PB R 4 0 0 [] l out=some ((out.length:Int),sb (nx l),out++ [R.cst 2 0 x.1]):=by
 have h0:pk l≠ []:=fun e=>by rw[e]at h;cases h
 have h1:pk l≠ [40]:=fun e=>by rw[e]at h;cases h
 unfold PB;rw[show(20000:Nat)=19999+1 from rfl,P,nG (by omega),nG (by omega),nG (by omega),pS rfl,nG h0,nG h1,pS h,hq];rfl
theorem Qbp{R:Rw N}{out:List N}(h0:pk l≠ [])(h1:pk l≠ [40])(h2:(pk l).head?≠some 34)(hf:Xc (pk l)≠0)(hn:l.length<=1000):
  PB R 4 0 0 [] l out=if pk (nx l)= [40]then Yg (PB R 6 0 0 [] (nx (nx l)) out) (fun k l1 o1=>PB R 5 (Xc (pk l)) 0 [k] l1 o1)else none:=by
 have hl:=Ul l;have hl2:=Ul (nx l);by_cases hp:pk (nx l)= [40]
 ·rw[pS hp];unfold PB;rw[Vc (f:=fun k l1 o1=>(P R 20000 5 (Xc (pk l)) 0 [k] l1 o1).map nrm) (fun x l l' q hs=>UV R _ _ _ _ _ _ _ _ hs),<-JW];rw[show(20000:Nat)=19999+1 from rfl,P,nG (by omega),nG (by omega),nG (by omega),pS rfl,nG h0,nG h1,nG h2,pS hf,pS hp,XQ (Vx 6 0 (by omega) (by omega)) (by omega),<-show(20000:Nat)=19999+1 from rfl];congr 1
  unfold Yg;cases hq:P R 20000 6 0 0 [] (nx (nx l)) out with
  | none=>rfl
  | some y=>
   obtain⟨x,l1,o1⟩:=y;have:=(MG R _ _ _ _ _ _ _ _ _ _ hq).1;exact XQ (Vx 5 _ (by omega) (by omega)) (by omega)
 ·rw[nG hp];unfold PB;rw[show(20000:Nat)=19999+1 from rfl,P,nG (by omega),nG (by omega),nG (by omega),pS rfl,nG h0,nG h1,nG h2,pS hf,nG hp];rfl
theorem Uy{R:Rw N}{out:List N}(h0:pk l≠ [])(h1:pk l≠ [40])(h2:(pk l).head?≠some 34)(hf:Xc (pk l)=0):
  PB R 4 0 0 [] l out=match R.rv (pk l)with
   | some v=>some ((out.length:Int),sb (nx l),out++ [R.cst v.1 v.2.1 v.2.2])
   | none=>(match R.rp (pk l)with
    | some p=>some ((out.length:Int),sb (nx l),out++ [R.cel p])
    | none=>none):=by
 unfold PB;rw[show(20000:Nat)=19999+1 from rfl,P,nG (by omega),nG (by omega),nG (by omega),pS rfl,nG h0,nG h1,nG h2,nG (by rw[hf];simp)];cases R.rv (pk l)with
 | some v=>rfl
 | none=>cases R.rp (pk l)<;>rfl
theorem PB5{R:Rw N}{fn:Int}{out:List N}(hn:l.length<=1000):
  PB R 5 fn 0 ks l out=if pk l= [44]then Yg (PB R 6 0 0 [] (nx l) out) (fun k l1 o1=>PB R 5 fn 0 (ks++ [k]) l1 o1)else if pk l= [41]then some ((out.length:Int),sb (nx l),out++ [R.cal fn ks])else none:=by
 have hl:=Ul l;by_cases hp:pk l= [44]
 ·rw[pS hp];unfold PB;rw[Vc (f:=fun k l1 o1=>(P R 20000 5 fn 0 (ks++ [k]) l1 o1).map nrm) (fun x l l' q hs=>UV R _ _ _ _ _ _ _ _ hs),<-JW];rw[show(20000:Nat)=19999+1 from rfl,P,nG (by omega),nG (by omega),nG (by omega),nG (by omega),pS rfl,pS hp,XQ (Vx 6 0 (by omega) (by omega)) (by omega),<-show(20000:Nat)=19999+1 from rfl];congr 1
  unfold Yg;cases hq:P R 20000 6 0 0 [] (nx l) out with
  | none=>rfl
  | some y=>
   obtain⟨x,l1,o1⟩:=y;have:=(MG R _ _ _ _ _ _ _ _ _ _ hq).1;exact XQ (Vx 5 _ (by omega) (by omega)) (by omega)
 ·rw[nG hp];unfold PB;rw[show(20000:Nat)=19999+1 from rfl,P,nG (by omega),nG (by omega),nG (by omega),nG (by omega),pS rfl,nG hp];by_cases h0:pk l= [41]
  ·rw[pS h0,pS h0];rfl
  ·rw[nG h0,nG h0];rfl
theorem PB6{R:Rw N}{out:List N}(hn:l.length<=1000):
  PB R 6 0 0 [] l out=if pk l≠ []/\pk (nx l)= [58]then(match R.rp (pk l),R.rp (pk (nx (nx l)))with
   | some p,some q=>some ((out.length:Int),sb (nx (nx (nx l))),out++ [R.are p q])
   | _,_=>none)else PB R 1 1 0 [] l out:=by
 by_cases hp:pk l≠ []/\pk (nx l)= [58]
 ·rw[pS hp];unfold PB;rw[show(20000:Nat)=19999+1 from rfl,P,nG (by omega),nG (by omega),nG (by omega),nG (by omega),nG (by omega),pS hp];cases R.rp (pk l)with
  | none=>rfl
  | some p=>cases R.rp (pk (nx (nx l)))<;>rfl
 ·rw[nG hp];unfold PB;rw[show(20000:Nat)=19999+1 from rfl,P,nG (by omega),nG (by omega),nG (by omega),nG (by omega),nG (by omega),nG hp,XQ ⟨fun _=>by omega,fun e=>by omega⟩ hn]
end Go.Proofs.YtomadadmakdkgaaGreatDoor
