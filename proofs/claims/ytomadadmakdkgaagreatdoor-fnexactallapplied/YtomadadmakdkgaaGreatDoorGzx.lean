import Derived.Test.YtomadadmakdkgaaGreatDoorMn
import Derived.Test.YtomadadmakdkgaaGreatDoorGzw
import Derived.Test.YtomadadmakdkgaaGreatDoorGze
import Derived.Test.YtomadadmakdkgaaGreatDoorGbf
import Derived.Test.YtomadadmakdkgaaGreatDoorGbg
import Derived.Test.YtomadadmakdkgaaGreatDoorGyq
open Go.Proofs.Tryz
open Nat renaming lt_of_lt_of_le → d
open Go.Value renaming slice → f, int → g, tuple → D, bool → F, string → K, agg → O
open Go.IntKind renaming i64 → u
open Go renaming bodyPost_ret → z, results → E, World → I
open Go.Ending renaming returned → G
open Option renaming getD_some → H, map_some → N
open Go.RowKit renaming Below → J
open Go.Obj renaming cells → Q
set_option linter.unusedSimpArgs false
set_option linter.unusedVariables false
set_option maxHeartbeats 8000000
set_option maxRecDepth 100000
namespace Go.Proofs.YtomadadmakdkgaaGreatDoor
open Go.RowKit Go.Maps
variable {W w':I} {C R:Nat->Int} {S:Nat->ByteArray} {n cap B:Nat} {p q:Int} {s:ByteArray} {A:Option Addr} {L:List CL}
theorem cyE{b o:Nat}{x:Value}(hb:J W.heap.size W w')(c:W.cell? ⟨b,o,none⟩=some x):w'.cell? ⟨b,o,none⟩=some x:=
 (hb.cell (p:=⟨b,o,none⟩) (World.block_lt_of_cell? W ⟨b,o,none⟩ c)).trans c
def enF(C R:Nat->Int)(S:Nat->ByteArray)(n:Nat)(p q:Int)(s:ByteArray):Option (List CL):=if QA C R S n=true/\Qf p q=true then(match inF s with
 | some t=>if 120<(Xj ⟨p,q,t⟩ (clE C R S n)).length then none else some (Xj ⟨p,q,t⟩ (clE C R S n))
 | none=>none)else none
def EnR(B:Nat)(w':I)(r:Option (List CL))(e:Ending):Prop:=match r with
 | some L=> ∃A c m,e= G (D #[f A m c,F true])/\L.length=m/\w'.ownsRow B 70 3 (f A m c) m (QH CL.cs L)
 | none=>e= G (D #[f none 0 0,F false])
theorem Qha(h:QA C R S n=false):enF C R S n p q s=none:=by rw[enF,nG (fun e=>by rw[h]at e;cases e.1)]
theorem Qao(h:Qf p q=false):enF C R S n p q s=none:=by rw[enF,nG (fun e=>by rw[h]at e;cases e.2)]
theorem Qg9(h:inF s=none):enF C R S n p q s=none:=by rw[enF,h];split<;>rfl
theorem Qg8{t:ByteArray}(h1:QA C R S n=true)(h2:Qf p q=true)(h3:inF s=some t):enF C R S n p q s=if 120<(Xj ⟨p,q,t⟩ (clE C R S n)).length then none else some (Xj ⟨p,q,t⟩ (clE C R S n)):=by rw[enF,pS ⟨h1,h2⟩,h3]
theorem Nt(w:I)(h:ClRow w A n C R S)(hs:s.size<=maxLen):
  Calls prog 61 #[f A n cap,O #[g u p,g u q],K s] w fun e w'=>EnR w.heap.size w' (enF C R S n p q s) e/\J w.heap.size w w':=by
 have HR:Hid (ClRow w A n C R S):=h;have HS:Hid (s.size<=maxLen):=hs;clear h;obtain⟨ck,h1⟩: ∃ck,Hid (QA C R S n=ck):=⟨_,rfl⟩;obtain⟨rk,h2⟩: ∃rk,Hid (Qf p q=rk):=⟨_,rfl⟩;obtain⟨io,h5⟩: ∃io,Hid (inF s=io):=⟨_,rfl⟩;go_enter func61,ntmps61
 go_wp2_with fail
 obtain⟨X,HX⟩: ∃X,Hid (w.alloc (Q #[g u p,g u q] 26)=X):=⟨_,rfl⟩;rw[HX.out];have x0:X.cell? ⟨w.heap.size,0,none⟩=some (g u p):=by rw[<-HX.out];go_simp
 have x1:X.cell? ⟨w.heap.size,1,none⟩=some (g u q):=by rw[<-HX.out];go_simp
 have zX:w.heap.size<X.heap.size:=by rw[<-HX.out];simp
 have KX:Hid (J w.heap.size w X):=by rw[<-HX.out];show J _ _ _;go_grown
 clear HX;refine(ZP s X HS.out).mono ?_;rintro e u0 ⟨hop,hb⟩;replace x0:=cyE hb x0;replace x1:=cyE hb x1;replace zX:w.heap.size<u0.heap.size:=d zX hb.size;replace KX:=hd (Qb KX.out hb)
 clear hb;rw[h5.out]at hop;have h3:Hid (opA io e):=hop;clear hop
 obtain⟨tx,ok,HE,h8⟩: ∃(tx:ByteArray) (ok:Bool),Hid (e= G (D #[K tx,F ok]))/\Hid (io=if ok=true then some tx else none):=by
  cases io with
  | none=>exact⟨⟨#[]⟩,false,h3.out,rfl⟩
  | some t=>exact⟨t,true,h3.out,rfl⟩
 rw[HE.out];clear HE h3;go_wp2_with fail
 refine(Ve _ (HR.out.below KX.out)).mono ?_;rintro e u1 ⟨rfl,hb⟩;replace x0:=cyE hb x0;replace x1:=cyE hb x1;replace zX:w.heap.size<u1.heap.size:=d zX hb.size;replace KX:=hd (Qb KX.out hb);clear hb
 rw[h1.out];cases ck
 ·have HV:Hid (enF C R S n p q s=none):=Qha h1.out;go_wp2_with fail
  refine z (v:= D #[f none 0 0,F false]) ?_ rfl ⟨?_,KX.out⟩
  ·simp (maxDischargeDepth:=9) [E,results61,go_sem, *]
  ·rw[HV.out];exact rfl
 go_wp2_with fail
 refine(Qz p q _).mono ?_;rintro e u2 ⟨rfl,hb⟩;replace x0:=cyE hb x0;replace x1:=cyE hb x1;replace zX:w.heap.size<u2.heap.size:=d zX hb.size;replace KX:=hd (Qb KX.out hb);clear hb
 rw[h2.out];cases rk
 ·have HV:Hid (enF C R S n p q s=none):=Qao h2.out;go_wp2_with fail
  refine z (v:= D #[f none 0 0,F false]) ?_ rfl ⟨?_,KX.out⟩
  ·simp (maxDischargeDepth:=9) [E,results61,go_sem, *]
  ·rw[HV.out];exact rfl
 cases ok
 ·have HV:Hid (enF C R S n p q s=none):=Qg9 (h5.out.trans h8.out);go_wp2_with fail
  refine z (v:= D #[f none 0 0,F false]) ?_ rfl ⟨?_,KX.out⟩
  ·simp (maxDischargeDepth:=9) [E,results61,go_sem, *]
  ·rw[HV.out];exact rfl
 have H0:Hid (inF s=some tx):=h5.out.trans h8.out;obtain⟨hn,h7,h6⟩:=Yj h1.out;have h9:Hid ((clE C R S n).Pairwise (fun a b=>ltC a b=true)):=h6;have H2:Hid (∀i,i<n->Qf (C i) (R i)=true):=h7;have HV:Hid (enF C R S n p q s=if 120<(Xj ⟨p,q,tx⟩ (clE C R S n)).length then none else some (Xj ⟨p,q,tx⟩ (clE C R S n))):=Qg8 h1.out h2.out H0.out;clear h6 h7;go_wp2_with fail
 refine(Gu _ (HR.out.below KX.out) (by omega)).mono ?_;rintro e u3 ⟨A',c',m,rfl,hl,ho,hb⟩;have H1:Hid (Qan ⟨p,q,tx⟩ (clE C R S n)=Xj ⟨p,q,tx⟩ (clE C R S n)):=(Ou h9.out).symm;rw[H1.out]at hl ho;have h4:Hid ((Xj ⟨p,q,tx⟩ (clE C R S n)).length=m):=hl;have HO:Hid (u3.ownsRow w.heap.size 70 3 (f A' m c') m (QH CL.cs (Xj ⟨p,q,tx⟩ (clE C R S n)))):=Go.Proofs.ownsRow_base_a ho KX.out.size;clear hl ho
 replace x0:=cyE hb x0;replace x1:=cyE hb x1;replace zX:w.heap.size<u3.heap.size:=d zX hb.size;replace KX:=hd (Qb KX.out hb);clear hb;by_cases h0:120<m
 ·have q1:(120:Int)<((m:Nat):Int):=by omega
  go_wp2_with fail
  refine z (v:= D #[f none 0 0,F false]) ?_ rfl ⟨?_,KX.out⟩
  ·simp (maxDischargeDepth:=9) [E,results61,go_sem, *]
  ·rw[HV.out,h4.out,pS h0];exact rfl
 ·have q1: ¬(120:Int)<((m:Nat):Int):=by omega
  go_wp2_with fail
  refine z (v:= D #[f A' m c',F true]) ?_ rfl ⟨?_,KX.out⟩
  ·simp (maxDischargeDepth:=9) [E,results61,go_sem, *]
  ·rw[HV.out,h4.out,nG h0];exact⟨A',c',m,rfl,h4.out,HO.out⟩
theorem BK(h:Qf p q=true): ∃l,keyOf prog 26 (O #[g u p,g u q])=some l:=by
 simp only[Qf,decide_eq_true_eq]at h;exact Qg0 p q (Ub (by omega) (by omega)) (Ub (by omega) (by omega))
theorem Eg(h:(clE C R S n).Pairwise (fun a b=>ltC a b=true)): ∀i j,i<j->j<n-> ¬(C i=C j/\R i=R j):=fun i j hij hj e=>by
 have h9:=List.pairwise_iff_getElem.1 h i j (by rw[Yy];omega) (by rw[Yy];exact hj) hij;simp only[clE,List.getElem_map,List.getElem_range]at h9;have h8:=of_decide_eq_true h9;simp only at h8;omega
theorem Qep(w:I)(h:ClRow w A n C R S)(hs:s.size<=maxLen)(hg:GI w):
  Calls prog 52 #[f A n cap,O #[g u p,g u q],K s] w fun e w'=>EnR w.heap.size w' (enF C R S n p q s) e/\J w.heap.size w w':=by
 have HR:Hid (ClRow w A n C R S):=h;have HS:Hid (s.size<=maxLen):=hs;have HG:Hid (GI w):=hg;clear h hg;obtain⟨ck,h5⟩: ∃ck,Hid (QA C R S n=ck):=⟨_,rfl⟩;obtain⟨rk,h1⟩: ∃rk,Hid (Qf p q=rk):=⟨_,rfl⟩;obtain⟨io,h8⟩: ∃io,Hid (inF s=io):=⟨_,rfl⟩
 go_enter func52,ntmps52;go_wp2_with fail
 obtain⟨X,HX⟩: ∃X,Hid (w.alloc (Q #[g u p,g u q] 26)=X):=⟨_,rfl⟩;rw[HX.out];have x0:X.cell? ⟨w.heap.size,0,none⟩=some (g u p):=by rw[<-HX.out];go_simp
 have x1:X.cell? ⟨w.heap.size,1,none⟩=some (g u q):=by rw[<-HX.out];go_simp
 have zX:w.heap.size<X.heap.size:=by rw[<-HX.out];simp
 have KX:Hid (J w.heap.size w X):=by rw[<-HX.out];show J _ _ _;go_grown
 clear HX;refine(Vk s X HS.out (HG.out.below KX.out)).mono ?_;rintro e u0 ⟨hop,hb⟩;replace x0:=cyE hb x0;replace x1:=cyE hb x1;replace zX:w.heap.size<u0.heap.size:=d zX hb.size;replace KX:=hd (Qb KX.out hb)
 clear hb;rw[h8.out]at hop;have h6:Hid (opA io e):=hop;clear hop
 obtain⟨tx,ok,HE,H6⟩: ∃(tx:ByteArray) (ok:Bool),Hid (e= G (D #[K tx,F ok]))/\Hid (io=if ok=true then some tx else none):=by
  cases io with
  | none=>exact⟨⟨#[]⟩,false,h6.out,rfl⟩
  | some t=>exact⟨t,true,h6.out,rfl⟩
 rw[HE.out];clear HE h6;go_wp2_with fail
 refine(YZ _ (HR.out.below KX.out) (HG.out.below KX.out)).mono ?_;rintro e u1 ⟨rfl,hb⟩;replace x0:=cyE hb x0;replace x1:=cyE hb x1;replace zX:w.heap.size<u1.heap.size:=d zX hb.size;replace KX:=hd (Qb KX.out hb);clear hb
 rw[h5.out];cases ck
 ·have HV:Hid (enF C R S n p q s=none):=Qha h5.out;go_wp2_with fail
  refine z (v:= D #[f none 0 0,F false]) ?_ rfl ⟨?_,KX.out⟩
  ·simp (maxDischargeDepth:=9) [E,results52,go_sem, *]
  ·rw[HV.out];exact rfl
 go_wp2_with fail
 refine(Zu p q _).mono ?_;rintro e u2 ⟨rfl,hb⟩;replace x0:=cyE hb x0;replace x1:=cyE hb x1;replace zX:w.heap.size<u2.heap.size:=d zX hb.size;replace KX:=hd (Qb KX.out hb);clear hb
 rw[h1.out];cases rk
 ·have HV:Hid (enF C R S n p q s=none):=Qao h1.out;go_wp2_with fail
  refine z (v:= D #[f none 0 0,F false]) ?_ rfl ⟨?_,KX.out⟩
  ·simp (maxDischargeDepth:=9) [E,results52,go_sem, *]
  ·rw[HV.out];exact rfl
 cases ok
 ·have HV:Hid (enF C R S n p q s=none):=Qg9 (h8.out.trans H6.out);go_wp2_with fail
  refine z (v:= D #[f none 0 0,F false]) ?_ rfl ⟨?_,KX.out⟩
  ·simp (maxDischargeDepth:=9) [E,results52,go_sem, *]
  ·rw[HV.out];exact rfl
 have g4:Hid (inF s=some tx):=h8.out.trans H6.out;obtain⟨hn,H3,H2⟩:=Yj h5.out;have H7:Hid ((clE C R S n).Pairwise (fun a b=>ltC a b=true)):=H2;have g2:Hid (∀i,i<n->Qf (C i) (R i)=true):=H3;have HV:Hid (enF C R S n p q s=if 120<(Xj ⟨p,q,tx⟩ (clE C R S n)).length then none else some (Xj ⟨p,q,tx⟩ (clE C R S n))):=Qg8 h5.out h1.out g4.out;clear H2 H3;go_wp2_with fail
 obtain⟨kl,H4⟩:=EU (n:=n) g2.out;have H9:Hid (∀i,i<n->keyOf prog 26 (O #[g u (C i),g u (R i)])=some (kl i)):=H4;obtain⟨k0,H5⟩:=BK h1.out;have h7:Hid (keyOf prog 26 (O #[g u p,g u q])=some k0):=H5;clear H4 H5;refine(Nm _ (HR.out.below KX.out) hn H9.out).mono ?_;rintro e u3 ⟨rfl,ho,hb⟩
 have HM:Hid (u3.ownsMap prog 26 YM u2.heap.size n (clD kl C R S n)):=ho;have g0:Hid (CmD (clD kl C R S n) (clE C R S n)):=Qoi n H9.out (Eg H7.out);have ZB:Hid (w.heap.size<=u2.heap.size):=KX.out.size;clear ho;replace x0:=cyE hb x0;replace x1:=cyE hb x1;replace zX:w.heap.size<u3.heap.size:=d zX hb.size
 replace KX:=hd (Qb KX.out hb);clear hb;go_wp2_with fail
 refine(Qcx (B:=w.heap.size) (s:=tx) u3 HM.out ZB.out (by omega) h7.out).mono ?_;rintro e u4 ⟨rfl,⟨m4,hm4,ho⟩,hb⟩;obtain⟨D4,H0⟩: ∃D4,Hid ((if tx.toList.isEmpty=true then(clD kl C R S n).del k0 else(clD kl C R S n).put k0 (.held (O #[g u p,g u q,K tx])))=D4):=⟨_,rfl⟩;rw[H0.out]at ho;obtain⟨E4,h9⟩: ∃E4:List CL,Hid ((if tx.toList.isEmpty=true then Kg p q (clE C R S n)else Kg p q (clE C R S n)++ [(⟨p,q,tx⟩:CL)])=E4):=⟨_,rfl⟩;have h2:Hid (u4.ownsMap prog 26 YM u2.heap.size m4 D4):=ho
 have g1:Hid (CmD D4 E4):=by
  show CmD D4 E4;rw[<-H0.out,<-h9.out];by_cases he:tx.toList.isEmpty=true
  ·rw[pS he,pS he];exact g0.out.off h7.out
  ·rw[nG he,nG he];exact g0.out.on (Mj kl C R S n) (x:=⟨p,q,tx⟩) h7.out
 have H8:Hid ((Xj ⟨p,q,tx⟩ (clE C R S n)).Perm E4):=by
  show List.Perm _ _;rw[<-h9.out];exact Yp ⟨p,q,tx⟩ _
 obtain⟨mm,h3⟩: ∃mm,Hid ((Xj ⟨p,q,tx⟩ (clE C R S n)).length=mm):=⟨_,rfl⟩;have h4:Hid (E4.length=mm):=by show _=_;rw[<-H8.out.length_eq,h3.out]
 have H1:Maps.size D4=mm:=by rw[g1.out.size h2.out,h4.out]
 replace KX:Hid (J w.heap.size w u4):=KX.out.trans hb;clear ho hb x0 x1 H0 h9;by_cases h0:120<mm
 ·have q1:(120:Int)<((mm:Nat):Int):=by omega
  go_wp2_with (first
   | (at_len;refine wpList_len_own _ rfl _ 90 rfl 26 70 underlying90 _ u2.heap.size m4 D4 rfl h2.out ?_;rw[H1])
   | fail)
  go_wp2_with fail
  refine z (v:= D #[f none 0 0,F false]) ?_ rfl ⟨?_,KX.out⟩
  ·simp (maxDischargeDepth:=9) [E,results52,go_sem, *]
  ·rw[HV.out,h3.out,pS h0];exact rfl
 ·have q1: ¬(120:Int)<((mm:Nat):Int):=by omega
  go_wp2_with (first
   | (at_len;refine wpList_len_own _ rfl _ 90 rfl 26 70 underlying90 _ u2.heap.size m4 D4 rfl h2.out ?_;rw[H1])
   | fail)
  go_wp2_with fail
  refine(Vj _ h2.out g1.out (by rw[h4.out];omega)).mono ?_;rintro e u5 ⟨A',c',M,rfl,hp,hpw,ho,hb⟩;have g3:Hid (M=Xj ⟨p,q,tx⟩ (clE C R S n)):=Qad hpw (Mb H7.out) (hp.trans H8.out.symm);rw[g3.out,h4.out]at ho;rw[h4.out];have HO:Hid (u5.ownsRow w.heap.size 70 3 (f A' mm c') mm (QH CL.cs (Xj ⟨p,q,tx⟩ (clE C R S n)))):=Go.Proofs.ownsRow_base_a ho KX.out.size;replace KX:=hd (Qb KX.out hb)
  clear ho hb hp hpw;go_wp2_with fail
  refine z (v:= D #[f A' mm c',F true]) ?_ rfl ⟨?_,KX.out⟩
  ·simp (maxDischargeDepth:=9) [E,results52,go_sem, *]
  ·rw[HV.out,h3.out,nG h0];exact⟨A',c',mm,rfl,h3.out,HO.out⟩
def XH(L:List CL)(i:Nat):Int:=((L[i]?).map CL.c).getD 0
def XG(L:List CL)(i:Nat):Int:=((L[i]?).map CL.r).getD 0
def XT(L:List CL)(i:Nat):ByteArray:=((L[i]?).map CL.s).getD ⟨#[]⟩
theorem Qfm(L:List CL):clE (XH L) (XG L) (XT L) L.length=L:=by
 apply List.ext_getElem (Yy _ _ _ _);intro i h1 h2;simp only[clE,List.getElem_map,List.getElem_range,XH,XG,XT,List.getElem?_eq_getElem h2,N,H]
theorem Qda(C R:Nat->Int)(S:Nat->ByteArray): ∀n,clX C R S n=QH CL.cs (clE C R S n)
 | 0=>rfl
 | n+1=>by rw[Df,Dh,BS,Qda C R S n];rfl
theorem YG(h:W.ownsRow B 70 3 (f A n cap) n (QH CL.cs L))(hL:L.length=n)(hs: ∀x∈L,x.s.size<=maxLen):ClRow W A n (XH L) (XG L) (XT L):=by
 subst hL;refine Qjj (B:=B) (cap:=cap) ?_ (fun i hi=> ?_)
 ·rw[Qda,Qfm];exact h
 ·simp only[XT,List.getElem?_eq_getElem hi,N,H];exact hs _ (List.getElem_mem hi)
theorem Qsk{B' cap':Nat}{A':Option Addr}(hL:L.length=n)(hs: ∀x∈L,x.s.size<=maxLen)(h:W.ownsRow B 70 3 (f A n cap) n (QH CL.cs L))(h':W.ownsRow B' 70 3 (f A' n cap') n (QH CL.cs L)):
  Calls prog 22 #[f A n cap,f A' n cap'] W fun e w'=>e= G (F true)/\J W.heap.size W w':=
 Ey W (YG h hL hs) (YG h' hL hs)
theorem Qry{r:Option (List CL)}{e:Ending}(h:EnR B w' r e): ∃A c,e= G (D #[f A (r.getD []).length c,F r.isSome])/\w'.ownsRow B 70 3 (f A (r.getD []).length c) (r.getD []).length (QH CL.cs (r.getD [])):=by
 cases r with
 | none=>exact⟨none,0,h,rfl,.inl ⟨rfl,rfl⟩⟩
 | some L=>
  obtain⟨A,c,m,he,hm,ho⟩:=h;subst hm;exact⟨A,c,he,ho⟩
theorem Qxb(hs: ∀i,i<n->(S i).size<=maxLen): ∀x∈(enF C R S n p q s).getD [],x.s.size<=maxLen:=by
 intro x hx;rw[enF]at hx;split at hx
 ·cases hi:inF s with
  | none=>rw[hi]at hx;cases hx
  | some t=>
   rw[hi]at hx;simp only at hx;split at hx
   ·cases hx
   ·have h9:=(Yp ⟨p,q,t⟩ (clE C R S n)).mem_iff.1 hx
    have hm: ∀y∈clE C R S n,y.s.size<=maxLen:=fun y hy=>by
     obtain⟨i,hi,rfl⟩:=List.mem_map.1 hy;exact hs i (List.mem_range.1 hi)
    split at h9
    ·exact hm x (offP_mem.1 h9).1
    ·rcases List.mem_append.1 h9 with h9 | h9
     ·exact hm x (offP_mem.1 h9).1
     ·rw[List.mem_singleton]at h9;subst h9;have:=Qbd hi;unfold maxLen;show t.size<=_;omega
 ·cases hx
theorem Qu3:((enF C R S n p q s).getD []).length<=120:=by
 rw[enF];split
 ·cases hi:inF s with
  | none=>simp
  | some t=>
   simp only;split
   ·simp
   ·simp only[H];omega
 ·simp
theorem Qv4{mn:Nat}{r:Option (List CL)}{xx:List Value}{ob:Bool}{e:Ending}(h1:r.getD []=L)(h2:L.length=mn)(h3:QH CL.cs L=xx)(h4:r.isSome=ob)(h:EnR B w' r e): ∃A c,e= G (D #[f A mn c,F ob])/\w'.ownsRow B 70 3 (f A mn c) mn xx:=by
 obtain⟨A,c,he,ho⟩:=Qry h;rw[h1,h2]at he ho;rw[h3]at ho;rw[h4]at he;exact⟨A,c,he,ho⟩
theorem Qye{B' n' s s':Nat}{e e':TypeId}{v v':Value}{xs xs':List Value}(h:W.ownsRow B e s v n xs)(hg:W.grownBy w' v.ownBlock)(h':W.ownsRow B' e' s' v' n' xs')(hb: ∀k,v'.ownBlock=some k->v.ownBlock≠some k):w'.ownsRow B' e' s' v' n' xs':=
 h'.kept hg (by
  cases hv:v'.ownBlock with
  | none=>exact Or.inl rfl
  | some q=>exact Or.inr (fun e=>hb q hv e.symm))
end Go.Proofs.YtomadadmakdkgaaGreatDoor
