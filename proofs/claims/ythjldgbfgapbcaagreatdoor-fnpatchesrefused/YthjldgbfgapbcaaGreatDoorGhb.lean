import Derived.Test.YthjldgbfgapbcaaGreatDoorMn
import Derived.Test.YthjldgbfgapbcaaGreatDoorGge
import Derived.Test.YthjldgbfgapbcaaGreatDoorGze
set_option linter.unusedSimpArgs false
set_option linter.unusedVariables false
set_option maxHeartbeats 8000000
set_option maxRecDepth 100000
namespace Go.Proofs.YthjldgbfgapbcaaGreatDoor
open Go.RowKit Go.Maps
theorem Qpv {W:World} {A:Option Addr} {n:Nat} {D:Nat→CH} (h:ChRow W A n D) {i:Nat} (hi:i<n):(D i).f.size≤maxLen∧(D i).t.size≤maxLen:=by
 obtain⟨_,_,_,_,_,_,_,_,h1,h2⟩:=h.2 i hi;exact⟨h1,h2⟩
theorem Qjm {A A':Option Addr} {n cap m cap':Nat} {C R:Nat→Int} {S:Nat→ByteArray} {D:Nat→CH} (w:World) (h:ClRow w A n C R S) (h':ChRow w A' m D):
  Calls Tryz.prog 16 #[.slice A n cap,.slice A' m cap'] w fun e w'=>EnR w.heap.size w' (paF C R S n D m) e∧Below w.heap.size w w':=by
 have HR:Hid (ClRow w A n C R S):=h;have HD:Hid (ChRow w A' m D):=h';have HSS:Hid (∀i,i<n→(S i).size≤maxLen):=fun i hi=>by obtain⟨_,_,_,_,_,_,_,h9⟩:=h.2 i hi;exact h9
 obtain⟨i0,hi,iz0,iz1,iz2⟩:=info_parts Qax;have HI:Hid (_=_):=hi;clear h h' hi;obtain⟨ck,HCK⟩: ∃ck,Hid (QC C R S n=ck):=⟨_,rfl⟩;go_enter Tryz.func16,Tryz.ntmps16;go_wp2_with fail
 refine(YX _ HR.out).mono ?_;rintro e u1 ⟨rfl,hb⟩;have K1:Hid (Below w.heap.size w u1):=hb;clear hb;rw [HCK.out];cases ck
 ·have HV:Hid (paF C R S n D m=none):=Qbv HCK.out;go_wp2_with fail
  refine bodyPost_ret (v:= .tuple #[.slice none 0 0,.bool false]) ?_ rfl ⟨?_,K1.out⟩
  ·simp (maxDischargeDepth:=9) [results,Tryz.results16,go_sem, *]
  ·rw [HV.out];exact rfl
 by_cases hm:360<m
 ·have HV:Hid (paF C R S n D m=none):=Qbu hm;have q1:(360:Int)<((m:Nat):Int):=by omega
  go_wp2_with fail
  refine bodyPost_ret (v:= .tuple #[.slice none 0 0,.bool false]) ?_ rfl ⟨?_,K1.out⟩
  ·simp (maxDischargeDepth:=9) [results,Tryz.results16,go_sem, *]
  ·rw [HV.out];exact rfl
 have q1: ¬(360:Int)<((m:Nat):Int):=by omega
 have hn:n≤120:=(VG HCK.out).1;have HP0:Hid (PaI n 0 (clE C R S n)):=PaI.start HCK.out HSS.out;have HR1:=hd (HR.out.below K1.out);have HE0:Hid ((u1.alloc (.cells #[] 49)).ownsRow u1.heap.size 49 3 (.slice (some ⟨u1.heap.size,0,none⟩) 0 0) 0 []):=Vk (Nat.le_refl _) rfl;have HR2:Hid (ClRow (u1.alloc (.cells #[] 49)) A n C R S):=by exact HR1.out.below ((Below.refl _ _).alloc (Nat.le_refl _) _)
 go_wp2_with (first
  | (at_builtin;refine ND 24 49 i0 (.agg #[.int .i64 0,.int .i64 0,.string ⟨#[]⟩]) 3 32 Tryz.underlying24 HI.out iz0 iz1 iz2 rfl (by decide) rfl _ _ rfl u1.heap.size (by simp) _ rfl HE0.out A n cap (clX C R S n) rfl (Oy C R S n) (Qml HR2.out) (Qhr HR2.out) (Qmm C R S n) HR2.out.1 (by omega) ?_)
  | fail)
 intro A2 c2 u2 ho hg;have HO2:Hid (u2.ownsRow u1.heap.size 49 3 (.slice A2 n c2) n (Zb CL.cs (clE C R S n))):=by rw [←Ml];exact ho
 have K2:Hid (Below u1.heap.size u1 u2):=((Below.refl _ _).alloc (Nat.le_refl _) _).grown hg (by simp) (fun j hj=>(HE0.out.lt j hj).1);clear ho hg HE0 HR2 HR1 HI;go_wp2_with fail
 go_loopw [6,7] (fun v i wr=> ∃(t:Nat) (L:List CL) (F:Option Addr) (k c:Nat),t≤m∧v= .slice F k c∧i= .int .i64 t∧Yt D (clE C R S n) t=some L∧L.length=k∧wr.ownsRow u1.heap.size 49 3 (.slice F k c) k (Zb CL.cs L)∧Below u1.heap.size u1 wr) (fun _ i _=>m-(intOf i).toNat)
 case atStart=>exact⟨0,_,A2,n,c2,Nat.zero_le _,rfl,rfl,rfl,YP _ _ _ _,HO2.out,K2.out⟩
 case round=>
  clear HO2 K2;obtain⟨t,L,F,k,c,ht,rfl,rfl,hrun,hkl,hown,hbel⟩:=hrel;have HRUN:Hid (Yt D (clE C R S n) t=some L):=hrun;have HPI:Hid (PaI n t L):=HP0.out.run t hrun;have HKL:Hid (L.length=k):=hkl;have hk480:k≤10000:=by rw [←hkl];have:=HPI.out.len;omega
  have HOW:Hid (wr.ownsRow u1.heap.size 49 3 (.slice F k c) k (Zb CL.cs L)):=hown;have KV:Hid (Below u1.heap.size u1 wr):=hbel;have KA:Hid (Below w.heap.size w wr):=K1.out.trans (hbel.mono K1.out.size);clear hrun hkl hown hbel;by_cases hlt:t<m
  ·obtain⟨b,o,rfl,hl,c0,c1,c2,c3,hsf,hst⟩:=HD.out.2 t hlt;obtain⟨X,HX⟩: ∃X:CH,Hid (D t=X):=⟨_,rfl⟩;rw [HX.out]at c0 c1 c2 c3 hsf hst;rw [←KA.out.cell (p:=⟨_,_,none⟩) hl]at c0 c1 c2 c3;have hl2:b<wr.heap.size:=Nat.lt_of_lt_of_le hl KA.out.size;have HST:Hid (X.t.size≤maxLen):=hst;have HNX:Hid (∀v,VZ L X=v→Yt D (clE C R S n) (t+1)=v):=fun v hv=>by rw [Vj HRUN.out,HX.out,hv]
   have HNO:Hid (VZ L X=none→paF C R S n D m=none):=fun hv=>Qbt HRUN.out (by rw [HX.out];exact hv) hlt;have q0:(0:Int)≤(t:Int):=by omega
   have q2:(t:Int)<(m:Int):=by omega
   clear hl hsf hst;obtain⟨xc,HXC⟩: ∃xc:Int,Hid (X.c=xc):=⟨_,rfl⟩;obtain⟨xr,HXR⟩: ∃xr:Int,Hid (X.r=xr):=⟨_,rfl⟩;obtain⟨xf,HXF⟩: ∃xf:ByteArray,Hid (X.f=xf):=⟨_,rfl⟩;obtain⟨xt,HXT⟩: ∃xt:ByteArray,Hid (X.t=xt):=⟨_,rfl⟩;rw [HXC.out]at c0;rw [HXR.out]at c1
   rw [HXF.out]at c2;rw [HXT.out]at c3;have HSZ:Hid (xt.size≤maxLen):=by show _≤_;rw [←HXT.out];exact HST.out
   clear HST;obtain⟨io,HIO⟩: ∃io,Hid (inF xt=io):=⟨_,rfl⟩;obtain⟨rk,HRK⟩: ∃rk,Hid (Qj xc xr=rk):=⟨_,rfl⟩;obtain⟨sa,HAT⟩: ∃sa,Hid (atC xc xr (clE (Ec L) (Eb L) (MN L) k)=sa):=⟨_,rfl⟩;have HAL:Hid (atC xc xr L=sa):=by show _=_;rw [←HAT.out,←HKL.out,Qa0]
   go_wp2_with fail
   refine(Zg xt _ HSZ.out).mono ?_;rintro e u3 ⟨hop,hb⟩;rw [←hb.cell (p:=⟨_,_,none⟩) hl2]at c0 c1 c2 c3;have hl3:b<u3.heap.size:=Nat.lt_of_lt_of_le hl2 hb.size;have K3:=hd (Qe KA.out hb);have KV3:=hd (Qe KV.out hb);have HO3:=hd (Ql HOW.out hb)
   have HR3:Hid (ClRow u3 F k (Ec L) (Eb L) (MN L)):=UK HO3.out HKL.out HPI.out.sz;have z13:u1.heap.size≤u3.heap.size:=KV3.out.size;rw [HIO.out]at hop;have HOP:Hid (opA io e):=hop;clear hop hb hl2 HOW KV KA
   obtain⟨tx,ok,HE,HTX⟩: ∃(tx:ByteArray) (ok:Bool),Hid (e= .returned (.tuple #[.string tx,.bool ok]))∧Hid (io=if ok=true then some tx else none):=by
    cases io with
    | none=>exact⟨⟨#[]⟩,false,HOP.out,rfl⟩
    | some t=>exact⟨t,true,HOP.out,rfl⟩
   rw [HE.out];clear HE HOP
   have HOB:Hid (JQ xt=(ok&&(tx.toList==xt.toList))):=by
    show _=_;unfold JQ;rw [HIO.out,HTX.out];cases ok<;>rfl
   go_upto_region 8 with fail
   cases rk
   ·have HV:Hid (paF C R S n D m=none):=HNO.out (BF (by rw [HXC.out,HXR.out];exact HRK.out));refine wp_region_held_drew (S:=(fun w'=>(∀bq oq,bq<u3.heap.size→w'.cell? ⟨bq,oq,none⟩=u3.cell? ⟨bq,oq,none⟩)∧u3.heap.size≤w'.heap.size∧Below u3.heap.size u3 w')) (by kernel_rfl) (Qm (by go_size) (by go_grown)) (fun hHeld=> ?_);refine tkA 0 ?_;refine tkB 1 ?_;refine tkA 2 ?_;refine tkB 3 ?_;refine tkB 4 ?_
    refine rqA 5 (fun Kq hKq=> ?_);go_simp
    (refine(Qu _ _ _).mono ?_;rintro e w1 ⟨rfl,hb⟩;rw [HRK.out];obtain⟨hk1,hz1⟩:=Qi (B:=u3.heap.size) (X:=u3) (by go_grown) (by go_size) hb;have hC:=fun b o h=>hk1.cell (p:=⟨b,o,none⟩) h;clear hb)
    refine hkB hKq (Qm (by go_size) (by go_grown)) fun hHeld=> ?_;clear hKq Kq;refine tkA 6 ?_;refine tkB 7 ?_;refine tnA 8 ?_;refine tnB 9 ?_;refine tkA 10 ?_
    refine tkB 11 ?_;refine tnA 12 ?_;refine tnB 13 ?_;refine tnA 14 ?_;refine tnB 15 ?_;refine tnA 16 ?_;refine tnB 17 ?_
    refine tnA 18 ?_;refine tkB 19 ?_;refine tkA 20 ?_;refine tnB 21 ?_;refine tnA 22 ?_;refine tnB 23 ?_;refine tnA 24 ?_
    refine tnB 25 ?_;refine tnA 26 ?_;refine tnB 27 ?_;refine tnA 28 ?_;refine tnB 29 ?_;refine tnA 30 ?_;refine tnB 31 ?_
    refine tnA 32 ?_;refine tnB 33 ?_;refine tkB 34 ?_;refine wpAnyH_done (by kernel_rfl) ?_ _;go_wp2_with fail
    refine bodyPost_ret (v:= .tuple #[.slice none 0 0,.bool false]) ?_ rfl ⟨?_,Qe K3.out (by go_grown)⟩
    ·simp (maxDischargeDepth:=9) [results,Tryz.results16,go_sem, *]
    ·rw [HV.out];exact rfl
   cases ok
   ·have HV:Hid (paF C R S n D m=none):=HNO.out (Mb (by rw [HXT.out,HOB.out];rfl));refine wp_region_held_drew (S:=(fun w'=>(∀bq oq,bq<u3.heap.size→w'.cell? ⟨bq,oq,none⟩=u3.cell? ⟨bq,oq,none⟩)∧u3.heap.size≤w'.heap.size∧Below u3.heap.size u3 w')) (by kernel_rfl) (Qm (by go_size) (by go_grown)) (fun hHeld=> ?_);refine tkA 0 ?_;refine tkB 1 ?_;refine tkA 2 ?_;refine tkB 3 ?_;refine tkB 4 ?_
    refine rqA 5 (fun Kq hKq=> ?_);go_simp
    (refine(Qu _ _ _).mono ?_;rintro e w1 ⟨rfl,hb⟩;rw [HRK.out];obtain⟨hk1,hz1⟩:=Qi (B:=u3.heap.size) (X:=u3) (by go_grown) (by go_size) hb;have hC:=fun b o h=>hk1.cell (p:=⟨b,o,none⟩) h;clear hb)
    refine hkB hKq (Qm (by go_size) (by go_grown)) fun hHeld=> ?_;clear hKq Kq;refine tkA 6 ?_;refine tkB 7 ?_;refine tkA 8 ?_;refine tkB 9 ?_;refine tkA 10 ?_
    refine tkB 11 ?_;refine tnA 12 ?_;refine tnB 13 ?_;refine tnA 14 ?_;refine tnB 15 ?_;refine tnA 16 ?_;refine tnB 17 ?_
    refine tnA 18 ?_;refine tkB 19 ?_;refine tkA 20 ?_;refine tnB 21 ?_;refine tnA 22 ?_;refine tnB 23 ?_;refine tnA 24 ?_
    refine tnB 25 ?_;refine tnA 26 ?_;refine tnB 27 ?_;refine tnA 28 ?_;refine tnB 29 ?_;refine tnA 30 ?_;refine tnB 31 ?_
    refine tnA 32 ?_;refine tnB 33 ?_;refine tkB 34 ?_;refine wpAnyH_done (by kernel_rfl) ?_ _;go_wp2_with fail
    refine bodyPost_ret (v:= .tuple #[.slice none 0 0,.bool false]) ?_ rfl ⟨?_,Qe K3.out (by go_grown)⟩
    ·simp (maxDischargeDepth:=9) [results,Tryz.results16,go_sem, *]
    ·rw [HV.out];exact rfl
   obtain⟨ow,HOWN⟩: ∃ow,Hid ((tx.toList==xt.toList)=ow):=⟨_,rfl⟩;have how:=HOWN.out;cases ow
   ·have HV:Hid (paF C R S n D m=none):=HNO.out (Mb (by rw [HXT.out,HOB.out,HOWN.out];rfl));refine wp_region_held_drew (S:=(fun w'=>(∀bq oq,bq<u3.heap.size→w'.cell? ⟨bq,oq,none⟩=u3.cell? ⟨bq,oq,none⟩)∧u3.heap.size≤w'.heap.size∧Below u3.heap.size u3 w')) (by kernel_rfl) (Qm (by go_size) (by go_grown)) (fun hHeld=> ?_);refine tkA 0 ?_;refine tkB 1 ?_;refine tkA 2 ?_;refine tkB 3 ?_;refine tkB 4 ?_
    refine rqA 5 (fun Kq hKq=> ?_);go_simp
    (refine(Qu _ _ _).mono ?_;rintro e w1 ⟨rfl,hb⟩;rw [HRK.out];obtain⟨hk1,hz1⟩:=Qi (B:=u3.heap.size) (X:=u3) (by go_grown) (by go_size) hb;have hC:=fun b o h=>hk1.cell (p:=⟨b,o,none⟩) h;clear hb)
    refine hkB hKq (Qm (by go_size) (by go_grown)) fun hHeld=> ?_;clear hKq Kq;refine tkA 6 ?_;refine tkB 7 ?_;refine tkA 8 ?_;refine tkB 9 ?_;refine tkA 10 ?_
    refine tkB 11 ?_;refine tkA 12 ?_;refine tkB 13 ?_;refine tkA 14 ?_;refine tkB 15 ?_;refine tkA 16 ?_;refine tkB 17 ?_
    refine tkA 18 ?_;refine tkB 19 ?_;refine tkA 20 ?_;refine tnB 21 ?_;refine tnA 22 ?_;refine tnB 23 ?_;refine tnA 24 ?_
    refine tnB 25 ?_;refine tnA 26 ?_;refine tnB 27 ?_;refine tnA 28 ?_;refine tnB 29 ?_;refine tnA 30 ?_;refine tnB 31 ?_
    refine tnA 32 ?_;refine tnB 33 ?_;refine tkB 34 ?_;refine wpAnyH_done (by kernel_rfl) ?_ _;go_wp2_with fail
    refine bodyPost_ret (v:= .tuple #[.slice none 0 0,.bool false]) ?_ rfl ⟨?_,Qe K3.out (by go_grown)⟩
    ·simp (maxDischargeDepth:=9) [results,Tryz.results16,go_sem, *]
    ·rw [HV.out];exact rfl
   have HOK:Hid (JQ xt=true):=by show _=_;rw [HOB.out,HOWN.out];rfl
   obtain⟨sm,HSM⟩: ∃sm,Hid ((sa.toList==xf.toList)=sm):=⟨_,rfl⟩;have hsm:=HSM.out;cases sm
   ·have HV:Hid (paF C R S n D m=none):=HNO.out (BD (by rw [HXC.out,HXR.out,HXF.out,HAL.out];exact HSM.out));refine wp_region_held_drew (S:=(fun w'=>(∀bq oq,bq<u3.heap.size→w'.cell? ⟨bq,oq,none⟩=u3.cell? ⟨bq,oq,none⟩)∧u3.heap.size≤w'.heap.size∧Below u3.heap.size u3 w')) (by kernel_rfl) (Qm (by go_size) (by go_grown)) (fun hHeld=> ?_);refine tkA 0 ?_;refine tkB 1 ?_;refine tkA 2 ?_;refine tkB 3 ?_;refine tkB 4 ?_
    refine rqA 5 (fun Kq hKq=> ?_);go_simp
    (refine(Qu _ _ _).mono ?_;rintro e w1 ⟨rfl,hb⟩;rw [HRK.out];obtain⟨hk1,hz1⟩:=Qi (B:=u3.heap.size) (X:=u3) (by go_grown) (by go_size) hb;have hC:=fun b o h=>hk1.cell (p:=⟨b,o,none⟩) h;clear hb)
    refine hkB hKq (Qm (by go_size) (by go_grown)) fun hHeld=> ?_;clear hKq Kq;refine tkA 6 ?_;refine tkB 7 ?_;refine tkA 8 ?_;refine tkB 9 ?_;refine tkA 10 ?_
    refine tkB 11 ?_;refine tkA 12 ?_;refine tkB 13 ?_;refine tkA 14 ?_;refine tkB 15 ?_;refine tkA 16 ?_;refine tkB 17 ?_
    refine tkA 18 ?_;refine tkB 19 ?_;refine tkA 20 ?_;refine tkB 21 ?_;refine tkA 22 ?_;refine tkB 23 ?_;refine tkA 24 ?_
    refine tkB 25 ?_;refine tkA 26 ?_;refine tkB 28 ?_;refine tkA 29 ?_;refine tkB 30 ?_;refine tkA 31 ?_;refine tkB 32 ?_
    refine rqA 27 (fun Kq hKq=> ?_);go_simp
    (refine(Na _ _ _ (HR3.out.below (by go_grown))).mono ?_;rintro e w2 ⟨rfl,hb⟩;rw [HAT.out];obtain⟨hk2,hz2⟩:=Qi (B:=u3.heap.size) (X:=u3) (by go_grown) (by go_size) hb;have hC2:=fun b o h=>hk2.cell (p:=⟨b,o,none⟩) h;clear hb)
    refine hkB hKq (Qm (by go_size) (by go_grown)) fun hHeld=> ?_;clear hKq Kq;refine tkA 33 ?_;refine tkB 34 ?_;refine wpAnyH_done (by kernel_rfl) ?_ _;go_wp2_with fail
    refine bodyPost_ret (v:= .tuple #[.slice none 0 0,.bool false]) ?_ rfl ⟨?_,Qe K3.out (by go_grown)⟩
    ·simp (maxDischargeDepth:=9) [results,Tryz.results16,go_sem, *]
    ·rw [HV.out];exact rfl
   have HST:Hid (VZ L X=some (Xs ⟨xc,xr,xt⟩ L)):=by
    show _=_;rw [BC (by rw [HXC.out,HXR.out];exact HRK.out) (by rw [HXT.out];exact HOK.out) (by rw [HXC.out,HXR.out,HXF.out,HAL.out];exact HSM.out),HXC.out,HXR.out,HXT.out]
   have HNR:Hid (Yt D (clE C R S n) (t+1)=some (Xs ⟨xc,xr,xt⟩ L)):=HNX.out _ HST.out;have HEQ:Hid (Qcm ⟨xc,xr,xt⟩ (clE (Ec L) (Eb L) (MN L) k)=Xs ⟨xc,xr,xt⟩ L):=by show _=_;rw [←HKL.out,Qa0];exact(Bn HPI.out.rise).symm
   refine wp_region_held_drew (S:=(fun w'=>(∀bq oq,bq<u3.heap.size→w'.cell? ⟨bq,oq,none⟩=u3.cell? ⟨bq,oq,none⟩)∧u3.heap.size≤w'.heap.size∧Below u3.heap.size u3 w')) (by kernel_rfl) (Qm (by go_size) (by go_grown)) (fun hHeld=> ?_);refine tkA 0 ?_;refine tkB 1 ?_;refine tkA 2 ?_;refine tkB 3 ?_;refine tkB 4 ?_;refine rqA 5 (fun Kq hKq=> ?_)
   go_simp
   (refine(Qu _ _ _).mono ?_;rintro e w1 ⟨rfl,hb⟩;rw [HRK.out];obtain⟨hk1,hz1⟩:=Qi (B:=u3.heap.size) (X:=u3) (by go_grown) (by go_size) hb;have hC:=fun b o h=>hk1.cell (p:=⟨b,o,none⟩) h;clear hb)
   refine hkB hKq (Qm (by go_size) (by go_grown)) fun hHeld=> ?_;clear hKq Kq;refine tkA 6 ?_;refine tkB 7 ?_;refine tkA 8 ?_;refine tkB 9 ?_;refine tkA 10 ?_
   refine tkB 11 ?_;refine tkA 12 ?_;refine tkB 13 ?_;refine tkA 14 ?_;refine tkB 15 ?_;refine tkA 16 ?_;refine tkB 17 ?_
   refine tkA 18 ?_;refine tkB 19 ?_;refine tkA 20 ?_;refine tkB 21 ?_;refine tkA 22 ?_;refine tkB 23 ?_;refine tkA 24 ?_
   refine tkB 25 ?_;refine tkA 26 ?_;refine tkB 28 ?_;refine tkA 29 ?_;refine tkB 30 ?_;refine tkA 31 ?_;refine tkB 32 ?_
   refine rqA 27 (fun Kq hKq=> ?_);go_simp
   (refine(Na _ _ _ (HR3.out.below (by go_grown))).mono ?_;rintro e w2 ⟨rfl,hb⟩;rw [HAT.out];obtain⟨hk2,hz2⟩:=Qi (B:=u3.heap.size) (X:=u3) (by go_grown) (by go_size) hb;have hC2:=fun b o h=>hk2.cell (p:=⟨b,o,none⟩) h;clear hb)
   refine hkB hKq (Qm (by go_size) (by go_grown)) fun hHeld=> ?_;clear hKq Kq;refine tkA 33 ?_;refine tkB 34 ?_;refine wpAnyH_done (by kernel_rfl) ?_ _;go_upto_region 10 with fail
   refine wp_region_held_drew (S:=(fun w'=>(∀bq oq,bq<u3.heap.size→w'.cell? ⟨bq,oq,none⟩=u3.cell? ⟨bq,oq,none⟩)∧u3.heap.size≤w'.heap.size∧Below u3.heap.size u3 w')) (by kernel_rfl) (Qm (by go_size) (by go_grown)) (fun hHeld=> ?_);refine tkA 0 ?_;refine tkB 1 ?_;refine tkA 2 ?_;refine tkB 3 ?_;refine tkA 4 ?_;refine tkB 5 ?_
   refine tkA 6 ?_;refine tkB 7 ?_;refine tkA 8 ?_;refine tkB 9 ?_;refine tkB 10 ?_;refine rqA 11 (fun Kq hKq=> ?_);go_simp
   (refine(Ue _ (HR3.out.below (by go_grown)) hk480).mono ?_;rintro e w5 ⟨A5,c5,m5,rfl,hl5,ho5,hb⟩;rw [HEQ.out]at hl5 ho5;have HL5:Hid ((Xs ⟨xc,xr,xt⟩ L).length=m5):=hl5;have HO5:Hid (w5.ownsRow u1.heap.size 49 3 (.slice A5 m5 c5) m5 (Zb CL.cs (Xs ⟨xc,xr,xt⟩ L))):=Go.Proofs.ownsRow_base_a ho5 (by go_size);obtain⟨hk5,hz5⟩:=Qi (B:=u3.heap.size) (X:=u3) (by go_grown) (by go_size) hb;have hC5:=fun b o h=>hk5.cell (p:=⟨b,o,none⟩) h;clear hb;clear hl5 ho5)
   refine hkB hKq (Qm (by go_size) (by go_grown)) fun hHeld=> ?_;clear hKq Kq;refine tkB 12 ?_;refine wpAnyH_done (by kernel_rfl) ?_ _;go_wp2_with fail
   go_roundw
   case rel=>exact⟨t+1,_,A5,m5,c5,by omega,rfl,by go_num,HNR.out,HL5.out,Ql HO5.out (by go_grown),Qe KV3.out (by go_grown)⟩
   case measure=>simp [intOf];omega
  ·have h1: ¬(t:Int)<(m:Int):=by omega
   obtain rfl:m=t:=by omega
   have HV:Hid (paF C R S n D m=if 120<L.length then none else some L):=Qbw HCK.out (by omega) HRUN.out;by_cases h120:120<k
   ·have q3:(120:Int)<((k:Nat):Int):=by omega
    go_wp2_with fail
    refine bodyPost_ret (v:= .tuple #[.slice none 0 0,.bool false]) ?_ rfl ⟨?_,KA.out⟩
    ·simp (maxDischargeDepth:=9) [results,Tryz.results16,go_sem, *]
    ·rw [HV.out,HKL.out,if_pos h120];exact rfl
   ·have q3: ¬(120:Int)<((k:Nat):Int):=by omega
    go_wp2_with fail
    refine bodyPost_ret (v:= .tuple #[.slice F k c,.bool true]) ?_ rfl ⟨?_,KA.out⟩
    ·simp (maxDischargeDepth:=9) [results,Tryz.results16,go_sem, *]
    ·rw [HV.out,HKL.out,if_neg h120];exact⟨F,c,k,rfl,HKL.out,Go.Proofs.ownsRow_base_a HOW.out K1.out.size⟩
theorem Qc3 (w:World):(zeroValue 49).run Tryz.prog w= .ok (.agg #[.int .i64 0,.int .i64 0,.string ⟨#[]⟩]) w:=by kernel_rfl
theorem Qem (c r:Int) (s:ByteArray) (w:World):(Instr.field 49 (.agg #[.int .i64 c,.int .i64 r,.string s]) 1).run Tryz.prog w= .ok (.string s) w:=by kernel_rfl
theorem EN {W:World} {b n:Nat} {D:DataW Value} {p q:Int} {l:Lit} {v:Value} (hown:W.ownsMap Tryz.prog 38 YU b n D) (hl:keyOf Tryz.prog 38 (.agg #[.int .i64 p,.int .i64 q])=some l)
  (hv:D.atKey l (.held (.agg #[.int .i64 0,.int .i64 0,.string ⟨#[]⟩]))= .held v):(Instr.lookup 61 (.map (some b)) (.agg #[.int .i64 p,.int .i64 q]) false).run Tryz.prog W= .ok v W:=by
 obtain⟨u,ps,h1,h2⟩:=hown.lookup keyedRef Tryz.underlying61 (Qc3 W) (rfl:YU _=some (.held _,[])) hl;rw [hv]at h2;unfold YU at h2;simp at h2;rw [h1,h2.1]
theorem Ga {W W':World} {b n:Nat} {D:DataW Value} (ho:W.ownsMap Tryz.prog 38 YU b n D) (hb:Below W.heap.size W W'):W'.ownsMap Tryz.prog 38 YU b n D:=by
 have hl:=ho.lt;obtain⟨es,clock,h1,Ft,hs,hD⟩:=ho;exact⟨es,clock,(hb.block b hl).trans h1,Ft,hs,hD⟩
theorem Vv {B:Nat} {X W:World} {p:World→Prop} (h:SC B X W) (hp: ∀w',Below B X w'→p w'):((∀bq oq,bq<B→W.cell? ⟨bq,oq,none⟩=X.cell? ⟨bq,oq,none⟩)∧B≤W.heap.size∧Below B X W)∧p W:=⟨h,hp W h.2.2⟩
theorem Qjn {A A':Option Addr} {n cap m cap':Nat} {C R:Nat→Int} {S:Nat→ByteArray} {D:Nat→CH} (w:World) (h:ClRow w A n C R S) (h':ChRow w A' m D) (hg:GI w):
  Calls Tryz.prog 12 #[.slice A n cap,.slice A' m cap'] w fun e w'=>EnR w.heap.size w' (paF C R S n D m) e∧Below w.heap.size w w':=by
 have HR:Hid (ClRow w A n C R S):=h;have HD:Hid (ChRow w A' m D):=h';have HG:Hid (GI w):=hg;have HSS:Hid (∀i,i<n→(S i).size≤maxLen):=fun i hi=>by obtain⟨_,_,_,_,_,_,_,h9⟩:=h.2 i hi;exact h9
 clear h h' hg;obtain⟨ck,HCK⟩: ∃ck,Hid (QC C R S n=ck):=⟨_,rfl⟩;go_enter Tryz.func12,Tryz.ntmps12;go_wp2_with fail
 refine(Jb _ HR.out HG.out).mono ?_;rintro e u1 ⟨rfl,hb⟩;have K1:Hid (Below w.heap.size w u1):=hb;clear hb;rw [HCK.out];cases ck
 ·have HV:Hid (paF C R S n D m=none):=Qbv HCK.out;go_wp2_with fail
  refine bodyPost_ret (v:= .tuple #[.slice none 0 0,.bool false]) ?_ rfl ⟨?_,K1.out⟩
  ·simp (maxDischargeDepth:=9) [results,Tryz.results12,go_sem, *]
  ·rw [HV.out];exact rfl
 by_cases hm:360<m
 ·have HV:Hid (paF C R S n D m=none):=Qbu hm;have q1:(360:Int)<((m:Nat):Int):=by omega
  go_wp2_with fail
  refine bodyPost_ret (v:= .tuple #[.slice none 0 0,.bool false]) ?_ rfl ⟨?_,K1.out⟩
  ·simp (maxDischargeDepth:=9) [results,Tryz.results12,go_sem, *]
  ·rw [HV.out];exact rfl
 have q1: ¬(360:Int)<((m:Nat):Int):=by omega
 obtain⟨hn,hrf,hri⟩:=VG HCK.out;have HRF:Hid (∀i,i<n→Qj (C i) (R i)=true):=hrf;have HRI:Hid ((clE C R S n).Pairwise (fun a b=>ltC a b=true)):=hri;clear hrf hri;have HP0:Hid (PaI n 0 (clE C R S n)):=PaI.start HCK.out HSS.out;obtain⟨kl,hkl⟩:=Qbk (n:=n) HRF.out;have HKL:Hid (∀i,i<n→keyOf Tryz.prog 38 (.agg #[.int .i64 (C i),.int .i64 (R i)])=some (kl i)):=hkl
 clear hkl;go_wp2_with fail
 refine(JE _ (HR.out.below K1.out) hn HKL.out).mono ?_;rintro e u2 ⟨rfl,ho,hb⟩;obtain⟨g,HGG⟩: ∃g,Hid (u1.heap.size=g):=⟨_,rfl⟩;rw [HGG.out]at ho;rw [HGG.out];have HM:Hid (u2.ownsMap Tryz.prog 38 YU g n (clD kl C R S n)):=ho;have HCD:Hid (CmD (clD kl C R S n) (clE C R S n)):=Qi6 n HKL.out (Qek HRI.out)
 have HWG:Hid (w.heap.size≤g):=by show _≤_;rw [←HGG.out];exact K1.out.size
 have K2:=hd (Qe K1.out hb);clear ho hb HGG;go_wp2_with fail
 go_loopw [21] (fun i wr=> ∃(t:Nat) (L:List CL) (cnt:Nat) (Dm:DataW Value),t≤m∧i= .int .i64 t∧Yt D (clE C R S n) t=some L∧wr.ownsMap Tryz.prog 38 YU g cnt Dm∧CmD Dm L∧cnt≤n+t∧Below w.heap.size w wr) (fun i _=>m-(intOf i).toNat)
 case atStart=>exact⟨0,_,n,_,Nat.zero_le _,rfl,rfl,HM.out,HCD.out,by omega,K2.out⟩
 case round=>
  clear HM HCD K2;obtain⟨t,L,cnt,Dm,ht,rfl,hrun,hmap,hcm,hcnt,hbel⟩:=hrel;have HRUN:Hid (Yt D (clE C R S n) t=some L):=hrun;have HPI:Hid (PaI n t L):=HP0.out.run t hrun;have HMP:Hid (wr.ownsMap Tryz.prog 38 YU g cnt Dm):=hmap;have HCM:Hid (CmD Dm L):=hcm;have KA:Hid (Below w.heap.size w wr):=hbel
  clear hrun hmap hcm hbel;by_cases hlt:t<m
  ·obtain⟨b,o,rfl,hl,c0,c1,c2,c3,hsf,hst⟩:=HD.out.2 t hlt;obtain⟨Y,HY⟩: ∃Y:CH,Hid (D t=Y):=⟨_,rfl⟩;rw [HY.out]at c0 c1 c2 c3 hsf hst;rw [←KA.out.cell (p:=⟨_,_,none⟩) hl]at c0 c1 c2 c3;have hl2:b<wr.heap.size:=Nat.lt_of_lt_of_le hl KA.out.size;have HST:Hid (Y.t.size≤maxLen):=hst;have HNX:Hid (∀v,VZ L Y=v→Yt D (clE C R S n) (t+1)=v):=fun v hv=>by rw [Vj HRUN.out,HY.out,hv]
   have HNO:Hid (VZ L Y=none→paF C R S n D m=none):=fun hv=>Qbt HRUN.out (by rw [HY.out];exact hv) hlt;have q0:(0:Int)≤(t:Int):=by omega
   have q2:(t:Int)<(m:Int):=by omega
   clear hl hsf hst;obtain⟨xc,HXC⟩: ∃xc:Int,Hid (Y.c=xc):=⟨_,rfl⟩;obtain⟨xr,HXR⟩: ∃xr:Int,Hid (Y.r=xr):=⟨_,rfl⟩;obtain⟨xf,HXF⟩: ∃xf:ByteArray,Hid (Y.f=xf):=⟨_,rfl⟩;obtain⟨xt,HXT⟩: ∃xt:ByteArray,Hid (Y.t=xt):=⟨_,rfl⟩;rw [HXC.out]at c0;rw [HXR.out]at c1
   rw [HXF.out]at c2;rw [HXT.out]at c3;have HSZ:Hid (xt.size≤maxLen):=by show _≤_;rw [←HXT.out];exact HST.out
   clear HST;obtain⟨rk,HRK⟩: ∃rk,Hid (Qj xc xr=rk):=⟨_,rfl⟩;obtain⟨ob,HOB⟩: ∃ob,Hid (JQ xt=ob):=⟨_,rfl⟩;obtain⟨sa,HAT⟩: ∃sa,Hid (atC xc xr L=sa):=⟨_,rfl⟩;go_upto_region 7 with fail
   obtain⟨X,HX⟩: ∃X,Hid (wr.alloc (.cells #[.int .i64 xc,.int .i64 xr,.string xf,.string xt] 40)=X):=⟨_,rfl⟩;rw [HX.out];have x0:X.cell? ⟨wr.heap.size,0,none⟩=some (.int .i64 xc):=by rw [←HX.out];go_simp
   have x1:X.cell? ⟨wr.heap.size,1,none⟩=some (.int .i64 xr):=by rw [←HX.out];go_simp
   have x2:X.cell? ⟨wr.heap.size,2,none⟩=some (.string xf):=by rw [←HX.out];go_simp
   have x3:X.cell? ⟨wr.heap.size,3,none⟩=some (.string xt):=by rw [←HX.out];go_simp
   have zX:wr.heap.size<X.heap.size:=by rw [←HX.out];simp
   have KW:Hid (Below wr.heap.size wr X):=by rw [←HX.out];show Below _ _ _;go_grown
   have KX:=hd (Qe KA.out KW.out);have HGX:=hd (HG.out.below KX.out);have HMX:Hid (X.ownsMap Tryz.prog 38 YU g cnt Dm):=Ga HMP.out KW.out;clear HX c0 c1 c2 c3 hl2 KW KA HMP;cases rk
   ·have HV:Hid (paF C R S n D m=none):=HNO.out (BF (by rw [HXC.out,HXR.out];exact HRK.out));refine wp_region_held_drew (S:=(fun w'=>(∀bq oq,bq<X.heap.size→w'.cell? ⟨bq,oq,none⟩=X.cell? ⟨bq,oq,none⟩)∧X.heap.size≤w'.heap.size∧Below X.heap.size X w')) (by kernel_rfl) (Qm (by go_size) (by go_grown)) (fun hHeld=> ?_);refine tkA 0 ?_;refine tkB 1 ?_;refine rqA 2 (fun Kq hKq=> ?_);go_simp
    (refine(QN _ _ _).mono ?_;rintro e w1 ⟨rfl,hb⟩;rw [HRK.out];obtain⟨hk1,hz1⟩:=Qi (B:=X.heap.size) (X:=X) (by go_grown) (by go_size) hb;have hC:=fun b o h=>hk1.cell (p:=⟨b,o,none⟩) h;clear hb)
    refine hkB hKq (Qm (by go_size) (by go_grown)) fun hHeld=> ?_;clear hKq Kq;refine tkA 3 ?_;refine tkB 4 ?_;refine tnA 5 ?_;refine tnB 6 ?_;refine tnA 7 ?_
    refine tnB 8 ?_;refine tkA 9 ?_;refine tkB 10 ?_;refine tnA 11 ?_;refine tnB 12 ?_;refine tnA 13 ?_;refine tnB 14 ?_
    refine tnA 15 ?_;refine tnB 16 ?_;refine tnA 17 ?_;refine tnB 18 ?_;refine tkB 19 ?_;refine wpAnyH_done (by kernel_rfl) ?_ _;go_wp2_with fail
    refine bodyPost_ret (v:= .tuple #[.slice none 0 0,.bool false]) ?_ rfl ⟨?_,Qe KX.out (by go_grown)⟩
    ·simp (maxDischargeDepth:=9) [results,Tryz.results12,go_sem, *]
    ·rw [HV.out];exact rfl
   cases ob
   ·have HV:Hid (paF C R S n D m=none):=HNO.out (Mb (by rw [HXT.out];exact HOB.out));refine wp_region_held_drew (S:=(fun w'=>(∀bq oq,bq<X.heap.size→w'.cell? ⟨bq,oq,none⟩=X.cell? ⟨bq,oq,none⟩)∧X.heap.size≤w'.heap.size∧Below X.heap.size X w')) (by kernel_rfl) (Qm (by go_size) (by go_grown)) (fun hHeld=> ?_);refine tkA 0 ?_;refine tkB 1 ?_;refine rqA 2 (fun Kq hKq=> ?_);go_simp
    (refine(QN _ _ _).mono ?_;rintro e w1 ⟨rfl,hb⟩;rw [HRK.out];obtain⟨hk1,hz1⟩:=Qi (B:=X.heap.size) (X:=X) (by go_grown) (by go_size) hb;have hC:=fun b o h=>hk1.cell (p:=⟨b,o,none⟩) h;clear hb)
    refine hkB hKq (Qm (by go_size) (by go_grown)) fun hHeld=> ?_;clear hKq Kq;refine tkA 3 ?_;refine tkB 4 ?_;refine tkA 5 ?_;refine tkB 6 ?_;refine rqA 7 (fun Kq hKq=> ?_)
    go_simp
    (refine(Zk _ _ HSZ.out (HGX.out.below (by go_grown))).mono ?_;rintro e w2 ⟨rfl,hb⟩;rw [HOB.out];obtain⟨hk2,hz2⟩:=Qi (B:=X.heap.size) (X:=X) (by go_grown) (by go_size) hb;have hC2:=fun b o h=>hk2.cell (p:=⟨b,o,none⟩) h;clear hb)
    refine hkB hKq (Qm (by go_size) (by go_grown)) fun hHeld=> ?_;clear hKq Kq;refine tkA 8 ?_;refine tkB 9 ?_;refine tkA 10 ?_;refine tnB 11 ?_;refine tnA 12 ?_
    refine tnB 13 ?_;refine tnA 14 ?_;refine tnB 15 ?_;refine tnA 16 ?_;refine tnB 17 ?_;refine tnA 18 ?_;refine tkB 19 ?_
    refine wpAnyH_done (by kernel_rfl) ?_ _;go_wp2_with fail
    refine bodyPost_ret (v:= .tuple #[.slice none 0 0,.bool false]) ?_ rfl ⟨?_,Qe KX.out (by go_grown)⟩
    ·simp (maxDischargeDepth:=9) [results,Tryz.results12,go_sem, *]
    ·rw [HV.out];exact rfl
   obtain⟨k0,hk0⟩:=Qd6 HRK.out;have HK0:Hid (keyOf Tryz.prog 38 (.agg #[.int .i64 xc,.int .i64 xr])=some k0):=hk0;obtain⟨lc,lr,hlk⟩:=HCM.out.look hk0;rw [HAT.out]at hlk;have HLK:Hid (∀w',Below X.heap.size X w'→(Instr.lookup 61 (.map (some g)) (.agg #[.int .i64 xc,.int .i64 xr]) false).run Tryz.prog w'= .ok (.agg #[.int .i64 lc,.int .i64 lr,.string sa]) w'):=fun w' hb=>EN (Ga HMX.out hb) HK0.out hlk;have hfl:=Qem lc lr sa;obtain⟨sm,HSM⟩: ∃sm,Hid ((sa.toList==xf.toList)=sm):=⟨_,rfl⟩
   have hsm:=HSM.out;clear hk0 hlk;cases sm
   ·have HV:Hid (paF C R S n D m=none):=HNO.out (BD (by rw [HXC.out,HXR.out,HXF.out,HAT.out];exact HSM.out));refine wp_region_held_drew (S:=(fun w'=>((∀bq oq,bq<X.heap.size→w'.cell? ⟨bq,oq,none⟩=X.cell? ⟨bq,oq,none⟩)∧X.heap.size≤w'.heap.size∧Below X.heap.size X w')∧(Instr.lookup 61 (.map (some g)) (.agg #[.int .i64 xc,.int .i64 xr]) false).run Tryz.prog w'= .ok (.agg #[.int .i64 lc,.int .i64 lr,.string sa]) w')) (by kernel_rfl) (Vv (Qm (by go_size) (by go_grown)) HLK.out) (fun hHeld=> ?_);refine tkA 0 ?_;refine tkB 1 ?_;refine rqA 2 (fun Kq hKq=> ?_);go_simp
    (refine(QN _ _ _).mono ?_;rintro e w1 ⟨rfl,hb⟩;rw [HRK.out];obtain⟨hk1,hz1⟩:=Qi (B:=X.heap.size) (X:=X) (by go_grown) (by go_size) hb;have hC:=fun b o h=>hk1.cell (p:=⟨b,o,none⟩) h;clear hb)
    refine hkB hKq (Vv (Qm (by go_size) (by go_grown)) HLK.out) fun hHeld=> ?_;clear hKq Kq;refine tkA 3 ?_;refine tkB 4 ?_;refine tkA 5 ?_;refine tkB 6 ?_;refine rqA 7 (fun Kq hKq=> ?_)
    go_simp
    (refine(Zk _ _ HSZ.out (HGX.out.below (by go_grown))).mono ?_;rintro e w2 ⟨rfl,hb⟩;rw [HOB.out];obtain⟨hk2,hz2⟩:=Qi (B:=X.heap.size) (X:=X) (by go_grown) (by go_size) hb;have hC2:=fun b o h=>hk2.cell (p:=⟨b,o,none⟩) h;clear hb)
    refine hkB hKq (Vv (Qm (by go_size) (by go_grown)) HLK.out) fun hHeld=> ?_;clear hKq Kq;refine tkA 8 ?_;refine tkB 9 ?_;refine tkA 10 ?_;refine tkB 11 ?_;refine tkA 12 ?_
    refine tkB 13 ?_;refine tkA 14 ?_;refine tkB 15 ?_;refine tkA 16 ?_;refine tkB 17 ?_;refine tkA 18 ?_;refine tkB 19 ?_
    refine wpAnyH_done (by kernel_rfl) ?_ _;go_wp2_with fail
    refine bodyPost_ret (v:= .tuple #[.slice none 0 0,.bool false]) ?_ rfl ⟨?_,Qe KX.out (by go_grown)⟩
    ·simp (maxDischargeDepth:=9) [results,Tryz.results12,go_sem, *]
    ·rw [HV.out];exact rfl
   have HST:Hid (VZ L Y=some (Xs ⟨xc,xr,xt⟩ L)):=by
    show _=_;rw [BC (by rw [HXC.out,HXR.out];exact HRK.out) (by rw [HXT.out];exact HOB.out) (by rw [HXC.out,HXR.out,HXF.out,HAT.out];exact HSM.out),HXC.out,HXR.out,HXT.out]
   have HNR:Hid (Yt D (clE C R S n) (t+1)=some (Xs ⟨xc,xr,xt⟩ L)):=HNX.out _ HST.out;refine wp_region_held_drew (S:=(fun w'=>((∀bq oq,bq<X.heap.size→w'.cell? ⟨bq,oq,none⟩=X.cell? ⟨bq,oq,none⟩)∧X.heap.size≤w'.heap.size∧Below X.heap.size X w')∧(Instr.lookup 61 (.map (some g)) (.agg #[.int .i64 xc,.int .i64 xr]) false).run Tryz.prog w'= .ok (.agg #[.int .i64 lc,.int .i64 lr,.string sa]) w')) (by kernel_rfl) (Vv (Qm (by go_size) (by go_grown)) HLK.out) (fun hHeld=> ?_);refine tkA 0 ?_;refine tkB 1 ?_;refine rqA 2 (fun Kq hKq=> ?_);go_simp
   (refine(QN _ _ _).mono ?_;rintro e w1 ⟨rfl,hb⟩;rw [HRK.out];obtain⟨hk1,hz1⟩:=Qi (B:=X.heap.size) (X:=X) (by go_grown) (by go_size) hb;have hC:=fun b o h=>hk1.cell (p:=⟨b,o,none⟩) h;clear hb)
   refine hkB hKq (Vv (Qm (by go_size) (by go_grown)) HLK.out) fun hHeld=> ?_;clear hKq Kq;refine tkA 3 ?_;refine tkB 4 ?_;refine tkA 5 ?_;refine tkB 6 ?_;refine rqA 7 (fun Kq hKq=> ?_)
   go_simp
   (refine(Zk _ _ HSZ.out (HGX.out.below (by go_grown))).mono ?_;rintro e w2 ⟨rfl,hb⟩;rw [HOB.out];obtain⟨hk2,hz2⟩:=Qi (B:=X.heap.size) (X:=X) (by go_grown) (by go_size) hb;have hC2:=fun b o h=>hk2.cell (p:=⟨b,o,none⟩) h;clear hb)
   refine hkB hKq (Vv (Qm (by go_size) (by go_grown)) HLK.out) fun hHeld=> ?_;clear hKq Kq;refine tkA 8 ?_;refine tkB 9 ?_;refine tkA 10 ?_;refine tkB 11 ?_;refine tkA 12 ?_
   refine tkB 13 ?_;refine tkA 14 ?_;refine tkB 15 ?_;refine tkA 16 ?_;refine tkB 17 ?_;refine tkA 18 ?_;refine tkB 19 ?_
   refine wpAnyH_done (by kernel_rfl) ?_ _;go_wp2_with fail
   refine(Qgw (B:=w.heap.size) (s:=xt) _ (Ga HMX.out (by go_grown)) HWG.out (by omega) HK0.out).mono ?_;rintro e u4 ⟨rfl,⟨m4,hm4,ho⟩,hb⟩;have K4:Hid (Below w.heap.size w u4):=(Qe KX.out (by go_grown)).trans hb;obtain⟨D4,HD4⟩: ∃D4,Hid ((if xt.toList.isEmpty=true then Dm.del k0 else Dm.put k0 (.held (.agg #[.int .i64 xc,.int .i64 xr,.string xt])))=D4):=⟨_,rfl⟩;rw [HD4.out]at ho;have HM4:Hid (u4.ownsMap Tryz.prog 38 YU g m4 D4):=ho
   have HC4:Hid (CmD D4 (Xs ⟨xc,xr,xt⟩ L)):=by
    show CmD D4 _;refine CmD.perm ?_ (Ve ⟨xc,xr,xt⟩ L).symm;rw [←HD4.out];by_cases he:xt.toList.isEmpty=true
    ·rw [if_pos he,if_pos he];exact HCM.out.off HK0.out
    ·rw [if_neg he,if_neg he];exact HCM.out.on HMX.out.isMap (x:=⟨xc,xr,xt⟩) HK0.out
   clear ho hb HD4;go_wp2_with fail
   go_roundw
   case rel=>exact⟨t+1,_,m4,D4,by omega,by go_num,HNR.out,HM4.out,HC4.out,by omega,K4.out⟩
   case measure=>simp [intOf];omega
  ·have h1: ¬(t:Int)<(m:Int):=by omega
   obtain rfl:m=t:=by omega
   have HV:Hid (paF C R S n D m=if 120<L.length then none else some L):=Qbw HCK.out (by omega) HRUN.out;obtain⟨k,HKN⟩: ∃k,Hid (L.length=k):=⟨_,rfl⟩;have hk480:k≤10000:=by rw [←HKN.out];have:=HPI.out.len;omega
   have hsz:Maps.size Dm=k:=by rw [HCM.out.size HMP.out,HKN.out]
   by_cases h120:120<k
   ·have q3:(120:Int)<((k:Nat):Int):=by omega
    go_wp2_with (first
     | (at_len;refine wpList_len_own _ rfl _ 61 rfl 38 49 Tryz.underlying61 _ g cnt Dm rfl HMP.out ?_;rw [hsz])
     | fail)
    go_wp2_with fail
    refine bodyPost_ret (v:= .tuple #[.slice none 0 0,.bool false]) ?_ rfl ⟨?_,KA.out⟩
    ·simp (maxDischargeDepth:=9) [results,Tryz.results12,go_sem, *]
    ·rw [HV.out,HKN.out,if_pos h120];exact rfl
   ·have q3: ¬(120:Int)<((k:Nat):Int):=by omega
    go_wp2_with (first
     | (at_len;refine wpList_len_own _ rfl _ 61 rfl 38 49 Tryz.underlying61 _ g cnt Dm rfl HMP.out ?_;rw [hsz])
     | fail)
    go_wp2_with fail
    refine(NQ _ HMP.out HCM.out (by rw [HKN.out];omega)).mono ?_;rintro e u5 ⟨A5,c5,M,rfl,hp,hpw,ho,hb⟩;have HMS:Hid (M=L):=Qld hpw HPI.out.rise hp;rw [HMS.out,HKN.out]at ho;rw [HKN.out];have HO:Hid (u5.ownsRow w.heap.size 49 3 (.slice A5 k c5) k (Zb CL.cs L)):=Go.Proofs.ownsRow_base_a ho KA.out.size;have K5:=hd (Qe KA.out hb)
    clear ho hb hp hpw;go_wp2_with fail
    refine bodyPost_ret (v:= .tuple #[.slice A5 k c5,.bool true]) ?_ rfl ⟨?_,K5.out⟩
    ·simp (maxDischargeDepth:=9) [results,Tryz.results12,go_sem, *]
    ·rw [HV.out,HKN.out,if_neg h120];exact⟨A5,c5,k,rfl,HKN.out,HO.out⟩
end Go.Proofs.YthjldgbfgapbcaaGreatDoor
