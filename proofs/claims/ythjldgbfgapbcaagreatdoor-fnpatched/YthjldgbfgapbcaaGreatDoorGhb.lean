import Derived.Test.YthjldgbfgapbcaaGreatDoorMn
import Derived.Test.YthjldgbfgapbcaaGreatDoorGge
import Derived.Test.YthjldgbfgapbcaaGreatDoorGze
set_option linter.unusedSimpArgs false
set_option linter.unusedVariables false
set_option maxHeartbeats 8000000
set_option maxRecDepth 100000
namespace Go.Proofs.YthjldgbfgapbcaaGreatDoor
open Go.RowKit Go.Maps
theorem Qe2 (w:World):(zeroValue 49).run Tryz.prog w= .ok (.agg #[.int .i64 0,.int .i64 0,.string ⟨#[]⟩]) w:=by kernel_rfl
theorem Qgw (c r:Int) (s:ByteArray) (w:World):(Instr.field 49 (.agg #[.int .i64 c,.int .i64 r,.string s]) 1).run Tryz.prog w= .ok (.string s) w:=by kernel_rfl
theorem Qbz {W:World} {b n:Nat} {D:DataW Value} {p q:Int} {l:Lit} {v:Value} (hown:W.ownsMap Tryz.prog 38 Zs b n D) (hl:keyOf Tryz.prog 38 (.agg #[.int .i64 p,.int .i64 q])=some l)
  (hv:D.atKey l (.held (.agg #[.int .i64 0,.int .i64 0,.string ⟨#[]⟩]))= .held v):(Instr.lookup 61 (.map (some b)) (.agg #[.int .i64 p,.int .i64 q]) false).run Tryz.prog W= .ok v W:=by
 obtain⟨u,ps,h1,h2⟩:=hown.lookup keyedRef Tryz.underlying61 (Qe2 W) (rfl:Zs _=some (.held _,[])) hl;rw [hv]at h2;unfold Zs at h2;simp at h2;rw [h1,h2.1]
theorem Uf {W W':World} {b n:Nat} {D:DataW Value} (ho:W.ownsMap Tryz.prog 38 Zs b n D) (hb:Below W.heap.size W W'):W'.ownsMap Tryz.prog 38 Zs b n D:=by
 have hl:=ho.lt;obtain⟨es,clock,h1,Ft,hs,hD⟩:=ho;exact⟨es,clock,(hb.block b hl).trans h1,Ft,hs,hD⟩
theorem VP {B:Nat} {X W:World} {p:World→Prop} (h:SC B X W) (hp: ∀w',Below B X w'→p w'):((∀bq oq,bq<B→W.cell? ⟨bq,oq,none⟩=X.cell? ⟨bq,oq,none⟩)∧B≤W.heap.size∧Below B X W)∧p W:=⟨h,hp W h.2.2⟩
theorem Hm {A A':Option Addr} {n cap m cap':Nat} {C R:Nat→Int} {S:Nat→ByteArray} {D:Nat→CH} (w:World) (h:ClRow w A n C R S) (h':ChRow w A' m D) (hg:GI w):
  Calls Tryz.prog 12 #[.slice A n cap,.slice A' m cap'] w fun e w'=>EnR w.heap.size w' (paF C R S n D m) e∧Below w.heap.size w w':=by
 have HR:Hid (ClRow w A n C R S):=h;have HD:Hid (ChRow w A' m D):=h';have HG:Hid (GI w):=hg;have HSS:Hid (∀i,i<n→(S i).size≤maxLen):=fun i hi=>by obtain⟨_,_,_,_,_,_,_,h9⟩:=h.2 i hi;exact h9
 clear h h' hg;obtain⟨ck,HCK⟩: ∃ck,Hid (Qm C R S n=ck):=⟨_,rfl⟩;go_enter Tryz.func12,Tryz.ntmps12;go_wp2_with fail
 refine(Zk _ HR.out HG.out).mono ?_;rintro e u1 ⟨rfl,hb⟩;have K1:Hid (Below w.heap.size w u1):=hb;clear hb;rw [HCK.out];cases ck
 ·have HV:Hid (paF C R S n D m=none):=Qnm HCK.out;go_wp2_with fail
  refine bodyPost_ret (v:= .tuple #[.slice none 0 0,.bool false]) ?_ rfl ⟨?_,K1.out⟩
  ·simp (maxDischargeDepth:=9) [results,Tryz.results12,go_sem, *]
  ·rw [HV.out];exact rfl
 by_cases hm:360<m
 ·have HV:Hid (paF C R S n D m=none):=Qnl hm;have q1:(360:Int)<((m:Nat):Int):=by omega
  go_wp2_with fail
  refine bodyPost_ret (v:= .tuple #[.slice none 0 0,.bool false]) ?_ rfl ⟨?_,K1.out⟩
  ·simp (maxDischargeDepth:=9) [results,Tryz.results12,go_sem, *]
  ·rw [HV.out];exact rfl
 have q1: ¬(360:Int)<((m:Nat):Int):=by omega
 obtain⟨hn,hrf,hri⟩:=Qx HCK.out;have HRF:Hid (∀i,i<n→Qi (C i) (R i)=true):=hrf;have HRI:Hid ((clE C R S n).Pairwise (fun a b=>ltC a b=true)):=hri;clear hrf hri;have HP0:Hid (PaI n 0 (clE C R S n)):=PaI.start HCK.out HSS.out;obtain⟨kl,hkl⟩:=DZ (n:=n) HRF.out;have HKL:Hid (∀i,i<n→keyOf Tryz.prog 38 (.agg #[.int .i64 (C i),.int .i64 (R i)])=some (kl i)):=hkl
 clear hkl;go_wp2_with fail
 refine(Xm _ (HR.out.below K1.out) hn HKL.out).mono ?_;rintro e u2 ⟨rfl,ho,hb⟩;obtain⟨g,HGG⟩: ∃g,Hid (u1.heap.size=g):=⟨_,rfl⟩;rw [HGG.out]at ho;rw [HGG.out];have HM:Hid (u2.ownsMap Tryz.prog 38 Zs g n (clD kl C R S n)):=ho;have HCD:Hid (CmD (clD kl C R S n) (clE C R S n)):=Qc4 n HKL.out (Dh HRI.out)
 have HWG:Hid (w.heap.size≤g):=by show _≤_;rw [←HGG.out];exact K1.out.size
 have K2:=hd (Qb K1.out hb);clear ho hb HGG;go_wp2_with fail
 go_loopw [21] (fun i wr=> ∃(t:Nat) (L:List CL) (cnt:Nat) (Dm:DataW Value),t≤m∧i= .int .i64 t∧Zy D (clE C R S n) t=some L∧wr.ownsMap Tryz.prog 38 Zs g cnt Dm∧CmD Dm L∧cnt≤n+t∧Below w.heap.size w wr) (fun i _=>m-(intOf i).toNat)
 case atStart=>exact⟨0,_,n,_,Nat.zero_le _,rfl,rfl,HM.out,HCD.out,by omega,K2.out⟩
 case round=>
  clear HM HCD K2;obtain⟨t,L,cnt,Dm,ht,rfl,hrun,hmap,hcm,hcnt,hbel⟩:=hrel;have HRUN:Hid (Zy D (clE C R S n) t=some L):=hrun;have HPI:Hid (PaI n t L):=HP0.out.run t hrun;have HMP:Hid (wr.ownsMap Tryz.prog 38 Zs g cnt Dm):=hmap;have HCM:Hid (CmD Dm L):=hcm;have KA:Hid (Below w.heap.size w wr):=hbel
  clear hrun hmap hcm hbel;by_cases hlt:t<m
  ·obtain⟨b,o,rfl,hl,c0,c1,c2,c3,hsf,hst⟩:=HD.out.2 t hlt;obtain⟨Y,HY⟩: ∃Y:CH,Hid (D t=Y):=⟨_,rfl⟩;rw [HY.out]at c0 c1 c2 c3 hsf hst;rw [←KA.out.cell (p:=⟨_,_,none⟩) hl]at c0 c1 c2 c3;have hl2:b<wr.heap.size:=Nat.lt_of_lt_of_le hl KA.out.size;have HST:Hid (Y.t.size≤maxLen):=hst;have HNX:Hid (∀v,VU L Y=v→Zy D (clE C R S n) (t+1)=v):=fun v hv=>by rw [Ud HRUN.out,HY.out,hv]
   have HNO:Hid (VU L Y=none→paF C R S n D m=none):=fun hv=>Qnk HRUN.out (by rw [HY.out];exact hv) hlt;have q0:(0:Int)≤(t:Int):=by omega
   have q2:(t:Int)<(m:Int):=by omega
   clear hl hsf hst;obtain⟨xc,HXC⟩: ∃xc:Int,Hid (Y.c=xc):=⟨_,rfl⟩;obtain⟨xr,HXR⟩: ∃xr:Int,Hid (Y.r=xr):=⟨_,rfl⟩;obtain⟨xf,HXF⟩: ∃xf:ByteArray,Hid (Y.f=xf):=⟨_,rfl⟩;obtain⟨xt,HXT⟩: ∃xt:ByteArray,Hid (Y.t=xt):=⟨_,rfl⟩;rw [HXC.out]at c0;rw [HXR.out]at c1
   rw [HXF.out]at c2;rw [HXT.out]at c3;have HSZ:Hid (xt.size≤maxLen):=by show _≤_;rw [←HXT.out];exact HST.out
   clear HST;obtain⟨rk,HRK⟩: ∃rk,Hid (Qi xc xr=rk):=⟨_,rfl⟩;obtain⟨ob,HOB⟩: ∃ob,Hid (YQ xt=ob):=⟨_,rfl⟩;obtain⟨sa,HAT⟩: ∃sa,Hid (atC xc xr L=sa):=⟨_,rfl⟩;go_upto_region 7 with fail
   obtain⟨X,HX⟩: ∃X,Hid (wr.alloc (.cells #[.int .i64 xc,.int .i64 xr,.string xf,.string xt] 40)=X):=⟨_,rfl⟩;rw [HX.out];have x0:X.cell? ⟨wr.heap.size,0,none⟩=some (.int .i64 xc):=by rw [←HX.out];go_simp
   have x1:X.cell? ⟨wr.heap.size,1,none⟩=some (.int .i64 xr):=by rw [←HX.out];go_simp
   have x2:X.cell? ⟨wr.heap.size,2,none⟩=some (.string xf):=by rw [←HX.out];go_simp
   have x3:X.cell? ⟨wr.heap.size,3,none⟩=some (.string xt):=by rw [←HX.out];go_simp
   have zX:wr.heap.size<X.heap.size:=by rw [←HX.out];simp
   have KW:Hid (Below wr.heap.size wr X):=by rw [←HX.out];show Below _ _ _;go_grown
   have KX:=hd (Qb KA.out KW.out);have HGX:=hd (HG.out.below KX.out);have HMX:Hid (X.ownsMap Tryz.prog 38 Zs g cnt Dm):=Uf HMP.out KW.out;clear HX c0 c1 c2 c3 hl2 KW KA HMP;cases rk
   ·have HV:Hid (paF C R S n D m=none):=HNO.out (Qih (by rw [HXC.out,HXR.out];exact HRK.out));refine wp_region_held_drew (S:=(fun w'=>(∀bq oq,bq<X.heap.size→w'.cell? ⟨bq,oq,none⟩=X.cell? ⟨bq,oq,none⟩)∧X.heap.size≤w'.heap.size∧Below X.heap.size X w')) (by kernel_rfl) (Qk (by go_size) (by go_grown)) (fun hHeld=> ?_);refine tkA 0 ?_;refine tkB 1 ?_;refine rqA 2 (fun Kq hKq=> ?_);go_simp
    (refine(QT _ _ _).mono ?_;rintro e w1 ⟨rfl,hb⟩;rw [HRK.out];obtain⟨hk1,hz1⟩:=Qg (B:=X.heap.size) (X:=X) (by go_grown) (by go_size) hb;have hC:=fun b o h=>hk1.cell (p:=⟨b,o,none⟩) h;clear hb)
    refine hkB hKq (Qk (by go_size) (by go_grown)) fun hHeld=> ?_;clear hKq Kq;refine tkA 3 ?_;refine tkB 4 ?_;refine tnA 5 ?_;refine tnB 6 ?_;refine tnA 7 ?_
    refine tnB 8 ?_;refine tkA 9 ?_;refine tkB 10 ?_;refine tnA 11 ?_;refine tnB 12 ?_;refine tnA 13 ?_;refine tnB 14 ?_
    refine tnA 15 ?_;refine tnB 16 ?_;refine tnA 17 ?_;refine tnB 18 ?_;refine tkB 19 ?_;refine wpAnyH_done (by kernel_rfl) ?_ _;go_wp2_with fail
    refine bodyPost_ret (v:= .tuple #[.slice none 0 0,.bool false]) ?_ rfl ⟨?_,Qb KX.out (by go_grown)⟩
    ·simp (maxDischargeDepth:=9) [results,Tryz.results12,go_sem, *]
    ·rw [HV.out];exact rfl
   cases ob
   ·have HV:Hid (paF C R S n D m=none):=HNO.out (Qig (by rw [HXT.out];exact HOB.out));refine wp_region_held_drew (S:=(fun w'=>(∀bq oq,bq<X.heap.size→w'.cell? ⟨bq,oq,none⟩=X.cell? ⟨bq,oq,none⟩)∧X.heap.size≤w'.heap.size∧Below X.heap.size X w')) (by kernel_rfl) (Qk (by go_size) (by go_grown)) (fun hHeld=> ?_);refine tkA 0 ?_;refine tkB 1 ?_;refine rqA 2 (fun Kq hKq=> ?_);go_simp
    (refine(QT _ _ _).mono ?_;rintro e w1 ⟨rfl,hb⟩;rw [HRK.out];obtain⟨hk1,hz1⟩:=Qg (B:=X.heap.size) (X:=X) (by go_grown) (by go_size) hb;have hC:=fun b o h=>hk1.cell (p:=⟨b,o,none⟩) h;clear hb)
    refine hkB hKq (Qk (by go_size) (by go_grown)) fun hHeld=> ?_;clear hKq Kq;refine tkA 3 ?_;refine tkB 4 ?_;refine tkA 5 ?_;refine tkB 6 ?_;refine rqA 7 (fun Kq hKq=> ?_)
    go_simp
    (refine(Zq _ _ HSZ.out (HGX.out.below (by go_grown))).mono ?_;rintro e w2 ⟨rfl,hb⟩;rw [HOB.out];obtain⟨hk2,hz2⟩:=Qg (B:=X.heap.size) (X:=X) (by go_grown) (by go_size) hb;have hC2:=fun b o h=>hk2.cell (p:=⟨b,o,none⟩) h;clear hb)
    refine hkB hKq (Qk (by go_size) (by go_grown)) fun hHeld=> ?_;clear hKq Kq;refine tkA 8 ?_;refine tkB 9 ?_;refine tkA 10 ?_;refine tnB 11 ?_;refine tnA 12 ?_
    refine tnB 13 ?_;refine tnA 14 ?_;refine tnB 15 ?_;refine tnA 16 ?_;refine tnB 17 ?_;refine tnA 18 ?_;refine tkB 19 ?_
    refine wpAnyH_done (by kernel_rfl) ?_ _;go_wp2_with fail
    refine bodyPost_ret (v:= .tuple #[.slice none 0 0,.bool false]) ?_ rfl ⟨?_,Qb KX.out (by go_grown)⟩
    ·simp (maxDischargeDepth:=9) [results,Tryz.results12,go_sem, *]
    ·rw [HV.out];exact rfl
   obtain⟨k0,hk0⟩:=OK HRK.out;have HK0:Hid (keyOf Tryz.prog 38 (.agg #[.int .i64 xc,.int .i64 xr])=some k0):=hk0;obtain⟨lc,lr,hlk⟩:=HCM.out.look hk0;rw [HAT.out]at hlk;have HLK:Hid (∀w',Below X.heap.size X w'→(Instr.lookup 61 (.map (some g)) (.agg #[.int .i64 xc,.int .i64 xr]) false).run Tryz.prog w'= .ok (.agg #[.int .i64 lc,.int .i64 lr,.string sa]) w'):=fun w' hb=>Qbz (Uf HMX.out hb) HK0.out hlk;have hfl:=Qgw lc lr sa;obtain⟨sm,HSM⟩: ∃sm,Hid ((sa.toList==xf.toList)=sm):=⟨_,rfl⟩
   have hsm:=HSM.out;clear hk0 hlk;cases sm
   ·have HV:Hid (paF C R S n D m=none):=HNO.out (Qif (by rw [HXC.out,HXR.out,HXF.out,HAT.out];exact HSM.out));refine wp_region_held_drew (S:=(fun w'=>((∀bq oq,bq<X.heap.size→w'.cell? ⟨bq,oq,none⟩=X.cell? ⟨bq,oq,none⟩)∧X.heap.size≤w'.heap.size∧Below X.heap.size X w')∧(Instr.lookup 61 (.map (some g)) (.agg #[.int .i64 xc,.int .i64 xr]) false).run Tryz.prog w'= .ok (.agg #[.int .i64 lc,.int .i64 lr,.string sa]) w')) (by kernel_rfl) (VP (Qk (by go_size) (by go_grown)) HLK.out) (fun hHeld=> ?_);refine tkA 0 ?_;refine tkB 1 ?_;refine rqA 2 (fun Kq hKq=> ?_);go_simp
    (refine(QT _ _ _).mono ?_;rintro e w1 ⟨rfl,hb⟩;rw [HRK.out];obtain⟨hk1,hz1⟩:=Qg (B:=X.heap.size) (X:=X) (by go_grown) (by go_size) hb;have hC:=fun b o h=>hk1.cell (p:=⟨b,o,none⟩) h;clear hb)
    refine hkB hKq (VP (Qk (by go_size) (by go_grown)) HLK.out) fun hHeld=> ?_;clear hKq Kq;refine tkA 3 ?_;refine tkB 4 ?_;refine tkA 5 ?_;refine tkB 6 ?_;refine rqA 7 (fun Kq hKq=> ?_)
    go_simp
    (refine(Zq _ _ HSZ.out (HGX.out.below (by go_grown))).mono ?_;rintro e w2 ⟨rfl,hb⟩;rw [HOB.out];obtain⟨hk2,hz2⟩:=Qg (B:=X.heap.size) (X:=X) (by go_grown) (by go_size) hb;have hC2:=fun b o h=>hk2.cell (p:=⟨b,o,none⟩) h;clear hb)
    refine hkB hKq (VP (Qk (by go_size) (by go_grown)) HLK.out) fun hHeld=> ?_;clear hKq Kq;refine tkA 8 ?_;refine tkB 9 ?_;refine tkA 10 ?_;refine tkB 11 ?_;refine tkA 12 ?_
    refine tkB 13 ?_;refine tkA 14 ?_;refine tkB 15 ?_;refine tkA 16 ?_;refine tkB 17 ?_;refine tkA 18 ?_;refine tkB 19 ?_
    refine wpAnyH_done (by kernel_rfl) ?_ _;go_wp2_with fail
    refine bodyPost_ret (v:= .tuple #[.slice none 0 0,.bool false]) ?_ rfl ⟨?_,Qb KX.out (by go_grown)⟩
    ·simp (maxDischargeDepth:=9) [results,Tryz.results12,go_sem, *]
    ·rw [HV.out];exact rfl
   have HST:Hid (VU L Y=some (YE ⟨xc,xr,xt⟩ L)):=by
    show _=_;rw [Qaj (by rw [HXC.out,HXR.out];exact HRK.out) (by rw [HXT.out];exact HOB.out) (by rw [HXC.out,HXR.out,HXF.out,HAT.out];exact HSM.out),HXC.out,HXR.out,HXT.out]
   have HNR:Hid (Zy D (clE C R S n) (t+1)=some (YE ⟨xc,xr,xt⟩ L)):=HNX.out _ HST.out;refine wp_region_held_drew (S:=(fun w'=>((∀bq oq,bq<X.heap.size→w'.cell? ⟨bq,oq,none⟩=X.cell? ⟨bq,oq,none⟩)∧X.heap.size≤w'.heap.size∧Below X.heap.size X w')∧(Instr.lookup 61 (.map (some g)) (.agg #[.int .i64 xc,.int .i64 xr]) false).run Tryz.prog w'= .ok (.agg #[.int .i64 lc,.int .i64 lr,.string sa]) w')) (by kernel_rfl) (VP (Qk (by go_size) (by go_grown)) HLK.out) (fun hHeld=> ?_);refine tkA 0 ?_;refine tkB 1 ?_;refine rqA 2 (fun Kq hKq=> ?_);go_simp
   (refine(QT _ _ _).mono ?_;rintro e w1 ⟨rfl,hb⟩;rw [HRK.out];obtain⟨hk1,hz1⟩:=Qg (B:=X.heap.size) (X:=X) (by go_grown) (by go_size) hb;have hC:=fun b o h=>hk1.cell (p:=⟨b,o,none⟩) h;clear hb)
   refine hkB hKq (VP (Qk (by go_size) (by go_grown)) HLK.out) fun hHeld=> ?_;clear hKq Kq;refine tkA 3 ?_;refine tkB 4 ?_;refine tkA 5 ?_;refine tkB 6 ?_;refine rqA 7 (fun Kq hKq=> ?_)
   go_simp
   (refine(Zq _ _ HSZ.out (HGX.out.below (by go_grown))).mono ?_;rintro e w2 ⟨rfl,hb⟩;rw [HOB.out];obtain⟨hk2,hz2⟩:=Qg (B:=X.heap.size) (X:=X) (by go_grown) (by go_size) hb;have hC2:=fun b o h=>hk2.cell (p:=⟨b,o,none⟩) h;clear hb)
   refine hkB hKq (VP (Qk (by go_size) (by go_grown)) HLK.out) fun hHeld=> ?_;clear hKq Kq;refine tkA 8 ?_;refine tkB 9 ?_;refine tkA 10 ?_;refine tkB 11 ?_;refine tkA 12 ?_
   refine tkB 13 ?_;refine tkA 14 ?_;refine tkB 15 ?_;refine tkA 16 ?_;refine tkB 17 ?_;refine tkA 18 ?_;refine tkB 19 ?_
   refine wpAnyH_done (by kernel_rfl) ?_ _;go_wp2_with fail
   refine(Qi9 (B:=w.heap.size) (s:=xt) _ (Uf HMX.out (by go_grown)) HWG.out (by omega) HK0.out).mono ?_;rintro e u4 ⟨rfl,⟨m4,hm4,ho⟩,hb⟩;have K4:Hid (Below w.heap.size w u4):=(Qb KX.out (by go_grown)).trans hb;obtain⟨D4,HD4⟩: ∃D4,Hid ((if xt.toList.isEmpty=true then Dm.del k0 else Dm.put k0 (.held (.agg #[.int .i64 xc,.int .i64 xr,.string xt])))=D4):=⟨_,rfl⟩;rw [HD4.out]at ho;have HM4:Hid (u4.ownsMap Tryz.prog 38 Zs g m4 D4):=ho
   have HC4:Hid (CmD D4 (YE ⟨xc,xr,xt⟩ L)):=by
    show CmD D4 _;refine CmD.perm ?_ (Xo ⟨xc,xr,xt⟩ L).symm;rw [←HD4.out];by_cases he:xt.toList.isEmpty=true
    ·rw [if_pos he,if_pos he];exact HCM.out.off HK0.out
    ·rw [if_neg he,if_neg he];exact HCM.out.on HMX.out.isMap (x:=⟨xc,xr,xt⟩) HK0.out
   clear ho hb HD4;go_wp2_with fail
   go_roundw
   case rel=>exact⟨t+1,_,m4,D4,by omega,by go_num,HNR.out,HM4.out,HC4.out,by omega,K4.out⟩
   case measure=>simp [intOf];omega
  ·have h1: ¬(t:Int)<(m:Int):=by omega
   obtain rfl:m=t:=by omega
   have HV:Hid (paF C R S n D m=if 120<L.length then none else some L):=Qnn HCK.out (by omega) HRUN.out;obtain⟨k,HKN⟩: ∃k,Hid (L.length=k):=⟨_,rfl⟩;have hk480:k≤10000:=by rw [←HKN.out];have:=HPI.out.len;omega
   have hsz:Maps.size Dm=k:=by rw [HCM.out.size HMP.out,HKN.out]
   by_cases h120:120<k
   ·have q3:(120:Int)<((k:Nat):Int):=by omega
    go_wp2_with (first
     | (at_len;refine wpList_len_own _ rfl _ 61 rfl 38 49 Tryz.underlying61 _ g cnt Dm rfl HMP.out ?_;rw [hsz])
     | fail)
    go_wp2_with fail
    refine bodyPost_ret (v:= .tuple #[.slice none 0 0,.bool false]) ?_ rfl ⟨?_,KA.out⟩
    ·simp (maxDischargeDepth:=9) [results,Tryz.results12,go_sem, *]
    ·rw [HV.out,HKN.out,if_pos h120];exact rfl
   ·have q3: ¬(120:Int)<((k:Nat):Int):=by omega
    go_wp2_with (first
     | (at_len;refine wpList_len_own _ rfl _ 61 rfl 38 49 Tryz.underlying61 _ g cnt Dm rfl HMP.out ?_;rw [hsz])
     | fail)
    go_wp2_with fail
    refine(Hl _ HMP.out HCM.out (by rw [HKN.out];omega)).mono ?_;rintro e u5 ⟨A5,c5,M,rfl,hp,hpw,ho,hb⟩;have HMS:Hid (M=L):=Qoa hpw HPI.out.rise hp;rw [HMS.out,HKN.out]at ho;rw [HKN.out];have HO:Hid (u5.ownsRow w.heap.size 49 3 (.slice A5 k c5) k (Qu CL.cs L)):=Go.Proofs.ownsRow_base_a ho KA.out.size;have K5:=hd (Qb KA.out hb)
    clear ho hb hp hpw;go_wp2_with fail
    refine bodyPost_ret (v:= .tuple #[.slice A5 k c5,.bool true]) ?_ rfl ⟨?_,K5.out⟩
    ·simp (maxDischargeDepth:=9) [results,Tryz.results12,go_sem, *]
    ·rw [HV.out,HKN.out,if_neg h120];exact⟨A5,c5,k,rfl,HKN.out,HO.out⟩
end Go.Proofs.YthjldgbfgapbcaaGreatDoor
