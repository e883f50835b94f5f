import Derived.Test.YtojadpoabbhphaaGreatDoorMn
import Derived.Test.YtojadpoabbhphaaGreatDoorKc
import Derived.Test.YtojadpoabbhphaaGreatDoorGze
import Derived.Test.YtojadpoabbhphaaGreatDoorKb
import Derived.OpenShut
import Derived.Deep.Slices
import Derived.ChangeSame
set_option linter.unusedSimpArgs false
set_option linter.unusedVariables false
set_option maxHeartbeats 8000000
set_option maxRecDepth 100000
namespace Go.Proofs.YtojadpoabbhphaaGreatDoor
open Go.RowKit Go.Maps
theorem zeroCellP (w:World):(zeroValue 52).run Tryz.prog w= .ok (.agg #[.int .i64 0,.int .i64 0,.string ⟨#[]⟩]) w:=by kernel_rfl
theorem cell_srcP (c r:Int) (s:ByteArray) (w:World):(Instr.field 52 (.agg #[.int .i64 c,.int .i64 r,.string s]) 1).run Tryz.prog w= .ok (.string s) w:=by kernel_rfl
theorem look_cellP {W:World} {b n:Nat} {D:DataW Value} {p q:Int} {l:Lit} {v:Value} (hown:W.ownsMap Tryz.prog 30 Qf4 b n D) (hl:keyOf Tryz.prog 30 (.agg #[.int .i64 p,.int .i64 q])=some l)
  (hv:D.atKey l (.held (.agg #[.int .i64 0,.int .i64 0,.string ⟨#[]⟩]))= .held v):(Instr.lookup 55 (.map (some b)) (.agg #[.int .i64 p,.int .i64 q]) false).run Tryz.prog W= .ok v W:=by
 obtain⟨u,ps,h1,h2⟩:=hown.lookup keyedRef Tryz.underlying55 (zeroCellP W) (rfl:Qf4 _=some (.held _,[])) hl;rw [hv]at h2;unfold Qf4 at h2;simp at h2;rw [h1,h2.1]
theorem map_below {W W':World} {b n:Nat} {D:DataW Value} (ho:W.ownsMap Tryz.prog 30 Qf4 b n D) (hb:Below W.heap.size W W'):W'.ownsMap Tryz.prog 30 Qf4 b n D:=by
 have hl:=ho.lt;obtain⟨es,clock,h1,Ft,hs,hD⟩:=ho;exact⟨es,clock,(hb.block b hl).trans h1,Ft,hs,hD⟩
theorem sc_with {B:Nat} {X W:World} {p:World→Prop} (h:SC B X W) (hp: ∀w',Below B X w'→p w'):((∀bq oq,bq<B→W.cell? ⟨bq,oq,none⟩=X.cell? ⟨bq,oq,none⟩)∧B≤W.heap.size∧Below B X W)∧p W:=⟨h,hp W h.2.2⟩
theorem impl_Patched {A A':Option Addr} {n cap m cap':Nat} {C R:Nat→Int} {S:Nat→ByteArray} {D:Nat→CH} (w:World) (h:ClRow w A n C R S) (h':ChRow w A' m D) (hg:GI w):
  Calls Tryz.prog 16 #[.slice A n cap,.slice A' m cap'] w fun e w'=>EnR w.heap.size w' (paF C R S n D m) e∧Below w.heap.size w w':=by
 have HR:Hid (ClRow w A n C R S):=h;have HD:Hid (ChRow w A' m D):=h';have HG:Hid (GI w):=hg;have HSS:Hid (∀i,i<n→(S i).size≤maxLen):=fun i hi=>by obtain⟨_,_,_,_,_,_,_,h9⟩:=h.2 i hi;exact h9
 clear h h' hg;obtain⟨ck,HCK⟩: ∃ck,Hid (YO C R S n=ck):=⟨_,rfl⟩;go_enter Tryz.func16,Tryz.ntmps16;go_wp2_with fail
 refine(impl_SheetOk _ HR.out HG.out).mono ?_;rintro e u1 ⟨rfl,hb⟩;have K1:Hid (Below w.heap.size w u1):=hb;clear hb;rw [HCK.out];cases ck
 ·have HV:Hid (paF C R S n D m=none):=paF_no1 HCK.out;go_wp2_with fail
  refine bodyPost_ret (v:= .tuple #[.slice none 0 0,.bool false]) ?_ rfl ⟨?_,K1.out⟩
  ·simp (maxDischargeDepth:=9) [results,Tryz.results16,go_sem, *]
  ·rw [HV.out];exact rfl
 by_cases hm:360<m
 ·have HV:Hid (paF C R S n D m=none):=paF_no2 hm;have q1:(360:Int)<((m:Nat):Int):=by omega
  go_wp2_with fail
  refine bodyPost_ret (v:= .tuple #[.slice none 0 0,.bool false]) ?_ rfl ⟨?_,K1.out⟩
  ·simp (maxDischargeDepth:=9) [results,Tryz.results16,go_sem, *]
  ·rw [HV.out];exact rfl
 have q1: ¬(360:Int)<((m:Nat):Int):=by omega
 obtain⟨hn,hrf,hri⟩:=cl_rise HCK.out;have HRF:Hid (∀i,i<n→Qj (C i) (R i)=true):=hrf;have HRI:Hid ((clE C R S n).Pairwise (fun a b=>ltC a b=true)):=hri;clear hrf hri;have HP0:Hid (PaI n 0 (clE C R S n)):=PaI.start HCK.out HSS.out;obtain⟨kl,hkl⟩:=Qjr (n:=n) HRF.out;have HKL:Hid (∀i,i<n→keyOf Tryz.prog 30 (.agg #[.int .i64 (C i),.int .i64 (R i)])=some (kl i)):=hkl
 clear hkl;go_wp2_with fail
 refine(Ex _ (HR.out.below K1.out) hn HKL.out).mono ?_;rintro e u2 ⟨rfl,ho,hb⟩;obtain⟨g,HGG⟩: ∃g,Hid (u1.heap.size=g):=⟨_,rfl⟩;rw [HGG.out]at ho;rw [HGG.out];have HM:Hid (u2.ownsMap Tryz.prog 30 Qf4 g n (clD kl C R S n)):=ho;have HCD:Hid (CmD (clD kl C R S n) (clE C R S n)):=clD_cm n HKL.out (clE_apart HRI.out)
 have HWG:Hid (w.heap.size≤g):=by show _≤_;rw [←HGG.out];exact K1.out.size
 have K2:=hd (Qd K1.out hb);clear ho hb HGG;go_wp2_with fail
 go_loopw [21] (fun i wr=> ∃(t:Nat) (L:List CL) (cnt:Nat) (Dm:DataW Value),t≤m∧i= .int .i64 t∧paRun D (clE C R S n) t=some L∧wr.ownsMap Tryz.prog 30 Qf4 g cnt Dm∧CmD Dm L∧cnt≤n+t∧Below w.heap.size w wr) (fun i _=>m-(intOf i).toNat)
 case atStart=>exact⟨0,_,n,_,Nat.zero_le _,rfl,rfl,HM.out,HCD.out,by omega,K2.out⟩
 case round=>
  clear HM HCD K2;obtain⟨t,L,cnt,Dm,ht,rfl,hrun,hmap,hcm,hcnt,hbel⟩:=hrel;have HRUN:Hid (paRun D (clE C R S n) t=some L):=hrun;have HPI:Hid (PaI n t L):=HP0.out.run t hrun;have HMP:Hid (wr.ownsMap Tryz.prog 30 Qf4 g cnt Dm):=hmap;have HCM:Hid (CmD Dm L):=hcm;have KA:Hid (Below w.heap.size w wr):=hbel
  clear hrun hmap hcm hbel;by_cases hlt:t<m
  ·obtain⟨b,o,rfl,hl,c0,c1,c2,c3,hsf,hst⟩:=HD.out.2 t hlt;obtain⟨Y,HY⟩: ∃Y:CH,Hid (D t=Y):=⟨_,rfl⟩;rw [HY.out]at c0 c1 c2 c3 hsf hst;rw [←KA.out.cell (p:=⟨_,_,none⟩) hl]at c0 c1 c2 c3;have hl2:b<wr.heap.size:=Nat.lt_of_lt_of_le hl KA.out.size;have HST:Hid (Y.t.size≤maxLen):=hst;have HNX:Hid (∀v,paSt L Y=v→paRun D (clE C R S n) (t+1)=v):=fun v hv=>by rw [paRun_yes HRUN.out,HY.out,hv]
   have HNO:Hid (paSt L Y=none→paF C R S n D m=none):=fun hv=>paF_no3 HRUN.out (by rw [HY.out];exact hv) hlt;have q0:(0:Int)≤(t:Int):=by omega
   have q2:(t:Int)<(m:Int):=by omega
   clear hl hsf hst;obtain⟨xc,HXC⟩: ∃xc:Int,Hid (Y.c=xc):=⟨_,rfl⟩;obtain⟨xr,HXR⟩: ∃xr:Int,Hid (Y.r=xr):=⟨_,rfl⟩;obtain⟨xf,HXF⟩: ∃xf:ByteArray,Hid (Y.f=xf):=⟨_,rfl⟩;obtain⟨xt,HXT⟩: ∃xt:ByteArray,Hid (Y.t=xt):=⟨_,rfl⟩;rw [HXC.out]at c0;rw [HXR.out]at c1
   rw [HXF.out]at c2;rw [HXT.out]at c3;have HSZ:Hid (xt.size≤maxLen):=by show _≤_;rw [←HXT.out];exact HST.out
   clear HST;obtain⟨rk,HRK⟩: ∃rk,Hid (Qj xc xr=rk):=⟨_,rfl⟩;obtain⟨ob,HOB⟩: ∃ob,Hid (Qf5 xt=ob):=⟨_,rfl⟩;obtain⟨sa,HAT⟩: ∃sa,Hid (atC xc xr L=sa):=⟨_,rfl⟩;go_upto_region 7 with fail
   obtain⟨X,HX⟩: ∃X,Hid (wr.alloc (.cells #[.int .i64 xc,.int .i64 xr,.string xf,.string xt] 65)=X):=⟨_,rfl⟩;rw [HX.out];have x0:X.cell? ⟨wr.heap.size,0,none⟩=some (.int .i64 xc):=by rw [←HX.out];go_simp
   have x1:X.cell? ⟨wr.heap.size,1,none⟩=some (.int .i64 xr):=by rw [←HX.out];go_simp
   have x2:X.cell? ⟨wr.heap.size,2,none⟩=some (.string xf):=by rw [←HX.out];go_simp
   have x3:X.cell? ⟨wr.heap.size,3,none⟩=some (.string xt):=by rw [←HX.out];go_simp
   have zX:wr.heap.size<X.heap.size:=by rw [←HX.out];simp
   have KW:Hid (Below wr.heap.size wr X):=by rw [←HX.out];show Below _ _ _;go_grown
   have KX:=hd (Qd KA.out KW.out);have HGX:=hd (HG.out.below KX.out);have HMX:Hid (X.ownsMap Tryz.prog 30 Qf4 g cnt Dm):=map_below HMP.out KW.out;clear HX c0 c1 c2 c3 hl2 KW KA HMP;cases rk
   ·have HV:Hid (paF C R S n D m=none):=HNO.out (paSt_no1 (by rw [HXC.out,HXR.out];exact HRK.out));refine wp_region_held_drew (S:=(fun w'=>(∀bq oq,bq<X.heap.size→w'.cell? ⟨bq,oq,none⟩=X.cell? ⟨bq,oq,none⟩)∧X.heap.size≤w'.heap.size∧Below X.heap.size X w')) (by kernel_rfl) (Qo (by go_size) (by go_grown)) (fun hHeld=> ?_);refine tkA 0 ?_;refine tkB 1 ?_;refine rqA 2 (fun Kq hKq=> ?_);go_simp
    (refine(Zc _ _ _).mono ?_;rintro e w1 ⟨rfl,hb⟩;rw [HRK.out];obtain⟨hk1,hz1⟩:=Qf (B:=X.heap.size) (X:=X) (by go_grown) (by go_size) hb;have hC:=fun b o h=>hk1.cell (p:=⟨b,o,none⟩) h;clear hb)
    refine hkB hKq (Qo (by go_size) (by go_grown)) fun hHeld=> ?_;clear hKq Kq;refine tkA 3 ?_;refine tkB 4 ?_;refine tnA 5 ?_;refine tnB 6 ?_;refine tnA 7 ?_
    refine tnB 8 ?_;refine tkA 9 ?_;refine tkB 10 ?_;refine tnA 11 ?_;refine tnB 12 ?_;refine tnA 13 ?_;refine tnB 14 ?_
    refine tnA 15 ?_;refine tnB 16 ?_;refine tnA 17 ?_;refine tnB 18 ?_;refine tkB 19 ?_;refine wpAnyH_done (by kernel_rfl) ?_ _;go_wp2_with fail
    refine bodyPost_ret (v:= .tuple #[.slice none 0 0,.bool false]) ?_ rfl ⟨?_,Qd KX.out (by go_grown)⟩
    ·simp (maxDischargeDepth:=9) [results,Tryz.results16,go_sem, *]
    ·rw [HV.out];exact rfl
   cases ob
   ·have HV:Hid (paF C R S n D m=none):=HNO.out (paSt_no2 (by rw [HXT.out];exact HOB.out));refine wp_region_held_drew (S:=(fun w'=>(∀bq oq,bq<X.heap.size→w'.cell? ⟨bq,oq,none⟩=X.cell? ⟨bq,oq,none⟩)∧X.heap.size≤w'.heap.size∧Below X.heap.size X w')) (by kernel_rfl) (Qo (by go_size) (by go_grown)) (fun hHeld=> ?_);refine tkA 0 ?_;refine tkB 1 ?_;refine rqA 2 (fun Kq hKq=> ?_);go_simp
    (refine(Zc _ _ _).mono ?_;rintro e w1 ⟨rfl,hb⟩;rw [HRK.out];obtain⟨hk1,hz1⟩:=Qf (B:=X.heap.size) (X:=X) (by go_grown) (by go_size) hb;have hC:=fun b o h=>hk1.cell (p:=⟨b,o,none⟩) h;clear hb)
    refine hkB hKq (Qo (by go_size) (by go_grown)) fun hHeld=> ?_;clear hKq Kq;refine tkA 3 ?_;refine tkB 4 ?_;refine tkA 5 ?_;refine tkB 6 ?_;refine rqA 7 (fun Kq hKq=> ?_)
    go_simp
    (refine(impl_isOwnSource _ _ HSZ.out (HGX.out.below (by go_grown))).mono ?_;rintro e w2 ⟨rfl,hb⟩;rw [HOB.out];obtain⟨hk2,hz2⟩:=Qf (B:=X.heap.size) (X:=X) (by go_grown) (by go_size) hb;have hC2:=fun b o h=>hk2.cell (p:=⟨b,o,none⟩) h;clear hb)
    refine hkB hKq (Qo (by go_size) (by go_grown)) fun hHeld=> ?_;clear hKq Kq;refine tkA 8 ?_;refine tkB 9 ?_;refine tkA 10 ?_;refine tnB 11 ?_;refine tnA 12 ?_
    refine tnB 13 ?_;refine tnA 14 ?_;refine tnB 15 ?_;refine tnA 16 ?_;refine tnB 17 ?_;refine tnA 18 ?_;refine tkB 19 ?_
    refine wpAnyH_done (by kernel_rfl) ?_ _;go_wp2_with fail
    refine bodyPost_ret (v:= .tuple #[.slice none 0 0,.bool false]) ?_ rfl ⟨?_,Qd KX.out (by go_grown)⟩
    ·simp (maxDischargeDepth:=9) [results,Tryz.results16,go_sem, *]
    ·rw [HV.out];exact rfl
   obtain⟨k0,hk0⟩:=key_refok HRK.out;have HK0:Hid (keyOf Tryz.prog 30 (.agg #[.int .i64 xc,.int .i64 xr])=some k0):=hk0;obtain⟨lc,lr,hlk⟩:=HCM.out.look hk0;rw [HAT.out]at hlk;have HLK:Hid (∀w',Below X.heap.size X w'→(Instr.lookup 55 (.map (some g)) (.agg #[.int .i64 xc,.int .i64 xr]) false).run Tryz.prog w'= .ok (.agg #[.int .i64 lc,.int .i64 lr,.string sa]) w'):=fun w' hb=>look_cellP (map_below HMX.out hb) HK0.out hlk;have hfl:=cell_srcP lc lr sa;obtain⟨sm,HSM⟩: ∃sm,Hid ((sa.toList==xf.toList)=sm):=⟨_,rfl⟩
   have hsm:=HSM.out;clear hk0 hlk;cases sm
   ·have HV:Hid (paF C R S n D m=none):=HNO.out (paSt_no3 (by rw [HXC.out,HXR.out,HXF.out,HAT.out];exact HSM.out));refine wp_region_held_drew (S:=(fun w'=>((∀bq oq,bq<X.heap.size→w'.cell? ⟨bq,oq,none⟩=X.cell? ⟨bq,oq,none⟩)∧X.heap.size≤w'.heap.size∧Below X.heap.size X w')∧(Instr.lookup 55 (.map (some g)) (.agg #[.int .i64 xc,.int .i64 xr]) false).run Tryz.prog w'= .ok (.agg #[.int .i64 lc,.int .i64 lr,.string sa]) w')) (by kernel_rfl) (sc_with (Qo (by go_size) (by go_grown)) HLK.out) (fun hHeld=> ?_);refine tkA 0 ?_;refine tkB 1 ?_;refine rqA 2 (fun Kq hKq=> ?_);go_simp
    (refine(Zc _ _ _).mono ?_;rintro e w1 ⟨rfl,hb⟩;rw [HRK.out];obtain⟨hk1,hz1⟩:=Qf (B:=X.heap.size) (X:=X) (by go_grown) (by go_size) hb;have hC:=fun b o h=>hk1.cell (p:=⟨b,o,none⟩) h;clear hb)
    refine hkB hKq (sc_with (Qo (by go_size) (by go_grown)) HLK.out) fun hHeld=> ?_;clear hKq Kq;refine tkA 3 ?_;refine tkB 4 ?_;refine tkA 5 ?_;refine tkB 6 ?_;refine rqA 7 (fun Kq hKq=> ?_)
    go_simp
    (refine(impl_isOwnSource _ _ HSZ.out (HGX.out.below (by go_grown))).mono ?_;rintro e w2 ⟨rfl,hb⟩;rw [HOB.out];obtain⟨hk2,hz2⟩:=Qf (B:=X.heap.size) (X:=X) (by go_grown) (by go_size) hb;have hC2:=fun b o h=>hk2.cell (p:=⟨b,o,none⟩) h;clear hb)
    refine hkB hKq (sc_with (Qo (by go_size) (by go_grown)) HLK.out) fun hHeld=> ?_;clear hKq Kq;refine tkA 8 ?_;refine tkB 9 ?_;refine tkA 10 ?_;refine tkB 11 ?_;refine tkA 12 ?_
    refine tkB 13 ?_;refine tkA 14 ?_;refine tkB 15 ?_;refine tkA 16 ?_;refine tkB 17 ?_;refine tkA 18 ?_;refine tkB 19 ?_
    refine wpAnyH_done (by kernel_rfl) ?_ _;go_wp2_with fail
    refine bodyPost_ret (v:= .tuple #[.slice none 0 0,.bool false]) ?_ rfl ⟨?_,Qd KX.out (by go_grown)⟩
    ·simp (maxDischargeDepth:=9) [results,Tryz.results16,go_sem, *]
    ·rw [HV.out];exact rfl
   have HST:Hid (paSt L Y=some (setC ⟨xc,xr,xt⟩ L)):=by
    show _=_;rw [paSt_yes (by rw [HXC.out,HXR.out];exact HRK.out) (by rw [HXT.out];exact HOB.out) (by rw [HXC.out,HXR.out,HXF.out,HAT.out];exact HSM.out),HXC.out,HXR.out,HXT.out]
   have HNR:Hid (paRun D (clE C R S n) (t+1)=some (setC ⟨xc,xr,xt⟩ L)):=HNX.out _ HST.out;refine wp_region_held_drew (S:=(fun w'=>((∀bq oq,bq<X.heap.size→w'.cell? ⟨bq,oq,none⟩=X.cell? ⟨bq,oq,none⟩)∧X.heap.size≤w'.heap.size∧Below X.heap.size X w')∧(Instr.lookup 55 (.map (some g)) (.agg #[.int .i64 xc,.int .i64 xr]) false).run Tryz.prog w'= .ok (.agg #[.int .i64 lc,.int .i64 lr,.string sa]) w')) (by kernel_rfl) (sc_with (Qo (by go_size) (by go_grown)) HLK.out) (fun hHeld=> ?_);refine tkA 0 ?_;refine tkB 1 ?_;refine rqA 2 (fun Kq hKq=> ?_);go_simp
   (refine(Zc _ _ _).mono ?_;rintro e w1 ⟨rfl,hb⟩;rw [HRK.out];obtain⟨hk1,hz1⟩:=Qf (B:=X.heap.size) (X:=X) (by go_grown) (by go_size) hb;have hC:=fun b o h=>hk1.cell (p:=⟨b,o,none⟩) h;clear hb)
   refine hkB hKq (sc_with (Qo (by go_size) (by go_grown)) HLK.out) fun hHeld=> ?_;clear hKq Kq;refine tkA 3 ?_;refine tkB 4 ?_;refine tkA 5 ?_;refine tkB 6 ?_;refine rqA 7 (fun Kq hKq=> ?_)
   go_simp
   (refine(impl_isOwnSource _ _ HSZ.out (HGX.out.below (by go_grown))).mono ?_;rintro e w2 ⟨rfl,hb⟩;rw [HOB.out];obtain⟨hk2,hz2⟩:=Qf (B:=X.heap.size) (X:=X) (by go_grown) (by go_size) hb;have hC2:=fun b o h=>hk2.cell (p:=⟨b,o,none⟩) h;clear hb)
   refine hkB hKq (sc_with (Qo (by go_size) (by go_grown)) HLK.out) fun hHeld=> ?_;clear hKq Kq;refine tkA 8 ?_;refine tkB 9 ?_;refine tkA 10 ?_;refine tkB 11 ?_;refine tkA 12 ?_
   refine tkB 13 ?_;refine tkA 14 ?_;refine tkB 15 ?_;refine tkA 16 ?_;refine tkB 17 ?_;refine tkA 18 ?_;refine tkB 19 ?_
   refine wpAnyH_done (by kernel_rfl) ?_ _;go_wp2_with fail
   refine(impl_put (B:=w.heap.size) (s:=xt) _ (map_below HMX.out (by go_grown)) HWG.out (by omega) HK0.out).mono ?_;rintro e u4 ⟨rfl,⟨m4,hm4,ho⟩,hb⟩;have K4:Hid (Below w.heap.size w u4):=(Qd KX.out (by go_grown)).trans hb;obtain⟨D4,HD4⟩: ∃D4,Hid ((if xt.toList.isEmpty=true then Dm.del k0 else Dm.put k0 (.held (.agg #[.int .i64 xc,.int .i64 xr,.string xt])))=D4):=⟨_,rfl⟩;rw [HD4.out]at ho;have HM4:Hid (u4.ownsMap Tryz.prog 30 Qf4 g m4 D4):=ho
   have HC4:Hid (CmD D4 (setC ⟨xc,xr,xt⟩ L)):=by
    show CmD D4 _;refine CmD.perm ?_ (setC_perm ⟨xc,xr,xt⟩ L).symm;rw [←HD4.out];by_cases he:xt.toList.isEmpty=true
    ·rw [if_pos he,if_pos he];exact HCM.out.off HK0.out
    ·rw [if_neg he,if_neg he];exact HCM.out.on HMX.out.isMap (x:=⟨xc,xr,xt⟩) HK0.out
   clear ho hb HD4;go_wp2_with fail
   go_roundw
   case rel=>exact⟨t+1,_,m4,D4,by omega,by go_num,HNR.out,HM4.out,HC4.out,by omega,K4.out⟩
   case measure=>simp [intOf];omega
  ·have h1: ¬(t:Int)<(m:Int):=by omega
   obtain rfl:m=t:=by omega
   have HV:Hid (paF C R S n D m=if 120<L.length then none else some L):=paF_end HCK.out (by omega) HRUN.out;obtain⟨k,HKN⟩: ∃k,Hid (L.length=k):=⟨_,rfl⟩;have hk480:k≤10000:=by rw [←HKN.out];have:=HPI.out.len;omega
   have hsz:Maps.size Dm=k:=by rw [HCM.out.size HMP.out,HKN.out]
   by_cases h120:120<k
   ·have q3:(120:Int)<((k:Nat):Int):=by omega
    go_wp2_with (first
     | (at_len;refine wpList_len_own _ rfl _ 55 rfl 30 52 Tryz.underlying55 _ g cnt Dm rfl HMP.out ?_;rw [hsz])
     | fail)
    go_wp2_with fail
    refine bodyPost_ret (v:= .tuple #[.slice none 0 0,.bool false]) ?_ rfl ⟨?_,KA.out⟩
    ·simp (maxDischargeDepth:=9) [results,Tryz.results16,go_sem, *]
    ·rw [HV.out,HKN.out,if_pos h120];exact rfl
   ·have q3: ¬(120:Int)<((k:Nat):Int):=by omega
    go_wp2_with (first
     | (at_len;refine wpList_len_own _ rfl _ 55 rfl 30 52 Tryz.underlying55 _ g cnt Dm rfl HMP.out ?_;rw [hsz])
     | fail)
    go_wp2_with fail
    refine(impl_inOrder _ HMP.out HCM.out (by rw [HKN.out];omega)).mono ?_;rintro e u5 ⟨A5,c5,M,rfl,hp,hpw,ho,hb⟩;have HMS:Hid (M=L):=ltC_one hpw HPI.out.rise hp;rw [HMS.out,HKN.out]at ho;rw [HKN.out];have HO:Hid (u5.ownsRow w.heap.size 52 3 (.slice A5 k c5) k (VU CL.cs L)):=Go.Proofs.ownsRow_base_a ho KA.out.size;have K5:=hd (Qd KA.out hb)
    clear ho hb hp hpw;go_wp2_with fail
    refine bodyPost_ret (v:= .tuple #[.slice A5 k c5,.bool true]) ?_ rfl ⟨?_,K5.out⟩
    ·simp (maxDischargeDepth:=9) [results,Tryz.results16,go_sem, *]
    ·rw [HV.out,HKN.out,if_neg h120];exact⟨A5,c5,k,rfl,HKN.out,HO.out⟩
theorem law_FnExactPatched {A A':Option Addr} {n cap m cap':Nat} {C R:Nat→Int} {S:Nat→ByteArray} {D:Nat→CH} (w:World) (h:ClRow w A n C R S) (h':ChRow w A' m D) (hg:GI w):Calls Tryz.prog 4 #[.slice A n cap,.slice A' m cap'] w fun e w'=>
  e= .returned (.bool true)∧Below w.heap.size w w':=by
 have HR:Hid (ClRow w A n C R S):=h;have HD:Hid (ChRow w A' m D):=h';have HG:Hid (GI w):=hg;have HSS:Hid (∀i,i<n→(S i).size≤maxLen):=fun i hi=>by obtain⟨_,_,_,_,_,_,_,h9⟩:=h.2 i hi;exact h9
 have HDS:Hid (∀i,i<m→(D i).f.size≤maxLen∧(D i).t.size≤maxLen):=fun i hi=>ch_apart h' hi;obtain⟨L,HL⟩: ∃L,Hid ((paF C R S n D m).getD []=L):=⟨_,rfl⟩;have HLS:Hid (∀x∈L,x.s.size≤maxLen):=by rw [←HL.out];exact pa_sz HSS.out
 obtain⟨ob,HOB⟩: ∃ob:Bool,Hid ((paF C R S n D m).isSome=ob):=⟨_,rfl⟩;obtain⟨mn,HMN⟩: ∃mn,Hid (L.length=mn):=⟨_,rfl⟩;obtain⟨xx,HXX⟩: ∃xx,Hid (VU CL.cs L=xx):=⟨_,rfl⟩;have hmn:mn≤1048576:=by rw [←HMN.out,←HL.out];have:=pa_len (C:=C) (R:=R) (S:=S) (n:=n) (D:=D) (m:=m);omega
 have eb:(ob !=ob)=false:=by simp
 clear h h' hg;go_enter Tryz.func4,Tryz.ntmps4;have KX:Hid (Below w.heap.size w w):=Below.refl _ _;go_wp2_with fail
 refine(laws_szCellSL 1048576 _ HR.out (by omega) (by omega)).mono ?_;rintro e u1 ⟨z,rfl,hz1,hz,hb⟩;replace KX:=hd (Qd KX.out hb);clear hb;by_cases hneg:z<0
 ·go_wp2_with fail
  go_ret;exact⟨rfl,KX.out⟩
 have hn:n≤1048576:=hz (by omega);clear hz;go_wp2_with fail
 refine(laws_szChangeSL z _ (HD.out.below KX.out) (by omega) hz1).mono ?_;rintro e u2 ⟨y,rfl,hy1,hy,hb⟩;replace KX:=hd (Qd KX.out hb);clear hb;by_cases hneg2:y<0
 ·go_wp2_with fail
  go_ret;exact⟨rfl,KX.out⟩
 have hm:m≤1048576:=hy (by omega);clear hy;go_wp2_with fail
 refine(Qc2 _ (HR.out.below KX.out) hn).mono ?_;rintro e u3 ⟨v,rfl,ho,hb⟩;obtain⟨Au3,cu3,rfl,_,_⟩:=QP ho;have OS:Hid (u3.ownsRow u2.heap.size 52 3 (.slice Au3 n cu3) n (clX C R S n)):=ho;have Su3:Hid (u2.heap.size≤u3.heap.size):=hb.size;clear ho;replace KX:=hd (Qd KX.out hb)
 clear hb;go_wp2_with fail
 refine(laws_toChangeS _ (HD.out.below KX.out) hm).mono ?_;rintro e u4 ⟨v,rfl,ho,hb⟩;obtain⟨Au4,cu4,rfl,_,_⟩:=QP ho;have OC:Hid (u4.ownsRow u3.heap.size 65 4 (.slice Au4 m cu4) m (chX D m)):=ho;have Su4:Hid (u3.heap.size≤u4.heap.size):=hb.size;clear ho;replace KX:=hd (Qd KX.out hb)
 replace OS:=hd (Qp OS.out hb);clear hb;go_wp2_with fail
 refine(spec_Patched _ (Qii OS.out HSS.out) (ch_of_own OC.out HDS.out)).mono ?_;rintro e u5 ⟨her,hb⟩;obtain⟨Au5,cu5,rfl,ho⟩:=en_form2 HL.out HMN.out HXX.out HOB.out her;have OW:Hid (u5.ownsRow u4.heap.size 52 3 (.slice Au5 mn cu5) mn xx):=ho;have Su5:Hid (u4.heap.size≤u5.heap.size):=hb.size;have BW:Hid (∀k,(Value.slice Au5 mn cu5).ownBlock=some k→k<u5.heap.size):=fun k hk=>(OW.out.lt k hk).2;clear ho her
 replace KX:=hd (Qd KX.out hb);replace OS:=hd (Qp OS.out hb);replace OC:=hd (Qp OC.out hb);clear hb;clear OS OC;go_wp2_with fail
 refine(Qc2 _ (HR.out.below KX.out) hn).mono ?_;rintro e u6 ⟨v,rfl,ho,hb⟩;obtain⟨Au6,cu6,rfl,_,_⟩:=QP ho;have OX:Hid (u6.ownsRow u5.heap.size 52 3 (.slice Au6 n cu6) n (clX C R S n)):=ho;have Su6:Hid (u5.heap.size≤u6.heap.size):=hb.size;have BX:Hid (∀k,(Value.slice Au6 n cu6).ownBlock=some k→u5.heap.size≤k∧k<u6.heap.size):=fun k hk=>OX.out.lt k hk;have W5:Hid (w.heap.size≤u5.heap.size):=KX.out.size
 clear ho;replace KX:=hd (Qd KX.out hb);replace OW:=hd (Qp OW.out hb);clear hb;go_wp2_with fail
 refine(laws_toChangeS _ (HD.out.below KX.out) hm).mono ?_;rintro e u7 ⟨v,rfl,ho,hb⟩;obtain⟨Au7,cu7,rfl,_,_⟩:=QP ho;have OZ:Hid (u7.ownsRow u6.heap.size 65 4 (.slice Au7 m cu7) m (chX D m)):=ho;have Su7:Hid (u6.heap.size≤u7.heap.size):=hb.size;have BZ:Hid (∀k,(Value.slice Au7 m cu7).ownBlock=some k→u6.heap.size≤k∧k<u7.heap.size):=fun k hk=>OZ.out.lt k hk;clear ho
 replace KX:=hd (Qd KX.out hb);replace OW:=hd (Qp OW.out hb);replace OX:=hd (Qp OX.out hb);clear hb;go_wp2_with fail
 refine(impl_Patched _ (Qii OX.out HSS.out) (ch_of_own OZ.out HDS.out) (HG.out.below KX.out)).mono ?_;rintro e u8 ⟨her,hb⟩;obtain⟨Au8,cu8,rfl,ho⟩:=en_form2 HL.out HMN.out HXX.out HOB.out her;have OG:Hid (u8.ownsRow u7.heap.size 52 3 (.slice Au8 mn cu8) mn xx):=ho;have Su8:Hid (u7.heap.size≤u8.heap.size):=hb.size;have BG:Hid (∀k,(Value.slice Au8 mn cu8).ownBlock=some k→u7.heap.size≤k):=fun k hk=>(OG.out.lt k hk).1;clear ho her
 replace KX:=hd (Qd KX.out hb);replace OW:=hd (Qp OW.out hb);replace OX:=hd (Qp OX.out hb);replace OZ:=hd (Qp OZ.out hb);clear hb;go_wp2_with fail
 refine(eq_of_lists HMN.out HLS.out (by rw [HXX.out];exact OG.out) (by rw [HXX.out];exact OW.out)).mono ?_;rintro e u9 ⟨rfl,hb⟩;replace KX:=hd (Qd KX.out hb);replace OW:=hd (Qp OW.out hb);replace OX:=hd (Qp OX.out hb);replace OZ:=hd (Qp OZ.out hb);replace OG:=hd (Qp OG.out hb)
 clear hb;go_wp2_with fail
 refine(Qc2 _ (HR.out.below KX.out) hn).mono ?_;rintro e u10 ⟨v,rfl,ho,hb⟩;obtain⟨Au10,cu10,rfl,_,_⟩:=QP ho;have OY:Hid (u10.ownsRow u9.heap.size 52 3 (.slice Au10 n cu10) n (clX C R S n)):=ho;have Su10:Hid (u9.heap.size≤u10.heap.size):=hb.size;clear ho;replace KX:=hd (Qd KX.out hb)
 replace OW:=hd (Qp OW.out hb);replace OX:=hd (Qp OX.out hb);replace OZ:=hd (Qp OZ.out hb);replace OG:=hd (Qp OG.out hb);clear hb;go_wp2_with fail
 refine(Qc4 _ (Qii OX.out HSS.out) (Qii OY.out HSS.out)).mono ?_;rintro e u11 ⟨rfl,hb⟩;replace KX:=hd (Qd KX.out hb);replace OW:=hd (Qp OW.out hb);replace OX:=hd (Qp OX.out hb);replace OZ:=hd (Qp OZ.out hb);replace OG:=hd (Qp OG.out hb)
 replace OY:=hd (Qp OY.out hb);clear hb;clear OY;go_wp2_with fail
 refine(laws_toChangeS _ (HD.out.below KX.out) hm).mono ?_;rintro e u12 ⟨v,rfl,ho,hb⟩;obtain⟨Au12,cu12,rfl,_,_⟩:=QP ho;have OY:Hid (u12.ownsRow u11.heap.size 65 4 (.slice Au12 m cu12) m (chX D m)):=ho;have Su12:Hid (u11.heap.size≤u12.heap.size):=hb.size;clear ho;replace KX:=hd (Qd KX.out hb)
 replace OW:=hd (Qp OW.out hb);replace OX:=hd (Qp OX.out hb);replace OZ:=hd (Qp OZ.out hb);replace OG:=hd (Qp OG.out hb);clear hb;go_wp2_with fail
 refine(laws_eqChangeS _ (ch_of_own OZ.out HDS.out) (ch_of_own OY.out HDS.out)).mono ?_;rintro e u13 ⟨rfl,hb⟩;replace KX:=hd (Qd KX.out hb);replace OW:=hd (Qp OW.out hb);replace OX:=hd (Qp OX.out hb);replace OZ:=hd (Qp OZ.out hb);replace OG:=hd (Qp OG.out hb)
 replace OY:=hd (Qp OY.out hb);clear hb;clear OY;go_wp2_with fail
 refine(laws_markCellS 1 _ OX.out hn (by omega) (by omega)).mono ?_;rintro e u14 ⟨rfl,hog,hgr⟩;replace KX:Hid (Below w.heap.size w u14):=KX.out.grown hgr KX.out.size (fun k hk=>by have h1:=(OX.out.lt k hk).1;have h2:=W5.out;have h3:=Su6.out;have h4:=Su7.out;omega);replace OW:Hid (u14.ownsRow u4.heap.size 52 3 (.slice Au5 mn cu5) mn (xx)):=gkeep OX.out hgr OW.out (fun k hk e=>by have h1:=BW.out k hk;have h2:=(BX.out k e).1;have h3:=Su6.out;have h4:=Su7.out;omega);replace OZ:Hid (u14.ownsRow u6.heap.size 65 4 (.slice Au7 m cu7) m (chX D m)):=gkeep OX.out hgr OZ.out (fun k hk e=>by have h1:=(BZ.out k hk).1;have h2:=(BX.out k e).2;have h3:=Su6.out;have h4:=Su7.out;omega);replace OG:Hid (u14.ownsRow u7.heap.size 52 3 (.slice Au8 mn cu8) mn (xx)):=gkeep OX.out hgr OG.out (fun k hk e=>by have h1:=BG.out k hk;have h2:=(BX.out k e).2;have h3:=Su6.out;have h4:=Su7.out;omega);clear hog hgr
 obtain⟨mx,HMX⟩: ∃mx:Int,Hid ((1+(n:Int)*3)=mx):=⟨_,rfl⟩;have hmx:0<mx∧mx≤70368744177664:=by have:=HMX.out;omega
 rw [HMX.out];clear OX;go_wp2_with fail
 refine(laws_markChangeS mx _ OZ.out hm (by omega) (by omega)).mono ?_;rintro e u15 ⟨rfl,hog,hgr⟩;replace KX:Hid (Below w.heap.size w u15):=KX.out.grown hgr KX.out.size (fun k hk=>by have h1:=(OZ.out.lt k hk).1;have h2:=W5.out;have h3:=Su6.out;have h4:=Su7.out;omega);replace OW:Hid (u15.ownsRow u4.heap.size 52 3 (.slice Au5 mn cu5) mn (xx)):=gkeep OZ.out hgr OW.out (fun k hk e=>by have h1:=BW.out k hk;have h2:=(BZ.out k e).1;have h3:=Su6.out;have h4:=Su7.out;omega);replace OG:Hid (u15.ownsRow u7.heap.size 52 3 (.slice Au8 mn cu8) mn (xx)):=gkeep OZ.out hgr OG.out (fun k hk e=>by have h1:=BG.out k hk;have h2:=(BZ.out k e).2;have h3:=Su6.out;have h4:=Su7.out;omega);clear hog hgr;obtain⟨my,HMY⟩: ∃my:Int,Hid ((mx+(m:Int)*4)=my):=⟨_,rfl⟩
 have hmy: ¬my<0:=by have:=HMY.out;omega
 rw [HMY.out];clear OZ;go_wp2_with fail
 refine(eq_of_lists HMN.out HLS.out (by rw [HXX.out];exact OG.out) (by rw [HXX.out];exact OW.out)).mono ?_;rintro e u16 ⟨rfl,hb⟩;replace KX:=hd (Qd KX.out hb);replace OW:=hd (Qp OW.out hb);replace OG:=hd (Qp OG.out hb);clear hb;go_wp2_with fail
 refine(laws_markCellS 1 _ OG.out hmn (by omega) (by omega)).mono ?_;rintro e u17 ⟨rfl,hog,hgr⟩;replace KX:Hid (Below w.heap.size w u17):=KX.out.grown hgr KX.out.size (fun k hk=>by have h1:=(OG.out.lt k hk).1;have h2:=W5.out;have h3:=Su6.out;have h4:=Su7.out;omega);replace OW:Hid (u17.ownsRow u4.heap.size 52 3 (.slice Au5 mn cu5) mn (xx)):=gkeep OG.out hgr OW.out (fun k hk e=>by have h1:=BW.out k hk;have h2:=BG.out k e;have h3:=Su6.out;have h4:=Su7.out;omega);replace OG:Hid (u17.ownsRow u7.heap.size 52 3 (.slice Au8 mn cu8) mn (VU ceL (mkL ceMk 3 1 mn))):=hog;clear hog hgr;obtain⟨mv,HMV⟩: ∃mv:Int,Hid ((1+(mn:Int)*3)=mv):=⟨_,rfl⟩
 have hmv0: ¬mv<0:=by have:=HMV.out;omega
 have hmv1:(mv !=mv)=false:=by simp
 rw [HMV.out];go_wp2_with fail
 refine(laws_heldCellS 1 _ (RowAt.of_own ceL_len OG.out (Qju _ _ _ _)) hmn (by omega) (by omega)).mono ?_;rintro e u18 ⟨rfl,hb⟩;replace KX:=hd (Qd KX.out hb);replace OW:=hd (Qp OW.out hb);replace OG:=hd (Qp OG.out hb);clear hb;rw [HMV.out]
 go_wp2_with fail
 refine(Qc2 _ (HR.out.below KX.out) hn).mono ?_;rintro e u19 ⟨v,rfl,ho,hb⟩;obtain⟨Au19,cu19,rfl,_,_⟩:=QP ho;have OS:Hid (u19.ownsRow u18.heap.size 52 3 (.slice Au19 n cu19) n (clX C R S n)):=ho;have Su19:Hid (u18.heap.size≤u19.heap.size):=hb.size;clear ho;replace KX:=hd (Qd KX.out hb)
 replace OW:=hd (Qp OW.out hb);replace OG:=hd (Qp OG.out hb);clear hb;go_wp2_with fail
 refine(laws_toChangeS _ (HD.out.below KX.out) hm).mono ?_;rintro e u20 ⟨v,rfl,ho,hb⟩;obtain⟨Au20,cu20,rfl,_,_⟩:=QP ho;have OC:Hid (u20.ownsRow u19.heap.size 65 4 (.slice Au20 m cu20) m (chX D m)):=ho;have Su20:Hid (u19.heap.size≤u20.heap.size):=hb.size;clear ho;replace KX:=hd (Qd KX.out hb)
 replace OW:=hd (Qp OW.out hb);replace OG:=hd (Qp OG.out hb);replace OS:=hd (Qp OS.out hb);clear hb;go_wp2_with fail
 refine(impl_Patched _ (Qii OS.out HSS.out) (ch_of_own OC.out HDS.out) (HG.out.below KX.out)).mono ?_;rintro e u21 ⟨her,hb⟩;obtain⟨Au21,cu21,rfl,ho⟩:=en_form2 HL.out HMN.out HXX.out HOB.out her;have OH:Hid (u21.ownsRow u20.heap.size 52 3 (.slice Au21 mn cu21) mn xx):=ho;have Su21:Hid (u20.heap.size≤u21.heap.size):=hb.size;clear ho her;replace KX:=hd (Qd KX.out hb)
 replace OW:=hd (Qp OW.out hb);replace OG:=hd (Qp OG.out hb);replace OS:=hd (Qp OS.out hb);replace OC:=hd (Qp OC.out hb);clear hb;clear OS OC;go_wp2_with fail
 refine(eq_of_lists HMN.out HLS.out (by rw [HXX.out];exact OH.out) (by rw [HXX.out];exact OW.out)).mono ?_;rintro e u22 ⟨rfl,hb⟩;replace KX:=hd (Qd KX.out hb);replace OW:=hd (Qp OW.out hb);replace OG:=hd (Qp OG.out hb);replace OH:=hd (Qp OH.out hb);clear hb
 go_wp2_with fail
 refine(laws_heldCellS 1 _ (RowAt.of_own ceL_len OG.out (Qju _ _ _ _)) hmn (by omega) (by omega)).mono ?_;rintro e u23 ⟨rfl,hb⟩;replace KX:=hd (Qd KX.out hb);replace OW:=hd (Qp OW.out hb);replace OG:=hd (Qp OG.out hb);replace OH:=hd (Qp OH.out hb);clear hb
 rw [HMV.out];go_wp2_with fail
 go_ret;exact⟨rfl,KX.out⟩
end Go.Proofs.YtojadpoabbhphaaGreatDoor
namespace Go.Proofs.YtojadpoabbhphaaGreatDoor
open Go.ChangeShapes Go.WideShapes Go.ChangeAt Go.RowKit Go.Joins
theorem trod_s3c {H:Type} {enc:TypeId × Value→H} {P:Program} {w:World} {base:Nat} {spare:Nat→Bool} {held:Bool} {t:TypeId} {f0 f1 f2:Field} {fuel:Nat} {cs:List Value} {x:DataW H × List MemPlace} (ht:P.underlying t=some (.struct #[f0,f1,f2])) (h:DataW.trod enc P w base spare held fuel t cs=some x):
  ∃y0 y1 y2 n,DataW.trod enc P w base spare held n f0.type ((cs.drop f0.offset).take (P.cellsOf f0.type))=some y0∧
   DataW.trod enc P w base spare held n f1.type ((cs.drop f1.offset).take (P.cellsOf f1.type))=some y1∧DataW.trod enc P w base spare held n f2.type ((cs.drop f2.offset).take (P.cellsOf f2.type))=some y2:=by
 obtain⟨xs,n,_,rfl,hl,hlen,hf⟩:=DataW.trod_struct ht h;match xs,hlen with
 | [y0,y1,y2],_=>exact⟨y0,y1,y2,n,by simpa using hf 0 f0 rfl,by simpa using hf 1 f1 rfl,by simpa using hf 2 f2 rfl⟩
theorem cellsCh:Tryz.prog.cellsOf 63=4:=by kernel_rfl
theorem open_chs {H:Type} {enc:TypeId × Value→H} {W:World} {r:Reach} {b0 base:Nat} {sp:Nat→Bool} {held:Bool} {v:Value} {d:DataW H} {p:List MemPlace}
  (hv:Value.okWide Tryz.prog W r b0 35 v) (h:DataW.Trod enc Tryz.prog W base sp held 35 v d p):
  ∃A len cap D,v= .slice A len cap∧ChRow W A len D:=by
 obtain⟨a0,len,cap,rfl⟩:=okWide_slice Tryz.underlying35 hv;obtain⟨fuel,hf⟩:=h;rcases Go.Deep.open_slice Tryz.underlying35 hf with⟨hcs,_⟩ | ⟨a,len',cap',m,n,D,Pl,hcs,_,hl,hm,hmm,_,hx⟩
 ·simp [Value.cells]at hcs;obtain⟨rfl,rfl,rfl⟩:=hcs;exact⟨none,0,0,fun _=>⟨0,0,⟨#[]⟩,⟨#[]⟩⟩,rfl,Nat.zero_le _,fun i hi=>absurd hi (Nat.not_lt_zero _)⟩
 ·simp [Value.cells]at hcs;obtain⟨rfl,rfl,rfl⟩:=hcs;rw [cellsCh]at hx;have hlm:len≤m:=by rw [hmm];split<;>omega
  have each: ∀i,i<len→ ∃q:CH,∃b o,some a=some (⟨b,o,none⟩:Addr)∧b<W.heap.size∧W.cell? ⟨b,o+i*4,none⟩=some (.int .i64 q.c)∧W.cell? ⟨b,o+i*4+1,none⟩=some (.int .i64 q.r)∧
    W.cell? ⟨b,o+i*4+2,none⟩=some (.string q.f)∧W.cell? ⟨b,o+i*4+3,none⟩=some (.string q.t)∧q.f.size≤maxLen∧q.t.size≤maxLen:=by
   intro i hi;obtain⟨cs',h1,h2⟩:=hx i (by omega);obtain⟨_,hlen,hcell⟩:=World.cells?_some h1;have kr:Tryz.prog.cellsOf 24=2:=by kernel_rfl
   have k1:Tryz.prog.cellsOf 2=1:=by kernel_rfl
   have ks:Tryz.prog.cellsOf 9=1:=by kernel_rfl
   match cs',hlen with
   | [v0,v1,v2,v3],_=>
    obtain⟨y0,y1,y2,n1,g0,g1,g2⟩:=trod_s3c Tryz.underlying63 h2;simp only [kr,ks,List.drop_zero,List.take_succ_cons,List.take_zero,List.drop_succ_cons]at g0 g1 g2;obtain⟨z0,z1,n2,_,_,q0,q1⟩:=trod_struct2 Tryz.underlying24 g0;simp only [k1,List.drop_zero,List.take_succ_cons,List.take_zero,List.drop_succ_cons]at q0 q1;obtain⟨x0,e0,_,_⟩:=DataW.trod_int Tryz.underlying2 q0;obtain⟨x1,e1,_,_⟩:=DataW.trod_int Tryz.underlying2 q1;obtain⟨s,e2,_,ws⟩:=DataW.trod_string Tryz.underlying9 g1
    obtain⟨s',e3,_,ws'⟩:=DataW.trod_string Tryz.underlying9 g2;simp at e0 e1 e2 e3;subst e0 e1 e2 e3;have d0:=hcell 0 (by omega);have d1:=hcell 1 (by omega);have d2:=hcell 2 (by omega);have d3:=hcell 3 (by omega)
    obtain⟨b,off,spot⟩:=a
    have hspot:spot=none:=by
     obtain⟨cs0,h01,_⟩:=hx 0 (by omega);obtain⟨_,hlen0,hcell0⟩:=World.cells?_some h01;have hc0:=hcell0 0 (by omega);rw [List.getElem?_eq_getElem (by omega)]at hc0;have hc1:=World.cell?_spot hc0;simpa [Addr.add]using hc1
    subst hspot;simp only [Go.WideShapes.add_plain]at d0 d1 d2 d3;refine⟨⟨x0,x1,s,s'⟩,b,off,rfl,World.block_lt_of_cell? W ⟨b,off+i*4+0,none⟩ d0,d0,d1,d2,d3,ws,ws'⟩
  haveI:Inhabited CH:=⟨⟨0,0,⟨#[]⟩,⟨#[]⟩⟩⟩
  obtain⟨q,hq⟩:=Go.Deep.choose_lt each;exact⟨some a,len,cap,q,rfl,Nat.le_trans hl hm,hq⟩
end Go.Proofs.YtojadpoabbhphaaGreatDoor
