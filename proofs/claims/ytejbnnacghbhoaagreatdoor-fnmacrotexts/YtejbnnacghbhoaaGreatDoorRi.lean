import Derived.Test.YtejbnnacghbhoaaGreatDoorMn
import Derived.Test.YtejbnnacghbhoaaGreatDoorGzb
import Derived.Test.YtejbnnacghbhoaaGreatDoorRd
import Derived.Test.YtejbnnacghbhoaaGreatDoorGbg
import Derived.Test.YtejbnnacghbhoaaGreatDoorRf
import Derived.Test.YtejbnnacghbhoaaGreatDoorRa
import Derived.Test.YtejbnnacghbhoaaGreatDoorRg
set_option linter.unusedSimpArgs false
set_option linter.unusedVariables false
set_option maxHeartbeats 8000000
set_option maxRecDepth 100000
namespace Go.Proofs.YtejbnnacghbhoaaGreatDoor
open Go.RowKit
theorem eq_headM {t:ByteArray}:eqH ((⟨#[61]⟩:ByteArray)++t)=true:=by
 unfold eqH;have h0:0<((⟨#[61]⟩:ByteArray)++t).size:=by rw [ByteArray.size_append];have:(⟨#[61]⟩:ByteArray).size=1:=rfl;omega
 rw [dif_pos h0]
 have h1:((⟨#[61]⟩:ByteArray)++t)[0]=61:=by
  have e:((⟨#[61]⟩:ByteArray)++t).data.toList=61::t.data.toList:=by simp
  have e2:((⟨#[61]⟩:ByteArray)++t).data.toList[0]'(by rw [e];simp)=61:=by simp
  exact e2
 rw [h1];rfl
theorem in_posM {t u:ByteArray} (h:inF ((⟨#[61]⟩:ByteArray)++t)=some u):1≤u.size∧u.size≤200:=by
 unfold inF at h;split at h
 ·unfold srT at h;rw [if_pos eq_headM]at h;unfold fsT at h;split at h
  ·split at h
   ·cases h
   ·unfold lim at h;simp only at h;split at h
    ·cases h
     refine⟨?_,by assumption⟩;rw [ByteArray.size_append];have:(⟨#[61]⟩:ByteArray).size=1:=rfl;omega
    ·cases h
  ·cases h
 ·cases h
theorem in_limM {s u:ByteArray} (h:inF s=some u):u.size≤200:=by
 unfold inF at h;split at h
 ·unfold lim at h;split at h
  ·split at h
   ·cases h;assumption
   ·cases h
  ·cases h
 ·cases h
theorem rd_good (H1:FtX 1 69) (r:Nat) (A:Option Addr) (len cap:Nat) (w:World) (hr:Rd w r A len cap):Calls Tryz.prog 121 #[.pointer (some ⟨r,0,none⟩),.int .i64 1] w fun e w'=>
  ∃t:ByteArray,e= .returned (.string t)∧t.size≤200∧Rd w' r A len cap∧Upd r w w':=by
 have HR0:Hid (Rd w r A len cap):=hr;have HL:Hid (r<w.heap.size):=hr.lt;clear hr;go_enter Tryz.func121,Tryz.ntmps121;go_wp2_with fail
 refine(H1 r A len cap w HR0.out).mono ?_;rintro e w1 ⟨t,rfl,ht,hr,hu⟩;have HR1:Hid (Rd w1 r A len cap):=hr;have HU1:Hid (Upd r w w1):=hu;clear hr hu;have e1:(⟨#[61]⟩:ByteArray).size=1:=rfl;have hst: ¬9223372036854775807<1+t.size:=by omega
 have hst2: ¬9223372036854775807<(⟨#[61]⟩:ByteArray).size+t.size:=by omega
 have ha:=Oa (x:=(⟨#[61]⟩:ByteArray)) (y:=t) (B:=100) (by omega) (by omega);go_wp2_with fail
 refine(QA ((⟨#[61]⟩:ByteArray)++t) w1 (by rw [ByteArray.size_append];unfold maxLen;omega)).mono ?_;rintro e w2 ⟨ho,hb⟩;have HR2:=hd (HR1.out.below hb);have HU2:Hid (Upd r w w2):=HU1.out.trans (Upd.of_below (Nat.le_of_lt HR1.out.lt) hb);clear hb ha;cases hi:inF ((⟨#[61]⟩:ByteArray)++t)with
 | none=>
  rw [hi]at ho;obtain rfl:e= .returned (.tuple #[.string ⟨#[]⟩,.bool false]):=ho;clear hi;go_wp2_with fail
  go_ret;exact⟨_,rfl,by show 1≤200;omega,HR2.out,HU2.out⟩
 | some u=>
  obtain⟨u1,u2⟩:=in_posM hi;rw [hi]at ho;obtain rfl:e= .returned (.tuple #[.string u,.bool true]):=ho;clear hi;have q1:(1:Int)≤(u.size:Int):=by omega
  go_wp2_with fail
  go_ret;exact⟨_,rfl,by rw [ByteArray.size_extract];omega,HR2.out,HU2.out⟩
theorem BX.upd {W W':World} {b r:Nat} {cs:List Value} (h:BX W b cs) (h0:0<cs.length) (hu:Upd r W W') (hn:b≠r):BX W' b cs:=fun j v hv=>
 ⟨(hu.1 b j (h.lt h0) hn).trans (h j v hv).1,(hu.2.1 b j (h.lt h0) hn).trans (h j v hv).2⟩
theorem Upd.appM {r:Nat} {w W W':World} {ob:Option Nat} (h:Upd r w W) (hg:W.grownBy W' ob) (hob: ∀k,ob=some k→w.heap.size≤k) (hr:r<w.heap.size):Upd r w W':=by
 have blk: ∀b,b<w.heap.size→W'.heap[b]? =W.heap[b]?:=fun b hb=>hg.block b (Nat.lt_of_lt_of_le hb h.2.2.1) (fun e=>by have:=hob b e.symm;omega);refine⟨fun b o hb hn=> ?_,fun b o hb hn=> ?_,Nat.le_trans h.2.2.1 hg.size,⟨hg.os.trans h.2.2.2.1.os,hg.tape.trans h.2.2.2.1.tape,hg.output.trans h.2.2.2.1.output,Nat.le_trans h.2.2.1 hg.size,fun k hk=>(blk k (by omega)).trans (h.2.2.2.1.block k hk)⟩,fun b hb hn=>(blk b hb).trans (h.2.2.2.2 b hb hn)⟩
 ·refine Eq.trans ?_ (h.1 b o hb hn);unfold World.cell?;simp only [blk b hb]
 ·refine Eq.trans ?_ (h.2.1 b o hb hn);unfold World.frozen?;simp only [blk b hb]
theorem Rd.appM {w W W':World} {r len cap:Nat} {A:Option Addr} (h0:Rd w r A len cap) (h:Rd W r A len cap) (hu:Upd r w W') (hb:W'.heap[r]? =W.heap[r]?):Rd W' r A len cap:=by
 obtain⟨z0,hby,_,_,_⟩:=h0;obtain⟨_,_,c0,f1,p,hp,c1⟩:=h;have cellr: ∀o,W'.cell? ⟨r,o,none⟩=W.cell? ⟨r,o,none⟩:=fun o=>by unfold World.cell?;simp only [hb]
 have frzr: ∀o,W'.frozen? ⟨r,o,none⟩=W.frozen? ⟨r,o,none⟩:=fun o=>by unfold World.frozen?;simp only [hb]
 refine⟨z0,fun i hi=> ?_,(cellr _).trans c0,(frzr _).trans f1,p,hp,(cellr _).trans c1⟩;obtain⟨b,o,v,e,hn,c,v0,v1⟩:=hby i hi;exact⟨b,o,v,e,hn,(hu.1 _ _ (Zu c) hn).trans c,v0,v1⟩
theorem put_box {w W Y:World} {r b len cap:Nat} {A:Option Addr} (h0:Rd w r A len cap) (h:Rd W r A len cap) (hu:Upd r w W) (hb:w.heap.size≤b) (hbY:Below b W Y) (hz:Y.heap.size=W.heap.size) (hk: ∀k,k≠b→Y.heap[k]? =W.heap[k]?):Rd Y r A len cap∧Upd r w Y:=by
 have hl:=h0.lt;have gb:W.grownBy Y (some b):=⟨hbY.os,hbY.tape,hbY.output,by omega,fun k _ hr=>hk k (fun e=>hr (by rw [e]))⟩;have hU:=hu.appM gb (fun k e=>by cases e;exact hb) hl;exact⟨h0.appM h hU (hk r (by omega)),hU⟩
theorem rd_stmt (H1:FtX 1 69) (H2:FtX 2 228) (r:Nat) (A:Option Addr) (len cap:Nat) (w:World) (hr:Rd w r A len cap):Calls Tryz.prog 82 #[.pointer (some ⟨r,0,none⟩)] w fun e w'=>
  ∃x:SR,e= .returned (srV x)∧x.t.size≤300∧Rd w' r A len cap∧Upd r w w':=by
 have HR0:Hid (Rd w r A len cap):=hr;have HL:Hid (r<w.heap.size):=hr.lt;clear hr;go_enter Tryz.func82,Tryz.ntmps82;go_wp2_with fail
 obtain⟨X,HX⟩: ∃X,Hid (w.alloc (.cells #[.int .i64 0,.int .i64 0,.int .i64 0,.string ⟨#[]⟩,.int .i64 0] 69)=X):=⟨_,rfl⟩;have B0:Hid (BX X w.heap.size [.int .i64 0,.int .i64 0,.int .i64 0,.string ⟨#[]⟩,.int .i64 0]):=by rw [←HX.out];exact bx_new w _ _
 have KX:Hid (Below w.heap.size w X):=by rw [←HX.out];exact(Below.refl _ _).alloc (Nat.le_refl _) _
 have UX:Hid (Upd r w X):=Upd.of_below (Nat.le_of_lt HL.out) KX.out;have RX:=hd (HR0.out.below KX.out);have hne:w.heap.size≠r:=by have:=HL.out;omega
 rw [HX.out];clear HX KX;refine(QB r A len cap 8 X RX.out (by omega) (by omega)).mono ?_;rintro e w1 ⟨v,rfl,v0,v1,hr,hu⟩;have R1:Hid (Rd w1 r A len cap):=hr;have B1:Hid (BX w1 w.heap.size [.int .i64 0,.int .i64 0,.int .i64 0,.string ⟨#[]⟩,.int .i64 0]):=B0.out.upd (by simp) hu hne;have U1:Hid (Upd r w w1):=UX.out.trans hu
 clear hr hu B0 UX RX;have e1:(⟨#[65,49,61]⟩:ByteArray).size=3:=rfl;have e2:(⟨#[65,49,60]⟩:ByteArray).size=3:=rfl;have e3:(⟨#[49]⟩:ByteArray).size=1:=rfl;have hv:v=0∨v=1∨v=2∨v=3∨v=4∨v=5∨v=6∨v=7:=by omega
 clear v0 v1;rcases hv with rfl | rfl | rfl | rfl | rfl | rfl | rfl | rfl
 ·skip
  go_wp2_with fail
  refine(GM r A len cap w1 R1.out).mono ?_;rintro e w2 ⟨x,y,rfl,x1,x2,y1,y2,hr,hu⟩;have R2:Hid (Rd w2 r A len cap):=hr;have B2:Hid (BX w2 w.heap.size [.int .i64 0,.int .i64 0,.int .i64 0,.string ⟨#[]⟩,.int .i64 0]):=B1.out.upd (by simp) hu hne;have U2:Hid (Upd r w w2):=U1.out.trans hu;clear hr hu R1 B1 U1;go_wp2_with fail
  refine(rd_good H1 r A len cap w2 R2.out).mono ?_;rintro e w3 ⟨t,rfl,ht,hr,hu⟩;have R3:Hid (Rd w3 r A len cap):=hr;have B3:Hid (BX w3 w.heap.size [.int .i64 0,.int .i64 0,.int .i64 0,.string ⟨#[]⟩,.int .i64 0]):=B2.out.upd (by simp) hu hne;have U3:Hid (Upd r w w3):=U2.out.trans hu;clear hr hu R2 B2 U2;go_wp2_with (refine stoB (o:=0) B3.out [.int .i64 1,.int .i64 x,.int .i64 y,.string t,.int .i64 0] (by simp) rfl 69 _ _ rfl rfl rfl infoSt5 rfl ?_;intro Y hBY hbY hzY hkY;have d0:=(hBY 0 _ rfl).1;have d1:=(hBY 1 _ rfl).1;have d2:=(hBY 2 _ rfl).1;have d3:=(hBY 3 _ rfl).1;have d4:=(hBY 4 _ rfl).1;have FIN:Hid (Rd Y r A len cap∧Upd r w Y):=put_box HR0.out R3.out U3.out (Nat.le_refl _) hbY hzY hkY;clear hBY hbY hzY hkY)
  refine bodyPost_ret (v:=srV ⟨1,x,y,t,0⟩) ?_ rfl ⟨⟨1,x,y,t,0⟩,rfl,by show t.size≤300;omega,FIN.out.1,FIN.out.2⟩;simp (maxDischargeDepth:=9) [results,Tryz.results82,go_sem,srV, *]
 ·skip
  go_wp2_with fail
  refine(GM r A len cap w1 R1.out).mono ?_;rintro e w2 ⟨x,y,rfl,x1,x2,y1,y2,hr,hu⟩;have R2:Hid (Rd w2 r A len cap):=hr;have B2:Hid (BX w2 w.heap.size [.int .i64 0,.int .i64 0,.int .i64 0,.string ⟨#[]⟩,.int .i64 0]):=B1.out.upd (by simp) hu hne;have U2:Hid (Upd r w w2):=U1.out.trans hu;clear hr hu R1 B1 U1;go_wp2_with fail
  refine(rd_good H1 r A len cap w2 R2.out).mono ?_;rintro e w3 ⟨t,rfl,ht,hr,hu⟩;have R3:Hid (Rd w3 r A len cap):=hr;have B3:Hid (BX w3 w.heap.size [.int .i64 0,.int .i64 0,.int .i64 0,.string ⟨#[]⟩,.int .i64 0]):=B2.out.upd (by simp) hu hne;have U3:Hid (Upd r w w3):=U2.out.trans hu;clear hr hu R2 B2 U2;go_wp2_with (refine stoB (o:=0) B3.out [.int .i64 1,.int .i64 x,.int .i64 y,.string t,.int .i64 0] (by simp) rfl 69 _ _ rfl rfl rfl infoSt5 rfl ?_;intro Y hBY hbY hzY hkY;have d0:=(hBY 0 _ rfl).1;have d1:=(hBY 1 _ rfl).1;have d2:=(hBY 2 _ rfl).1;have d3:=(hBY 3 _ rfl).1;have d4:=(hBY 4 _ rfl).1;have FIN:Hid (Rd Y r A len cap∧Upd r w Y):=put_box HR0.out R3.out U3.out (Nat.le_refl _) hbY hzY hkY;clear hBY hbY hzY hkY)
  refine bodyPost_ret (v:=srV ⟨1,x,y,t,0⟩) ?_ rfl ⟨⟨1,x,y,t,0⟩,rfl,by show t.size≤300;omega,FIN.out.1,FIN.out.2⟩;simp (maxDischargeDepth:=9) [results,Tryz.results82,go_sem,srV, *]
 ·skip
  go_wp2_with fail
  refine(GM r A len cap w1 R1.out).mono ?_;rintro e w2 ⟨x,y,rfl,x1,x2,y1,y2,hr,hu⟩;have R2:Hid (Rd w2 r A len cap):=hr;have B2:Hid (BX w2 w.heap.size [.int .i64 0,.int .i64 0,.int .i64 0,.string ⟨#[]⟩,.int .i64 0]):=B1.out.upd (by simp) hu hne;have U2:Hid (Upd r w w2):=U1.out.trans hu;clear hr hu R1 B1 U1;go_wp2_with fail
  refine(rd_good H1 r A len cap w2 R2.out).mono ?_;rintro e w3 ⟨t,rfl,ht,hr,hu⟩;have R3:Hid (Rd w3 r A len cap):=hr;have B3:Hid (BX w3 w.heap.size [.int .i64 0,.int .i64 0,.int .i64 0,.string ⟨#[]⟩,.int .i64 0]):=B2.out.upd (by simp) hu hne;have U3:Hid (Upd r w w3):=U2.out.trans hu;clear hr hu R2 B2 U2;go_wp2_with (refine stoB (o:=0) B3.out [.int .i64 1,.int .i64 x,.int .i64 y,.string t,.int .i64 0] (by simp) rfl 69 _ _ rfl rfl rfl infoSt5 rfl ?_;intro Y hBY hbY hzY hkY;have d0:=(hBY 0 _ rfl).1;have d1:=(hBY 1 _ rfl).1;have d2:=(hBY 2 _ rfl).1;have d3:=(hBY 3 _ rfl).1;have d4:=(hBY 4 _ rfl).1;have FIN:Hid (Rd Y r A len cap∧Upd r w Y):=put_box HR0.out R3.out U3.out (Nat.le_refl _) hbY hzY hkY;clear hBY hbY hzY hkY)
  refine bodyPost_ret (v:=srV ⟨1,x,y,t,0⟩) ?_ rfl ⟨⟨1,x,y,t,0⟩,rfl,by show t.size≤300;omega,FIN.out.1,FIN.out.2⟩;simp (maxDischargeDepth:=9) [results,Tryz.results82,go_sem,srV, *]
 ·skip
  go_wp2_with fail
  refine(Eo H1 H2 r A len cap w1 R1.out).mono ?_;rintro e w2 ⟨s1,rfl,hs1,hr,hu⟩;have R2:Hid (Rd w2 r A len cap):=hr;have B2:Hid (BX w2 w.heap.size [.int .i64 0,.int .i64 0,.int .i64 0,.string ⟨#[]⟩,.int .i64 0]):=B1.out.upd (by simp) hu hne;have U2:Hid (Upd r w w2):=U1.out.trans hu;clear hr hu R1 B1 U1;go_wp2_with fail
  refine(QA s1 w2 (by unfold maxLen;omega)).mono ?_;rintro e w3 ⟨ho,hb⟩;have R3:=hd (R2.out.below hb);have B3:Hid (BX w3 w.heap.size [.int .i64 0,.int .i64 0,.int .i64 0,.string ⟨#[]⟩,.int .i64 0]):=B2.out.below (by simp) hb;have U3:Hid (Upd r w w3):=U2.out.trans (Upd.of_below (Nat.le_of_lt R2.out.lt) hb);clear hb R2 B2 U2;cases hi:inF s1 with
  | none=>
   rw [hi]at ho;obtain rfl:e= .returned (.tuple #[.string ⟨#[]⟩,.bool false]):=ho;clear hi;go_wp2_with fail
   refine(GM r A len cap w3 R3.out).mono ?_;rintro e w4 ⟨x,y,rfl,x1,x2,y1,y2,hr,hu⟩;have R4:Hid (Rd w4 r A len cap):=hr;have B4:Hid (BX w4 w.heap.size [.int .i64 0,.int .i64 0,.int .i64 0,.string ⟨#[]⟩,.int .i64 0]):=B3.out.upd (by simp) hu hne;have U4:Hid (Upd r w w4):=U3.out.trans hu;clear hr hu R3 B3 U3;go_wp2_with (refine stoB (o:=0) B4.out [.int .i64 2,.int .i64 x,.int .i64 y,.string ⟨#[49]⟩,.int .i64 0] (by simp) rfl 69 _ _ rfl rfl rfl infoSt5 rfl ?_;intro Y hBY hbY hzY hkY;have d0:=(hBY 0 _ rfl).1;have d1:=(hBY 1 _ rfl).1;have d2:=(hBY 2 _ rfl).1;have d3:=(hBY 3 _ rfl).1;have d4:=(hBY 4 _ rfl).1;have FIN:Hid (Rd Y r A len cap∧Upd r w Y):=put_box HR0.out R4.out U4.out (Nat.le_refl _) hbY hzY hkY;clear hBY hbY hzY hkY)
   refine bodyPost_ret (v:=srV ⟨2,x,y,⟨#[49]⟩,0⟩) ?_ rfl ⟨⟨2,x,y,⟨#[49]⟩,0⟩,rfl,by show(⟨#[49]⟩:ByteArray).size≤300;omega,FIN.out.1,FIN.out.2⟩;simp (maxDischargeDepth:=9) [results,Tryz.results82,go_sem,srV, *]
  | some t=>
   have ht:=in_limM hi;rw [hi]at ho;obtain rfl:e= .returned (.tuple #[.string t,.bool true]):=ho;clear hi;go_wp2_with fail
   refine(GM r A len cap w3 R3.out).mono ?_;rintro e w4 ⟨x,y,rfl,x1,x2,y1,y2,hr,hu⟩;have R4:Hid (Rd w4 r A len cap):=hr;have B4:Hid (BX w4 w.heap.size [.int .i64 0,.int .i64 0,.int .i64 0,.string ⟨#[]⟩,.int .i64 0]):=B3.out.upd (by simp) hu hne;have U4:Hid (Upd r w w4):=U3.out.trans hu;clear hr hu R3 B3 U3;go_wp2_with (refine stoB (o:=0) B4.out [.int .i64 2,.int .i64 x,.int .i64 y,.string t,.int .i64 0] (by simp) rfl 69 _ _ rfl rfl rfl infoSt5 rfl ?_;intro Y hBY hbY hzY hkY;have d0:=(hBY 0 _ rfl).1;have d1:=(hBY 1 _ rfl).1;have d2:=(hBY 2 _ rfl).1;have d3:=(hBY 3 _ rfl).1;have d4:=(hBY 4 _ rfl).1;have FIN:Hid (Rd Y r A len cap∧Upd r w Y):=put_box HR0.out R4.out U4.out (Nat.le_refl _) hbY hzY hkY;clear hBY hbY hzY hkY)
   refine bodyPost_ret (v:=srV ⟨2,x,y,t,0⟩) ?_ rfl ⟨⟨2,x,y,t,0⟩,rfl,by show t.size≤300;omega,FIN.out.1,FIN.out.2⟩;simp (maxDischargeDepth:=9) [results,Tryz.results82,go_sem,srV, *]
 ·skip
  go_wp2_with fail
  refine(Eo H1 H2 r A len cap w1 R1.out).mono ?_;rintro e w2 ⟨s1,rfl,hs1,hr,hu⟩;have R2:Hid (Rd w2 r A len cap):=hr;have B2:Hid (BX w2 w.heap.size [.int .i64 0,.int .i64 0,.int .i64 0,.string ⟨#[]⟩,.int .i64 0]):=B1.out.upd (by simp) hu hne;have U2:Hid (Upd r w w2):=U1.out.trans hu;clear hr hu R1 B1 U1;go_wp2_with fail
  refine(QA s1 w2 (by unfold maxLen;omega)).mono ?_;rintro e w3 ⟨ho,hb⟩;have R3:=hd (R2.out.below hb);have B3:Hid (BX w3 w.heap.size [.int .i64 0,.int .i64 0,.int .i64 0,.string ⟨#[]⟩,.int .i64 0]):=B2.out.below (by simp) hb;have U3:Hid (Upd r w w3):=U2.out.trans (Upd.of_below (Nat.le_of_lt R2.out.lt) hb);clear hb R2 B2 U2;cases hi:inF s1 with
  | none=>
   rw [hi]at ho;obtain rfl:e= .returned (.tuple #[.string ⟨#[]⟩,.bool false]):=ho;clear hi;go_wp2_with fail
   refine(GM r A len cap w3 R3.out).mono ?_;rintro e w4 ⟨x,y,rfl,x1,x2,y1,y2,hr,hu⟩;have R4:Hid (Rd w4 r A len cap):=hr;have B4:Hid (BX w4 w.heap.size [.int .i64 0,.int .i64 0,.int .i64 0,.string ⟨#[]⟩,.int .i64 0]):=B3.out.upd (by simp) hu hne;have U4:Hid (Upd r w w4):=U3.out.trans hu;clear hr hu R3 B3 U3;go_wp2_with (refine stoB (o:=0) B4.out [.int .i64 2,.int .i64 x,.int .i64 y,.string ⟨#[49]⟩,.int .i64 0] (by simp) rfl 69 _ _ rfl rfl rfl infoSt5 rfl ?_;intro Y hBY hbY hzY hkY;have d0:=(hBY 0 _ rfl).1;have d1:=(hBY 1 _ rfl).1;have d2:=(hBY 2 _ rfl).1;have d3:=(hBY 3 _ rfl).1;have d4:=(hBY 4 _ rfl).1;have FIN:Hid (Rd Y r A len cap∧Upd r w Y):=put_box HR0.out R4.out U4.out (Nat.le_refl _) hbY hzY hkY;clear hBY hbY hzY hkY)
   refine bodyPost_ret (v:=srV ⟨2,x,y,⟨#[49]⟩,0⟩) ?_ rfl ⟨⟨2,x,y,⟨#[49]⟩,0⟩,rfl,by show(⟨#[49]⟩:ByteArray).size≤300;omega,FIN.out.1,FIN.out.2⟩;simp (maxDischargeDepth:=9) [results,Tryz.results82,go_sem,srV, *]
  | some t=>
   have ht:=in_limM hi;rw [hi]at ho;obtain rfl:e= .returned (.tuple #[.string t,.bool true]):=ho;clear hi;go_wp2_with fail
   refine(GM r A len cap w3 R3.out).mono ?_;rintro e w4 ⟨x,y,rfl,x1,x2,y1,y2,hr,hu⟩;have R4:Hid (Rd w4 r A len cap):=hr;have B4:Hid (BX w4 w.heap.size [.int .i64 0,.int .i64 0,.int .i64 0,.string ⟨#[]⟩,.int .i64 0]):=B3.out.upd (by simp) hu hne;have U4:Hid (Upd r w w4):=U3.out.trans hu;clear hr hu R3 B3 U3;go_wp2_with (refine stoB (o:=0) B4.out [.int .i64 2,.int .i64 x,.int .i64 y,.string t,.int .i64 0] (by simp) rfl 69 _ _ rfl rfl rfl infoSt5 rfl ?_;intro Y hBY hbY hzY hkY;have d0:=(hBY 0 _ rfl).1;have d1:=(hBY 1 _ rfl).1;have d2:=(hBY 2 _ rfl).1;have d3:=(hBY 3 _ rfl).1;have d4:=(hBY 4 _ rfl).1;have FIN:Hid (Rd Y r A len cap∧Upd r w Y):=put_box HR0.out R4.out U4.out (Nat.le_refl _) hbY hzY hkY;clear hBY hbY hzY hkY)
   refine bodyPost_ret (v:=srV ⟨2,x,y,t,0⟩) ?_ rfl ⟨⟨2,x,y,t,0⟩,rfl,by show t.size≤300;omega,FIN.out.1,FIN.out.2⟩;simp (maxDischargeDepth:=9) [results,Tryz.results82,go_sem,srV, *]
 ·skip
  go_wp2_with fail
  refine(QB r A len cap 2 w1 R1.out (by omega) (by omega)).mono ?_;rintro e w2 ⟨u,rfl,u0,u1,hr,hu⟩;have R2:Hid (Rd w2 r A len cap):=hr;have B2:Hid (BX w2 w.heap.size [.int .i64 0,.int .i64 0,.int .i64 0,.string ⟨#[]⟩,.int .i64 0]):=B1.out.upd (by simp) hu hne;have U2:Hid (Upd r w w2):=U1.out.trans hu;clear hr hu R1 B1 U1;have hw1:IntKind.i64.wrap (1+u)=1+u:=by rw [IntKind.wrap_i64];omega
  go_wp2_with fail
  refine(rd_good H1 r A len cap w2 R2.out).mono ?_;rintro e w3 ⟨t,rfl,ht,hr,hu⟩;have R3:Hid (Rd w3 r A len cap):=hr;have B3:Hid (BX w3 w.heap.size [.int .i64 0,.int .i64 0,.int .i64 0,.string ⟨#[]⟩,.int .i64 0]):=B2.out.upd (by simp) hu hne;have U3:Hid (Upd r w w3):=U2.out.trans hu;clear hr hu R2 B2 U2;go_wp2_with (refine stoB (o:=0) B3.out [.int .i64 3,.int .i64 0,.int .i64 0,.string t,.int .i64 (1+u)] (by simp) rfl 69 _ _ rfl rfl rfl infoSt5 rfl ?_;intro Y hBY hbY hzY hkY;have d0:=(hBY 0 _ rfl).1;have d1:=(hBY 1 _ rfl).1;have d2:=(hBY 2 _ rfl).1;have d3:=(hBY 3 _ rfl).1;have d4:=(hBY 4 _ rfl).1;have FIN:Hid (Rd Y r A len cap∧Upd r w Y):=put_box HR0.out R3.out U3.out (Nat.le_refl _) hbY hzY hkY;clear hBY hbY hzY hkY)
  refine bodyPost_ret (v:=srV ⟨3,0,0,t,1+u⟩) ?_ rfl ⟨⟨3,0,0,t,1+u⟩,rfl,by show t.size≤300;omega,FIN.out.1,FIN.out.2⟩;simp (maxDischargeDepth:=9) [results,Tryz.results82,go_sem,srV, *]
 ·skip
  go_wp2_with fail
  refine(QB r A len cap 9 w1 R1.out (by omega) (by omega)).mono ?_;rintro e w2 ⟨d,rfl,d0,d1,hr,hu⟩;have R2:Hid (Rd w2 r A len cap):=hr;have B2:Hid (BX w2 w.heap.size [.int .i64 0,.int .i64 0,.int .i64 0,.string ⟨#[]⟩,.int .i64 0]):=B1.out.upd (by simp) hu hne;have U2:Hid (Upd r w w2):=U1.out.trans hu;clear hr hu R1 B1 U1;obtain⟨i,rfl⟩: ∃i:Nat,d=(i:Int):=⟨d.toNat,by omega⟩
  have hds:=Yb i;go_wp2_with fail
  refine(Kg i (by omega) w2).mono ?_;rintro e w3 ⟨rfl,hb⟩;have R3:=hd (R2.out.below hb);have B3:Hid (BX w3 w.heap.size [.int .i64 0,.int .i64 0,.int .i64 0,.string ⟨#[]⟩,.int .i64 0]):=B2.out.below (by simp) hb;have U3:Hid (Upd r w w3):=U2.out.trans (Upd.of_below (Nat.le_of_lt R2.out.lt) hb);clear hb R2 B2 U2;obtain⟨t,HT⟩: ∃t,Hid ((⟨#[65,49,61]⟩:ByteArray)++Yd i=t):=⟨_,rfl⟩
  have ht:t.size≤10:=by rw [←HT.out,ByteArray.size_append];omega
  have ha: ∀W,(Op.stringOp .add (⟨#[65,49,61]⟩:ByteArray) (Yd i)).run Tryz.prog W= .ok (.string t) W:=by rw [←HT.out];exact Oa (B:=100) (by omega) (by omega)
  have hq1: ¬9223372036854775807<3+(Yd i).size:=by omega
  have hte:=HT.out;go_wp2_with (refine stoB (o:=0) B3.out [.int .i64 5,.int .i64 0,.int .i64 0,.string t,.int .i64 0] (by simp) rfl 69 _ _ rfl rfl rfl infoSt5 rfl ?_;intro Y hBY hbY hzY hkY;have d0:=(hBY 0 _ rfl).1;have d1:=(hBY 1 _ rfl).1;have d2:=(hBY 2 _ rfl).1;have d3:=(hBY 3 _ rfl).1;have d4:=(hBY 4 _ rfl).1;have FIN:Hid (Rd Y r A len cap∧Upd r w Y):=put_box HR0.out R3.out U3.out (Nat.le_refl _) hbY hzY hkY;clear hBY hbY hzY hkY)
  refine bodyPost_ret (v:=srV ⟨5,0,0,t,0⟩) ?_ rfl ⟨⟨5,0,0,t,0⟩,rfl,by show t.size≤300;omega,FIN.out.1,FIN.out.2⟩;simp (maxDischargeDepth:=9) [results,Tryz.results82,go_sem,srV, *]
 ·skip
  go_wp2_with fail
  refine(QB r A len cap 2 w1 R1.out (by omega) (by omega)).mono ?_;rintro e w2 ⟨u,rfl,u0,u1,hr,hu⟩;have R2:Hid (Rd w2 r A len cap):=hr;have B2:Hid (BX w2 w.heap.size [.int .i64 0,.int .i64 0,.int .i64 0,.string ⟨#[]⟩,.int .i64 0]):=B1.out.upd (by simp) hu hne;have U2:Hid (Upd r w w2):=U1.out.trans hu;clear hr hu R1 B1 U1;have hw1:IntKind.i64.wrap (1+u)=1+u:=by rw [IntKind.wrap_i64];omega
  go_wp2_with fail
  refine(QB r A len cap 9 w2 R2.out (by omega) (by omega)).mono ?_;rintro e w3 ⟨d,rfl,d0,d1,hr,hu⟩;have R3:Hid (Rd w3 r A len cap):=hr;have B3:Hid (BX w3 w.heap.size [.int .i64 0,.int .i64 0,.int .i64 0,.string ⟨#[]⟩,.int .i64 0]):=B2.out.upd (by simp) hu hne;have U3:Hid (Upd r w w3):=U2.out.trans hu;clear hr hu R2 B2 U2;obtain⟨i,rfl⟩: ∃i:Nat,d=(i:Int):=⟨d.toNat,by omega⟩
  have hds:=Yb i;go_wp2_with fail
  refine(Kg i (by omega) w3).mono ?_;rintro e w4 ⟨rfl,hb⟩;have R4:=hd (R3.out.below hb);have B4:Hid (BX w4 w.heap.size [.int .i64 0,.int .i64 0,.int .i64 0,.string ⟨#[]⟩,.int .i64 0]):=B3.out.below (by simp) hb;have U4:Hid (Upd r w w4):=U3.out.trans (Upd.of_below (Nat.le_of_lt R3.out.lt) hb);clear hb R3 B3 U3;obtain⟨t,HT⟩: ∃t,Hid ((⟨#[65,49,60]⟩:ByteArray)++Yd i=t):=⟨_,rfl⟩
  have ht:t.size≤10:=by rw [←HT.out,ByteArray.size_append];omega
  have ha: ∀W,(Op.stringOp .add (⟨#[65,49,60]⟩:ByteArray) (Yd i)).run Tryz.prog W= .ok (.string t) W:=by rw [←HT.out];exact Oa (B:=100) (by omega) (by omega)
  have hq1: ¬9223372036854775807<3+(Yd i).size:=by omega
  have hte:=HT.out;go_wp2_with (refine stoB (o:=0) B4.out [.int .i64 4,.int .i64 0,.int .i64 0,.string t,.int .i64 (1+u)] (by simp) rfl 69 _ _ rfl rfl rfl infoSt5 rfl ?_;intro Y hBY hbY hzY hkY;have d0:=(hBY 0 _ rfl).1;have d1:=(hBY 1 _ rfl).1;have d2:=(hBY 2 _ rfl).1;have d3:=(hBY 3 _ rfl).1;have d4:=(hBY 4 _ rfl).1;have FIN:Hid (Rd Y r A len cap∧Upd r w Y):=put_box HR0.out R4.out U4.out (Nat.le_refl _) hbY hzY hkY;clear hBY hbY hzY hkY)
  refine bodyPost_ret (v:=srV ⟨4,0,0,t,1+u⟩) ?_ rfl ⟨⟨4,0,0,t,1+u⟩,rfl,by show t.size≤300;omega,FIN.out.1,FIN.out.2⟩;simp (maxDischargeDepth:=9) [results,Tryz.results82,go_sem,srV, *]
theorem run_append_nilM {P:Program} {w:World} (base:Nat) (t ty e:TypeId) (i:TypeInfo) (size c:Nat) (ht:P.underlying t=some (.slice e)) (hi:P.info? e=some i)
  (v:Value) (n:Nat) (xs:List Value) (hown:w.ownsRow base e size v n xs):(Builtin.append_ #[t,t] ty #[v,.slice none 0 c]).run P w= .ok v w:=by
 rcases hown.2 with⟨rfl,rfl⟩ | ⟨g,cap,cur,rfl,_,_,hnc,_⟩
 ·simp [Builtin.append_,run_underlying ht,sizeOf,typeInfo,hi,Builtin.lenOf,Builtin.firstCells]
 ·simp [Builtin.append_,run_underlying ht,sizeOf,typeInfo,hi,Builtin.lenOf,Builtin.firstCells,hnc,storeCells]
theorem wpList_app_sts {ops:Array Oper} {rest:List Oper} {o:Oper} {a:Act} {Q:Exit→Act→World→Prop} {W:World} (hgd:o.guard=none) (s x:Operand) (ho:o.op= .call {callee:= .builtin .append,args:= #[s,x],argTypes:= #[34,34]}) (B:Nat) (hB:B≤W.heap.size) (v:Value) (n:Nat) (M:List SR) (hs:a.eval s=v) (hown:W.ownsRow B 69 5 v n (QC srC M))
  (A:Option Addr) (m c B2:Nat) (L:List SR) (hx:a.eval x= .slice A m c) (hrow:W.ownsRow B2 69 5 (.slice A m c) m (QC srC L)) (hn:n+m≤1048576)
  (h: ∀A' c' w',w'.ownsRow B 69 5 (.slice A' (n+m) c') (n+m) (QC srC (M++L))→W.grownBy w' v.ownBlock→wpList Tryz.prog ops Q rest (a.put o.dst (.slice A' (n+m) c')) w'):wpList Tryz.prog ops Q (o::rest) a W:=by
 obtain⟨i0,hi,iz0,iz1,iz2⟩:=info_parts infoStm;have hfl:QC srC (M++L)=QC srC M++QC srC L:=by unfold QC;rw [List.flatMap_append]
 rcases hrow.2 with⟨e,hm⟩ | ⟨g,cap,cur,e,hbg,hg,hmc,hcm,hcs,htk⟩
 ·cases e
  have hL:QC srC L= []:=by have:=hrow.1;rw [Nat.zero_mul]at this;exact List.eq_nil_of_length_eq_zero this
  obtain⟨A',cap',rfl,_,_⟩:=Qu hown;refine wpList_plain hgd fun K hK=> ?_;have hrun:=run_append_nilM (P:=Tryz.prog) (w:=W) B 34 o.type 69 i0 5 0 Tryz.underlying34 hi _ n _ hown;unfold Oper.wp;simp [execOp,ho,resolve,invoke,builtin,hs,hx,hrun,Result.andThen];exact hK _ _ (h A' cap' W (by rw [hfl,hL,List.append_nil];exact hown) (World.grownBy.refl _ _))
 ·cases e
  refine wpList_append_own W hgd s x 34 ho B 69 i0 (.agg #[.int .i64 0,.int .i64 0,.int .i64 0,.string ⟨#[]⟩,.int .i64 0]) 5 48 Tryz.underlying34 hi iz0 iz1 iz2 rfl (by decide) v n _ hs hown ⟨g,0,none⟩ m c (QC srC L) hx hrow.1 ?_ ?_ ?_ ?_ hB ?_
  ·intro j u hu;have hj:j<m*5:=by rw [←hrow.1];exact(List.getElem?_eq_some_iff.1 hu).1
   have h9:=World.ownsRow.cellAt hrow j hj;rw [hu]at h9;have e2:(⟨g,0,none⟩:Addr).add j=⟨g,j,none⟩:=by rw [Addr.add_mid,Nat.zero_add]
   rw [e2];exact h9
  ·intro u hu;unfold QC at hu;obtain⟨y,_,hy⟩:=List.mem_flatMap.1 hu;simp [srC]at hy;rcases hy with rfl | rfl | rfl | rfl | rfl<;>rfl
  ·unfold maxLen;omega
  ·omega
  ·intro v' w3 hown' hgrow _;obtain⟨A',c',rfl,_,_⟩:=Qu hown';exact h A' c' w3 (by rw [hfl];exact hown') hgrow
theorem Upd.grownM {r:Nat} {W w':World} (h:Upd r W w'):W.grownBy w' (some r):=
 ⟨h.2.2.2.1.os,h.2.2.2.1.tape,h.2.2.2.1.output,h.2.2.1,fun k hk hr=>h.2.2.2.2 k hk (fun e=>hr (by rw [e]))⟩
theorem own_updM {W w1:World} {r B k s:Nat} {e:TypeId} {v:Value} {xs:List Value} (h:W.ownsRow B e s v k xs) (hu:Upd r W w1) (hr:r<B):w1.ownsRow B e s v k xs:=by
 refine h.kept hu.grownM ?_;cases hv:v.ownBlock with
 | none=>exact Or.inl rfl
 | some g=>
  right
  intro e9;cases e9
  have:=(h.lt r hv).1;omega
structure MdR (w w':World) (r:Nat) (A:Option Addr) (len cap:Nat) (v:Value) (L:List SR):Prop where
 own:w'.ownsRow w.heap.size 69 5 v L.length (QC srC L)
 sz: ∀x∈L,x.t.size≤300
 rd:Rd w' r A len cap
 upd:Upd r w w'
theorem MdR.ms {w w':World} {r len cap n c:Nat} {A B:Option Addr} {L:List SR} (h:MdR w w' r A len cap (.slice B n c) L) (hn:L.length=n):MsRow w' B n (sK L) (sC L) (sR L) (sT L) (sM L)∧ ∀i,i<n→(sT L i).size≤300:=by
 have hs: ∀i,i<L.length→(sT L i).size≤300:=fun i hi=>by
  have e:L.getD i dSR=L[i]:=by rw [List.getD_eq_getElem?_getD,List.getElem?_eq_getElem hi];rfl
  unfold sT;rw [e];exact h.sz _ (List.getElem_mem hi)
 have ho:=h.own;rw [hn]at ho;exact⟨ms_of_sr ho hn (fun i hi=>by have:=hs i hi;unfold maxLen;omega),fun i hi=>hs i (by omega)⟩
theorem MdR.keep {w W W':World} {r len cap:Nat} {A:Option Addr} {v:Value} {L:List SR} (h:MdR w W r A len cap v L) (hl:r<w.heap.size) (hu:Upd r W W') (hdq:Rd W' r A len cap):MdR w W' r A len cap v L:=
 ⟨own_updM h.own hu hl,h.sz,hdq,h.upd.trans hu⟩
theorem MdR.below {w W W':World} {r len cap:Nat} {A:Option Addr} {v:Value} {L:List SR} (h:MdR w W r A len cap v L) (hl:r<w.heap.size) (hb:Below W.heap.size W W'):MdR w W' r A len cap v L:=
 h.keep hl (Upd.of_below (Nat.le_of_lt (Nat.lt_of_lt_of_le hl h.upd.2.2.1)) hb) (h.rd.below hb)
theorem MdR.other {w W W':World} {r len cap X:Nat} {A:Option Addr} {v:Value} {L:List SR} {ob:Option Nat} (h:MdR w W r A len cap v L) (h0:Rd w r A len cap) (hl:r<w.heap.size) (hX:w.heap.size≤X) (hv: ∀k,v.ownBlock=some k→k<X) (hg:W.grownBy W' ob) (hob: ∀k,ob=some k→X≤k):MdR w W' r A len cap v L:=by
 have hu:Upd r w W':=h.upd.appM hg (fun k e=>Nat.le_trans hX (hob k e)) hl;refine⟨h.own.kept hg ?_,h.sz,Rd.appM h0 h.rd hu (hg.block r (Nat.lt_of_lt_of_le hl h.upd.2.2.1) (fun e=>by have:=hob r e.symm;omega)),hu⟩;cases hv9:v.ownBlock with
 | none=>exact Or.inl rfl
 | some g=>
  right
  intro e9;have h1:=hv g hv9;have h2:=hob g e9.symm;omega
theorem rd_macro (H1:FtX 1 69) (H2:FtX 2 228) (r:Nat) (A:Option Addr) (len cap:Nat) (w:World) (hr:Rd w r A len cap):Calls Tryz.prog 43 #[.pointer (some ⟨r,0,none⟩)] w fun e w'=>
  ∃(L:List SR) (B:Option Addr) (n c:Nat),e= .returned (.slice B n c)∧L.length=n∧n≤7∧MdR w w' r A len cap (.slice B n c) L:=by
 have HR0:Hid (Rd w r A len cap):=hr;have HL:Hid (r<w.heap.size):=hr.lt;clear hr;go_enter Tryz.func43,Tryz.ntmps43;go_wp2_with fail
 refine(XA r A len cap 4 w HR0.out (by omega) (by omega)).mono ?_;rintro e w1 ⟨b,rfl,hr,hu⟩;have R1:Hid (Rd w1 r A len cap):=hr;have U1:Hid (Upd r w w1):=hu;clear hr hu;cases b
 case true=>
  go_wp2_with fail
  refine(QB r A len cap 9 w1 R1.out (by omega) (by omega)).mono ?_;rintro e w2 ⟨d,rfl,d0,d1,hr,hu⟩;have R2:Hid (Rd w2 r A len cap):=hr;have U2:Hid (Upd r w w2):=U1.out.trans hu;clear hr hu R1 U1;obtain⟨i,rfl⟩: ∃i:Nat,d=(i:Int):=⟨d.toNat,by omega⟩;have hds:=Yb i
  have e2:(⟨#[65,49,60]⟩:ByteArray).size=3:=rfl;go_wp2_with fail
  refine(Kg i (by omega) w2).mono ?_;rintro e w3 ⟨rfl,hb⟩;have R3:=hd (R2.out.below hb);have U3:Hid (Upd r w w3):=U2.out.trans (Upd.of_below (Nat.le_of_lt R2.out.lt) hb);clear hb R2 U2;obtain⟨t,HT⟩: ∃t,Hid ((⟨#[65,49,60]⟩:ByteArray)++Yd i=t):=⟨_,rfl⟩;have ht:t.size≤10:=by rw [←HT.out,ByteArray.size_append];omega
  have ha: ∀W,(Op.stringOp .add (⟨#[65,49,60]⟩:ByteArray) (Yd i)).run Tryz.prog W= .ok (.string t) W:=by rw [←HT.out];exact Oa (B:=100) (by omega) (by omega)
  have hq1: ¬9223372036854775807<3+(Yd i).size:=by omega
  have hte:=HT.out;go_wp2_with fail
  refine(rd_stmt H1 H2 r A len cap w3 R3.out).mono ?_;rintro e w4 ⟨x,rfl,hx,hr,hu⟩;have R4:Hid (Rd w4 r A len cap):=hr;have U4:Hid (Upd r w w4):=U3.out.trans hu;clear hr hu R3 U3 ha;unfold srV;obtain⟨Y,HY⟩: ∃Y,Hid (w4.alloc (.cells #[.int .i64 1,.int .i64 1,.int .i64 1,.string ⟨#[65,49,43,49]⟩,.int .i64 0,.int .i64 1,.int .i64 2,.int .i64 1,.string ⟨#[66,49,43,65,49]⟩,.int .i64 0,.int .i64 4,.int .i64 0,.int .i64 0,.string t,.int .i64 2,.int .i64 x.k,.int .i64 x.c,.int .i64 x.r,.string x.t,.int .i64 x.m] 69)=Y):=⟨_,rfl⟩
  have HO:Hid (Y.ownsRow w.heap.size 69 5 (.slice (some ⟨w4.heap.size,0,none⟩) 4 4) 4 (QC srC [⟨1,1,1,⟨#[65,49,43,49]⟩,0⟩,⟨1,2,1,⟨#[66,49,43,65,49]⟩,0⟩,⟨4,0,0,t,2⟩,x])):=by
   rw [←HY.out];exact World.ownsRow_lit w4 _ 4 U4.out.2.2.1 (by unfold maxLen;omega) rfl
  have KY:Hid (Below w4.heap.size w4 Y):=by rw [←HY.out];exact(Below.refl _ _).alloc (Nat.le_refl _) _
  have UY:Hid (Upd r w Y):=U4.out.trans (Upd.of_below (Nat.le_of_lt R4.out.lt) KY.out);have RY:=hd (R4.out.below KY.out);go_wp2_with fail
  rw [HY.out];refine bodyPost_ret (v:= .slice (some ⟨w4.heap.size,0,none⟩) 4 4) ?_ rfl ⟨_,_,4,4,rfl,rfl,by omega,HO.out,?_,RY.out,UY.out⟩
  ·simp (maxDischargeDepth:=9) [results,Tryz.results43,go_sem]
  ·intro y hy;simp only [List.mem_cons,List.not_mem_nil,or_false]at hy;rcases hy with rfl | rfl | rfl | rfl
   ·show(⟨#[65,49,43,49]⟩:ByteArray).size≤300;exact(by decide:(⟨#[65,49,43,49]⟩:ByteArray).size≤300)
   ·show(⟨#[66,49,43,65,49]⟩:ByteArray).size≤300;exact(by decide:(⟨#[66,49,43,65,49]⟩:ByteArray).size≤300)
   ·show t.size≤300;omega
   ·exact hx
 go_wp2_with fail
 obtain⟨W1,HW1⟩: ∃W1,Hid (w1.alloc (.cells #[] 69)=W1):=⟨_,rfl⟩;have HB1:Hid (Below w1.heap.size w1 W1):=by rw [←HW1.out];exact(Below.refl _ _).alloc (Nat.le_refl _) _
 have HO1:Hid (W1.ownsRow w.heap.size 69 5 (.slice (some ⟨w1.heap.size,0,none⟩) 0 0) 0 (QC srC [])):=by rw [←HW1.out];exact own_empty U1.out.2.2.1 rfl
 have RB:=hd (R1.out.below HB1.out);have UB:Hid (Upd r w W1):=U1.out.trans (Upd.of_below (Nat.le_of_lt R1.out.lt) HB1.out);rw [HW1.out];refine(QB r A len cap 6 W1 RB.out (by omega) (by omega)).mono ?_;rintro e w2 ⟨d,rfl,d0,d1,hr,hu⟩;obtain⟨t,rfl⟩: ∃t:Nat,d=(t:Int):=⟨d.toNat,by omega⟩;have HS2:Hid (MdR w w2 r A len cap (.slice (some ⟨w1.heap.size,0,none⟩) 0 0) []):=⟨own_updM HO1.out hu HL.out,by simp,hr,UB.out.trans hu⟩
 have ht5:t≤5:=by omega
 clear hr hu HO1 RB UB HB1 R1 U1 HW1 d0 d1;go_wp2_with fail
 go_loopw [3,4] (fun o i wr=> ∃(k:Nat) (L:List SR) (B:Option Addr) (n c:Nat),k+n≤5∧i= .int .i64 k∧o= .slice B n c∧L.length=n∧MdR w wr r A len cap (.slice B n c) L) (fun _ i _=>(intOf i).toNat)
 case atStart=>exact⟨t,[],_,0,0,by omega,rfl,rfl,rfl,HS2.out⟩
 case round=>
  clear HS2;obtain⟨k,L,B,n,c,hk,rfl,rfl,hL,hsh⟩:=hrel;have HS:Hid (MdR w wr r A len cap (.slice B n c) L):=hsh;have HLn:Hid (L.length=n):=hL;have HW:Hid (w.heap.size≤wr.heap.size):=HS.out.upd.2.2.1;have HVB:Hid (∀j,(Value.slice B n c).ownBlock=some j→j<wr.heap.size):=fun j e=>(HS.out.own.lt j e).2;clear hsh hL
  by_cases hk0:0<k
  ·have q0:(0:Int)<(k:Int):=by omega
   have HO0:Hid ((wr.alloc (.cells #[] 69)).ownsRow wr.heap.size 69 5 (.slice (some ⟨wr.heap.size,0,none⟩) 0 0) 0 (QC srC [])):=own_empty (Nat.le_refl _) rfl;have HBl:Hid (Below wr.heap.size wr (wr.alloc (.cells #[] 69))):=(Below.refl _ _).alloc (Nat.le_refl _) _;have HSa:=hd (HS.out.below HL.out HBl.out);have HOa:Hid ((wr.alloc (.cells #[] 69)).ownsRow w.heap.size 69 5 (.slice B n c) n (QC srC L)):=by have h:=HSa.out.own;rw [HLn.out]at h;exact h
   go_wp2_with (first
    | (at_builtin;refine wpList_app_sts rfl _ _ rfl wr.heap.size HBl.out.size (.slice (some ⟨wr.heap.size,0,none⟩) 0 0) 0 [] rfl HO0.out B n c w.heap.size L rfl HOa.out (by omega) ?_)
    | fail)
   intro A1 c1 w2 ho hg;have S2:Hid (MdR w w2 r A len cap (.slice B n c) L):=HSa.out.other HR0.out HL.out HW.out HVB.out hg (fun j e=>by cases e;exact Nat.le_refl _);have HZ2:Hid (wr.heap.size≤w2.heap.size):=Nat.le_trans HBl.out.size hg.size;have O2:Hid (w2.ownsRow wr.heap.size 69 5 (.slice A1 n c1) n (QC srC L)):=ho;clear ho hg HO0 HBl HSa HOa HS;go_wp2_with fail
   refine(rd_stmt H1 H2 r A len cap w2 S2.out.rd).mono ?_;rintro e w3 ⟨x,rfl,hx,hr,hu⟩;have S3:Hid (MdR w w3 r A len cap (.slice B n c) L):=S2.out.keep HL.out hu hr;have HZ3:Hid (wr.heap.size≤w3.heap.size):=Nat.le_trans HZ2.out hu.2.2.1;have O3:Hid (w3.ownsRow wr.heap.size 69 5 (.slice A1 n c1) n (QC srC L)):=own_updM O2.out hu (Nat.lt_of_lt_of_le HL.out HW.out);have HX:Hid (x.t.size≤300):=hx;clear hr hu hx S2 O2
   unfold srV;obtain⟨Y,HY⟩: ∃Y,Hid (w3.alloc (.cells #[.int .i64 x.k,.int .i64 x.c,.int .i64 x.r,.string x.t,.int .i64 x.m] 69)=Y):=⟨_,rfl⟩;have KY:Hid (Below w3.heap.size w3 Y):=by rw [←HY.out];exact(Below.refl _ _).alloc (Nat.le_refl _) _
   have SY:=hd (S3.out.below HL.out KY.out);have OY:=hd (Qi O3.out KY.out)
   have LY:Hid (Y.ownsRow w3.heap.size 69 5 (.slice (some ⟨w3.heap.size,0,none⟩) 1 1) 1 (QC srC [x])):=by
    rw [←HY.out];exact World.ownsRow_lit w3 _ 1 (Nat.le_refl _) (by unfold maxLen;omega) rfl
   have ZY:Hid (wr.heap.size≤Y.heap.size):=by
    exact Nat.le_trans HZ3.out KY.out.size
   go_wp2_with (first
    | (at_builtin;refine wpList_app_sts rfl _ _ rfl wr.heap.size (by rw [HY.out];exact ZY.out) (.slice A1 n c1) n L rfl (by rw [HY.out];exact OY.out) (some ⟨w3.heap.size,0,none⟩) 1 1 w3.heap.size [x] rfl (by rw [HY.out];exact LY.out) (by omega) ?_)
    | fail)
   intro A2 c2 w4 ho hg;rw [HY.out]at hg;have S4:Hid (MdR w w4 r A len cap (.slice B n c) L):=SY.out.other HR0.out HL.out HW.out HVB.out hg (fun j e=>(OY.out.lt j e).1);have HN:Hid ((L++ [x]).length=n+1):=by show _=_;rw [List.length_append,HLn.out];rfl
   have N4:Hid (MdR w w4 r A len cap (.slice A2 (n+1) c2) (L++ [x])):=⟨by rw [HN.out];exact ZP ho HW.out,fun y hy=>by
    rcases List.mem_append.1 hy with hy | hy
    ·exact S4.out.sz y hy
    ·rw [List.mem_singleton.1 hy];exact HX.out,S4.out.rd,S4.out.upd⟩
   clear ho hg SY OY LY ZY KY HY O3 HX;obtain⟨m,HM⟩: ∃m,Hid (n+1=m):=⟨_,rfl⟩;obtain⟨N,HNN⟩: ∃N,Hid (L++ [x]=N):=⟨_,rfl⟩;rw [HM.out]at HN N4 ⊢;rw [HNN.out]at HN N4;have hm1:1≤m:=by have:=HM.out;omega
   have hm5:m≤n+1:=by have:=HM.out;omega
   go_wp2_with fail
   refine(Kw w4 (N4.out.ms HN.out).1 (fun i hi=>by have:=(N4.out.ms HN.out).2 i hi;omega)).mono ?_;rintro e w5 ⟨rfl,hb⟩;have S5:=hd (S4.out.below HL.out hb);have N5:=hd (N4.out.below HL.out hb);clear hb S4 N4;obtain⟨b,HBB⟩: ∃b,Hid (Zb (sK N) (sC N) (sR N) (sT N) (sM N) m=b):=⟨_,rfl⟩;rw [HBB.out]
   clear HBB;cases b
   ·obtain⟨b,o,he,hl,c0,_⟩:=(N5.out.ms HN.out).1.2 (m-1) (by omega);subst he;have hw1:IntKind.i64.wrap ((m:Int)-1)=((m-1:Nat):Int):=by rw [IntKind.wrap_i64];omega
    have h0:(0:Int)≤((m-1:Nat):Int):=by omega
    have h1:((m-1:Nat):Int)<(m:Int):=by omega
    by_cases hK:sK N (m-1)=3
    ·rw [hK]at c0;go_wp2_with fail
     go_roundw
     case rel=>exact⟨k-1,N,_,m,c2,by omega,by rw [show((k-1:Nat):Int)=(k:Int)-1 by omega],rfl,HN.out,N5.out⟩
     case measure=>simp [intOf];omega
    ·have hK1:(sK N (m-1)==3)=false:=by simpa using hK
     go_wp2_with fail
     go_roundw
     case rel=>exact⟨k-1,L,B,n,c,by omega,by rw [show((k-1:Nat):Int)=(k:Int)-1 by omega],rfl,HLn.out,S5.out⟩
     case measure=>simp [intOf];omega
   ·go_wp2_with fail
    go_roundw
    case rel=>exact⟨k-1,N,A2,m,c2,by omega,by rw [show((k-1:Nat):Int)=(k:Int)-1 by omega],rfl,HN.out,N5.out⟩
    case measure=>simp [intOf];omega
  ·have q0: ¬(0:Int)<(k:Int):=by omega
   go_wp2_with fail
   refine(Kw wr (HS.out.ms HLn.out).1 (fun i hi=>by have:=(HS.out.ms HLn.out).2 i hi;omega)).mono ?_;rintro e w2 ⟨rfl,hb⟩;have S2:=hd (HS.out.below HL.out hb);clear hb HS;obtain⟨b,HBB⟩: ∃b,Hid (Zb (sK L) (sC L) (sR L) (sT L) (sM L) n=b):=⟨_,rfl⟩;rw [HBB.out];clear HBB
   cases b
   rotate_left
   ·go_wp2_with fail
    go_ret;exact⟨L,B,n,c,rfl,HLn.out,by omega,S2.out⟩
   go_wp2_with fail
   refine(XA r A len cap 20 _ S2.out.rd (by omega) (by omega)).mono ?_;rintro e w3 ⟨b,rfl,hr,hu⟩;have S3:Hid (MdR w w3 r A len cap (.slice B n c) L):=S2.out.keep HL.out hu hr;clear hr hu S2;cases b
   rotate_left
   ·go_wp2_with fail
    go_ret;exact⟨L,B,n,c,rfl,HLn.out,by omega,S3.out⟩
   go_wp2_with fail
   refine(GM r A len cap _ S3.out.rd).mono ?_;rintro e w4 ⟨p,q,rfl,_,_,_,_,hr,hu⟩;have S4:Hid (MdR w w4 r A len cap (.slice B n c) L):=S3.out.keep HL.out hu hr;clear hr hu S3;go_wp2_with fail
   refine(GM r A len cap _ S4.out.rd).mono ?_;rintro e w5 ⟨p2,q2,rfl,_,_,_,_,hr,hu⟩;have S5:Hid (MdR w w5 r A len cap (.slice B n c) L):=S4.out.keep HL.out hu hr;clear hr hu S4;obtain⟨Y,HY⟩: ∃Y,Hid (w5.alloc (.cells #[.int .i64 1,.int .i64 p,.int .i64 q,.string ⟨#[49]⟩,.int .i64 0,.int .i64 1,.int .i64 p2,.int .i64 q2,.string ⟨#[65,49,43,66,50]⟩,.int .i64 0] 69)=Y):=⟨_,rfl⟩;have KY:Hid (Below w5.heap.size w5 Y):=by rw [←HY.out];exact(Below.refl _ _).alloc (Nat.le_refl _) _
   have SY:=hd (S5.out.below HL.out KY.out);have OY:Hid (Y.ownsRow w.heap.size 69 5 (.slice B n c) n (QC srC L)):=by have h:=SY.out.own;rw [HLn.out]at h;exact h
   have LY:Hid (Y.ownsRow w5.heap.size 69 5 (.slice (some ⟨w5.heap.size,0,none⟩) 2 2) 2 (QC srC [⟨1,p,q,⟨#[49]⟩,0⟩,⟨1,p2,q2,⟨#[65,49,43,66,50]⟩,0⟩])):=by
    rw [←HY.out];exact World.ownsRow_lit w5 _ 2 (Nat.le_refl _) (by unfold maxLen;omega) rfl
   go_wp2_with (first
    | (at_builtin;refine wpList_app_sts rfl _ _ rfl w.heap.size (by rw [HY.out];exact SY.out.upd.2.2.1) (.slice B n c) n L rfl (by rw [HY.out];exact OY.out) (some ⟨w5.heap.size,0,none⟩) 2 2 w5.heap.size [⟨1,p,q,⟨#[49]⟩,0⟩,⟨1,p2,q2,⟨#[65,49,43,66,50]⟩,0⟩] rfl (by rw [HY.out];exact LY.out) (by omega) ?_)
    | fail)
   intro A2 c2 w6 ho hg;rw [HY.out]at hg;have hob: ∀j,(Value.slice B n c).ownBlock=some j→w.heap.size≤j:=fun j e=>(OY.out.lt j e).1;have HU6:Hid (Upd r w w6):=SY.out.upd.appM hg hob HL.out;have HR6:Hid (Rd w6 r A len cap):=Rd.appM HR0.out SY.out.rd HU6.out (hg.block r (Nat.lt_of_lt_of_le HL.out SY.out.upd.2.2.1) (fun e=>by have:=hob r e.symm;have:=HL.out;omega))
   have HS6:Hid (MdR w w6 r A len cap (.slice A2 (n+2) c2) (L++ [⟨1,p,q,⟨#[49]⟩,0⟩,⟨1,p2,q2,⟨#[65,49,43,66,50]⟩,0⟩])):=⟨by rw [List.length_append,HLn.out];exact ho,fun y hy=>by
    rcases List.mem_append.1 hy with hy | hy
    ·exact S5.out.sz y hy
    ·simp only [List.mem_cons,List.not_mem_nil,or_false]at hy;rcases hy with rfl | rfl
     ·exact(by decide:(⟨#[49]⟩:ByteArray).size≤300)
     ·exact(by decide:(⟨#[65,49,43,66,50]⟩:ByteArray).size≤300),HR6.out,HU6.out⟩
   clear ho hg hob SY OY LY KY HY;go_wp2_with fail
   go_ret;exact⟨_,A2,n+2,c2,rfl,by rw [List.length_append,HLn.out];rfl,by omega,HS6.out⟩
end Go.Proofs.YtejbnnacghbhoaaGreatDoor
