import Derived.Test.YtkkbgjeilomnmaaGreatDoorMn
import Derived.Test.YtkkbgjeilomnmaaGreatDoorJca
import Derived.Test.YtkkbgjeilomnmaaGreatDoorVsC
set_option linter.unusedSimpArgs false
set_option linter.unusedVariables false
set_option maxHeartbeats 16000000
set_option maxRecDepth 100000
namespace Go.Proofs.YtkkbgjeilomnmaaGreatDoor
open Go.RowKit Go.Maps
def fullB (d:DG):Bool:=decide (40≤d.vs.length) || decide (1000000000≤d.next)
theorem impl_isFull {v:Value} {d:DG} (w:World) (h:DgRow w v d):
  Calls Tryz.prog 62 #[v] w fun e w'=>e= .returned (.bool (fullB d))∧Below w.heap.size w w':=by
 obtain⟨A1,n1,c1,A2,n2,c2,rfl⟩:=h.agg;obtain⟨r1,e1,_,_⟩:=h.open;have E1:Hid (d.vs.length=n1):=e1;have hn:=r1.1;rw [e1]at hn;unfold maxLen at hn
 have HF:Hid (fullB d=(decide ((40:Int)≤(n1:Int)) || decide (1000000000≤d.next))):=by
  show _=_;rw [fullB,e1];congr 1
  exact decide_eq_decide.2 (by omega)
 rw [HF.out];clear h r1 e1;by_cases h40:(40:Int)≤(n1:Int)
 ·go_enter Tryz.func62,Tryz.ntmps62;go_wp2_with fail
  go_ret;exact⟨Qa (by first | rfl | (rw [decide_eq_true h40];rfl)),by go_grown⟩
 ·by_cases hx:(1000000000:Int)≤d.next
  ·go_enter Tryz.func62,Tryz.ntmps62;go_wp2_with fail
   go_ret;exact⟨Qa (by first | rfl | (rw [decide_eq_true hx,Bool.or_true])),by go_grown⟩
  ·go_enter Tryz.func62,Tryz.ntmps62;go_wp2_with fail
   go_ret;exact⟨Qa (by first | rfl | (symm;rw [Bool.or_eq_false_iff];exact⟨decide_eq_false (by omega),decide_eq_false (by omega)⟩)),by go_grown⟩
def grownD (d:DG) (s:ByteArray) (x:VR):DG:=⟨d.next+1,d.vs++ [x],bsH s d.next d.bs⟩
theorem part_app {W:World} {B n:Nat} {ys:List Value} {L M:List VR} (h:VrPart W B ys L n) (hn:n=L.length):VrPart W B ys (L++M) n:=fun i x hi hx=>by
 rw [List.getElem?_append_left (by omega)]at hx;exact h i x hi hx
theorem VrApt.snocG {ys:List Value} {t:Nat} {a b c:Value} (h:VrApt ys t) (hl:ys.length=t*3) (hb: ∀i,i<t→(blkAt ys (i*3+1)=none∨blkAt ys (i*3+1)≠b.ownBlock)∧(b.ownBlock=none∨b.ownBlock≠blkAt ys (i*3+1))) (hc: ∀i,i<t→(blkAt ys (i*3+2)=none∨blkAt ys (i*3+2)≠c.ownBlock)∧(c.ownBlock=none∨c.ownBlock≠blkAt ys (i*3+2))):VrApt (ys++ [a,b,c]) (t+1):=by
 have e1:blkAt (ys++ [a,b,c]) (t*3+1)=b.ownBlock:=blkAt_some (by rw [List.getElem?_append_right (by omega),hl,show t*3+1-t*3=1 by omega];rfl);have e2:blkAt (ys++ [a,b,c]) (t*3+2)=c.ownBlock:=blkAt_some (by rw [List.getElem?_append_right (by omega),hl,show t*3+2-t*3=2 by omega];rfl)
 have eo: ∀i,i<t→ ∀k,k<3→blkAt (ys++ [a,b,c]) (i*3+k)=blkAt ys (i*3+k):=fun i hi k hk=>by
  unfold blkAt;rw [List.getElem?_append_left (by omega)]
 intro i j hi' hj hij;unfold sepAt;by_cases ei:i=t
 ·subst ei;have hj':j<i:=by omega
  rw [e1,e2,eo j hj' 1 (by omega),eo j hj' 2 (by omega)];exact⟨(hb j hj').2,(hc j hj').2⟩
 ·have hi2:i<t:=by omega
  rw [eo i hi2 1 (by omega),eo i hi2 2 (by omega)];by_cases ej:j=t
  ·subst ej;rw [e1,e2];exact⟨(hb i hi2).1,(hc i hi2).1⟩
  ·have hj2:j<t:=by omega
   rw [eo j hj2 1 (by omega),eo j hj2 2 (by omega)];exact h i j hi2 hj2 hij
theorem farB {lo:Nat} {p q:Option Nat} (h1: ∀k,p=some k→lo≤k) (h2: ∀k,q=some k→k<lo):(p=none∨p≠q)∧(q=none∨q≠p):=by
 cases p with
 | none=>exact⟨Or.inl rfl,by cases q with | none=>exact Or.inl rfl | some k=>exact Or.inr (by simp)⟩
 | some k=>
  cases q with
  | none=>exact⟨Or.inr (by simp),Or.inl rfl⟩
  | some m=>
   have h3:=h1 k rfl;have h4:=h2 m rfl;exact⟨Or.inr (by simp;omega),Or.inr (by simp;omega)⟩
theorem DgO.setD {W:World} {B g o:Nat} {v x:Value} {d:DG} {c:Array Value} {r:Nat × Nat} (h:DgO W B v d) (hg:W.heap[g]? =some (.cells c 32 r)):DgO (W.setCell ⟨g,o,none⟩ x) B v d:=by
 obtain⟨v1,v2,ys,rfl,h1,h2,h4,h3⟩:=h;exact⟨v1,v2,ys,rfl,own_setT h1 hg (by decide),VrPart.setD h2 hg,h4,own_setT h3 hg (by decide)⟩
theorem VrPart.loB {W:World} {B n:Nat} {ys:List Value} {L:List VR} (h:VrPart W B ys L n) (hL:L.length=n): ∀i,i<n→(∀q,blkAt ys (i*3+1)=some q→B≤q)∧ ∀q,blkAt ys (i*3+2)=some q→B≤q:=fun i hi=>by
 obtain⟨x,hx⟩:=ZD hL hi;obtain⟨u,uc,s,sc,_,y1,y2,k1,k2⟩:=h i x hi hx;rw [blkAt_some y1,blkAt_some y2];exact⟨fun q hq=>(k1.lt q hq).1,fun q hq=>(k2.lt q hq).1⟩
structure WvE (B0 g n:Nat) (nx:Int) (v2:Value) (nb:Nat) (bs:List BR) (X w:World) (L:List VR) (x:VR) (U:Option Addr) (un uc:Nat) (u:World):Prop where
 nb:NBx B0 g nx v2 nb bs X u
 vs: ∃v1,u.cell? ⟨g,1,none⟩=some v1∧ ∀B,B≤B0→B≤w.heap.size→w.ownsRow B 2 1 (.slice U un uc) un (x.ups.map (Value.int .i64))→DgV u B v1 (L++ [x]) (n+1)
 ls: ∃A c,u.cell? ⟨g,1,none⟩=some (.slice A (n+1) c)
theorem impl_withVersion {v:Value} {d:DG} {U:Option Addr} {un uc:Nat} {P:Option Addr} {pm pc:Nat} (x:VR) (s:ByteArray) (w:World) (h:DgRow w v d) (hl:DgLil d) (hid:x.id=d.next) (hun:x.ups.length=un) (hpm:x.m=pm) (hU:w.ownsRow 0 2 1 (.slice U un uc) un (x.ups.map (Value.int .i64))) (hP:ClRow w P pm x.C x.R x.S) (hm:pm≤1048576) (hnx:d.next≤1000000000) (hn0:0≤d.next):
  Calls Tryz.prog 63 #[v,.string s,.slice U un uc,.slice P pm pc] w fun e w'=> ∃v',e= .returned v'∧(∀B,B≤w.heap.size→w.ownsRow B 2 1 (.slice U un uc) un (x.ups.map (Value.int .i64))→DgO w' B v' (grownD d s x))∧Below w.heap.size w w':=by
 obtain⟨A1,n1,c1,A2,n2,c2,rfl⟩:=h.agg;have HD:Hid (DgRow w (.agg #[.int .i64 d.next,.slice A1 n1 c1,.slice A2 n2 c2]) d):=h;obtain⟨_,e1,_,e2⟩:=h.open;have E1:Hid (d.vs.length=n1):=e1;have E2:Hid (d.bs.length=n2):=e2;have HL:Hid (DgLil d):=hl;have hn1:n1≤1048576:=by rw [←e1];exact hl.nv
 have HID:Hid (x.id=d.next):=hid;have HUN:Hid (x.ups.length=un):=hun;have HPM:Hid (x.m=pm):=hpm;have HU:Hid (w.ownsRow 0 2 1 (.slice U un uc) un (x.ups.map (Value.int .i64))):=hU;have HP:Hid (ClRow w P pm x.C x.R x.S):=hP;clear h e1 e2 hl hid hun hpm hU hP;go_enter Tryz.func63,Tryz.ntmps63
 go_wp2_with fail
 obtain⟨X,HX⟩: ∃X,Hid ((w.alloc (.cells #[.int .i64 d.next,.slice A1 n1 c1,.slice A2 n2 c2] 32)).alloc (.cells #[.int .i64 0,.slice none 0 0,.slice none 0 0] 32)=X):=⟨_,rfl⟩;rw [HX.out];have x0:X.cell? ⟨w.heap.size,0,none⟩=some (.int .i64 d.next):=by rw [←HX.out];go_simp
 have p0:X.cell? ⟨w.heap.size+1,0,none⟩=some (.int .i64 0):=by rw [←HX.out];go_simp
 have p1:X.cell? ⟨w.heap.size+1,1,none⟩=some (.slice none 0 0):=by rw [←HX.out];go_simp
 have p2:X.cell? ⟨w.heap.size+1,2,none⟩=some (.slice none 0 0):=by rw [←HX.out];go_simp
 have pf: ∀o,X.frozen? ⟨w.heap.size+1,o,none⟩=false:=fun o=>by rw [←HX.out];go_simp
 have GB:Hid (∃c r,X.heap[w.heap.size+1]? =some (.cells c 32 r)):=by
  have h9:=heap_alloc_new (w.alloc (.cells #[.int .i64 d.next,.slice A1 n1 c1,.slice A2 n2 c2] 32)) (.cells #[.int .i64 0,.slice none 0 0,.slice none 0 0] 32);rw [HX.out]at h9;exact⟨_,_,by simpa using h9⟩
 have ZX:Hid (X.heap.size=w.heap.size+2):=by rw [←HX.out];show _=_;simp
 have zX0:w.heap.size<X.heap.size:=by have:=ZX.out;omega
 have zX1:w.heap.size+1<X.heap.size:=by have:=ZX.out;omega
 have KX:Hid (Below w.heap.size w X):=by rw [←HX.out];show Below _ _ _;go_grown
 clear HX;refine(impl_withHead s d.next _ (HD.out.below KX.out) HL.out).mono ?_;rintro e u1 ⟨v',rfl,ho,hb⟩;obtain⟨A3,c3,A4,c4,rfl,hv,hbr⟩:=ho.parts;simp only [bsH_len,E1.out,E2.out]at hv hbr ⊢;have KU:Hid (Below X.heap.size X u1):=hb;have zu:X.heap.size≤u1.heap.size:=hb.size
 obtain⟨ys,hv1,hp1,ha1⟩:=hv;have x0u:=cy hb x0;clear ho hb;go_upto_region 2 with fail
 obtain⟨w5,HW5⟩: ∃Y,Hid (u1.alloc (.cells #[.int .i64 d.next,.slice A3 n1 c3,.slice A4 n2 c4] 32)=Y):=⟨_,rfl⟩;rw [HW5.out]
 have hb5:Below u1.heap.size u1 w5.drew:=by
  have h9:Below u1.heap.size u1 w5:=by rw [←HW5.out];exact(Below.refl _ _).alloc (Nat.le_refl _) _
  exact h9.drew
 have S0:Hid (NBx X.heap.size u1.heap.size d.next (.slice A4 n2 c4) n2 (bsH s d.next d.bs) X w5.drew):=by
  rw [←HW5.out];exact⟨by simp,⟨.slice A3 n1 c3,by simp⟩,by simp,fun o=>by simp,⟨_,_,heap_alloc_new u1 _⟩,Ql hbr (by rw [HW5.out];exact hb5),KU.out.trans (by rw [HW5.out];exact hb5.mono zu)⟩
 have nn0:w5.drew.cell? ⟨u1.heap.size,1,none⟩=some (.slice A3 n1 c3):=by rw [←HW5.out];go_simp
 have lb0:X.heap.size≤w5.drew.heap.size:=Nat.le_trans zu hb5.size;have RV0:=hd (Ql hv1 hb5);have PV0:Hid (VrPart w5.drew X.heap.size ys d.vs n1):=hp1.below hb5;have HAP:Hid (VrApt ys n1):=ha1;have HLT:Hid (VrLt ys n1 u1.heap.size):=hp1.ltB E1.out;have HLO:Hid (∀i,i<n1→(∀q,blkAt ys (i*3+1)=some q→X.heap.size≤q)∧ ∀q,blkAt ys (i*3+2)=some q→X.heap.size≤q):=hp1.loB E1.out;have HYL:Hid (ys.length=n1*3):=hv1.1
 have VE0:Hid (w5.drew.cell? ⟨w.heap.size,0,none⟩=some (.int .i64 d.next)∧w.heap.size<w5.drew.heap.size):=⟨cy hb5 x0u,Nat.lt_of_lt_of_le (Nat.lt_of_lt_of_le zX0 zu) hb5.size⟩;have HUB:Hid (∀q,(Value.slice U un uc).ownBlock=some q→q<X.heap.size):=fun q hq=>Nat.lt_trans (HU.out.lt q hq).2 zX0;have HN5:Hid (u1.heap.size≤w5.drew.heap.size):=hb5.size;clear hb5 hv1 hp1 ha1 hbr x0u;go_cut [9] (fun p wx=>p= .pointer (some ⟨u1.heap.size,0,none⟩)∧WvE X.heap.size u1.heap.size n1 d.next (.slice A4 n2 c4) n2 (bsH s d.next d.bs) X w d.vs x U un uc wx)
 case first=>
  refine wp_region_held_drew (S:=(fun w'=>w'.cell? ⟨w.heap.size,0,none⟩=some (.int .i64 d.next)∧w.heap.size<w'.heap.size)) (by kernel_rfl) VE0.out (fun hHeld=> ?_);refine tkA 0 ?_;refine tkB 2 ?_;refine tkA 3 ?_;refine tkB 4 ?_;refine tkB 5 ?_;refine rqB 1 6 (fun Kq hKq=> ?_) (fun Kq hKq=> ?_)
  ·go_simp;refine hkB hKq (VE0.out) fun hHeld=> ?_;clear hKq Kq;refine rqA 6 (fun Kq hKq=> ?_);go_simp;refine(impl_listCopyC _ (HP.out.below (KX.out.trans (S0.out.bel.mono (by omega)))) hm).mono ?_;rintro e q1 ⟨D1,e1,rfl,ho,hb⟩
   have N1:=hd (Zc ho HN5.out);have S1:=hd (S0.out.below lb0 hb);have lb1:X.heap.size≤q1.heap.size:=Nat.le_trans lb0 hb.size;have RV1:=hd (Ql RV0.out hb);have PV1:=hd (PV0.out.below hb);have VE1:Hid (q1.cell? ⟨w.heap.size,0,none⟩=some (.int .i64 d.next)∧w.heap.size<q1.heap.size):=⟨cy hb VE0.out.1,Nat.lt_of_lt_of_le VE0.out.2 hb.size⟩;have nn1:q1.cell? ⟨u1.heap.size,1,none⟩=some (.slice A3 n1 c3):=cy hb nn0
   have ug1:u1.heap.size≤q1.heap.size:=Nat.le_trans HN5.out hb.size;clear hb ho;refine hkB hKq (VE1.out) fun hHeld=> ?_;clear hKq Kq;refine tkB 7 ?_;refine rqA 8 (fun Kq hKq=> ?_);go_simp
   obtain⟨q2,HQ2⟩: ∃q,Hid (q1.alloc (.cells #[.int .i64 d.next,.slice U un uc,.slice D1 pm e1] 89)=q):=⟨_,rfl⟩;rw [HQ2.out];have hb:Below q1.heap.size q1 q2:=by rw [←HQ2.out];exact(Below.refl _ _).alloc (Nat.le_refl _) _
   have VC2:Hid (VCell q2 q1.heap.size d.next (.slice U un uc) (.slice D1 pm e1)):=by rw [←HQ2.out];exact VCell.at
   have S2:=hd (S1.out.below lb1 hb);have lb2:X.heap.size≤q2.heap.size:=Nat.le_trans lb1 hb.size;have RV2:=hd (Ql RV1.out hb);have PV2:=hd (PV1.out.below hb);have VE2:Hid (q2.cell? ⟨w.heap.size,0,none⟩=some (.int .i64 d.next)∧w.heap.size<q2.heap.size):=⟨cy hb VE1.out.1,Nat.lt_of_lt_of_le VE1.out.2 hb.size⟩;have nn2:q2.cell? ⟨u1.heap.size,1,none⟩=some (.slice A3 n1 c3):=cy hb nn1;have ug2:u1.heap.size≤q2.heap.size:=Nat.le_trans ug1 hb.size
   have CO2:=hd (Ql N1.out hb);clear hb;refine hkB hKq (VE2.out) fun hHeld=> ?_;clear hKq Kq;refine rqA 9 (fun Kq hKq=> ?_);refine step_app_vr (by rfl) _ _ (by rfl) X.heap.size (.slice A3 n1 c3) n1 ys (by rfl) RV2.out d.next U un uc D1 pm e1 q1.heap.size (by rfl) VC2.out (by omega) lb2 ?_;intro va3 q3 ho hg
   obtain⟨F3,h3,rfl,_,_⟩:=Qo ho;have S3:=hd (S2.out.grown lb2 RV2.out hg);have hne3:some w.heap.size≠(Value.slice A3 n1 c3).ownBlock:=fun e=>by have:=(RV2.out.lt _ e.symm).1;omega
   have VE3:Hid (q3.cell? ⟨w.heap.size,0,none⟩=some (.int .i64 d.next)∧w.heap.size<q3.heap.size):=⟨hg.cell VE2.out.1 hne3,Nat.lt_of_lt_of_le VE2.out.2 hg.size⟩
   have EE3:Hid (WvE X.heap.size u1.heap.size n1 d.next (.slice A4 n2 c4) n2 (bsH s d.next d.bs) X w d.vs x U un uc (q3.setCell ⟨u1.heap.size,1,none⟩ (.slice F3 (n1+1) h3))):=by
    obtain⟨m1,m2⟩:=S3.out.set zu (.slice F3 (n1+1) h3);obtain⟨cc,rr,gb⟩:=S3.out.gb;refine⟨m1,⟨_,m2,fun B hB hBw hUB=> ?_⟩,⟨_,_,m2⟩⟩;have hxt:(d.vs++ [x])[n1]? =some x:=by rw [List.getElem?_append_right (by rw [E1.out];exact Nat.le_refl _),E1.out,Nat.sub_self];rfl
    have hq:Below w.heap.size w q3:=KX.out.trans (S3.out.bel.mono (by omega));have hU2:q3.ownsRow B 2 1 (.slice U x.ups.length uc) x.ups.length (x.ups.map (Value.int .i64)):=by rw [HUN.out];exact Ql hUB hq
    have hC2:q3.ownsRow B 67 3 (.slice D1 x.m e1) x.m (clX x.C x.R x.S x.m):=by rw [HPM.out];exact Zc (CO2.out.kept hg (Qkt CO2.out RV2.out (by decide))) (by omega)
    have hpB:VrPart q3 B ys (d.vs++ [x]) n1:=by
     have h9:=part_app (M:= [x]) (PV2.out.keptV RV2.out hg) E1.out.symm;intro i y hi hy;obtain⟨a1,a2,a3,a4,b0,b1,b2,k1,k2⟩:=h9 i y hi hy;exact⟨a1,a2,a3,a4,b0,b1,b2,Zc k1 hB,Zc k2 hB⟩
    refine⟨_,own_setT (Zc ho hB) gb (by decide),?_,HAP.out.snocG HYL.out (fun i hi=>farB (HLO.out i hi).1 HUB.out) (fun i hi=> ?_)⟩
    ·have h8:=VrPart.setD (o:=1) (x:= .slice F3 (n1+1) h3) (hpB.snoc HYL.out hxt hU2 hC2) gb;rw [HID.out,HUN.out,HPM.out]at h8;exact h8
    ·have h7:=farB (lo:=u1.heap.size) (p:=(Value.slice D1 pm e1).ownBlock) (q:=blkAt ys (i*3+2)) (fun k hk=>(CO2.out.lt k hk).1) (HLT.out i hi).2;exact⟨h7.2,h7.1⟩
   obtain⟨gx3,gc3⟩:=S3.out.c1;have gf3:=S3.out.nf 1;have gl3:u1.heap.size<q3.heap.size:=World.block_lt_of_cell? q3 ⟨u1.heap.size,1,none⟩ gc3;clear hg ho;refine hkB hKq (VE3.out) fun hHeld=> ?_;clear hKq Kq;refine tkB 10 ?_
   refine rqA 11 (fun Kq hKq=> ?_);go_simp;have VE4:Hid ((q3.setCell ⟨u1.heap.size,1,none⟩ (.slice F3 (n1+1) h3)).cell? ⟨w.heap.size,0,none⟩=some (.int .i64 d.next)∧w.heap.size<(q3.setCell ⟨u1.heap.size,1,none⟩ (.slice F3 (n1+1) h3)).heap.size):=⟨(World.cell?_setCell_other _ _ _ _ (by intro e;injection e with e1;omega)).trans VE3.out.1,by simpa using VE3.out.2⟩;refine hkB hKq (VE4.out) fun hHeld=> ?_;clear hKq Kq;refine wpAnyH_done (by kernel_rfl) ?_ _;clear hHeld
   go_wp2_with fail
   go_meet;exact⟨rfl,EE3.out⟩
  ·go_simp;refine(impl_listCopyC _ (HP.out.below (KX.out.trans (S0.out.bel.mono (by omega)))) hm).mono ?_;rintro e q5 ⟨D5,e5,rfl,ho,hb⟩;have N5:=hd (Zc ho HN5.out);have S5:=hd (S0.out.below lb0 hb);have lb5:X.heap.size≤q5.heap.size:=Nat.le_trans lb0 hb.size;have RV5:=hd (Ql RV0.out hb)
   have PV5:=hd (PV0.out.below hb);have VE5:Hid (q5.cell? ⟨w.heap.size,0,none⟩=some (.int .i64 d.next)∧w.heap.size<q5.heap.size):=⟨cy hb VE0.out.1,Nat.lt_of_lt_of_le VE0.out.2 hb.size⟩;have nn5:q5.cell? ⟨u1.heap.size,1,none⟩=some (.slice A3 n1 c3):=cy hb nn0;have ug5:u1.heap.size≤q5.heap.size:=Nat.le_trans HN5.out hb.size;clear hb ho;refine hkB hKq (VE5.out) fun hHeld=> ?_;clear hKq Kq
   refine tkB 7 ?_;refine rqB 1 8 (fun Kq hKq=> ?_) (fun Kq hKq=> ?_)
   ·go_simp;refine hkB hKq (VE5.out) fun hHeld=> ?_;clear hKq Kq;refine rqA 8 (fun Kq hKq=> ?_);go_simp;obtain⟨q6,HQ6⟩: ∃q,Hid (q5.alloc (.cells #[.int .i64 d.next,.slice U un uc,.slice D5 pm e5] 89)=q):=⟨_,rfl⟩;rw [HQ6.out]
    have hb:Below q5.heap.size q5 q6:=by rw [←HQ6.out];exact(Below.refl _ _).alloc (Nat.le_refl _) _
    have VC6:Hid (VCell q6 q5.heap.size d.next (.slice U un uc) (.slice D5 pm e5)):=by rw [←HQ6.out];exact VCell.at
    have S6:=hd (S5.out.below lb5 hb);have lb6:X.heap.size≤q6.heap.size:=Nat.le_trans lb5 hb.size;have RV6:=hd (Ql RV5.out hb);have PV6:=hd (PV5.out.below hb);have VE6:Hid (q6.cell? ⟨w.heap.size,0,none⟩=some (.int .i64 d.next)∧w.heap.size<q6.heap.size):=⟨cy hb VE5.out.1,Nat.lt_of_lt_of_le VE5.out.2 hb.size⟩;have nn6:q6.cell? ⟨u1.heap.size,1,none⟩=some (.slice A3 n1 c3):=cy hb nn5;have ug6:u1.heap.size≤q6.heap.size:=Nat.le_trans ug5 hb.size
    have CO6:=hd (Ql N5.out hb);clear hb;refine hkB hKq (VE6.out) fun hHeld=> ?_;clear hKq Kq;refine rqA 9 (fun Kq hKq=> ?_);refine step_app_vr (by rfl) _ _ (by rfl) X.heap.size (.slice A3 n1 c3) n1 ys (by rfl) RV6.out d.next U un uc D5 pm e5 q5.heap.size (by rfl) VC6.out (by omega) lb6 ?_;intro va7 q7 ho hg
    obtain⟨F7,h7,rfl,_,_⟩:=Qo ho;have S7:=hd (S6.out.grown lb6 RV6.out hg);have hne7:some w.heap.size≠(Value.slice A3 n1 c3).ownBlock:=fun e=>by have:=(RV6.out.lt _ e.symm).1;omega
    have VE7:Hid (q7.cell? ⟨w.heap.size,0,none⟩=some (.int .i64 d.next)∧w.heap.size<q7.heap.size):=⟨hg.cell VE6.out.1 hne7,Nat.lt_of_lt_of_le VE6.out.2 hg.size⟩
    have EE7:Hid (WvE X.heap.size u1.heap.size n1 d.next (.slice A4 n2 c4) n2 (bsH s d.next d.bs) X w d.vs x U un uc (q7.setCell ⟨u1.heap.size,1,none⟩ (.slice F7 (n1+1) h7))):=by
     obtain⟨m1,m2⟩:=S7.out.set zu (.slice F7 (n1+1) h7);obtain⟨cc,rr,gb⟩:=S7.out.gb;refine⟨m1,⟨_,m2,fun B hB hBw hUB=> ?_⟩,⟨_,_,m2⟩⟩;have hxt:(d.vs++ [x])[n1]? =some x:=by rw [List.getElem?_append_right (by rw [E1.out];exact Nat.le_refl _),E1.out,Nat.sub_self];rfl
     have hq:Below w.heap.size w q7:=KX.out.trans (S7.out.bel.mono (by omega));have hU2:q7.ownsRow B 2 1 (.slice U x.ups.length uc) x.ups.length (x.ups.map (Value.int .i64)):=by rw [HUN.out];exact Ql hUB hq
     have hC2:q7.ownsRow B 67 3 (.slice D5 x.m e5) x.m (clX x.C x.R x.S x.m):=by rw [HPM.out];exact Zc (CO6.out.kept hg (Qkt CO6.out RV6.out (by decide))) (by omega)
     have hpB:VrPart q7 B ys (d.vs++ [x]) n1:=by
      have h9:=part_app (M:= [x]) (PV6.out.keptV RV6.out hg) E1.out.symm;intro i y hi hy;obtain⟨a1,a2,a3,a4,b0,b1,b2,k1,k2⟩:=h9 i y hi hy;exact⟨a1,a2,a3,a4,b0,b1,b2,Zc k1 hB,Zc k2 hB⟩
     refine⟨_,own_setT (Zc ho hB) gb (by decide),?_,HAP.out.snocG HYL.out (fun i hi=>farB (HLO.out i hi).1 HUB.out) (fun i hi=> ?_)⟩
     ·have h8:=VrPart.setD (o:=1) (x:= .slice F7 (n1+1) h7) (hpB.snoc HYL.out hxt hU2 hC2) gb;rw [HID.out,HUN.out,HPM.out]at h8;exact h8
     ·have h7:=farB (lo:=u1.heap.size) (p:=(Value.slice D5 pm e5).ownBlock) (q:=blkAt ys (i*3+2)) (fun k hk=>(CO6.out.lt k hk).1) (HLT.out i hi).2;exact⟨h7.2,h7.1⟩
    obtain⟨gx7,gc7⟩:=S7.out.c1;have gf7:=S7.out.nf 1;have gl7:u1.heap.size<q7.heap.size:=World.block_lt_of_cell? q7 ⟨u1.heap.size,1,none⟩ gc7;clear hg ho;refine hkB hKq (VE7.out) fun hHeld=> ?_;clear hKq Kq;refine tkB 10 ?_
    refine rqA 11 (fun Kq hKq=> ?_);go_simp;have VE8:Hid ((q7.setCell ⟨u1.heap.size,1,none⟩ (.slice F7 (n1+1) h7)).cell? ⟨w.heap.size,0,none⟩=some (.int .i64 d.next)∧w.heap.size<(q7.setCell ⟨u1.heap.size,1,none⟩ (.slice F7 (n1+1) h7)).heap.size):=⟨(World.cell?_setCell_other _ _ _ _ (by intro e;injection e with e1;omega)).trans VE7.out.1,by simpa using VE7.out.2⟩;refine hkB hKq (VE8.out) fun hHeld=> ?_;clear hKq Kq;refine wpAnyH_done (by kernel_rfl) ?_ _;clear hHeld
    go_wp2_with fail
    go_meet;exact⟨rfl,EE7.out⟩
   ·go_simp;obtain⟨q9,HQ9⟩: ∃q,Hid (q5.alloc (.cells #[.int .i64 d.next,.slice U un uc,.slice D5 pm e5] 89)=q):=⟨_,rfl⟩;rw [HQ9.out];have hb:Below q5.heap.size q5 q9:=by rw [←HQ9.out];exact(Below.refl _ _).alloc (Nat.le_refl _) _
    have VC9:Hid (VCell q9 q5.heap.size d.next (.slice U un uc) (.slice D5 pm e5)):=by rw [←HQ9.out];exact VCell.at
    have S9:=hd (S5.out.below lb5 hb);have lb9:X.heap.size≤q9.heap.size:=Nat.le_trans lb5 hb.size;have RV9:=hd (Ql RV5.out hb);have PV9:=hd (PV5.out.below hb);have VE9:Hid (q9.cell? ⟨w.heap.size,0,none⟩=some (.int .i64 d.next)∧w.heap.size<q9.heap.size):=⟨cy hb VE5.out.1,Nat.lt_of_lt_of_le VE5.out.2 hb.size⟩;have nn9:q9.cell? ⟨u1.heap.size,1,none⟩=some (.slice A3 n1 c3):=cy hb nn5;have ug9:u1.heap.size≤q9.heap.size:=Nat.le_trans ug5 hb.size
    have CO9:=hd (Ql N5.out hb);clear hb;refine hkB hKq (VE9.out) fun hHeld=> ?_;clear hKq Kq;refine rqA 1 (fun Kq hKq=> ?_);go_simp;refine hkB hKq (VE9.out) fun hHeld=> ?_
    clear hKq Kq;refine rqA 9 (fun Kq hKq=> ?_);refine step_app_vr (by rfl) _ _ (by rfl) X.heap.size (.slice A3 n1 c3) n1 ys (by rfl) RV9.out d.next U un uc D5 pm e5 q5.heap.size (by rfl) VC9.out (by omega) lb9 ?_;intro va10 q10 ho hg;obtain⟨F10,h10,rfl,_,_⟩:=Qo ho;have S10:=hd (S9.out.grown lb9 RV9.out hg);have hne10:some w.heap.size≠(Value.slice A3 n1 c3).ownBlock:=fun e=>by have:=(RV9.out.lt _ e.symm).1;omega
    have VE10:Hid (q10.cell? ⟨w.heap.size,0,none⟩=some (.int .i64 d.next)∧w.heap.size<q10.heap.size):=⟨hg.cell VE9.out.1 hne10,Nat.lt_of_lt_of_le VE9.out.2 hg.size⟩
    have EE10:Hid (WvE X.heap.size u1.heap.size n1 d.next (.slice A4 n2 c4) n2 (bsH s d.next d.bs) X w d.vs x U un uc (q10.setCell ⟨u1.heap.size,1,none⟩ (.slice F10 (n1+1) h10))):=by
     obtain⟨m1,m2⟩:=S10.out.set zu (.slice F10 (n1+1) h10);obtain⟨cc,rr,gb⟩:=S10.out.gb;refine⟨m1,⟨_,m2,fun B hB hBw hUB=> ?_⟩,⟨_,_,m2⟩⟩;have hxt:(d.vs++ [x])[n1]? =some x:=by rw [List.getElem?_append_right (by rw [E1.out];exact Nat.le_refl _),E1.out,Nat.sub_self];rfl
     have hq:Below w.heap.size w q10:=KX.out.trans (S10.out.bel.mono (by omega));have hU2:q10.ownsRow B 2 1 (.slice U x.ups.length uc) x.ups.length (x.ups.map (Value.int .i64)):=by rw [HUN.out];exact Ql hUB hq
     have hC2:q10.ownsRow B 67 3 (.slice D5 x.m e5) x.m (clX x.C x.R x.S x.m):=by rw [HPM.out];exact Zc (CO9.out.kept hg (Qkt CO9.out RV9.out (by decide))) (by omega)
     have hpB:VrPart q10 B ys (d.vs++ [x]) n1:=by
      have h9:=part_app (M:= [x]) (PV9.out.keptV RV9.out hg) E1.out.symm;intro i y hi hy;obtain⟨a1,a2,a3,a4,b0,b1,b2,k1,k2⟩:=h9 i y hi hy;exact⟨a1,a2,a3,a4,b0,b1,b2,Zc k1 hB,Zc k2 hB⟩
     refine⟨_,own_setT (Zc ho hB) gb (by decide),?_,HAP.out.snocG HYL.out (fun i hi=>farB (HLO.out i hi).1 HUB.out) (fun i hi=> ?_)⟩
     ·have h8:=VrPart.setD (o:=1) (x:= .slice F10 (n1+1) h10) (hpB.snoc HYL.out hxt hU2 hC2) gb;rw [HID.out,HUN.out,HPM.out]at h8;exact h8
     ·have h7:=farB (lo:=u1.heap.size) (p:=(Value.slice D5 pm e5).ownBlock) (q:=blkAt ys (i*3+2)) (fun k hk=>(CO9.out.lt k hk).1) (HLT.out i hi).2;exact⟨h7.2,h7.1⟩
    obtain⟨gx10,gc10⟩:=S10.out.c1;have gf10:=S10.out.nf 1;have gl10:u1.heap.size<q10.heap.size:=World.block_lt_of_cell? q10 ⟨u1.heap.size,1,none⟩ gc10;clear hg ho;refine hkB hKq (VE10.out) fun hHeld=> ?_;clear hKq Kq;refine tkB 10 ?_
    refine rqA 11 (fun Kq hKq=> ?_);go_simp;have VE11:Hid ((q10.setCell ⟨u1.heap.size,1,none⟩ (.slice F10 (n1+1) h10)).cell? ⟨w.heap.size,0,none⟩=some (.int .i64 d.next)∧w.heap.size<(q10.setCell ⟨u1.heap.size,1,none⟩ (.slice F10 (n1+1) h10)).heap.size):=⟨(World.cell?_setCell_other _ _ _ _ (by intro e;injection e with e1;omega)).trans VE10.out.1,by simpa using VE10.out.2⟩;refine hkB hKq (VE11.out) fun hHeld=> ?_;clear hKq Kq;refine wpAnyH_done (by kernel_rfl) ?_ _;clear hHeld
    go_wp2_with fail
    go_meet;exact⟨rfl,EE10.out⟩
 case rest=>
 obtain⟨rfl,hE⟩:=hcut;obtain⟨hN,⟨v1,hv1,hvs⟩,⟨Ae,ce,hls⟩⟩:=hE;rw [hls]at hv1;cases hv1
 have HN:Hid (NBx X.heap.size u1.heap.size d.next (.slice A4 n2 c4) n2 (bsH s d.next d.bs) X wc):=hN;have HVS:Hid (∀B,B≤X.heap.size→B≤w.heap.size→w.ownsRow B 2 1 (.slice U un uc) un (x.ups.map (Value.int .i64))→DgV wc B (.slice Ae (n1+1) ce) (d.vs++ [x]) (n1+1)):=hvs;have b0:=hN.c0;have b2:=hN.c2;have bf:=hN.nf;have gz:u1.heap.size<wc.heap.size:=World.block_lt_of_cell? wc ⟨u1.heap.size,0,none⟩ b0;have m0:=cy hN.bel p0
 have m1:=cy hN.bel p1;have m2:=cy hN.bel p2
 have mf: ∀o,wc.frozen? ⟨w.heap.size+1,o,none⟩=false:=fun o=>by
  rw [hN.bel.frozen (p:=⟨w.heap.size+1,o,none⟩) zX1];exact pf o
 have mz:w.heap.size+1<wc.heap.size:=Nat.lt_of_lt_of_le zX1 hN.bel.size;have hgne: ¬w.heap.size+1=u1.heap.size:=by omega
 clear hN hvs
 have GW:Hid (∃c r,wc.heap[w.heap.size+1]? =some (.cells c 32 r)):=by
  obtain⟨c,r,h9⟩:=GB.out;exact⟨c,r,(HN.out.bel.block _ zX1).trans h9⟩
 have KW:Hid (Below w.heap.size w wc):=KX.out.trans (HN.out.bel.mono (by omega));go_wp2_with fail
 refine bodyPost_ret (v:= .agg #[.int .i64 (d.next+1),.slice Ae (n1+1) ce,.slice A4 n2 c4]) ?_ rfl ⟨_,rfl,?_,?_⟩
 ·simp (maxDischargeDepth:=9) [results,Tryz.results63,go_sem, *]
 ·intro B hB hUB;obtain⟨zs,k1,k2,k3⟩:=HVS.out B (by omega) hB hUB
  have hD:DgO wc B (.agg #[.int .i64 (d.next+1),.slice Ae (n1+1) ce,.slice A4 n2 c4]) (grownD d s x):=by
   have el:(grownD d s x).vs.length=n1+1:=by show(d.vs++ [x]).length=_;rw [List.length_append,E1.out];rfl
   have eb:(grownD d s x).bs.length=n2:=by show(bsH s d.next d.bs).length=_;rw [bsH_len,E2.out]
   refine⟨_,_,zs,rfl,?_,?_,?_,?_⟩
   ·rw [el];exact k1
   ·rw [el];exact k2
   ·rw [el];exact k3
   ·rw [eb];exact Zc HN.out.o2 (by omega)
  obtain⟨ca,ra,ga⟩:=HN.out.gb;obtain⟨cb,rb,gb⟩:=GW.out;have gb1:(wc.setCell ⟨u1.heap.size,0,none⟩ (.int .i64 (d.next+1))).heap[w.heap.size+1]? =some (.cells cb 32 rb):=((grown_set wc u1.heap.size 0 _).block _ mz (fun e=>hgne (Option.some.inj e))).trans gb;obtain⟨cc2,gb2⟩:=blk_set (o:=0) (x:= .int .i64 (d.next+1)) gb1;obtain⟨cc3,gb3⟩:=blk_set (o:=1) (x:= .slice Ae (n1+1) ce) gb2;exact(((hD.setD ga).setD gb1).setD gb2).setD gb3
 ·exact(((KW.out.setCell (by show w.heap.size≤u1.heap.size;omega) _).setCell (by show w.heap.size≤w.heap.size+1;omega) _).setCell (by show w.heap.size≤w.heap.size+1;omega) _).setCell (by show w.heap.size≤w.heap.size+1;omega) _
def cmX (d:DG) (s:ByteArray) (m:Nat) (C R:Nat→Int) (S:Nat→ByteArray):VR:=⟨d.next,[headF d.bs s],m,C,R,S⟩
def cmD (d:DG) (s:ByteArray) (x:VR):DG × Int × Int:=
 if headF d.bs s=0 then(d,0,2)else if Zf x.C x.R x.S x.m=false then(d,0,4)else if fullB d=true then(d,0,5)else(grownD d s x,d.next,0)
theorem headF_wf {d:DG} (h: ∀x∈d.bs,(Lit.int .i64 x.h).wf=true) (s:ByteArray):(Lit.int .i64 (headF d.bs s)).wf=true:=by
 unfold headF;cases hf:d.bs.find? (fun x=>decide (x.n=s))with
 | none=>rfl
 | some x=>exact h x (List.mem_of_find?_eq_some hf)
def CmR (B:Nat) (w':World) (r:DG × Int × Int) (e:Ending):Prop:= ∃v',e= .returned (.tuple #[v',.int .i64 r.2.1,.int .i64 r.2.2])∧DgO w' B v' r.1
theorem impl_committed {v:Value} {d:DG} {P:Option Addr} {pm pc:Nat} (x:VR) (s:ByteArray) (w:World) (h:DgRow w v d) (hk:DgOk d) (hl:DgLil d) (hf:DgFacts d) (hx:x=cmX d s pm x.C x.R x.S) (hP:ClRow w P pm x.C x.R x.S) (hm:pm≤1048576) (hn0:0≤d.next) (hg:GI w):
  Calls Tryz.prog 33 #[v,.string s,.slice P pm pc] w fun e w'=>CmR w.heap.size w' (cmD d s x) e∧Below w.heap.size w w':=by
 obtain⟨A1,n1,c1,A2,n2,c2,rfl⟩:=h.agg;have HD:Hid (DgRow w (.agg #[.int .i64 d.next,.slice A1 n1 c1,.slice A2 n2 c2]) d):=h;have HK:Hid (DgOk d):=hk;have HL:Hid (DgLil d):=hl;have HF:Hid (DgFacts d):=hf;have HX1:Hid (x.id=d.next∧x.ups= [headF d.bs s]∧x.m=pm):=by rw [hx];exact⟨rfl,rfl,rfl⟩
 have HP:Hid (ClRow w P pm x.C x.R x.S):=hP;have HG:Hid (GI w):=hg;have hnx:d.next≤1000000000:=hf.nx;obtain⟨hdq,HH⟩: ∃hdq,Hid (headF d.bs s=hdq):=⟨_,rfl⟩;obtain⟨ok,HOK⟩: ∃ok:Bool,Hid (Zf x.C x.R x.S pm=ok):=⟨_,rfl⟩;obtain⟨fu,HFU⟩: ∃fu:Bool,Hid (fullB d=fu):=⟨_,rfl⟩;clear h hk hl hf hx hP hg
 go_enter Tryz.func33,Tryz.ntmps33;go_wp2_with fail
 obtain⟨X,HX⟩: ∃X,Hid ((w.alloc (.cells #[.int .i64 d.next,.slice A1 n1 c1,.slice A2 n2 c2] 32)).alloc (.cells #[.int .i64 0,.slice none 0 0,.slice none 0 0] 32)=X):=⟨_,rfl⟩;rw [HX.out];have x0:X.cell? ⟨w.heap.size,0,none⟩=some (.int .i64 d.next):=by rw [←HX.out];go_simp
 have x1:X.cell? ⟨w.heap.size,1,none⟩=some (.slice A1 n1 c1):=by rw [←HX.out];go_simp
 have x2:X.cell? ⟨w.heap.size,2,none⟩=some (.slice A2 n2 c2):=by rw [←HX.out];go_simp
 have p0:X.cell? ⟨w.heap.size+1,0,none⟩=some (.int .i64 0):=by rw [←HX.out];go_simp
 have p1:X.cell? ⟨w.heap.size+1,1,none⟩=some (.slice none 0 0):=by rw [←HX.out];go_simp
 have p2:X.cell? ⟨w.heap.size+1,2,none⟩=some (.slice none 0 0):=by rw [←HX.out];go_simp
 have pf: ∀o,X.frozen? ⟨w.heap.size+1,o,none⟩=false:=fun o=>by rw [←HX.out];go_simp
 have ZX:Hid (X.heap.size=w.heap.size+2):=by rw [←HX.out];show _=_;simp
 have zX0:w.heap.size<X.heap.size:=by have:=ZX.out;omega
 have zX1:w.heap.size+1<X.heap.size:=by have:=ZX.out;omega
 have KX:Hid (Below w.heap.size w X):=by rw [←HX.out];show Below _ _ _;go_grown
 have QX:Hid (Below X.heap.size X X):=Below.refl _ _;have zX2:w.heap.size+1<X.heap.size:=zX1;have P0:Hid (X.cell? ⟨w.heap.size+1,0,none⟩=some (.int .i64 0)):=p0;have P1:Hid (X.cell? ⟨w.heap.size+1,1,none⟩=some (.slice none 0 0)):=p1;have P2:Hid (X.cell? ⟨w.heap.size+1,2,none⟩=some (.slice none 0 0)):=p2;have PF:Hid (∀o,X.frozen? ⟨w.heap.size+1,o,none⟩=false):=pf;clear HX
 refine(impl_head s _ (HD.out.below KX.out) HK.out).mono ?_;rintro e u1 ⟨rfl,hb⟩;replace x0:=cy hb x0;replace x1:=cy hb x1;replace x2:=cy hb x2;replace p0:=cy hb p0;replace p1:=cy hb p1
 replace p2:=cy hb p2;replace pf: ∀o,u1.frozen? ⟨w.heap.size+1,o,none⟩=false:=fun o=>(hb.frozen (p:=⟨w.heap.size+1,o,none⟩) zX1).trans (pf o);replace zX0:w.heap.size<u1.heap.size:=Nat.lt_of_lt_of_le zX0 hb.size;replace zX1:w.heap.size+1<u1.heap.size:=Nat.lt_of_lt_of_le zX1 hb.size;replace KX:=hd (Qb KX.out hb);replace QX:=hd (Qb QX.out hb);clear hb
 rw [HH.out];by_cases h0:hdq=0
 ·have h0':(hdq==0)=true:=by simpa using h0
  have HV:Hid (cmD d s x=(d,0,2)):=by show _=_;rw [cmD,if_pos (HH.out.trans h0)]
  go_wp2_with fail
  refine(impl_dcopied _ (HD.out.below KX.out) HL.out).mono ?_;rintro e u2 ⟨v',rfl,ho,hb⟩;obtain⟨A5,c5,A6,c6,rfl,_,_⟩:=ho.parts;have HO:Hid (DgO u2 u1.heap.size (.agg #[.int .i64 d.next,.slice A5 d.vs.length c5,.slice A6 d.bs.length c6]) d):=ho;have zz:w.heap.size+2≤u1.heap.size:=by omega
  replace x0:=cy hb x0;replace x1:=cy hb x1;replace x2:=cy hb x2;replace p0:=cy hb p0;replace p1:=cy hb p1;replace p2:=cy hb p2;replace pf: ∀o,u2.frozen? ⟨w.heap.size+1,o,none⟩=false:=fun o=>(hb.frozen (p:=⟨w.heap.size+1,o,none⟩) zX1).trans (pf o)
  replace zX0:w.heap.size<u2.heap.size:=Nat.lt_of_lt_of_le zX0 hb.size;replace zX1:w.heap.size+1<u2.heap.size:=Nat.lt_of_lt_of_le zX1 hb.size;replace KX:=hd (Qb KX.out hb);replace QX:=hd (Qb QX.out hb);clear hb ho;go_wp2_with fail
  refine bodyPost_ret (v:= .tuple #[.agg #[.int .i64 d.next,.slice A5 d.vs.length c5,.slice A6 d.bs.length c6],.int .i64 0,.int .i64 2]) ?_ rfl ⟨?_,?_⟩
  ·simp (maxDischargeDepth:=9) [results,Tryz.results33,go_sem, *]
  ·rw [HV.out];exact⟨_,rfl,(((HO.out.setB (by omega)).setB (by omega)).setB (by omega)).mono (by omega)⟩
  ·exact((KX.out.setCell (by show w.heap.size≤w.heap.size+1;omega) _).setCell (by show w.heap.size≤w.heap.size+1;omega) _).setCell (by show w.heap.size≤w.heap.size+1;omega) _
 have h0':(hdq==0)=false:=by simpa using h0
 go_wp2_with fail
 refine(MB _ (HP.out.below KX.out) (HG.out.below KX.out)).mono ?_;rintro e u2 ⟨rfl,hb⟩;replace x0:=cy hb x0;replace x1:=cy hb x1;replace x2:=cy hb x2;replace p0:=cy hb p0;replace p1:=cy hb p1
 replace p2:=cy hb p2;replace pf: ∀o,u2.frozen? ⟨w.heap.size+1,o,none⟩=false:=fun o=>(hb.frozen (p:=⟨w.heap.size+1,o,none⟩) zX1).trans (pf o);replace zX0:w.heap.size<u2.heap.size:=Nat.lt_of_lt_of_le zX0 hb.size;replace zX1:w.heap.size+1<u2.heap.size:=Nat.lt_of_lt_of_le zX1 hb.size;replace KX:=hd (Qb KX.out hb);replace QX:=hd (Qb QX.out hb);clear hb
 rw [HOK.out];cases ok
 ·skip
  have HV:Hid (cmD d s x=(d,0,4)):=by show _=_;rw [cmD,if_neg (by rw [HH.out];exact h0),if_pos (by rw [HX1.out.2.2];exact HOK.out)]
  go_wp2_with fail
  refine(impl_dcopied _ (HD.out.below KX.out) HL.out).mono ?_;rintro e u3 ⟨v',rfl,ho,hb⟩;obtain⟨A5,c5,A6,c6,rfl,_,_⟩:=ho.parts;have HO:Hid (DgO u3 u2.heap.size (.agg #[.int .i64 d.next,.slice A5 d.vs.length c5,.slice A6 d.bs.length c6]) d):=ho;have zz:w.heap.size+2≤u2.heap.size:=by omega
  replace x0:=cy hb x0;replace x1:=cy hb x1;replace x2:=cy hb x2;replace p0:=cy hb p0;replace p1:=cy hb p1;replace p2:=cy hb p2;replace pf: ∀o,u3.frozen? ⟨w.heap.size+1,o,none⟩=false:=fun o=>(hb.frozen (p:=⟨w.heap.size+1,o,none⟩) zX1).trans (pf o)
  replace zX0:w.heap.size<u3.heap.size:=Nat.lt_of_lt_of_le zX0 hb.size;replace zX1:w.heap.size+1<u3.heap.size:=Nat.lt_of_lt_of_le zX1 hb.size;replace KX:=hd (Qb KX.out hb);replace QX:=hd (Qb QX.out hb);clear hb ho;go_wp2_with fail
  refine bodyPost_ret (v:= .tuple #[.agg #[.int .i64 d.next,.slice A5 d.vs.length c5,.slice A6 d.bs.length c6],.int .i64 0,.int .i64 4]) ?_ rfl ⟨?_,?_⟩
  ·simp (maxDischargeDepth:=9) [results,Tryz.results33,go_sem, *]
  ·rw [HV.out];exact⟨_,rfl,(((HO.out.setB (by omega)).setB (by omega)).setB (by omega)).mono (by omega)⟩
  ·exact((KX.out.setCell (by show w.heap.size≤w.heap.size+1;omega) _).setCell (by show w.heap.size≤w.heap.size+1;omega) _).setCell (by show w.heap.size≤w.heap.size+1;omega) _
 go_wp2_with fail
 refine(impl_isFull _ (HD.out.below KX.out)).mono ?_;rintro e u3 ⟨rfl,hb⟩;replace x0:=cy hb x0;replace x1:=cy hb x1;replace x2:=cy hb x2;replace p0:=cy hb p0;replace p1:=cy hb p1
 replace p2:=cy hb p2;replace pf: ∀o,u3.frozen? ⟨w.heap.size+1,o,none⟩=false:=fun o=>(hb.frozen (p:=⟨w.heap.size+1,o,none⟩) zX1).trans (pf o);replace zX0:w.heap.size<u3.heap.size:=Nat.lt_of_lt_of_le zX0 hb.size;replace zX1:w.heap.size+1<u3.heap.size:=Nat.lt_of_lt_of_le zX1 hb.size;replace KX:=hd (Qb KX.out hb);replace QX:=hd (Qb QX.out hb);clear hb
 rw [HFU.out];cases fu
 case true=>
  skip
  have HV:Hid (cmD d s x=(d,0,5)):=by show _=_;rw [cmD,if_neg (by rw [HH.out];exact h0),if_neg (by rw [HX1.out.2.2,HOK.out];decide),if_pos HFU.out]
  go_wp2_with fail
  refine(impl_dcopied _ (HD.out.below KX.out) HL.out).mono ?_;rintro e u4 ⟨v',rfl,ho,hb⟩;obtain⟨A5,c5,A6,c6,rfl,_,_⟩:=ho.parts;have HO:Hid (DgO u4 u3.heap.size (.agg #[.int .i64 d.next,.slice A5 d.vs.length c5,.slice A6 d.bs.length c6]) d):=ho;have zz:w.heap.size+2≤u3.heap.size:=by omega
  replace x0:=cy hb x0;replace x1:=cy hb x1;replace x2:=cy hb x2;replace p0:=cy hb p0;replace p1:=cy hb p1;replace p2:=cy hb p2;replace pf: ∀o,u4.frozen? ⟨w.heap.size+1,o,none⟩=false:=fun o=>(hb.frozen (p:=⟨w.heap.size+1,o,none⟩) zX1).trans (pf o)
  replace zX0:w.heap.size<u4.heap.size:=Nat.lt_of_lt_of_le zX0 hb.size;replace zX1:w.heap.size+1<u4.heap.size:=Nat.lt_of_lt_of_le zX1 hb.size;replace KX:=hd (Qb KX.out hb);replace QX:=hd (Qb QX.out hb);clear hb ho;go_wp2_with fail
  refine bodyPost_ret (v:= .tuple #[.agg #[.int .i64 d.next,.slice A5 d.vs.length c5,.slice A6 d.bs.length c6],.int .i64 0,.int .i64 5]) ?_ rfl ⟨?_,?_⟩
  ·simp (maxDischargeDepth:=9) [results,Tryz.results33,go_sem, *]
  ·rw [HV.out];exact⟨_,rfl,(((HO.out.setB (by omega)).setB (by omega)).setB (by omega)).mono (by omega)⟩
  ·exact((KX.out.setCell (by show w.heap.size≤w.heap.size+1;omega) _).setCell (by show w.heap.size≤w.heap.size+1;omega) _).setCell (by show w.heap.size≤w.heap.size+1;omega) _
 have HV:Hid (cmD d s x=(grownD d s x,d.next,0)):=by show _=_;rw [cmD,if_neg (by rw [HH.out];exact h0),if_neg (by rw [HX1.out.2.2,HOK.out];decide),if_neg (by rw [HFU.out];decide)]
 have hux:x.ups.map (Value.int .i64)= [.int .i64 hdq]:=by rw [HX1.out.2.1,HH.out];rfl
 go_upto_region 8 with fail
 have ys0:u3.drew.cell? ⟨w.heap.size,0,none⟩=some (.int .i64 d.next)∧u3.drew.cell? ⟨w.heap.size,1,none⟩=some (.slice A1 n1 c1)∧u3.drew.cell? ⟨w.heap.size,2,none⟩=some (.slice A2 n2 c2)∧w.heap.size<u3.drew.heap.size:=⟨x0,x1,x2,zX0⟩;have VE0:Hid (u3.drew.cell? ⟨w.heap.size,0,none⟩=some (.int .i64 d.next)∧u3.drew.cell? ⟨w.heap.size,1,none⟩=some (.slice A1 n1 c1)∧u3.drew.cell? ⟨w.heap.size,2,none⟩=some (.slice A2 n2 c2)∧w.heap.size<u3.drew.heap.size):=ys0;clear ys0;have zd:w.heap.size+1<u3.drew.heap.size:=zX1;refine wp_region_held_drew (S:=(fun w'=>w'.cell? ⟨w.heap.size,0,none⟩=some (.int .i64 d.next)∧w'.cell? ⟨w.heap.size,1,none⟩=some (.slice A1 n1 c1)∧w'.cell? ⟨w.heap.size,2,none⟩=some (.slice A2 n2 c2)∧w.heap.size<w'.heap.size)) (by kernel_rfl) VE0.out (fun hHeld=> ?_);refine tkA 0 ?_;refine tkB 1 ?_
 refine tkA 2 ?_;refine tkB 4 ?_;refine tkA 6 ?_;refine tkB 7 ?_;refine rqA 3 (fun Kq hKq=> ?_);go_simp;obtain⟨q1,HQ1⟩: ∃q,Hid ((u3.alloc (.cells #[.int .i64 hdq] 2)).drew=q):=⟨_,rfl⟩
 rw [HQ1.out];have HU:Hid (q1.ownsRow u3.heap.size 2 1 (.slice (some ⟨u3.heap.size,0,none⟩) 1 1) 1 (x.ups.map (Value.int .i64))):=by rw [hux,←HQ1.out];exact Ql (World.ownsRow_lit u3 _ 1 (Nat.le_refl _) (by unfold maxLen;omega) rfl) (Below.refl _ _).drew
 have hb:Below u3.heap.size u3 q1:=by rw [←HQ1.out];exact((Below.refl u3.heap.size u3).alloc (Nat.le_refl _) _).drew
 have VE1:Hid (q1.cell? ⟨w.heap.size,0,none⟩=some (.int .i64 d.next)∧q1.cell? ⟨w.heap.size,1,none⟩=some (.slice A1 n1 c1)∧q1.cell? ⟨w.heap.size,2,none⟩=some (.slice A2 n2 c2)∧w.heap.size<q1.heap.size):=⟨cy hb VE0.out.1,cy hb VE0.out.2.1,cy hb VE0.out.2.2.1,Nat.lt_of_lt_of_le VE0.out.2.2.2 hb.size⟩;have KQ1:Hid (Below w.heap.size w q1):=KX.out.trans (hb.mono (by omega));have QQ1:=hd (Qb QX.out hb);clear hb;refine hkB hKq (VE1.out) fun hHeld=> ?_;clear hKq Kq;refine rqA 5 (fun Kq hKq=> ?_)
 go_simp;refine(impl_withVersion x s _ (HD.out.below KQ1.out) HL.out HX1.out.1 (by rw [HX1.out.2.1];rfl) HX1.out.2.2 (Zc HU.out (Nat.zero_le _)) (HP.out.below KQ1.out) hm hnx hn0).mono ?_;rintro e q2 ⟨v',rfl,ho,hb⟩;have HO:Hid (DgO q2 u3.heap.size v' (grownD d s x)):=ho _ (by have:=HU.out.lt u3.heap.size rfl;omega) HU.out;obtain⟨A5,c5,A6,c6,rfl,_,_⟩:=HO.out.parts;have VE2:Hid (q2.cell? ⟨w.heap.size,0,none⟩=some (.int .i64 d.next)∧q2.cell? ⟨w.heap.size,1,none⟩=some (.slice A1 n1 c1)∧q2.cell? ⟨w.heap.size,2,none⟩=some (.slice A2 n2 c2)∧w.heap.size<q2.heap.size):=⟨cy hb VE1.out.1,cy hb VE1.out.2.1,cy hb VE1.out.2.2.1,Nat.lt_of_lt_of_le VE1.out.2.2.2 hb.size⟩;have KQ2:Hid (Below w.heap.size w q2):=KQ1.out.trans (hb.mono (by have:=VE1.out.2.2.2;omega))
 have QQ2:=hd (Qb QQ1.out hb);clear hb ho;have p0:=cy QQ2.out P0.out;have p1:=cy QQ2.out P1.out;have p2:=cy QQ2.out P2.out;have pf: ∀o,q2.frozen? ⟨w.heap.size+1,o,none⟩=false:=fun o=>(QQ2.out.frozen (p:=⟨w.heap.size+1,o,none⟩) zX2).trans (PF.out o);have pz:w.heap.size+1<q2.heap.size:=Nat.lt_of_lt_of_le zX2 QQ2.out.size
 refine hkB hKq (VE2.out) fun hHeld=> ?_;clear hKq Kq;refine rqA 8 (fun Kq hKq=> ?_);go_simp;obtain⟨q3,HQ3⟩: ∃q,Hid (((q2.setCell ⟨w.heap.size+1,0,none⟩ (.int .i64 (grownD d s x).next)).setCell ⟨w.heap.size+1,1,none⟩ (.slice A5 (grownD d s x).vs.length c5)).setCell ⟨w.heap.size+1,2,none⟩ (.slice A6 (grownD d s x).bs.length c6)=q):=⟨_,rfl⟩;rw [HQ3.out]
 have VE3:Hid (q3.cell? ⟨w.heap.size,0,none⟩=some (.int .i64 d.next)∧q3.cell? ⟨w.heap.size,1,none⟩=some (.slice A1 n1 c1)∧q3.cell? ⟨w.heap.size,2,none⟩=some (.slice A2 n2 c2)∧w.heap.size<q3.heap.size):=by
  rw [←HQ3.out];obtain⟨e0,e1,e2,e3⟩:=VE2.out;refine⟨?_,?_,?_,?_⟩<;>go_simp
 refine hkB hKq (VE3.out) fun hHeld=> ?_;clear hKq Kq;refine tkA 9 ?_;refine tkB 10 ?_;refine wpAnyH_done (by kernel_rfl) ?_ _;clear hHeld;go_wp2_with fail
 rw [←HQ3.out];clear HQ3 VE3;refine bodyPost_ret (v:= .tuple #[.agg #[.int .i64 (grownD d s x).next,.slice A5 (grownD d s x).vs.length c5,.slice A6 (grownD d s x).bs.length c6],.int .i64 d.next,.int .i64 0]) ?_ rfl ⟨?_,?_⟩
 ·simp (maxDischargeDepth:=9) [results,Tryz.results33,go_sem, *]
 ·rw [HV.out];exact⟨_,rfl,(((HO.out.setB zX1).setB zX1).setB zX1).mono (by omega)⟩
 ·exact((KQ2.out.setCell (by show w.heap.size≤w.heap.size+1;omega) _).setCell (by show w.heap.size≤w.heap.size+1;omega) _).setCell (by show w.heap.size≤w.heap.size+1;omega) _
def noD:DG:=⟨0,[],[]⟩
theorem noD_own (W:World) (B:Nat):DgO W B (.agg #[.int .i64 0,.slice none 0 0,.slice none 0 0]) noD:=
 ⟨_,_,[],rfl,World.ownsRow_nil _ _ _ _,fun i x hi=>absurd hi (Nat.not_lt_zero _),fun i j hi=>absurd hi (Nat.not_lt_zero _),World.ownsRow_nil _ _ _ _⟩
theorem dagB_next {d:DG} (h:Xb d=true):0≤d.next:=by
 simp only [Xb,Bool.and_eq_true,decide_eq_true_eq]at h;omega
def cmA (d:DG) (s:ByteArray) (x:VR):DG × Int × Int:=if Xb d=true then cmD d s x else(noD,0,1)
theorem impl_Committed {v:Value} {d:DG} {P:Option Addr} {pm pc:Nat} (x:VR) (s:ByteArray) (w:World) (h:DgRow w v d) (hk:DgOk d) (hl:DgLil d) (hx:x=cmX d s pm x.C x.R x.S) (hP:ClRow w P pm x.C x.R x.S) (hm:pm≤1048576) (hg:GI w):
  Calls Tryz.prog 11 #[v,.string s,.slice P pm pc] w fun e w'=>CmR w.heap.size w' (cmA d s x) e∧Below w.heap.size w w':=by
 obtain⟨A1,n1,c1,A2,n2,c2,rfl⟩:=h.agg;have HD:Hid (DgRow w (.agg #[.int .i64 d.next,.slice A1 n1 c1,.slice A2 n2 c2]) d):=h;have HK:Hid (DgOk d):=hk;have HL:Hid (DgLil d):=hl;have HX1:Hid (x=cmX d s pm x.C x.R x.S):=hx;have HP:Hid (ClRow w P pm x.C x.R x.S):=hP;have HG:Hid (GI w):=hg
 obtain⟨f,HFF⟩: ∃f:Bool,Hid (Xb d=f):=⟨_,rfl⟩;clear h hk hl hx hP hg;go_enter Tryz.func11,Tryz.ntmps11;go_wp2_with fail
 obtain⟨X,HX⟩: ∃X,Hid ((w.alloc (.cells #[.int .i64 d.next,.slice A1 n1 c1,.slice A2 n2 c2] 32)).alloc (.cells #[.int .i64 0,.slice none 0 0,.slice none 0 0] 32)=X):=⟨_,rfl⟩;rw [HX.out];have x0:X.cell? ⟨w.heap.size,0,none⟩=some (.int .i64 d.next):=by rw [←HX.out];go_simp
 have x1:X.cell? ⟨w.heap.size,1,none⟩=some (.slice A1 n1 c1):=by rw [←HX.out];go_simp
 have x2:X.cell? ⟨w.heap.size,2,none⟩=some (.slice A2 n2 c2):=by rw [←HX.out];go_simp
 have p0:X.cell? ⟨w.heap.size+1,0,none⟩=some (.int .i64 0):=by rw [←HX.out];go_simp
 have p1:X.cell? ⟨w.heap.size+1,1,none⟩=some (.slice none 0 0):=by rw [←HX.out];go_simp
 have p2:X.cell? ⟨w.heap.size+1,2,none⟩=some (.slice none 0 0):=by rw [←HX.out];go_simp
 have pf: ∀o,X.frozen? ⟨w.heap.size+1,o,none⟩=false:=fun o=>by rw [←HX.out];go_simp
 have ZX:Hid (X.heap.size=w.heap.size+2):=by rw [←HX.out];show _=_;simp
 have zX0:w.heap.size<X.heap.size:=by have:=ZX.out;omega
 have zX1:w.heap.size+1<X.heap.size:=by have:=ZX.out;omega
 have KX:Hid (Below w.heap.size w X):=by rw [←HX.out];show Below _ _ _;go_grown
 have QX:Hid (Below X.heap.size X X):=Below.refl _ _;have zX2:w.heap.size+1<X.heap.size:=zX1;have P0:Hid (X.cell? ⟨w.heap.size+1,0,none⟩=some (.int .i64 0)):=p0;have P1:Hid (X.cell? ⟨w.heap.size+1,1,none⟩=some (.slice none 0 0)):=p1;have P2:Hid (X.cell? ⟨w.heap.size+1,2,none⟩=some (.slice none 0 0)):=p2;have PF:Hid (∀o,X.frozen? ⟨w.heap.size+1,o,none⟩=false):=pf;clear HX
 refine(Qin _ (HD.out.below KX.out) HK.out HL.out (HG.out.below KX.out)).mono ?_;rintro e u1 ⟨rfl,hb⟩;replace x0:=cy hb x0;replace x1:=cy hb x1;replace x2:=cy hb x2;replace p0:=cy hb p0;replace p1:=cy hb p1
 replace p2:=cy hb p2;replace pf: ∀o,u1.frozen? ⟨w.heap.size+1,o,none⟩=false:=fun o=>(hb.frozen (p:=⟨w.heap.size+1,o,none⟩) zX1).trans (pf o);replace zX0:w.heap.size<u1.heap.size:=Nat.lt_of_lt_of_le zX0 hb.size;replace zX1:w.heap.size+1<u1.heap.size:=Nat.lt_of_lt_of_le zX1 hb.size;replace KX:=hd (Qb KX.out hb);replace QX:=hd (Qb QX.out hb);clear hb
 rw [HFF.out];cases f
 ·have HV:Hid (cmA d s x=(noD,0,1)):=by show _=_;rw [cmA,if_neg (by rw [HFF.out];decide)]
  go_wp2_with fail
  refine bodyPost_ret (v:= .tuple #[.agg #[.int .i64 0,.slice none 0 0,.slice none 0 0],.int .i64 0,.int .i64 1]) ?_ rfl ⟨?_,?_⟩
  ·simp (maxDischargeDepth:=9) [results,Tryz.results11,go_sem, *]
  ·rw [HV.out];exact⟨_,rfl,noD_own _ _⟩
  ·exact((KX.out.setCell (by show w.heap.size≤w.heap.size+1;omega) _).setCell (by show w.heap.size≤w.heap.size+1;omega) _).setCell (by show w.heap.size≤w.heap.size+1;omega) _
 have HV:Hid (cmA d s x=cmD d s x):=by show _=_;rw [cmA,if_pos HFF.out]
 go_wp2_with fail
 refine(impl_committed x s _ (HD.out.below KX.out) HK.out HL.out (dag_facts HFF.out) HX1.out (HP.out.below KX.out) hm (dagB_next HFF.out) (HG.out.below KX.out)).mono ?_;rintro e u2 ⟨⟨v',rfl,ho⟩,hb⟩;obtain⟨A5,c5,A6,c6,rfl,_,_⟩:=ho.parts;have HO:Hid (DgO u2 u1.heap.size (.agg #[.int .i64 (cmD d s x).1.next,.slice A5 (cmD d s x).1.vs.length c5,.slice A6 (cmD d s x).1.bs.length c6]) (cmD d s x).1):=ho;have zz:w.heap.size+2≤u1.heap.size:=by omega
 replace x0:=cy hb x0;replace x1:=cy hb x1;replace x2:=cy hb x2;replace p0:=cy hb p0;replace p1:=cy hb p1;replace p2:=cy hb p2;replace pf: ∀o,u2.frozen? ⟨w.heap.size+1,o,none⟩=false:=fun o=>(hb.frozen (p:=⟨w.heap.size+1,o,none⟩) zX1).trans (pf o)
 replace zX0:w.heap.size<u2.heap.size:=Nat.lt_of_lt_of_le zX0 hb.size;replace zX1:w.heap.size+1<u2.heap.size:=Nat.lt_of_lt_of_le zX1 hb.size;replace KX:=hd (Qb KX.out hb);replace QX:=hd (Qb QX.out hb);clear hb ho;go_wp2_with fail
 refine bodyPost_ret (v:= .tuple #[.agg #[.int .i64 (cmD d s x).1.next,.slice A5 (cmD d s x).1.vs.length c5,.slice A6 (cmD d s x).1.bs.length c6],.int .i64 (cmD d s x).2.1,.int .i64 (cmD d s x).2.2]) ?_ rfl ⟨?_,?_⟩
 ·simp (maxDischargeDepth:=9) [results,Tryz.results11,go_sem, *]
 ·rw [HV.out];exact⟨_,rfl,(((HO.out.setB (by omega)).setB (by omega)).setB (by omega)).mono (by omega)⟩
 ·exact((KX.out.setCell (by show w.heap.size≤w.heap.size+1;omega) _).setCell (by show w.heap.size≤w.heap.size+1;omega) _).setCell (by show w.heap.size≤w.heap.size+1;omega) _
theorem spec_l10Move {d:DG} {A1:Option Addr} {c1:Nat} {A2:Option Addr} {c2 C:Nat} (s:ByteArray) (hdq:Int) (w:World) (hbr:w.ownsRow C 79 2 (.slice A2 d.bs.length c2) d.bs.length (Jf brL d.bs)) (hC:C≤w.heap.size) (hl:d.bs.length≤1048576):
  Calls Tryz.prog 53 #[.agg #[.int .i64 d.next,.slice A1 d.vs.length c1,.slice A2 d.bs.length c2],.string s,.int .i64 hdq] w fun e w'=> ∃v',e= .returned v'∧(∀B,B≤C→DgV w B (.slice A1 d.vs.length c1) d.vs d.vs.length→DgO w' B v' ⟨d.next,d.vs,bsH s hdq d.bs⟩)∧Below C w w':=by
 obtain⟨n1,E1⟩: ∃n,Hid (d.vs.length=n):=⟨_,rfl⟩;obtain⟨n2,E2⟩: ∃n,Hid (d.bs.length=n):=⟨_,rfl⟩;rw [E2.out]at hbr hl;rw [E1.out,E2.out];have hblk:Hid (∀q,(Value.slice A2 n2 c2).ownBlock=some q→C≤q∧q<w.heap.size):=fun q hq=>hbr.lt q hq;have N0:Hid (some w.heap.size≠(Value.slice A2 n2 c2).ownBlock):=fun e=>by have:=(hblk.out _ e.symm).2;omega
 have N1:Hid (some (w.heap.size+1)≠(Value.slice A2 n2 c2).ownBlock):=fun e=>by have:=(hblk.out _ e.symm).2;omega
 go_enter Tryz.func53,Tryz.ntmps53;go_wp2_with fail
 obtain⟨X,HX⟩: ∃X,Hid ((w.alloc (.cells #[.int .i64 d.next,.slice A1 n1 c1,.slice A2 n2 c2] 32)).alloc (.cells #[.int .i64 0,.slice none 0 0,.slice none 0 0] 32)=X):=⟨_,rfl⟩;rw [HX.out];have x0:X.cell? ⟨w.heap.size,0,none⟩=some (.int .i64 d.next):=by rw [←HX.out];go_simp
 have x1:X.cell? ⟨w.heap.size,1,none⟩=some (.slice A1 n1 c1):=by rw [←HX.out];go_simp
 have x2:X.cell? ⟨w.heap.size,2,none⟩=some (.slice A2 n2 c2):=by rw [←HX.out];go_simp
 have p0:X.cell? ⟨w.heap.size+1,0,none⟩=some (.int .i64 0):=by rw [←HX.out];go_simp
 have p1:X.cell? ⟨w.heap.size+1,1,none⟩=some (.slice none 0 0):=by rw [←HX.out];go_simp
 have p2:X.cell? ⟨w.heap.size+1,2,none⟩=some (.slice none 0 0):=by rw [←HX.out];go_simp
 have pf: ∀o,X.frozen? ⟨w.heap.size+1,o,none⟩=false:=fun o=>by rw [←HX.out];go_simp
 have GX:Hid (∃c r,X.heap[w.heap.size+1]? =some (.cells c 32 r)):=by
  rw [←HX.out];have h9:=heap_alloc_new (w.alloc (.cells #[.int .i64 d.next,.slice A1 n1 c1,.slice A2 n2 c2] 32)) (.cells #[.int .i64 0,.slice none 0 0,.slice none 0 0] 32);have e9:(w.alloc (.cells #[.int .i64 d.next,.slice A1 n1 c1,.slice A2 n2 c2] 32)).heap.size=w.heap.size+1:=by simp
  rw [e9]at h9;exact⟨_,_,h9⟩
 have ZX:Hid (X.heap.size=w.heap.size+2):=by rw [←HX.out];show _=_;simp
 have KX:Below w.heap.size w X:=by rw [←HX.out];show Below _ _ _;go_grown
 have HV0:Hid (∀B,B≤C→DgV w B (.slice A1 n1 c1) d.vs n1→DgV X B (.slice A1 n1 c1) d.vs n1):=fun B _ h=>h.below KX;have HO0:Hid (X.ownsRow C 79 2 (.slice A2 n2 c2) n2 (Jf brL (bsT s hdq d.bs 0))):=by rw [bsT_zero];exact Ql hbr KX
 have KB:Hid (Below C w X):=KX.mono hC;have HP:Hid ((X.cell? ⟨w.heap.size+1,0,none⟩=some (.int .i64 0)∧X.cell? ⟨w.heap.size+1,1,none⟩=some (.slice none 0 0)∧X.cell? ⟨w.heap.size+1,2,none⟩=some (.slice none 0 0))∧ ∀o,X.frozen? ⟨w.heap.size+1,o,none⟩=false):=⟨⟨p0,p1,p2⟩,pf⟩;have HXC:Hid (X.cell? ⟨w.heap.size,0,none⟩=some (.int .i64 d.next)∧X.cell? ⟨w.heap.size,1,none⟩=some (.slice A1 n1 c1)∧X.cell? ⟨w.heap.size,2,none⟩=some (.slice A2 n2 c2)):=⟨x0,x1,x2⟩;clear KX HX hbr p0 p1 p2 pf
 go_loopw [7] (fun i wr=> ∃t:Nat,t≤n2∧i= .int .i64 t∧(∀B,B≤C→DgV w B (.slice A1 n1 c1) d.vs n1→DgV wr B (.slice A1 n1 c1) d.vs n1)∧wr.ownsRow C 79 2 (.slice A2 n2 c2) n2 (Jf brL (bsT s hdq d.bs t))∧
  (wr.heap[w.heap.size]? =X.heap[w.heap.size]?∧wr.heap[w.heap.size+1]? =X.heap[w.heap.size+1]?)∧X.heap.size≤wr.heap.size∧Below C w wr) (fun i _=>n2-(intOf i).toNat)
 case atStart=>exact⟨0,Nat.zero_le _,rfl,HV0.out,HO0.out,⟨rfl,rfl⟩,Nat.le_refl _,KB.out⟩
 case round=>
  clear HV0 HO0 x0 x1 x2 KB;obtain⟨t,ht,rfl,hv,hbr,⟨k0,k1⟩,zr,hbel⟩:=hrel;have HV:Hid (∀B,B≤C→DgV w B (.slice A1 n1 c1) d.vs n1→DgV wr B (.slice A1 n1 c1) d.vs n1):=hv;have HO:Hid (wr.ownsRow C 79 2 (.slice A2 n2 c2) n2 (Jf brL (bsT s hdq d.bs t))):=hbr;have HB:Hid (Below C w wr):=hbel;have x0:=(World.cell?_of_block (a:=⟨w.heap.size,0,none⟩) k0).trans HXC.out.1;have x1:=(World.cell?_of_block (a:=⟨w.heap.size,1,none⟩) k0).trans HXC.out.2.1
  have x2:=(World.cell?_of_block (a:=⟨w.heap.size,2,none⟩) k0).trans HXC.out.2.2;have K0:Hid (wr.heap[w.heap.size]? =X.heap[w.heap.size]?):=k0;have K1:Hid (wr.heap[w.heap.size+1]? =X.heap[w.heap.size+1]?):=k1;have z0:w.heap.size<wr.heap.size:=by have:=ZX.out;omega
  have z1:w.heap.size+1<wr.heap.size:=by have:=ZX.out;omega
  clear hv hbel k0 k1;by_cases hlt:t<n2
  ·obtain⟨b,hbt⟩:=ZD E2.out hlt;have HBT:Hid (d.bs[t]? =some b):=hbt;have hat:=bsT_at (name:=s) (head:=hdq) hbt;obtain⟨A5,c5,e5,_,hc⟩:=Qo hbr;cases e5
   obtain⟨gr,rfl,hgr,hgl,d0,f0⟩:=hc (t*2) (by omega);obtain⟨gr',e',_,_,d1,f1⟩:=hc (t*2+1) (by omega);cases e'
   have e0:(Jf brL (bsT s hdq d.bs t))[t*2]? =some (.string b.n):=by rw [←Nat.add_zero (t*2),Nb Ni 0 (by omega),hat];rfl
   have e1:(Jf brL (bsT s hdq d.bs t))[t*2+1]? =some (.int .i64 b.h):=by rw [Nb Ni 1 (by omega),hat];rfl
   rw [e0]at d0;rw [e1]at d1;have q0:(0:Int)≤(t:Int):=by omega
   have q1:(t:Int)<(n2:Int):=by omega
   clear hbt hat hc e0 e1 hbr;by_cases hn:b.n=s
   ·have he:=XA hn;obtain⟨Z,HZ⟩: ∃Z,Hid (wr.setCell ⟨gr,t*2+1,none⟩ (.int .i64 hdq)=Z):=⟨_,rfl⟩;obtain⟨oq,gq⟩:=HO.out.stored (t*2+1) (.int .i64 hdq);rw [HZ.out]at oq gq
    have ZO:Hid (Z.ownsRow C 79 2 (.slice (some ⟨gr,0,none⟩) n2 c2) n2 (Jf brL (bsT s hdq d.bs (t+1)))):=by
     show World.ownsRow _ _ _ _ _ _ _;rw [bsT_yes HBT.out hn,flat_set (bsT_at HBT.out)];exact oq
    have ZV:Hid (∀B,B≤C→DgV w B (.slice A1 n1 c1) d.vs n1→DgV Z B (.slice A1 n1 c1) d.vs n1):=fun B hB h=>(HV.out B hB h).keptB (Zc HO.out hB) gq;have ZB:=hd (HB.out.grown gq (Nat.le_trans hC HB.out.size) (fun q hq=>(HO.out.lt q hq).1));have ZK:Hid (Z.heap[w.heap.size]? =X.heap[w.heap.size]?∧Z.heap[w.heap.size+1]? =X.heap[w.heap.size+1]?):=⟨(gq.block _ z0 N0.out).trans K0.out,(gq.block _ z1 N1.out).trans K1.out⟩;have zz:X.heap.size≤Z.heap.size:=Nat.le_trans zr gq.size;clear oq gq;go_wp2_with fail
    rw [HZ.out];go_roundw
    case rel=>exact⟨t+1,by omega,by go_num,ZV.out,ZO.out,ZK.out,zz,ZB.out⟩
    case measure=>simp [intOf];omega
   ·have he:=Qr hn
    have HO2:Hid (wr.ownsRow C 79 2 (.slice (some ⟨gr,0,none⟩) n2 c2) n2 (Jf brL (bsT s hdq d.bs (t+1)))):=by
     show World.ownsRow _ _ _ _ _ _ _;rw [bsT_no HBT.out hn];exact HO.out
    go_wp2_with fail
    go_roundw
    case rel=>exact⟨t+1,by omega,by go_num,HV.out,HO2.out,⟨K0.out,K1.out⟩,zr,HB.out⟩
    case measure=>simp [intOf];omega
  ·have h1: ¬(t:Int)<(n2:Int):=by omega
   obtain rfl:t=n2:=by omega
   have m0:=(World.cell?_of_block (a:=⟨w.heap.size+1,0,none⟩) K1.out).trans HP.out.1.1;have m1:=(World.cell?_of_block (a:=⟨w.heap.size+1,1,none⟩) K1.out).trans HP.out.1.2.1;have m2:=(World.cell?_of_block (a:=⟨w.heap.size+1,2,none⟩) K1.out).trans HP.out.1.2.2;have mf: ∀o,wr.frozen? ⟨w.heap.size+1,o,none⟩=false:=fun o=>(World.frozen?_of_block (a:=⟨w.heap.size+1,o,none⟩) K1.out).trans (HP.out.2 o)
   have HDO:Hid (∀B,B≤C→DgV w B (.slice A1 n1 c1) d.vs n1→DgO wr B (.agg #[.int .i64 d.next,.slice A1 n1 c1,.slice A2 t c2]) ⟨d.next,d.vs,bsH s hdq d.bs⟩):=by
    intro B hB h9;obtain⟨ys,h1,h2,h3⟩:=HV.out B hB h9;refine⟨_,_,ys,rfl,?_,?_,?_,?_⟩
    ·show wr.ownsRow _ _ _ _ d.vs.length _;rw [E1.out];exact h1
    ·show VrPart _ _ _ _ d.vs.length;rw [E1.out];exact h2
    ·show VrApt _ d.vs.length;rw [E1.out];exact h3
    ·show wr.ownsRow _ _ _ _ (bsH s hdq d.bs).length _;rw [bsH_len,E2.out,←bsT_all,E2.out];exact Zc HO.out hB
   have GW:Hid (∃c r,wr.heap[w.heap.size+1]? =some (.cells c 32 r)):=by
    obtain⟨c,r,h9⟩:=GX.out;exact⟨c,r,K1.out.trans h9⟩
   clear hbr;go_wp2_with fail
   refine bodyPost_ret (v:= .agg #[.int .i64 d.next,.slice A1 n1 c1,.slice A2 t c2]) ?_ rfl ⟨_,rfl,?_,?_⟩
   ·simp (maxDischargeDepth:=9) [results,Tryz.results53,go_sem, *]
   ·intro B hB h9;obtain⟨cb,rb,gb⟩:=GW.out;obtain⟨cc2,gb2⟩:=blk_set (o:=0) (x:= .int .i64 d.next) gb;obtain⟨cc3,gb3⟩:=blk_set (o:=1) (x:= .slice A1 n1 c1) gb2;exact(((HDO.out B hB h9).setD gb).setD gb2).setD gb3
   ·exact((HB.out.setCell (by show C≤w.heap.size+1;omega) _).setCell (by show C≤w.heap.size+1;omega) _).setCell (by show C≤w.heap.size+1;omega) _
theorem step_copyG {P:Program} {W:World} {ops:Array Oper} {o:Oper} {a:Act} {K:Act→World→Prop} {Q:Exit→Act→World→Prop} {E:Prop} (t e:TypeId) (i:TypeInfo) (z:Value) (size bytes:Nat) (ht:P.underlying t=some (.slice e)) (hi:P.info? e=some i) (hz:i.zero=some z) (hsize:i.size=size) (hby:i.bytes=bytes) (hzs:z.cells.size=size) (hsz:0<size)
  (hgd:o.guard=none) (s x:Operand) (ho:o.op= .call {callee:= .builtin .append,args:= #[s,x],argTypes:= #[t,t]}) (B:Nat) (hB:B≤W.heap.size) (v:Value) (hs:a.eval s=v) (hown:W.ownsRow B e size v 0 [])
  (A:Option Addr) (n c:Nat) (xs:List Value) (hx:a.eval x= .slice A n c) (hl:xs.length=n*size) (hA:A=none→n=0) (hc: ∀ad,A=some ad→ ∀j u,xs[j]? =some u→W.cell? (ad.add j)=some u) (h1: ∀u∈xs,u.oneCell'=true) (hn:n≤maxLen) (hb:n*bytes≤140737488355328)
  (h: ∀A' c' w',w'.ownsRow B e size (.slice A' n c') n xs→W.grownBy w' v.ownBlock→K (a.put o.dst (.slice A' n c')) w'):
  if Region.wanted o (yielded ops a.tmps)=true then Oper.wp P o a W K Q else E:=by
 have hw:Region.wanted o (yielded ops a.tmps)=true:=by simp [Region.wanted,hgd]
 rw [if_pos hw];cases A with
 | none=>
  have hn0:=hA rfl;subst hn0;have hxs:xs= []:=by cases xs with | nil=>rfl | cons y ys=>simp at hl
  subst hxs;obtain⟨A',cap',rfl,_,_⟩:=Qo hown;have hrun:=run_append_nilC (P:=P) (w:=W) B t o.type e i size c ht hi _ 0 [] hown;unfold Oper.wp;simp [execOp,ho,resolve,invoke,builtin,hs,hx,hrun,Result.andThen];exact h _ _ W hown (World.grownBy.refl _ _)
 | some ad=>
  refine wp_append_own W s x t ho B e i z size bytes ht hi hz hsize hby hzs hsz v 0 [] hs hown ad n c xs hx hl (hc ad rfl) h1 (by omega) (by rw [Nat.zero_add];exact hb) hB ?_;intro v' w' ho' hg' _;rw [Nat.zero_add,List.nil_append]at ho';obtain⟨A',cap',rfl,_,_⟩:=Qo ho';exact h A' cap' w' ho' hg'
theorem wpList_app_vr {W:World} {ops:Array Oper} {rest:List Oper} {o:Oper} {a:Act} {Q:Exit→Act→World→Prop} (hgd:o.guard=none) (s x:Operand) (ho:o.op= .call {callee:= .builtin .append,args:= #[s,x],argTypes:= #[29,29]}) (B:Nat) (v:Value) (n:Nat) (xs:List Value) (hs:a.eval s=v)
  (hown:W.ownsRow B 89 3 v n xs) (i:Int) (ua:Option Addr) (un uc:Nat) (sa:Option Addr) (sn sc:Nat) (g:Nat) (hx:a.eval x= .slice (some ⟨g,0,none⟩) 1 1) (hc:VCell W g i (.slice ua un uc) (.slice sa sn sc)) (hn:n≤1099511627776) (hB:B≤W.heap.size)
  (h: ∀v' w',w'.ownsRow B 89 3 v' (n+1) (xs++ [.int .i64 i,.slice ua un uc,.slice sa sn sc])→W.grownBy w' v.ownBlock→wpList Tryz.prog ops Q rest (a.put o.dst v') w'):wpList Tryz.prog ops Q (o::rest) a W:=by
 obtain⟨i0,hi,iz0,iz1,iz2⟩:=info_parts Qj2;obtain⟨c0,c1,c2⟩:=hc;refine wpList_append_own W hgd s x 29 ho B 89 i0 (.agg #[.int .i64 0,.slice none 0 0,.slice none 0 0]) 3 56 Tryz.underlying29 hi iz0 iz1 iz2 rfl (by decide) v n xs hs hown ⟨g,0,none⟩ 1 1 [.int .i64 i,.slice ua un uc,.slice sa sn sc] hx rfl ?_ ?_ ?_ ?_ hB ?_
 ·intro q u hq;match q,hq with
  | 0,hq=>simp at hq;subst hq;simpa [Addr.add]using c0
  | 1,hq=>simp at hq;subst hq;simpa [Addr.add]using c1
  | 2,hq=>simp at hq;subst hq;simpa [Addr.add]using c2
 ·intro u hu;simp at hu;rcases hu with rfl | rfl | rfl<;>rfl
 ·unfold maxLen;omega
 ·omega
 ·intro v' w3 hown' hgrow _;exact h v' w3 hown' hgrow
theorem spec_l10Copy {v:Value} {d:DG} (w:World) (h:DgRow w v d) (hl:DgLil d):
  Calls Tryz.prog 26 #[v] w fun e w'=> ∃v',e= .returned v'∧DgO w' w.heap.size v' d∧Below w.heap.size w w':=by
 obtain⟨A1,n1,c1,A2,n2,c2,rfl⟩:=h.agg;obtain⟨r1,e1,r2,e2⟩:=h.open;have R1:Hid (VrRow w A1 d.vs):=r1;have R2:Hid (ZT w A2 d.bs):=r2;have E1:Hid (d.vs.length=n1):=e1;have E2:Hid (d.bs.length=n2):=e2;have HL:Hid (DgLil d):=hl
 have hn1:n1≤1048576:=by rw [←e1];exact hl.nv
 have hn2:n2≤1048576:=by rw [←e2];exact hl.nb
 clear h r1 r2 e1 e2 hl;go_enter Tryz.func26,Tryz.ntmps26;go_upto_region 1 with fail
 obtain⟨X,HX⟩: ∃X,Hid ((w.alloc (.cells #[.int .i64 d.next,.slice A1 n1 c1,.slice A2 n2 c2] 32)).alloc (.cells #[.int .i64 0,.slice none 0 0,.slice none 0 0] 32)=X):=⟨_,rfl⟩;rw [HX.out];have x0:X.cell? ⟨w.heap.size,0,none⟩=some (.int .i64 d.next):=by rw [←HX.out];go_simp
 have x1:X.cell? ⟨w.heap.size,1,none⟩=some (.slice A1 n1 c1):=by rw [←HX.out];go_simp
 have x2:X.cell? ⟨w.heap.size,2,none⟩=some (.slice A2 n2 c2):=by rw [←HX.out];go_simp
 have p0:X.cell? ⟨w.heap.size+1,0,none⟩=some (.int .i64 0):=by rw [←HX.out];go_simp
 have p1:X.cell? ⟨w.heap.size+1,1,none⟩=some (.slice none 0 0):=by rw [←HX.out];go_simp
 have p2:X.cell? ⟨w.heap.size+1,2,none⟩=some (.slice none 0 0):=by rw [←HX.out];go_simp
 have pf: ∀o,X.frozen? ⟨w.heap.size+1,o,none⟩=false:=fun o=>by rw [←HX.out];go_simp
 have ZX:Hid (X.heap.size=w.heap.size+2):=by rw [←HX.out];show _=_;simp
 have zX0:w.heap.size<X.heap.size:=by have:=ZX.out;omega
 have zX1:w.heap.size+1<X.heap.size:=by have:=ZX.out;omega
 have KX:Hid (Below w.heap.size w X):=by rw [←HX.out];show Below _ _ _;go_grown
 clear HX;obtain⟨i0,hi,iz0,iz1,iz2⟩:=info_parts Qj4;have HFL:Hid ((Jf brL d.bs).length=n2*2):=by show _=_;rw [Db Ni,E2.out]
 have VE0:Hid (X.drew.cell? ⟨w.heap.size,0,none⟩=some (.int .i64 d.next)∧X.drew.cell? ⟨w.heap.size,2,none⟩=some (.slice A2 n2 c2)∧X.heap.size≤X.drew.heap.size):=⟨x0,x2,Nat.le_refl _⟩;have BX0:Hid (Below X.heap.size X X.drew):=(Below.refl _ _).drew;go_cut [3] (fun p wx=> ∃g A3 c3,p= .pointer (some ⟨g,0,none⟩)∧X.heap.size≤g∧CpL X.heap.size g d.next (.slice A3 n2 c3) n2 d.bs X d.vs 0 wx)
 case first=>
  refine wp_region_held_drew (S:=(fun w'=>w'.cell? ⟨w.heap.size,0,none⟩=some (.int .i64 d.next)∧w'.cell? ⟨w.heap.size,2,none⟩=some (.slice A2 n2 c2)∧X.heap.size≤w'.heap.size)) (by kernel_rfl) VE0.out (fun hHeld=> ?_);refine tkA 0 ?_;refine tkB 1 ?_;refine tkA 3 ?_;refine tkB 4 ?_;refine rqB 2 7 (fun Kq hKq=> ?_) (fun Kq hKq=> ?_)
  ·go_simp;obtain⟨q1,HQ1⟩: ∃q,Hid ((X.alloc (.cells #[] 79)).drew=q):=⟨_,rfl⟩;rw [HQ1.out];have hb:Below X.drew.heap.size X.drew q1:=by rw [←HQ1.out];exact(Below.refl _ _).alloc (Nat.le_refl _) _
   have EA1:Hid (q1.ownsRow X.heap.size 79 2 (.slice (some ⟨X.heap.size,0,none⟩) 0 0) 0 []):=by rw [←HQ1.out];exact Qku (W:=X.drew) VE0.out.2.2 rfl
   have VE1:Hid (q1.cell? ⟨w.heap.size,0,none⟩=some (.int .i64 d.next)∧q1.cell? ⟨w.heap.size,2,none⟩=some (.slice A2 n2 c2)∧X.heap.size≤q1.heap.size):=⟨cy hb VE0.out.1,cy hb VE0.out.2.1,Nat.le_trans VE0.out.2.2 hb.size⟩;have BX1:Hid (Below X.heap.size X q1):=BX0.out.trans (hb.mono VE0.out.2.2);clear hb;refine hkB hKq (VE1.out) fun hHeld=> ?_;clear hKq Kq;refine rqB 5 7 (fun Kq hKq=> ?_) (fun Kq hKq=> ?_)
   ·refine step_copyG 30 79 i0 (.agg #[.string ⟨#[]⟩,.int .i64 0]) 2 24 Tryz.underlying30 hi iz0 iz1 iz2 rfl (by decide) (by rfl) _ _ (by rfl) X.heap.size VE1.out.2.2 _ (by rfl) EA1.out A2 n2 c2 (Jf brL d.bs) (by rfl) HFL.out (fun e=>E2.out.symm.trans (br_none R2.out e)) (br_cells (R2.out.below (KX.out.trans (BX1.out.mono (by omega))))) (br_oneC d.bs) (by unfold maxLen;omega) (by omega) ?_;intro A3 c3 q2 ho hg;have CA2:Hid (q2.ownsRow X.heap.size 79 2 (.slice A3 n2 c3) n2 (Jf brL d.bs)):=ho;have hne2:some w.heap.size≠(Value.ownBlock (.slice (some ⟨X.heap.size,0,none⟩) 0 0)):=fun e=>by have:=(EA1.out.lt _ e.symm).1;omega
    have VE2:Hid (q2.cell? ⟨w.heap.size,0,none⟩=some (.int .i64 d.next)∧q2.cell? ⟨w.heap.size,2,none⟩=some (.slice A2 n2 c2)∧X.heap.size≤q2.heap.size):=⟨hg.cell VE1.out.1 hne2,hg.cell VE1.out.2.1 hne2,Nat.le_trans VE1.out.2.2 hg.size⟩;have BX2:=hd (BX1.out.grown hg VE1.out.2.2 (fun j hj=>(EA1.out.lt j hj).1));clear ho hg;refine hkB hKq (VE2.out) fun hHeld=> ?_;clear hKq Kq;refine tkB 6 ?_;refine rqA 7 (fun Kq hKq=> ?_)
    go_simp;obtain⟨q3,HQ3⟩: ∃q,Hid (q2.alloc (.cells #[.int .i64 0,.slice none 0 0,.slice none 0 0] 32)=q):=⟨_,rfl⟩;rw [HQ3.out];have hb:Below q2.heap.size q2 q3:=by rw [←HQ3.out];exact(Below.refl _ _).alloc (Nat.le_refl _) _
    have GA3:Hid (q3.heap[q2.heap.size]? =some (.cells #[.int .i64 0,.slice none 0 0,.slice none 0 0] 32 (0,0))):=by rw [←HQ3.out];exact heap_alloc_new q2 _
    have GL3:X.heap.size≤q2.heap.size:=VE2.out.2.2;have VE3:Hid (q3.cell? ⟨w.heap.size,0,none⟩=some (.int .i64 d.next)∧q3.cell? ⟨w.heap.size,2,none⟩=some (.slice A2 n2 c2)∧X.heap.size≤q3.heap.size):=⟨cy hb VE2.out.1,cy hb VE2.out.2.1,Nat.le_trans VE2.out.2.2 hb.size⟩;have BX3:Hid (Below X.heap.size X q3):=BX2.out.trans (hb.mono VE2.out.2.2);have CO3:=hd (Ql CA2.out hb);clear hb;refine hkB hKq (VE3.out) fun hHeld=> ?_;clear hKq Kq
    refine rqA 8 (fun Kq hKq=> ?_);have h0:q3.ownsRow X.heap.size 32 3 (.slice (some ⟨q2.heap.size,0,none⟩) 1 1) 1 [.int .i64 0,.slice none 0 0,.slice none 0 0]:=⟨rfl,Or.inr ⟨_,1,#[.int .i64 0,.slice none 0 0,.slice none 0 0],rfl,GL3,GA3.out,Nat.le_refl _,by unfold maxLen;omega,rfl,rfl⟩⟩;have g0:q3.cell? ⟨q2.heap.size,0,none⟩=some (.int .i64 0):=h0.cellAt 0 (by omega);have g1:q3.cell? ⟨q2.heap.size,1,none⟩=some (.slice none 0 0):=h0.cellAt 1 (by omega);have g2:q3.cell? ⟨q2.heap.size,2,none⟩=some (.slice none 0 0):=h0.cellAt 2 (by omega);have gf: ∀o,q3.frozen? ⟨q2.heap.size,o,none⟩=false:=fun o=>h0.frozenAt o;have gz:q2.heap.size<q3.heap.size:=heap_lt GA3.out
    have CP:=CpL.put (nx:=d.next) GA3.out GL3 BX3.out CO3.out d.vs;clear h0;go_simp;obtain⟨q4,HQ4⟩: ∃q,Hid (((q3.setCell ⟨q2.heap.size,0,none⟩ (.int .i64 d.next)).setCell ⟨q2.heap.size,1,none⟩ (.slice none 0 0)).setCell ⟨q2.heap.size,2,none⟩ (.slice A3 n2 c3)=q):=⟨_,rfl⟩;rw [HQ4.out];rw [HQ4.out]at CP;have VE4:Hid (q4.cell? ⟨w.heap.size,0,none⟩=some (.int .i64 d.next)∧q4.cell? ⟨w.heap.size,2,none⟩=some (.slice A2 n2 c2)∧X.heap.size≤q4.heap.size):=⟨cy CP.nb.bel x0,cy CP.nb.bel x2,CP.nb.bel.size⟩
    have HCP:Hid (CpL X.heap.size q2.heap.size d.next (.slice A3 n2 c3) n2 d.bs X d.vs 0 q4):=CP;clear CP g0 g1 g2 gf;refine hkB hKq (VE4.out) fun hHeld=> ?_;clear hKq Kq;refine wpAnyH_done (by kernel_rfl) ?_ _;clear hHeld;go_wp2_with fail
    go_meet;exact⟨_,A3,c3,rfl,GL3,HCP.out⟩
   ·go_simp;obtain⟨q5,HQ5⟩: ∃q,Hid (q1.alloc (.cells #[.int .i64 0,.slice none 0 0,.slice none 0 0] 32)=q):=⟨_,rfl⟩;rw [HQ5.out];have hb:Below q1.heap.size q1 q5:=by rw [←HQ5.out];exact(Below.refl _ _).alloc (Nat.le_refl _) _
    have GA5:Hid (q5.heap[q1.heap.size]? =some (.cells #[.int .i64 0,.slice none 0 0,.slice none 0 0] 32 (0,0))):=by rw [←HQ5.out];exact heap_alloc_new q1 _
    have GL5:X.heap.size≤q1.heap.size:=VE1.out.2.2;have VE5:Hid (q5.cell? ⟨w.heap.size,0,none⟩=some (.int .i64 d.next)∧q5.cell? ⟨w.heap.size,2,none⟩=some (.slice A2 n2 c2)∧X.heap.size≤q5.heap.size):=⟨cy hb VE1.out.1,cy hb VE1.out.2.1,Nat.le_trans VE1.out.2.2 hb.size⟩;have BX5:Hid (Below X.heap.size X q5):=BX1.out.trans (hb.mono VE1.out.2.2);have EO5:=hd (Ql EA1.out hb);clear hb;refine hkB hKq (VE5.out) fun hHeld=> ?_;clear hKq Kq
    refine rqA 5 (fun Kq hKq=> ?_);refine step_copyG 30 79 i0 (.agg #[.string ⟨#[]⟩,.int .i64 0]) 2 24 Tryz.underlying30 hi iz0 iz1 iz2 rfl (by decide) (by rfl) _ _ (by rfl) X.heap.size VE5.out.2.2 _ (by rfl) EO5.out A2 n2 c2 (Jf brL d.bs) (by rfl) HFL.out (fun e=>E2.out.symm.trans (br_none R2.out e)) (br_cells (R2.out.below (KX.out.trans (BX5.out.mono (by omega))))) (br_oneC d.bs) (by unfold maxLen;omega) (by omega) ?_;intro A3 c3 q6 ho hg;have CA6:Hid (q6.ownsRow X.heap.size 79 2 (.slice A3 n2 c3) n2 (Jf brL d.bs)):=ho;have hne6:some w.heap.size≠(Value.ownBlock (.slice (some ⟨X.heap.size,0,none⟩) 0 0)):=fun e=>by have:=(EO5.out.lt _ e.symm).1;omega
    have VE6:Hid (q6.cell? ⟨w.heap.size,0,none⟩=some (.int .i64 d.next)∧q6.cell? ⟨w.heap.size,2,none⟩=some (.slice A2 n2 c2)∧X.heap.size≤q6.heap.size):=⟨hg.cell VE5.out.1 hne6,hg.cell VE5.out.2.1 hne6,Nat.le_trans VE5.out.2.2 hg.size⟩;have BX6:=hd (BX5.out.grown hg VE5.out.2.2 (fun j hj=>(EO5.out.lt j hj).1));have GB6:Hid (q6.heap[q1.heap.size]? =some (.cells #[.int .i64 0,.slice none 0 0,.slice none 0 0] 32 (0,0))):=(hg.block _ (heap_lt GA5.out) (own_blk_ne EO5.out GA5.out (by decide))).trans GA5.out;clear ho hg;refine hkB hKq (VE6.out) fun hHeld=> ?_;clear hKq Kq;refine tkB 6 ?_
    refine rqA 8 (fun Kq hKq=> ?_);have h0:q6.ownsRow X.heap.size 32 3 (.slice (some ⟨q1.heap.size,0,none⟩) 1 1) 1 [.int .i64 0,.slice none 0 0,.slice none 0 0]:=⟨rfl,Or.inr ⟨_,1,#[.int .i64 0,.slice none 0 0,.slice none 0 0],rfl,GL5,GB6.out,Nat.le_refl _,by unfold maxLen;omega,rfl,rfl⟩⟩;have g0:q6.cell? ⟨q1.heap.size,0,none⟩=some (.int .i64 0):=h0.cellAt 0 (by omega);have g1:q6.cell? ⟨q1.heap.size,1,none⟩=some (.slice none 0 0):=h0.cellAt 1 (by omega);have g2:q6.cell? ⟨q1.heap.size,2,none⟩=some (.slice none 0 0):=h0.cellAt 2 (by omega);have gf: ∀o,q6.frozen? ⟨q1.heap.size,o,none⟩=false:=fun o=>h0.frozenAt o;have gz:q1.heap.size<q6.heap.size:=heap_lt GB6.out
    have CP:=CpL.put (nx:=d.next) GB6.out GL5 BX6.out CA6.out d.vs;clear h0;go_simp;obtain⟨q7,HQ7⟩: ∃q,Hid (((q6.setCell ⟨q1.heap.size,0,none⟩ (.int .i64 d.next)).setCell ⟨q1.heap.size,1,none⟩ (.slice none 0 0)).setCell ⟨q1.heap.size,2,none⟩ (.slice A3 n2 c3)=q):=⟨_,rfl⟩;rw [HQ7.out];rw [HQ7.out]at CP;have VE7:Hid (q7.cell? ⟨w.heap.size,0,none⟩=some (.int .i64 d.next)∧q7.cell? ⟨w.heap.size,2,none⟩=some (.slice A2 n2 c2)∧X.heap.size≤q7.heap.size):=⟨cy CP.nb.bel x0,cy CP.nb.bel x2,CP.nb.bel.size⟩
    have HCP:Hid (CpL X.heap.size q1.heap.size d.next (.slice A3 n2 c3) n2 d.bs X d.vs 0 q7):=CP;clear CP g0 g1 g2 gf;refine hkB hKq (VE7.out) fun hHeld=> ?_;clear hKq Kq;refine wpAnyH_done (by kernel_rfl) ?_ _;clear hHeld;go_wp2_with fail
    go_meet;exact⟨_,A3,c3,rfl,GL5,HCP.out⟩
  ·go_simp;obtain⟨q8,HQ8⟩: ∃q,Hid ((X.alloc (.cells #[.int .i64 0,.slice none 0 0,.slice none 0 0] 32)).drew=q):=⟨_,rfl⟩;rw [HQ8.out];have hb:Below X.drew.heap.size X.drew q8:=by rw [←HQ8.out];exact(Below.refl _ _).alloc (Nat.le_refl _) _
   have GA8:Hid (q8.heap[X.heap.size]? =some (.cells #[.int .i64 0,.slice none 0 0,.slice none 0 0] 32 (0,0))):=by rw [←HQ8.out];exact heap_alloc_new X.drew _
   have GL8:X.heap.size≤X.heap.size:=VE0.out.2.2;have VE8:Hid (q8.cell? ⟨w.heap.size,0,none⟩=some (.int .i64 d.next)∧q8.cell? ⟨w.heap.size,2,none⟩=some (.slice A2 n2 c2)∧X.heap.size≤q8.heap.size):=⟨cy hb VE0.out.1,cy hb VE0.out.2.1,Nat.le_trans VE0.out.2.2 hb.size⟩;have BX8:Hid (Below X.heap.size X q8):=BX0.out.trans (hb.mono VE0.out.2.2);clear hb;refine hkB hKq (VE8.out) fun hHeld=> ?_;clear hKq Kq;refine rqA 2 (fun Kq hKq=> ?_)
   go_simp;obtain⟨q9,HQ9⟩: ∃q,Hid (q8.alloc (.cells #[] 79)=q):=⟨_,rfl⟩;rw [HQ9.out];have hb:Below q8.heap.size q8 q9:=by rw [←HQ9.out];exact(Below.refl _ _).alloc (Nat.le_refl _) _
   have EA9:Hid (q9.ownsRow X.heap.size 79 2 (.slice (some ⟨q8.heap.size,0,none⟩) 0 0) 0 []):=by rw [←HQ9.out];exact Qku (W:=q8) VE8.out.2.2 rfl
   have VE9:Hid (q9.cell? ⟨w.heap.size,0,none⟩=some (.int .i64 d.next)∧q9.cell? ⟨w.heap.size,2,none⟩=some (.slice A2 n2 c2)∧X.heap.size≤q9.heap.size):=⟨cy hb VE8.out.1,cy hb VE8.out.2.1,Nat.le_trans VE8.out.2.2 hb.size⟩;have BX9:Hid (Below X.heap.size X q9):=BX8.out.trans (hb.mono VE8.out.2.2);have GB9:Hid (q9.heap[X.heap.size]? =some (.cells #[.int .i64 0,.slice none 0 0,.slice none 0 0] 32 (0,0))):=(hb.block _ (heap_lt GA8.out)).trans GA8.out;clear hb;refine hkB hKq (VE9.out) fun hHeld=> ?_;clear hKq Kq;refine rqA 5 (fun Kq hKq=> ?_)
   refine step_copyG 30 79 i0 (.agg #[.string ⟨#[]⟩,.int .i64 0]) 2 24 Tryz.underlying30 hi iz0 iz1 iz2 rfl (by decide) (by rfl) _ _ (by rfl) X.heap.size VE9.out.2.2 _ (by rfl) EA9.out A2 n2 c2 (Jf brL d.bs) (by rfl) HFL.out (fun e=>E2.out.symm.trans (br_none R2.out e)) (br_cells (R2.out.below (KX.out.trans (BX9.out.mono (by omega))))) (br_oneC d.bs) (by unfold maxLen;omega) (by omega) ?_;intro A3 c3 q10 ho hg;have CA10:Hid (q10.ownsRow X.heap.size 79 2 (.slice A3 n2 c3) n2 (Jf brL d.bs)):=ho;have hne10:some w.heap.size≠(Value.ownBlock (.slice (some ⟨q8.heap.size,0,none⟩) 0 0)):=fun e=>by have:=(EA9.out.lt _ e.symm).1;omega
   have VE10:Hid (q10.cell? ⟨w.heap.size,0,none⟩=some (.int .i64 d.next)∧q10.cell? ⟨w.heap.size,2,none⟩=some (.slice A2 n2 c2)∧X.heap.size≤q10.heap.size):=⟨hg.cell VE9.out.1 hne10,hg.cell VE9.out.2.1 hne10,Nat.le_trans VE9.out.2.2 hg.size⟩;have BX10:=hd (BX9.out.grown hg VE9.out.2.2 (fun j hj=>(EA9.out.lt j hj).1));have GB10:Hid (q10.heap[X.heap.size]? =some (.cells #[.int .i64 0,.slice none 0 0,.slice none 0 0] 32 (0,0))):=(hg.block _ (heap_lt GB9.out) (own_blk_ne EA9.out GB9.out (by decide))).trans GB9.out;clear ho hg;refine hkB hKq (VE10.out) fun hHeld=> ?_;clear hKq Kq;refine tkB 6 ?_
   refine rqA 8 (fun Kq hKq=> ?_);have h0:q10.ownsRow X.heap.size 32 3 (.slice (some ⟨X.heap.size,0,none⟩) 1 1) 1 [.int .i64 0,.slice none 0 0,.slice none 0 0]:=⟨rfl,Or.inr ⟨_,1,#[.int .i64 0,.slice none 0 0,.slice none 0 0],rfl,GL8,GB10.out,Nat.le_refl _,by unfold maxLen;omega,rfl,rfl⟩⟩;have g0:q10.cell? ⟨X.heap.size,0,none⟩=some (.int .i64 0):=h0.cellAt 0 (by omega);have g1:q10.cell? ⟨X.heap.size,1,none⟩=some (.slice none 0 0):=h0.cellAt 1 (by omega);have g2:q10.cell? ⟨X.heap.size,2,none⟩=some (.slice none 0 0):=h0.cellAt 2 (by omega);have gf: ∀o,q10.frozen? ⟨X.heap.size,o,none⟩=false:=fun o=>h0.frozenAt o;have gz:X.heap.size<q10.heap.size:=heap_lt GB10.out
   have CP:=CpL.put (nx:=d.next) GB10.out GL8 BX10.out CA10.out d.vs;clear h0;go_simp;obtain⟨q11,HQ11⟩: ∃q,Hid (((q10.setCell ⟨X.heap.size,0,none⟩ (.int .i64 d.next)).setCell ⟨X.heap.size,1,none⟩ (.slice none 0 0)).setCell ⟨X.heap.size,2,none⟩ (.slice A3 n2 c3)=q):=⟨_,rfl⟩;rw [HQ11.out];rw [HQ11.out]at CP;have VE11:Hid (q11.cell? ⟨w.heap.size,0,none⟩=some (.int .i64 d.next)∧q11.cell? ⟨w.heap.size,2,none⟩=some (.slice A2 n2 c2)∧X.heap.size≤q11.heap.size):=⟨cy CP.nb.bel x0,cy CP.nb.bel x2,CP.nb.bel.size⟩
   have HCP:Hid (CpL X.heap.size X.heap.size d.next (.slice A3 n2 c3) n2 d.bs X d.vs 0 q11):=CP;clear CP g0 g1 g2 gf;refine hkB hKq (VE11.out) fun hHeld=> ?_;clear hKq Kq;refine wpAnyH_done (by kernel_rfl) ?_ _;clear hHeld;go_wp2_with fail
   go_meet;exact⟨_,A3,c3,rfl,GL8,HCP.out⟩
 case rest=>
 obtain⟨g,A3,c3,rfl,hg,hcp⟩:=hcut;have HCP:Hid (CpL X.heap.size g d.next (.slice A3 n2 c3) n2 d.bs X d.vs 0 wc):=hcp;have k0:=cy hcp.nb.bel x0;have k1:=cy hcp.nb.bel x1;have k2:=cy hcp.nb.bel x2;have zc:w.heap.size<wc.heap.size:=Nat.lt_of_lt_of_le zX0 hcp.nb.bel.size;clear hcp
 go_wp2_with fail
 go_loopw [4] (fun i wr=> ∃t:Nat,t≤n1∧i= .int .i64 t∧CpL X.heap.size g d.next (.slice A3 n2 c3) n2 d.bs X d.vs t wr) (fun i _=>n1-(intOf i).toNat)
 case atStart=>exact⟨0,Nat.zero_le _,rfl,HCP.out⟩
 case round=>
  clear HCP k0 k1 k2 zc;obtain⟨t,ht,rfl,hcp⟩:=hrel;have HN:Hid (NBx X.heap.size g d.next (.slice A3 n2 c3) n2 d.bs X wr):=hcp.nb;obtain⟨v1,ys,hv1,ho1,hp1,ha1⟩:=hcp.vs;obtain⟨E1',f1,rfl,_,_⟩:=Qo ho1;have HBX:Hid (Below X.heap.size X wr):=hcp.nb.bel;have HNG:Hid (∃c r,wr.heap[g]? =some (.cells c 32 r)):=hcp.nb.gb
  have hg0:X.heap.size≤g:=hg;have zr:X.heap.size≤wr.heap.size:=HBX.out.size;have y1:=cy HBX.out x1;have zw:w.heap.size<wr.heap.size:=by omega
  clear hcp;by_cases hlt:t<n1
  ·obtain⟨x,hx⟩:=ZD E1.out hlt;have HXT:Hid (d.vs[t]? =some x):=hx;have HXL:Hid (JS x):=HL.out.v x (List.mem_of_getElem? hx);obtain⟨vb,vo,u,uc,s,sc,rfl,hvl,a0,a1,a2,ru,rs⟩:=R1.out.2 t x hx;have RU:Hid (IntRow w u x.ups):=ru;have RS:Hid (ClRow w s x.m x.C x.R x.S):=rs;obtain⟨un,HUN⟩: ∃un,Hid (x.ups.length=un):=⟨_,rfl⟩
   obtain⟨mn,HMN⟩: ∃mn,Hid (x.m=mn):=⟨_,rfl⟩;have hun:un≤1048576:=by rw [←HUN.out];exact HXL.out.1
   have hmn:mn≤1048576:=by rw [←HMN.out];exact HXL.out.2
   rw [HUN.out]at a1;rw [HMN.out]at a2;have KR:Hid (Below w.heap.size w wr):=KX.out.trans (HBX.out.mono (by omega));rw [←KR.out.cell (p:=⟨_,_,none⟩) hvl]at a0 a1 a2;have hvz:vb<wr.heap.size:=Nat.lt_of_lt_of_le hvl KR.out.size;have q0:(0:Int)≤(t:Int):=by omega
   have q1:(t:Int)<(n1:Int):=by omega
   have HYL:Hid (ys.length=t*3):=ho1.1;have HAP:Hid (VrApt ys t):=ha1
   have HLT:Hid (VrLt ys t wr.heap.size):=fun i hi=>by
    obtain⟨y,hy⟩:=ZD E1.out (show i<n1 by omega);obtain⟨u',uc',s',sc',_,y1,y2,k1,k2⟩:=hp1 i y hi hy;rw [blkAt_some y1,blkAt_some y2];exact⟨fun q hq=>(k1.lt q hq).2,fun q hq=>(k2.lt q hq).2⟩
   have HV1:Hid (∀k,(Value.slice E1' t f1).ownBlock=some k→k<wr.heap.size):=fun k hk=>(ho1.lt k hk).2;clear hx ru rs ha1;go_upto_region 6 with fail
   obtain⟨q0,HQ0⟩: ∃q,Hid (wr.alloc (.cells #[.int .i64 x.id,.slice u un uc,.slice s mn sc] 89)=q):=⟨_,rfl⟩;rw [HQ0.out];have hb:Below wr.heap.size wr q0:=by rw [←HQ0.out];exact(Below.refl _ _).alloc (Nat.le_refl _) _
   have Sr:Hid (NBx X.heap.size g d.next (.slice A3 n2 c3) n2 d.bs X wr):=HN.out;have lbr:X.heap.size≤wr.heap.size:=zr;have lwr:wr.heap.size≤wr.heap.size:=Nat.le_refl _;have RVr:Hid (wr.ownsRow X.heap.size 89 3 (.slice E1' t f1) t ys):=ho1;have PVr:Hid (VrPart wr X.heap.size ys d.vs t):=hp1;have nnr:=hv1;have OW0:Hid (q0.ownsRow wr.heap.size 89 3 (.slice (some ⟨wr.heap.size,0,none⟩) 1 1) 1 [.int .i64 x.id,.slice u un uc,.slice s mn sc]):=by rw [←HQ0.out];exact World.ownsRow_lit wr _ 1 (Nat.le_refl _) (by unfold maxLen;omega) rfl
   have HVN:Hid ((Value.slice E1' t f1).ownBlock=none∨(Value.slice E1' t f1).ownBlock≠(Value.slice (some ⟨wr.heap.size,0,none⟩) 1 1).ownBlock):=by
    cases e9:(Value.slice E1' t f1).ownBlock with
    | none=>exact Or.inl rfl
    | some k=>exact Or.inr fun e=>by have:=HV1.out k e9;have e2:k=wr.heap.size:=Option.some.inj e;omega
   have hgV:g<wr.heap.size:=by obtain⟨c,r,gb⟩:=HNG.out;exact heap_lt gb
   have HGN:Hid (some g≠(Value.slice (some ⟨wr.heap.size,0,none⟩) 1 1).ownBlock):=fun e=>by have e2:g=wr.heap.size:=Option.some.inj e;omega
   have S0:=hd (Sr.out.below lbr hb);have lb0:X.heap.size≤q0.heap.size:=Nat.le_trans lbr hb.size;have RV0:=hd (Ql RVr.out hb);have PV0:=hd (PVr.out.below hb);have nn0:q0.cell? ⟨g,1,none⟩=some (.slice E1' t f1):=cy hb nnr;have lw0:wr.heap.size≤q0.heap.size:=Nat.le_trans lwr hb.size;clear hb HQ0 ho1 hp1 hv1 HN a0 a1 a2 hvz Sr RVr PVr nnr
   have b0:q0.cell? ⟨wr.heap.size,0,none⟩=some (.int .i64 x.id):=OW0.out.cellAt 0 (by omega);have b1:q0.cell? ⟨wr.heap.size,1,none⟩=some (.slice u un uc):=OW0.out.cellAt 1 (by omega);have b2:q0.cell? ⟨wr.heap.size,2,none⟩=some (.slice s mn sc):=OW0.out.cellAt 2 (by omega);have bf: ∀o,q0.frozen? ⟨wr.heap.size,o,none⟩=false:=fun o=>OW0.out.frozenAt o;have bz:wr.heap.size<q0.heap.size:=World.block_lt_of_cell? q0 ⟨wr.heap.size,0,none⟩ b0;obtain⟨iI,hiI,iI0,iI1,iI2⟩:=info_parts MY;obtain⟨iC,hiC,iC0,iC1,iC2⟩:=info_parts Qj3
   have HUX:Hid ((x.ups.map (Value.int .i64)).length=un*1):=by show _=_;rw [List.length_map,HUN.out];omega
   have KE:Hid (∀o:Obj,Below w.heap.size w (q0.alloc o)):=fun o=>(KX.out.trans (S0.out.bel.mono (by omega))).trans (((Below.refl q0.heap.size q0).alloc (Nat.le_refl _) o).mono (by omega));go_wp2_with (first | (at_builtin;refine wpList_copyG 62 2 iI (.int .i64 0) 1 8 Tryz.underlying62 hiI iI0 iI1 iI2 rfl (by decide) rfl _ _ rfl wr.heap.size (by simp;omega) _ rfl (Qku lw0 rfl) u un uc (x.ups.map (Value.int .i64)) rfl HUX.out (fun e=>HUN.out.symm.trans (int_none RU.out e)) (int_cellsA (RU.out.below (KE.out _))) (int_oneC x.ups) (by unfold maxLen;omega) (by omega) ?_) | fail)
   intro A4 c4 q1 ho hg;have UO1:Hid (q1.ownsRow wr.heap.size 2 1 (.slice A4 un c4) un (x.ups.map (Value.int .i64))):=ho;have hb:Below q0.heap.size q0 q1:=((Below.refl _ _).alloc (Nat.le_refl _) _).grown hg (by simp) (fun j hj=>by cases hj;exact Nat.le_refl _);have S1:=hd (S0.out.below lb0 hb);have lb1:X.heap.size≤q1.heap.size:=Nat.le_trans lb0 hb.size;have RV1:=hd (Ql RV0.out hb);have PV1:=hd (PV0.out.below hb)
   have nn1:q1.cell? ⟨g,1,none⟩=some (.slice E1' t f1):=cy hb nn0;have OW1:=hd (Ql OW0.out hb);have lw1:wr.heap.size≤q1.heap.size:=Nat.le_trans lw0 hb.size;clear hb ho hg;clear b0 b1 b2 bf bz;have b0:q1.cell? ⟨wr.heap.size,0,none⟩=some (.int .i64 x.id):=OW1.out.cellAt 0 (by omega);have b1:q1.cell? ⟨wr.heap.size,1,none⟩=some (.slice u un uc):=OW1.out.cellAt 1 (by omega)
   have b2:q1.cell? ⟨wr.heap.size,2,none⟩=some (.slice s mn sc):=OW1.out.cellAt 2 (by omega);have bf: ∀o,q1.frozen? ⟨wr.heap.size,o,none⟩=false:=fun o=>OW1.out.frozenAt o;have bz:wr.heap.size<q1.heap.size:=World.block_lt_of_cell? q1 ⟨wr.heap.size,0,none⟩ b0;obtain⟨q2,HQ2⟩: ∃q,Hid (q1.setCell ⟨wr.heap.size,1,none⟩ (.slice A4 un c4)=q):=⟨_,rfl⟩;obtain⟨q2,HQ2⟩: ∃q,Hid (q1.setCell ⟨wr.heap.size,1,none⟩ (.slice A4 un c4)=q):=⟨_,rfl⟩;obtain⟨oq,gq⟩:=OW1.out.stored 1 (.slice A4 un c4);rw [HQ2.out]at oq gq
   have OW2:Hid (q2.ownsRow wr.heap.size 89 3 (.slice (some ⟨wr.heap.size,0,none⟩) 1 1) 1 [.int .i64 x.id,.slice A4 un c4,.slice s mn sc]):=oq;have ox:=Zc OW1.out zr;have S2:=hd (S1.out.grown lb1 ox gq);have lb2:X.heap.size≤q2.heap.size:=Nat.le_trans lb1 gq.size;have lw2:wr.heap.size≤q2.heap.size:=Nat.le_trans lw1 gq.size;have RV2:Hid (q2.ownsRow X.heap.size 89 3 (.slice E1' t f1) t ys):=RV1.out.kept gq HVN.out;have PV2:Hid (VrPart q2 X.heap.size ys d.vs t):=PV1.out.keptV ox gq
   have nn2:q2.cell? ⟨g,1,none⟩=some (.slice E1' t f1):=gq.cell nn1 HGN.out;have UO2:Hid (q2.ownsRow wr.heap.size 2 1 (.slice A4 un c4) un (x.ups.map (Value.int .i64))):=UO1.out.kept gq (Qkt UO1.out OW1.out (by decide));clear oq gq ox;have gz1:g<q1.heap.size:=Nat.lt_of_lt_of_le hgV lw1;go_upto_region 7 with fail
   rw [HQ2.out];clear b0 b1 b2 bf bz;clear HQ2 gz1;have b0:q2.cell? ⟨wr.heap.size,0,none⟩=some (.int .i64 x.id):=OW2.out.cellAt 0 (by omega);have b1:q2.cell? ⟨wr.heap.size,1,none⟩=some (.slice A4 un c4):=OW2.out.cellAt 1 (by omega);have b2:q2.cell? ⟨wr.heap.size,2,none⟩=some (.slice s mn sc):=OW2.out.cellAt 2 (by omega);have bf: ∀o,q2.frozen? ⟨wr.heap.size,o,none⟩=false:=fun o=>OW2.out.frozenAt o
   have bz:wr.heap.size<q2.heap.size:=World.block_lt_of_cell? q2 ⟨wr.heap.size,0,none⟩ b0;have KE2:Hid (∀o:Obj,Below w.heap.size w (q2.alloc o)):=fun o=>(KX.out.trans (S2.out.bel.mono (by omega))).trans (((Below.refl q2.heap.size q2).alloc (Nat.le_refl _) o).mono (by omega));have RS2:Hid (∀o:Obj,ClRow (q2.alloc o) s mn x.C x.R x.S):=fun o=>by rw [←HMN.out];exact RS.out.below (KE2.out o)
   go_wp2_with (first | (at_builtin;refine wpList_copyG 36 67 iC (.agg #[.int .i64 0,.int .i64 0,.string ⟨#[]⟩]) 3 32 Tryz.underlying36 hiC iC0 iC1 iC2 rfl (by decide) rfl _ _ rfl wr.heap.size (by simp;omega) _ rfl (Qku lw2 rfl) s mn sc (clX x.C x.R x.S mn) rfl (EB x.C x.R x.S mn) (cl_none (RS2.out (.cells #[] 0))) (cl_cells (RS2.out _)) (clX_one x.C x.R x.S mn) (by unfold maxLen;omega) (by omega) ?_) | fail)
   intro A5 c5 q3 ho hg;have CO3:Hid (q3.ownsRow wr.heap.size 67 3 (.slice A5 mn c5) mn (clX x.C x.R x.S mn)):=ho;have hb:Below q2.heap.size q2 q3:=((Below.refl _ _).alloc (Nat.le_refl _) _).grown hg (by simp) (fun j hj=>by cases hj;exact Nat.le_refl _);have S3:=hd (S2.out.below lb2 hb);have lb3:X.heap.size≤q3.heap.size:=Nat.le_trans lb2 hb.size;have RV3:=hd (Ql RV2.out hb);have PV3:=hd (PV2.out.below hb)
   have nn3:q3.cell? ⟨g,1,none⟩=some (.slice E1' t f1):=cy hb nn2;have OW3:=hd (Ql OW2.out hb);have lw3:wr.heap.size≤q3.heap.size:=Nat.le_trans lw2 hb.size;have UO3:=hd (Ql UO2.out hb);clear hb ho hg;clear b0 b1 b2 bf bz;have b0:q3.cell? ⟨wr.heap.size,0,none⟩=some (.int .i64 x.id):=OW3.out.cellAt 0 (by omega)
   have b1:q3.cell? ⟨wr.heap.size,1,none⟩=some (.slice A4 un c4):=OW3.out.cellAt 1 (by omega);have b2:q3.cell? ⟨wr.heap.size,2,none⟩=some (.slice s mn sc):=OW3.out.cellAt 2 (by omega);have bf: ∀o,q3.frozen? ⟨wr.heap.size,o,none⟩=false:=fun o=>OW3.out.frozenAt o;have bz:wr.heap.size<q3.heap.size:=World.block_lt_of_cell? q3 ⟨wr.heap.size,0,none⟩ b0;obtain⟨q4,HQ4⟩: ∃q,Hid (q3.setCell ⟨wr.heap.size,2,none⟩ (.slice A5 mn c5)=q):=⟨_,rfl⟩;obtain⟨q4,HQ4⟩: ∃q,Hid (q3.setCell ⟨wr.heap.size,2,none⟩ (.slice A5 mn c5)=q):=⟨_,rfl⟩;obtain⟨oq,gq⟩:=OW3.out.stored 2 (.slice A5 mn c5)
   rw [HQ4.out]at oq gq;have OW4:Hid (q4.ownsRow wr.heap.size 89 3 (.slice (some ⟨wr.heap.size,0,none⟩) 1 1) 1 [.int .i64 x.id,.slice A4 un c4,.slice A5 mn c5]):=oq;have ox:=Zc OW3.out zr;have S4:=hd (S3.out.grown lb3 ox gq);have lb4:X.heap.size≤q4.heap.size:=Nat.le_trans lb3 gq.size;have lw4:wr.heap.size≤q4.heap.size:=Nat.le_trans lw3 gq.size;have RV4:Hid (q4.ownsRow X.heap.size 89 3 (.slice E1' t f1) t ys):=RV3.out.kept gq HVN.out
   have PV4:Hid (VrPart q4 X.heap.size ys d.vs t):=PV3.out.keptV ox gq;have nn4:q4.cell? ⟨g,1,none⟩=some (.slice E1' t f1):=gq.cell nn3 HGN.out;have UO4:Hid (q4.ownsRow wr.heap.size 2 1 (.slice A4 un c4) un (x.ups.map (Value.int .i64))):=UO3.out.kept gq (Qkt UO3.out OW3.out (by decide));have CO4:Hid (q4.ownsRow wr.heap.size 67 3 (.slice A5 mn c5) mn (clX x.C x.R x.S mn)):=CO3.out.kept gq (Qkt CO3.out OW3.out (by decide));clear oq gq ox;go_upto_region 8 with fail
   rw [HQ4.out];clear b0 b1 b2 bf bz;clear HQ4;have b0:q4.cell? ⟨wr.heap.size,0,none⟩=some (.int .i64 x.id):=OW4.out.cellAt 0 (by omega);have b1:q4.cell? ⟨wr.heap.size,1,none⟩=some (.slice A4 un c4):=OW4.out.cellAt 1 (by omega);have b2:q4.cell? ⟨wr.heap.size,2,none⟩=some (.slice A5 mn c5):=OW4.out.cellAt 2 (by omega);have bf: ∀o,q4.frozen? ⟨wr.heap.size,o,none⟩=false:=fun o=>OW4.out.frozenAt o
   have bz:wr.heap.size<q4.heap.size:=World.block_lt_of_cell? q4 ⟨wr.heap.size,0,none⟩ b0;have gz4:g<q4.heap.size:=Nat.lt_of_lt_of_le hgV lw4;obtain⟨q5,HQ5⟩: ∃q,Hid (q4.alloc (.cells #[.int .i64 x.id,.slice A4 un c4,.slice A5 mn c5] 89)=q):=⟨_,rfl⟩;have hb:Below q4.heap.size q4 q5:=by rw [←HQ5.out];exact(Below.refl _ _).alloc (Nat.le_refl _) _
   have VC5:Hid (VCell q5 q4.heap.size x.id (.slice A4 un c4) (.slice A5 mn c5)):=by rw [←HQ5.out];exact VCell.at
   have S5:=hd (S4.out.below lb4 hb);have lb5:X.heap.size≤q5.heap.size:=Nat.le_trans lb4 hb.size;have RV5:=hd (Ql RV4.out hb);have PV5:=hd (PV4.out.below hb);have nn5:q5.cell? ⟨g,1,none⟩=some (.slice E1' t f1):=cy hb nn4;have OW5:=hd (Ql OW4.out hb);have lw5:wr.heap.size≤q5.heap.size:=Nat.le_trans lw4 hb.size
   have UO5:=hd (Ql UO4.out hb);have CO5:=hd (Ql CO4.out hb);clear hb;go_wp2_with (first | (at_builtin;rw [HQ5.out];refine wpList_app_vr rfl _ _ rfl X.heap.size (.slice E1' t f1) t ys rfl RV5.out x.id A4 un c4 A5 mn c5 q4.heap.size rfl VC5.out (by omega) lb5 ?_) | fail)
   intro va q6 ho hg;obtain⟨F6,h6,rfl,_,_⟩:=Qo ho;have S6:=hd (S5.out.grown lb5 RV5.out hg)
   have EE6:Hid (CpL X.heap.size g d.next (.slice A3 n2 c3) n2 d.bs X d.vs (t+1) (q6.setCell ⟨g,1,none⟩ (.slice F6 (t+1) h6))):=by
    refine CpL.next (x:=x) (ys:=ys) (u:=A4) (uc:=c4) (s:=A5) (sc:=c5) S6.out hg0 zr ?_ HYL.out HXT.out (PV5.out.keptV RV5.out hg) HAP.out HLT.out ?_ ?_
    ·rw [HUN.out,HMN.out];exact ho
    ·rw [HUN.out];exact UO5.out.kept hg (Qkt UO5.out RV5.out (by decide))
    ·rw [HMN.out];exact CO5.out.kept hg (Qkt CO5.out RV5.out (by decide))
   obtain⟨gx6,gc6⟩:=S6.out.c1;have gf6:=S6.out.nf 1;have gl6:g<q6.heap.size:=World.block_lt_of_cell? q6 ⟨g,1,none⟩ gc6;clear hg ho;clear b0 b1 b2 bf bz;clear nn5 nn4 nn3 nn2 nn1 nn0;go_wp2_with fail
   go_roundw
   case rel=>exact⟨t+1,by omega,by go_num,EE6.out⟩
   case measure=>simp [intOf];omega
  ·have h1: ¬(t:Int)<(n1:Int):=by omega
   obtain rfl:t=n1:=by omega
   have b0:=HN.out.c0;have b2:=HN.out.c2;have m0:=cy HBX.out p0;have m1:=cy HBX.out p1;have m2:=cy HBX.out p2
   have mf: ∀o,wr.frozen? ⟨w.heap.size+1,o,none⟩=false:=fun o=>by
    rw [HBX.out.frozen (p:=⟨w.heap.size+1,o,none⟩) zX1];exact pf o
   have mz:w.heap.size+1<wr.heap.size:=Nat.lt_of_lt_of_le zX1 zr;have gz:g<wr.heap.size:=World.block_lt_of_cell? wr ⟨g,0,none⟩ b0
   have HD:Hid (DgO wr X.heap.size (.agg #[.int .i64 d.next,.slice E1' t f1,.slice A3 n2 c3]) d):=by
    refine⟨_,_,ys,rfl,?_,?_,?_,?_⟩
    ·rw [E1.out];exact ho1
    ·rw [E1.out];exact hp1
    ·rw [E1.out];exact ha1
    ·rw [E2.out];exact HN.out.o2
   have KR:Hid (Below w.heap.size w wr):=KX.out.trans (HBX.out.mono (by omega));clear ho1 hp1 ha1 HN;go_wp2_with fail
   refine bodyPost_ret (v:= .agg #[.int .i64 d.next,.slice E1' t f1,.slice A3 n2 c3]) ?_ rfl ⟨_,rfl,?_,?_⟩
   ·simp (maxDischargeDepth:=9) [results,Tryz.results26,go_sem, *]
   ·exact(((HD.out.setB zX1).setB zX1).setB zX1).mono (by omega)
   ·exact((KR.out.setCell (by show w.heap.size≤w.heap.size+1;omega) _).setCell (by show w.heap.size≤w.heap.size+1;omega) _).setCell (by show w.heap.size≤w.heap.size+1;omega) _
def GrR (w w':World) (d:DG) (s:ByteArray) (x:VR) (U:Option Addr) (un uc:Nat) (e:Ending):Prop:=
 ∃v',e= .returned (.tuple #[v',.int .i64 (if fullB d=true then 0 else d.next),.bool (!fullB d)])∧ ∀B,B≤w.heap.size→w.ownsRow B 2 1 (.slice U un uc) un (x.ups.map (Value.int .i64))→DgO w' B v' (if fullB d=true then d else grownD d s x)
theorem spec_l10Grow {v:Value} {d:DG} {U:Option Addr} {un uc:Nat} {P:Option Addr} {pm pc:Nat} (x:VR) (s:ByteArray) (w:World) (h:DgRow w v d) (hl:DgLil d) (hid:x.id=d.next) (hun:x.ups.length=un) (hpm:x.m=pm) (hU:w.ownsRow 0 2 1 (.slice U un uc) un (x.ups.map (Value.int .i64))) (hP:ClRow w P pm x.C x.R x.S) (hm:pm≤1048576) (hnx:d.next≤1000000000) (hn0:0≤d.next) (hnv:d.vs.length≤40):
  Calls Tryz.prog 28 #[v,.string s,.slice U un uc,.slice P pm pc] w fun e w'=>GrR w w' d s x U un uc e∧Below w.heap.size w w':=by
 obtain⟨A1,n1,c1,A2,n2,c2,rfl⟩:=h.agg;have HD:Hid (DgRow w (.agg #[.int .i64 d.next,.slice A1 n1 c1,.slice A2 n2 c2]) d):=h;obtain⟨_,e1,_,e2⟩:=h.open;have E1:Hid (d.vs.length=n1):=e1;have E2:Hid (d.bs.length=n2):=e2;have HL:Hid (DgLil d):=hl;have hn1:n1≤1048576:=by rw [←e1];exact hl.nv
 have HID:Hid (x.id=d.next):=hid;have HUN:Hid (x.ups.length=un):=hun;have HPM:Hid (x.m=pm):=hpm;have HU:Hid (w.ownsRow 0 2 1 (.slice U un uc) un (x.ups.map (Value.int .i64))):=hU;have HP:Hid (ClRow w P pm x.C x.R x.S):=hP;have hn40:n1≤40:=by rw [←e1];exact hnv
 clear hnv h e1 e2 hl hid hun hpm hU hP;go_enter Tryz.func28,Tryz.ntmps28;go_wp2_with fail
 obtain⟨X,HX⟩: ∃X,Hid ((w.alloc (.cells #[.int .i64 d.next,.slice A1 n1 c1,.slice A2 n2 c2] 32)).alloc (.cells #[.int .i64 0,.slice none 0 0,.slice none 0 0] 32)=X):=⟨_,rfl⟩;rw [HX.out];have x0:X.cell? ⟨w.heap.size,0,none⟩=some (.int .i64 d.next):=by rw [←HX.out];go_simp
 have x1:X.cell? ⟨w.heap.size,1,none⟩=some (.slice A1 n1 c1):=by rw [←HX.out];go_simp
 have x2:X.cell? ⟨w.heap.size,2,none⟩=some (.slice A2 n2 c2):=by rw [←HX.out];go_simp
 have p0:X.cell? ⟨w.heap.size+1,0,none⟩=some (.int .i64 0):=by rw [←HX.out];go_simp
 have p1:X.cell? ⟨w.heap.size+1,1,none⟩=some (.slice none 0 0):=by rw [←HX.out];go_simp
 have p2:X.cell? ⟨w.heap.size+1,2,none⟩=some (.slice none 0 0):=by rw [←HX.out];go_simp
 have pf: ∀o,X.frozen? ⟨w.heap.size+1,o,none⟩=false:=fun o=>by rw [←HX.out];go_simp
 have GB:Hid (∃c r,X.heap[w.heap.size+1]? =some (.cells c 32 r)):=by
  have h9:=heap_alloc_new (w.alloc (.cells #[.int .i64 d.next,.slice A1 n1 c1,.slice A2 n2 c2] 32)) (.cells #[.int .i64 0,.slice none 0 0,.slice none 0 0] 32);rw [HX.out]at h9;exact⟨_,_,by simpa using h9⟩
 have ZX:Hid (X.heap.size=w.heap.size+2):=by rw [←HX.out];show _=_;simp
 have zX0:w.heap.size<X.heap.size:=by have:=ZX.out;omega
 have zX1:w.heap.size+1<X.heap.size:=by have:=ZX.out;omega
 have KX:Hid (Below w.heap.size w X):=by rw [←HX.out];show Below _ _ _;go_grown
 clear HX;refine(spec_l10Copy _ (HD.out.below KX.out) HL.out).mono ?_;rintro e u1 ⟨v',rfl,ho,hb⟩;have HO:Hid (DgO u1 X.heap.size v' d):=ho;obtain⟨A3,c3,A4,c4,rfl,hv,hbr⟩:=ho.parts;simp only [E1.out,E2.out]at hv hbr HO ⊢;have KU:Hid (Below X.heap.size X u1):=hb
 have zu:X.heap.size≤u1.heap.size:=hb.size;have HV1:Hid (DgV u1 X.heap.size (.slice A3 n1 c3) d.vs n1):=hv;have HB1:Hid (u1.ownsRow X.heap.size 79 2 (.slice A4 n2 c4) n2 (Jf brL d.bs)):=hbr;clear ho hb hv hbr;go_upto_region 2 with fail
 obtain⟨w5,HW5⟩: ∃Y,Hid (u1.alloc (.cells #[.int .i64 d.next,.slice A3 n1 c3,.slice A4 n2 c4] 32)=Y):=⟨_,rfl⟩;rw [HW5.out];have hb5:Below u1.heap.size u1 w5:=by rw [←HW5.out];exact(Below.refl _ _).alloc (Nat.le_refl _) _
 have o0:w5.cell? ⟨u1.heap.size,0,none⟩=some (.int .i64 d.next):=by rw [←HW5.out];go_simp
 have o1:w5.cell? ⟨u1.heap.size,1,none⟩=some (.slice A3 n1 c3):=by rw [←HW5.out];go_simp
 have o2:w5.cell? ⟨u1.heap.size,2,none⟩=some (.slice A4 n2 c4):=by rw [←HW5.out];go_simp
 have GO5:Hid (∃c r,w5.heap[u1.heap.size]? =some (.cells c 32 r)):=⟨_,_,by rw [←HW5.out];exact heap_alloc_new u1 _⟩;have of5: ∀o,w5.frozen? ⟨u1.heap.size,o,none⟩=false:=fun o=>by rw [←HW5.out];go_simp
 have oz:u1.heap.size<w5.heap.size:=by rw [←HW5.out];simp
 have B5:Hid (Below X.heap.size X w5):=KU.out.trans (hb5.mono zu);have KB5:Hid (Below u1.heap.size u1 w5):=hb5;have m0:=cy B5.out p0;have m1:=cy B5.out p1;have m2:=cy B5.out p2;have mf: ∀o,w5.frozen? ⟨w.heap.size+1,o,none⟩=false:=fun o=>(B5.out.frozen (p:=⟨w.heap.size+1,o,none⟩) zX1).trans (pf o);have mz:w.heap.size+1<w5.heap.size:=Nat.lt_of_lt_of_le zX1 B5.out.size
 have y0:=cy B5.out x0;have y1:=cy B5.out x1;have y2:=cy B5.out x2;clear hb5 HW5;by_cases h40:n1=40
 ·have HF:Hid (fullB d=true):=by show _=_;rw [fullB,E1.out,h40];rfl
  have q40:((n1:Int)==40)=true:=by rw [h40];rfl
  go_wp2_with fail
  refine bodyPost_ret (v:= .tuple #[.agg #[.int .i64 d.next,.slice A3 n1 c3,.slice A4 n2 c4],.int .i64 0,.bool false]) ?_ rfl ⟨⟨_,by rw [HF.out];rfl,fun B hB _=> ?_⟩,?_⟩
  ·simp (maxDischargeDepth:=9) [results,Tryz.results28,go_sem, *]
  ·rw [if_pos HF.out];exact((((HO.out.below KB5.out).setB zX1).setB zX1).setB zX1).mono (by omega)
  ·exact(((KX.out.trans (B5.out.mono (by omega))).setCell (by show w.heap.size≤w.heap.size+1;omega) _).setCell (by show w.heap.size≤w.heap.size+1;omega) _).setCell (by show w.heap.size≤w.heap.size+1;omega) _
 have q40:((n1:Int)==40)=false:=by rw [beq_eq_false_iff_ne];omega
 by_cases hx9:d.next=1000000000
 ·have HF:Hid (fullB d=true):=by show _=_;rw [fullB,hx9];simp
  have q9:(d.next==1000000000)=true:=by rw [hx9];rfl
  go_wp2_with fail
  refine bodyPost_ret (v:= .tuple #[.agg #[.int .i64 d.next,.slice A3 n1 c3,.slice A4 n2 c4],.int .i64 0,.bool false]) ?_ rfl ⟨⟨_,by rw [HF.out];rfl,fun B hB _=> ?_⟩,?_⟩
  ·simp (maxDischargeDepth:=9) [results,Tryz.results28,go_sem, *]
  ·rw [if_pos HF.out];exact((((HO.out.below KB5.out).setB zX1).setB zX1).setB zX1).mono (by omega)
  ·exact(((KX.out.trans (B5.out.mono (by omega))).setCell (by show w.heap.size≤w.heap.size+1;omega) _).setCell (by show w.heap.size≤w.heap.size+1;omega) _).setCell (by show w.heap.size≤w.heap.size+1;omega) _
 have q9:(d.next==1000000000)=false:=by rw [beq_eq_false_iff_ne];exact hx9
 have HF:Hid (fullB d=false):=by show _=_;rw [fullB,E1.out,decide_eq_false (by omega),decide_eq_false (by omega)];rfl
 go_upto_region 5 with fail
 obtain⟨ys,hv1,hp1,ha1⟩:=HV1.out;have hb5:Below u1.heap.size u1 w5.drew:=KB5.out.drew;have S0:Hid (NBx X.heap.size u1.heap.size d.next (.slice A4 n2 c4) n2 d.bs X w5.drew):=⟨o0,⟨.slice A3 n1 c3,o1⟩,o2,of5,GO5.out,Ql HB1.out hb5,B5.out.drew⟩;have nn0:w5.drew.cell? ⟨u1.heap.size,1,none⟩=some (.slice A3 n1 c3):=o1;have lb0:X.heap.size≤w5.drew.heap.size:=Nat.le_trans zu hb5.size;have RV0:=hd (Ql hv1 hb5);have PV0:Hid (VrPart w5.drew X.heap.size ys d.vs n1):=hp1.below hb5
 have HAP:Hid (VrApt ys n1):=ha1;have HLT:Hid (VrLt ys n1 u1.heap.size):=hp1.ltB E1.out;have HLO:Hid (∀i,i<n1→(∀q,blkAt ys (i*3+1)=some q→X.heap.size≤q)∧ ∀q,blkAt ys (i*3+2)=some q→X.heap.size≤q):=hp1.loB E1.out;have HYL:Hid (ys.length=n1*3):=hv1.1;have VE0:Hid (w5.drew.cell? ⟨w.heap.size,0,none⟩=some (.int .i64 d.next)∧w.heap.size<w5.drew.heap.size):=⟨y0,Nat.lt_of_lt_of_le (Nat.lt_of_lt_of_le zX0 zu) hb5.size⟩;have HUB:Hid (∀q,(Value.slice U un uc).ownBlock=some q→q<X.heap.size):=fun q hq=>Nat.lt_trans (HU.out.lt q hq).2 zX0;have HN5:Hid (u1.heap.size≤w5.drew.heap.size):=hb5.size
 have oz0:u1.heap.size<w5.drew.heap.size:=oz;clear hb5 hv1 hp1 ha1 o0 o1 o2 of5 m0 m1 m2 mf mz y0 y1 y2 x1 x2;obtain⟨iC,hiC,iC0,iC1,iC2⟩:=info_parts Qj3;go_cut [11,12] (fun p i wx=>p= .pointer (some ⟨u1.heap.size,0,none⟩)∧i= .int .i64 d.next∧WvE X.heap.size u1.heap.size n1 d.next (.slice A4 n2 c4) n2 d.bs X w d.vs x U un uc wx)
 case first=>
  refine wp_region_held_drew (S:=(fun w'=>w'.cell? ⟨w.heap.size,0,none⟩=some (.int .i64 d.next)∧w.heap.size<w'.heap.size)) (by kernel_rfl) VE0.out (fun hHeld=> ?_);refine tkA 0 ?_;refine tkB 2 ?_;refine tkA 3 ?_;refine tkB 5 ?_;refine rqB 1 4 (fun Kq hKq=> ?_) (fun Kq hKq=> ?_)
  ·go_simp;refine hkB hKq (VE0.out) fun hHeld=> ?_;clear hKq Kq;refine rqA 4 (fun Kq hKq=> ?_);go_simp;obtain⟨q1,HQ1⟩: ∃q,Hid ((w5.alloc (.cells #[] 67)).drew=q):=⟨_,rfl⟩;rw [HQ1.out]
   have hb:Below w5.drew.heap.size w5.drew q1:=by rw [←HQ1.out];exact((Below.refl w5.drew.heap.size w5.drew).alloc (Nat.le_refl _) _)
   have HE1:Hid (Below w5.drew.heap.size w5.drew q1):=hb;have EO1:Hid (q1.ownsRow u1.heap.size 67 3 (.slice (some ⟨w5.heap.size,0,none⟩) 0 0) 0 []):=by rw [←HQ1.out];exact Qku (W:=w5.drew) HN5.out rfl
   have HG1:Hid (u1.heap.size≤q1.heap.size∧w5.drew.heap.size≤q1.heap.size):=⟨Nat.le_trans HN5.out hb.size,hb.size⟩;have VE1:Hid (q1.cell? ⟨w.heap.size,0,none⟩=some (.int .i64 d.next)∧w.heap.size<q1.heap.size):=⟨cy hb VE0.out.1,Nat.lt_of_lt_of_le VE0.out.2 hb.size⟩;have nn1:q1.cell? ⟨u1.heap.size,1,none⟩=some (.slice A3 n1 c3):=cy hb nn0;have oz1:u1.heap.size<q1.heap.size:=Nat.lt_of_lt_of_le oz0 hb.size;clear hb;refine hkB hKq (VE1.out) fun hHeld=> ?_;clear hKq Kq
   refine rqA 6 (fun Kq hKq=> ?_);refine step_copyG 36 67 iC (.agg #[.int .i64 0,.int .i64 0,.string ⟨#[]⟩]) 3 32 Tryz.underlying36 hiC iC0 iC1 iC2 rfl (by decide) (by rfl) _ _ (by rfl) u1.heap.size HG1.out.1 _ (by rfl) EO1.out P pm pc (clX x.C x.R x.S pm) (by rfl) (EB x.C x.R x.S pm) (cl_none HP.out) (cl_cells (HP.out.below (KX.out.trans ((S0.out.bel.mono (by omega)).trans (HE1.out.mono (by omega)))))) (clX_one x.C x.R x.S pm) (by unfold maxLen;omega) (by omega) ?_;intro D2 e2 q2 ho hg;have N2:Hid (q2.ownsRow u1.heap.size 67 3 (.slice D2 pm e2) pm (clX x.C x.R x.S pm)):=ho;have hb:Below w5.drew.heap.size w5.drew q2:=HE1.out.grown hg HG1.out.2 (fun j hj=>by cases hj;exact Nat.le_refl _);have S2:=hd (S0.out.below lb0 hb);have lb2:X.heap.size≤q2.heap.size:=Nat.le_trans lb0 hb.size
   have RV2:=hd (Ql RV0.out hb);have PV2:=hd (PV0.out.below hb);have VE2:Hid (q2.cell? ⟨w.heap.size,0,none⟩=some (.int .i64 d.next)∧w.heap.size<q2.heap.size):=⟨cy hb VE0.out.1,Nat.lt_of_lt_of_le VE0.out.2 hb.size⟩;have nn2:q2.cell? ⟨u1.heap.size,1,none⟩=some (.slice A3 n1 c3):=cy hb nn0;have ug2:u1.heap.size≤q2.heap.size:=Nat.le_trans HN5.out hb.size;have oz2:u1.heap.size<q2.heap.size:=Nat.lt_of_lt_of_le oz0 hb.size;clear hb ho hg
   refine hkB hKq (VE2.out) fun hHeld=> ?_;clear hKq Kq;refine tkB 7 ?_;refine rqA 8 (fun Kq hKq=> ?_);go_simp;obtain⟨q3,HQ3⟩: ∃q,Hid (q2.alloc (.cells #[.int .i64 d.next,.slice U un uc,.slice D2 pm e2] 89)=q):=⟨_,rfl⟩;rw [HQ3.out]
   have hb:Below q2.heap.size q2 q3:=by rw [←HQ3.out];exact(Below.refl _ _).alloc (Nat.le_refl _) _
   have VC3:Hid (VCell q3 q2.heap.size d.next (.slice U un uc) (.slice D2 pm e2)):=by rw [←HQ3.out];exact VCell.at
   have S3:=hd (S2.out.below lb2 hb);have lb3:X.heap.size≤q3.heap.size:=Nat.le_trans lb2 hb.size;have RV3:=hd (Ql RV2.out hb);have PV3:=hd (PV2.out.below hb);have VE3:Hid (q3.cell? ⟨w.heap.size,0,none⟩=some (.int .i64 d.next)∧w.heap.size<q3.heap.size):=⟨cy hb VE2.out.1,Nat.lt_of_lt_of_le VE2.out.2 hb.size⟩;have nn3:q3.cell? ⟨u1.heap.size,1,none⟩=some (.slice A3 n1 c3):=cy hb nn2;have ug3:u1.heap.size≤q3.heap.size:=Nat.le_trans ug2 hb.size
   have CO3:=hd (Ql N2.out hb);clear hb;refine hkB hKq (VE3.out) fun hHeld=> ?_;clear hKq Kq;refine rqA 9 (fun Kq hKq=> ?_);refine step_app_vr (by rfl) _ _ (by rfl) X.heap.size (.slice A3 n1 c3) n1 ys (by rfl) RV3.out d.next U un uc D2 pm e2 q2.heap.size (by rfl) VC3.out (by omega) lb3 ?_;intro va4 q4 ho hg
   obtain⟨F4,h4,rfl,_,_⟩:=Qo ho;have S4:=hd (S3.out.grown lb3 RV3.out hg);have hne4:some w.heap.size≠(Value.slice A3 n1 c3).ownBlock:=fun e=>by have:=(RV3.out.lt _ e.symm).1;omega
   have VE4:Hid (q4.cell? ⟨w.heap.size,0,none⟩=some (.int .i64 d.next)∧w.heap.size<q4.heap.size):=⟨hg.cell VE3.out.1 hne4,Nat.lt_of_lt_of_le VE3.out.2 hg.size⟩
   have EE4:Hid (WvE X.heap.size u1.heap.size n1 d.next (.slice A4 n2 c4) n2 d.bs X w d.vs x U un uc (q4.setCell ⟨u1.heap.size,1,none⟩ (.slice F4 (n1+1) h4))):=by
    obtain⟨m1,m2⟩:=S4.out.set zu (.slice F4 (n1+1) h4);obtain⟨cc,rr,gb⟩:=S4.out.gb;refine⟨m1,⟨_,m2,fun B hB hBw hUB=> ?_⟩,⟨_,_,m2⟩⟩;have hxt:(d.vs++ [x])[n1]? =some x:=by rw [List.getElem?_append_right (by rw [E1.out];exact Nat.le_refl _),E1.out,Nat.sub_self];rfl
    have hq:Below w.heap.size w q4:=KX.out.trans (S4.out.bel.mono (by omega));have hU2:q4.ownsRow B 2 1 (.slice U x.ups.length uc) x.ups.length (x.ups.map (Value.int .i64)):=by rw [HUN.out];exact Ql hUB hq
    have hC2:q4.ownsRow B 67 3 (.slice D2 x.m e2) x.m (clX x.C x.R x.S x.m):=by rw [HPM.out];exact Zc (CO3.out.kept hg (Qkt CO3.out RV3.out (by decide))) (by omega)
    have hpB:VrPart q4 B ys (d.vs++ [x]) n1:=by
     have h9:=part_app (M:= [x]) (PV3.out.keptV RV3.out hg) E1.out.symm;intro i y hi hy;obtain⟨a1,a2,a3,a4,b0,b1,b2,k1,k2⟩:=h9 i y hi hy;exact⟨a1,a2,a3,a4,b0,b1,b2,Zc k1 hB,Zc k2 hB⟩
    refine⟨_,own_setT (Zc ho hB) gb (by decide),?_,HAP.out.snocG HYL.out (fun i hi=>farB (HLO.out i hi).1 HUB.out) (fun i hi=> ?_)⟩
    ·have h8:=VrPart.setD (o:=1) (x:= .slice F4 (n1+1) h4) (hpB.snoc HYL.out hxt hU2 hC2) gb;rw [HID.out,HUN.out,HPM.out]at h8;exact h8
    ·have h7:=farB (lo:=u1.heap.size) (p:=(Value.slice D2 pm e2).ownBlock) (q:=blkAt ys (i*3+2)) (fun k hk=>(CO3.out.lt k hk).1) (HLT.out i hi).2;exact⟨h7.2,h7.1⟩
   obtain⟨gx4,gc4⟩:=S4.out.c1;have gf4:=S4.out.nf 1;have gl4:u1.heap.size<q4.heap.size:=World.block_lt_of_cell? q4 ⟨u1.heap.size,1,none⟩ gc4;clear hg ho;refine hkB hKq (VE4.out) fun hHeld=> ?_;clear hKq Kq;refine tkB 10 ?_
   refine rqA 11 (fun Kq hKq=> ?_);go_simp;have VE5:Hid ((q4.setCell ⟨u1.heap.size,1,none⟩ (.slice F4 (n1+1) h4)).cell? ⟨w.heap.size,0,none⟩=some (.int .i64 d.next)∧w.heap.size<(q4.setCell ⟨u1.heap.size,1,none⟩ (.slice F4 (n1+1) h4)).heap.size):=⟨(World.cell?_setCell_other _ _ _ _ (by intro e;injection e with e1;omega)).trans VE4.out.1,by simpa using VE4.out.2⟩;refine hkB hKq (VE5.out) fun hHeld=> ?_;clear hKq Kq;refine wpAnyH_done (by kernel_rfl) ?_ _;clear hHeld
   go_wp2_with fail
   go_meet;exact⟨rfl,rfl,EE4.out⟩
  ·go_simp;obtain⟨q6,HQ6⟩: ∃q,Hid ((w5.alloc (.cells #[] 67)).drew=q):=⟨_,rfl⟩;rw [HQ6.out];have hb:Below w5.drew.heap.size w5.drew q6:=by rw [←HQ6.out];exact((Below.refl w5.drew.heap.size w5.drew).alloc (Nat.le_refl _) _)
   have HE6:Hid (Below w5.drew.heap.size w5.drew q6):=hb;have EO6:Hid (q6.ownsRow u1.heap.size 67 3 (.slice (some ⟨w5.heap.size,0,none⟩) 0 0) 0 []):=by rw [←HQ6.out];exact Qku (W:=w5.drew) HN5.out rfl
   have HG6:Hid (u1.heap.size≤q6.heap.size∧w5.drew.heap.size≤q6.heap.size):=⟨Nat.le_trans HN5.out hb.size,hb.size⟩;have VE6:Hid (q6.cell? ⟨w.heap.size,0,none⟩=some (.int .i64 d.next)∧w.heap.size<q6.heap.size):=⟨cy hb VE0.out.1,Nat.lt_of_lt_of_le VE0.out.2 hb.size⟩;have nn6:q6.cell? ⟨u1.heap.size,1,none⟩=some (.slice A3 n1 c3):=cy hb nn0;have oz6:u1.heap.size<q6.heap.size:=Nat.lt_of_lt_of_le oz0 hb.size;clear hb;refine hkB hKq (VE6.out) fun hHeld=> ?_;clear hKq Kq
   refine rqB 1 6 (fun Kq hKq=> ?_) (fun Kq hKq=> ?_)
   ·go_simp;refine hkB hKq (VE6.out) fun hHeld=> ?_;clear hKq Kq;refine rqA 6 (fun Kq hKq=> ?_);refine step_copyG 36 67 iC (.agg #[.int .i64 0,.int .i64 0,.string ⟨#[]⟩]) 3 32 Tryz.underlying36 hiC iC0 iC1 iC2 rfl (by decide) (by rfl) _ _ (by rfl) u1.heap.size HG6.out.1 _ (by rfl) EO6.out P pm pc (clX x.C x.R x.S pm) (by rfl) (EB x.C x.R x.S pm) (cl_none HP.out) (cl_cells (HP.out.below (KX.out.trans ((S0.out.bel.mono (by omega)).trans (HE6.out.mono (by omega)))))) (clX_one x.C x.R x.S pm) (by unfold maxLen;omega) (by omega) ?_;intro D7 e7 q7 ho hg;have N7:Hid (q7.ownsRow u1.heap.size 67 3 (.slice D7 pm e7) pm (clX x.C x.R x.S pm)):=ho
    have hb:Below w5.drew.heap.size w5.drew q7:=HE6.out.grown hg HG6.out.2 (fun j hj=>by cases hj;exact Nat.le_refl _);have S7:=hd (S0.out.below lb0 hb);have lb7:X.heap.size≤q7.heap.size:=Nat.le_trans lb0 hb.size;have RV7:=hd (Ql RV0.out hb);have PV7:=hd (PV0.out.below hb);have VE7:Hid (q7.cell? ⟨w.heap.size,0,none⟩=some (.int .i64 d.next)∧w.heap.size<q7.heap.size):=⟨cy hb VE0.out.1,Nat.lt_of_lt_of_le VE0.out.2 hb.size⟩;have nn7:q7.cell? ⟨u1.heap.size,1,none⟩=some (.slice A3 n1 c3):=cy hb nn0
    have ug7:u1.heap.size≤q7.heap.size:=Nat.le_trans HN5.out hb.size;have oz7:u1.heap.size<q7.heap.size:=Nat.lt_of_lt_of_le oz0 hb.size;clear hb ho hg;refine hkB hKq (VE7.out) fun hHeld=> ?_;clear hKq Kq;refine tkB 7 ?_;refine rqA 8 (fun Kq hKq=> ?_)
    go_simp;obtain⟨q8,HQ8⟩: ∃q,Hid (q7.alloc (.cells #[.int .i64 d.next,.slice U un uc,.slice D7 pm e7] 89)=q):=⟨_,rfl⟩;rw [HQ8.out];have hb:Below q7.heap.size q7 q8:=by rw [←HQ8.out];exact(Below.refl _ _).alloc (Nat.le_refl _) _
    have VC8:Hid (VCell q8 q7.heap.size d.next (.slice U un uc) (.slice D7 pm e7)):=by rw [←HQ8.out];exact VCell.at
    have S8:=hd (S7.out.below lb7 hb);have lb8:X.heap.size≤q8.heap.size:=Nat.le_trans lb7 hb.size;have RV8:=hd (Ql RV7.out hb);have PV8:=hd (PV7.out.below hb);have VE8:Hid (q8.cell? ⟨w.heap.size,0,none⟩=some (.int .i64 d.next)∧w.heap.size<q8.heap.size):=⟨cy hb VE7.out.1,Nat.lt_of_lt_of_le VE7.out.2 hb.size⟩;have nn8:q8.cell? ⟨u1.heap.size,1,none⟩=some (.slice A3 n1 c3):=cy hb nn7;have ug8:u1.heap.size≤q8.heap.size:=Nat.le_trans ug7 hb.size
    have CO8:=hd (Ql N7.out hb);clear hb;refine hkB hKq (VE8.out) fun hHeld=> ?_;clear hKq Kq;refine rqA 9 (fun Kq hKq=> ?_);refine step_app_vr (by rfl) _ _ (by rfl) X.heap.size (.slice A3 n1 c3) n1 ys (by rfl) RV8.out d.next U un uc D7 pm e7 q7.heap.size (by rfl) VC8.out (by omega) lb8 ?_;intro va9 q9 ho hg
    obtain⟨F9,h9,rfl,_,_⟩:=Qo ho;have S9:=hd (S8.out.grown lb8 RV8.out hg);have hne9:some w.heap.size≠(Value.slice A3 n1 c3).ownBlock:=fun e=>by have:=(RV8.out.lt _ e.symm).1;omega
    have VE9:Hid (q9.cell? ⟨w.heap.size,0,none⟩=some (.int .i64 d.next)∧w.heap.size<q9.heap.size):=⟨hg.cell VE8.out.1 hne9,Nat.lt_of_lt_of_le VE8.out.2 hg.size⟩
    have EE9:Hid (WvE X.heap.size u1.heap.size n1 d.next (.slice A4 n2 c4) n2 d.bs X w d.vs x U un uc (q9.setCell ⟨u1.heap.size,1,none⟩ (.slice F9 (n1+1) h9))):=by
     obtain⟨m1,m2⟩:=S9.out.set zu (.slice F9 (n1+1) h9);obtain⟨cc,rr,gb⟩:=S9.out.gb;refine⟨m1,⟨_,m2,fun B hB hBw hUB=> ?_⟩,⟨_,_,m2⟩⟩;have hxt:(d.vs++ [x])[n1]? =some x:=by rw [List.getElem?_append_right (by rw [E1.out];exact Nat.le_refl _),E1.out,Nat.sub_self];rfl
     have hq:Below w.heap.size w q9:=KX.out.trans (S9.out.bel.mono (by omega));have hU2:q9.ownsRow B 2 1 (.slice U x.ups.length uc) x.ups.length (x.ups.map (Value.int .i64)):=by rw [HUN.out];exact Ql hUB hq
     have hC2:q9.ownsRow B 67 3 (.slice D7 x.m e7) x.m (clX x.C x.R x.S x.m):=by rw [HPM.out];exact Zc (CO8.out.kept hg (Qkt CO8.out RV8.out (by decide))) (by omega)
     have hpB:VrPart q9 B ys (d.vs++ [x]) n1:=by
      have h9:=part_app (M:= [x]) (PV8.out.keptV RV8.out hg) E1.out.symm;intro i y hi hy;obtain⟨a1,a2,a3,a4,b0,b1,b2,k1,k2⟩:=h9 i y hi hy;exact⟨a1,a2,a3,a4,b0,b1,b2,Zc k1 hB,Zc k2 hB⟩
     refine⟨_,own_setT (Zc ho hB) gb (by decide),?_,HAP.out.snocG HYL.out (fun i hi=>farB (HLO.out i hi).1 HUB.out) (fun i hi=> ?_)⟩
     ·have h8:=VrPart.setD (o:=1) (x:= .slice F9 (n1+1) h9) (hpB.snoc HYL.out hxt hU2 hC2) gb;rw [HID.out,HUN.out,HPM.out]at h8;exact h8
     ·have h7:=farB (lo:=u1.heap.size) (p:=(Value.slice D7 pm e7).ownBlock) (q:=blkAt ys (i*3+2)) (fun k hk=>(CO8.out.lt k hk).1) (HLT.out i hi).2;exact⟨h7.2,h7.1⟩
    obtain⟨gx9,gc9⟩:=S9.out.c1;have gf9:=S9.out.nf 1;have gl9:u1.heap.size<q9.heap.size:=World.block_lt_of_cell? q9 ⟨u1.heap.size,1,none⟩ gc9;clear hg ho;refine hkB hKq (VE9.out) fun hHeld=> ?_;clear hKq Kq;refine tkB 10 ?_
    refine rqA 11 (fun Kq hKq=> ?_);go_simp;have VE10:Hid ((q9.setCell ⟨u1.heap.size,1,none⟩ (.slice F9 (n1+1) h9)).cell? ⟨w.heap.size,0,none⟩=some (.int .i64 d.next)∧w.heap.size<(q9.setCell ⟨u1.heap.size,1,none⟩ (.slice F9 (n1+1) h9)).heap.size):=⟨(World.cell?_setCell_other _ _ _ _ (by intro e;injection e with e1;omega)).trans VE9.out.1,by simpa using VE9.out.2⟩;refine hkB hKq (VE10.out) fun hHeld=> ?_;clear hKq Kq;refine wpAnyH_done (by kernel_rfl) ?_ _;clear hHeld
    go_wp2_with fail
    go_meet;exact⟨rfl,rfl,EE9.out⟩
   ·refine step_copyG 36 67 iC (.agg #[.int .i64 0,.int .i64 0,.string ⟨#[]⟩]) 3 32 Tryz.underlying36 hiC iC0 iC1 iC2 rfl (by decide) (by rfl) _ _ (by rfl) u1.heap.size HG6.out.1 _ (by rfl) EO6.out P pm pc (clX x.C x.R x.S pm) (by rfl) (EB x.C x.R x.S pm) (cl_none HP.out) (cl_cells (HP.out.below (KX.out.trans ((S0.out.bel.mono (by omega)).trans (HE6.out.mono (by omega)))))) (clX_one x.C x.R x.S pm) (by unfold maxLen;omega) (by omega) ?_;intro D11 e11 q11 ho hg;have N11:Hid (q11.ownsRow u1.heap.size 67 3 (.slice D11 pm e11) pm (clX x.C x.R x.S pm)):=ho;have hb:Below w5.drew.heap.size w5.drew q11:=HE6.out.grown hg HG6.out.2 (fun j hj=>by cases hj;exact Nat.le_refl _);have S11:=hd (S0.out.below lb0 hb);have lb11:X.heap.size≤q11.heap.size:=Nat.le_trans lb0 hb.size;have RV11:=hd (Ql RV0.out hb)
    have PV11:=hd (PV0.out.below hb);have VE11:Hid (q11.cell? ⟨w.heap.size,0,none⟩=some (.int .i64 d.next)∧w.heap.size<q11.heap.size):=⟨cy hb VE0.out.1,Nat.lt_of_lt_of_le VE0.out.2 hb.size⟩;have nn11:q11.cell? ⟨u1.heap.size,1,none⟩=some (.slice A3 n1 c3):=cy hb nn0;have ug11:u1.heap.size≤q11.heap.size:=Nat.le_trans HN5.out hb.size;have oz11:u1.heap.size<q11.heap.size:=Nat.lt_of_lt_of_le oz0 hb.size;clear hb ho hg;refine hkB hKq (VE11.out) fun hHeld=> ?_
    clear hKq Kq;refine tkB 7 ?_;refine rqB 1 8 (fun Kq hKq=> ?_) (fun Kq hKq=> ?_)
    ·go_simp;refine hkB hKq (VE11.out) fun hHeld=> ?_;clear hKq Kq;refine rqA 8 (fun Kq hKq=> ?_);go_simp;obtain⟨q12,HQ12⟩: ∃q,Hid (q11.alloc (.cells #[.int .i64 d.next,.slice U un uc,.slice D11 pm e11] 89)=q):=⟨_,rfl⟩;rw [HQ12.out]
     have hb:Below q11.heap.size q11 q12:=by rw [←HQ12.out];exact(Below.refl _ _).alloc (Nat.le_refl _) _
     have VC12:Hid (VCell q12 q11.heap.size d.next (.slice U un uc) (.slice D11 pm e11)):=by rw [←HQ12.out];exact VCell.at
     have S12:=hd (S11.out.below lb11 hb);have lb12:X.heap.size≤q12.heap.size:=Nat.le_trans lb11 hb.size;have RV12:=hd (Ql RV11.out hb);have PV12:=hd (PV11.out.below hb);have VE12:Hid (q12.cell? ⟨w.heap.size,0,none⟩=some (.int .i64 d.next)∧w.heap.size<q12.heap.size):=⟨cy hb VE11.out.1,Nat.lt_of_lt_of_le VE11.out.2 hb.size⟩;have nn12:q12.cell? ⟨u1.heap.size,1,none⟩=some (.slice A3 n1 c3):=cy hb nn11;have ug12:u1.heap.size≤q12.heap.size:=Nat.le_trans ug11 hb.size
     have CO12:=hd (Ql N11.out hb);clear hb;refine hkB hKq (VE12.out) fun hHeld=> ?_;clear hKq Kq;refine rqA 9 (fun Kq hKq=> ?_);refine step_app_vr (by rfl) _ _ (by rfl) X.heap.size (.slice A3 n1 c3) n1 ys (by rfl) RV12.out d.next U un uc D11 pm e11 q11.heap.size (by rfl) VC12.out (by omega) lb12 ?_;intro va13 q13 ho hg
     obtain⟨F13,h13,rfl,_,_⟩:=Qo ho;have S13:=hd (S12.out.grown lb12 RV12.out hg);have hne13:some w.heap.size≠(Value.slice A3 n1 c3).ownBlock:=fun e=>by have:=(RV12.out.lt _ e.symm).1;omega
     have VE13:Hid (q13.cell? ⟨w.heap.size,0,none⟩=some (.int .i64 d.next)∧w.heap.size<q13.heap.size):=⟨hg.cell VE12.out.1 hne13,Nat.lt_of_lt_of_le VE12.out.2 hg.size⟩
     have EE13:Hid (WvE X.heap.size u1.heap.size n1 d.next (.slice A4 n2 c4) n2 d.bs X w d.vs x U un uc (q13.setCell ⟨u1.heap.size,1,none⟩ (.slice F13 (n1+1) h13))):=by
      obtain⟨m1,m2⟩:=S13.out.set zu (.slice F13 (n1+1) h13);obtain⟨cc,rr,gb⟩:=S13.out.gb;refine⟨m1,⟨_,m2,fun B hB hBw hUB=> ?_⟩,⟨_,_,m2⟩⟩;have hxt:(d.vs++ [x])[n1]? =some x:=by rw [List.getElem?_append_right (by rw [E1.out];exact Nat.le_refl _),E1.out,Nat.sub_self];rfl
      have hq:Below w.heap.size w q13:=KX.out.trans (S13.out.bel.mono (by omega));have hU2:q13.ownsRow B 2 1 (.slice U x.ups.length uc) x.ups.length (x.ups.map (Value.int .i64)):=by rw [HUN.out];exact Ql hUB hq
      have hC2:q13.ownsRow B 67 3 (.slice D11 x.m e11) x.m (clX x.C x.R x.S x.m):=by rw [HPM.out];exact Zc (CO12.out.kept hg (Qkt CO12.out RV12.out (by decide))) (by omega)
      have hpB:VrPart q13 B ys (d.vs++ [x]) n1:=by
       have h9:=part_app (M:= [x]) (PV12.out.keptV RV12.out hg) E1.out.symm;intro i y hi hy;obtain⟨a1,a2,a3,a4,b0,b1,b2,k1,k2⟩:=h9 i y hi hy;exact⟨a1,a2,a3,a4,b0,b1,b2,Zc k1 hB,Zc k2 hB⟩
      refine⟨_,own_setT (Zc ho hB) gb (by decide),?_,HAP.out.snocG HYL.out (fun i hi=>farB (HLO.out i hi).1 HUB.out) (fun i hi=> ?_)⟩
      ·have h8:=VrPart.setD (o:=1) (x:= .slice F13 (n1+1) h13) (hpB.snoc HYL.out hxt hU2 hC2) gb;rw [HID.out,HUN.out,HPM.out]at h8;exact h8
      ·have h7:=farB (lo:=u1.heap.size) (p:=(Value.slice D11 pm e11).ownBlock) (q:=blkAt ys (i*3+2)) (fun k hk=>(CO12.out.lt k hk).1) (HLT.out i hi).2;exact⟨h7.2,h7.1⟩
     obtain⟨gx13,gc13⟩:=S13.out.c1;have gf13:=S13.out.nf 1;have gl13:u1.heap.size<q13.heap.size:=World.block_lt_of_cell? q13 ⟨u1.heap.size,1,none⟩ gc13;clear hg ho;refine hkB hKq (VE13.out) fun hHeld=> ?_;clear hKq Kq;refine tkB 10 ?_
     refine rqA 11 (fun Kq hKq=> ?_);go_simp;have VE14:Hid ((q13.setCell ⟨u1.heap.size,1,none⟩ (.slice F13 (n1+1) h13)).cell? ⟨w.heap.size,0,none⟩=some (.int .i64 d.next)∧w.heap.size<(q13.setCell ⟨u1.heap.size,1,none⟩ (.slice F13 (n1+1) h13)).heap.size):=⟨(World.cell?_setCell_other _ _ _ _ (by intro e;injection e with e1;omega)).trans VE13.out.1,by simpa using VE13.out.2⟩;refine hkB hKq (VE14.out) fun hHeld=> ?_;clear hKq Kq;refine wpAnyH_done (by kernel_rfl) ?_ _;clear hHeld
     go_wp2_with fail
     go_meet;exact⟨rfl,rfl,EE13.out⟩
    ·go_simp;obtain⟨q15,HQ15⟩: ∃q,Hid (q11.alloc (.cells #[.int .i64 d.next,.slice U un uc,.slice D11 pm e11] 89)=q):=⟨_,rfl⟩;rw [HQ15.out];have hb:Below q11.heap.size q11 q15:=by rw [←HQ15.out];exact(Below.refl _ _).alloc (Nat.le_refl _) _
     have VC15:Hid (VCell q15 q11.heap.size d.next (.slice U un uc) (.slice D11 pm e11)):=by rw [←HQ15.out];exact VCell.at
     have S15:=hd (S11.out.below lb11 hb);have lb15:X.heap.size≤q15.heap.size:=Nat.le_trans lb11 hb.size;have RV15:=hd (Ql RV11.out hb);have PV15:=hd (PV11.out.below hb);have VE15:Hid (q15.cell? ⟨w.heap.size,0,none⟩=some (.int .i64 d.next)∧w.heap.size<q15.heap.size):=⟨cy hb VE11.out.1,Nat.lt_of_lt_of_le VE11.out.2 hb.size⟩;have nn15:q15.cell? ⟨u1.heap.size,1,none⟩=some (.slice A3 n1 c3):=cy hb nn11;have ug15:u1.heap.size≤q15.heap.size:=Nat.le_trans ug11 hb.size
     have CO15:=hd (Ql N11.out hb);clear hb;refine hkB hKq (VE15.out) fun hHeld=> ?_;clear hKq Kq;refine rqA 1 (fun Kq hKq=> ?_);go_simp;refine hkB hKq (VE15.out) fun hHeld=> ?_
     clear hKq Kq;refine rqA 9 (fun Kq hKq=> ?_);refine step_app_vr (by rfl) _ _ (by rfl) X.heap.size (.slice A3 n1 c3) n1 ys (by rfl) RV15.out d.next U un uc D11 pm e11 q11.heap.size (by rfl) VC15.out (by omega) lb15 ?_;intro va16 q16 ho hg;obtain⟨F16,h16,rfl,_,_⟩:=Qo ho;have S16:=hd (S15.out.grown lb15 RV15.out hg);have hne16:some w.heap.size≠(Value.slice A3 n1 c3).ownBlock:=fun e=>by have:=(RV15.out.lt _ e.symm).1;omega
     have VE16:Hid (q16.cell? ⟨w.heap.size,0,none⟩=some (.int .i64 d.next)∧w.heap.size<q16.heap.size):=⟨hg.cell VE15.out.1 hne16,Nat.lt_of_lt_of_le VE15.out.2 hg.size⟩
     have EE16:Hid (WvE X.heap.size u1.heap.size n1 d.next (.slice A4 n2 c4) n2 d.bs X w d.vs x U un uc (q16.setCell ⟨u1.heap.size,1,none⟩ (.slice F16 (n1+1) h16))):=by
      obtain⟨m1,m2⟩:=S16.out.set zu (.slice F16 (n1+1) h16);obtain⟨cc,rr,gb⟩:=S16.out.gb;refine⟨m1,⟨_,m2,fun B hB hBw hUB=> ?_⟩,⟨_,_,m2⟩⟩;have hxt:(d.vs++ [x])[n1]? =some x:=by rw [List.getElem?_append_right (by rw [E1.out];exact Nat.le_refl _),E1.out,Nat.sub_self];rfl
      have hq:Below w.heap.size w q16:=KX.out.trans (S16.out.bel.mono (by omega));have hU2:q16.ownsRow B 2 1 (.slice U x.ups.length uc) x.ups.length (x.ups.map (Value.int .i64)):=by rw [HUN.out];exact Ql hUB hq
      have hC2:q16.ownsRow B 67 3 (.slice D11 x.m e11) x.m (clX x.C x.R x.S x.m):=by rw [HPM.out];exact Zc (CO15.out.kept hg (Qkt CO15.out RV15.out (by decide))) (by omega)
      have hpB:VrPart q16 B ys (d.vs++ [x]) n1:=by
       have h9:=part_app (M:= [x]) (PV15.out.keptV RV15.out hg) E1.out.symm;intro i y hi hy;obtain⟨a1,a2,a3,a4,b0,b1,b2,k1,k2⟩:=h9 i y hi hy;exact⟨a1,a2,a3,a4,b0,b1,b2,Zc k1 hB,Zc k2 hB⟩
      refine⟨_,own_setT (Zc ho hB) gb (by decide),?_,HAP.out.snocG HYL.out (fun i hi=>farB (HLO.out i hi).1 HUB.out) (fun i hi=> ?_)⟩
      ·have h8:=VrPart.setD (o:=1) (x:= .slice F16 (n1+1) h16) (hpB.snoc HYL.out hxt hU2 hC2) gb;rw [HID.out,HUN.out,HPM.out]at h8;exact h8
      ·have h7:=farB (lo:=u1.heap.size) (p:=(Value.slice D11 pm e11).ownBlock) (q:=blkAt ys (i*3+2)) (fun k hk=>(CO15.out.lt k hk).1) (HLT.out i hi).2;exact⟨h7.2,h7.1⟩
     obtain⟨gx16,gc16⟩:=S16.out.c1;have gf16:=S16.out.nf 1;have gl16:u1.heap.size<q16.heap.size:=World.block_lt_of_cell? q16 ⟨u1.heap.size,1,none⟩ gc16;clear hg ho;refine hkB hKq (VE16.out) fun hHeld=> ?_;clear hKq Kq;refine tkB 10 ?_
     refine rqA 11 (fun Kq hKq=> ?_);go_simp;have VE17:Hid ((q16.setCell ⟨u1.heap.size,1,none⟩ (.slice F16 (n1+1) h16)).cell? ⟨w.heap.size,0,none⟩=some (.int .i64 d.next)∧w.heap.size<(q16.setCell ⟨u1.heap.size,1,none⟩ (.slice F16 (n1+1) h16)).heap.size):=⟨(World.cell?_setCell_other _ _ _ _ (by intro e;injection e with e1;omega)).trans VE16.out.1,by simpa using VE16.out.2⟩;refine hkB hKq (VE17.out) fun hHeld=> ?_;clear hKq Kq;refine wpAnyH_done (by kernel_rfl) ?_ _;clear hHeld
     go_wp2_with fail
     go_meet;exact⟨rfl,rfl,EE16.out⟩
 case rest=>
 obtain⟨rfl,rfl,hE⟩:=hcut;obtain⟨hN,⟨v1,hv1,hvs⟩,⟨Ae,ce,hls⟩⟩:=hE;rw [hls]at hv1;cases hv1
 have HN:Hid (NBx X.heap.size u1.heap.size d.next (.slice A4 n2 c4) n2 d.bs X wc):=hN;have HVS:Hid (∀B,B≤X.heap.size→B≤w.heap.size→w.ownsRow B 2 1 (.slice U un uc) un (x.ups.map (Value.int .i64))→DgV wc B (.slice Ae (n1+1) ce) (d.vs++ [x]) (n1+1)):=hvs;have b0:=hN.c0;have b2:=hN.c2;have bf:=hN.nf;have gz:u1.heap.size<wc.heap.size:=World.block_lt_of_cell? wc ⟨u1.heap.size,0,none⟩ b0;have m0:=cy hN.bel p0
 have m1:=cy hN.bel p1;have m2:=cy hN.bel p2
 have mf: ∀o,wc.frozen? ⟨w.heap.size+1,o,none⟩=false:=fun o=>by
  rw [hN.bel.frozen (p:=⟨w.heap.size+1,o,none⟩) zX1];exact pf o
 have mz:w.heap.size+1<wc.heap.size:=Nat.lt_of_lt_of_le zX1 hN.bel.size;have hgne: ¬w.heap.size+1=u1.heap.size:=by omega
 clear hN hvs
 have GW:Hid (∃c r,wc.heap[w.heap.size+1]? =some (.cells c 32 r)):=by
  obtain⟨c,r,h9⟩:=GB.out;exact⟨c,r,(HN.out.bel.block _ zX1).trans h9⟩
 have KW:Hid (Below w.heap.size w wc):=KX.out.trans (HN.out.bel.mono (by omega));go_wp2_with fail
 obtain⟨Z,HZ⟩: ∃Z,Hid (wc.setCell ⟨u1.heap.size,0,none⟩ (.int .i64 (d.next+1))=Z):=⟨_,rfl⟩;rw [HZ.out];have hcne: ∀o:Nat,(⟨w.heap.size+1,o,none⟩:Addr)≠⟨u1.heap.size,0,none⟩:=fun o e=>by injection e with e1;omega
 have z0:Z.cell? ⟨w.heap.size+1,0,none⟩=some (.int .i64 0):=by rw [←HZ.out,World.cell?_setCell_other _ _ _ _ (by intro e;injection e with e1;omega)];exact m0
 have z1:Z.cell? ⟨w.heap.size+1,1,none⟩=some (.slice none 0 0):=by rw [←HZ.out,World.cell?_setCell_other _ _ _ _ (by intro e;injection e with e1;omega)];exact m1
 have z2:Z.cell? ⟨w.heap.size+1,2,none⟩=some (.slice none 0 0):=by rw [←HZ.out,World.cell?_setCell_other _ _ _ _ (by intro e;injection e with e1;omega)];exact m2
 have zf: ∀o,Z.frozen? ⟨w.heap.size+1,o,none⟩=false:=fun o=>by rw [←HZ.out];simpa using mf o
 have HVZ:Hid (∀B,B≤X.heap.size→B≤w.heap.size→w.ownsRow B 2 1 (.slice U un uc) un (x.ups.map (Value.int .i64))→DgV Z B (.slice Ae (n1+1) ce) (d.vs++ [x]) (n1+1)):=by
  intro B h1 h2 h3;obtain⟨zs,k1,k2,k3⟩:=HVS.out B h1 h2 h3;obtain⟨ca,ra,ga⟩:=HN.out.gb;rw [←HZ.out];exact⟨zs,own_setT k1 ga (by decide),VrPart.setD k2 ga,k3⟩
 have HBZ:Hid (Z.ownsRow X.heap.size 79 2 (.slice A4 n2 c4) n2 (Jf brL d.bs)):=by
  obtain⟨ca,ra,ga⟩:=HN.out.gb;rw [←HZ.out];exact own_setT HN.out.o2 ga (by decide)
 have GZ:Hid (∃c r,Z.heap[w.heap.size+1]? =some (.cells c 32 r)):=by
  obtain⟨c,r,h9⟩:=GW.out;rw [←HZ.out];exact⟨c,r,((grown_set wc u1.heap.size 0 _).block _ mz (fun e=>hgne (Option.some.inj e))).trans h9⟩
 have KZ:Hid (Below w.heap.size w Z):=by rw [←HZ.out];exact KW.out.setCell (by show w.heap.size≤u1.heap.size;omega) _
 have zZ:X.heap.size≤Z.heap.size:=by rw [←HZ.out];simp;omega
 have el:(d.vs++ [x]).length=n1+1:=by rw [List.length_append,E1.out];rfl
 have hcall:=spec_l10Move (d:=⟨d.next+1,d.vs++ [x],d.bs⟩) (A1:=Ae) (c1:=ce) (A2:=A4) (c2:=c4) (C:=X.heap.size) s d.next Z (by show Z.ownsRow _ _ _ (.slice A4 d.bs.length c4) d.bs.length _;rw [E2.out];exact HBZ.out) zZ HL.out.nb;simp only [el,E2.out]at hcall;have HC:Hid (Calls _ _ _ _ _):=hcall;clear hcall HZ m0 m1 m2 mf b0 b2 bf hls;refine HC.out.mono ?_;rintro e u9 ⟨v',rfl,ho,hb⟩;have HO9:Hid (∀B,B≤X.heap.size→DgV Z B (.slice Ae (n1+1) ce) (d.vs++ [x]) (n1+1)→DgO u9 B v' (grownD d s x)):=ho
 have HB9:Hid (Below X.heap.size Z u9):=hb;obtain⟨A7,c7,A8,c8,rfl,_,_⟩:=(HO9.out 0 (Nat.zero_le _) (HVZ.out 0 (Nat.zero_le _) (Nat.zero_le _) HU.out)).parts;have r0:=(HB9.out.cell (p:=⟨w.heap.size+1,0,none⟩) zX1).trans z0;have r1:=(HB9.out.cell (p:=⟨w.heap.size+1,1,none⟩) zX1).trans z1;have r2:=(HB9.out.cell (p:=⟨w.heap.size+1,2,none⟩) zX1).trans z2;have rf: ∀o,u9.frozen? ⟨w.heap.size+1,o,none⟩=false:=fun o=>(HB9.out.frozen (p:=⟨w.heap.size+1,o,none⟩) zX1).trans (zf o);have rz:w.heap.size+1<u9.heap.size:=Nat.lt_of_lt_of_le zX1 (Nat.le_trans zZ HB9.out.size)
 clear ho hb z0 z1 z2 zf HC;go_wp2_with fail
 refine bodyPost_ret (v:= .tuple #[.agg #[.int .i64 (grownD d s x).next,.slice A7 (grownD d s x).vs.length c7,.slice A8 (grownD d s x).bs.length c8],.int .i64 d.next,.bool true]) ?_ rfl ⟨⟨_,by rw [HF.out];rfl,fun B hB hUB=> ?_⟩,?_⟩
 ·simp (maxDischargeDepth:=9) [results,Tryz.results28,go_sem, *]
 ·rw [if_neg (by rw [HF.out];decide)];have hD:=HO9.out B (by omega) (HVZ.out B (by omega) hB hUB);obtain⟨cb,rb,gb⟩:=GZ.out;have gb1:u9.heap[w.heap.size+1]? =some (.cells cb 32 rb):=(HB9.out.block _ zX1).trans gb;obtain⟨cc2,gb2⟩:=blk_set (o:=0) (x:= .int .i64 (grownD d s x).next) gb1;obtain⟨cc3,gb3⟩:=blk_set (o:=1) (x:= .slice A7 (grownD d s x).vs.length c7) gb2;exact((hD.setD gb1).setD gb2).setD gb3
 ·exact(((KZ.out.trans (HB9.out.mono (by omega))).setCell (by show w.heap.size≤w.heap.size+1;omega) _).setCell (by show w.heap.size≤w.heap.size+1;omega) _).setCell (by show w.heap.size≤w.heap.size+1;omega) _
theorem spec_Committed {v:Value} {d:DG} {P:Option Addr} {pm pc:Nat} (x:VR) (s:ByteArray) (w:World) (h:DgRow w v d) (hk:DgOk d) (hl:DgLil d) (hx:x=cmX d s pm x.C x.R x.S) (hP:ClRow w P pm x.C x.R x.S) (hm:pm≤1048576):
  Calls Tryz.prog 8 #[v,.string s,.slice P pm pc] w fun e w'=>CmR w.heap.size w' (cmA d s x) e∧Below w.heap.size w w':=by
 obtain⟨A1,n1,c1,A2,n2,c2,rfl⟩:=h.agg;have HD:Hid (DgRow w (.agg #[.int .i64 d.next,.slice A1 n1 c1,.slice A2 n2 c2]) d):=h;have HK:Hid (DgOk d):=hk;have HL:Hid (DgLil d):=hl;have HX1:Hid (x.id=d.next∧x.ups= [headF d.bs s]∧x.m=pm):=by rw [hx];exact⟨rfl,rfl,rfl⟩
 have HP:Hid (ClRow w P pm x.C x.R x.S):=hP;obtain⟨f,HFF⟩: ∃f:Bool,Hid (Xb d=f):=⟨_,rfl⟩;obtain⟨hdq,HH⟩: ∃hdq,Hid (headF d.bs s=hdq):=⟨_,rfl⟩;obtain⟨ok,HOK⟩: ∃ok:Bool,Hid (Zf x.C x.R x.S pm=ok):=⟨_,rfl⟩;obtain⟨fu,HFU⟩: ∃fu:Bool,Hid (fullB d=fu):=⟨_,rfl⟩;clear h hk hl hx hP;go_enter Tryz.func8,Tryz.ntmps8
 go_wp2_with fail
 obtain⟨X,HX⟩: ∃X,Hid ((w.alloc (.cells #[.int .i64 d.next,.slice A1 n1 c1,.slice A2 n2 c2] 32)).alloc (.cells #[.int .i64 0,.slice none 0 0,.slice none 0 0] 32)=X):=⟨_,rfl⟩;rw [HX.out];have x0:X.cell? ⟨w.heap.size,0,none⟩=some (.int .i64 d.next):=by rw [←HX.out];go_simp
 have x1:X.cell? ⟨w.heap.size,1,none⟩=some (.slice A1 n1 c1):=by rw [←HX.out];go_simp
 have x2:X.cell? ⟨w.heap.size,2,none⟩=some (.slice A2 n2 c2):=by rw [←HX.out];go_simp
 have p0:X.cell? ⟨w.heap.size+1,0,none⟩=some (.int .i64 0):=by rw [←HX.out];go_simp
 have p1:X.cell? ⟨w.heap.size+1,1,none⟩=some (.slice none 0 0):=by rw [←HX.out];go_simp
 have p2:X.cell? ⟨w.heap.size+1,2,none⟩=some (.slice none 0 0):=by rw [←HX.out];go_simp
 have pf: ∀o,X.frozen? ⟨w.heap.size+1,o,none⟩=false:=fun o=>by rw [←HX.out];go_simp
 have ZX:Hid (X.heap.size=w.heap.size+2):=by rw [←HX.out];show _=_;simp
 have zX0:w.heap.size<X.heap.size:=by have:=ZX.out;omega
 have zX1:w.heap.size+1<X.heap.size:=by have:=ZX.out;omega
 have KX:Hid (Below w.heap.size w X):=by rw [←HX.out];show Below _ _ _;go_grown
 have QX:Hid (Below X.heap.size X X):=Below.refl _ _;have zX2:w.heap.size+1<X.heap.size:=zX1;have P0:Hid (X.cell? ⟨w.heap.size+1,0,none⟩=some (.int .i64 0)):=p0;have P1:Hid (X.cell? ⟨w.heap.size+1,1,none⟩=some (.slice none 0 0)):=p1;have P2:Hid (X.cell? ⟨w.heap.size+1,2,none⟩=some (.slice none 0 0)):=p2;have PF:Hid (∀o,X.frozen? ⟨w.heap.size+1,o,none⟩=false):=pf;clear HX
 refine(Qic _ (HD.out.below KX.out) HK.out).mono ?_;rintro e u1 ⟨rfl,hb⟩;replace x0:=cy hb x0;replace x1:=cy hb x1;replace x2:=cy hb x2;replace p0:=cy hb p0;replace p1:=cy hb p1
 replace p2:=cy hb p2;replace pf: ∀o,u1.frozen? ⟨w.heap.size+1,o,none⟩=false:=fun o=>(hb.frozen (p:=⟨w.heap.size+1,o,none⟩) zX1).trans (pf o);replace zX0:w.heap.size<u1.heap.size:=Nat.lt_of_lt_of_le zX0 hb.size;replace zX1:w.heap.size+1<u1.heap.size:=Nat.lt_of_lt_of_le zX1 hb.size;replace KX:=hd (Qb KX.out hb);replace QX:=hd (Qb QX.out hb);clear hb
 rw [HFF.out];cases f
 ·have HV:Hid (cmA d s x=(noD,0,1)):=by show _=_;rw [cmA,if_neg (by rw [HFF.out];decide)]
  go_wp2_with fail
  refine bodyPost_ret (v:= .tuple #[.agg #[.int .i64 0,.slice none 0 0,.slice none 0 0],.int .i64 0,.int .i64 1]) ?_ rfl ⟨?_,?_⟩
  ·simp (maxDischargeDepth:=9) [results,Tryz.results8,go_sem, *]
  ·rw [HV.out];exact⟨_,rfl,noD_own _ _⟩
  ·exact((KX.out.setCell (by show w.heap.size≤w.heap.size+1;omega) _).setCell (by show w.heap.size≤w.heap.size+1;omega) _).setCell (by show w.heap.size≤w.heap.size+1;omega) _
 have HA:Hid (cmA d s x=cmD d s x):=by show _=_;rw [cmA,if_pos HFF.out]
 have HF:Hid (DgFacts d):=dag_facts HFF.out;have hnx:d.next≤1000000000:=HF.out.nx;have hn0:0≤d.next:=dagB_next HFF.out;go_wp2_with fail
 refine(spec_l10Head s _ (HD.out.below KX.out) HK.out).mono ?_;rintro e u2 ⟨rfl,hb⟩;replace x0:=cy hb x0;replace x1:=cy hb x1;replace x2:=cy hb x2;replace p0:=cy hb p0;replace p1:=cy hb p1
 replace p2:=cy hb p2;replace pf: ∀o,u2.frozen? ⟨w.heap.size+1,o,none⟩=false:=fun o=>(hb.frozen (p:=⟨w.heap.size+1,o,none⟩) zX1).trans (pf o);replace zX0:w.heap.size<u2.heap.size:=Nat.lt_of_lt_of_le zX0 hb.size;replace zX1:w.heap.size+1<u2.heap.size:=Nat.lt_of_lt_of_le zX1 hb.size;replace KX:=hd (Qb KX.out hb);replace QX:=hd (Qb QX.out hb);clear hb
 rw [HH.out];by_cases h0:hdq=0
 ·have h0':(hdq==0)=true:=by simpa using h0
  have HV:Hid (cmA d s x=(d,0,2)):=by show _=_;rw [HA.out,cmD,if_pos (HH.out.trans h0)]
  go_wp2_with fail
  refine(spec_l10Copy _ (HD.out.below KX.out) HL.out).mono ?_;rintro e u3 ⟨v',rfl,ho,hb⟩;obtain⟨A5,c5,A6,c6,rfl,_,_⟩:=ho.parts;have HO:Hid (DgO u3 u2.heap.size (.agg #[.int .i64 d.next,.slice A5 d.vs.length c5,.slice A6 d.bs.length c6]) d):=ho;have zz:w.heap.size+2≤u2.heap.size:=by omega
  replace x0:=cy hb x0;replace x1:=cy hb x1;replace x2:=cy hb x2;replace p0:=cy hb p0;replace p1:=cy hb p1;replace p2:=cy hb p2;replace pf: ∀o,u3.frozen? ⟨w.heap.size+1,o,none⟩=false:=fun o=>(hb.frozen (p:=⟨w.heap.size+1,o,none⟩) zX1).trans (pf o)
  replace zX0:w.heap.size<u3.heap.size:=Nat.lt_of_lt_of_le zX0 hb.size;replace zX1:w.heap.size+1<u3.heap.size:=Nat.lt_of_lt_of_le zX1 hb.size;replace KX:=hd (Qb KX.out hb);replace QX:=hd (Qb QX.out hb);clear hb ho;go_wp2_with fail
  refine bodyPost_ret (v:= .tuple #[.agg #[.int .i64 d.next,.slice A5 d.vs.length c5,.slice A6 d.bs.length c6],.int .i64 0,.int .i64 2]) ?_ rfl ⟨?_,?_⟩
  ·simp (maxDischargeDepth:=9) [results,Tryz.results8,go_sem, *]
  ·rw [HV.out];exact⟨_,rfl,(((HO.out.setB (by omega)).setB (by omega)).setB (by omega)).mono (by omega)⟩
  ·exact((KX.out.setCell (by show w.heap.size≤w.heap.size+1;omega) _).setCell (by show w.heap.size≤w.heap.size+1;omega) _).setCell (by show w.heap.size≤w.heap.size+1;omega) _
 have h0':(hdq==0)=false:=by simpa using h0
 go_wp2_with fail
 refine(Vg _ (HP.out.below KX.out)).mono ?_;rintro e u3 ⟨rfl,hb⟩;replace x0:=cy hb x0;replace x1:=cy hb x1;replace x2:=cy hb x2;replace p0:=cy hb p0;replace p1:=cy hb p1
 replace p2:=cy hb p2;replace pf: ∀o,u3.frozen? ⟨w.heap.size+1,o,none⟩=false:=fun o=>(hb.frozen (p:=⟨w.heap.size+1,o,none⟩) zX1).trans (pf o);replace zX0:w.heap.size<u3.heap.size:=Nat.lt_of_lt_of_le zX0 hb.size;replace zX1:w.heap.size+1<u3.heap.size:=Nat.lt_of_lt_of_le zX1 hb.size;replace KX:=hd (Qb KX.out hb);replace QX:=hd (Qb QX.out hb);clear hb
 rw [HOK.out];cases ok
 ·skip
  have HV:Hid (cmA d s x=(d,0,4)):=by show _=_;rw [HA.out,cmD,if_neg (by rw [HH.out];exact h0),if_pos (by rw [HX1.out.2.2];exact HOK.out)]
  go_wp2_with fail
  refine(spec_l10Copy _ (HD.out.below KX.out) HL.out).mono ?_;rintro e u4 ⟨v',rfl,ho,hb⟩;obtain⟨A5,c5,A6,c6,rfl,_,_⟩:=ho.parts;have HO:Hid (DgO u4 u3.heap.size (.agg #[.int .i64 d.next,.slice A5 d.vs.length c5,.slice A6 d.bs.length c6]) d):=ho;have zz:w.heap.size+2≤u3.heap.size:=by omega
  replace x0:=cy hb x0;replace x1:=cy hb x1;replace x2:=cy hb x2;replace p0:=cy hb p0;replace p1:=cy hb p1;replace p2:=cy hb p2;replace pf: ∀o,u4.frozen? ⟨w.heap.size+1,o,none⟩=false:=fun o=>(hb.frozen (p:=⟨w.heap.size+1,o,none⟩) zX1).trans (pf o)
  replace zX0:w.heap.size<u4.heap.size:=Nat.lt_of_lt_of_le zX0 hb.size;replace zX1:w.heap.size+1<u4.heap.size:=Nat.lt_of_lt_of_le zX1 hb.size;replace KX:=hd (Qb KX.out hb);replace QX:=hd (Qb QX.out hb);clear hb ho;go_wp2_with fail
  refine bodyPost_ret (v:= .tuple #[.agg #[.int .i64 d.next,.slice A5 d.vs.length c5,.slice A6 d.bs.length c6],.int .i64 0,.int .i64 4]) ?_ rfl ⟨?_,?_⟩
  ·simp (maxDischargeDepth:=9) [results,Tryz.results8,go_sem, *]
  ·rw [HV.out];exact⟨_,rfl,(((HO.out.setB (by omega)).setB (by omega)).setB (by omega)).mono (by omega)⟩
  ·exact((KX.out.setCell (by show w.heap.size≤w.heap.size+1;omega) _).setCell (by show w.heap.size≤w.heap.size+1;omega) _).setCell (by show w.heap.size≤w.heap.size+1;omega) _
 have hux:x.ups.map (Value.int .i64)= [.int .i64 hdq]:=by rw [HX1.out.2.1,HH.out];rfl
 go_wp2_with fail
 obtain⟨q1,HQ1⟩: ∃q,Hid (u3.alloc (.cells #[.int .i64 hdq] 2)=q):=⟨_,rfl⟩;rw [HQ1.out];have HU:Hid (q1.ownsRow u3.heap.size 2 1 (.slice (some ⟨u3.heap.size,0,none⟩) 1 1) 1 (x.ups.map (Value.int .i64))):=by rw [hux,←HQ1.out];exact World.ownsRow_lit u3 _ 1 (Nat.le_refl _) (by unfold maxLen;omega) rfl
 have hb:Below u3.heap.size u3 q1:=by rw [←HQ1.out];exact(Below.refl u3.heap.size u3).alloc (Nat.le_refl _) _
 have hz1:u3.heap.size≤q1.heap.size:=hb.size;have zz:w.heap.size+1<u3.heap.size:=zX1;replace x0:=cy hb x0;replace x1:=cy hb x1;replace x2:=cy hb x2;replace p0:=cy hb p0;replace p1:=cy hb p1
 replace p2:=cy hb p2;replace pf: ∀o,q1.frozen? ⟨w.heap.size+1,o,none⟩=false:=fun o=>(hb.frozen (p:=⟨w.heap.size+1,o,none⟩) zX1).trans (pf o);replace zX0:w.heap.size<q1.heap.size:=Nat.lt_of_lt_of_le zX0 hb.size;replace zX1:w.heap.size+1<q1.heap.size:=Nat.lt_of_lt_of_le zX1 hb.size;replace KX:=hd (Qb KX.out hb);replace QX:=hd (Qb QX.out hb);clear hb HQ1
 refine(spec_l10Grow x s _ (HD.out.below KX.out) HL.out HX1.out.1 (by rw [HX1.out.2.1];rfl) HX1.out.2.2 (Zc HU.out (Nat.zero_le _)) (HP.out.below KX.out) hm hnx hn0 HF.out.nv).mono ?_;rintro e q2 ⟨⟨v',rfl,ho⟩,hb⟩;have HO:=ho _ hz1 HU.out;rw [HFU.out]at HO ⊢;have hg1:q1.heap.size≤q2.heap.size:=hb.size;replace x0:=cy hb x0;replace x1:=cy hb x1
 replace x2:=cy hb x2;replace p0:=cy hb p0;replace p1:=cy hb p1;replace p2:=cy hb p2;replace pf: ∀o,q2.frozen? ⟨w.heap.size+1,o,none⟩=false:=fun o=>(hb.frozen (p:=⟨w.heap.size+1,o,none⟩) zX1).trans (pf o);replace zX0:w.heap.size<q2.heap.size:=Nat.lt_of_lt_of_le zX0 hb.size;replace zX1:w.heap.size+1<q2.heap.size:=Nat.lt_of_lt_of_le zX1 hb.size
 replace KX:=hd (Qb KX.out hb);replace QX:=hd (Qb QX.out hb);clear hb ho;cases fu
 case true=>
  have HV:Hid (cmA d s x=(d,0,5)):=by show _=_;rw [HA.out,cmD,if_neg (by rw [HH.out];exact h0),if_neg (by rw [HX1.out.2.2,HOK.out];decide),if_pos HFU.out]
  have HO2:Hid (DgO q2 u3.heap.size v' d):=HO;obtain⟨A5,c5,A6,c6,rfl,_,_⟩:=HO2.out.parts;clear HO;go_wp2_with fail
  refine bodyPost_ret (v:= .tuple #[.agg #[.int .i64 d.next,.slice A5 d.vs.length c5,.slice A6 d.bs.length c6],.int .i64 0,.int .i64 5]) ?_ rfl ⟨?_,?_⟩
  ·simp (maxDischargeDepth:=9) [results,Tryz.results8,go_sem, *]
  ·rw [HV.out];exact⟨_,rfl,(((((HO2.out.setB zz).setB zz).setB zz).below ((Below.refl _ _).alloc (Nat.le_refl _) _)).mono (by omega))⟩
  ·have K9:=((KX.out.setCell (p:=⟨w.heap.size+1,0,none⟩) (by show w.heap.size≤w.heap.size+1;omega) (.int .i64 d.next)).setCell (p:=⟨w.heap.size+1,1,none⟩) (by show w.heap.size≤w.heap.size+1;omega) (.slice A5 d.vs.length c5)).setCell (p:=⟨w.heap.size+1,2,none⟩) (by show w.heap.size≤w.heap.size+1;omega) (.slice A6 d.bs.length c6);exact K9.alloc K9.size _
 have HV:Hid (cmA d s x=(grownD d s x,d.next,0)):=by show _=_;rw [HA.out,cmD,if_neg (by rw [HH.out];exact h0),if_neg (by rw [HX1.out.2.2,HOK.out];decide),if_neg (by rw [HFU.out];decide)]
 have HO2:Hid (DgO q2 u3.heap.size v' (grownD d s x)):=HO;obtain⟨A5,c5,A6,c6,rfl,_,_⟩:=HO2.out.parts;clear HO;go_wp2_with fail
 refine bodyPost_ret (v:= .tuple #[.agg #[.int .i64 (grownD d s x).next,.slice A5 (grownD d s x).vs.length c5,.slice A6 (grownD d s x).bs.length c6],.int .i64 d.next,.int .i64 0]) ?_ rfl ⟨?_,?_⟩
 ·simp (maxDischargeDepth:=9) [results,Tryz.results8,go_sem, *]
 ·rw [HV.out];exact⟨_,rfl,(((((HO2.out.setB zz).setB zz).setB zz).below ((Below.refl _ _).alloc (Nat.le_refl _) _)).mono (by omega))⟩
 ·have K9:=((KX.out.setCell (p:=⟨w.heap.size+1,0,none⟩) (by show w.heap.size≤w.heap.size+1;omega) (.int .i64 (grownD d s x).next)).setCell (p:=⟨w.heap.size+1,1,none⟩) (by show w.heap.size≤w.heap.size+1;omega) (.slice A5 (grownD d s x).vs.length c5)).setCell (p:=⟨w.heap.size+1,2,none⟩) (by show w.heap.size≤w.heap.size+1;omega) (.slice A6 (grownD d s x).bs.length c6);exact K9.alloc K9.size _
theorem noD_ok:DgOk noD:=⟨fun _ hx=>(List.not_mem_nil hx).elim,fun _ hx=>(List.not_mem_nil hx).elim,fun _ hx=>(List.not_mem_nil hx).elim⟩
theorem noD_lil:DgLil noD:=⟨fun _ hx=>(List.not_mem_nil hx).elim,fun _ hx=>(List.not_mem_nil hx).elim,Nat.zero_le _,Nat.zero_le _⟩
theorem bsH_mem {name:ByteArray} {head:Int} {bs:List BR} {y:BR} (h:y∈bsH name head bs): ∃b∈bs,y.n=b.n∧(y.h=b.h∨y.h=head):=by
 obtain⟨b,hb,rfl⟩:=List.mem_map.1 h;refine⟨b,hb,?_⟩;by_cases e:b.n=name
 ·rw [if_pos e];exact⟨rfl,Or.inr rfl⟩
 ·rw [if_neg e];exact⟨rfl,Or.inl rfl⟩
theorem cmX_ok {d:DG} {s:ByteArray} {m:Nat} {C R:Nat→Int} {S:Nat→ByteArray} (hdq:DgOk d) (hS: ∀i,i<m→(S i).size≤maxLen):Qbm (cmX d s m C R S):=
 ⟨hS,fun u hu=>by
  have e:u=headF d.bs s:=List.mem_singleton.1 hu;rw [e]
  exact headF_wf hdq.h s⟩
theorem grown_ok {d:DG} {s:ByteArray} {x:VR} (hdq:DgOk d) (hx:Qbm x) (hn:(Lit.int .i64 d.next).wf=true):DgOk (grownD d s x):=by
 refine⟨fun y hy=> ?_,fun y hy=> ?_,fun y hy=> ?_⟩
 ·rcases List.mem_append.1 hy with h | h
  ·exact hdq.v y h
  ·rw [List.mem_singleton.1 h];exact hx
 ·obtain⟨b,hb,e,_⟩:=bsH_mem hy;have:=hdq.b b hb;unfold Uv at this ⊢;rw [e];exact this
 ·obtain⟨b,hb,_,e⟩:=bsH_mem hy;rcases e with e | e
  ·rw [e];exact hdq.h b hb
  ·rw [e];exact hn
theorem grown_lil {d:DG} {s:ByteArray} {x:VR} (hdq:DgLil d) (hx:JS x) (hn:d.vs.length≤40):DgLil (grownD d s x):=by
 refine⟨fun y hy=> ?_,fun y hy=> ?_,?_,?_⟩
 ·rcases List.mem_append.1 hy with h | h
  ·exact hdq.v y h
  ·rw [List.mem_singleton.1 h];exact hx
 ·obtain⟨b,hb,e,_⟩:=bsH_mem hy;have:=hdq.b b hb;unfold VA at this ⊢;rw [e];exact this
 ·show(d.vs++ [x]).length≤1048576;rw [List.length_append];simp;omega
 ·show(bsH s d.next d.bs).length≤1048576;rw [bsH_len];exact hdq.nb
theorem laws_szDagL {v:Value} {d:DG} (w:World) (h:DgRow w v d) (hx:DgOk d):
  Calls Tryz.prog 6 #[v,.int .i64 1048576] w fun e w'=> ∃z:Int,e= .returned (.int .i64 z)∧z≤1048576∧(0≤z→DgLil d)∧Below w.heap.size w w':=by
 obtain⟨A1,n1,c1,A2,n2,c2,rfl⟩:=h.agg;obtain⟨r1,e1,r2,e2⟩:=h.open;have R1:Hid (VrRow w A1 d.vs):=r1;have R2:Hid (ZT w A2 d.bs):=r2;have E1:Hid (d.vs.length=n1):=e1;have E2:Hid (d.bs.length=n2):=e2;have HX:Hid (DgOk d):=hx
 clear h r1 r2 e1 e2 hx;go_enter Tryz.func6,Tryz.ntmps6;go_wp2_with fail
 refine(Kt _ (R1.out.below (by go_grown)) E1.out).mono ?_;rintro e u1 ⟨z,rfl,hz1,hz,hb⟩;obtain⟨hc,hf,hC,hF,hzz,hk,l0⟩:=bk1 (w:=w) (by go_grown) (by go_size) hb;clear hb;by_cases hneg:z<0
 ·go_wp2_with fail
  go_ret;exact⟨_,rfl,by omega,fun h=>by omega,hk⟩
 have HV:Hid (n1≤1048576∧ ∀x∈d.vs,JS x):=hz (by omega);clear hz;go_wp2_with fail
 refine(Hg _ _ (R2.out.below hk) E2.out HX.out.b (by omega) (by omega)).mono ?_;rintro e u2 ⟨z2,rfl,hz2,hz3,hb⟩;have K2:=hd (Qb hk hb);clear hb;by_cases hneg2:z2<0
 ·go_wp2_with fail
  go_ret;exact⟨_,rfl,by omega,fun h=>by omega,K2.out⟩
 have HB:Hid (n2≤1048576∧ ∀x∈d.bs,VA x):=hz3 (by omega);clear hz3;go_wp2_with fail
 go_ret;exact⟨_,rfl,by omega,fun _=>⟨HV.out.2,HB.out.2,by rw [E1.out];exact HV.out.1,by rw [E2.out];exact HB.out.1⟩,K2.out⟩
theorem wf_of {z:Int} (h0:0≤z) (h1:z≤1000000000):(Lit.int .i64 z).wf=true:=by
 simp [Lit.wf,IntKind.min,IntKind.max,IntKind.signed,IntKind.bits];omega
theorem cmA_ok {d:DG} {s:ByteArray} {m:Nat} {C R:Nat→Int} {S:Nat→ByteArray} (hk:DgOk d) (hl:DgLil d) (hS: ∀i,i<m→(S i).size≤maxLen) (hm:m≤1048576):
  DgOk (cmA d s (cmX d s m C R S)).1∧DgLil (cmA d s (cmX d s m C R S)).1:=by
 unfold cmA;by_cases hd:Xb d=true
 ·rw [if_pos hd];have hf:=dag_facts hd;have h0:=dagB_next hd;unfold cmD;split
  ·exact⟨hk,hl⟩
  split
  ·exact⟨hk,hl⟩
  split
  ·exact⟨hk,hl⟩
  ·exact⟨grown_ok hk (cmX_ok hk hS) (wf_of h0 hf.nx),grown_lil hl ⟨by show 1≤1048576;omega,hm⟩ hf.nv⟩
 ·rw [if_neg hd];exact⟨noD_ok,noD_lil⟩
theorem CmR.open {B:Nat} {w':World} {D:DG} {i1 i2:Int} {e:Ending} (h:CmR B w' (D,i1,i2) e): ∃A1 n1 c1 A2 n2 c2,e= .returned (.tuple #[.agg #[.int .i64 D.next,.slice A1 n1 c1,.slice A2 n2 c2],.int .i64 i1,.int .i64 i2])∧DgO w' B (.agg #[.int .i64 D.next,.slice A1 n1 c1,.slice A2 n2 c2]) D:=by
 obtain⟨v',rfl,ho⟩:=h;obtain⟨A1,c1,A2,c2,rfl,_,_⟩:=ho.parts;exact⟨_,_,_,_,_,_,rfl,ho⟩
def Bx (W:World) (b:Nat) (x y z:Value):Prop:=W.cell? ⟨b,0,none⟩=some x∧W.cell? ⟨b,1,none⟩=some y∧W.cell? ⟨b,2,none⟩=some z∧b<W.heap.size
theorem Bx.new {w:World} {t:TypeId} {x y z:Value}:Bx (w.alloc (.cells #[x,y,z] t)) w.heap.size x y z:=by
 refine⟨?_,?_,?_,?_⟩<;>simp [go_sem]
theorem Bx.below {W W':World} {b:Nat} {x y z:Value} (h:Bx W b x y z) (hb:Below W.heap.size W W'):Bx W' b x y z:=⟨cy hb h.1,cy hb h.2.1,cy hb h.2.2.1,Nat.lt_of_lt_of_le h.2.2.2 hb.size⟩
theorem Bx.frx {W W':World} {b lo hi:Nat} {x y z:Value} (h:Bx W b x y z) (hf:FrX lo hi W W') (hk:b<lo∨hi≤b):Bx W' b x y z:=⟨hf.cell hk h.1,hf.cell hk h.2.1,hf.cell hk h.2.2.1,Nat.lt_of_lt_of_le h.2.2.2 hf.size⟩
theorem law_FnExactCommitted (v:Value) (s:ByteArray) (P:Option Addr) (pm pc:Nat) (C R:Nat→Int) (S:Nat→ByteArray) (d:DG) (w:World) (hs:s.size≤maxLen) (hP:ClRow w P pm C R S) (h:DgRow w v d) (hk:DgOk d) (hg:GI w):Calls Tryz.prog 3 #[v,.string s,.slice P pm pc] w fun e w'=>
  e= .returned (.bool true)∧Below w.heap.size w w':=by
 obtain⟨A,n,c,B,m,q,rfl⟩:=h.agg;have HR:Hid (DgRow w (.agg #[.int .i64 d.next,.slice A n c,.slice B m q]) d):=h;have HK:Hid (DgOk d):=hk;have HG:Hid (GI w):=hg;have HP:Hid (ClRow w P pm C R S):=hP;have HSS:Hid (∀i,i<pm→(S i).size≤maxLen):=fun i hi=>by obtain⟨_,_,_,_,_,_,_,h9⟩:=hP.2 i hi;exact h9
 obtain⟨⟨D,i1,i2⟩,HA⟩: ∃r,Hid (cmA d s (cmX d s pm C R S)=r):=⟨_,rfl⟩;have eb1:(i1 !=i1)=false:=by simp
 have eb2:(i2 !=i2)=false:=by simp
 clear hP;clear h hk hg;unfold maxLen at hs;by_cases hbig:(1048576:Int)<(s.size:Int)
 ·go_enter Tryz.func3,Tryz.ntmps3;go_wp2_with fail
  go_ret;exact⟨rfl,by go_grown⟩
 go_enter Tryz.func3,Tryz.ntmps3;go_wp2_with fail
 obtain⟨X,HY⟩: ∃X,Hid (w.alloc (.cells #[.int .i64 d.next,.slice A n c,.slice B m q] 25)=X):=⟨_,rfl⟩;rw [HY.out];have hb:Below w.heap.size w X:=by rw [←HY.out];go_grown
 have C3:Hid (Bx X w.heap.size (.int .i64 d.next) (.slice A n c) (.slice B m q)):=by rw [←HY.out];exact Bx.new
 have KX:Hid (Below w.heap.size w X):=hb;clear hb HY;refine(laws_szDagL _ (HR.out.below KX.out) HK.out).mono ?_;rintro e u0 ⟨z,rfl,hz1,hz,hb⟩;replace C3:=hd (C3.out.below hb);replace KX:=hd (Qb KX.out hb);clear hb
 by_cases hneg:z<0
 ·go_wp2_with fail
  go_ret;exact⟨rfl,KX.out⟩
 have HL:Hid (DgLil d):=hz (by omega);clear hz;go_wp2_with fail
 refine(Uj _ _ (HP.out.below KX.out) (by omega) hz1).mono ?_;rintro e u1 ⟨z2,rfl,hz3,hz2,hb⟩;replace C3:=hd (C3.out.below hb);replace KX:=hd (Qb KX.out hb);clear hb;by_cases hneg2:z2<0
 ·go_wp2_with fail
  go_ret;exact⟨rfl,KX.out⟩
 have HPM:Hid (pm≤1048576):=hz2 (by omega);clear hz2 hz3 hz1;have h9:=cmA_ok (s:=s) (C:=C) (R:=R) HK.out HL.out HSS.out HPM.out;rw [HA.out]at h9;have HKD:Hid (DgOk D):=h9.1;have HLD:Hid (DgLil D):=h9.2;clear h9
 obtain⟨c3_0,c3_1,c3_2,c3_z⟩:=C3.out;go_wp2_with fail
 clear c3_0 c3_1 c3_2 c3_z;refine(Qij _ (HR.out.below KX.out) HL.out).mono ?_;rintro e u2 ⟨v2,rfl,ho,hb⟩;have hr:=ho.row HK.out;obtain⟨a1,a2,a3,a4,a5,a6,rfl⟩:=hr.agg;have R1:Hid (DgRow u2 (.agg #[.int .i64 d.next,.slice a1 a2 a3,.slice a4 a5 a6]) d):=hr;replace C3:=hd (C3.out.below hb)
 replace KX:=hd (Qb KX.out hb);clear hb hr ho;go_wp2_with fail
 refine(Mx _ (HP.out.below KX.out) HPM.out).mono ?_;rintro e u3 ⟨v2,rfl,ho,hb⟩;obtain⟨b1,b2,rfl,_,_⟩:=Qo ho;have RB:Hid (ClRow u3 b1 pm C R S):=Qba ho HSS.out;replace C3:=hd (C3.out.below hb);replace KX:=hd (Qb KX.out hb);replace R1:=hd (R1.out.below hb)
 clear hb ho;go_wp2_with fail
 refine(spec_Committed (cmX d s pm C R S) s _ R1.out HK.out HL.out rfl RB.out HPM.out).mono ?_;rintro e u4 ⟨hs,hb⟩;rw [HA.out]at hs;obtain⟨W1,W2,W3,W4,W5,W6,rfl,ho⟩:=hs.open;have OW:Hid (DgO u4 u3.heap.size (.agg #[.int .i64 D.next,.slice W1 W2 W3,.slice W4 W5 W6]) D):=ho;replace C3:=hd (C3.out.below hb);replace KX:=hd (Qb KX.out hb)
 replace R1:=hd (R1.out.below hb);replace RB:=hd (RB.out.below hb);clear hs ho;clear hb R1 RB;have KZ:=hd (Nat.le_of_lt C3.out.2.2.2);obtain⟨c3_0,c3_1,c3_2,c3_z⟩:=C3.out;go_wp2_with fail
 clear c3_0 c3_1 c3_2 c3_z;obtain⟨Y1,HY⟩: ∃X,Hid (u4.alloc (.cells #[.int .i64 D.next,.slice W1 W2 W3,.slice W4 W5 W6] 32)=X):=⟨_,rfl⟩;rw [HY.out];have hb:Below u4.heap.size u4 Y1:=by rw [←HY.out];go_grown
 have C8:Hid (Bx Y1 u4.heap.size (.int .i64 D.next) (.slice W1 W2 W3) (.slice W4 W5 W6)):=by rw [←HY.out];exact Bx.new
 replace C3:=hd (C3.out.below hb);replace KX:=hd (Qb KX.out hb);have QW:Hid (Below u4.heap.size u4 Y1):=hb;have z1:w.heap.size≤u4.heap.size∧u4.heap.size<Y1.heap.size:=⟨KZ.out,C8.out.2.2.2⟩;have Z1:=hd z1;clear hb HY z1;refine(Qij _ (HR.out.below KX.out) HL.out).mono ?_
 rintro e u5 ⟨v2,rfl,ho,hb⟩;have hr:=ho.row HK.out;obtain⟨x1,x2,x3,x4,x5,x6,rfl⟩:=hr.agg;have R2:Hid (DgRow u5 (.agg #[.int .i64 d.next,.slice x1 x2 x3,.slice x4 x5 x6]) d):=hr;have OX:Hid (DgOwn u5 Y1.heap.size (.agg #[.int .i64 d.next,.slice x1 x2 x3,.slice x4 x5 x6]) d):=ho;have Z2:=hd hb.size;replace C3:=hd (C3.out.below hb)
 replace KX:=hd (Qb KX.out hb);replace C8:=hd (C8.out.below hb);replace QW:=hd (Qb QW.out hb);clear hb hr ho;go_wp2_with fail
 obtain⟨Y2,HY⟩: ∃X,Hid (u5.alloc (.cells #[.int .i64 d.next,.slice x1 x2 x3,.slice x4 x5 x6] 32)=X):=⟨_,rfl⟩;rw [HY.out];have hb:Below u5.heap.size u5 Y2:=by rw [←HY.out];go_grown
 have C11:Hid (Bx Y2 u5.heap.size (.int .i64 d.next) (.slice x1 x2 x3) (.slice x4 x5 x6)):=by rw [←HY.out];exact Bx.new
 replace C3:=hd (C3.out.below hb);replace KX:=hd (Qb KX.out hb);replace C8:=hd (C8.out.below hb);replace QW:=hd (Qb QW.out hb);replace R2:=hd (R2.out.below hb);have QX:Hid (Below u5.heap.size u5 Y2):=hb;have Z3:=hd C11.out.2.2.2
 clear hb HY;refine(Mx _ (HP.out.below KX.out) HPM.out).mono ?_;rintro e u6 ⟨v2,rfl,ho,hb⟩;obtain⟨y1,y2,rfl,_,_⟩:=Qo ho;have RC:Hid (ClRow u6 y1 pm C R S):=Qba ho HSS.out;have OC:Hid (u6.ownsRow Y2.heap.size 67 3 (.slice y1 pm y2) pm (clX C R S pm)):=ho;have OCB:Hid (∀k,(Value.slice y1 pm y2).ownBlock=some k→k<u6.heap.size):=fun k hk=>(ho.lt k hk).2
 have Z4:=hd hb.size;replace C3:=hd (C3.out.below hb);replace KX:=hd (Qb KX.out hb);replace C8:=hd (C8.out.below hb);replace QW:=hd (Qb QW.out hb);replace R2:=hd (R2.out.below hb);replace C11:=hd (C11.out.below hb)
 replace QX:=hd (Qb QX.out hb);clear hb ho;obtain⟨c11_0,c11_1,c11_2,c11_z⟩:=C11.out;go_wp2_with fail
 clear c11_0 c11_1 c11_2 c11_z;refine(impl_Committed (cmX d s pm C R S) s _ R2.out HK.out HL.out rfl RC.out HPM.out (HG.out.below KX.out)).mono ?_;rintro e u7 ⟨hs,hb⟩;rw [HA.out]at hs;obtain⟨G1,G2,G3,G4,G5,G6,rfl,ho⟩:=hs.open;have OG:Hid (DgOH u7 u6.heap.size u7.heap.size (.agg #[.int .i64 D.next,.slice G1 G2 G3,.slice G4 G5 G6]) D):=ho.toH;have ZZ:Hid (w.heap.size≤u4.heap.size∧u4.heap.size<Y1.heap.size∧Y1.heap.size≤u5.heap.size∧u5.heap.size<Y2.heap.size∧Y2.heap.size≤u6.heap.size∧u6.heap.size≤u7.heap.size):=⟨Z1.out.1,Z1.out.2,Z2.out,Z3.out,Z4.out,hb.size⟩
 replace C3:=hd (C3.out.below hb);replace KX:=hd (Qb KX.out hb);replace C8:=hd (C8.out.below hb);replace QW:=hd (Qb QW.out hb);replace R2:=hd (R2.out.below hb);replace C11:=hd (C11.out.below hb);replace QX:=hd (Qb QX.out hb)
 replace RC:=hd (RC.out.below hb);replace OC:=hd (Ql OC.out hb);clear hb hs ho Z1 Z2 Z3 Z4;clear RC;obtain⟨c8_0,c8_1,c8_2,c8_z⟩:=C8.out;go_wp2_with fail
 clear c8_0 c8_1 c8_2 c8_z;obtain⟨Y3,HY⟩: ∃X,Hid (u7.alloc (.cells #[.int .i64 D.next,.slice G1 G2 G3,.slice G4 G5 G6] 32)=X):=⟨_,rfl⟩;rw [HY.out];have hb:Below u7.heap.size u7 Y3:=by rw [←HY.out];go_grown
 have C13:Hid (Bx Y3 u7.heap.size (.int .i64 D.next) (.slice G1 G2 G3) (.slice G4 G5 G6)):=by rw [←HY.out];exact Bx.new
 replace C3:=hd (C3.out.below hb);replace KX:=hd (Qb KX.out hb);replace C8:=hd (C8.out.below hb);replace QW:=hd (Qb QW.out hb);replace R2:=hd (R2.out.below hb);replace C11:=hd (C11.out.below hb);replace QX:=hd (Qb QX.out hb)
 replace OC:=hd (Ql OC.out hb);replace OG:=hd (OG.out.below hb);clear hb HY;refine(Qil _ (OG.out.toO.row HKD.out) ((OW.out.below QW.out).row HKD.out)).mono ?_;rintro e u8 ⟨rfl,hb⟩;replace C3:=hd (C3.out.below hb);replace KX:=hd (Qb KX.out hb)
 replace C8:=hd (C8.out.below hb);replace QW:=hd (Qb QW.out hb);replace R2:=hd (R2.out.below hb);replace C11:=hd (C11.out.below hb);replace QX:=hd (Qb QX.out hb);replace OC:=hd (Ql OC.out hb);replace OG:=hd (OG.out.below hb)
 replace C13:=hd (C13.out.below hb);clear hb;obtain⟨c3_0,c3_1,c3_2,c3_z⟩:=C3.out;obtain⟨c11_0,c11_1,c11_2,c11_z⟩:=C11.out;go_upto_region 16 with fail
 go_cut [75] (fun q wx=>q= .bool false∧Below u8.heap.size u8 wx)
 case first=>
  go_region_held3 (fun w'=>(∀bq oq,bq<u8.heap.size→w'.cell? ⟨bq,oq,none⟩=u8.cell? ⟨bq,oq,none⟩)∧u8.heap.size≤w'.heap.size∧Below u8.heap.size u8 w')
   (exact Qj (Nat.le_refl _) (by go_grown))
   (first
   | (go_at_call 9;refine(Qij _ (HR.out.below (Qb KX.out (by go_grown))) HL.out).mono ?_;rintro e y1 ⟨v6,rfl,ho,hb⟩;have R3:Hid (DgRow y1 v6 d):=ho.row HK.out;obtain⟨hk1,hz1⟩:=Qe (B:=u8.heap.size) (X:=u8) (by go_grown) (by go_size) hb;clear hb ho)
   | (go_at_call 12;refine(Qil _ (R2.out.below hk1) R3.out).mono ?_;rintro e y2 ⟨rfl,hb⟩;obtain⟨hk2,hz2⟩:=Qe (B:=u8.heap.size) (X:=u8) hk1 hz1 hb;clear hb))
  all_goals
   go_wp2_with fail
   go_meet;exact⟨rfl,by go_grown⟩
 case rest=>
 obtain⟨rfl,hb⟩:=hcut;clear c3_0 c3_1 c3_2 c3_z;clear c11_0 c11_1 c11_2 c11_z;replace C3:=hd (C3.out.below hb);replace KX:=hd (Qb KX.out hb);replace C8:=hd (C8.out.below hb);replace QW:=hd (Qb QW.out hb)
 replace C11:=hd (C11.out.below hb);replace QX:=hd (Qb QX.out hb);replace OC:=hd (Ql OC.out hb);replace OG:=hd (OG.out.below hb);replace C13:=hd (C13.out.below hb);clear hb R2;go_wp2_with fail
 refine(Mx _ (HP.out.below KX.out) HPM.out).mono ?_;rintro e u9 ⟨v2,rfl,ho,hb⟩;obtain⟨t1,t2,rfl,_,_⟩:=Qo ho;have RT:Hid (ClRow u9 t1 pm C R S):=Qba ho HSS.out;replace C3:=hd (C3.out.below hb);replace KX:=hd (Qb KX.out hb);replace C8:=hd (C8.out.below hb)
 replace QW:=hd (Qb QW.out hb);replace C11:=hd (C11.out.below hb);replace QX:=hd (Qb QX.out hb);replace OC:=hd (Ql OC.out hb);replace OG:=hd (OG.out.below hb);replace C13:=hd (C13.out.below hb);clear hb ho
 go_wp2_with fail
 refine(My _ (Qba OC.out HSS.out) RT.out).mono ?_;rintro e u10 ⟨rfl,hb⟩;replace C3:=hd (C3.out.below hb);replace KX:=hd (Qb KX.out hb);replace C8:=hd (C8.out.below hb);replace QW:=hd (Qb QW.out hb);replace C11:=hd (C11.out.below hb)
 replace QX:=hd (Qb QX.out hb);replace OC:=hd (Ql OC.out hb);replace OG:=hd (OG.out.below hb);replace C13:=hd (C13.out.below hb);clear hb;clear RT;obtain⟨c11_0,c11_1,c11_2,c11_z⟩:=C11.out
 go_wp2_with fail
 clear c11_0 c11_1 c11_2 c11_z;refine(laws_markDagK _ OX.out QX.out HL.out).mono ?_;rintro e w11 ⟨k7,rfl,hk7,hk7b,hf⟩;have z3:=C3.out.2.2.2;have z8:=C8.out.2.2.2;replace KX:=hd (KX.out.trans (hf.toBelow (B:=w.heap.size) (by have:=ZZ.out;omega) (by omega)));replace QW:=hd (QW.out.trans (hf.toBelow (B:=u4.heap.size) (by have:=ZZ.out;omega) (by omega)))
 clear z3 z8;replace C3:=hd (C3.out.frx hf (by have:=ZZ.out;omega));replace C8:=hd (C8.out.frx hf (by have:=ZZ.out;omega));replace C13:=hd (C13.out.frx hf (by have:=ZZ.out;omega));replace OG:=hd (OG.out.frx hf (by have:=ZZ.out;omega));have OC0:=OC.out;replace OC:=hd (hf.keep OC.out (fun k hk=>Or.inr (by have h8:=(OC0.lt k hk).1;have:=ZZ.out;omega)))
 clear OC0;clear hf C11 QX OX;go_wp2_with fail
 refine(laws_markCellS k7 _ OC.out HPM.out hk7 hk7b).mono ?_;rintro e w12 ⟨rfl,hog,hgr⟩;have hf:=FrX.own OC.out OCB.out hog hgr;have z3:=C3.out.2.2.2;have z8:=C8.out.2.2.2;replace KX:=hd (KX.out.trans (hf.toBelow (B:=w.heap.size) (by have:=ZZ.out;omega) (by omega)));replace QW:=hd (QW.out.trans (hf.toBelow (B:=u4.heap.size) (by have:=ZZ.out;omega) (by omega)))
 clear z3 z8;replace C3:=hd (C3.out.frx hf (by have:=ZZ.out;omega));replace C8:=hd (C8.out.frx hf (by have:=ZZ.out;omega));replace C13:=hd (C13.out.frx hf (by have:=ZZ.out;omega));replace OG:=hd (OG.out.frx hf (Nat.le_refl _));clear hf hog hgr OC OCB;obtain⟨k8,HK8⟩: ∃k8:Int,Hid (k7+(pm:Int)*3=k8):=⟨_,rfl⟩
 have hk8: ¬k8<0:=by have:=HK8.out;omega
 rw [HK8.out];obtain⟨c13_0,c13_1,c13_2,c13_z⟩:=C13.out;obtain⟨c8_0,c8_1,c8_2,c8_z⟩:=C8.out;go_wp2_with fail
 clear c13_0 c13_1 c13_2 c13_z;clear c8_0 c8_1 c8_2 c8_z;refine(Qil _ (OG.out.toO.row HKD.out) ((OW.out.below QW.out).row HKD.out)).mono ?_;rintro e u13 ⟨rfl,hb⟩;replace C3:=hd (C3.out.below hb);replace KX:=hd (Qb KX.out hb);replace C8:=hd (C8.out.below hb)
 replace QW:=hd (Qb QW.out hb);replace OG:=hd (OG.out.below hb);replace C13:=hd (C13.out.below hb);clear hb;obtain⟨c13_0,c13_1,c13_2,c13_z⟩:=C13.out;go_wp2_with fail
 clear c13_0 c13_1 c13_2 c13_z;refine(laws_markDagS _ OG.out (Nat.le_of_lt C13.out.2.2.2) HLD.out).mono ?_;rintro e w14 ⟨rfl,hmk,hf⟩;have z3:=C3.out.2.2.2;have z8:=C8.out.2.2.2;replace KX:=hd (KX.out.trans (hf.toBelow (B:=w.heap.size) (by have:=ZZ.out;omega) (by omega)));replace QW:=hd (QW.out.trans (hf.toBelow (B:=u4.heap.size) (by have:=ZZ.out;omega) (by omega)))
 clear z3 z8;replace C3:=hd (C3.out.frx hf (by have:=ZZ.out;omega));replace C8:=hd (C8.out.frx hf (by have:=ZZ.out;omega));replace C13:=hd (C13.out.frx hf (by have:=ZZ.out;omega));have MK:Hid (DgMk w14 u6.heap.size (.agg #[.int .i64 D.next,.slice G1 G2 G3,.slice G4 G5 G6]) D):=hmk;clear hf hmk OG;obtain⟨mv,HMV⟩: ∃mv:Int,Hid (kdN D=mv):=⟨_,rfl⟩
 have hmv0: ¬mv<0:=by have h9:=kdN_pos HLD.out;rw [HMV.out]at h9;omega
 have hmv1:(mv !=mv)=false:=by simp
 rw [HMV.out];obtain⟨c13_0,c13_1,c13_2,c13_z⟩:=C13.out;go_wp2_with fail
 clear c13_0 c13_1 c13_2 c13_z;refine(laws_heldDag _ MK.out HLD.out).mono ?_;rintro e u15 ⟨rfl,hb⟩;replace C3:=hd (C3.out.below hb);replace KX:=hd (Qb KX.out hb);replace C8:=hd (C8.out.below hb);replace QW:=hd (Qb QW.out hb)
 replace C13:=hd (C13.out.below hb);replace MK:=hd (MK.out.below hb);clear hb;rw [HMV.out];obtain⟨c3_0,c3_1,c3_2,c3_z⟩:=C3.out;go_wp2_with fail
 clear c3_0 c3_1 c3_2 c3_z;refine(Qij _ (HR.out.below KX.out) HL.out).mono ?_;rintro e u16 ⟨v2,rfl,ho,hb⟩;have hr:=ho.row HK.out;obtain⟨f1,f2,f3,f4,f5,f6,rfl⟩:=hr.agg;have R4:Hid (DgRow u16 (.agg #[.int .i64 d.next,.slice f1 f2 f3,.slice f4 f5 f6]) d):=hr;replace C3:=hd (C3.out.below hb)
 replace KX:=hd (Qb KX.out hb);replace C8:=hd (C8.out.below hb);replace QW:=hd (Qb QW.out hb);replace C13:=hd (C13.out.below hb);replace MK:=hd (MK.out.below hb);clear hb hr ho;go_wp2_with fail
 refine(Mx _ (HP.out.below KX.out) HPM.out).mono ?_;rintro e u17 ⟨v2,rfl,ho,hb⟩;obtain⟨g1,g2,rfl,_,_⟩:=Qo ho;have RD:Hid (ClRow u17 g1 pm C R S):=Qba ho HSS.out;replace C3:=hd (C3.out.below hb);replace KX:=hd (Qb KX.out hb);replace C8:=hd (C8.out.below hb)
 replace QW:=hd (Qb QW.out hb);replace C13:=hd (C13.out.below hb);replace MK:=hd (MK.out.below hb);replace R4:=hd (R4.out.below hb);clear hb ho;go_wp2_with fail
 refine(impl_Committed (cmX d s pm C R S) s _ R4.out HK.out HL.out rfl RD.out HPM.out (HG.out.below KX.out)).mono ?_;rintro e u18 ⟨hs,hb⟩;rw [HA.out]at hs;obtain⟨H1,H2,H3,H4,H5,H6,rfl,ho⟩:=hs.open;have OH:Hid (DgO u18 u17.heap.size (.agg #[.int .i64 D.next,.slice H1 H2 H3,.slice H4 H5 H6]) D):=ho;replace C3:=hd (C3.out.below hb);replace KX:=hd (Qb KX.out hb)
 replace C8:=hd (C8.out.below hb);replace QW:=hd (Qb QW.out hb);replace C13:=hd (C13.out.below hb);replace MK:=hd (MK.out.below hb);replace R4:=hd (R4.out.below hb);replace RD:=hd (RD.out.below hb);clear hs ho hb R4 RD
 obtain⟨c8_0,c8_1,c8_2,c8_z⟩:=C8.out;go_wp2_with fail
 clear c8_0 c8_1 c8_2 c8_z;obtain⟨Y4,HY⟩: ∃X,Hid (u18.alloc (.cells #[.int .i64 D.next,.slice H1 H2 H3,.slice H4 H5 H6] 32)=X):=⟨_,rfl⟩;rw [HY.out];have hb:Below u18.heap.size u18 Y4:=by rw [←HY.out];go_grown
 have C19:Hid (Bx Y4 u18.heap.size (.int .i64 D.next) (.slice H1 H2 H3) (.slice H4 H5 H6)):=by rw [←HY.out];exact Bx.new
 replace C3:=hd (C3.out.below hb);replace KX:=hd (Qb KX.out hb);replace C8:=hd (C8.out.below hb);replace QW:=hd (Qb QW.out hb);replace C13:=hd (C13.out.below hb);replace MK:=hd (MK.out.below hb);replace OH:=hd (OH.out.below hb)
 clear hb HY;refine(Qil _ (OH.out.row HKD.out) ((OW.out.below QW.out).row HKD.out)).mono ?_;rintro e u19 ⟨rfl,hb⟩;replace C3:=hd (C3.out.below hb);replace KX:=hd (Qb KX.out hb);replace C8:=hd (C8.out.below hb);replace QW:=hd (Qb QW.out hb)
 replace C13:=hd (C13.out.below hb);replace MK:=hd (MK.out.below hb);replace OH:=hd (OH.out.below hb);replace C19:=hd (C19.out.below hb);clear hb;obtain⟨c13_0,c13_1,c13_2,c13_z⟩:=C13.out;go_wp2_with fail
 clear c13_0 c13_1 c13_2 c13_z;refine(laws_heldDag _ MK.out HLD.out).mono ?_;rintro e u20 ⟨rfl,hb⟩;replace C3:=hd (C3.out.below hb);replace KX:=hd (Qb KX.out hb);replace C8:=hd (C8.out.below hb);replace QW:=hd (Qb QW.out hb)
 replace C13:=hd (C13.out.below hb);replace MK:=hd (MK.out.below hb);replace OH:=hd (OH.out.below hb);replace C19:=hd (C19.out.below hb);clear hb;rw [HMV.out];go_wp2_with fail
 go_ret;exact⟨rfl,KX.out⟩
end Go.Proofs.YtkkbgjeilomnmaaGreatDoor
