import Derived.Test.YtdcokcbolecanaaGreatDoorMn
import Derived.Test.YtdcokcbolecanaaGreatDoorGzn
import Derived.Test.YtdcokcbolecanaaGreatDoorGzm
import Derived.Test.YtdcokcbolecanaaGreatDoorGze
import Derived.BigQuiet
import Derived.Deep.RegionHeld3
import Derived.Deep.DeepCutAuto
set_option linter.unusedSimpArgs false
set_option linter.unusedVariables false
set_option maxHeartbeats 40000000
set_option maxRecDepth 100000
namespace Go.Proofs.YtdcokcbolecanaaGreatDoor
open Go.RowKit Go.Maps
theorem ZD (n lo hi:Int) (w:World):Calls Tryz.prog 25 #[.int .i64 n,.int .i64 lo,.int .i64 hi] w fun e w'=>e= .returned (.bool (decide (lo≤n)&&decide (n≤hi)))∧w'=w:=by
 by_cases h1:lo≤n
 ·by_cases h2:n≤hi
  ·go_enter Tryz.func25,Tryz.ntmps25;go_wp2_with fail
   go_ret;exact⟨Qa (by simp [h1,h2]),rfl⟩
  ·go_enter Tryz.func25,Tryz.ntmps25;go_wp2_with fail
   go_ret;exact⟨Qa (by simp;omega),rfl⟩
 ·go_enter Tryz.func25,Tryz.ntmps25;go_wp2_with fail
  go_ret;exact⟨Qa (by simp;omega),rfl⟩
structure VerP (d:DG) (t:Nat) (x:VR):Prop where
 lo:1≤x.id
 hi:x.id<d.next
 pr: ∀(s:Nat) y,t=s+1→d.vs[s]? =some y→y.id<x.id
 up:x.ups.length≤2
 sh:Zf x.C x.R x.S x.m=true
theorem Qiu {v:Value} {d:DG} (w:World) (h:DgRow w v d) (hk:DgOk d):
  Calls Tryz.prog 11 #[v] w fun e w'=>e= .returned (.bool (Xe d))∧Below w.heap.size w w':=by
 have HD:Hid (DgRow w v d):=h;obtain⟨A1,n1,c1,A2,n2,c2,rfl⟩:=h.agg;obtain⟨r1,e1,r2,e2⟩:=h.open;have R1:Hid (VrRow w A1 d.vs):=r1;have RB:Hid (ZT w A2 d.bs):=r2;have E1:Hid (d.vs.length=n1):=e1;have E2:Hid (d.bs.length=n2):=e2
 have HK:Hid (DgOk d):=hk;have hn1:=r1.1;have hn2:=r2.1;rw [e1]at hn1;rw [e2]at hn2;unfold maxLen at hn1 hn2;clear h r1 r2 e1 e2 hk
 by_cases g0:d.next<2∨1000000000<d.next
 ·have HI0:Hid ((decide (2≤d.next)&&decide (d.next≤1000000000))=false):=by show _=_;rw [Bool.and_eq_false_iff,decide_eq_false_iff_not,decide_eq_false_iff_not];omega
  go_enter Tryz.func11,Tryz.ntmps11;go_wp2_with (first | (go_at_call 25;refine(ZD _ _ _ _).mono ?_;rintro e w1 ⟨rfl,hw⟩;subst w1;rw [HI0.out]))
  go_ret;exact⟨Qa (Qd9 g0).symm,by go_grown⟩
 have HI0:Hid ((decide (2≤d.next)&&decide (d.next≤1000000000))=true):=by show _=_;rw [Bool.and_eq_true,decide_eq_true_eq,decide_eq_true_eq];omega
 by_cases g1:(n1:Int)<1
 ·go_enter Tryz.func11,Tryz.ntmps11;go_wp2_with (first | (go_at_call 25;refine(ZD _ _ _ _).mono ?_;rintro e w1 ⟨rfl,hw⟩;subst w1;try rw [HI0.out]))
  go_ret;exact⟨Qa (Dt (Or.inl (by rw [E1.out];omega))).symm,by go_grown⟩
 by_cases g2:(40:Int)<(n1:Int)
 ·go_enter Tryz.func11,Tryz.ntmps11;go_wp2_with (first | (go_at_call 25;refine(ZD _ _ _ _).mono ?_;rintro e w1 ⟨rfl,hw⟩;subst w1;try rw [HI0.out]))
  go_ret;exact⟨Qa (Dt (Or.inr (by rw [E1.out];omega))).symm,by go_grown⟩
 by_cases g3:(n2:Int)<1
 ·go_enter Tryz.func11,Tryz.ntmps11;go_wp2_with (first | (go_at_call 25;refine(ZD _ _ _ _).mono ?_;rintro e w1 ⟨rfl,hw⟩;subst w1;try rw [HI0.out]))
  go_ret;exact⟨Qa (Du (Or.inl (by rw [E2.out];omega))).symm,by go_grown⟩
 by_cases g4:(8:Int)<(n2:Int)
 ·go_enter Tryz.func11,Tryz.ntmps11;go_wp2_with (first | (go_at_call 25;refine(ZD _ _ _ _).mono ?_;rintro e w1 ⟨rfl,hw⟩;subst w1;try rw [HI0.out]))
  go_ret;exact⟨Qa (Du (Or.inr (by rw [E2.out];omega))).symm,by go_grown⟩
 have hwn:IntKind.i64.wrap (d.next-1)=d.next-1:=by rw [IntKind.wrap_i64];omega
 go_enter Tryz.func11,Tryz.ntmps11;go_wp2_with (first | (go_at_call 25;refine(ZD _ _ _ _).mono ?_;rintro e w1 ⟨rfl,hw⟩;subst w1;rw [HI0.out]))
 obtain⟨X,HX⟩: ∃X,Hid (w.alloc (.cells #[.int .i64 d.next,.slice A1 n1 c1,.slice A2 n2 c2] 31)=X):=⟨_,rfl⟩;rw [HX.out];have x_0:X.cell? ⟨w.heap.size,0,none⟩=some (.int .i64 d.next):=by rw [←HX.out];go_simp
 have x_1:X.cell? ⟨w.heap.size,1,none⟩=some (.slice A1 n1 c1):=by rw [←HX.out];go_simp
 have x_2:X.cell? ⟨w.heap.size,2,none⟩=some (.slice A2 n2 c2):=by rw [←HX.out];go_simp
 have zX:w.heap.size<X.heap.size:=by rw [←HX.out];simp
 have KX:Hid (Below w.heap.size w X):=by rw [←HX.out];show Below _ _ _;go_grown
 clear HX;go_loopw [3] (fun i wr=> ∃k:Nat,k≤n1∧i= .int .i64 k∧(∀(t:Nat) x,t<k→d.vs[t]? =some x→VerOk d t x)∧Below X.heap.size X wr) (fun i _=>n1-(intOf i).toNat)
 case atStart=>exact⟨0,Nat.zero_le _,rfl,fun t x ht=>by omega,Below.refl _ _⟩
 case round=>
  obtain⟨k,hk,rfl,hall,hbel⟩:=hrel;have HA:Hid (∀(t:Nat) x,t<k→d.vs[t]? =some x→VerOk d t x):=hall;have KW:=hd (Qb KX.out hbel);have KB:Hid (Below X.heap.size X wr):=hbel;replace x_0:=cy hbel x_0;replace x_1:=cy hbel x_1;replace x_2:=cy hbel x_2
  replace zX:w.heap.size<wr.heap.size:=Nat.lt_of_lt_of_le zX hbel.size;clear hall hbel;by_cases hlt:k<n1
  ·obtain⟨x,hx⟩:=ZF E1.out hlt;have HX:Hid (d.vs[k]? =some x):=hx;obtain⟨b,o,u,uc,s,sc,rfl,hl,c0,c1,c2,r1,r2⟩:=R1.out.2 k x hx;have HXW:Hid (∀u∈x.ups,(Lit.int .i64 u).wf=true):=(HK.out.v x (List.mem_of_getElem? hx)).2;have R2:Hid (ClRow wr s x.m x.C x.R x.S):=r2.below KW.out;have RU:Hid (IntRow wr u x.ups):=r1.below KW.out;rw [←KW.out.cell (p:=⟨_,_,none⟩) hl]at c0 c1 c2
   have hl2:b<wr.heap.size:=Nat.lt_of_lt_of_le hl KW.out.size;have h0:(0:Int)≤(k:Int):=by omega
   have h1:(k:Int)<(n1:Int):=by omega
   obtain⟨pn,HPN⟩: ∃pn,Hid (x.ups.length=pn):=⟨_,rfl⟩;rw [HPN.out]at c1;obtain⟨cb,HCB⟩: ∃cb,Hid (Zf x.C x.R x.S x.m=cb):=⟨_,rfl⟩
   have HPREV:Hid (∀m y,k=m+1→d.vs[m]? =some y→wr.cell? ⟨b,o+m*3,none⟩=some (.int .i64 y.id)):=fun m y e hy=>by
    obtain⟨b',o',_,_,_,_,e9,hl9,d0,_⟩:=R1.out.2 m y hy;cases e9
    exact(KW.out.cell (p:=⟨_,_,none⟩) hl9).trans d0
   clear hx r1 r2;go_wp2_with fail
   go_upto_region 7 with fail
   obtain⟨Y,HY⟩: ∃X,Hid (wr.alloc (.cells #[.int .i64 x.id,.slice u pn uc,.slice s x.m sc] 44)=X):=⟨_,rfl⟩;rw [HY.out];have hbY:Below wr.heap.size wr Y:=by rw [←HY.out];go_grown
   have y_0:Y.cell? ⟨wr.heap.size,0,none⟩=some (.int .i64 x.id):=by rw [←HY.out];go_simp
   have y_1:Y.cell? ⟨wr.heap.size,1,none⟩=some (.slice u pn uc):=by rw [←HY.out];go_simp
   have y_2:Y.cell? ⟨wr.heap.size,2,none⟩=some (.slice s x.m sc):=by rw [←HY.out];go_simp
   have zY:wr.heap.size<Y.heap.size:=by rw [←HY.out];simp
   replace x_0:=cy hbY x_0;replace x_1:=cy hbY x_1;replace x_2:=cy hbY x_2;replace zX:w.heap.size<Y.heap.size:=by omega
   have hl3:b<Y.heap.size:=by omega
   replace HPREV:Hid (∀m y,k=m+1→d.vs[m]? =some y→Y.cell? ⟨b,o+m*3,none⟩=some (.int .i64 y.id)):=fun m y e hy=>cy hbY (HPREV.out m y e hy);have KY:=hd (Qb KW.out hbY);have KYX:=hd (Qb KB.out hbY);replace R2:=hd (R2.out.below hbY);replace RU:=hd (RU.out.below hbY);clear hbY HY c0 c1 c2;go_cut [82]from 36 to 125 (fun c wx=>(c= .bool true∧Xe d=false∨c= .bool false∧VerP d k x)∧Below Y.heap.size Y wx)
   case first=>
    obtain⟨ib,HIN⟩: ∃ib,Hid ((decide (1≤x.id)&&decide (x.id≤d.next-1))=ib):=⟨_,rfl⟩;refine wp_region_held_drew (S:=(fun w'=>(∀bq oq,bq<Y.heap.size→w'.cell? ⟨bq,oq,none⟩=Y.cell? ⟨bq,oq,none⟩)∧Y.heap.size≤w'.heap.size∧Below Y.heap.size Y w')) (by kernel_rfl) (Qk (Nat.le_refl _) (Below.refl _ _).drew) (fun hHeld=> ?_);refine tkA 0 ?_;refine tkB 1 ?_;refine tkA 2 ?_;refine tkB 3 ?_;refine tkB 4 ?_
    refine rqA 5 (fun Kq hKq=> ?_);go_simp;refine(ZD x.id 1 (d.next-1) _).mono ?_;rintro e w1 ⟨rfl,hw⟩;subst w1;rw [HIN.out];refine hkB hKq (Qk (Nat.le_refl _) (by go_grown)) fun hHeld=> ?_
    clear hKq Kq;cases ib
    ·have i1:x.id<1∨d.next≤x.id:=by have:=HIN.out;rw [Bool.and_eq_false_iff,decide_eq_false_iff_not,decide_eq_false_iff_not]at this;omega
     refine tkA 6 ?_;refine tkB 7 ?_;refine tnA 8 ?_;refine tnB 9 ?_;refine tnA 10 ?_;refine tnB 11 ?_;refine tnA 12 ?_
     refine tnB 13 ?_;refine tnA 14 ?_;refine tnB 15 ?_;refine tnA 16 ?_;refine tnB 17 ?_;refine tnA 18 ?_;refine tnB 19 ?_
     refine tnA 20 ?_;refine tnB 21 ?_;refine tkA 22 ?_;refine tkB 23 ?_;refine tnA 24 ?_;refine tnB 25 ?_;refine tnA 26 ?_
     refine tnB 27 ?_;refine tkA 28 ?_;refine tkB 29 ?_;refine tnA 30 ?_;refine tnB 31 ?_;refine tnA 32 ?_;refine tnB 33 ?_
     refine tkB 34 ?_;refine wpAnyH_done (by kernel_rfl) ?_ _;clear hHeld;go_wp2_with fail
     go_meet;exact⟨Or.inl ⟨rfl,Qku HX.out i1⟩,by go_grown⟩
    have i1:1≤x.id∧x.id<d.next:=by have:=HIN.out;rw [Bool.and_eq_true,decide_eq_true_eq,decide_eq_true_eq]at this;omega
    refine tkA 6 ?_;refine tkB 7 ?_;refine tkB 8 ?_;by_cases k0:k=0
    ·subst k0;have hk0: ¬(0:Int)<((0:Nat):Int):=by omega
     refine tkA 9 ?_;refine tkB 10 ?_;refine tnA 11 ?_;refine tnB 12 ?_;refine tnA 13 ?_;refine tnB 14 ?_;refine tnA 15 ?_
     refine tnB 16 ?_;refine tnA 17 ?_;refine tnB 18 ?_;refine tnA 19 ?_;refine tnB 20 ?_;refine tkA 21 ?_;refine tkB 22 ?_
     refine tkA 23 ?_;refine tkB 24 ?_;refine tkA 25 ?_;refine tkB 26 ?_;by_cases hu:(2:Int)<(pn:Int)
     ·refine tkA 27 ?_;refine tkB 28 ?_;refine tkA 29 ?_;refine tnB 30 ?_;refine tnA 31 ?_;refine tnB 32 ?_;refine tnA 33 ?_
      refine tkB 34 ?_;refine wpAnyH_done (by kernel_rfl) ?_ _;clear hHeld;go_wp2_with fail
      go_meet;exact⟨Or.inl ⟨rfl,EN HX.out (by rw [HPN.out];omega)⟩,by go_grown⟩
     refine tkA 27 ?_;refine tkB 28 ?_;refine tkA 29 ?_;refine tkB 30 ?_;refine tkB 31 ?_;refine rqA 32 (fun Kq hKq=> ?_);go_simp
     refine(Vk _ (R2.out.below (by go_grown))).mono ?_;rintro e q3 ⟨rfl,hb⟩;rw [HCB.out];obtain⟨hk9,hz9⟩:=Qe (B:=Y.heap.size) (X:=Y) (by go_grown) (by go_size) hb;clear hb;refine hkB hKq (Qk (Nat.le_refl _) hk9) fun hHeld=> ?_;clear hKq Kq
     cases cb
     ·refine tkA 33 ?_;refine tkB 34 ?_;refine wpAnyH_done (by kernel_rfl) ?_ _;clear hHeld;go_wp2_with fail
      go_meet;exact⟨Or.inl ⟨rfl,Mr HX.out HCB.out⟩,by go_grown⟩
     refine tkA 33 ?_;refine tkB 34 ?_;refine wpAnyH_done (by kernel_rfl) ?_ _;clear hHeld;go_wp2_with fail
     go_meet;exact⟨Or.inr ⟨rfl,⟨by omega,by omega,fun s y e=>by omega,by rw [HPN.out];omega,HCB.out⟩⟩,by go_grown⟩
    obtain⟨m,HM⟩: ∃m,Hid (k=m+1):=⟨k-1,(by omega:k=k-1+1)⟩;have hk0:0<k:=by omega
    obtain⟨y,hy⟩:=ZF E1.out (show m<n1 by have:=HM.out;omega);have HYY:Hid (d.vs[m]? =some y):=hy;have p_0:=HPREV.out m y HM.out hy;have q2:(0:Int)≤(m:Int):=by omega
    have q3:(m:Int)<(n1:Int):=by have:=HM.out;omega
    have q4:IntKind.i64.wrap ((k:Int)-1)=(m:Int):=by rw [IntKind.wrap_i64];have:=HM.out;omega
    clear hy;refine tkA 9 ?_;refine tkB 10 ?_;refine tkA 11 ?_;refine tkB 12 ?_;refine tkA 13 ?_;refine tkB 14 ?_
    refine tkA 15 ?_;refine tkB 16 ?_;refine tkA 17 ?_;refine tkB 18 ?_;refine tkB 19 ?_;by_cases hge:x.id≤y.id
    ·refine tkA 20 ?_;refine tkB 21 ?_;refine tkA 22 ?_;refine tkB 23 ?_;refine tnA 24 ?_;refine tnB 25 ?_;refine tnA 26 ?_
     refine tnB 27 ?_;refine tkA 28 ?_;refine tkB 29 ?_;refine tnA 30 ?_;refine tnB 31 ?_;refine tnA 32 ?_;refine tnB 33 ?_
     refine tkB 34 ?_;refine wpAnyH_done (by kernel_rfl) ?_ _;clear hHeld;go_wp2_with fail
     go_meet;exact⟨Or.inl ⟨rfl,Qd8 (by rw [←HM.out];exact HX.out) HYY.out (by omega)⟩,by go_grown⟩
    refine tkA 20 ?_;refine tkB 21 ?_;refine tkA 22 ?_;refine tkB 23 ?_;refine tkA 24 ?_;refine tkB 25 ?_;refine tkB 26 ?_
    by_cases hu:(2:Int)<(pn:Int)
    ·refine tkA 27 ?_;refine tkB 28 ?_;refine tkA 29 ?_;refine tnB 30 ?_;refine tnA 31 ?_;refine tnB 32 ?_;refine tnA 33 ?_
     refine tkB 34 ?_;refine wpAnyH_done (by kernel_rfl) ?_ _;clear hHeld;go_wp2_with fail
     go_meet;exact⟨Or.inl ⟨rfl,EN HX.out (by rw [HPN.out];omega)⟩,by go_grown⟩
    refine tkA 27 ?_;refine tkB 28 ?_;refine tkA 29 ?_;refine tkB 30 ?_;refine tkB 31 ?_;refine rqA 32 (fun Kq hKq=> ?_);go_simp
    refine(Vk _ (R2.out.below (by go_grown))).mono ?_;rintro e q3 ⟨rfl,hb⟩;rw [HCB.out];obtain⟨hk9,hz9⟩:=Qe (B:=Y.heap.size) (X:=Y) (by go_grown) (by go_size) hb;clear hb;refine hkB hKq (Qk (Nat.le_refl _) hk9) fun hHeld=> ?_;clear hKq Kq
    cases cb
    ·refine tkA 33 ?_;refine tkB 34 ?_;refine wpAnyH_done (by kernel_rfl) ?_ _;clear hHeld;go_wp2_with fail
     go_meet;exact⟨Or.inl ⟨rfl,Mr HX.out HCB.out⟩,by go_grown⟩
    refine tkA 33 ?_;refine tkB 34 ?_;refine wpAnyH_done (by kernel_rfl) ?_ _;clear hHeld;go_wp2_with fail
    go_meet;exact⟨Or.inr ⟨rfl,⟨by omega,by omega,fun s z e hz=>(by have:=HM.out;obtain rfl:s=m:=(by omega);rw [HYY.out]at hz;cases hz;omega),by rw [HPN.out];omega,HCB.out⟩⟩,by go_grown⟩
   case rest=>
    obtain⟨hc9,hbc⟩:=hcut;have KC:=hd (Qb KY.out hbc);have KCX:=hd (Qb KYX.out hbc);replace y_0:=cy hbc y_0;replace y_1:=cy hbc y_1;replace x_0:=cy hbc x_0;replace x_1:=cy hbc x_1
    replace x_2:=cy hbc x_2;replace zX:w.heap.size<wc.heap.size:=Nat.lt_of_lt_of_le zX hbc.size;replace zY:wr.heap.size<wc.heap.size:=Nat.lt_of_lt_of_le zY hbc.size;replace RU:=hd (RU.out.below hbc);clear hbc R2 HPREV KY KYX y_2 KW KB hl2 hl3 HCB;obtain⟨yb,HYB⟩: ∃yb,Hid (wr.heap.size=yb):=⟨_,rfl⟩;rw [HYB.out]at y_0 y_1 zY ⊢
    clear HYB;rcases hc9 with⟨rfl,hf⟩ | ⟨rfl,hv⟩
    ·go_wp2_with fail
     go_ret;exact⟨Qa hf.symm,KC.out⟩
    have HVP:Hid (VerP d k x):=hv;have hpb:pn≤2:=by have h8:=hv.up;rw [HPN.out]at h8;exact h8
    clear hv;go_wp2_with fail
    go_loopw [5] (fun j wr=> ∃m:Nat,m≤pn∧j= .int .i64 m∧(∀(t:Nat) u,t<m→x.ups[t]? =some u→(u<x.id∧u∈QT d.vs)∧ ∀(s:Nat) z,t=s+1→x.ups[s]? =some z→z<u)∧Below wc.heap.size wc wr) (fun j _=>pn-(intOf j).toNat)
    case atStart=>exact⟨0,Nat.zero_le _,rfl,fun t u ht=>by omega,Below.refl _ _⟩
    case round=>
     obtain⟨m,hm,rfl,hal,hbel⟩:=hrel;have HAL:Hid (∀(t:Nat) u,t<m→x.ups[t]? =some u→(u<x.id∧u∈QT d.vs)∧ ∀(s:Nat) z,t=s+1→x.ups[s]? =some z→z<u):=hal;have KR:=hd (Qb KC.out hbel);have KBI:Hid (Below wc.heap.size wc wr):=hbel;have KRX:=hd (Qb KCX.out hbel);replace y_0:=cy hbel y_0;replace y_1:=cy hbel y_1
     replace x_0:=cy hbel x_0;replace x_1:=cy hbel x_1;replace x_2:=cy hbel x_2;replace zX:w.heap.size<wr.heap.size:=Nat.lt_of_lt_of_le zX hbel.size;replace zY:yb<wr.heap.size:=Nat.lt_of_lt_of_le zY hbel.size;have RW:=hd (RU.out.below hbel);have HDW:=HD.out.below KR.out
     replace HDW:Hid (DgRow wr (.agg #[.int .i64 d.next,.slice (some ⟨b,o,none⟩) n1 c1,.slice A2 n2 c2]) d):=HDW;clear hal hbel;by_cases hlm:m<pn
     ·obtain⟨u1,hu⟩:=ZF HPN.out hlm;have HU:Hid (x.ups[m]? =some u1):=hu;obtain⟨b2,o2,rfl,hl4,c0⟩:=Jj RW.out hu;have p0:(0:Int)≤(m:Int):=by omega
      have p1:(m:Int)<(pn:Int):=by omega
      clear hu;go_wp2_with fail
      go_upto_region 12 with fail
      refine wp_region_held_drew (S:=(fun w'=>(∀bq oq,bq<wr.heap.size→w'.cell? ⟨bq,oq,none⟩=wr.cell? ⟨bq,oq,none⟩)∧wr.heap.size≤w'.heap.size∧Below wr.heap.size wr w')) (by kernel_rfl) (Qk (Nat.le_refl _) (Below.refl _ _).drew) (fun hHeld=> ?_);refine tkA 0 ?_;refine tkB 1 ?_;refine tkA 2 ?_;refine tkB 3 ?_;refine tkA 4 ?_;refine tkB 5 ?_
      refine tkB 6 ?_;by_cases i1:x.id≤u1
      ·refine tkA 7 ?_;refine tkB 8 ?_;refine tnA 9 ?_;refine tnB 10 ?_;refine tnA 11 ?_;refine tnB 12 ?_;refine tnA 13 ?_
       refine tnB 14 ?_;refine tnA 15 ?_;refine tnB 16 ?_;refine tkA 17 ?_;refine tkB 18 ?_;refine tnA 19 ?_;refine tnB 20 ?_
       refine tnA 21 ?_;refine tnB 22 ?_;refine tnA 23 ?_;refine tnB 24 ?_;refine tnA 25 ?_;refine tnB 26 ?_;refine tnA 27 ?_
       refine tnB 28 ?_;refine tnA 29 ?_;refine tnB 30 ?_;refine tnA 31 ?_;refine tnB 32 ?_;refine tnA 33 ?_;refine tnB 34 ?_
       refine tkB 35 ?_;refine wpAnyH_done (by kernel_rfl) ?_ _;clear hHeld;go_wp2_with fail
       go_ret;exact⟨Qa (Qfg HX.out HU.out (Or.inl (by omega))).symm,Qb KR.out (by go_grown)⟩
      refine tkA 7 ?_;refine tkB 8 ?_;refine tkA 9 ?_;refine tkB 10 ?_;refine tkA 11 ?_;refine tkB 12 ?_;refine tkA 13 ?_
      refine tkB 14 ?_;refine rqA 15 (fun Kq hKq=> ?_);go_simp;refine(Vj _ _ (HDW.out.below (by go_grown))).mono ?_;rintro e q3 ⟨r,rfl,hr,hb⟩;have HR9:Hid (r<0↔ ¬u1∈QT d.vs):=hr;obtain⟨hk9,hz9⟩:=Qe (B:=wr.heap.size) (X:=wr) (by go_grown) (by go_size) hb
      clear hb hr;refine hkB hKq (Qk (Nat.le_refl _) hk9) fun hHeld=> ?_;clear hKq Kq;by_cases hme:u1∈QT d.vs
      case neg=>
       have hr2:r<0:=HR9.out.2 hme;have HME:Hid (¬u1∈QT d.vs):=hme;clear hme;refine tkA 16 ?_;refine tkB 17 ?_;refine tkA 18 ?_;refine tnB 19 ?_
       refine tnA 20 ?_;refine tnB 21 ?_;refine tnA 22 ?_;refine tnB 23 ?_;refine tnA 24 ?_;refine tnB 25 ?_;refine tnA 26 ?_
       refine tnB 27 ?_;refine tnA 28 ?_;refine tnB 29 ?_;refine tnA 30 ?_;refine tnB 31 ?_;refine tnA 32 ?_;refine tnB 33 ?_
       refine tnA 34 ?_;refine tkB 35 ?_;refine wpAnyH_done (by kernel_rfl) ?_ _;clear hHeld;go_wp2_with fail
       go_ret;exact⟨Qa (Qfg HX.out HU.out (Or.inr HME.out)).symm,Qb KR.out (by go_grown)⟩
      have hr2: ¬r<0:=fun h9=>HR9.out.1 h9 hme;have HME:Hid (u1∈QT d.vs):=hme;clear hme;refine tkA 16 ?_;refine tkB 17 ?_;refine tkA 18 ?_;refine tkB 19 ?_
      by_cases m0:m=0
      ·subst m0;have hm0: ¬(0:Int)<((0:Nat):Int):=by omega
       refine tkA 20 ?_;refine tkB 21 ?_;refine tnA 22 ?_;refine tnB 23 ?_;refine tnA 24 ?_;refine tnB 25 ?_;refine tnA 26 ?_
       refine tnB 27 ?_;refine tnA 28 ?_;refine tnB 29 ?_;refine tnA 30 ?_;refine tnB 31 ?_;refine tnA 32 ?_;refine tnB 33 ?_
       refine tkA 34 ?_;refine tkB 35 ?_;refine wpAnyH_done (by kernel_rfl) ?_ _;clear hHeld;go_wp2_with fail
       go_roundw
       case rel=>exact⟨0+1,by omega,by go_num,fun t u ht hu=>(by obtain rfl:t=0:=(by omega);rw [HU.out]at hu;cases hu;exact⟨⟨by omega,HME.out⟩,fun s z e=>by omega⟩),Qb KBI.out (by go_grown)⟩
       case measure=>simp [intOf];omega
      obtain⟨m1,HM1⟩: ∃m1,Hid (m=m1+1):=⟨m-1,(by omega:m=m-1+1)⟩;have hm0:0<m:=by omega
      obtain⟨z1,hz⟩:=ZF HPN.out (show m1<pn by have:=HM1.out;omega);have HZ:Hid (x.ups[m1]? =some z1):=hz;obtain⟨b3,o3,e3,_,p_0⟩:=Jj RW.out hz;cases e3
      have p2:(0:Int)≤(m1:Int):=by omega
      have p3:(m1:Int)<(pn:Int):=by have:=HM1.out;omega
      have p4:IntKind.i64.wrap ((m:Int)-1)=(m1:Int):=by rw [IntKind.wrap_i64];have:=HM1.out;omega
      clear hz;refine tkA 20 ?_;refine tkB 21 ?_;refine tkA 22 ?_;refine tkB 23 ?_;refine tkA 24 ?_;refine tkB 25 ?_
      refine tkA 26 ?_;refine tkB 27 ?_;refine tkA 28 ?_;refine tkB 29 ?_;refine tkA 30 ?_;refine tkB 31 ?_;refine tkB 32 ?_
      by_cases i3:u1≤z1
      ·refine tkA 33 ?_;refine tkB 34 ?_;refine tkB 35 ?_;refine wpAnyH_done (by kernel_rfl) ?_ _;clear hHeld;go_wp2_with fail
       go_ret;exact⟨Qa (Qd7 HX.out (by rw [←HM1.out];exact HU.out) HZ.out (by omega)).symm,Qb KR.out (by go_grown)⟩
      refine tkA 33 ?_;refine tkB 34 ?_;refine tkB 35 ?_;refine wpAnyH_done (by kernel_rfl) ?_ _;clear hHeld;go_wp2_with fail
      go_roundw
      case rel=>exact⟨m+1,by omega,by go_num,fun t u ht hu=>(by by_cases e:t=m;(subst e;rw [HU.out]at hu;cases hu;exact⟨⟨by omega,HME.out⟩,fun s z e hz=>(by have:=HM1.out;obtain rfl:s=m1:=(by omega);rw [HZ.out]at hz;cases hz;omega)⟩);exact HAL.out t u (by omega) hu),Qb KBI.out (by go_grown)⟩
      case measure=>simp [intOf];omega
     ·have p1: ¬(m:Int)<(pn:Int):=by omega
      go_wp2_with fail
      go_roundw
      case rel=>exact⟨k+1,by omega,by go_num,fun t z ht hz=>by
       by_cases e:t=k
       ·subst e;rw [HX.out]at hz;cases hz;have hle: ∀(k:Nat) u,x.ups[k]? =some u→k<m:=fun k u hu=>by have:=(List.getElem?_eq_some_iff.1 hu).1;have:=HPN.out;omega
        exact⟨HVP.out.lo,HVP.out.hi,HVP.out.pr,HVP.out.up,HVP.out.sh,fun k u hu=>(HAL.out k u (hle k u hu) hu).1,fun k z u hz hu=>(HAL.out (k+1) u (hle _ u hu) hu).2 k z rfl hz⟩
       ·exact HA.out t z (by omega) hz,KRX.out⟩
      case measure=>simp [intOf];omega
  ·have h1: ¬(k:Int)<(n1:Int):=by omega
   obtain⟨V,HV⟩: ∃V,V=wr:=⟨_,rfl⟩;subst HV;have HALL:Hid (∀(t:Nat) x,d.vs[t]? =some x→VerOk d t x):=fun t x hx=>HA.out t x (by have:=(List.getElem?_eq_some_iff.1 hx).1;have:=E1.out;omega) hx;clear HA;go_wp2_with fail
   go_loopw [6] (fun i wr=> ∃j:Nat,j≤n2∧i= .int .i64 j∧(∀(t:Nat) x,t<j→d.bs[t]? =some x→BrcOk d t x)∧Below V.heap.size V wr) (fun i _=>n2-(intOf i).toNat)
   case atStart=>exact⟨0,Nat.zero_le _,rfl,fun t x ht=>by omega,Below.refl _ _⟩
   case round=>
    obtain⟨j,hj,rfl,hall,hbel⟩:=hrel;have HA:Hid (∀(t:Nat) x,t<j→d.bs[t]? =some x→BrcOk d t x):=hall;have KR:=hd (Qb KW.out hbel);have KV:Hid (Below V.heap.size V wr):=hbel;replace x_0:=cy hbel x_0;replace x_1:=cy hbel x_1;replace x_2:=cy hbel x_2
    replace zX:w.heap.size<wr.heap.size:=Nat.lt_of_lt_of_le zX hbel.size;clear hall hbel;by_cases hlj:j<n2
    ·obtain⟨x,hx⟩:=ZF E2.out hlj;have HX:Hid (d.bs[j]? =some x):=hx;have HXK:Hid (UF x):=HK.out.b x (List.mem_of_getElem? hx);obtain⟨b,o,rfl,hl,hc⟩:=RB.out.2 j x hx;have c0:w.cell? ⟨b,o+j*2,none⟩=some (.string x.n):=hc 0 _ rfl;have c3:w.cell? ⟨b,o+j*2+1,none⟩=some (.int .i64 x.h):=hc 1 _ rfl;rw [←KR.out.cell (p:=⟨_,_,none⟩) hl]at c0 c3
     have hl2:b<wr.heap.size:=Nat.lt_of_lt_of_le hl KR.out.size;have p0:(0:Int)≤(j:Int):=by omega
     have p1:(j:Int)<(n2:Int):=by omega
     have HPREV:Hid (∀(m:Nat) y,j=m+1→d.bs[m]? =some y→wr.cell? ⟨b,o+m*2,none⟩=some (.string y.n)):=fun m y e hy=>by
      obtain⟨b',o',e9,hl9,hc9⟩:=RB.out.2 m y hy;cases e9
      exact(KR.out.cell (p:=⟨_,_,none⟩) hl9).trans (hc9 0 _ rfl)
     clear hx hc;go_wp2_with fail
     go_upto_region 18 with fail
     obtain⟨Y,HY⟩: ∃X,Hid (wr.alloc (.cells #[.string x.n,.int .i64 x.h] 40)=X):=⟨_,rfl⟩;rw [HY.out];have hbY:Below wr.heap.size wr Y:=by rw [←HY.out];go_grown
     have y_0:Y.cell? ⟨wr.heap.size,0,none⟩=some (.string x.n):=by rw [←HY.out];go_simp
     have y_1:Y.cell? ⟨wr.heap.size,1,none⟩=some (.int .i64 x.h):=by rw [←HY.out];go_simp
     have zY:wr.heap.size<Y.heap.size:=by rw [←HY.out];simp
     replace x_0:=cy hbY x_0;replace x_1:=cy hbY x_1;replace x_2:=cy hbY x_2;replace zX:w.heap.size<Y.heap.size:=by omega
     have hl3:b<Y.heap.size:=by omega
     replace HPREV:Hid (∀(m:Nat) y,j=m+1→d.bs[m]? =some y→Y.cell? ⟨b,o+m*2,none⟩=some (.string y.n)):=fun m y e hy=>cy hbY (HPREV.out m y e hy);have KY:=hd (Qb KR.out hbY);have KYV:=hd (Qb KV.out hbY);have HDY:=HD.out.below KY.out;replace HDY:Hid (DgRow Y (.agg #[.int .i64 d.next,.slice A1 n1 c1,.slice (some ⟨b,o,none⟩) n2 c2]) d):=HDY;clear hbY HY c0 c3;obtain⟨nb,HNB⟩: ∃nb,Hid (nmB x.n=nb):=⟨_,rfl⟩
     refine wp_region_held_drew (S:=(fun w'=>(∀bq oq,bq<Y.heap.size→w'.cell? ⟨bq,oq,none⟩=Y.cell? ⟨bq,oq,none⟩)∧Y.heap.size≤w'.heap.size∧Below Y.heap.size Y w')) (by kernel_rfl) (Qk (Nat.le_refl _) (Below.refl _ _).drew) (fun hHeld=> ?_);refine tkA 0 ?_;refine tkB 1 ?_;refine rqA 2 (fun Kq hKq=> ?_);go_simp;refine(MB x.n _ HXK.out).mono ?_;rintro e w1 ⟨rfl,hw⟩
     subst w1;rw [HNB.out];refine hkB hKq (Qk (Nat.le_refl _) (by go_grown)) fun hHeld=> ?_;clear hKq Kq;cases nb
     ·refine tkA 3 ?_;refine tkB 4 ?_;refine tnA 5 ?_;refine tnB 6 ?_;refine tnA 7 ?_;refine tnB 8 ?_;refine tnA 9 ?_
      refine tkB 10 ?_;refine tkA 11 ?_;refine tnB 12 ?_;refine tnA 13 ?_;refine tnB 14 ?_;refine tnA 15 ?_;refine tnB 16 ?_
      refine tnA 17 ?_;refine tnB 18 ?_;refine tnA 19 ?_;refine tnB 20 ?_;refine tnA 21 ?_;refine tnB 22 ?_;refine tnA 23 ?_
      refine tnB 24 ?_;refine tnA 25 ?_;refine tkB 26 ?_;refine wpAnyH_done (by kernel_rfl) ?_ _;clear hHeld;go_wp2_with fail
      go_ret;exact⟨Qa (Qfh HX.out (Or.inl HNB.out)).symm,Qb KY.out (by go_grown)⟩
     refine tkA 3 ?_;refine tkB 4 ?_;refine tkA 5 ?_;refine tkB 6 ?_;refine tkB 7 ?_;refine rqA 8 (fun Kq hKq=> ?_);go_simp
     refine(Vj _ _ (HDY.out.below (by go_grown))).mono ?_;rintro e q3 ⟨r,rfl,hr,hb⟩;have HR9:Hid (r<0↔ ¬x.h∈QT d.vs):=hr;obtain⟨hk9,hz9⟩:=Qe (B:=Y.heap.size) (X:=Y) (by go_grown) (by go_size) hb;clear hb hr;refine hkB hKq (Qk (Nat.le_refl _) hk9) fun hHeld=> ?_;clear hKq Kq
     by_cases hme:x.h∈QT d.vs
     case neg=>
      have hr2:r<0:=HR9.out.2 hme;have HME:Hid (¬x.h∈QT d.vs):=hme;clear hme;refine tkA 9 ?_;refine tkB 10 ?_;refine tkA 11 ?_;refine tnB 12 ?_
      refine tnA 13 ?_;refine tnB 14 ?_;refine tnA 15 ?_;refine tnB 16 ?_;refine tnA 17 ?_;refine tnB 18 ?_;refine tnA 19 ?_
      refine tnB 20 ?_;refine tnA 21 ?_;refine tnB 22 ?_;refine tnA 23 ?_;refine tnB 24 ?_;refine tnA 25 ?_;refine tkB 26 ?_
      refine wpAnyH_done (by kernel_rfl) ?_ _;clear hHeld;go_wp2_with fail
      go_ret;exact⟨Qa (Qfh HX.out (Or.inr HME.out)).symm,Qb KY.out (by go_grown)⟩
     have hr2: ¬r<0:=fun h9=>HR9.out.1 h9 hme;have HME:Hid (x.h∈QT d.vs):=hme;clear hme;refine tkA 9 ?_;refine tkB 10 ?_;refine tkA 11 ?_;refine tkB 12 ?_
     by_cases j0:j=0
     ·subst j0;have hj0: ¬(0:Int)<((0:Nat):Int):=by omega
      refine tkA 13 ?_;refine tkB 14 ?_;refine tnA 15 ?_;refine tnB 16 ?_;refine tnA 17 ?_;refine tnB 18 ?_;refine tnA 19 ?_
      refine tnB 20 ?_;refine tnA 21 ?_;refine tnB 22 ?_;refine tnA 23 ?_;refine tnB 24 ?_;refine tkA 25 ?_;refine tkB 26 ?_
      refine wpAnyH_done (by kernel_rfl) ?_ _;clear hHeld;go_wp2_with fail
      go_roundw
      case rel=>exact⟨0+1,by omega,by go_num,fun t y ht hy=>(by obtain rfl:t=0:=(by omega);rw [HX.out]at hy;cases hy;exact⟨HNB.out,HME.out,fun s z e=>by omega⟩),Qb KYV.out (by go_grown)⟩
      case measure=>simp [intOf];omega
     obtain⟨m1,HM1⟩: ∃m1,Hid (j=m1+1):=⟨j-1,(by omega:j=j-1+1)⟩;have hj0:0<j:=by omega
     obtain⟨y,hy⟩:=ZF E2.out (show m1<n2 by have:=HM1.out;omega);have HYY:Hid (d.bs[m1]? =some y):=hy;have p_0:=HPREV.out m1 y HM1.out hy;have p2:(0:Int)≤(m1:Int):=by omega
     have p3:(m1:Int)<(n2:Int):=by have:=HM1.out;omega
     have p4:IntKind.i64.wrap ((j:Int)-1)=(m1:Int):=by rw [IntKind.wrap_i64];have:=HM1.out;omega
     clear hy;refine tkA 13 ?_;refine tkB 14 ?_;refine tkA 15 ?_;refine tkB 16 ?_;refine tkA 17 ?_;refine tkB 18 ?_
     refine tkA 19 ?_;refine tkB 20 ?_;refine tkA 21 ?_;refine tkB 22 ?_;refine tkB 23 ?_;cases hq:ltB y x
     ·have HQ:Hid (ltB y x=false):=hq;have hq2:Op.bytesLess y.n.toList x.n.toList=false:=hq;clear hq;refine tkA 24 ?_;refine tkB 25 ?_;refine tkB 26 ?_;refine wpAnyH_done (by kernel_rfl) ?_ _
      clear hHeld;go_wp2_with fail
      go_ret;exact⟨Qa (Qea (by rw [←HM1.out];exact HX.out) HYY.out HQ.out).symm,Qb KY.out (by go_grown)⟩
     have HQ:Hid (ltB y x=true):=hq;have hq2:Op.bytesLess y.n.toList x.n.toList=true:=hq;clear hq;refine tkA 24 ?_;refine tkB 25 ?_;refine tkB 26 ?_;refine wpAnyH_done (by kernel_rfl) ?_ _
     clear hHeld;go_wp2_with fail
     go_roundw
     case rel=>exact⟨j+1,by omega,by go_num,fun t z ht hz=>(by by_cases e:t=j;(subst e;rw [HX.out]at hz;cases hz;exact⟨HNB.out,HME.out,fun s z e hz=>(by have:=HM1.out;obtain rfl:s=m1:=(by omega);rw [HYY.out]at hz;cases hz;exact HQ.out)⟩);exact HA.out t z (by omega) hz),Qb KYV.out (by go_grown)⟩
     case measure=>simp [intOf];omega
    ·have p1: ¬(j:Int)<(n2:Int):=by omega
     go_wp2_with fail
     go_ret;exact⟨Qa (Qih (by omega) (by omega) (by rw [E1.out];omega) (by rw [E1.out];omega) (by rw [E2.out];omega) (by rw [E2.out];omega) HALL.out (fun t z hz=>HA.out t z (by have:=(List.getElem?_eq_some_iff.1 hz).1;have:=E2.out;omega) hz)).symm,KR.out⟩
end Go.Proofs.YtdcokcbolecanaaGreatDoor
