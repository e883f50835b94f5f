import Derived.Test.YtbdhinckiccniaaGreatDoorMn
import Derived.Test.YtbdhinckiccniaaGreatDoorSb
import Derived.Test.YtbdhinckiccniaaGreatDoorSa
import Derived.Test.YtbdhinckiccniaaGreatDoorGze
import Derived.BigQuiet
import Derived.Deep.RegionHeld3
import Derived.Deep.DeepCutAuto
set_option linter.unusedSimpArgs false
set_option linter.unusedVariables false
set_option maxHeartbeats 40000000
set_option maxRecDepth 100000
namespace Go.Proofs.YtbdhinckiccniaaGreatDoor
open Go.RowKit Go.Maps
theorem Ye(n lo hi:Int)(w:World):Calls Tryz.prog 121 #[.int .i64 n,.int .i64 lo,.int .i64 hi] w fun e w'=>e= .returned (.bool (decide (lo≤n)&&decide (n≤hi)))∧w'=w:=by
 by_cases h1:lo≤n
 ·by_cases h2:n≤hi
  ·go_enter Tryz.func121,Tryz.ntmps121;go_wp2_with fail
   go_ret;exact⟨Qb (by simp[h1,h2]),rfl⟩
  ·go_enter Tryz.func121,Tryz.ntmps121;go_wp2_with fail
   go_ret;exact⟨Qb (by simp;omega),rfl⟩
 ·go_enter Tryz.func121,Tryz.ntmps121;go_wp2_with fail
  go_ret;exact⟨Qb (by simp;omega),rfl⟩
structure VerP (d:DG) (t:Nat) (x:VR):Prop where
 lo:1≤x.id
 hi:x.id<d.next
 pr: ∀(s:Nat) y,t=s+1→d.vs[s]? =some y→y.id<x.id
 up:x.ups.length≤2
 sh:Qx x.C x.R x.S x.m=true
theorem Qde{v:Value}{d:DG}(w:World)(h:DgRow w v d)(hk:DgOk d):
  Calls Tryz.prog 66 #[v] w fun e w'=>e= .returned (.bool (YW d))∧Below w.heap.size w w':=by
 have HD:Hid (DgRow w v d):=h;obtain⟨A1,n1,c1,A2,n2,c2,rfl⟩:=h.agg;obtain⟨r1,e1,r2,e2⟩:=h.open;have R1:Hid (VrRow w A1 d.vs):=r1;have RB:Hid (Xy w A2 d.bs):=r2;have E1:Hid (d.vs.length=n1):=e1;have E2:Hid (d.bs.length=n2):=e2
 have HK:Hid (DgOk d):=hk;have hn1:=r1.1;have hn2:=r2.1;rw[e1]at hn1;rw[e2]at hn2;unfold maxLen at hn1 hn2;clear h r1 r2 e1 e2 hk
 by_cases g0:d.next<2∨1000000000<d.next
 ·have HI0:Hid ((decide (2≤d.next)&&decide (d.next≤1000000000))=false):=by show _=_;rw[Bool.and_eq_false_iff,decide_eq_false_iff_not,decide_eq_false_iff_not];omega
  go_enter Tryz.func66,Tryz.ntmps66;go_wp2_with (first | (go_at_call 121;refine(Ye _ _ _ _).mono ?_;rintro e w1 ⟨rfl,hw⟩;subst w1;rw[HI0.out]))
  go_ret;exact⟨Qb (Qcn g0).symm,by go_grown⟩
 have HI0:Hid ((decide (2≤d.next)&&decide (d.next≤1000000000))=true):=by show _=_;rw[Bool.and_eq_true,decide_eq_true_eq,decide_eq_true_eq];omega
 by_cases g1:(n1:Int)<1
 ·go_enter Tryz.func66,Tryz.ntmps66;go_wp2_with (first | (go_at_call 121;refine(Ye _ _ _ _).mono ?_;rintro e w1 ⟨rfl,hw⟩;subst w1;try rw[HI0.out]))
  go_ret;exact⟨Qb (Nt (Or.inl (by rw[E1.out];omega))).symm,by go_grown⟩
 by_cases g2:(40:Int)<(n1:Int)
 ·go_enter Tryz.func66,Tryz.ntmps66;go_wp2_with (first | (go_at_call 121;refine(Ye _ _ _ _).mono ?_;rintro e w1 ⟨rfl,hw⟩;subst w1;try rw[HI0.out]))
  go_ret;exact⟨Qb (Nt (Or.inr (by rw[E1.out];omega))).symm,by go_grown⟩
 by_cases g3:(n2:Int)<1
 ·go_enter Tryz.func66,Tryz.ntmps66;go_wp2_with (first | (go_at_call 121;refine(Ye _ _ _ _).mono ?_;rintro e w1 ⟨rfl,hw⟩;subst w1;try rw[HI0.out]))
  go_ret;exact⟨Qb (Nu (Or.inl (by rw[E2.out];omega))).symm,by go_grown⟩
 by_cases g4:(8:Int)<(n2:Int)
 ·go_enter Tryz.func66,Tryz.ntmps66;go_wp2_with (first | (go_at_call 121;refine(Ye _ _ _ _).mono ?_;rintro e w1 ⟨rfl,hw⟩;subst w1;try rw[HI0.out]))
  go_ret;exact⟨Qb (Nu (Or.inr (by rw[E2.out];omega))).symm,by go_grown⟩
 have hwn:IntKind.i64.wrap (d.next-1)=d.next-1:=by rw[IntKind.wrap_i64];omega
 go_enter Tryz.func66,Tryz.ntmps66;go_wp2_with (first | (go_at_call 121;refine(Ye _ _ _ _).mono ?_;rintro e w1 ⟨rfl,hw⟩;subst w1;rw[HI0.out]))
 obtain⟨X,HX⟩: ∃X,Hid (w.alloc (.cells #[.int .i64 d.next,.slice A1 n1 c1,.slice A2 n2 c2] 43)=X):=⟨_,rfl⟩;rw[HX.out];have x_0:X.cell? ⟨w.heap.size,0,none⟩=some (.int .i64 d.next):=by rw[←HX.out];go_simp
 have x_1:X.cell? ⟨w.heap.size,1,none⟩=some (.slice A1 n1 c1):=by rw[←HX.out];go_simp
 have x_2:X.cell? ⟨w.heap.size,2,none⟩=some (.slice A2 n2 c2):=by rw[←HX.out];go_simp
 have zX:w.heap.size<X.heap.size:=by rw[←HX.out];simp
 have KX:Hid (Below w.heap.size w X):=by rw[←HX.out];show Below _ _ _;go_grown
 clear HX;go_loopw [3] (fun i wr=> ∃k:Nat,k≤n1∧i= .int .i64 k∧(∀(t:Nat) x,t<k→d.vs[t]? =some x→VerOk d t x)∧Below X.heap.size X wr) (fun i _=>n1-(intOf i).toNat)
 case atStart=>exact⟨0,Nat.zero_le _,rfl,fun t x ht=>by omega,Below.refl _ _⟩
 case round=>
  obtain⟨k,hk,rfl,hall,hbel⟩:=hrel;have HA:Hid (∀(t:Nat) x,t<k→d.vs[t]? =some x→VerOk d t x):=hall;have KW:=hd (Qc KX.out hbel);have KB:Hid (Below X.heap.size X wr):=hbel;replace x_0:=cy hbel x_0;replace x_1:=cy hbel x_1;replace x_2:=cy hbel x_2
  replace zX:w.heap.size<wr.heap.size:=Nat.lt_of_lt_of_le zX hbel.size;clear hall hbel;by_cases hlt:k<n1
  ·obtain⟨x,hx⟩:=Zw E1.out hlt;have HX:Hid (d.vs[k]? =some x):=hx;obtain⟨b,o,u,uc,s,sc,rfl,hl,c0,c1,c2,r1,r2⟩:=R1.out.2 k x hx;have HXW:Hid (∀u∈x.ups,(Lit.int .i64 u).wf=true):=(HK.out.v x (List.mem_of_getElem? hx)).2;have R2:Hid (ClRow wr s x.m x.C x.R x.S):=r2.below KW.out;have RU:Hid (IntRow wr u x.ups):=r1.below KW.out;rw[←KW.out.cell (p:=⟨_,_,none⟩) hl]at c0 c1 c2
   have hl2:b<wr.heap.size:=Nat.lt_of_lt_of_le hl KW.out.size;have h0:(0:Int)≤(k:Int):=by omega
   have h1:(k:Int)<(n1:Int):=by omega
   obtain⟨pn,HPN⟩: ∃pn,Hid (x.ups.length=pn):=⟨_,rfl⟩;rw[HPN.out]at c1;obtain⟨cb,HCB⟩: ∃cb,Hid (Qx x.C x.R x.S x.m=cb):=⟨_,rfl⟩
   have HPREV:Hid (∀m y,k=m+1→d.vs[m]? =some y→wr.cell? ⟨b,o+m*3,none⟩=some (.int .i64 y.id)):=fun m y e hy=>by
    obtain⟨b',o',_,_,_,_,e9,hl9,d0,_⟩:=R1.out.2 m y hy;cases e9
    exact(KW.out.cell (p:=⟨_,_,none⟩) hl9).trans d0
   clear hx r1 r2;go_wp2_with fail
   go_upto_region 7 with fail
   obtain⟨Y,HY⟩: ∃X,Hid (wr.alloc (.cells #[.int .i64 x.id,.slice u pn uc,.slice s x.m sc] 72)=X):=⟨_,rfl⟩;rw[HY.out];have hbY:Below wr.heap.size wr Y:=by rw[←HY.out];go_grown
   have y_0:Y.cell? ⟨wr.heap.size,0,none⟩=some (.int .i64 x.id):=by rw[←HY.out];go_simp
   have y_1:Y.cell? ⟨wr.heap.size,1,none⟩=some (.slice u pn uc):=by rw[←HY.out];go_simp
   have y_2:Y.cell? ⟨wr.heap.size,2,none⟩=some (.slice s x.m sc):=by rw[←HY.out];go_simp
   have zY:wr.heap.size<Y.heap.size:=by rw[←HY.out];simp
   replace x_0:=cy hbY x_0;replace x_1:=cy hbY x_1;replace x_2:=cy hbY x_2;replace zX:w.heap.size<Y.heap.size:=by omega
   have hl3:b<Y.heap.size:=by omega
   replace HPREV:Hid (∀m y,k=m+1→d.vs[m]? =some y→Y.cell? ⟨b,o+m*3,none⟩=some (.int .i64 y.id)):=fun m y e hy=>cy hbY (HPREV.out m y e hy);have KY:=hd (Qc KW.out hbY);have KYX:=hd (Qc KB.out hbY);replace R2:=hd (R2.out.below hbY);replace RU:=hd (RU.out.below hbY);clear hbY HY c0 c1 c2;go_cut [82]from 36 to 125 (fun c wx=>(c= .bool true∧YW d=false∨c= .bool false∧VerP d k x)∧Below Y.heap.size Y wx)
   case first=>
    obtain⟨ib,HIN⟩: ∃ib,Hid ((decide (1≤x.id)&&decide (x.id≤d.next-1))=ib):=⟨_,rfl⟩;refine wp_region_held_drew (S:=(fun w'=>(∀bq oq,bq<Y.heap.size→w'.cell? ⟨bq,oq,none⟩=Y.cell? ⟨bq,oq,none⟩)∧Y.heap.size≤w'.heap.size∧Below Y.heap.size Y w')) (by kernel_rfl) (Qp (Nat.le_refl _) (Below.refl _ _).drew) (fun hHeld=> ?_);refine tkA 0 ?_;refine tkB 1 ?_;refine tkA 2 ?_;refine tkB 3 ?_;refine tkB 4 ?_
    refine rqA 5 (fun Kq hKq=> ?_);go_simp;refine(Ye x.id 1 (d.next-1) _).mono ?_;rintro e w1 ⟨rfl,hw⟩;subst w1;rw[HIN.out];refine hkB hKq (Qp (Nat.le_refl _) (by go_grown)) fun hHeld=> ?_
    clear hKq Kq;cases ib
    ·have i1:x.id<1∨d.next≤x.id:=by have:=HIN.out;rw[Bool.and_eq_false_iff,decide_eq_false_iff_not,decide_eq_false_iff_not]at this;omega
     refine tkA 6 ?_;refine tkB 7 ?_;refine tnA 8 ?_;refine tnB 9 ?_;refine tnA 10 ?_;refine tnB 11 ?_;refine tnA 12 ?_
     refine tnB 13 ?_;refine tnA 14 ?_;refine tnB 15 ?_;refine tnA 16 ?_;refine tnB 17 ?_;refine tnA 18 ?_;refine tnB 19 ?_
     refine tnA 20 ?_;refine tnB 21 ?_;refine tkA 22 ?_;refine tkB 23 ?_;refine tnA 24 ?_;refine tnB 25 ?_;refine tnA 26 ?_
     refine tnB 27 ?_;refine tkA 28 ?_;refine tkB 29 ?_;refine tnA 30 ?_;refine tnB 31 ?_;refine tnA 32 ?_;refine tnB 33 ?_
     refine tkB 34 ?_;refine wpAnyH_done (by kernel_rfl) ?_ _;clear hHeld;go_wp2_with fail
     go_meet;exact⟨Or.inl ⟨rfl,Qeu HX.out i1⟩,by go_grown⟩
    have i1:1≤x.id∧x.id<d.next:=by have:=HIN.out;rw[Bool.and_eq_true,decide_eq_true_eq,decide_eq_true_eq]at this;omega
    refine tkA 6 ?_;refine tkB 7 ?_;refine tkB 8 ?_;by_cases k0:k=0
    ·subst k0;have hk0: ¬(0:Int)<((0:Nat):Int):=by omega
     refine tkA 9 ?_;refine tkB 10 ?_;refine tnA 11 ?_;refine tnB 12 ?_;refine tnA 13 ?_;refine tnB 14 ?_;refine tnA 15 ?_
     refine tnB 16 ?_;refine tnA 17 ?_;refine tnB 18 ?_;refine tnA 19 ?_;refine tnB 20 ?_;refine tkA 21 ?_;refine tkB 22 ?_
     refine tkA 23 ?_;refine tkB 24 ?_;refine tkA 25 ?_;refine tkB 26 ?_;by_cases hu:(2:Int)<(pn:Int)
     ·refine tkA 27 ?_;refine tkB 28 ?_;refine tkA 29 ?_;refine tnB 30 ?_;refine tnA 31 ?_;refine tnB 32 ?_;refine tnA 33 ?_
      refine tkB 34 ?_;refine wpAnyH_done (by kernel_rfl) ?_ _;clear hHeld;go_wp2_with fail
      go_meet;exact⟨Or.inl ⟨rfl,Ez HX.out (by rw[HPN.out];omega)⟩,by go_grown⟩
     refine tkA 27 ?_;refine tkB 28 ?_;refine tkA 29 ?_;refine tkB 30 ?_;refine tkB 31 ?_;refine rqA 32 (fun Kq hKq=> ?_);go_simp
     refine(YY _ (R2.out.below (by go_grown))).mono ?_;rintro e q3 ⟨rfl,hb⟩;rw[HCB.out];obtain⟨hk9,hz9⟩:=Qg (B:=Y.heap.size) (X:=Y) (by go_grown) (by go_size) hb;clear hb;refine hkB hKq (Qp (Nat.le_refl _) hk9) fun hHeld=> ?_;clear hKq Kq
     cases cb
     ·refine tkA 33 ?_;refine tkB 34 ?_;refine wpAnyH_done (by kernel_rfl) ?_ _;clear hHeld;go_wp2_with fail
      go_meet;exact⟨Or.inl ⟨rfl,DJ HX.out HCB.out⟩,by go_grown⟩
     refine tkA 33 ?_;refine tkB 34 ?_;refine wpAnyH_done (by kernel_rfl) ?_ _;clear hHeld;go_wp2_with fail
     go_meet;exact⟨Or.inr ⟨rfl,⟨by omega,by omega,fun s y e=>by omega,by rw[HPN.out];omega,HCB.out⟩⟩,by go_grown⟩
    obtain⟨m,HM⟩: ∃m,Hid (k=m+1):=⟨k-1,(by omega:k=k-1+1)⟩;have hk0:0<k:=by omega
    obtain⟨y,hy⟩:=Zw E1.out (show m<n1 by have:=HM.out;omega);have HYY:Hid (d.vs[m]? =some y):=hy;have p_0:=HPREV.out m y HM.out hy;have q2:(0:Int)≤(m:Int):=by omega
    have q3:(m:Int)<(n1:Int):=by have:=HM.out;omega
    have q4:IntKind.i64.wrap ((k:Int)-1)=(m:Int):=by rw[IntKind.wrap_i64];have:=HM.out;omega
    clear hy;refine tkA 9 ?_;refine tkB 10 ?_;refine tkA 11 ?_;refine tkB 12 ?_;refine tkA 13 ?_;refine tkB 14 ?_
    refine tkA 15 ?_;refine tkB 16 ?_;refine tkA 17 ?_;refine tkB 18 ?_;refine tkB 19 ?_;by_cases hge:x.id≤y.id
    ·refine tkA 20 ?_;refine tkB 21 ?_;refine tkA 22 ?_;refine tkB 23 ?_;refine tnA 24 ?_;refine tnB 25 ?_;refine tnA 26 ?_
     refine tnB 27 ?_;refine tkA 28 ?_;refine tkB 29 ?_;refine tnA 30 ?_;refine tnB 31 ?_;refine tnA 32 ?_;refine tnB 33 ?_
     refine tkB 34 ?_;refine wpAnyH_done (by kernel_rfl) ?_ _;clear hHeld;go_wp2_with fail
     go_meet;exact⟨Or.inl ⟨rfl,Qls (by rw[←HM.out];exact HX.out) HYY.out (by omega)⟩,by go_grown⟩
    refine tkA 20 ?_;refine tkB 21 ?_;refine tkA 22 ?_;refine tkB 23 ?_;refine tkA 24 ?_;refine tkB 25 ?_;refine tkB 26 ?_
    by_cases hu:(2:Int)<(pn:Int)
    ·refine tkA 27 ?_;refine tkB 28 ?_;refine tkA 29 ?_;refine tnB 30 ?_;refine tnA 31 ?_;refine tnB 32 ?_;refine tnA 33 ?_
     refine tkB 34 ?_;refine wpAnyH_done (by kernel_rfl) ?_ _;clear hHeld;go_wp2_with fail
     go_meet;exact⟨Or.inl ⟨rfl,Ez HX.out (by rw[HPN.out];omega)⟩,by go_grown⟩
    refine tkA 27 ?_;refine tkB 28 ?_;refine tkA 29 ?_;refine tkB 30 ?_;refine tkB 31 ?_;refine rqA 32 (fun Kq hKq=> ?_);go_simp
    refine(YY _ (R2.out.below (by go_grown))).mono ?_;rintro e q3 ⟨rfl,hb⟩;rw[HCB.out];obtain⟨hk9,hz9⟩:=Qg (B:=Y.heap.size) (X:=Y) (by go_grown) (by go_size) hb;clear hb;refine hkB hKq (Qp (Nat.le_refl _) hk9) fun hHeld=> ?_;clear hKq Kq
    cases cb
    ·refine tkA 33 ?_;refine tkB 34 ?_;refine wpAnyH_done (by kernel_rfl) ?_ _;clear hHeld;go_wp2_with fail
     go_meet;exact⟨Or.inl ⟨rfl,DJ HX.out HCB.out⟩,by go_grown⟩
    refine tkA 33 ?_;refine tkB 34 ?_;refine wpAnyH_done (by kernel_rfl) ?_ _;clear hHeld;go_wp2_with fail
    go_meet;exact⟨Or.inr ⟨rfl,⟨by omega,by omega,fun s z e hz=>(by have:=HM.out;obtain rfl:s=m:=(by omega);rw[HYY.out]at hz;cases hz;omega),by rw[HPN.out];omega,HCB.out⟩⟩,by go_grown⟩
   case rest=>
    obtain⟨hc9,hbc⟩:=hcut;have KC:=hd (Qc KY.out hbc);have KCX:=hd (Qc KYX.out hbc);replace y_0:=cy hbc y_0;replace y_1:=cy hbc y_1;replace x_0:=cy hbc x_0;replace x_1:=cy hbc x_1
    replace x_2:=cy hbc x_2;replace zX:w.heap.size<wc.heap.size:=Nat.lt_of_lt_of_le zX hbc.size;replace zY:wr.heap.size<wc.heap.size:=Nat.lt_of_lt_of_le zY hbc.size;replace RU:=hd (RU.out.below hbc);clear hbc R2 HPREV KY KYX y_2 KW KB hl2 hl3 HCB;obtain⟨yb,HYB⟩: ∃yb,Hid (wr.heap.size=yb):=⟨_,rfl⟩;rw[HYB.out]at y_0 y_1 zY ⊢
    clear HYB;rcases hc9 with⟨rfl,hf⟩ | ⟨rfl,hv⟩
    ·go_wp2_with fail
     go_ret;exact⟨Qb hf.symm,KC.out⟩
    have HVP:Hid (VerP d k x):=hv;have hpb:pn≤2:=by have h8:=hv.up;rw[HPN.out]at h8;exact h8
    clear hv;go_wp2_with fail
    go_loopw [5] (fun j wr=> ∃m:Nat,m≤pn∧j= .int .i64 m∧(∀(t:Nat) u,t<m→x.ups[t]? =some u→(u<x.id∧u∈QA d.vs)∧ ∀(s:Nat) z,t=s+1→x.ups[s]? =some z→z<u)∧Below wc.heap.size wc wr) (fun j _=>pn-(intOf j).toNat)
    case atStart=>exact⟨0,Nat.zero_le _,rfl,fun t u ht=>by omega,Below.refl _ _⟩
    case round=>
     obtain⟨m,hm,rfl,hal,hbel⟩:=hrel;have HAL:Hid (∀(t:Nat) u,t<m→x.ups[t]? =some u→(u<x.id∧u∈QA d.vs)∧ ∀(s:Nat) z,t=s+1→x.ups[s]? =some z→z<u):=hal;have KR:=hd (Qc KC.out hbel);have KBI:Hid (Below wc.heap.size wc wr):=hbel;have KRX:=hd (Qc KCX.out hbel);replace y_0:=cy hbel y_0;replace y_1:=cy hbel y_1
     replace x_0:=cy hbel x_0;replace x_1:=cy hbel x_1;replace x_2:=cy hbel x_2;replace zX:w.heap.size<wr.heap.size:=Nat.lt_of_lt_of_le zX hbel.size;replace zY:yb<wr.heap.size:=Nat.lt_of_lt_of_le zY hbel.size;have RW:=hd (RU.out.below hbel);have HDW:=HD.out.below KR.out
     replace HDW:Hid (DgRow wr (.agg #[.int .i64 d.next,.slice (some ⟨b,o,none⟩) n1 c1,.slice A2 n2 c2]) d):=HDW;clear hal hbel;by_cases hlm:m<pn
     ·obtain⟨u1,hu⟩:=Zw HPN.out hlm;have HU:Hid (x.ups[m]? =some u1):=hu;obtain⟨b2,o2,rfl,hl4,c0⟩:=Xp RW.out hu;have p0:(0:Int)≤(m:Int):=by omega
      have p1:(m:Int)<(pn:Int):=by omega
      clear hu;go_wp2_with fail
      go_upto_region 12 with fail
      refine wp_region_held_drew (S:=(fun w'=>(∀bq oq,bq<wr.heap.size→w'.cell? ⟨bq,oq,none⟩=wr.cell? ⟨bq,oq,none⟩)∧wr.heap.size≤w'.heap.size∧Below wr.heap.size wr w')) (by kernel_rfl) (Qp (Nat.le_refl _) (Below.refl _ _).drew) (fun hHeld=> ?_);refine tkA 0 ?_;refine tkB 1 ?_;refine tkA 2 ?_;refine tkB 3 ?_;refine tkA 4 ?_;refine tkB 5 ?_
      refine tkB 6 ?_;by_cases i1:x.id≤u1
      ·refine tkA 7 ?_;refine tkB 8 ?_;refine tnA 9 ?_;refine tnB 10 ?_;refine tnA 11 ?_;refine tnB 12 ?_;refine tnA 13 ?_
       refine tnB 14 ?_;refine tnA 15 ?_;refine tnB 16 ?_;refine tkA 17 ?_;refine tkB 18 ?_;refine tnA 19 ?_;refine tnB 20 ?_
       refine tnA 21 ?_;refine tnB 22 ?_;refine tnA 23 ?_;refine tnB 24 ?_;refine tnA 25 ?_;refine tnB 26 ?_;refine tnA 27 ?_
       refine tnB 28 ?_;refine tnA 29 ?_;refine tnB 30 ?_;refine tnA 31 ?_;refine tnB 32 ?_;refine tnA 33 ?_;refine tnB 34 ?_
       refine tkB 35 ?_;refine wpAnyH_done (by kernel_rfl) ?_ _;clear hHeld;go_wp2_with fail
       go_ret;exact⟨Qb (Qet HX.out HU.out (Or.inl (by omega))).symm,Qc KR.out (by go_grown)⟩
      refine tkA 7 ?_;refine tkB 8 ?_;refine tkA 9 ?_;refine tkB 10 ?_;refine tkA 11 ?_;refine tkB 12 ?_;refine tkA 13 ?_
      refine tkB 14 ?_;refine rqA 15 (fun Kq hKq=> ?_);go_simp;refine(Ha _ _ (HDW.out.below (by go_grown))).mono ?_;rintro e q3 ⟨r,rfl,hr,hb⟩;have HR9:Hid (r<0↔ ¬u1∈QA d.vs):=hr;obtain⟨hk9,hz9⟩:=Qg (B:=wr.heap.size) (X:=wr) (by go_grown) (by go_size) hb
      clear hb hr;refine hkB hKq (Qp (Nat.le_refl _) hk9) fun hHeld=> ?_;clear hKq Kq;by_cases hme:u1∈QA d.vs
      case neg=>
       have hr2:r<0:=HR9.out.2 hme;have HME:Hid (¬u1∈QA d.vs):=hme;clear hme;refine tkA 16 ?_;refine tkB 17 ?_;refine tkA 18 ?_;refine tnB 19 ?_
       refine tnA 20 ?_;refine tnB 21 ?_;refine tnA 22 ?_;refine tnB 23 ?_;refine tnA 24 ?_;refine tnB 25 ?_;refine tnA 26 ?_
       refine tnB 27 ?_;refine tnA 28 ?_;refine tnB 29 ?_;refine tnA 30 ?_;refine tnB 31 ?_;refine tnA 32 ?_;refine tnB 33 ?_
       refine tnA 34 ?_;refine tkB 35 ?_;refine wpAnyH_done (by kernel_rfl) ?_ _;clear hHeld;go_wp2_with fail
       go_ret;exact⟨Qb (Qet HX.out HU.out (Or.inr HME.out)).symm,Qc KR.out (by go_grown)⟩
      have hr2: ¬r<0:=fun h9=>HR9.out.1 h9 hme;have HME:Hid (u1∈QA d.vs):=hme;clear hme;refine tkA 16 ?_;refine tkB 17 ?_;refine tkA 18 ?_;refine tkB 19 ?_
      by_cases m0:m=0
      ·subst m0;have hm0: ¬(0:Int)<((0:Nat):Int):=by omega
       refine tkA 20 ?_;refine tkB 21 ?_;refine tnA 22 ?_;refine tnB 23 ?_;refine tnA 24 ?_;refine tnB 25 ?_;refine tnA 26 ?_
       refine tnB 27 ?_;refine tnA 28 ?_;refine tnB 29 ?_;refine tnA 30 ?_;refine tnB 31 ?_;refine tnA 32 ?_;refine tnB 33 ?_
       refine tkA 34 ?_;refine tkB 35 ?_;refine wpAnyH_done (by kernel_rfl) ?_ _;clear hHeld;go_wp2_with fail
       go_roundw
       case rel=>exact⟨0+1,by omega,by go_num,fun t u ht hu=>(by obtain rfl:t=0:=(by omega);rw[HU.out]at hu;cases hu;exact⟨⟨by omega,HME.out⟩,fun s z e=>by omega⟩),Qc KBI.out (by go_grown)⟩
       case measure=>simp[intOf];omega
      obtain⟨m1,HM1⟩: ∃m1,Hid (m=m1+1):=⟨m-1,(by omega:m=m-1+1)⟩;have hm0:0<m:=by omega
      obtain⟨z1,hz⟩:=Zw HPN.out (show m1<pn by have:=HM1.out;omega);have HZ:Hid (x.ups[m1]? =some z1):=hz;obtain⟨b3,o3,e3,_,p_0⟩:=Xp RW.out hz;cases e3
      have p2:(0:Int)≤(m1:Int):=by omega
      have p3:(m1:Int)<(pn:Int):=by have:=HM1.out;omega
      have p4:IntKind.i64.wrap ((m:Int)-1)=(m1:Int):=by rw[IntKind.wrap_i64];have:=HM1.out;omega
      clear hz;refine tkA 20 ?_;refine tkB 21 ?_;refine tkA 22 ?_;refine tkB 23 ?_;refine tkA 24 ?_;refine tkB 25 ?_
      refine tkA 26 ?_;refine tkB 27 ?_;refine tkA 28 ?_;refine tkB 29 ?_;refine tkA 30 ?_;refine tkB 31 ?_;refine tkB 32 ?_
      by_cases i3:u1≤z1
      ·refine tkA 33 ?_;refine tkB 34 ?_;refine tkB 35 ?_;refine wpAnyH_done (by kernel_rfl) ?_ _;clear hHeld;go_wp2_with fail
       go_ret;exact⟨Qb (Qlr HX.out (by rw[←HM1.out];exact HU.out) HZ.out (by omega)).symm,Qc KR.out (by go_grown)⟩
      refine tkA 33 ?_;refine tkB 34 ?_;refine tkB 35 ?_;refine wpAnyH_done (by kernel_rfl) ?_ _;clear hHeld;go_wp2_with fail
      go_roundw
      case rel=>exact⟨m+1,by omega,by go_num,fun t u ht hu=>(by by_cases e:t=m;(subst e;rw[HU.out]at hu;cases hu;exact⟨⟨by omega,HME.out⟩,fun s z e hz=>(by have:=HM1.out;obtain rfl:s=m1:=(by omega);rw[HZ.out]at hz;cases hz;omega)⟩);exact HAL.out t u (by omega) hu),Qc KBI.out (by go_grown)⟩
      case measure=>simp[intOf];omega
     ·have p1: ¬(m:Int)<(pn:Int):=by omega
      go_wp2_with fail
      go_roundw
      case rel=>exact⟨k+1,by omega,by go_num,fun t z ht hz=>by
       by_cases e:t=k
       ·subst e;rw[HX.out]at hz;cases hz;have hle: ∀(k:Nat) u,x.ups[k]? =some u→k<m:=fun k u hu=>by have:=(List.getElem?_eq_some_iff.1 hu).1;have:=HPN.out;omega
        exact⟨HVP.out.lo,HVP.out.hi,HVP.out.pr,HVP.out.up,HVP.out.sh,fun k u hu=>(HAL.out k u (hle k u hu) hu).1,fun k z u hz hu=>(HAL.out (k+1) u (hle _ u hu) hu).2 k z rfl hz⟩
       ·exact HA.out t z (by omega) hz,KRX.out⟩
      case measure=>simp[intOf];omega
  ·have h1: ¬(k:Int)<(n1:Int):=by omega
   obtain⟨V,HV⟩: ∃V,V=wr:=⟨_,rfl⟩;subst HV;have HALL:Hid (∀(t:Nat) x,d.vs[t]? =some x→VerOk d t x):=fun t x hx=>HA.out t x (by have:=(List.getElem?_eq_some_iff.1 hx).1;have:=E1.out;omega) hx;clear HA;go_wp2_with fail
   go_loopw [6] (fun i wr=> ∃j:Nat,j≤n2∧i= .int .i64 j∧(∀(t:Nat) x,t<j→d.bs[t]? =some x→BrcOk d t x)∧Below V.heap.size V wr) (fun i _=>n2-(intOf i).toNat)
   case atStart=>exact⟨0,Nat.zero_le _,rfl,fun t x ht=>by omega,Below.refl _ _⟩
   case round=>
    obtain⟨j,hj,rfl,hall,hbel⟩:=hrel;have HA:Hid (∀(t:Nat) x,t<j→d.bs[t]? =some x→BrcOk d t x):=hall;have KR:=hd (Qc KW.out hbel);have KV:Hid (Below V.heap.size V wr):=hbel;replace x_0:=cy hbel x_0;replace x_1:=cy hbel x_1;replace x_2:=cy hbel x_2
    replace zX:w.heap.size<wr.heap.size:=Nat.lt_of_lt_of_le zX hbel.size;clear hall hbel;by_cases hlj:j<n2
    ·obtain⟨x,hx⟩:=Zw E2.out hlj;have HX:Hid (d.bs[j]? =some x):=hx;have HXK:Hid (Qq6 x):=HK.out.b x (List.mem_of_getElem? hx);obtain⟨b,o,rfl,hl,hc⟩:=RB.out.2 j x hx;have c0:w.cell? ⟨b,o+j*2,none⟩=some (.string x.n):=hc 0 _ rfl;have c3:w.cell? ⟨b,o+j*2+1,none⟩=some (.int .i64 x.h):=hc 1 _ rfl;rw[←KR.out.cell (p:=⟨_,_,none⟩) hl]at c0 c3
     have hl2:b<wr.heap.size:=Nat.lt_of_lt_of_le hl KR.out.size;have p0:(0:Int)≤(j:Int):=by omega
     have p1:(j:Int)<(n2:Int):=by omega
     have HPREV:Hid (∀(m:Nat) y,j=m+1→d.bs[m]? =some y→wr.cell? ⟨b,o+m*2,none⟩=some (.string y.n)):=fun m y e hy=>by
      obtain⟨b',o',e9,hl9,hc9⟩:=RB.out.2 m y hy;cases e9
      exact(KR.out.cell (p:=⟨_,_,none⟩) hl9).trans (hc9 0 _ rfl)
     clear hx hc;go_wp2_with fail
     go_upto_region 18 with fail
     obtain⟨Y,HY⟩: ∃X,Hid (wr.alloc (.cells #[.string x.n,.int .i64 x.h] 69)=X):=⟨_,rfl⟩;rw[HY.out];have hbY:Below wr.heap.size wr Y:=by rw[←HY.out];go_grown
     have y_0:Y.cell? ⟨wr.heap.size,0,none⟩=some (.string x.n):=by rw[←HY.out];go_simp
     have y_1:Y.cell? ⟨wr.heap.size,1,none⟩=some (.int .i64 x.h):=by rw[←HY.out];go_simp
     have zY:wr.heap.size<Y.heap.size:=by rw[←HY.out];simp
     replace x_0:=cy hbY x_0;replace x_1:=cy hbY x_1;replace x_2:=cy hbY x_2;replace zX:w.heap.size<Y.heap.size:=by omega
     have hl3:b<Y.heap.size:=by omega
     replace HPREV:Hid (∀(m:Nat) y,j=m+1→d.bs[m]? =some y→Y.cell? ⟨b,o+m*2,none⟩=some (.string y.n)):=fun m y e hy=>cy hbY (HPREV.out m y e hy);have KY:=hd (Qc KR.out hbY);have KYV:=hd (Qc KV.out hbY);have HDY:=HD.out.below KY.out;replace HDY:Hid (DgRow Y (.agg #[.int .i64 d.next,.slice A1 n1 c1,.slice (some ⟨b,o,none⟩) n2 c2]) d):=HDY;clear hbY HY c0 c3;obtain⟨nb,HNB⟩: ∃nb,Hid (nmB x.n=nb):=⟨_,rfl⟩
     refine wp_region_held_drew (S:=(fun w'=>(∀bq oq,bq<Y.heap.size→w'.cell? ⟨bq,oq,none⟩=Y.cell? ⟨bq,oq,none⟩)∧Y.heap.size≤w'.heap.size∧Below Y.heap.size Y w')) (by kernel_rfl) (Qp (Nat.le_refl _) (Below.refl _ _).drew) (fun hHeld=> ?_);refine tkA 0 ?_;refine tkB 1 ?_;refine rqA 2 (fun Kq hKq=> ?_);go_simp;refine(Bk x.n _ HXK.out).mono ?_;rintro e w1 ⟨rfl,hw⟩
     subst w1;rw[HNB.out];refine hkB hKq (Qp (Nat.le_refl _) (by go_grown)) fun hHeld=> ?_;clear hKq Kq;cases nb
     ·refine tkA 3 ?_;refine tkB 4 ?_;refine tnA 5 ?_;refine tnB 6 ?_;refine tnA 7 ?_;refine tnB 8 ?_;refine tnA 9 ?_
      refine tkB 10 ?_;refine tkA 11 ?_;refine tnB 12 ?_;refine tnA 13 ?_;refine tnB 14 ?_;refine tnA 15 ?_;refine tnB 16 ?_
      refine tnA 17 ?_;refine tnB 18 ?_;refine tnA 19 ?_;refine tnB 20 ?_;refine tnA 21 ?_;refine tnB 22 ?_;refine tnA 23 ?_
      refine tnB 24 ?_;refine tnA 25 ?_;refine tkB 26 ?_;refine wpAnyH_done (by kernel_rfl) ?_ _;clear hHeld;go_wp2_with fail
      go_ret;exact⟨Qb (Qev HX.out (Or.inl HNB.out)).symm,Qc KY.out (by go_grown)⟩
     refine tkA 3 ?_;refine tkB 4 ?_;refine tkA 5 ?_;refine tkB 6 ?_;refine tkB 7 ?_;refine rqA 8 (fun Kq hKq=> ?_);go_simp
     refine(Ha _ _ (HDY.out.below (by go_grown))).mono ?_;rintro e q3 ⟨r,rfl,hr,hb⟩;have HR9:Hid (r<0↔ ¬x.h∈QA d.vs):=hr;obtain⟨hk9,hz9⟩:=Qg (B:=Y.heap.size) (X:=Y) (by go_grown) (by go_size) hb;clear hb hr;refine hkB hKq (Qp (Nat.le_refl _) hk9) fun hHeld=> ?_;clear hKq Kq
     by_cases hme:x.h∈QA d.vs
     case neg=>
      have hr2:r<0:=HR9.out.2 hme;have HME:Hid (¬x.h∈QA d.vs):=hme;clear hme;refine tkA 9 ?_;refine tkB 10 ?_;refine tkA 11 ?_;refine tnB 12 ?_
      refine tnA 13 ?_;refine tnB 14 ?_;refine tnA 15 ?_;refine tnB 16 ?_;refine tnA 17 ?_;refine tnB 18 ?_;refine tnA 19 ?_
      refine tnB 20 ?_;refine tnA 21 ?_;refine tnB 22 ?_;refine tnA 23 ?_;refine tnB 24 ?_;refine tnA 25 ?_;refine tkB 26 ?_
      refine wpAnyH_done (by kernel_rfl) ?_ _;clear hHeld;go_wp2_with fail
      go_ret;exact⟨Qb (Qev HX.out (Or.inr HME.out)).symm,Qc KY.out (by go_grown)⟩
     have hr2: ¬r<0:=fun h9=>HR9.out.1 h9 hme;have HME:Hid (x.h∈QA d.vs):=hme;clear hme;refine tkA 9 ?_;refine tkB 10 ?_;refine tkA 11 ?_;refine tkB 12 ?_
     by_cases j0:j=0
     ·subst j0;have hj0: ¬(0:Int)<((0:Nat):Int):=by omega
      refine tkA 13 ?_;refine tkB 14 ?_;refine tnA 15 ?_;refine tnB 16 ?_;refine tnA 17 ?_;refine tnB 18 ?_;refine tnA 19 ?_
      refine tnB 20 ?_;refine tnA 21 ?_;refine tnB 22 ?_;refine tnA 23 ?_;refine tnB 24 ?_;refine tkA 25 ?_;refine tkB 26 ?_
      refine wpAnyH_done (by kernel_rfl) ?_ _;clear hHeld;go_wp2_with fail
      go_roundw
      case rel=>exact⟨0+1,by omega,by go_num,fun t y ht hy=>(by obtain rfl:t=0:=(by omega);rw[HX.out]at hy;cases hy;exact⟨HNB.out,HME.out,fun s z e=>by omega⟩),Qc KYV.out (by go_grown)⟩
      case measure=>simp[intOf];omega
     obtain⟨m1,HM1⟩: ∃m1,Hid (j=m1+1):=⟨j-1,(by omega:j=j-1+1)⟩;have hj0:0<j:=by omega
     obtain⟨y,hy⟩:=Zw E2.out (show m1<n2 by have:=HM1.out;omega);have HYY:Hid (d.bs[m1]? =some y):=hy;have p_0:=HPREV.out m1 y HM1.out hy;have p2:(0:Int)≤(m1:Int):=by omega
     have p3:(m1:Int)<(n2:Int):=by have:=HM1.out;omega
     have p4:IntKind.i64.wrap ((j:Int)-1)=(m1:Int):=by rw[IntKind.wrap_i64];have:=HM1.out;omega
     clear hy;refine tkA 13 ?_;refine tkB 14 ?_;refine tkA 15 ?_;refine tkB 16 ?_;refine tkA 17 ?_;refine tkB 18 ?_
     refine tkA 19 ?_;refine tkB 20 ?_;refine tkA 21 ?_;refine tkB 22 ?_;refine tkB 23 ?_;cases hq:ltB y x
     ·have HQ:Hid (ltB y x=false):=hq;have hq2:Op.bytesLess y.n.toList x.n.toList=false:=hq;clear hq;refine tkA 24 ?_;refine tkB 25 ?_;refine tkB 26 ?_;refine wpAnyH_done (by kernel_rfl) ?_ _
      clear hHeld;go_wp2_with fail
      go_ret;exact⟨Qb (Qlt (by rw[←HM1.out];exact HX.out) HYY.out HQ.out).symm,Qc KY.out (by go_grown)⟩
     have HQ:Hid (ltB y x=true):=hq;have hq2:Op.bytesLess y.n.toList x.n.toList=true:=hq;clear hq;refine tkA 24 ?_;refine tkB 25 ?_;refine tkB 26 ?_;refine wpAnyH_done (by kernel_rfl) ?_ _
     clear hHeld;go_wp2_with fail
     go_roundw
     case rel=>exact⟨j+1,by omega,by go_num,fun t z ht hz=>(by by_cases e:t=j;(subst e;rw[HX.out]at hz;cases hz;exact⟨HNB.out,HME.out,fun s z e hz=>(by have:=HM1.out;obtain rfl:s=m1:=(by omega);rw[HYY.out]at hz;cases hz;exact HQ.out)⟩);exact HA.out t z (by omega) hz),Qc KYV.out (by go_grown)⟩
     case measure=>simp[intOf];omega
    ·have p1: ¬(j:Int)<(n2:Int):=by omega
     go_wp2_with fail
     go_ret;exact⟨Qb (Qq0 (by omega) (by omega) (by rw[E1.out];omega) (by rw[E1.out];omega) (by rw[E2.out];omega) (by rw[E2.out];omega) HALL.out (fun t z hz=>HA.out t z (by have:=(List.getElem?_eq_some_iff.1 hz).1;have:=E2.out;omega) hz)).symm,KR.out⟩
theorem Nb(a b c:ByteArray):a++b++c=a++(b++c):=by apply ByteArray.ext;simp
def Kw(ps:List ByteArray):ByteArray:=⟨(XV ps).toArray⟩
theorem Vu(ps:List ByteArray)(p:ByteArray):Kw ps++p++sNl=Kw (ps++ [p]):=by
 apply ByteArray.ext;apply Array.ext';simp[Kw,Ql0,Qlz,sNl]
theorem Qit(ps:List ByteArray):(Kw ps).size=(XV ps).length:=by show((XV ps).toArray).size=_;simp
theorem NA{ps:List ByteArray}{n:Nat}(h:LnOk ps n):(Kw ps).size≤n*301:=by rw[Qit];exact h.cat
theorem sizes:sBr.size=7∧sVr.size=8∧sDag.size=4∧sSp.size=1∧sNl.size=1:=⟨rfl,rfl,rfl,rfl,rfl⟩
theorem Bn{v:Value}{d:DG}(w:World)(h:DgRow w v d)(hk:DgOk d):
  Calls Tryz.prog 31 #[v] w fun e w'=>e= .returned (.string (Qgq d))∧Below w.heap.size w w':=by
 obtain⟨A1,n1,c1,A2,n2,c2,rfl⟩:=h.agg;have HR:Hid (DgRow w (.agg #[.int .i64 d.next,.slice A1 n1 c1,.slice A2 n2 c2]) d):=h;obtain⟨r1,e1,r2,e2⟩:=h.open;have R1:Hid (VrRow w A1 d.vs):=r1;have R2:Hid (Xy w A2 d.bs):=r2;have E1:Hid (d.vs.length=n1):=e1;have E2:Hid (d.bs.length=n2):=e2
 have HK:Hid (DgOk d):=hk;obtain⟨f,HFF⟩: ∃f:Bool,Hid (YW d=f):=⟨_,rfl⟩;obtain⟨sb1,sb2,sb3,sb4,sb5⟩:=sizes;clear h r1 r2 e1 e2 hk;go_enter Tryz.func31,Tryz.ntmps31;go_wp2_with fail
 obtain⟨X,HX⟩: ∃X,Hid (w.alloc (.cells #[.int .i64 d.next,.slice A1 n1 c1,.slice A2 n2 c2] 43)=X):=⟨_,rfl⟩;rw[HX.out];have x0:X.cell? ⟨w.heap.size,0,none⟩=some (.int .i64 d.next):=by rw[←HX.out];go_simp
 have x1:X.cell? ⟨w.heap.size,1,none⟩=some (.slice A1 n1 c1):=by rw[←HX.out];go_simp
 have x2:X.cell? ⟨w.heap.size,2,none⟩=some (.slice A2 n2 c2):=by rw[←HX.out];go_simp
 have zX:w.heap.size<X.heap.size:=by rw[←HX.out];simp
 have KX:Hid (Below w.heap.size w X):=by rw[←HX.out];show Below _ _ _;go_grown
 clear HX;refine(Qde _ (HR.out.below KX.out) HK.out).mono ?_;rintro e u0 ⟨rfl,hb⟩;replace x0:=cy hb x0;replace x1:=cy hb x1;replace x2:=cy hb x2;replace zX:w.heap.size<u0.heap.size:=Nat.lt_of_lt_of_le zX hb.size
 replace KX:=hd (Qc KX.out hb);clear hb;rw[HFF.out];cases f
 ·go_wp2_with fail
  go_ret;exact⟨Qr (by rw[Qgq,if_neg (by rw[HFF.out];decide)]),KX.out⟩
 have HT:Hid (DgTx d):=Qm4 HFF.out;have hn1:n1≤40:=by rw[←E1.out];exact HT.out.nv
 have hn2:n2≤8:=by rw[←E2.out];exact HT.out.nb
 have iz:=Xf HT.out.n0 HT.out.nx;obtain⟨ka1,HKA1⟩: ∃k,Hid (sDag++itB d.next=k):=⟨_,rfl⟩;have zka1:ka1.size=sDag.size+(itB d.next).size:=by rw[←HKA1.out,ByteArray.size_append]
 have rka1: ∀W,(Op.stringOp .add (⟨#[100,97,103,32]⟩:ByteArray) (itB d.next)).run Tryz.prog W= .ok (.string ka1) W:=fun W=>by rw[←HKA1.out];exact run_string_add_sum W _ _ (by have:(⟨#[100,97,103,32]⟩:ByteArray).size=4:=rfl;omega)
 obtain⟨ka2,HKA2⟩: ∃k,Hid (ka1++sNl=k):=⟨_,rfl⟩;have zka2:ka2.size=ka1.size+(sNl).size:=by rw[←HKA2.out,ByteArray.size_append]
 have rka2: ∀W,(Op.stringOp .add ka1 (⟨#[10]⟩:ByteArray)).run Tryz.prog W= .ok (.string ka2) W:=fun W=>by rw[←HKA2.out];exact run_string_add_sum W _ _ (by have:(⟨#[10]⟩:ByteArray).size=1:=rfl;omega)
 have HC0:Hid (ka2=Kw (bLs d 0)):=by
  show _=_;rw[←HKA2.out,←HKA1.out];have h9:=Vu [] (Qi7 d.next);have h8:Kw []++Qi7 d.next=Qi7 d.next:=by apply ByteArray.ext;simp[Kw,XV]
  rw[h8]at h9;exact h9.trans (by unfold bLs;simp)
 go_wp2_with fail
 refine(Xw d.next _ HT.out.n0 HT.out.nx).mono ?_;rintro e u1 ⟨rfl,hb⟩;replace x0:=cy hb x0;replace x1:=cy hb x1;replace x2:=cy hb x2;replace zX:w.heap.size<u1.heap.size:=Nat.lt_of_lt_of_le zX hb.size;replace KX:=hd (Qc KX.out hb)
 clear hb;have X0:Hid (u1.cell? ⟨w.heap.size,1,none⟩=some (.slice A1 n1 c1)∧u1.cell? ⟨w.heap.size,2,none⟩=some (.slice A2 n2 c2)∧w.heap.size<u1.heap.size):=⟨x1,x2,zX⟩;go_wp2_with fail
 clear x0 x1 x2 zX rka1 rka2 zka1 zka2 HKA1 HKA2 iz;go_loopw [3,4] (fun q i wr=> ∃t:Nat,t≤n2∧q= .string (Kw (bLs d t))∧i= .int .i64 t∧Below u1.heap.size u1 wr) (fun _ i _=>n2-(intOf i).toNat)
 case atStart=>exact⟨0,Nat.zero_le _,by rw[HC0.out],rfl,Below.refl _ _⟩
 case round=>
  obtain⟨t,ht,rfl,rfl,hbel⟩:=hrel;have KW:Hid (Below u1.heap.size u1 wr):=hbel;have KA:=hd (Qc KX.out hbel);have y1:=cy hbel X0.out.1;have y2:=cy hbel X0.out.2.1;have yz:w.heap.size<wr.heap.size:=Nat.lt_of_lt_of_le X0.out.2.2 hbel.size;have hcs:=NA (Qe1 HT.out t)
  obtain⟨c,HCT⟩: ∃c,Hid (Kw (bLs d t)=c):=⟨_,rfl⟩;rw[HCT.out]at hcs;rw[HCT.out];clear hbel;by_cases hlt:t<n2
  ·obtain⟨x,hx⟩:=Zw E2.out hlt;have HXT:Hid (d.bs[t]? =some x):=hx;have hxm:=List.mem_of_getElem? hx;have hnm:=HT.out.bn x hxm;have HHD:Hid (0≤x.h∧x.h≤1000000000):=HT.out.bh x hxm;have iz:=Xf HHD.out.1 HHD.out.2;obtain⟨b,o,rfl,hl,hc⟩:=R2.out.2 t x hx
   have b0:w.cell? ⟨b,o+t*2,none⟩=some (.string x.n):=hc 0 _ rfl;have b1:w.cell? ⟨b,o+t*2+1,none⟩=some (.int .i64 x.h):=hc 1 _ rfl;rw[←KA.out.cell (p:=⟨_,_,none⟩) hl]at b0 b1;have hl2:b<wr.heap.size:=Nat.lt_of_lt_of_le hl KA.out.size;have q0:(0:Int)≤(t:Int):=by omega
   have q1:(t:Int)<(n2:Int):=by omega
   clear hx hxm hc hl;obtain⟨kb1,HKB1⟩: ∃k,Hid (c++sBr=k):=⟨_,rfl⟩;have zkb1:kb1.size=c.size+(sBr).size:=by rw[←HKB1.out,ByteArray.size_append]
   have rkb1: ∀W,(Op.stringOp .add c (⟨#[98,114,97,110,99,104,32]⟩:ByteArray)).run Tryz.prog W= .ok (.string kb1) W:=fun W=>by rw[←HKB1.out];exact run_string_add_sum W _ _ (by have:(⟨#[98,114,97,110,99,104,32]⟩:ByteArray).size=7:=rfl;omega)
   obtain⟨kb2,HKB2⟩: ∃k,Hid (kb1++x.n=k):=⟨_,rfl⟩;have zkb2:kb2.size=kb1.size+(x.n).size:=by rw[←HKB2.out,ByteArray.size_append]
   have rkb2: ∀W,(Op.stringOp .add kb1 (x.n)).run Tryz.prog W= .ok (.string kb2) W:=fun W=>by rw[←HKB2.out];exact run_string_add_sum W _ _ (by omega)
   obtain⟨kb3,HKB3⟩: ∃k,Hid (kb2++sSp=k):=⟨_,rfl⟩;have zkb3:kb3.size=kb2.size+(sSp).size:=by rw[←HKB3.out,ByteArray.size_append]
   have rkb3: ∀W,(Op.stringOp .add kb2 (⟨#[32]⟩:ByteArray)).run Tryz.prog W= .ok (.string kb3) W:=fun W=>by rw[←HKB3.out];exact run_string_add_sum W _ _ (by have:(⟨#[32]⟩:ByteArray).size=1:=rfl;omega)
   obtain⟨kb4,HKB4⟩: ∃k,Hid (kb3++itB x.h=k):=⟨_,rfl⟩;have zkb4:kb4.size=kb3.size+(itB x.h).size:=by rw[←HKB4.out,ByteArray.size_append]
   have rkb4: ∀W,(Op.stringOp .add kb3 (itB x.h)).run Tryz.prog W= .ok (.string kb4) W:=fun W=>by rw[←HKB4.out];exact run_string_add_sum W _ _ (by omega)
   obtain⟨kb5,HKB5⟩: ∃k,Hid (kb4++sNl=k):=⟨_,rfl⟩;have zkb5:kb5.size=kb4.size+(sNl).size:=by rw[←HKB5.out,ByteArray.size_append]
   have rkb5: ∀W,(Op.stringOp .add kb4 (⟨#[10]⟩:ByteArray)).run Tryz.prog W= .ok (.string kb5) W:=fun W=>by rw[←HKB5.out];exact run_string_add_sum W _ _ (by have:(⟨#[10]⟩:ByteArray).size=1:=rfl;omega)
   have HC1:Hid (kb5=Kw (bLs d (t+1))):=by
    show _=_;rw[Qcv HXT.out,←Vu,HCT.out,←HKB5.out,←HKB4.out,←HKB3.out,←HKB2.out,←HKB1.out];unfold Qnh;simp only[Nb]
   go_upto_region 7 with fail
   have VE0:Hid (wr.drew.cell? ⟨w.heap.size,2,none⟩=some (.slice (some ⟨b,o,none⟩) n2 c2)∧wr.drew.cell? ⟨b,o+t*2,none⟩=some (.string x.n)∧wr.drew.cell? ⟨b,o+t*2+1,none⟩=some (.int .i64 x.h)∧w.heap.size<wr.drew.heap.size∧b<wr.drew.heap.size):=⟨y2,b0,b1,yz,hl2⟩;have KD:Hid (Below u1.heap.size u1 wr.drew):=KW.out.drew;clear y1 y2 b0 b1 yz hl2;refine wp_region_held_drew (S:=(fun w'=>w'.cell? ⟨w.heap.size,2,none⟩=some (.slice (some ⟨b,o,none⟩) n2 c2)∧w'.cell? ⟨b,o+t*2,none⟩=some (.string x.n)∧w'.cell? ⟨b,o+t*2+1,none⟩=some (.int .i64 x.h)∧w.heap.size<w'.heap.size∧b<w'.heap.size)) (by kernel_rfl) VE0.out (fun hHeld=> ?_);refine tkA 0 ?_;refine tkB 1 ?_;refine tkA 2 ?_
   refine tkB 3 ?_;refine tkA 4 ?_;refine tkB 5 ?_;refine tkA 6 ?_;refine tkB 7 ?_;refine tkA 8 ?_;refine tkB 9 ?_
   refine tkA 10 ?_;refine tkB 11 ?_;refine tkA 12 ?_;refine tkB 13 ?_;refine tkA 14 ?_;refine tkB 15 ?_;refine rqA 16 (fun Kq hKq=> ?_)
   go_simp;refine(Xw x.h _ HHD.out.1 HHD.out.2).mono ?_;rintro e q1 ⟨rfl,hb⟩;have VE9:Hid (q1.cell? ⟨w.heap.size,2,none⟩=some (.slice (some ⟨b,o,none⟩) n2 c2)∧q1.cell? ⟨b,o+t*2,none⟩=some (.string x.n)∧q1.cell? ⟨b,o+t*2+1,none⟩=some (.int .i64 x.h)∧w.heap.size<q1.heap.size∧b<q1.heap.size):=⟨cy hb VE0.out.1,cy hb VE0.out.2.1,cy hb VE0.out.2.2.1,Nat.lt_of_lt_of_le VE0.out.2.2.2.1 hb.size,Nat.lt_of_lt_of_le VE0.out.2.2.2.2 hb.size⟩;have K1:=hd (Qc KD.out hb);clear hb;refine hkB hKq (VE9.out) fun hHeld=> ?_
   clear hKq Kq;refine tkA 17 ?_;refine tkB 18 ?_;refine tkB 19 ?_;refine wpAnyH_done (by kernel_rfl) ?_ _;clear hHeld;go_wp2_with fail
   go_roundw
   case rel=>exact⟨t+1,by omega,by rw[HC1.out],by go_num,K1.out⟩
   case measure=>simp[intOf];omega
  ·have h1: ¬(t:Int)<(n2:Int):=by omega
   obtain rfl:n2=t:=by omega
   have HCV:Hid (c=Kw (vLs d 0)):=by show _=_;rw[←HCT.out,Qa6,E2.out]
   go_wp2_with fail
   clear HCT hcs y1 y2 yz;go_loopw [3,5] (fun q i wq=> ∃t:Nat,t≤n1∧q= .string (Kw (vLs d t))∧i= .int .i64 t∧Below u1.heap.size u1 wq) (fun _ i _=>n1-(intOf i).toNat)
   case atStart=>exact⟨0,Nat.zero_le _,by rw[HCV.out],rfl,KW.out⟩
   case round=>
    rename World=>wv
    obtain⟨t,ht',rfl,rfl,hbel⟩:=hrel;clear HCV KW KA;have KV:Hid (Below u1.heap.size u1 wv):=hbel;have KB:=hd (Qc KX.out hbel);have y1:=cy hbel X0.out.1;have yz:w.heap.size<wv.heap.size:=Nat.lt_of_lt_of_le X0.out.2.2 hbel.size;have hcs:=NA (EK HT.out t)
    obtain⟨c,HCT⟩: ∃c,Hid (Kw (vLs d t)=c):=⟨_,rfl⟩;rw[HCT.out]at hcs;rw[HCT.out];clear hbel;by_cases hlt:t<n1
    ·obtain⟨x,hx⟩:=Zw E1.out hlt;have HXT:Hid (d.vs[t]? =some x):=hx;have HXM:Hid (x∈d.vs):=List.mem_of_getElem? hx;have HID:Hid (0≤x.id∧x.id≤1000000000):=HT.out.id x HXM.out;have iz:=Xf HID.out.1 HID.out.2;obtain⟨b,o,u,uc,s,sc,rfl,hl,b0,b1,b2,ru,rs⟩:=R1.out.2 t x hx;have RU:Hid (IntRow w u x.ups):=ru
     have RS:Hid (ClRow w s x.m x.C x.R x.S):=rs;obtain⟨un,HUN⟩: ∃un,Hid (x.ups.length=un):=⟨_,rfl⟩;obtain⟨mn,HMN⟩: ∃mn,Hid (x.m=mn):=⟨_,rfl⟩;rw[HUN.out]at b1;rw[HMN.out]at b2;have hun:un≤2:=by rw[←HUN.out];exact HT.out.two x HXM.out
     have hmn:mn≤120:=by rw[←HMN.out];exact HT.out.m x HXM.out
     rw[←KB.out.cell (p:=⟨_,_,none⟩) hl]at b0 b1 b2;have hl2:b<wv.heap.size:=Nat.lt_of_lt_of_le hl KB.out.size;have q0:(0:Int)≤(t:Int):=by omega
     have q1:(t:Int)<(n1:Int):=by omega
     clear hx hl ru rs;obtain⟨kc1,HKC1⟩: ∃k,Hid (c++sVr=k):=⟨_,rfl⟩;have zkc1:kc1.size=c.size+(sVr).size:=by rw[←HKC1.out,ByteArray.size_append]
     have rkc1: ∀W,(Op.stringOp .add c (⟨#[118,101,114,115,105,111,110,32]⟩:ByteArray)).run Tryz.prog W= .ok (.string kc1) W:=fun W=>by rw[←HKC1.out];exact run_string_add_sum W _ _ (by have:(⟨#[118,101,114,115,105,111,110,32]⟩:ByteArray).size=8:=rfl;omega)
     obtain⟨kc2,HKC2⟩: ∃k,Hid (kc1++itB x.id=k):=⟨_,rfl⟩;have zkc2:kc2.size=kc1.size+(itB x.id).size:=by rw[←HKC2.out,ByteArray.size_append]
     have rkc2: ∀W,(Op.stringOp .add kc1 (itB x.id)).run Tryz.prog W= .ok (.string kc2) W:=fun W=>by rw[←HKC2.out];exact run_string_add_sum W _ _ (by omega)
     go_wp2_with fail
     obtain⟨Z,HZ⟩: ∃Z,Hid (wv.alloc (.cells #[.int .i64 x.id,.slice u un uc,.slice s mn sc] 72)=Z):=⟨_,rfl⟩;rw[HZ.out];have hb:Below wv.heap.size wv Z:=by rw[←HZ.out];exact(Below.refl _ _).alloc (Nat.le_refl _) _
     have z1:Z.cell? ⟨wv.heap.size,1,none⟩=some (.slice u un uc):=by rw[←HZ.out];go_simp
     have z2:Z.cell? ⟨wv.heap.size,2,none⟩=some (.slice s mn sc):=by rw[←HZ.out];go_simp
     have zz:wv.heap.size<Z.heap.size:=by rw[←HZ.out];simp
     have KZ:Hid (Below u1.heap.size u1 Z):=KV.out.trans (hb.mono KV.out.size);clear HZ hb y1 yz b0 b1 b2 hl2;refine(Xw x.id _ HID.out.1 HID.out.2).mono ?_;rintro e u2 ⟨rfl,hb⟩;have ZC:Hid (u2.cell? ⟨wv.heap.size,1,none⟩=some (.slice u un uc)∧u2.cell? ⟨wv.heap.size,2,none⟩=some (.slice s mn sc)∧wv.heap.size<u2.heap.size):=⟨cy hb z1,cy hb z2,Nat.lt_of_lt_of_le zz hb.size⟩;have K2:=hd (Qc KZ.out hb);clear hb z1 z2 zz KZ KV
     have HV2:Hid (kc2=c++GO (x.ups.take 0) (sVr++itB x.id)):=by
      show _=_;rw[←HKC2.out,←HKC1.out,Nb];rfl
     go_wp2_with fail
     clear rkc1 rkc2 zkc1 zkc2 HKC1 HKC2;go_loopw [3,7] (fun q i wq=> ∃k:Nat,k≤un∧q= .string (c++GO (x.ups.take k) (sVr++itB x.id))∧i= .int .i64 k∧Below u2.heap.size u2 wq) (fun _ i _=>un-(intOf i).toNat)
     case atStart=>exact⟨0,Nat.zero_le _,by rw[HV2.out],rfl,Below.refl _ _⟩
     case round=>
      rename World=>wt
      obtain⟨k,hk',rfl,rfl,hbel⟩:=hrel;have KT:Hid (Below u2.heap.size u2 wt):=hbel;have KC:Hid (Below w.heap.size w wt):=KX.out.trans ((Qc K2.out hbel).mono (Nat.le_of_lt X0.out.2.2));have g1:=cy hbel ZC.out.1;have g2:=cy hbel ZC.out.2.1;have gz:wv.heap.size<wt.heap.size:=Nat.lt_of_lt_of_le ZC.out.2.2 hbel.size;have hus:=Vn (x.ups.take k) (sVr++itB x.id) (fun z hz=>HT.out.up x HXM.out z (List.mem_of_mem_take hz))
      have hut:(x.ups.take k).length≤2:=by rw[List.length_take,HUN.out];omega
      rw[ByteArray.size_append]at hus;obtain⟨p,HPT⟩: ∃p,Hid (c++GO (x.ups.take k) (sVr++itB x.id)=p):=⟨_,rfl⟩;have hps:p.size=c.size+(GO (x.ups.take k) (sVr++itB x.id)).size:=by rw[←HPT.out,ByteArray.size_append]
      rw[HPT.out];clear hbel;by_cases hlt':k<un
      ·obtain⟨y,hy⟩:=Zw HUN.out hlt';have HYT:Hid (x.ups[k]? =some y):=hy;have HYB:Hid (0≤y∧y≤1000000000):=HT.out.up x HXM.out y (List.mem_of_getElem? hy);have iy:=Xf HYB.out.1 HYB.out.2;obtain⟨ub,uo,rfl,hul,cu⟩:=Xp RU.out hy;rw[←KC.out.cell (p:=⟨_,_,none⟩) hul]at cu;have hul2:ub<wt.heap.size:=Nat.lt_of_lt_of_le hul KC.out.size
       have j0:(0:Int)≤(k:Int):=by omega
       have j1:(k:Int)<(un:Int):=by omega
       clear hy hul;obtain⟨kd1,HKD1⟩: ∃k,Hid (p++sSp=k):=⟨_,rfl⟩;have zkd1:kd1.size=p.size+(sSp).size:=by rw[←HKD1.out,ByteArray.size_append]
       have rkd1: ∀W,(Op.stringOp .add p (⟨#[32]⟩:ByteArray)).run Tryz.prog W= .ok (.string kd1) W:=fun W=>by rw[←HKD1.out];exact run_string_add_sum W _ _ (by have:(⟨#[32]⟩:ByteArray).size=1:=rfl;omega)
       obtain⟨kd2,HKD2⟩: ∃k,Hid (kd1++itB y=k):=⟨_,rfl⟩;have zkd2:kd2.size=kd1.size+(itB y).size:=by rw[←HKD2.out,ByteArray.size_append]
       have rkd2: ∀W,(Op.stringOp .add kd1 (itB y)).run Tryz.prog W= .ok (.string kd2) W:=fun W=>by rw[←HKD2.out];exact run_string_add_sum W _ _ (by omega)
       have HU2:Hid (kd2=c++GO (x.ups.take (k+1)) (sVr++itB x.id)):=by
        show _=_;rw[Qfj HYT.out,Gz,←HKD2.out,←HKD1.out,←HPT.out];simp only[Nb]
       go_wp2_with fail
       refine(Xw y _ HYB.out.1 HYB.out.2).mono ?_;rintro e u3 ⟨rfl,hb⟩;have K3:=hd (Qc KT.out hb);clear hb g1 g2 gz cu hul2;go_wp2_with fail
       go_roundw
       case rel=>exact⟨k+1,by omega,by rw[HU2.out],by go_num,K3.out⟩
       case measure=>simp[intOf];omega
      ·have h2: ¬(k:Int)<(un:Int):=by omega
       obtain rfl:un=k:=by omega
       have HPV:Hid (p=c++Ko x):=by show _=_;rw[←HPT.out,←HUN.out,List.take_length];rfl
       obtain⟨ke1,HKE1⟩: ∃k,Hid (p++sNl=k):=⟨_,rfl⟩;have zke1:ke1.size=p.size+(sNl).size:=by rw[←HKE1.out,ByteArray.size_append]
       have rke1: ∀W,(Op.stringOp .add p (⟨#[10]⟩:ByteArray)).run Tryz.prog W= .ok (.string ke1) W:=fun W=>by rw[←HKE1.out];exact run_string_add_sum W _ _ (by have:(⟨#[10]⟩:ByteArray).size=1:=rfl;omega)
       have HL0:Hid (ke1=Kw ((vLs d t++ [Ko x])++JV x 0)):=by
        show _=_;rw[←HKE1.out,HPV.out,←HCT.out,Vu];simp[JV]
       go_wp2_with fail
       clear rke1 zke1 HKE1 HPT HPV hps hus hut g1 g2 gz;go_loopw [3,8] (fun q i wq=> ∃k:Nat,k≤mn∧q= .string (Kw ((vLs d t++ [Ko x])++JV x k))∧i= .int .i64 k∧Below u2.heap.size u2 wq) (fun _ i _=>mn-(intOf i).toNat)
       case atStart=>exact⟨0,Nat.zero_le _,by rw[HL0.out],rfl,KT.out⟩
       case round=>
        rename World=>ws
        obtain⟨k,hk',rfl,rfl,hbel⟩:=hrel;clear KT KC;have KS:Hid (Below u2.heap.size u2 ws):=hbel;have KE:Hid (Below w.heap.size w ws):=KX.out.trans ((Qc K2.out hbel).mono (Nat.le_of_lt X0.out.2.2));have g2:=cy hbel ZC.out.2.1;have gz:wv.heap.size<ws.heap.size:=Nat.lt_of_lt_of_le ZC.out.2.2 hbel.size;have hls:=NA (Qvi HT.out HXM.out ((EK HT.out t).snoc (Ox HT.out HXM.out)) (t:=k) (by rw[HMN.out];exact hk'))
        obtain⟨p,HPT⟩: ∃p,Hid (Kw ((vLs d t++ [Ko x])++JV x k)=p):=⟨_,rfl⟩;rw[HPT.out]at hls;rw[HPT.out];clear hbel;by_cases hlt':k<mn
        ·have hkm:k<x.m:=by rw[HMN.out];exact hlt'
         have hss:=HT.out.s x HXM.out k hkm;obtain⟨sb,so,rfl,hsl,d0,d1,d2,_⟩:=RS.out.2 k hkm;rw[←KE.out.cell (p:=⟨_,_,none⟩) hsl]at d0 d1 d2;have hsl2:sb<ws.heap.size:=Nat.lt_of_lt_of_le hsl KE.out.size;obtain⟨cx,HCX⟩: ∃cx,Hid (x.C k=cx):=⟨_,rfl⟩;obtain⟨rx,HRX⟩: ∃rx,Hid (x.R k=rx):=⟨_,rfl⟩;obtain⟨sx,HSX⟩: ∃sx,Hid (x.S k=sx):=⟨_,rfl⟩
         rw[HCX.out]at d0;rw[HRX.out]at d1;rw[HSX.out]at d2 hss;have ip:=Ni cx rx;have j0:(0:Int)≤(k:Int):=by omega
         have j1:(k:Int)<(mn:Int):=by omega
         clear hsl hkm;obtain⟨kf1,HKF1⟩: ∃k,Hid (p++plB cx rx=k):=⟨_,rfl⟩;have zkf1:kf1.size=p.size+(plB cx rx).size:=by rw[←HKF1.out,ByteArray.size_append]
         have rkf1: ∀W,(Op.stringOp .add p (plB cx rx)).run Tryz.prog W= .ok (.string kf1) W:=fun W=>by rw[←HKF1.out];exact run_string_add_sum W _ _ (by omega)
         obtain⟨kf2,HKF2⟩: ∃k,Hid (kf1++sSp=k):=⟨_,rfl⟩;have zkf2:kf2.size=kf1.size+(sSp).size:=by rw[←HKF2.out,ByteArray.size_append]
         have rkf2: ∀W,(Op.stringOp .add kf1 (⟨#[32]⟩:ByteArray)).run Tryz.prog W= .ok (.string kf2) W:=fun W=>by rw[←HKF2.out];exact run_string_add_sum W _ _ (by have:(⟨#[32]⟩:ByteArray).size=1:=rfl;omega)
         obtain⟨kf3,HKF3⟩: ∃k,Hid (kf2++sx=k):=⟨_,rfl⟩;have zkf3:kf3.size=kf2.size+(sx).size:=by rw[←HKF3.out,ByteArray.size_append]
         have rkf3: ∀W,(Op.stringOp .add kf2 (sx)).run Tryz.prog W= .ok (.string kf3) W:=fun W=>by rw[←HKF3.out];exact run_string_add_sum W _ _ (by omega)
         obtain⟨kf4,HKF4⟩: ∃k,Hid (kf3++sNl=k):=⟨_,rfl⟩;have zkf4:kf4.size=kf3.size+(sNl).size:=by rw[←HKF4.out,ByteArray.size_append]
         have rkf4: ∀W,(Op.stringOp .add kf3 (⟨#[10]⟩:ByteArray)).run Tryz.prog W= .ok (.string kf4) W:=fun W=>by rw[←HKF4.out];exact run_string_add_sum W _ _ (by have:(⟨#[10]⟩:ByteArray).size=1:=rfl;omega)
         have HL1:Hid (kf4=Kw ((vLs d t++ [Ko x])++JV x (k+1))):=by
          show _=_;rw[DQ,←List.append_assoc,←Vu,HPT.out,←HKF4.out,←HKF3.out,←HKF2.out,←HKF1.out];unfold Qnd;rw[HCX.out,HRX.out,HSX.out];simp only[Nb]
         go_upto_region 21 with fail
         have VE0:Hid (ws.drew.cell? ⟨wv.heap.size,2,none⟩=some (.slice (some ⟨sb,so,none⟩) mn sc)∧ws.drew.cell? ⟨sb,so+k*3,none⟩=some (.int .i64 cx)∧ws.drew.cell? ⟨sb,so+k*3+1,none⟩=some (.int .i64 rx)∧ws.drew.cell? ⟨sb,so+k*3+2,none⟩=some (.string sx)∧wv.heap.size<ws.drew.heap.size∧sb<ws.drew.heap.size):=⟨g2,d0,d1,d2,gz,hsl2⟩;have KD:Hid (Below u2.heap.size u2 ws.drew):=KS.out.drew;clear g2 d0 d1 d2 gz hsl2;refine wp_region_held_drew (S:=(fun w'=>w'.cell? ⟨wv.heap.size,2,none⟩=some (.slice (some ⟨sb,so,none⟩) mn sc)∧w'.cell? ⟨sb,so+k*3,none⟩=some (.int .i64 cx)∧w'.cell? ⟨sb,so+k*3+1,none⟩=some (.int .i64 rx)∧w'.cell? ⟨sb,so+k*3+2,none⟩=some (.string sx)∧wv.heap.size<w'.heap.size∧sb<w'.heap.size)) (by kernel_rfl) VE0.out (fun hHeld=> ?_);refine tkA 0 ?_;refine tkB 1 ?_;refine tkA 2 ?_
         refine tkB 3 ?_;refine tkA 4 ?_;refine tkB 5 ?_;refine tkA 6 ?_;refine tkB 7 ?_;refine tkA 11 ?_;refine tkB 12 ?_
         refine tkA 13 ?_;refine tkB 14 ?_;refine tkA 15 ?_;refine tkB 16 ?_;refine rqA 8 (fun Kq hKq=> ?_);go_simp;refine(Ui cx rx _).mono ?_
         rintro e q1 ⟨rfl,hb⟩;have VE9:Hid (q1.cell? ⟨wv.heap.size,2,none⟩=some (.slice (some ⟨sb,so,none⟩) mn sc)∧q1.cell? ⟨sb,so+k*3,none⟩=some (.int .i64 cx)∧q1.cell? ⟨sb,so+k*3+1,none⟩=some (.int .i64 rx)∧q1.cell? ⟨sb,so+k*3+2,none⟩=some (.string sx)∧wv.heap.size<q1.heap.size∧sb<q1.heap.size):=⟨cy hb VE0.out.1,cy hb VE0.out.2.1,cy hb VE0.out.2.2.1,cy hb VE0.out.2.2.2.1,Nat.lt_of_lt_of_le VE0.out.2.2.2.2.1 hb.size,Nat.lt_of_lt_of_le VE0.out.2.2.2.2.2 hb.size⟩;have K1:=hd (Qc KD.out hb);clear hb;refine hkB hKq (VE9.out) fun hHeld=> ?_;clear hKq Kq;refine tkA 9 ?_
         refine tkB 10 ?_;refine tkA 17 ?_;refine tkB 18 ?_;refine tkB 19 ?_;refine wpAnyH_done (by kernel_rfl) ?_ _;clear hHeld;go_wp2_with fail
         go_roundw
         case rel=>exact⟨k+1,by omega,by rw[HL1.out],by go_num,K1.out⟩
         case measure=>simp[intOf];omega
        ·have h3: ¬(k:Int)<(mn:Int):=by omega
         obtain rfl:mn=k:=by omega
         have HNX:Hid (p=Kw (vLs d (t+1))):=by show _=_;rw[Qa7 HXT.out,HMN.out,HPT.out]
         have KF:=hd (Qc K2.out KS.out);go_wp2_with fail
         go_roundw
         case rel=>exact⟨t+1,by omega,by rw[HNX.out],by go_num,KF.out⟩
         case measure=>simp[intOf];omega
    ·have h2: ¬(t:Int)<(n1:Int):=by omega
     obtain rfl:n1=t:=by omega
     go_wp2_with fail
     go_ret;exact⟨Qr (by rw[Qgq,if_pos HFF.out,←HCT.out,←E1.out,Qfa];rfl),KB.out⟩
end Go.Proofs.YtbdhinckiccniaaGreatDoor
