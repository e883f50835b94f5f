import Derived.Test.YthjldgbfgapbcaaGreatDoorMn
import Derived.Test.YthjldgbfgapbcaaGreatDoorGgd
import Derived.Test.YthjldgbfgapbcaaGreatDoorGze
import Derived.Test.YthjldgbfgapbcaaGreatDoorGbf
import Derived.Test.YthjldgbfgapbcaaGreatDoorGbg
set_option linter.unusedSimpArgs false
set_option linter.unusedVariables false
set_option maxHeartbeats 8000000
set_option maxRecDepth 100000
namespace Go.Proofs.YthjldgbfgapbcaaGreatDoor
open Go.RowKit Go.Maps
theorem QL {ops:Array Oper} {rest:List Oper} {o:Oper} {a:Act} {Q:Exit→Act→World→Prop} {W:World} (hgd:o.guard=none) (s x:Operand) (ho:o.op= .call {callee:= .builtin .append,args:= #[s,x],argTypes:= #[24,24]}) (B:Nat) (v:Value) (n:Nat) (L:List CL) (hs:a.eval s=v)
  (hown:W.ownsRow B 49 3 v n (Zb CL.cs L)) (c r:Int) (tx:ByteArray) (g:Nat) (hx:a.eval x= .slice (some ⟨g,0,none⟩) 1 1) (h0:W.cell? ⟨g,0,none⟩=some (.int .i64 c)) (h1:W.cell? ⟨g,1,none⟩=some (.int .i64 r)) (h2:W.cell? ⟨g,2,none⟩=some (.string tx)) (hn:n≤1099511627776) (hB:B≤W.heap.size)
  (h: ∀v' w',w'.ownsRow B 49 3 v' (n+1) (Zb CL.cs (L++ [⟨c,r,tx⟩]))→W.grownBy w' v.ownBlock→wpList Tryz.prog ops Q rest (a.put o.dst v') w'):wpList Tryz.prog ops Q (o::rest) a W:=by
 obtain⟨i0,hi,iz0,iz1,iz2⟩:=info_parts Qax;refine wpList_append_own W hgd s x 24 ho B 49 i0 (.agg #[.int .i64 0,.int .i64 0,.string ⟨#[]⟩]) 3 32 Tryz.underlying24 hi iz0 iz1 iz2 rfl (by decide) v n _ hs hown ⟨g,0,none⟩ 1 1 [.int .i64 c,.int .i64 r,.string tx] hx rfl ?_ ?_ ?_ ?_ hB ?_
 ·intro q u hq;match q,hq with
  | 0,hq=>simp at hq;subst hq;simpa [Addr.add]using h0
  | 1,hq=>simp at hq;subst hq;simpa [Addr.add]using h1
  | 2,hq=>simp at hq;subst hq;simpa [Addr.add]using h2
 ·intro u hu;simp at hu;rcases hu with rfl | rfl | rfl<;>rfl
 ·unfold maxLen;omega
 ·omega
 ·intro v' w3 hown' hgrow _;refine h v' w3 ?_ hgrow;rw [Ge];exact hown'
def Qcm (x:CL) (E:List CL):List CL:=if(XJ x x.s.toList.isEmpty E).2=true then(XJ x x.s.toList.isEmpty E).1 else(XJ x x.s.toList.isEmpty E).1++ [x]
theorem Ue {A:Option Addr} {n cap:Nat} {C R:Nat→Int} {S:Nat→ByteArray} {p q:Int} {s:ByteArray} (w:World) (h:ClRow w A n C R S) (hn:n≤10000):
  Calls Tryz.prog 40 #[.slice A n cap,.agg #[.int .i64 p,.int .i64 q],.string s] w fun e w'=> ∃A' c' m,e= .returned (.slice A' m c')∧(Qcm ⟨p,q,s⟩ (clE C R S n)).length=m∧w'.ownsRow w.heap.size 49 3 (.slice A' m c') m (Zb CL.cs (Qcm ⟨p,q,s⟩ (clE C R S n)))∧Below w.heap.size w w':=by
 have HR:Hid (ClRow w A n C R S):=h;clear h;obtain⟨x,HX⟩: ∃x:CL,Hid (x=⟨p,q,s⟩):=⟨_,rfl⟩;have HXE:Hid ((⟨p,q,s⟩:CL)=x):=HX.out.symm;rw [HXE.out];obtain⟨d0,HD0⟩: ∃d0:Bool,Hid (s.toList.isEmpty=d0):=⟨_,rfl⟩;have hd0:=HD0.out
 go_enter Tryz.func40,Tryz.ntmps40;go_wp2_with fail
 obtain⟨u,HU⟩: ∃u,Hid (w.alloc (.cells #[.int .i64 p,.int .i64 q] 38)=u):=⟨_,rfl⟩;have HBU:Hid (Below w.heap.size w u):=by rw [←HU.out];exact(Below.refl _ _).alloc (Nat.le_refl _) _
 have HUS:Hid (u.heap.size=w.heap.size+1):=by show _=_;rw [←HU.out];simp
 have p0:u.cell? ⟨w.heap.size,0,none⟩=some (.int .i64 p):=by rw [←HU.out];go_simp
 have p1:u.cell? ⟨w.heap.size,1,none⟩=some (.int .i64 q):=by rw [←HU.out];go_simp
 have P0:Hid (u.cell? ⟨w.heap.size,0,none⟩=some (.int .i64 p)):=p0;have P1:Hid (u.cell? ⟨w.heap.size,1,none⟩=some (.int .i64 q)):=p1;clear p0 p1;rw [HU.out];have HE0:Hid ((u.alloc (.cells #[] 49)).ownsRow u.heap.size 49 3 (.slice (some ⟨u.heap.size,0,none⟩) 0 0) 0 []):=Vk (Nat.le_refl _) rfl;go_loopw [7,8,9] (fun v b i wr=> ∃(t:Nat) (A':Option Addr) (k c:Nat),t≤n∧v= .slice A' k c∧b= .bool (XJ x d0 (clE C R S t)).2∧i= .int .i64 t∧(XJ x d0 (clE C R S t)).1.length=k∧wr.ownsRow u.heap.size 49 3 (.slice A' k c) k (Zb CL.cs (XJ x d0 (clE C R S t)).1)∧Below u.heap.size u wr) (fun _ _ i _=>n-(intOf i).toNat)
 case atStart=>exact⟨0,_,0,0,Nat.zero_le _,rfl,rfl,rfl,rfl,by have h9:=HE0.out;rw [HUS.out]at h9;rw [HUS.out];exact h9,(Below.refl _ _).alloc (Nat.le_refl _) _⟩
 case round=>
  obtain⟨t,A',k,c,ht,rfl,rfl,rfl,hkl,hown,hbel⟩:=hrel;obtain⟨⟨LT,dn⟩,HLT⟩: ∃r,Hid (XJ x d0 (clE C R S t)=r):=⟨_,rfl⟩;rw [HLT.out]at hkl hown ⊢;have HOW:Hid (wr.ownsRow u.heap.size 49 3 (.slice A' k c) k (Zb CL.cs LT)):=hown;have HKL:Hid (LT.length=k):=hkl
  have HKT:Hid (k≤t+1):=by
   have h9:=Qfs x d0 (clE C R S t);rw [HLT.out,YP]at h9;show k≤t+1;rw [←HKL.out];have h8:dn.toNat≤1:=by cases dn<;>decide
   simp only at h9;omega
  have hkt:=HKT.out;have KV:Hid (Below u.heap.size u wr):=hbel;have hsv:=hbel.size;have KA:Hid (Below w.heap.size w wr):=HBU.out.trans (hbel.mono (by have:=HUS.out;omega));have y0:=(hbel.cell (p:=⟨w.heap.size,0,none⟩) (by show w.heap.size<u.heap.size;have:=HUS.out;omega)).trans P0.out;have y1:=(hbel.cell (p:=⟨w.heap.size,1,none⟩) (by show w.heap.size<u.heap.size;have:=HUS.out;omega)).trans P1.out;have yz:w.heap.size<wr.heap.size:=by have:=HUS.out;omega
  clear hown hkl hbel;by_cases hlt:t<n
  ·obtain⟨b,o,rfl,hl,c0,c1,c2,_⟩:=HR.out.2 t hlt;rw [←KA.out.cell (p:=⟨_,_,none⟩) hl]at c0 c1 c2;have hl2:b<wr.heap.size:=Nat.lt_of_lt_of_le hl KA.out.size;have HBL:Hid (b<w.heap.size):=hl;have q0:(0:Int)≤(t:Int):=by omega
   have q1:(t:Int)<(n:Int):=by omega
   obtain⟨y,HY⟩: ∃y:CL,Hid (y=⟨C t,R t,S t⟩):=⟨_,rfl⟩;have HRN:Hid (XJ x d0 (clE C R S (t+1))=stC x (LT,dn) y):=by show _=_;rw [Mm,←HY.out,Vf,HLT.out]
   obtain⟨ah,HA⟩: ∃ah:Bool,Hid (ZT (C t) (R t) p q=ah):=⟨_,rfl⟩;have HLA:Hid (ltC y x=ah):=by show _=_;rw [HY.out,HX.out];exact HA.out
   have SX:Hid (∀v,stC x (LT,dn) y=v→XJ x d0 (clE C R S (t+1))=v):=fun v h9=>HRN.out.trans h9;go_upto_region 6 with fail
   go_cut [30]from 13 to 50 (fun v wx=>v= .bool (!dn&& !ah)∧Below wr.heap.size wr wx)
   case first=>
    cases dn
    ·go_region_held3 (fun w'=>(∀bq oq,bq<wr.heap.size→w'.cell? ⟨bq,oq,none⟩=wr.cell? ⟨bq,oq,none⟩)∧wr.heap.size≤w'.heap.size∧Below wr.heap.size wr w')
      (exact Qm (Nat.le_refl _) (by go_grown))
      (first
      | (go_at_call 29;refine(ZD _ _ _ _ _).mono ?_;rintro e w1 ⟨rfl,hb⟩;rw [HA.out];obtain⟨hk1,hz1⟩:=Qi (B:=wr.heap.size) (X:=wr) (by go_grown) (by go_size) hb;have hC:=fun b o h=>hk1.cell (p:=⟨b,o,none⟩) h;clear hb))
     all_goals
      go_wp2_with fail
      go_meet;exact⟨rfl,by go_grown⟩
    ·go_quiet (fail)
     go_wp2_with fail
     go_meet;exact⟨rfl,below_drewN (Below.refl _ _) _⟩
   case rest=>
    obtain⟨rfl,hbx⟩:=hcut;have KC:Hid (Below u.heap.size u wc):=KV.out.trans (hbx.mono hsv);have HOc:=hd (Ql HOW.out hbx);replace y0:=(hbx.cell (p:=⟨w.heap.size,0,none⟩) yz).trans y0;replace y1:=(hbx.cell (p:=⟨w.heap.size,1,none⟩) yz).trans y1;replace c0:=(hbx.cell (p:=⟨b,_,none⟩) hl2).trans c0;replace c1:=(hbx.cell (p:=⟨b,_,none⟩) hl2).trans c1
    replace c2:=(hbx.cell (p:=⟨b,_,none⟩) hl2).trans c2;have zx:=hbx.size;replace yz:w.heap.size<wc.heap.size:=by omega
    replace hl2:b<wc.heap.size:=by omega
    have hsc:u.heap.size≤wc.heap.size:=by omega
    clear hbx KV KA HOW;have hor:(!dn&& !ah)=false→(dn || !ah)=dn:=by cases dn<;>cases ah<;>simp
    have hor2:(!dn&& !ah)=true→(dn || !ah)=true:=by cases dn<;>cases ah<;>simp
    have HOR:Hid ((!dn&& !ah)=false→(dn || !ah)=dn):=hor;have HOR2:Hid ((!dn&& !ah)=true→(dn || !ah)=true):=hor2;clear hor hor2;by_cases hsame:C t=p∧R t=q
    ·have HSM:Hid (Ug x y=true):=by show _=_;rw [HY.out,HX.out];exact decide_eq_true hsame
     cases hput:(!dn&& !ah)
     ·have HI:Hid (XJ x d0 (clE C R S (t+1))=(LT,dn)):=by
       show _=_;rw [HRN.out,stC,HLA.out,HSM.out,if_neg (by rw [hput];decide),if_pos rfl,List.append_nil,List.append_nil,HOR.out hput]
      go_wp2_with fail
      go_quiet (fail)
      go_wp2_with fail
      go_roundw
      case rel=>exact⟨t+1,A',k,c,by omega,rfl,by rw [HI.out],by go_num,by rw [HI.out];exact HKL.out,by rw [HI.out];exact Ql HOc.out (below_drewN (Below.refl _ _) _),below_drewN KC.out _⟩
      case measure=>simp [intOf];omega
     ·have HI:Hid (XJ x d0 (clE C R S (t+1))=(LT++ [⟨p,q,s⟩],true)):=by
       show _=_;rw [HRN.out,stC,HLA.out,HSM.out,if_pos hput,if_pos rfl,List.append_nil,HOR2.out hput,HXE.out]
      go_wp2_with (first
       | (at_builtin;refine QL rfl _ _ rfl u.heap.size (.slice A' k c) k LT rfl (HOc.out.alloc _) p q s wc.heap.size rfl (by simp [go_sem]) (by simp [go_sem]) (by simp [go_sem]) (by omega) (by simp;omega) ?_)
       | fail)
      intro va w6 ho hg;obtain⟨F6,h6,rfl,_,_⟩:=Qr ho;have hba:Below wc.heap.size wc (wc.alloc (.cells #[.int .i64 p,.int .i64 q,.string s] 49)):=(Below.refl _ _).alloc (Nat.le_refl _) _;have HO6:Hid (w6.ownsRow u.heap.size 49 3 (.slice F6 (k+1) h6) (k+1) (Zb CL.cs (LT++ [⟨p,q,s⟩]))):=ho;have K6:Hid (Below u.heap.size u w6):=(KC.out.alloc hsc _).grown hg (by simp;omega) (fun j hj=>(HOc.out.lt j hj).1);have nB:some b≠(Value.slice A' k c).ownBlock:=fun e=>by have h8:=(HOc.out.lt _ e.symm).1;have h9:=HBL.out;have:=HUS.out;omega
      have nW:some w.heap.size≠(Value.slice A' k c).ownBlock:=fun e=>by have h8:=(HOc.out.lt _ e.symm).1;have:=HUS.out;omega
      replace c0:=hg.cell ((hba.cell (p:=⟨b,_,none⟩) hl2).trans c0) nB;replace c1:=hg.cell ((hba.cell (p:=⟨b,_,none⟩) hl2).trans c1) nB;replace c2:=hg.cell ((hba.cell (p:=⟨b,_,none⟩) hl2).trans c2) nB;replace y0:=hg.cell ((hba.cell (p:=⟨w.heap.size,0,none⟩) yz).trans y0) nW;replace y1:=hg.cell ((hba.cell (p:=⟨w.heap.size,1,none⟩) yz).trans y1) nW;have sz6:wc.heap.size≤w6.heap.size:=Nat.le_trans hba.size hg.size;replace hl2:b<w6.heap.size:=Nat.lt_of_lt_of_le hl2 sz6
      replace yz:w.heap.size<w6.heap.size:=Nat.lt_of_lt_of_le yz sz6;have hs6:u.heap.size≤w6.heap.size:=Nat.le_trans hsc sz6;clear ho hg hba;go_wp2_with fail
      go_quiet (fail)
      go_wp2_with fail
      go_roundw
      case rel=>exact⟨t+1,F6,k+1,h6,by omega,rfl,by rw [HI.out],by go_num,by rw [HI.out];simp [HKL.out],by rw [HI.out];exact Ql HO6.out (below_drewN (Below.refl _ _) _),below_drewN K6.out _⟩
      case measure=>simp [intOf];omega
    ·have HSM:Hid (Ug x y=false):=by show _=_;rw [HY.out,HX.out];exact decide_eq_false hsame
     by_cases e1:C t=p
     ·have e1c:(C t==p)=true:=beq_iff_eq.2 e1;have e2: ¬R t=q:=fun e=>hsame ⟨e1,e⟩;have e2b:(R t==q)=false:=beq_eq_false_iff_ne.2 e2;clear hsame;cases hput:(!dn&& !ah)
      ·have HI:Hid (XJ x d0 (clE C R S (t+1))=(LT++ [⟨C t,R t,S t⟩],dn)):=by
        show _=_;rw [HRN.out,stC,HLA.out,HSM.out,if_neg (by rw [hput];decide),if_neg (by decide),List.append_nil,HOR.out hput,←HY.out]
       go_wp2_with fail
       go_quiet (fail)
       obtain⟨wq,HWQ⟩: ∃wq,Hid (wc.drewN nq=wq):=⟨_,rfl⟩;rw [HWQ.out];have hbq:Below wc.heap.size wc wq:=by rw [←HWQ.out];exact below_drewN (Below.refl _ _) _
       replace c0:=(hbq.cell (p:=⟨b,_,none⟩) hl2).trans c0;replace c1:=(hbq.cell (p:=⟨b,_,none⟩) hl2).trans c1;replace c2:=(hbq.cell (p:=⟨b,_,none⟩) hl2).trans c2;have HOd:=hd (Ql HOc.out hbq);have KQ:Hid (Below u.heap.size u wq):=KC.out.trans (hbq.mono hsc);have hsq:u.heap.size≤wq.heap.size:=Nat.le_trans hsc hbq.size;replace hl2:b<wq.heap.size:=Nat.lt_of_lt_of_le hl2 hbq.size
       clear hbq
       go_wp2_with (first
        | (at_builtin;refine QL rfl _ _ rfl u.heap.size (.slice A' (k) c) (k) (LT) rfl (HOd.out.alloc _) (C t) (R t) (S t) wq.heap.size rfl (by simp [go_sem, *]) (by simp [go_sem, *]) (by simp [go_sem, *]) (by omega) (by simp;omega) ?_)
        | fail)
       intro va w7 ho hg;obtain⟨F7,h7,rfl,_,_⟩:=Qr ho
       have HO7:Hid (w7.ownsRow u.heap.size 49 3 (.slice F7 (k+1) h7) (k+1) (Zb CL.cs (LT++ [⟨C t,R t,S t⟩]))):=by
        show w7.ownsRow u.heap.size 49 3 (.slice F7 (k+1) h7) (k+1) (Zb CL.cs (LT++ [⟨C t,R t,S t⟩]));first | exact ho | (rw [e1];exact ho) | (rw [List.append_assoc];exact ho) | (rw [List.append_assoc,e1];exact ho)
       have K7:Hid (Below u.heap.size u w7):=(KQ.out.alloc hsq _).grown hg (by simp;omega) (fun j hj=>(HOd.out.lt j hj).1);clear ho hg;go_wp2_with fail
       go_roundw
       case rel=>exact⟨t+1,F7,k+1,h7,by omega,rfl,by rw [HI.out],by go_num,by rw [HI.out];simp [HKL.out],by rw [HI.out];exact HO7.out,K7.out⟩
       case measure=>simp [intOf];omega
      ·have HI:Hid (XJ x d0 (clE C R S (t+1))=(LT++ [⟨p,q,s⟩]++ [⟨C t,R t,S t⟩],true)):=by
        show _=_;rw [HRN.out,stC,HLA.out,HSM.out,if_pos hput,if_neg (by decide),HOR2.out hput,HXE.out,←HY.out]
       go_wp2_with (first
        | (at_builtin;refine QL rfl _ _ rfl u.heap.size (.slice A' k c) k LT rfl (HOc.out.alloc _) p q s wc.heap.size rfl (by simp [go_sem]) (by simp [go_sem]) (by simp [go_sem]) (by omega) (by simp;omega) ?_)
        | fail)
       intro va w6 ho hg;obtain⟨F6,h6,rfl,_,_⟩:=Qr ho;have hba:Below wc.heap.size wc (wc.alloc (.cells #[.int .i64 p,.int .i64 q,.string s] 49)):=(Below.refl _ _).alloc (Nat.le_refl _) _;have HO6:Hid (w6.ownsRow u.heap.size 49 3 (.slice F6 (k+1) h6) (k+1) (Zb CL.cs (LT++ [⟨p,q,s⟩]))):=ho;have K6:Hid (Below u.heap.size u w6):=(KC.out.alloc hsc _).grown hg (by simp;omega) (fun j hj=>(HOc.out.lt j hj).1);have nB:some b≠(Value.slice A' k c).ownBlock:=fun e=>by have h8:=(HOc.out.lt _ e.symm).1;have h9:=HBL.out;have:=HUS.out;omega
       have nW:some w.heap.size≠(Value.slice A' k c).ownBlock:=fun e=>by have h8:=(HOc.out.lt _ e.symm).1;have:=HUS.out;omega
       replace c0:=hg.cell ((hba.cell (p:=⟨b,_,none⟩) hl2).trans c0) nB;replace c1:=hg.cell ((hba.cell (p:=⟨b,_,none⟩) hl2).trans c1) nB;replace c2:=hg.cell ((hba.cell (p:=⟨b,_,none⟩) hl2).trans c2) nB;replace y0:=hg.cell ((hba.cell (p:=⟨w.heap.size,0,none⟩) yz).trans y0) nW;replace y1:=hg.cell ((hba.cell (p:=⟨w.heap.size,1,none⟩) yz).trans y1) nW;have sz6:wc.heap.size≤w6.heap.size:=Nat.le_trans hba.size hg.size;replace hl2:b<w6.heap.size:=Nat.lt_of_lt_of_le hl2 sz6
       replace yz:w.heap.size<w6.heap.size:=Nat.lt_of_lt_of_le yz sz6;have hs6:u.heap.size≤w6.heap.size:=Nat.le_trans hsc sz6;clear ho hg hba;go_wp2_with fail
       go_quiet (fail)
       obtain⟨wq,HWQ⟩: ∃wq,Hid (w6.drewN nq=wq):=⟨_,rfl⟩;rw [HWQ.out];have hbq:Below w6.heap.size w6 wq:=by rw [←HWQ.out];exact below_drewN (Below.refl _ _) _
       replace c0:=(hbq.cell (p:=⟨b,_,none⟩) hl2).trans c0;replace c1:=(hbq.cell (p:=⟨b,_,none⟩) hl2).trans c1;replace c2:=(hbq.cell (p:=⟨b,_,none⟩) hl2).trans c2;have HOd:=hd (Ql HO6.out hbq);have KQ:Hid (Below u.heap.size u wq):=K6.out.trans (hbq.mono hs6);have hsq:u.heap.size≤wq.heap.size:=Nat.le_trans hs6 hbq.size;replace hl2:b<wq.heap.size:=Nat.lt_of_lt_of_le hl2 hbq.size
       clear hbq
       go_wp2_with (first
        | (at_builtin;refine QL rfl _ _ rfl u.heap.size (.slice F6 (k+1) h6) (k+1) (LT++ [⟨p,q,s⟩]) rfl (HOd.out.alloc _) (C t) (R t) (S t) wq.heap.size rfl (by simp [go_sem, *]) (by simp [go_sem, *]) (by simp [go_sem, *]) (by omega) (by simp;omega) ?_)
        | fail)
       intro va w7 ho hg;obtain⟨F7,h7,rfl,_,_⟩:=Qr ho
       have HO7:Hid (w7.ownsRow u.heap.size 49 3 (.slice F7 (k+1+1) h7) (k+1+1) (Zb CL.cs (LT++ [⟨p,q,s⟩]++ [⟨C t,R t,S t⟩]))):=by
        show w7.ownsRow u.heap.size 49 3 (.slice F7 (k+1+1) h7) (k+1+1) (Zb CL.cs (LT++ [⟨p,q,s⟩]++ [⟨C t,R t,S t⟩]));first | exact ho | (rw [e1];exact ho) | (rw [List.append_assoc];exact ho) | (rw [List.append_assoc,e1];exact ho)
       have K7:Hid (Below u.heap.size u w7):=(KQ.out.alloc hsq _).grown hg (by simp;omega) (fun j hj=>(HOd.out.lt j hj).1);clear ho hg;go_wp2_with fail
       go_roundw
       case rel=>exact⟨t+1,F7,k+1+1,h7,by omega,rfl,by rw [HI.out],by go_num,by rw [HI.out];simp [HKL.out],by rw [HI.out];exact HO7.out,K7.out⟩
       case measure=>simp [intOf];omega
     ·have e1b:(C t==p)=false:=beq_eq_false_iff_ne.2 e1;clear hsame;cases hput:(!dn&& !ah)
      ·have HI:Hid (XJ x d0 (clE C R S (t+1))=(LT++ [⟨C t,R t,S t⟩],dn)):=by
        show _=_;rw [HRN.out,stC,HLA.out,HSM.out,if_neg (by rw [hput];decide),if_neg (by decide),List.append_nil,HOR.out hput,←HY.out]
       go_wp2_with fail
       go_quiet (fail)
       obtain⟨wq,HWQ⟩: ∃wq,Hid (wc.drewN nq=wq):=⟨_,rfl⟩;rw [HWQ.out];have hbq:Below wc.heap.size wc wq:=by rw [←HWQ.out];exact below_drewN (Below.refl _ _) _
       replace c0:=(hbq.cell (p:=⟨b,_,none⟩) hl2).trans c0;replace c1:=(hbq.cell (p:=⟨b,_,none⟩) hl2).trans c1;replace c2:=(hbq.cell (p:=⟨b,_,none⟩) hl2).trans c2;have HOd:=hd (Ql HOc.out hbq);have KQ:Hid (Below u.heap.size u wq):=KC.out.trans (hbq.mono hsc);have hsq:u.heap.size≤wq.heap.size:=Nat.le_trans hsc hbq.size;replace hl2:b<wq.heap.size:=Nat.lt_of_lt_of_le hl2 hbq.size
       clear hbq
       go_wp2_with (first
        | (at_builtin;refine QL rfl _ _ rfl u.heap.size (.slice A' (k) c) (k) (LT) rfl (HOd.out.alloc _) (C t) (R t) (S t) wq.heap.size rfl (by simp [go_sem, *]) (by simp [go_sem, *]) (by simp [go_sem, *]) (by omega) (by simp;omega) ?_)
        | fail)
       intro va w7 ho hg;obtain⟨F7,h7,rfl,_,_⟩:=Qr ho
       have HO7:Hid (w7.ownsRow u.heap.size 49 3 (.slice F7 (k+1) h7) (k+1) (Zb CL.cs (LT++ [⟨C t,R t,S t⟩]))):=by
        show w7.ownsRow u.heap.size 49 3 (.slice F7 (k+1) h7) (k+1) (Zb CL.cs (LT++ [⟨C t,R t,S t⟩]));first | exact ho | (rw [e1];exact ho) | (rw [List.append_assoc];exact ho) | (rw [List.append_assoc,e1];exact ho)
       have K7:Hid (Below u.heap.size u w7):=(KQ.out.alloc hsq _).grown hg (by simp;omega) (fun j hj=>(HOd.out.lt j hj).1);clear ho hg;go_wp2_with fail
       go_roundw
       case rel=>exact⟨t+1,F7,k+1,h7,by omega,rfl,by rw [HI.out],by go_num,by rw [HI.out];simp [HKL.out],by rw [HI.out];exact HO7.out,K7.out⟩
       case measure=>simp [intOf];omega
      ·have HI:Hid (XJ x d0 (clE C R S (t+1))=(LT++ [⟨p,q,s⟩]++ [⟨C t,R t,S t⟩],true)):=by
        show _=_;rw [HRN.out,stC,HLA.out,HSM.out,if_pos hput,if_neg (by decide),HOR2.out hput,HXE.out,←HY.out]
       go_wp2_with (first
        | (at_builtin;refine QL rfl _ _ rfl u.heap.size (.slice A' k c) k LT rfl (HOc.out.alloc _) p q s wc.heap.size rfl (by simp [go_sem]) (by simp [go_sem]) (by simp [go_sem]) (by omega) (by simp;omega) ?_)
        | fail)
       intro va w6 ho hg;obtain⟨F6,h6,rfl,_,_⟩:=Qr ho;have hba:Below wc.heap.size wc (wc.alloc (.cells #[.int .i64 p,.int .i64 q,.string s] 49)):=(Below.refl _ _).alloc (Nat.le_refl _) _;have HO6:Hid (w6.ownsRow u.heap.size 49 3 (.slice F6 (k+1) h6) (k+1) (Zb CL.cs (LT++ [⟨p,q,s⟩]))):=ho;have K6:Hid (Below u.heap.size u w6):=(KC.out.alloc hsc _).grown hg (by simp;omega) (fun j hj=>(HOc.out.lt j hj).1);have nB:some b≠(Value.slice A' k c).ownBlock:=fun e=>by have h8:=(HOc.out.lt _ e.symm).1;have h9:=HBL.out;have:=HUS.out;omega
       have nW:some w.heap.size≠(Value.slice A' k c).ownBlock:=fun e=>by have h8:=(HOc.out.lt _ e.symm).1;have:=HUS.out;omega
       replace c0:=hg.cell ((hba.cell (p:=⟨b,_,none⟩) hl2).trans c0) nB;replace c1:=hg.cell ((hba.cell (p:=⟨b,_,none⟩) hl2).trans c1) nB;replace c2:=hg.cell ((hba.cell (p:=⟨b,_,none⟩) hl2).trans c2) nB;replace y0:=hg.cell ((hba.cell (p:=⟨w.heap.size,0,none⟩) yz).trans y0) nW;replace y1:=hg.cell ((hba.cell (p:=⟨w.heap.size,1,none⟩) yz).trans y1) nW;have sz6:wc.heap.size≤w6.heap.size:=Nat.le_trans hba.size hg.size;replace hl2:b<w6.heap.size:=Nat.lt_of_lt_of_le hl2 sz6
       replace yz:w.heap.size<w6.heap.size:=Nat.lt_of_lt_of_le yz sz6;have hs6:u.heap.size≤w6.heap.size:=Nat.le_trans hsc sz6;clear ho hg hba;go_wp2_with fail
       go_quiet (fail)
       obtain⟨wq,HWQ⟩: ∃wq,Hid (w6.drewN nq=wq):=⟨_,rfl⟩;rw [HWQ.out];have hbq:Below w6.heap.size w6 wq:=by rw [←HWQ.out];exact below_drewN (Below.refl _ _) _
       replace c0:=(hbq.cell (p:=⟨b,_,none⟩) hl2).trans c0;replace c1:=(hbq.cell (p:=⟨b,_,none⟩) hl2).trans c1;replace c2:=(hbq.cell (p:=⟨b,_,none⟩) hl2).trans c2;have HOd:=hd (Ql HO6.out hbq);have KQ:Hid (Below u.heap.size u wq):=K6.out.trans (hbq.mono hs6);have hsq:u.heap.size≤wq.heap.size:=Nat.le_trans hs6 hbq.size;replace hl2:b<wq.heap.size:=Nat.lt_of_lt_of_le hl2 hbq.size
       clear hbq
       go_wp2_with (first
        | (at_builtin;refine QL rfl _ _ rfl u.heap.size (.slice F6 (k+1) h6) (k+1) (LT++ [⟨p,q,s⟩]) rfl (HOd.out.alloc _) (C t) (R t) (S t) wq.heap.size rfl (by simp [go_sem, *]) (by simp [go_sem, *]) (by simp [go_sem, *]) (by omega) (by simp;omega) ?_)
        | fail)
       intro va w7 ho hg;obtain⟨F7,h7,rfl,_,_⟩:=Qr ho
       have HO7:Hid (w7.ownsRow u.heap.size 49 3 (.slice F7 (k+1+1) h7) (k+1+1) (Zb CL.cs (LT++ [⟨p,q,s⟩]++ [⟨C t,R t,S t⟩]))):=by
        show w7.ownsRow u.heap.size 49 3 (.slice F7 (k+1+1) h7) (k+1+1) (Zb CL.cs (LT++ [⟨p,q,s⟩]++ [⟨C t,R t,S t⟩]));first | exact ho | (rw [e1];exact ho) | (rw [List.append_assoc];exact ho) | (rw [List.append_assoc,e1];exact ho)
       have K7:Hid (Below u.heap.size u w7):=(KQ.out.alloc hsq _).grown hg (by simp;omega) (fun j hj=>(HOd.out.lt j hj).1);clear ho hg;go_wp2_with fail
       go_roundw
       case rel=>exact⟨t+1,F7,k+1+1,h7,by omega,rfl,by rw [HI.out],by go_num,by rw [HI.out];simp [HKL.out],by rw [HI.out];exact HO7.out,K7.out⟩
       case measure=>simp [intOf];omega
  ·have h1: ¬(t:Int)<(n:Int):=by omega
   obtain rfl:n=t:=by omega
   have HXS:Hid (x.s.toList.isEmpty=d0):=by show _=_;rw [HX.out];exact HD0.out
   cases dn
   ·have HI:Hid (Qcm x (clE C R S n)=LT++ [⟨p,q,s⟩]):=by show _=_;rw [Qcm,HXS.out,HLT.out,if_neg (fun e=>by cases e),HXE.out]
    go_wp2_with (first
     | (at_builtin;refine QL rfl _ _ rfl u.heap.size (.slice A' k c) k LT rfl (HOW.out.alloc _) p q s wr.heap.size rfl (by simp [go_sem]) (by simp [go_sem]) (by simp [go_sem]) (by omega) (by simp;omega) ?_)
     | fail)
    intro va w6 ho hg;obtain⟨F6,h6,rfl,_,_⟩:=Qr ho;have HO6:Hid (w6.ownsRow u.heap.size 49 3 (.slice F6 (k+1) h6) (k+1) (Zb CL.cs (LT++ [⟨p,q,s⟩]))):=ho;have K6:Hid (Below u.heap.size u w6):=(KV.out.alloc hsv _).grown hg (by simp;omega) (fun j hj=>(HOW.out.lt j hj).1);clear ho hg;go_wp2_with fail
    go_ret;refine⟨F6,h6,k+1,rfl,by rw [HI.out];simp [HKL.out],?_,HBU.out.trans (K6.out.mono (by have:=HUS.out;omega))⟩;rw [HI.out];exact ownsRow_base_a HO6.out (by have:=HUS.out;omega)
   ·have HI:Hid (Qcm x (clE C R S n)=LT):=by show _=_;rw [Qcm,HXS.out,HLT.out,if_pos rfl]
    go_wp2_with fail
    go_ret;refine⟨A',c,k,rfl,by rw [HI.out];exact HKL.out,?_,KA.out⟩;rw [HI.out];exact ownsRow_base_a HOW.out (by have:=HUS.out;omega)
theorem Qkl {C R:Nat→Int} {S:Nat→ByteArray} {n:Nat} (h:Je C R n=true):(∀i,i<n→Qj (C i) (R i)=true)∧(clE C R S n).Pairwise (fun a b=>ltC a b=true):=by
 have hr: ∀i,i<n→QY C R i=true:=fun i hi=>List.all_eq_true.1 h i (List.mem_range.2 hi)
 have hs: ∀i,i+1<n→ZT (C i) (R i) (C (i+1)) (R (i+1))=true:=fun i hi=>by
  have h9:=hr (i+1) hi;simp only [QY,Bool.and_eq_true,Bool.or_eq_true,decide_eq_true_eq]at h9;rcases h9.2 with e | e
  ·omega
  ·exact e
 have ht: ∀i j,i<j→j<n→ZT (C i) (R i) (C j) (R j)=true:=fun i j=>by
  induction j with
  | zero=>intro hi;omega
  | succ j ih=>
   intro hi hj;have h1:=hs j hj;by_cases e:i=j
   ·subst e;exact h1
   ·have h2:=of_decide_eq_true (ih (by omega) (by omega));have h3:=of_decide_eq_true h1;exact decide_eq_true (by omega)
 refine⟨fun i hi=> ?_,?_⟩
 ·have h9:=hr i hi;simp only [QY,Bool.and_eq_true]at h9;exact h9.1
 ·rw [List.pairwise_iff_getElem];intro i j hi hj hij;rw [YP]at hi hj;simp only [clE,List.getElem_map,List.getElem_range];exact ht i j hij hj
theorem Qit {s t:ByteArray} (h:inF s=some t):t.size≤200:=by
 unfold inF at h;split at h
 ·unfold lim at h;split at h
  ·split at h
   ·cases h;assumption
   ·cases h
  ·cases h
 ·cases h
theorem VG {C R:Nat→Int} {S:Nat→ByteArray} {n:Nat} (h:QC C R S n=true):n≤120∧(∀i,i<n→Qj (C i) (R i)=true)∧(clE C R S n).Pairwise (fun a b=>ltC a b=true):=by
 unfold QC at h;simp only [Bool.and_eq_true,decide_eq_true_eq]at h;exact⟨h.1.1,Qkl h.1.2⟩
theorem cyE {W w':World} {b o:Nat} {x:Value} (hb:Below W.heap.size W w') (c:W.cell? ⟨b,o,none⟩=some x):w'.cell? ⟨b,o,none⟩=some x:=
 (hb.cell (p:=⟨b,o,none⟩) (World.block_lt_of_cell? W ⟨b,o,none⟩ c)).trans c
def enF (C R:Nat→Int) (S:Nat→ByteArray) (n:Nat) (p q:Int) (s:ByteArray):Option (List CL):=if QC C R S n=true∧Qj p q=true then(match inF s with
 | some t=>if 120<(Xs ⟨p,q,t⟩ (clE C R S n)).length then none else some (Xs ⟨p,q,t⟩ (clE C R S n))
 | none=>none)else none
def EnR (B:Nat) (w':World) (r:Option (List CL)) (e:Ending):Prop:=match r with
 | some L=> ∃A c m,e= .returned (.tuple #[.slice A m c,.bool true])∧L.length=m∧w'.ownsRow B 49 3 (.slice A m c) m (Zb CL.cs L)
 | none=>e= .returned (.tuple #[.slice none 0 0,.bool false])
theorem Qmc {C R:Nat→Int} {S:Nat→ByteArray} {n:Nat} {p q:Int} {s:ByteArray} (h:QC C R S n=false):enF C R S n p q s=none:=by rw [enF,if_neg (fun e=>by rw [h]at e;cases e.1)]
theorem Qmb {C R:Nat→Int} {S:Nat→ByteArray} {n:Nat} {p q:Int} {s:ByteArray} (h:Qj p q=false):enF C R S n p q s=none:=by rw [enF,if_neg (fun e=>by rw [h]at e;cases e.2)]
theorem Qma {C R:Nat→Int} {S:Nat→ByteArray} {n:Nat} {p q:Int} {s:ByteArray} (h:inF s=none):enF C R S n p q s=none:=by rw [enF,h];split<;>rfl
theorem Ql9 {C R:Nat→Int} {S:Nat→ByteArray} {n:Nat} {p q:Int} {s t:ByteArray} (h1:QC C R S n=true) (h2:Qj p q=true) (h3:inF s=some t):enF C R S n p q s=if 120<(Xs ⟨p,q,t⟩ (clE C R S n)).length then none else some (Xs ⟨p,q,t⟩ (clE C R S n)):=by rw [enF,if_pos ⟨h1,h2⟩,h3]
theorem ED {A:Option Addr} {n cap:Nat} {C R:Nat→Int} {S:Nat→ByteArray} {p q:Int} {s:ByteArray} (w:World) (h:ClRow w A n C R S) (hs:s.size≤maxLen):
  Calls Tryz.prog 45 #[.slice A n cap,.agg #[.int .i64 p,.int .i64 q],.string s] w fun e w'=>EnR w.heap.size w' (enF C R S n p q s) e∧Below w.heap.size w w':=by
 have HR:Hid (ClRow w A n C R S):=h;have HS:Hid (s.size≤maxLen):=hs;clear h;obtain⟨ck,HCK⟩: ∃ck,Hid (QC C R S n=ck):=⟨_,rfl⟩;obtain⟨rk,HRK⟩: ∃rk,Hid (Qj p q=rk):=⟨_,rfl⟩;obtain⟨io,HIO⟩: ∃io,Hid (inF s=io):=⟨_,rfl⟩;go_enter Tryz.func45,Tryz.ntmps45
 go_wp2_with fail
 obtain⟨X,HX⟩: ∃X,Hid (w.alloc (.cells #[.int .i64 p,.int .i64 q] 38)=X):=⟨_,rfl⟩;rw [HX.out];have x0:X.cell? ⟨w.heap.size,0,none⟩=some (.int .i64 p):=by rw [←HX.out];go_simp
 have x1:X.cell? ⟨w.heap.size,1,none⟩=some (.int .i64 q):=by rw [←HX.out];go_simp
 have zX:w.heap.size<X.heap.size:=by rw [←HX.out];simp
 have KX:Hid (Below w.heap.size w X):=by rw [←HX.out];show Below _ _ _;go_grown
 clear HX;refine(Zg s X HS.out).mono ?_;rintro e u0 ⟨hop,hb⟩;replace x0:=cyE hb x0;replace x1:=cyE hb x1;replace zX:w.heap.size<u0.heap.size:=Nat.lt_of_lt_of_le zX hb.size;replace KX:=hd (Qe KX.out hb)
 clear hb;rw [HIO.out]at hop;have HOP:Hid (opA io e):=hop;clear hop
 obtain⟨tx,ok,HE,HTX⟩: ∃(tx:ByteArray) (ok:Bool),Hid (e= .returned (.tuple #[.string tx,.bool ok]))∧Hid (io=if ok=true then some tx else none):=by
  cases io with
  | none=>exact⟨⟨#[]⟩,false,HOP.out,rfl⟩
  | some t=>exact⟨t,true,HOP.out,rfl⟩
 rw [HE.out];clear HE HOP;go_wp2_with fail
 refine(YX _ (HR.out.below KX.out)).mono ?_;rintro e u1 ⟨rfl,hb⟩;replace x0:=cyE hb x0;replace x1:=cyE hb x1;replace zX:w.heap.size<u1.heap.size:=Nat.lt_of_lt_of_le zX hb.size;replace KX:=hd (Qe KX.out hb);clear hb
 rw [HCK.out];cases ck
 ·have HV:Hid (enF C R S n p q s=none):=Qmc HCK.out;go_wp2_with fail
  refine bodyPost_ret (v:= .tuple #[.slice none 0 0,.bool false]) ?_ rfl ⟨?_,KX.out⟩
  ·simp (maxDischargeDepth:=9) [results,Tryz.results45,go_sem, *]
  ·rw [HV.out];exact rfl
 go_wp2_with fail
 refine(Qu p q _).mono ?_;rintro e u2 ⟨rfl,hb⟩;replace x0:=cyE hb x0;replace x1:=cyE hb x1;replace zX:w.heap.size<u2.heap.size:=Nat.lt_of_lt_of_le zX hb.size;replace KX:=hd (Qe KX.out hb);clear hb
 rw [HRK.out];cases rk
 ·have HV:Hid (enF C R S n p q s=none):=Qmb HRK.out;go_wp2_with fail
  refine bodyPost_ret (v:= .tuple #[.slice none 0 0,.bool false]) ?_ rfl ⟨?_,KX.out⟩
  ·simp (maxDischargeDepth:=9) [results,Tryz.results45,go_sem, *]
  ·rw [HV.out];exact rfl
 cases ok
 ·have HV:Hid (enF C R S n p q s=none):=Qma (HIO.out.trans HTX.out);go_wp2_with fail
  refine bodyPost_ret (v:= .tuple #[.slice none 0 0,.bool false]) ?_ rfl ⟨?_,KX.out⟩
  ·simp (maxDischargeDepth:=9) [results,Tryz.results45,go_sem, *]
  ·rw [HV.out];exact rfl
 have HIT:Hid (inF s=some tx):=HIO.out.trans HTX.out;obtain⟨hn,hrf,hri⟩:=VG HCK.out;have HRI:Hid ((clE C R S n).Pairwise (fun a b=>ltC a b=true)):=hri;have HRF:Hid (∀i,i<n→Qj (C i) (R i)=true):=hrf;have HV:Hid (enF C R S n p q s=if 120<(Xs ⟨p,q,tx⟩ (clE C R S n)).length then none else some (Xs ⟨p,q,tx⟩ (clE C R S n))):=Ql9 HCK.out HRK.out HIT.out;clear hri hrf;go_wp2_with fail
 refine(Ue _ (HR.out.below KX.out) (by omega)).mono ?_;rintro e u3 ⟨A',c',m,rfl,hl,ho,hb⟩;have HEQ:Hid (Qcm ⟨p,q,tx⟩ (clE C R S n)=Xs ⟨p,q,tx⟩ (clE C R S n)):=(Bn HRI.out).symm;rw [HEQ.out]at hl ho;have HLN:Hid ((Xs ⟨p,q,tx⟩ (clE C R S n)).length=m):=hl;have HO:Hid (u3.ownsRow w.heap.size 49 3 (.slice A' m c') m (Zb CL.cs (Xs ⟨p,q,tx⟩ (clE C R S n)))):=Go.Proofs.ownsRow_base_a ho KX.out.size;clear hl ho
 replace x0:=cyE hb x0;replace x1:=cyE hb x1;replace zX:w.heap.size<u3.heap.size:=Nat.lt_of_lt_of_le zX hb.size;replace KX:=hd (Qe KX.out hb);clear hb;by_cases h120:120<m
 ·have q1:(120:Int)<((m:Nat):Int):=by omega
  go_wp2_with fail
  refine bodyPost_ret (v:= .tuple #[.slice none 0 0,.bool false]) ?_ rfl ⟨?_,KX.out⟩
  ·simp (maxDischargeDepth:=9) [results,Tryz.results45,go_sem, *]
  ·rw [HV.out,HLN.out,if_pos h120];exact rfl
 ·have q1: ¬(120:Int)<((m:Nat):Int):=by omega
  go_wp2_with fail
  refine bodyPost_ret (v:= .tuple #[.slice A' m c',.bool true]) ?_ rfl ⟨?_,KX.out⟩
  ·simp (maxDischargeDepth:=9) [results,Tryz.results45,go_sem, *]
  ·rw [HV.out,HLN.out,if_neg h120];exact⟨A',c',m,rfl,HLN.out,HO.out⟩
end Go.Proofs.YthjldgbfgapbcaaGreatDoor
