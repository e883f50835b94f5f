import Derived.Test.YtbdhinckiccniaaGreatDoorMn
import Derived.Test.YtbdhinckiccniaaGreatDoorRb
set_option linter.unusedSimpArgs false
set_option linter.unusedVariables false
set_option maxHeartbeats 16000000
set_option maxRecDepth 100000
namespace Go.Proofs.YtbdhinckiccniaaGreatDoor
open Go.RowKit Go.Maps
theorem Qbk(s:ByteArray)(w:World)(hs:s.size≤1048576):Calls Tryz.prog 13 #[.string s] w fun e w'=>RgPost w.heap.size (UI s) e w'∧Below w.heap.size w w':=by
 obtain⟨ls,HLS⟩: ∃y,Hid ((ln s.data.toList).1=y):=⟨_,rfl⟩;obtain⟨n,HN⟩: ∃n,Hid (ls.length=n):=⟨_,rfl⟩;have HSZ:Hid (∀l∈ls,l.length≤1048576):=by rw[←HLS.out];exact fun l hl=>Nat.le_trans ((Qb4 s.data.toList).1 l hl) (by simpa using hs)
 go_enter Tryz.func13,Tryz.ntmps13;go_wp2_with fail
 obtain⟨X,HX⟩: ∃X,Hid (w.alloc (.cells #[.int .i64 0,.slice none 0 0,.slice none 0 0] 43)=X):=⟨_,rfl⟩;rw[HX.out];have p0:X.cell? ⟨w.heap.size,0,none⟩=some (.int .i64 0):=by rw[←HX.out];go_simp
 have p1:X.cell? ⟨w.heap.size,1,none⟩=some (.slice none 0 0):=by rw[←HX.out];go_simp
 have p2:X.cell? ⟨w.heap.size,2,none⟩=some (.slice none 0 0):=by rw[←HX.out];go_simp
 have pf: ∀o,X.frozen? ⟨w.heap.size,o,none⟩=false:=fun o=>by rw[←HX.out];go_simp
 have zX:w.heap.size<X.heap.size:=by rw[←HX.out];simp
 have KX:Hid (Below w.heap.size w X):=by rw[←HX.out];show Below _ _ _;go_grown
 clear HX;refine(NR s _ hs).mono ?_;rintro e u1 ⟨v,rfl,ho,hb⟩;obtain⟨LA,lcap,rfl,_,hc⟩:=Qo ho;rw[HLS.out,HN.out]at ho hc ⊢
 have HCL:Hid (∀(k:Nat) l,ls[k]? =some l→ ∃g,LA=some ⟨g,0,none⟩∧g<u1.heap.size∧u1.cell? ⟨g,k,none⟩=some (.string (bs l))):=fun k l hl=>by
  have hk:k<n:=by rw[←HN.out];exact(List.getElem?_eq_some_iff.1 hl).1
  obtain⟨g,rfl,_,hg,d0,_⟩:=hc k (by omega);refine⟨g,rfl,hg,d0.trans ?_⟩;unfold stB;rw[List.getElem?_map,hl];rfl
 replace p0:=cy hb p0;replace p1:=cy hb p1;replace p2:=cy hb p2;replace pf: ∀o,u1.frozen? ⟨w.heap.size,o,none⟩=false:=fun o=>(hb.frozen (p:=⟨w.heap.size,o,none⟩) zX).trans (pf o);replace zX:w.heap.size<u1.heap.size:=Nat.lt_of_lt_of_le zX hb.size;replace KX:=hd (Qc KX.out hb);clear hb ho hc
 by_cases hok:(ln s.data.toList).2= []
 rotate_left
 ·have HF:Hid (UI s=none):=if_neg (fun h=>hok h.1);rw[decide_eq_false hok];go_wp2_with fail
  refine bodyPost_ret (v:= .tuple #[.agg #[.int .i64 0,.slice none 0 0,.slice none 0 0],.bool false]) ?_ rfl ⟨RgPost.no HF.out rfl,((KX.out.setCell (Nat.le_refl _) _).setCell (Nat.le_refl _) _).setCell (Nat.le_refl _) _⟩;simp (maxDischargeDepth:=9) [results,Tryz.results13,go_sem, *]
 rw[decide_eq_true hok];by_cases hn9:10000<n
 ·have HF:Hid (UI s=none):=if_neg (fun h=>by have:=h.2;rw[HLS.out,HN.out]at this;omega);have q1:(10000:Int)<(n:Int):=by omega
  go_wp2_with fail
  refine bodyPost_ret (v:= .tuple #[.agg #[.int .i64 0,.slice none 0 0,.slice none 0 0],.bool false]) ?_ rfl ⟨RgPost.no HF.out rfl,((KX.out.setCell (Nat.le_refl _) _).setCell (Nat.le_refl _) _).setCell (Nat.le_refl _) _⟩;simp (maxDischargeDepth:=9) [results,Tryz.results13,go_sem, *]
 have HAS:Hid (UI s=Qa1 XT XG Om s ls):=by show _=_;unfold UI;rw[if_pos ⟨hok,by rw[HLS.out,HN.out];omega⟩,HLS.out]
 have q1: ¬(10000:Int)<(n:Int):=by omega
 have q2: ¬(2000000:Int)<(s.size:Int):=by omega
 clear hok;go_upto_region 5 with fail
 obtain⟨Z,HZ⟩: ∃Z,Hid (u1.alloc (.cells #[.int .i64 0,.slice none 0 0,.slice none 0 0] 43)=Z):=⟨_,rfl⟩;rw[HZ.out];have D0:Hid (DqP Z u1.heap.size u1.heap.size q0 (.slice none 0 0) (.slice none 0 0) []):=by rw[←HZ.out];exact DqP.new u1
 have B0:Hid (Below u1.heap.size u1 Z):=by rw[←HZ.out];exact(Below.refl _ _).alloc (Nat.le_refl _) _
 clear HZ;obtain⟨b,HB⟩: ∃b,Hid (u1.heap.size=b):=⟨_,rfl⟩;have zb:w.heap.size<b:=by rw[←HB.out];exact zX
 rw[HB.out]at D0 B0 HCL ⊢;go_wp2_with fail
 go_loopw [7] (fun i wr=> ∃(k:Nat) (q:RQ) (v1 v2:Value) (ys:List Value),k≤n∧i= .int .i64 k∧Qy XT XG Om q0 (ls.take k)=some q∧DqP wr b b q v1 v2 ys∧Below b u1 wr) (fun i _=>n-(intOf i).toNat)
 case atStart=>exact⟨0,q0,_,_,[],Nat.zero_le _,rfl,rfl,D0.out,B0.out⟩
 case round=>
  obtain⟨k,q,v1,v2,ys,hk,rfl,hr,hdq,hbel⟩:=hrel;by_cases hlt:k<n
  rotate_left
  ·obtain rfl:k=n:=by omega
   obtain⟨VA,vc,rfl,_,_⟩:=Qo hdq.vr;obtain⟨BA,bc,rfl,_,_⟩:=Qo hdq.br;rw[←HN.out,List.take_length]at hr;have HR:Hid (Qy XT XG Om q0 ls=some q):=hr
   have HLM:Hid (LimQ 1048576 k q):=by
    have:=LimQ.run wfS ls 0 q0 q (LimQ.zero _) HSZ.out hr;rw[HN.out,Nat.zero_add]at this;exact this
   have D:Hid (DqP wr b b q (.slice VA q.vs.length vc) (.slice BA q.bl.length bc) ys):=hdq;have BL:Hid (Below b u1 wr):=hbel;have hbz:b<wr.heap.size:=hdq.le.2;have c0:wr.cell? ⟨b,0,none⟩=some (.int .i64 q.next):=hdq.box.cellAt 0 (by decide);have c1:wr.cell? ⟨b,1,none⟩=some (.slice VA q.vs.length vc):=hdq.box.cellAt 1 (by decide);have c2:wr.cell? ⟨b,2,none⟩=some (.slice BA q.bl.length bc):=hdq.box.cellAt 2 (by decide);have hk1: ¬(k:Int)<(k:Int):=by omega
   clear hr hdq hbel hlt;go_wp2_with fail
   refine(Bn _ (D.out.val.row (HLM.out.srcs (by omega))) (HLM.out.ok (by omega))).mono ?_;rintro e x1 ⟨rfl,hb⟩;obtain⟨t,HT⟩: ∃t,Hid (Qgq (dgQ q)=t):=⟨_,rfl⟩;rw[HT.out];replace D:=hd (D.out.below hb);replace BL:Hid (Below b u1 x1):=bqm BL.out hb (Nat.le_of_lt hbz);replace hbz:b<x1.heap.size:=Nat.lt_of_lt_of_le hbz hb.size
   clear hb;replace c0:x1.cell? ⟨b,0,none⟩=some (.int .i64 q.next):=D.out.box.cellAt 0 (by decide);replace c1:x1.cell? ⟨b,1,none⟩=some (.slice VA q.vs.length vc):=D.out.box.cellAt 1 (by decide);replace c2:x1.cell? ⟨b,2,none⟩=some (.slice BA q.bl.length bc):=D.out.box.cellAt 2 (by decide);have P0:x1.cell? ⟨w.heap.size,0,none⟩=some (.int .i64 0):=(BL.out.cell (p:=⟨w.heap.size,0,none⟩) zb).trans p0;have P1:x1.cell? ⟨w.heap.size,1,none⟩=some (.slice none 0 0):=(BL.out.cell (p:=⟨w.heap.size,1,none⟩) zb).trans p1;have P2:x1.cell? ⟨w.heap.size,2,none⟩=some (.slice none 0 0):=(BL.out.cell (p:=⟨w.heap.size,2,none⟩) zb).trans p2
   have PF: ∀o,x1.frozen? ⟨w.heap.size,o,none⟩=false:=fun o=>(BL.out.frozen (p:=⟨w.heap.size,o,none⟩) zb).trans (pf o);have KW:Hid (Below w.heap.size w x1):=KX.out.trans (BL.out.mono (Nat.le_of_lt zb));clear p0 p1 p2 pf;cases hs9:t.toList==s.toList
   ·have HF:Hid (UI s=none):=HAS.out.trans (Qeb HR.out (Or.inl (by rw[HT.out];exact hs9)));go_wp2_with fail
    refine bodyPost_ret (v:= .tuple #[.agg #[.int .i64 0,.slice none 0 0,.slice none 0 0],.bool false]) ?_ rfl ⟨RgPost.no HF.out rfl,((KW.out.setCell (Nat.le_refl _) _).setCell (Nat.le_refl _) _).setCell (Nat.le_refl _) _⟩;simp (maxDischargeDepth:=9) [results,Tryz.results13,go_sem, *]
   ·cases hse:s.toList.isEmpty
    rotate_left
    ·have HF:Hid (UI s=none):=HAS.out.trans (Qeb HR.out (Or.inr hse));go_wp2_with fail
     refine bodyPost_ret (v:= .tuple #[.agg #[.int .i64 0,.slice none 0 0,.slice none 0 0],.bool false]) ?_ rfl ⟨RgPost.no HF.out rfl,((KW.out.setCell (Nat.le_refl _) _).setCell (Nat.le_refl _) _).setCell (Nat.le_refl _) _⟩;simp (maxDischargeDepth:=9) [results,Tryz.results13,go_sem, *]
    ·have HF:Hid (UI s=some q):=HAS.out.trans (Qgf HR.out (by rw[HT.out];exact hs9) hse);go_wp2_with fail
     refine bodyPost_ret (v:= .tuple #[.agg #[.int .i64 q.next,(.slice VA q.vs.length vc),(.slice BA q.bl.length bc)],.bool true]) ?_ rfl ⟨RgPost.yes HF.out rfl ?_,((KW.out.setCell (Nat.le_refl _) _).setCell (Nat.le_refl _) _).setCell (Nat.le_refl _) _⟩
     ·simp (maxDischargeDepth:=9) [results,Tryz.results13,go_sem, *]
     ·exact((((D.out.val.setB zb).setB zb).setB zb).mono (Nat.le_of_lt zb))
  obtain⟨l,hl⟩: ∃l,ls[k]? =some l:=⟨_,List.getElem?_eq_getElem (by rw[HN.out];exact hlt)⟩;obtain⟨g,rfl,hg,d0⟩:=HCL.out k l hl;replace d0:wr.cell? ⟨g,k,none⟩=some (.string (bs l)):=(hbel.cell (p:=⟨g,k,none⟩) hg).trans d0;have HNX:Hid (Qy XT XG Om q0 (ls.take (k+1))=stG XT XG Om q l):=Qiv hr hl
  have HLM:Hid (LimQ 1048576 k q):=by
   have:=LimQ.run wfS (ls.take k) 0 q0 q (LimQ.zero _) (fun y hy=>HSZ.out y (List.mem_of_mem_take hy)) hr;rw[List.length_take,HN.out,Nat.zero_add,Nat.min_eq_left hk]at this;exact this
  have HLZ:Hid (l.length≤1048576):=HSZ.out l (List.mem_of_getElem? hl);have D:Hid (DqP wr b b q v1 v2 ys):=hdq;have BL:Hid (Below b u1 wr):=hbel;have hk0:(0:Int)≤(k:Int):=by omega
  have hk1:(k:Int)<(n:Int):=by omega
  clear hr hl hdq hbel;go_wp2_with fail
  refine(Qao (bs l) _ (by rw[Qj];exact HLZ.out)).mono ?_;rintro e x1 ⟨rfl,hb⟩;rw[Qnt];have hbz:b<wr.heap.size:=D.out.le.2;replace D:=hd (D.out.below hb);replace BL:Hid (Below b u1 x1):=bqm BL.out hb (Nat.le_of_lt hbz);replace hbz:b<x1.heap.size:=Nat.lt_of_lt_of_le hbz hb.size
  clear hb;clear d0 hg;obtain⟨wd,HW⟩: ∃y,Hid (bs (cw 32 l)=y):=⟨_,rfl⟩;obtain⟨rs,HRS⟩: ∃y,Hid (bs (cr 32 l)=y):=⟨_,rfl⟩;have HWL:Hid (wd.data.toList=cw 32 l):=by rw[←HW.out];exact(rfl:_=_)
  have HRL:Hid (rs.data.toList=cr 32 l):=by rw[←HRS.out];exact(rfl:_=_)
  have zwd:wd.size≤1048576:=by rw[←HW.out,Qj];exact Nat.le_trans (Qm5 32 l) HLZ.out
  have zrs:rs.size≤1048576:=by rw[←HRS.out,Qj];exact Nat.le_trans (Qew 32 l) HLZ.out
  rw[HW.out,HRS.out];by_cases w1:cw 32 l=UF
  ·have e9:wd=⟨#[100,97,103]⟩:=by rw[←HW.out,w1];rfl
   obtain⟨nn,HNN⟩: ∃y,Hid (nS rs.data.toList=y):=⟨_,rfl⟩;have HQ:Hid (stG XT XG Om q l=some ⟨nn,q.bl,q.vs⟩):=by show _=_;unfold stG;rw[if_pos w1,←HRL.out,←HNN.out];rfl
   clear HW HWL w1;subst e9;go_wp2_with fail
   refine(Yg rs _ zrs).mono ?_;rintro e x2 ⟨⟨f,rfl⟩,hx⟩;obtain rfl:=hx;rw[HNN.out];have c0:x2.cell? ⟨b,0,none⟩=some (.int .i64 q.next):=D.out.box.cellAt 0 (by decide);have f0:x2.frozen? ⟨b,0,none⟩=false:=D.out.box.frozenAt 0;go_wp2_with fail
   go_roundw
   case rel=>exact⟨k+1,⟨nn,q.bl,q.vs⟩,v1,v2,ys,by omega,by go_num,HNX.out.trans HQ.out,(D.out.setNext nn).1,BL.out.setCell (p:=⟨b,0,none⟩) (Nat.le_refl _) _⟩
   case measure=>simp[intOf];omega
  by_cases w2:cw 32 l=wBr
  ·have e9:wd=⟨#[98,114,97,110,99,104]⟩:=by rw[←HW.out,w2];rfl
   obtain⟨nm,HNM⟩: ∃y,Hid (bs (cw 32 (cr 32 l))=y):=⟨_,rfl⟩;obtain⟨hdq,HHD⟩: ∃y,Hid (bs (cr 32 (cr 32 l))=y):=⟨_,rfl⟩;have HHL:Hid (hdq.data.toList=cr 32 (cr 32 l)):=by rw[←HHD.out];exact(rfl:_=_)
   obtain⟨nn,HNN⟩: ∃y,Hid (nS hdq.data.toList=y):=⟨_,rfl⟩;have HQ:Hid (stG XT XG Om q l=some ⟨q.next,q.bl++ [⟨nm,nn⟩],q.vs⟩):=by show _=_;unfold stG;rw[if_neg w1,if_pos w2,←HHL.out,HNM.out,←HNN.out];rfl
   have zhd:hdq.size≤1048576:=by rw[←HHD.out,Qj];exact Nat.le_trans (Qew 32 _) (Nat.le_trans (Qew 32 l) HLZ.out)
   clear HW HWL w1 w2;subst e9;go_wp2_with fail
   refine(Qao rs _ zrs).mono ?_;rintro e x2 ⟨rfl,hb⟩;replace D:=hd (D.out.below hb);replace BL:Hid (Below b u1 x2):=bqm BL.out hb (Nat.le_of_lt hbz);replace hbz:b<x2.heap.size:=Nat.lt_of_lt_of_le hbz hb.size;clear hb;rw[HRL.out,HNM.out,HHD.out]
   go_wp2_with fail
   refine(Yg hdq _ zhd).mono ?_;rintro e x3 ⟨⟨f,rfl⟩,hx⟩;obtain rfl:=hx;rw[HNN.out];have c2:x3.cell? ⟨b,2,none⟩=some v2:=D.out.box.cellAt 2 (by decide);have HBR:Hid (x3.ownsRow b 69 2 v2 q.bl.length (Za brL q.bl)):=D.out.br;have hnb:q.bl.length≤1048576:=Nat.le_trans HLM.out.nb (by omega)
   go_wp2_with (first
    | (at_builtin;refine XR rfl _ _ rfl b v2 q.bl.length q.bl rfl (HBR.out.alloc _) ⟨nm,nn⟩ x3.heap.size rfl (by simp[go_sem, *]) (by simp[go_sem, *]) (by omega) (by simp;omega) ?_)
    | fail)
   intro A7 c7 w7 ho hg;have DA:=hd (D.out.below ((Below.refl _ _).alloc (Nat.le_refl _) (.cells #[.string nm,.int .i64 nn] 69)));have B7:Hid (Below b u1 w7):=(BL.out.alloc (Nat.le_of_lt hbz) _).grown hg (by simp;omega) (fun j hj=>(HBR.out.lt j hj).1);have hbx:=DA.out.boxBr hg;have g2:w7.cell? ⟨b,2,none⟩=some v2:=hbx.cellAt 2 (by decide);have f2:w7.frozen? ⟨b,2,none⟩=false:=hbx.frozenAt 2;have D7:Hid (DqP (w7.setCell ⟨b,2,none⟩ (.slice A7 (q.bl.length+1) c7)) b b ⟨q.next,q.bl++ [⟨nm,nn⟩],q.vs⟩ v1 (.slice A7 (q.bl.length+1) c7) ys):=DA.out.setBr hg ho
   clear c2 hbx ho hg DA;go_wp2_with fail
   go_roundw
   case rel=>exact⟨k+1,⟨q.next,q.bl++ [⟨nm,nn⟩],q.vs⟩,v1,_,ys,by omega,by go_num,HNX.out.trans HQ.out,D7.out,B7.out.setCell (p:=⟨b,2,none⟩) (Nat.le_refl _) _⟩
   case measure=>simp[intOf];omega
  by_cases w3:cw 32 l=wVr
  ·have e9:wd=⟨#[118,101,114,115,105,111,110]⟩:=by rw[←HW.out,w3];rfl
   obtain⟨di,HDI⟩: ∃y,Hid (bs (cw 32 (cr 32 l))=y):=⟨_,rfl⟩;obtain⟨up,HUP⟩: ∃y,Hid (bs (cr 32 (cr 32 l))=y):=⟨_,rfl⟩;have HDL:Hid (di.data.toList=cw 32 (cr 32 l)):=by rw[←HDI.out];exact(rfl:_=_)
   have HUL:Hid (up.data.toList=cr 32 (cr 32 l)):=by rw[←HUP.out];exact(rfl:_=_)
   obtain⟨nn,HNN⟩: ∃y,Hid (nS di.data.toList=y):=⟨_,rfl⟩;obtain⟨tot,HTO⟩: ∃y,Hid (JD nS up.size up.data.toList=y):=⟨_,rfl⟩
   have HQ:Hid (stG XT XG Om q l=some ⟨q.next,q.bl,q.vs++ [⟨nn,tot,[]⟩]⟩):=by
    show _=_;unfold stG;rw[if_neg w1,if_neg w2,if_pos w3];unfold XG Qpw;rw[Gv nS (cr 32 l).length up.size (cr 32 (cr 32 l)) (Qew 32 _) (by rw[←HUL.out];simp),←HUL.out,HTO.out,←HDL.out,HNN.out];rfl
   have HTZ:Hid (tot.length≤1048576):=by rw[←HTO.out];exact Nat.le_trans (Np _ _ _) (by rw[←HUP.out,Qj];exact Nat.le_trans (Qew 32 _) (Nat.le_trans (Qew 32 l) HLZ.out))
   have zdi:di.size≤1048576:=by rw[←HDI.out,Qj];exact Nat.le_trans (Qm5 32 _) (Nat.le_trans (Qew 32 l) HLZ.out)
   have zup:up.size≤1048576:=by rw[←HUP.out,Qj];exact Nat.le_trans (Qew 32 _) (Nat.le_trans (Qew 32 l) HLZ.out)
   clear HW HWL w1 w2 w3;subst e9;go_wp2_with fail
   obtain⟨Y,HY⟩: ∃Y,Hid (x1.alloc (.cells #[.int .i64 0,.slice none 0 0,.slice none 0 0] 72)=Y):=⟨_,rfl⟩;rw[HY.out];have e0:Y.cell? ⟨x1.heap.size,0,none⟩=some (.int .i64 0):=by rw[←HY.out];go_simp
   have e1:Y.cell? ⟨x1.heap.size,1,none⟩=some (.slice none 0 0):=by rw[←HY.out];go_simp
   have e2:Y.cell? ⟨x1.heap.size,2,none⟩=some (.slice none 0 0):=by rw[←HY.out];go_simp
   have ef: ∀o,Y.frozen? ⟨x1.heap.size,o,none⟩=false:=fun o=>by rw[←HY.out];go_simp
   have zY:x1.heap.size<Y.heap.size:=by rw[←HY.out];simp
   have BY:Hid (Below x1.heap.size x1 Y):=by rw[←HY.out];show Below _ _ _;exact(Below.refl _ _).alloc (Nat.le_refl _) _
   clear HY;refine(Qao rs _ zrs).mono ?_;rintro e y1 ⟨rfl,hb⟩;replace e0:=cy hb e0;replace e1:=cy hb e1;replace e2:=cy hb e2;replace ef: ∀o,y1.frozen? ⟨x1.heap.size,o,none⟩=false:=fun o=>(hb.frozen (p:=⟨x1.heap.size,o,none⟩) zY).trans (ef o)
   replace zY:x1.heap.size<y1.heap.size:=Nat.lt_of_lt_of_le zY hb.size;replace BY:=hd (Qc BY.out hb);clear hb;rw[HRL.out,HDI.out,HUP.out];go_wp2_with fail
   refine(Yg di _ zdi).mono ?_;rintro e y2 ⟨⟨f,rfl⟩,hx⟩;obtain rfl:=hx;rw[HNN.out];go_wp2_with fail
   obtain⟨Y3,HY3⟩: ∃Y,Hid (y2.setCell ⟨x1.heap.size,0,none⟩ (.int .i64 nn)=Y):=⟨_,rfl⟩;rw[HY3.out];replace e0:Y3.cell? ⟨x1.heap.size,0,none⟩=some (.int .i64 nn):=by rw[←HY3.out];exact World.cell?_setCell_same _ _ _ e0
   replace e1:Y3.cell? ⟨x1.heap.size,1,none⟩=some (.slice none 0 0):=by rw[←HY3.out];go_simp
   replace e2:Y3.cell? ⟨x1.heap.size,2,none⟩=some (.slice none 0 0):=by rw[←HY3.out];go_simp
   replace ef: ∀o,Y3.frozen? ⟨x1.heap.size,o,none⟩=false:=fun o=>by rw[←HY3.out];go_simp
   replace zY:x1.heap.size<Y3.heap.size:=by rw[←HY3.out];simpa using zY
   replace BY:Hid (Below x1.heap.size x1 Y3):=by rw[←HY3.out];exact BY.out.setCell (p:=⟨x1.heap.size,0,none⟩) (Nat.le_refl _) _
   clear HY3;go_loopw [16] (fun v wv=> ∃(done:List Int) (sv:ByteArray) (u:Value),v= .string sv∧sv.size≤1048576∧done++JD nS sv.size sv.data.toList=tot∧Below x1.heap.size x1 wv∧x1.heap.size<wv.heap.size∧wv.cell? ⟨x1.heap.size,0,none⟩=some (.int .i64 nn)∧wv.cell? ⟨x1.heap.size,1,none⟩=some u∧wv.cell? ⟨x1.heap.size,2,none⟩=some (.slice none 0 0)∧(∀o,wv.frozen? ⟨x1.heap.size,o,none⟩=false)∧wv.ownsRow (x1.heap.size+1) 2 1 u done.length (done.map (Value.int .i64))) (fun v _=>Qun v)
   case atStart=>exact⟨[],up,.slice none 0 0,rfl,zup,HTO.out,BY.out,zY,e0,e1,e2,ef,World.ownsRow_nil _ _ _ _⟩
   case round=>
    obtain⟨done,sv,u,rfl,zsv,hto,hby,hzy,g0,g1,g2,gf,hou⟩:=hrel;clear e0 e1 e2 ef zY BY zup zdi
    have HBY:Hid (Below x1.heap.size x1 wr):=hby
    have HOU:Hid (wr.ownsRow (x1.heap.size+1) 2 1 u done.length (done.map (Value.int .i64))):=hou;have HTT:Hid (done++JD nS sv.size sv.data.toList=tot):=hto;obtain⟨UA,uc,rfl,hnd,_⟩:=Qo hou
    have HDL9:Hid (done.length≤1099511627776):=by
     have h9:=congrArg List.length hto;rw[List.length_append]at h9;have:=HTZ.out;show _≤_;omega
    clear hby hou hto;cases hse:sv.toList.isEmpty
    ·obtain⟨one,HON⟩: ∃y,Hid (bs (cw 32 sv.data.toList)=y):=⟨_,rfl⟩;obtain⟨mo,HMO⟩: ∃y,Hid (bs (cr 32 sv.data.toList)=y):=⟨_,rfl⟩;have HOL:Hid (one.data.toList=cw 32 sv.data.toList):=by rw[←HON.out];exact(rfl:_=_)
     have HML:Hid (mo.data.toList=cr 32 sv.data.toList):=by rw[←HMO.out];exact(rfl:_=_)
     have hsl:sv.data.toList.length=sv.size:=by simp
     have zon:one.size≤1048576:=by rw[←HON.out,Qj];exact Nat.le_trans (Qm5 32 _) (by omega)
     have zmo:mo.size<sv.size:=by rw[←HMO.out,Qj,←hsl];exact Qlw (BN hse)
     obtain⟨nu,HNU⟩: ∃y,Hid (nS one.data.toList=y):=⟨_,rfl⟩
     have HT2:Hid ((done++ [nu])++JD nS mo.size mo.data.toList=tot):=by
      show _=_;have h9:=Qg3 nS sv.data.toList (BN hse);rw[hsl]at h9;rw[←HTT.out,h9,←HOL.out,HNU.out,←HML.out,List.append_assoc];have h8:mo.data.toList.length=mo.size:=by simp
      rw[h8];rfl
     clear hsl HTT;go_wp2_with fail
     refine(Qao sv _ zsv).mono ?_;rintro e z1 ⟨rfl,hb⟩;replace g0:=cy hb g0;replace g1:=cy hb g1;replace g2:=cy hb g2;replace gf: ∀o,z1.frozen? ⟨x1.heap.size,o,none⟩=false:=fun o=>(hb.frozen (p:=⟨x1.heap.size,o,none⟩) hzy).trans (gf o);replace hzy:x1.heap.size<z1.heap.size:=Nat.lt_of_lt_of_le hzy hb.size
     replace HBY:=hd (Qc HBY.out hb);replace HOU:=hd (Qf HOU.out hb);clear hb;rw[HON.out,HMO.out];go_wp2_with fail
     refine(Yg one _ zon).mono ?_;rintro e z2 ⟨⟨f,rfl⟩,hx⟩;obtain rfl:=hx;rw[HNU.out];have hdl:done.length≤1099511627776:=HDL9.out
     go_wp2_with (first
      | (at_builtin;refine YK rfl _ _ rfl (x1.heap.size+1) (.slice UA done.length uc) done.length done rfl (HOU.out.alloc _) nu z2.heap.size rfl (by simp[go_sem, *]) (by omega) (by simp;omega) ?_)
      | fail)
     intro g7 c7 w7 ho hg;have hne:some x1.heap.size≠(Value.slice UA done.length uc).ownBlock:=fun e=>by have:=(HOU.out.lt _ e.symm).1;omega
     have hba:Below z2.heap.size z2 (z2.alloc (.cells #[.int .i64 nu] 2)):=(Below.refl _ _).alloc (Nat.le_refl _) _;replace g0:w7.cell? ⟨x1.heap.size,0,none⟩=some (.int .i64 nn):=hg.cell (cy hba g0) hne;replace g1:w7.cell? ⟨x1.heap.size,1,none⟩=some (.slice UA done.length uc):=hg.cell (cy hba g1) hne;replace g2:w7.cell? ⟨x1.heap.size,2,none⟩=some (.slice none 0 0):=hg.cell (cy hba g2) hne;have gf7: ∀o,w7.frozen? ⟨x1.heap.size,o,none⟩=false:=fun o=>(hg.frozen_far ⟨x1.heap.size,o,none⟩ (by simp;omega) hne).trans ((hba.frozen (p:=⟨x1.heap.size,o,none⟩) hzy).trans (gf o));have hz7:x1.heap.size<w7.heap.size:=Nat.lt_of_lt_of_le hzy (Nat.le_trans hba.size hg.size);have B7:Hid (Below x1.heap.size x1 w7):=(HBY.out.alloc (Nat.le_of_lt hzy) _).grown hg (by simp;omega) (fun j hj=>by have:=(HOU.out.lt j hj).1;omega)
     have O7:Hid (w7.ownsRow (x1.heap.size+1) 2 1 (.slice (some ⟨g7,0,none⟩) (done.length+1) c7) (done.length+1) ((done++ [nu]).map (Value.int .i64))):=by show World.ownsRow _ _ _ _ _ _ _;rw[List.map_append];exact ho
     clear ho hg hba gf hne HBY HOU;go_wp2_with fail
     go_roundw
     case rel=>exact⟨done++ [nu],mo,_,rfl,by omega,HT2.out,B7.out.setCell (p:=⟨x1.heap.size,1,none⟩) (Nat.le_refl _) _,by simpa using hz7,by go_simp,World.cell?_setCell_same _ _ _ g1,by go_simp,fun o=>by go_simp,by rw[List.length_append,List.length_singleton];exact Qi8 O7.out (Nat.lt_succ_self _)⟩
     case measure=>simp[Qun];omega
    ·obtain rfl:=Qjo hse;have HDN:Hid (done=tot):=by rw[←HTT.out];show _=done++ [];simp
     have DV:=hd (D.out.below HBY.out);have BV:Hid (Below b u1 wr):=bqm BL.out HBY.out (Nat.le_of_lt hbz);have hbv:b<wr.heap.size:=Nat.lt_of_lt_of_le hbz HBY.out.size;have c1:wr.cell? ⟨b,1,none⟩=some v1:=DV.out.box.cellAt 1 (by decide);have HVR:Hid (wr.ownsRow b 72 3 v1 q.vs.length ys):=DV.out.vr;have hnv:q.vs.length≤1048576:=Nat.le_trans HLM.out.nv (by omega);clear hse HTT
     go_wp2_with (first
      | (at_builtin;refine UK rfl _ _ rfl b v1 q.vs.length ys rfl (HVR.out.alloc _) nn (.slice UA done.length uc) (.slice none 0 0) rfl rfl wr.heap.size rfl (by simp[go_sem, *]) (by simp[go_sem, *]) (by simp[go_sem, *]) (by omega) (by simp;omega) ?_)
      | fail)
     intro A7 c7 w7 ho hg;have DA:=hd (DV.out.below ((Below.refl _ _).alloc (Nat.le_refl _) (.cells #[.int .i64 nn,.slice UA done.length uc,.slice none 0 0] 72)));have B7:Hid (Below b u1 w7):=(BV.out.alloc (Nat.le_of_lt hbv) _).grown hg (by simp;omega) (fun j hj=>(HVR.out.lt j hj).1);have hbx:=DA.out.boxVr hg;have k1:w7.cell? ⟨b,1,none⟩=some v1:=hbx.cellAt 1 (by decide);have f1:w7.frozen? ⟨b,1,none⟩=false:=hbx.frozenAt 1
     have hup:UpO (wr.alloc (.cells #[.int .i64 nn,.slice UA done.length uc,.slice none 0 0] 72)) b (.slice UA done.length uc) tot:=by
      rw[←HDN.out];exact((UpO.of_own HOU.out).below ((Below.refl _ _).alloc (Nat.le_refl _) _)).mono (by omega)
     have D7:Hid (DqP (w7.setCell ⟨b,1,none⟩ (.slice A7 (q.vs.length+1) c7)) b b ⟨q.next,q.bl,q.vs++ [⟨nn,tot,[]⟩]⟩ (.slice A7 (q.vs.length+1) c7) v2 (ys++ [.int .i64 nn,.slice UA done.length uc,.slice none 0 0])):=
      DA.out.setVr hg ho hup (D.out.fresh (Nat.le_succ _) (fun j hj=>(HOU.out.lt j hj).1))
     clear c1 hbx ho hg DA hup g0 g1 g2 gf;go_wp2_with fail
     go_roundw
     case rel=>exact⟨k+1,_,_,v2,_,by omega,by go_num,HNX.out.trans HQ.out,D7.out,B7.out.setCell (p:=⟨b,1,none⟩) (Nat.le_refl _) _⟩
     case measure=>simp[intOf];omega
  have hq1:(wd.toList==(⟨#[100,97,103]⟩:ByteArray).toList)=false:=Vo (l:=UF) rfl (by rw[HWL.out];exact w1);have hq2:(wd.toList==(⟨#[98,114,97,110,99,104]⟩:ByteArray).toList)=false:=Vo (l:=wBr) rfl (by rw[HWL.out];exact w2);have hq3:(wd.toList==(⟨#[118,101,114,115,105,111,110]⟩:ByteArray).toList)=false:=Vo (l:=wVr) rfl (by rw[HWL.out];exact w3);have hx1:(wd.toList== [100,97,103])=false:=by rw[ByteArray.toList_eq,HWL.out];simpa[UF]using w1
  have hx2:(wd.toList== [98,114,97,110,99,104])=false:=by rw[ByteArray.toList_eq,HWL.out];simpa[wBr]using w2
  have hx3:(wd.toList== [118,101,114,115,105,111,110])=false:=by rw[ByteArray.toList_eq,HWL.out];simpa[wVr]using w3
  obtain⟨VA,vc,eV,_,hcV⟩:=Qo D.out.vr;have HCV:Hid (∀j,j<q.vs.length*3→ ∃g,VA=some ⟨g,0,none⟩∧b≤g∧g<x1.heap.size):=fun j hj=>by obtain⟨g,e1,e2,e3,_⟩:=hcV j hj;exact⟨g,e1,e2,e3⟩
  subst eV;clear hcV;go_wp2_with fail
  refine(Uh wd _ zwd).mono ?_;rintro e x2 ⟨a,c,bx,bY,f,hp,rfl,hb⟩;have HZ12:Hid (x1.heap.size≤x2.heap.size):=hb.size;replace D:=hd (D.out.below hb);replace BL:Hid (Below b u1 x2):=bqm BL.out hb (Nat.le_of_lt hbz);replace hbz:b<x2.heap.size:=Nat.lt_of_lt_of_le hbz hb.size;clear hb
  have HP:Hid (Om (cw 32 l)=some (a,c)):=by rw[←HWL.out];exact hp
  obtain⟨nv,HNV⟩: ∃m,Hid (q.vs.length=m):=⟨_,rfl⟩;have hnv:nv≤1048576:=by rw[←HNV.out];exact Nat.le_trans HLM.out.nv (by omega)
  clear hp hq1 hq2 hq3 hx1 hx2 hx3
  have HSB:Hid (∀k,(match ys[(q.vs.length-1)*3+2]? with | some v=>v.ownBlock | none=>none)=some k→k<x2.heap.size):=fun k hk=>by
   rcases List.eq_nil_or_concat q.vs with e9 | ⟨v0,xx,e9⟩
   ·have h8:=D.out.vr.1;rw[e9]at h8 hk;have:ys= []:=List.length_eq_zero_iff.1 (by simpa using h8);rw[this]at hk;cases hk
   ·rw[List.concat_eq_append]at e9;obtain⟨SA,sc,hsv⟩:=D.out.lastAt e9;have e8:q.vs.length-1=v0.length:=by rw[e9];simp
    rw[e8,hsv]at hk;exact((D.out.lastRow e9 hsv).lt k hk).2
  go_upto_region 11 with fail
  obtain⟨Y,HY⟩: ∃Y,Hid (x2.alloc (.cells #[.int .i64 a,.int .i64 c,.bool bx,.bool bY] 74)=Y):=⟨_,rfl⟩;rw[HY.out];have pb0:Y.cell? ⟨x2.heap.size,0,none⟩=some (.int .i64 a):=by rw[←HY.out];go_simp
  have pb1:Y.cell? ⟨x2.heap.size,1,none⟩=some (.int .i64 c):=by rw[←HY.out];go_simp
  have zY:x2.heap.size<Y.heap.size:=by rw[←HY.out];simp
  have hb:Below x2.heap.size x2 Y:=by rw[←HY.out];exact(Below.refl _ _).alloc (Nat.le_refl _) _
  clear HY;replace D:=hd (D.out.below hb);replace BL:Hid (Below b u1 Y):=bqm BL.out hb (Nat.le_of_lt hbz);replace hbz:b<Y.heap.size:=Nat.lt_of_lt_of_le hbz hb.size;clear hb;have c1:Y.cell? ⟨b,1,none⟩=some (.slice VA nv vc):=by rw[←HNV.out];exact D.out.box.cellAt 1 (by decide)
  by_cases hv:nv=0
  ·have HF:Hid (UI s=none):=HAS.out.trans (Qdf (Qis (k:=k+1) (HNX.out.trans (by
    have e9:q.vs= []:=List.length_eq_zero_iff.1 (HNV.out.trans hv);unfold stG;rw[if_neg w1,if_neg w2,if_neg w3,HP.out,Option.bind_some,e9]
    rfl))))
   have q1:IntKind.i64.wrap ((nv:Int)-1)=(nv:Int)-1:=by rw[IntKind.wrap_i64];omega
   have q2:(nv:Int)-1<0:=by omega
   have P0:Y.cell? ⟨w.heap.size,0,none⟩=some (.int .i64 0):=(BL.out.cell (p:=⟨w.heap.size,0,none⟩) zb).trans p0;have P1:Y.cell? ⟨w.heap.size,1,none⟩=some (.slice none 0 0):=(BL.out.cell (p:=⟨w.heap.size,1,none⟩) zb).trans p1;have P2:Y.cell? ⟨w.heap.size,2,none⟩=some (.slice none 0 0):=(BL.out.cell (p:=⟨w.heap.size,2,none⟩) zb).trans p2;have PF: ∀o,Y.frozen? ⟨w.heap.size,o,none⟩=false:=fun o=>(BL.out.frozen (p:=⟨w.heap.size,o,none⟩) zb).trans (pf o);have KW:Hid (Below w.heap.size w Y):=KX.out.trans (BL.out.mono (Nat.le_of_lt zb));clear p0 p1 p2 pf;clear hv
   go_wp2_with fail
   refine bodyPost_ret (v:= .tuple #[.agg #[.int .i64 0,.slice none 0 0,.slice none 0 0],.bool false]) ?_ rfl ⟨RgPost.no HF.out rfl,((KW.out.setCell (Nat.le_refl _) _).setCell (Nat.le_refl _) _).setCell (Nat.le_refl _) _⟩;simp (maxDischargeDepth:=9) [results,Tryz.results13,go_sem, *]
  rcases List.eq_nil_or_concat q.vs with e9 | ⟨v0,xx,e9⟩
  ·exact absurd (by rw[←HNV.out,e9];rfl) hv
  rw[List.concat_eq_append]at e9;have HV:Hid (q.vs=v0++ [xx]):=e9;obtain⟨m,HM⟩: ∃m,Hid (v0.length=m):=⟨_,rfl⟩;have hnm:nv=m+1:=by rw[←HNV.out,e9,←HM.out];simp
  have HQ:Hid (stG XT XG Om q l=some ⟨q.next,q.bl,v0++ [⟨xx.id,xx.ups,xx.cs++ [⟨a,c,rs⟩]⟩]⟩):=by
   show _=_;unfold stG;rw[if_neg w1,if_neg w2,if_neg w3,HP.out,Option.bind_some,e9,Jx,←HRS.out];rfl
  obtain⟨gv,eVA,hgb,hgz⟩:=HCV.out 0 (by rw[HNV.out];omega);subst eVA;obtain⟨nc,HNC⟩: ∃y,Hid (xx.cs.length=y):=⟨_,rfl⟩;obtain⟨SA,sc,hsv⟩:=D.out.lastAt e9;rw[HNC.out,HM.out]at hsv;have HSV:Hid (ys[m*3+2]? =some (.slice SA nc sc)):=hsv;have HLX:Hid (nc≤1048576):=by rw[←HNC.out];exact Nat.le_trans (HLM.out.vs xx (by rw[e9];simp)).2.2.2.1 (by omega)
  have HLM9:Hid (m<q.vs.length):=by rw[HNV.out];show m<nv;omega
  have HGB:Hid (b≤gv):=hgb;have hgy:gv<Y.heap.size:=Nat.lt_of_lt_of_le hgz (Nat.le_trans HZ12.out (Nat.le_of_lt zY));have hls:=D.out.lastRow e9 (by rw[HM.out];exact hsv);have NE1:Hid (some b≠(Value.slice SA nc sc).ownBlock):=Qez D.out.box hls (by decide);have NE2:Hid (some x2.heap.size≠(Value.slice SA nc sc).ownBlock):=fun e=>by have:=HSB.out x2.heap.size (by rw[show q.vs.length-1=m by rw[HNV.out];omega,hsv];exact e.symm);omega
  have NE3:Hid (b≠gv):=fun e=>by have h9:=Qez D.out.box D.out.vr (by decide);rw[e]at h9;exact h9 rfl
  have NE4:Hid (x2.heap.size≠gv):=fun e=>by have:=HZ12.out;omega
  have q1:IntKind.i64.wrap ((nv:Int)-1)=(m:Int):=by rw[IntKind.wrap_i64];omega
  have q2: ¬(m:Int)<0:=by omega
  have q3:(0:Int)≤(m:Int):=by omega
  have q4:(m:Int)<(nv:Int):=by omega
  clear hv hsv hls hgz hgb e9 hnm;go_upto_region 14 with fail
  obtain⟨r1,HR1⟩: ∃r,Hid (Y.drew=r):=⟨_,rfl⟩;have hb:Below Y.heap.size Y r1:=by rw[←HR1.out];exact(Below.refl _ _).drew
  have DR1:=hd (D.out.below hb);have BR1:Hid (Below b u1 r1):=bqm BL.out hb (Nat.le_of_lt hbz);have S1V:Hid (r1.cell? ⟨b,1,none⟩=some (.slice (some ⟨gv,0,none⟩) nv vc)∧r1.cell? ⟨x2.heap.size,0,none⟩=some (.int .i64 a)∧r1.cell? ⟨x2.heap.size,1,none⟩=some (.int .i64 c)∧b<r1.heap.size∧x2.heap.size<r1.heap.size∧gv<r1.heap.size):=⟨cy hb c1,cy hb pb0,cy hb pb1,Nat.lt_of_lt_of_le hbz hb.size,Nat.lt_of_lt_of_le zY hb.size,Nat.lt_of_lt_of_le hgy hb.size⟩;have D1:Hid (r1.cell? ⟨gv,m*3+2,none⟩=some (.slice SA nc sc)):=(DR1.out.vr.cellAt (m*3+2) (by have:=HLM9.out;omega)).trans HSV.out;clear hb D BL c1 pb0 pb1 hbz zY hgy;refine wp_region_held_drew (S:=(fun w'=>w'.cell? ⟨b,1,none⟩=some (.slice (some ⟨gv,0,none⟩) nv vc)∧w'.cell? ⟨x2.heap.size,0,none⟩=some (.int .i64 a)∧w'.cell? ⟨x2.heap.size,1,none⟩=some (.int .i64 c)∧b<w'.heap.size∧x2.heap.size<w'.heap.size∧gv<w'.heap.size)) (by kernel_rfl) (by rw[HR1.out];exact S1V.out) (fun hHeld=> ?_);rw[HR1.out]at hHeld ⊢
  clear HR1;refine tkA 0 ?_;refine tkB 1 ?_;refine tkA 2 ?_;refine tkB 3 ?_;refine tkA 4 ?_;refine tkB 5 ?_
  refine tkA 6 ?_;refine tkB 7 ?_;refine tkA 9 ?_;refine tkB 10 ?_;refine tkA 11 ?_;refine tkB 12 ?_;refine rqB 8 13 (fun Kq hKq=> ?_) (fun Kq hKq=> ?_)
  ·have d9:=D1.out;go_simp;clear d9;refine hkB hKq (S1V.out) fun hHeld=> ?_;clear hKq Kq;refine rqA 13 (fun Kq hKq=> ?_);go_simp
   obtain⟨r2,HR2⟩: ∃r,Hid (r1.alloc (.cells #[.int .i64 a,.int .i64 c,.string rs] 37)=r):=⟨_,rfl⟩;rw[HR2.out];have hb:Below r1.heap.size r1 r2:=by rw[←HR2.out];exact(Below.refl _ _).alloc (Nat.le_refl _) _
   have S2V:Hid (r2.cell? ⟨b,1,none⟩=some (.slice (some ⟨gv,0,none⟩) nv vc)∧r2.cell? ⟨x2.heap.size,0,none⟩=some (.int .i64 a)∧r2.cell? ⟨x2.heap.size,1,none⟩=some (.int .i64 c)∧b<r2.heap.size∧x2.heap.size<r2.heap.size∧gv<r2.heap.size):=⟨cy hb S1V.out.1,cy hb S1V.out.2.1,cy hb S1V.out.2.2.1,Nat.lt_of_lt_of_le S1V.out.2.2.2.1 hb.size,Nat.lt_of_lt_of_le S1V.out.2.2.2.2.1 hb.size,Nat.lt_of_lt_of_le S1V.out.2.2.2.2.2 hb.size⟩;have D2:Hid (r2.cell? ⟨gv,m*3+2,none⟩=some (.slice SA nc sc)):=cy hb D1.out;have N0:Hid (r2.cell? ⟨r1.heap.size,0,none⟩=some (.int .i64 a)∧r2.cell? ⟨r1.heap.size,1,none⟩=some (.int .i64 c)∧r2.cell? ⟨r1.heap.size,2,none⟩=some (.string rs)):=by rw[←HR2.out];refine⟨?_,?_,?_⟩<;>go_simp
   have DR2:=hd (DR1.out.below hb);have BR2:Hid (Below b u1 r2):=bqm BR1.out hb (Nat.le_of_lt DR1.out.le.2);clear hb HR2;refine hkB hKq (S2V.out) fun hHeld=> ?_;clear hKq Kq;refine rqA 14 (fun Kq hKq=> ?_);have OS2:Hid (r2.ownsRow b 37 3 (.slice SA nc sc) nc (Za cqL xx.cs)):=by have h9:=DR2.out.lastRow HV.out (by rw[HM.out];exact HSV.out);rw[HNC.out]at h9;exact h9
   refine ZD (by rfl) _ _ (by rfl) b (.slice SA nc sc) nc xx.cs (by rfl) OS2.out ⟨a,c,rs⟩ r1.heap.size (by rfl) N0.out.1 N0.out.2.1 N0.out.2.2 (by have:=HLX.out;omega) (Nat.le_of_lt DR2.out.le.2) ?_;intro A7 c7 r3 ho hg hl7;have S3V:Hid (r3.cell? ⟨b,1,none⟩=some (.slice (some ⟨gv,0,none⟩) nv vc)∧r3.cell? ⟨x2.heap.size,0,none⟩=some (.int .i64 a)∧r3.cell? ⟨x2.heap.size,1,none⟩=some (.int .i64 c)∧b<r3.heap.size∧x2.heap.size<r3.heap.size∧gv<r3.heap.size):=⟨hg.cell S2V.out.1 NE1.out,hg.cell S2V.out.2.1 NE2.out,hg.cell S2V.out.2.2.1 NE2.out,Nat.lt_of_lt_of_le S2V.out.2.2.2.1 hg.size,Nat.lt_of_lt_of_le S2V.out.2.2.2.2.1 hg.size,Nat.lt_of_lt_of_le S2V.out.2.2.2.2.2 hg.size⟩;have V3:Hid (r3.ownsRow b 72 3 (.slice (some ⟨gv,0,none⟩) q.vs.length vc) q.vs.length ys):=DR2.out.vr.kept hg (Qht DR2.out.vr OS2.out (by decide))
   have D4:Hid (DqP (r3.setCell ⟨gv,m*3+2,none⟩ (.slice A7 (nc+1) c7)) b b ⟨q.next,q.bl,v0++ [⟨xx.id,xx.ups,xx.cs++ [⟨a,c,rs⟩]⟩]⟩ (.slice (some ⟨gv,0,none⟩) q.vs.length vc) v2 (ys.set (m*3+2) (.slice A7 (nc+1) c7))):=by
    have h9:=DR2.out.setCl (s':= .slice A7 (nc+1) c7) (c:=⟨a,c,rs⟩) HV.out (by rw[HM.out];exact HSV.out) hg (by rw[HNC.out];exact ho) hl7;rw[HM.out]at h9;exact h9
   have B4:Hid (Below b u1 (r3.setCell ⟨gv,m*3+2,none⟩ (.slice A7 (nc+1) c7))):=(BR2.out.grown hg (Nat.le_of_lt DR2.out.le.2) (fun j hj=>(OS2.out.lt j hj).1)).setCell (p:=⟨gv,m*3+2,none⟩) HGB.out _;clear ho hg hl7 OS2 DR2 BR2 N0;refine hkB hKq (S3V.out) fun hHeld=> ?_;clear hKq Kq;refine tkA 15 ?_;refine tkB 16 ?_;refine rqA 17 (fun Kq hKq=> ?_)
   have d9:r3.cell? ⟨gv,m*3+2,none⟩=some (.slice SA nc sc):=(V3.out.cellAt (m*3+2) (by have:=HLM9.out;omega)).trans HSV.out;have f9:r3.frozen? ⟨gv,m*3+2,none⟩=false:=V3.out.frozenAt _;go_simp;clear d9 f9;have S4V:Hid ((r3.setCell ⟨gv,m*3+2,none⟩ (.slice A7 (nc+1) c7)).cell? ⟨b,1,none⟩=some (.slice (some ⟨gv,0,none⟩) nv vc)∧(r3.setCell ⟨gv,m*3+2,none⟩ (.slice A7 (nc+1) c7)).cell? ⟨x2.heap.size,0,none⟩=some (.int .i64 a)∧(r3.setCell ⟨gv,m*3+2,none⟩ (.slice A7 (nc+1) c7)).cell? ⟨x2.heap.size,1,none⟩=some (.int .i64 c)∧b<(r3.setCell ⟨gv,m*3+2,none⟩ (.slice A7 (nc+1) c7)).heap.size∧x2.heap.size<(r3.setCell ⟨gv,m*3+2,none⟩ (.slice A7 (nc+1) c7)).heap.size∧gv<(r3.setCell ⟨gv,m*3+2,none⟩ (.slice A7 (nc+1) c7)).heap.size):=⟨(World.cell?_of_block (Below.heap_setCell _ _ _ _ NE3.out)).trans S3V.out.1,(World.cell?_of_block (Below.heap_setCell _ _ _ _ NE4.out)).trans S3V.out.2.1,(World.cell?_of_block (Below.heap_setCell _ _ _ _ NE4.out)).trans S3V.out.2.2.1,by simpa using S3V.out.2.2.2.1,by simpa using S3V.out.2.2.2.2.1,by simpa using S3V.out.2.2.2.2.2⟩;refine hkB hKq (S4V.out) fun hHeld=> ?_;clear hKq Kq
   refine wpAnyH_done (by kernel_rfl) ?_ _;clear hHeld;go_wp2_with fail
   go_roundw
   case rel=>exact⟨k+1,_,_,v2,_,by omega,by go_num,HNX.out.trans HQ.out,D4.out,B4.out⟩
   case measure=>simp[intOf];omega
  ·go_simp;obtain⟨r2,HR2⟩: ∃r,Hid (r1.alloc (.cells #[.int .i64 a,.int .i64 c,.string rs] 37)=r):=⟨_,rfl⟩;rw[HR2.out];have hb:Below r1.heap.size r1 r2:=by rw[←HR2.out];exact(Below.refl _ _).alloc (Nat.le_refl _) _
   have S2V:Hid (r2.cell? ⟨b,1,none⟩=some (.slice (some ⟨gv,0,none⟩) nv vc)∧r2.cell? ⟨x2.heap.size,0,none⟩=some (.int .i64 a)∧r2.cell? ⟨x2.heap.size,1,none⟩=some (.int .i64 c)∧b<r2.heap.size∧x2.heap.size<r2.heap.size∧gv<r2.heap.size):=⟨cy hb S1V.out.1,cy hb S1V.out.2.1,cy hb S1V.out.2.2.1,Nat.lt_of_lt_of_le S1V.out.2.2.2.1 hb.size,Nat.lt_of_lt_of_le S1V.out.2.2.2.2.1 hb.size,Nat.lt_of_lt_of_le S1V.out.2.2.2.2.2 hb.size⟩;have D2:Hid (r2.cell? ⟨gv,m*3+2,none⟩=some (.slice SA nc sc)):=cy hb D1.out;have N0:Hid (r2.cell? ⟨r1.heap.size,0,none⟩=some (.int .i64 a)∧r2.cell? ⟨r1.heap.size,1,none⟩=some (.int .i64 c)∧r2.cell? ⟨r1.heap.size,2,none⟩=some (.string rs)):=by rw[←HR2.out];refine⟨?_,?_,?_⟩<;>go_simp
   have DR2:=hd (DR1.out.below hb);have BR2:Hid (Below b u1 r2):=bqm BR1.out hb (Nat.le_of_lt DR1.out.le.2);clear hb HR2;refine hkB hKq (S2V.out) fun hHeld=> ?_;clear hKq Kq;refine rqA 8 (fun Kq hKq=> ?_);have d9:=D2.out
   go_simp;clear d9;refine hkB hKq (S2V.out) fun hHeld=> ?_;clear hKq Kq;refine rqA 14 (fun Kq hKq=> ?_);have OS2:Hid (r2.ownsRow b 37 3 (.slice SA nc sc) nc (Za cqL xx.cs)):=by have h9:=DR2.out.lastRow HV.out (by rw[HM.out];exact HSV.out);rw[HNC.out]at h9;exact h9
   refine ZD (by rfl) _ _ (by rfl) b (.slice SA nc sc) nc xx.cs (by rfl) OS2.out ⟨a,c,rs⟩ r1.heap.size (by rfl) N0.out.1 N0.out.2.1 N0.out.2.2 (by have:=HLX.out;omega) (Nat.le_of_lt DR2.out.le.2) ?_;intro A7 c7 r3 ho hg hl7;have S3V:Hid (r3.cell? ⟨b,1,none⟩=some (.slice (some ⟨gv,0,none⟩) nv vc)∧r3.cell? ⟨x2.heap.size,0,none⟩=some (.int .i64 a)∧r3.cell? ⟨x2.heap.size,1,none⟩=some (.int .i64 c)∧b<r3.heap.size∧x2.heap.size<r3.heap.size∧gv<r3.heap.size):=⟨hg.cell S2V.out.1 NE1.out,hg.cell S2V.out.2.1 NE2.out,hg.cell S2V.out.2.2.1 NE2.out,Nat.lt_of_lt_of_le S2V.out.2.2.2.1 hg.size,Nat.lt_of_lt_of_le S2V.out.2.2.2.2.1 hg.size,Nat.lt_of_lt_of_le S2V.out.2.2.2.2.2 hg.size⟩;have V3:Hid (r3.ownsRow b 72 3 (.slice (some ⟨gv,0,none⟩) q.vs.length vc) q.vs.length ys):=DR2.out.vr.kept hg (Qht DR2.out.vr OS2.out (by decide))
   have D4:Hid (DqP (r3.setCell ⟨gv,m*3+2,none⟩ (.slice A7 (nc+1) c7)) b b ⟨q.next,q.bl,v0++ [⟨xx.id,xx.ups,xx.cs++ [⟨a,c,rs⟩]⟩]⟩ (.slice (some ⟨gv,0,none⟩) q.vs.length vc) v2 (ys.set (m*3+2) (.slice A7 (nc+1) c7))):=by
    have h9:=DR2.out.setCl (s':= .slice A7 (nc+1) c7) (c:=⟨a,c,rs⟩) HV.out (by rw[HM.out];exact HSV.out) hg (by rw[HNC.out];exact ho) hl7;rw[HM.out]at h9;exact h9
   have B4:Hid (Below b u1 (r3.setCell ⟨gv,m*3+2,none⟩ (.slice A7 (nc+1) c7))):=(BR2.out.grown hg (Nat.le_of_lt DR2.out.le.2) (fun j hj=>(OS2.out.lt j hj).1)).setCell (p:=⟨gv,m*3+2,none⟩) HGB.out _;clear ho hg hl7 OS2 DR2 BR2 N0;refine hkB hKq (S3V.out) fun hHeld=> ?_;clear hKq Kq;refine tkA 15 ?_;refine tkB 16 ?_;refine rqA 17 (fun Kq hKq=> ?_)
   have d9:r3.cell? ⟨gv,m*3+2,none⟩=some (.slice SA nc sc):=(V3.out.cellAt (m*3+2) (by have:=HLM9.out;omega)).trans HSV.out;have f9:r3.frozen? ⟨gv,m*3+2,none⟩=false:=V3.out.frozenAt _;go_simp;clear d9 f9;have S4V:Hid ((r3.setCell ⟨gv,m*3+2,none⟩ (.slice A7 (nc+1) c7)).cell? ⟨b,1,none⟩=some (.slice (some ⟨gv,0,none⟩) nv vc)∧(r3.setCell ⟨gv,m*3+2,none⟩ (.slice A7 (nc+1) c7)).cell? ⟨x2.heap.size,0,none⟩=some (.int .i64 a)∧(r3.setCell ⟨gv,m*3+2,none⟩ (.slice A7 (nc+1) c7)).cell? ⟨x2.heap.size,1,none⟩=some (.int .i64 c)∧b<(r3.setCell ⟨gv,m*3+2,none⟩ (.slice A7 (nc+1) c7)).heap.size∧x2.heap.size<(r3.setCell ⟨gv,m*3+2,none⟩ (.slice A7 (nc+1) c7)).heap.size∧gv<(r3.setCell ⟨gv,m*3+2,none⟩ (.slice A7 (nc+1) c7)).heap.size):=⟨(World.cell?_of_block (Below.heap_setCell _ _ _ _ NE3.out)).trans S3V.out.1,(World.cell?_of_block (Below.heap_setCell _ _ _ _ NE4.out)).trans S3V.out.2.1,(World.cell?_of_block (Below.heap_setCell _ _ _ _ NE4.out)).trans S3V.out.2.2.1,by simpa using S3V.out.2.2.2.1,by simpa using S3V.out.2.2.2.2.1,by simpa using S3V.out.2.2.2.2.2⟩;refine hkB hKq (S4V.out) fun hHeld=> ?_;clear hKq Kq
   refine wpAnyH_done (by kernel_rfl) ?_ _;clear hHeld;go_wp2_with fail
   go_roundw
   case rel=>exact⟨k+1,_,_,v2,_,by omega,by go_num,HNX.out.trans HQ.out,D4.out,B4.out⟩
   case measure=>simp[intOf];omega
end Go.Proofs.YtbdhinckiccniaaGreatDoor
