import Derived.Test.YtomadadmakdkgaaGreatDoorMn
import Derived.Test.YtomadadmakdkgaaGreatDoorQa
import Derived.Laws.AppendOwn
import Derived.Deep.MidRow
open Go.Proofs.Tryz
open Go.Value renaming int → f, bool → t, slice → C, string → D, tuple → K
open Go.IntKind renaming i64 → l, wrap_i64 → E
open Go renaming heap_alloc_new → B
open Or renaming inl → G, inr → H
open Go.Ending renaming returned → I
open Go.Obj renaming cells → J
set_option linter.unusedSimpArgs false
set_option linter.unusedVariables false
set_option maxHeartbeats 8000000
set_option maxRecDepth 100000
namespace Go.Proofs.YtomadadmakdkgaaGreatDoor
open Go.RowKit
variable {ops:Array Oper} {rest:List Oper} {a:Act} {Q:Exit->Act->World->Prop} {b n cap:Nat} {W W':World} {A:Option Addr} {F:Nat->FN}
theorem Zq{ops:Array Oper}{rest:List Oper}{o:Oper}{a:Act}{Q:Exit->Act->World->Prop}(w:World)(hgd:o.guard=none)(s x:Operand)
  (ho:o.op= .call {callee:= .builtin .append,args:= #[s,x],argTypes:= #[129,129]}) (v:Value) (hs:a.eval s=v) (base:Nat) (hb:base<=w.heap.size) (k:Nat) (ys:List Value) (hown:w.ownsRow base 177 14 v k ys)
  (xv:FN) (KB:Option Addr) (kb g:Nat) (cs:Array Value) (hx:a.eval x= C (some ⟨g,0,none⟩) 1 1) (hblk:w.heap[g]? =some (.cells cs 177 (0,0))) (hcs:cs.toList=Qx xv KB kb) (hk:k<=60)
  (h: ∀v' w',w'.ownsRow base 177 14 v' (k+1) (ys++Qx xv KB kb)->w.grownBy w' v.ownBlock->wpList prog ops Q rest (a.put o.dst v') w'):wpList prog ops Q (o::rest) a w:=by
 obtain⟨i0,h3,h2,h1,h0⟩:=info_parts MQ;refine wpList_append_own w hgd s x 129 ho base 177 i0 _ 14 120 underlying129 h3 h2 h1 h0 rfl (by decide) v k ys hs hown ⟨g,0,none⟩ 1 1 (Qx xv KB kb) hx rfl ?_ ?_ ?_ ?_ hb ?_
 ·rw[<-hcs];exact World.news_of_block hblk
 ·intro u hu;simp only[Qx,List.mem_cons,List.not_mem_nil,or_false]at hu;rcases hu with rfl | rfl | rfl | rfl | rfl | rfl | rfl | rfl | rfl | rfl | rfl | rfl | rfl | rfl<;>rfl
 ·unfold maxLen;omega
 ·omega
 ·intro v' w' ho' hg' _;exact h v' w' ho' hg'
inductive K9 (b:Nat) (W:World):World->Prop
 | refl:K9 b W W
 | set {W':World}:K9 b W W'-> ∀(p:Nat) (u:Value),K9 b W (W'.setCell ⟨b,p,none⟩ u)
theorem K9.own(h:K9 b W W'){e:TypeId}{m kb:Nat}{KB:Option Addr}{xs:List Value}(ho:W.ownsRow (b+1) e 1 (C KB m kb) m xs):W'.ownsRow (b+1) e 1 (C KB m kb) m xs:=by
 induction h with
 | refl=>exact ho
 | set _ p u ih=>exact ownsRow_setCell_below ih (Nat.lt_succ_self b) u
theorem Yi{w1:World}{e:TypeId}{m kb:Nat}{KB:Option Addr}{xs:List Value}(ho:Hid (W.ownsRow (b+1) e 1 (C KB m kb) m xs))(h:K9 b W W')(hb:Below W'.heap.size W' w1):Hid (w1.ownsRow (b+1) e 1 (C KB m kb) m xs):=Qd (h.own ho.out) hb
def X9(b:Nat)(W:World):Prop:= ∀j,j<14-> ∃u,W.cell? ⟨b,j,none⟩=some u/\W.frozen? ⟨b,j,none⟩=false
theorem K9.x9(h:K9 b W W')(hx:X9 b W):X9 b W':=by
 induction h with
 | refl=>exact hx
 | set _ p u ih=>
  intro j hj;obtain⟨v,h1,h2⟩:=ih j hj;obtain⟨v',h3⟩:=cell?_setCell_some (p:=⟨b,p,none⟩) (x:=u) h1;exact⟨v',h3,by simpa[go_sem]using h2⟩
theorem Kj(b:Nat): ∀(vs:List Value) (o:Nat) (w:World),Below b w (w.setCells b o vs)/\(w.setCells b o vs).heap.size=w.heap.size
 | [],_,w=>⟨Below.refl _ _,rfl⟩
 | v::r,o,w=>by
  obtain⟨h1,h2⟩:=Kj b r (o+1) (w.setCell ⟨b,o,none⟩ v);exact⟨((Below.refl b w).setCell (Nat.le_refl _) v).trans h1,h2.trans (by simp)⟩
theorem Qg1:(prog.info? 177).map (·.size)=some 14:=by kernel_rfl
theorem GS{op:Oper}{w4:World}(hX:X9 b w4)(hgd:op.guard=none)(x y:Operand)(ho:op.op= .store 177 x y)(cs:List Value)
  (hx:a.eval x= .pointer (some ⟨b,0,none⟩)) (hy:a.eval y= .agg cs.toArray) (hc:cs.length=14) (h1:cs.all (·.oneCell')=true)
  (h: ∀w5,w5.rangeAt b 0 cs->Below b w4 w5->w5.heap.size=w4.heap.size->wpList prog ops Q rest (a.put op.dst undef) w5):wpList prog ops Q (op::rest) a w4:=by
 have ht:w4.there b 0 cs.length:=fun j hj=>by
  obtain⟨u,h1,h2⟩:=hX j (by omega);rw[Nat.zero_add,h1];exact⟨rfl,h2⟩
 have hb:=Kj b cs 0 w4;refine wpList_store_mid hgd 177 x y ho b 0 cs.toArray hx hy (by simpa using ht) (by rw[Qg1];simp[hc]) (all_oneCell_toArray (List.all_eq_true.1 h1)) ?_;exact h _ (World.rangeAt_setCells_same w4 b 0 cs ht) hb.1 hb.2
theorem Bb{op:Oper}{w5:World}{cs:List Value}(hr:w5.rangeAt b 0 cs)(hc:cs.length=14)(hgd:op.guard=none)(x:Operand)(ho:op.op= .load 177 x)
  (hx:a.eval x= .pointer (some ⟨b,0,none⟩)) (h:wpList prog ops Q rest (a.put op.dst (.agg cs.toArray)) w5):wpList prog ops Q (op::rest) a w5:=
 wpList_load_mid hgd 177 x ho b 0 hx cs _ hr underlying177 rfl (by rw[Qg1,hc]) h
theorem Zz{w1:World}(hx:Hid (X9 b W))(h:K9 b W W')(hl:b<W'.heap.size)(hb:Below W'.heap.size W' w1):Hid (X9 b w1):=fun j hj=>by
 obtain⟨v,h1,h2⟩:=h.x9 hx.out j hj;exact⟨v,(hb.cell (p:=⟨b,j,none⟩) hl).trans h1,(hb.frozen (p:=⟨b,j,none⟩) hl).trans h2⟩
theorem UC(d e:Int)(w:World)(h:FnRowS w A n F)(hkn: ∀i,i<n->(F i).kids.length<=1048576)(ho:Zb F n=true)(hdq: -52<=d/\d<=52)(he: -99<=e/\e<=99):
  Calls prog 109 #[C A n cap,f l d,f l e] w fun z w'=> ∃v ys,z= I (K #[v,t true])/\w'.ownsRow w.heap.size 177 14 v n ys/\FnPart w' w.heap.size ys (fun i=>QB (Qi d e) (Qh d e) (F i)) n/\Below w.heap.size w w':=by
 have HR:Hid (FnRowS w A n F):=h;have X7:Hid (∀i,i<n->(F i).kids.length<=1048576):=hkn;have HO:Hid (Zb F n=true):=ho;have y6:Hid (∀i,i<n->Qp (F i)=true):=JN ho;have hn60:=Qw9 ho;have y2:Hid (decide (-52<=d/\d<=52)=true):=decide_eq_true hdq;have y1:Hid (decide (-99<=e/\e<=99)=true):=decide_eq_true he
 have G6: -1000<=d/\d<=1000:=by omega
 have G5: -1000<=e/\e<=1000:=by omega
 clear h hkn ho;go_enter func109,ntmps109
 go_wp2_with (first
  | (go_at_call 133;refine(YR _ HR.out.row (by omega) X7.out).mono ?_;rintro z w1 ⟨rfl,hb⟩;rw[HO.out];have X2:Hid (Below w.heap.size w w1):=hb;clear hb)
  | (go_at_call 102;refine(QG _ _ _ _).mono ?_;rintro z w3 ⟨rfl,hw⟩;subst hw;first | rw[y2.out] | rw[y1.out]))
 clear y2 y1 HO;have HV:Hid ((w3.alloc (J #[] 177)).ownsRow w.heap.size 177 14 (C (some ⟨w3.heap.size,0,none⟩) 0 0) 0 []):=Zt X2.out.size rfl;have g1:Hid (Below w.heap.size w (w3.alloc (J #[] 177))):=Qb X2.out (by go_grown);go_loopw [8,9] (fun v i wr=> ∃k:Nat,k<=n/\i= f l k/\(∃ys,wr.ownsRow w.heap.size 177 14 v k ys/\FnPart wr w.heap.size ys (fun i=>QB (Qi d e) (Qh d e) (F i)) k)/\Below w.heap.size w wr) (fun _ i _=>n-(intOf i).toNat)
 case atStart=>exact⟨0,Nat.zero_le _,rfl,⟨[],HV.out,fun i hi=>by omega⟩,g1.out⟩
 case round=>
  clear X2 HV g1;obtain⟨k,hk,rfl,⟨ys,G3,X3⟩,g2⟩:=hrel;have HW:Hid (wr.ownsRow w.heap.size 177 14 u8 k ys):=G3;have HP:Hid (FnPart wr w.heap.size ys (fun i=>QB (Qi d e) (Qh d e) (F i)) k):=X3;have HB:Hid (Below w.heap.size w wr):=g2;have g0:Hid (w.heap.size<=wr.heap.size):=g2.size;clear G3 X3
  by_cases G7:k<n
  ·obtain⟨b,o,KA,kc,rfl,hl,X4,X5,hs,X6⟩:=HR.out.2 k G7;obtain⟨c0,c1,c2,c3,c4,c5,c6,c7,c8,c9,x7,x6,x5,x4⟩:=X4.below hl (W':=wr) g2;have g9:=y6.out k G7;have G0:=X7.out k G7;have G1:=X5.below (W':=wr) g2;have hl2:b<wr.heap.size:=Nat.lt_of_lt_of_le hl g0.out;have h0:(0:Int)<=(k:Int):=by omega
   have h1:(k:Int)<(n:Int):=by omega
   obtain⟨x,HX⟩: ∃x,Hid (F k=x):=⟨_,rfl⟩;have HG:Hid ((fun i=>QB (Qi d e) (Qh d e) (F i)) k=QB (Qi d e) (Qh d e) x):=by show QB _ _ (F k)=_;rw[HX.out]
   rw[HX.out]at c0 c1 c2 c3 c4 c5 c6 c7 c8 c9 x7 x6 x5 x4 g9 G0 G1 hs;obtain⟨xk,xo,H6,H5,H4,H1,H0,h6,h5,H3,H2,h9,h7,h4⟩:=x;simp only at c0 c1 c2 c3 c4 c5 c6 c7 c8 c9 x7 x6 x5 x4 G0 G1 hs;have g4:Hid (Qp ⟨xk,xo,H6,H5,H4,H1,H0,h6,h5,H3,H2,h9,h7,h4⟩=true):=g9;have HKL:Hid (h4.length<=1048576):=G0;have X8:Hid (IntRow wr KA h4):=G1;have y0:Hid (KA=none->kc=0):=X6
   have g3:=Vo g9;clear g9 G0 G1 X6 X4 X5 g2 HX;go_wp2_with (at_builtin;refine Vb _ rfl _ _ rfl (C (some ⟨wr.heap.size+1,0,none⟩) 0 0) rfl (wr.heap.size+1) ?kb ?kn rfl y0.out ?ki HKL.out ?_)
   case kn=>exact Zt (by go_size) (by go_size)
   case ki=>exact X8.out.below (by go_grown)
   intro KB kb w9 hown9 hgrow9;have H9:=(Below.refl (wr.heap.size+1) _).grown hgrow9 (by go_size) (fun k hk=>by cases hk;exact Nat.le_refl _);have e0:w9.cell? ⟨wr.heap.size,0,none⟩=some (f l xk):=(H9.cell (p:=⟨wr.heap.size,0,none⟩) (Nat.lt_succ_self _)).trans (by simp[go_sem]);have e1:w9.cell? ⟨wr.heap.size,1,none⟩=some (f l xo):=(H9.cell (p:=⟨wr.heap.size,1,none⟩) (Nat.lt_succ_self _)).trans (by simp[go_sem]);have e2:w9.cell? ⟨wr.heap.size,2,none⟩=some (f l H6):=(H9.cell (p:=⟨wr.heap.size,2,none⟩) (Nat.lt_succ_self _)).trans (by simp[go_sem]);have e3:w9.cell? ⟨wr.heap.size,3,none⟩=some (f l H5):=(H9.cell (p:=⟨wr.heap.size,3,none⟩) (Nat.lt_succ_self _)).trans (by simp[go_sem]);have e4:w9.cell? ⟨wr.heap.size,4,none⟩=some (D H4):=(H9.cell (p:=⟨wr.heap.size,4,none⟩) (Nat.lt_succ_self _)).trans (by simp[go_sem])
   have e5:w9.cell? ⟨wr.heap.size,5,none⟩=some (f l H1):=(H9.cell (p:=⟨wr.heap.size,5,none⟩) (Nat.lt_succ_self _)).trans (by simp[go_sem]);have e6:w9.cell? ⟨wr.heap.size,6,none⟩=some (f l H0):=(H9.cell (p:=⟨wr.heap.size,6,none⟩) (Nat.lt_succ_self _)).trans (by simp[go_sem]);have e7:w9.cell? ⟨wr.heap.size,7,none⟩=some (t h6):=(H9.cell (p:=⟨wr.heap.size,7,none⟩) (Nat.lt_succ_self _)).trans (by simp[go_sem]);have e8:w9.cell? ⟨wr.heap.size,8,none⟩=some (t h5):=(H9.cell (p:=⟨wr.heap.size,8,none⟩) (Nat.lt_succ_self _)).trans (by simp[go_sem]);have e9:w9.cell? ⟨wr.heap.size,9,none⟩=some (f l H3):=(H9.cell (p:=⟨wr.heap.size,9,none⟩) (Nat.lt_succ_self _)).trans (by simp[go_sem]);have x3:w9.cell? ⟨wr.heap.size,10,none⟩=some (f l H2):=(H9.cell (p:=⟨wr.heap.size,10,none⟩) (Nat.lt_succ_self _)).trans (by simp[go_sem]);have x2:w9.cell? ⟨wr.heap.size,11,none⟩=some (t h9):=(H9.cell (p:=⟨wr.heap.size,11,none⟩) (Nat.lt_succ_self _)).trans (by simp[go_sem])
   have x1:w9.cell? ⟨wr.heap.size,12,none⟩=some (t h7):=(H9.cell (p:=⟨wr.heap.size,12,none⟩) (Nat.lt_succ_self _)).trans (by simp[go_sem]);have x0:w9.cell? ⟨wr.heap.size,13,none⟩=some (C KA h4.length kc):=(H9.cell (p:=⟨wr.heap.size,13,none⟩) (Nat.lt_succ_self _)).trans (by simp[go_sem]);have f9: ∀j,j<14->w9.frozen? ⟨wr.heap.size,j,none⟩=false:=fun j hj=>(H9.frozen (p:=⟨wr.heap.size,j,none⟩) (Nat.lt_succ_self _)).trans (by simp[go_sem])
   have H8:Hid (X9 wr.heap.size w9):=fun j hj=>by
    have y3:j=0\/j=1\/j=2\/j=3\/j=4\/j=5\/j=6\/j=7\/j=8\/j=9\/j=10\/j=11\/j=12\/j=13:=by omega
    rcases y3 with rfl | rfl | rfl | rfl | rfl | rfl | rfl | rfl | rfl | rfl | rfl | rfl | rfl | rfl
    ·exact⟨_,e0,f9 _ hj⟩
    ·exact⟨_,e1,f9 _ hj⟩
    ·exact⟨_,e2,f9 _ hj⟩
    ·exact⟨_,e3,f9 _ hj⟩
    ·exact⟨_,e4,f9 _ hj⟩
    ·exact⟨_,e5,f9 _ hj⟩
    ·exact⟨_,e6,f9 _ hj⟩
    ·exact⟨_,e7,f9 _ hj⟩
    ·exact⟨_,e8,f9 _ hj⟩
    ·exact⟨_,e9,f9 _ hj⟩
    ·exact⟨_,x3,f9 _ hj⟩
    ·exact⟨_,x2,f9 _ hj⟩
    ·exact⟨_,x1,f9 _ hj⟩
    ·exact⟨_,x0,f9 _ hj⟩
   have z9:wr.heap.size+1<=w9.heap.size:=Nat.le_trans (by simp) H9.size;have l9:wr.heap.size<w9.heap.size:=z9;have k9:Below wr.heap.size wr w9:=Below.trans (by go_grown) (H9.mono (Nat.le_succ _));have H7:Hid (w9.ownsRow (wr.heap.size+1) 2 1 (C KB h4.length kb) h4.length (h4.map (Value.int .i64))):=hown9;clear hown9 hgrow9 H9 c0 c1 c2 c3 c4 c5 c6 c7 c8 c9 x7 x6 x5 x4 X8 y0;by_cases h2:xk=2
   ·subst h2;by_cases hA:Ql (mvI h6 H1 d) (mvI h5 H0 e) (mvI h6 H1 d) (mvI h5 H0 e)=true
    ·have X0:=g3.1 (G rfl);obtain⟨G9,G8⟩:=X0;clear g3
     have g8:Hid (Qp (⟨2,xo,H6,H5,H4,(mvI h6 H1 d),(mvI h5 H0 e),h6,h5,H3,H2,h9,h7,h4⟩:FN)=true):=by
      show _=_;rw[Xv (mvI h6 H1 d) (mvI h5 H0 e) g4.out,<-Ja];exact hA
     have G2:Hid ((fun i=>QB (Qi d e) (Qh d e) (F i)) k=(⟨2,xo,H6,H5,H4,(mvI h6 H1 d),(mvI h5 H0 e),h6,h5,H3,H2,h9,h7,h4⟩:FN)):=by
      refine HG.out.trans ?_;unfold QB;rw[pS rfl];exact pS hA
     clear HG g4;clear hA
     go_wp2_with (first
      | (go_at_call 141;refine(XV _ _ _ _ _ _ _ (by assumption) (by assumption) G6 G5).mono ?_;rintro z w1 ⟨rfl,hb⟩;have H7:=Yi H7 (by repeat (first | exact K9.refl | refine K9.set ?_ _ _)) hb;have H8:=Zz H8 (by repeat (first | exact K9.refl | refine K9.set ?_ _ _)) (by go_size) hb;obtain⟨hc,hf,hC,hF,hz,hk,l0⟩:=bk1 (w:=wr) hb;clear hb)
      | (go_at_call 139;refine(QM (⟨2,xo,H6,H5,H4,(mvI h6 H1 d),(mvI h5 H0 e),h6,h5,H3,H2,h9,h7,h4⟩:FN) _ hs).mono ?_;rintro z w1 ⟨rfl,hb⟩;rw[g8.out];have H7:=Yi H7 (by repeat (first | exact K9.refl | refine K9.set ?_ _ _)) hb;have H8:=Zz H8 (by repeat (first | exact K9.refl | refine K9.set ?_ _ _)) (by go_size) hb;obtain⟨hc,hf,hC,hF,hz,hk,l0⟩:=bk1 (w:=wr) hb;clear hb)
      | (at_builtin;refine Zq _ rfl _ _ rfl u8 rfl w.heap.size ?hb k ys ?hw (⟨2,xo,H6,H5,H4,(mvI h6 H1 d),(mvI h5 H0 e),h6,h5,H3,H2,h9,h7,h4⟩:FN) KB kb _ _ rfl (B _ _) rfl (by omega) ?_))
     case hb=>have g5:=g0.out;have G4:=hz;(try simp only[World.size_alloc]);first | omega | go_size
     case hw=>exact Qd HW.out (by go_grown)
     intro v2 w2 hown2 hgrow2;have g7:Hid (FnPart w2 w.heap.size (ys++Qx (⟨2,xo,H6,H5,H4,(mvI h6 H1 d),(mvI h5 H0 e),h6,h5,H3,H2,h9,h7,h4⟩:FN) KB kb) (fun i=>QB (Qi d e) (Qh d e) (F i)) (k+1)):=Zp G2.out (Qd HW.out (by go_grown)) (HP.out.below (by go_grown)) (QU (Qd H7.out (by go_grown)) (by have:=g0.out;omega)) hgrow2;have g6:Hid (w2.ownsRow w.heap.size 177 14 v2 (k+1) (ys++Qx (⟨2,xo,H6,H5,H4,(mvI h6 H1 d),(mvI h5 H0 e),h6,h5,H3,H2,h9,h7,h4⟩:FN) KB kb)):=hown2;have g1:Hid (Below w.heap.size w w2):=Below.grown (Qb HB.out (by go_grown)) hgrow2 (by have g5:=g0.out;go_size) (fun q hq=>(HW.out.lt q hq).1);clear hown2 hgrow2 HW HP HB;go_wp2_with fail
     go_roundw
     case rel=>exact⟨k+1,by omega,by go_num,⟨_,g6.out,g7.out⟩,g1.out⟩
     case measure=>simp[intOf];omega
    ·replace hA:=eq_false_of_ne_true hA;have X0:=g3.1 (G rfl);obtain⟨G9,G8⟩:=X0;clear g3
     have g8:Hid (Qp (⟨2,xo,H6,H5,H4,(mvI h6 H1 d),(mvI h5 H0 e),h6,h5,H3,H2,h9,h7,h4⟩:FN)=false):=by
      show _=_;rw[Xv (mvI h6 H1 d) (mvI h5 H0 e) g4.out,<-Ja];exact hA
     have G2:Hid ((fun i=>QB (Qi d e) (Qh d e) (F i)) k=QY):=by
      refine HG.out.trans ?_;unfold QB;rw[pS rfl];exact nG (fun h8=>by cases (hA.symm.trans h8:false=true))
     clear HG g4;clear hA
     go_wp2_with (first
      | (go_at_call 141;refine(XV _ _ _ _ _ _ _ (by assumption) (by assumption) G6 G5).mono ?_;rintro z w1 ⟨rfl,hb⟩;have H7:=Yi H7 (by repeat (first | exact K9.refl | refine K9.set ?_ _ _)) hb;have H8:=Zz H8 (by repeat (first | exact K9.refl | refine K9.set ?_ _ _)) (by go_size) hb;obtain⟨hc,hf,hC,hF,hz,hk,l0⟩:=bk1 (w:=wr) hb;clear hb)
      | (go_at_call 139;refine(QM (⟨2,xo,H6,H5,H4,(mvI h6 H1 d),(mvI h5 H0 e),h6,h5,H3,H2,h9,h7,h4⟩:FN) _ hs).mono ?_;rintro z w1 ⟨rfl,hb⟩;rw[g8.out];have H7:=Yi H7 (by repeat (first | exact K9.refl | refine K9.set ?_ _ _)) hb;have H8:=Zz H8 (by repeat (first | exact K9.refl | refine K9.set ?_ _ _)) (by go_size) hb;obtain⟨hc,hf,hC,hF,hz,hk,l0⟩:=bk1 (w:=wr) hb;clear hb))
     refine(Yh _).mono ?_;rintro z w4 ⟨rfl,hb⟩;have x8:Hid (X9 wr.heap.size w4):=Zz H8 (by repeat (first | exact K9.refl | refine K9.set ?_ _ _)) (by go_size) hb;have k4:Below wr.heap.size wr w4:=Qb (by go_grown) hb;have z4:wr.heap.size+1<=w4.heap.size:=Nat.le_trans (by go_size) hb.size;have l4:wr.heap.size<w4.heap.size:=z4;clear hb hc hf hC hF e0 e1 e2 e3 e4 e5 e6 e7 e8 e9 x3 x2 x1 x0 f9 H7 H8
     go_wp2_with (first
      | (refine GS x8.out rfl _ _ rfl [f l 1,f l 0,f l 4,f l 3,D ⟨#[]⟩,f l 0,f l 0,t false,t false,f l 0,f l 0,t false,t false,C none 0 0] rfl rfl rfl rfl ?_;intro w5 hr5 hb5 hs5;have X1:Hid (w5.rangeAt wr.heap.size 0 [f l 1,f l 0,f l 4,f l 3,D ⟨#[]⟩,f l 0,f l 0,t false,t false,f l 0,f l 0,t false,t false,C none 0 0]):=hr5;have k5:Below wr.heap.size wr w5:=(k4.trans hb5);have z5:wr.heap.size+1<=w5.heap.size:=(by rw[hs5];exact z4);have l5:wr.heap.size<w5.heap.size:=z5;clear hr5 hb5 hs5)
      | (refine Bb X1.out rfl rfl _ rfl rfl ?_)
      | (at_builtin;refine Zq _ rfl _ _ rfl u8 rfl w.heap.size ?hb k ys ?hw QY none 0 _ _ rfl (B _ _) rfl (by omega) ?_))
     case hb=>have g5:=g0.out;have G4:=z5;(try simp only[World.size_alloc]);first | omega | go_size
     case hw=>exact Qd HW.out (by go_grown)
     intro v2 w2 hown2 hgrow2;have g7:Hid (FnPart w2 w.heap.size (ys++Qx QY none 0) (fun i=>QB (Qi d e) (Qh d e) (F i)) (k+1)):=Zp G2.out (Qd HW.out (by go_grown)) (HP.out.below (by go_grown)) (Je _ _) hgrow2;have g6:Hid (w2.ownsRow w.heap.size 177 14 v2 (k+1) (ys++Qx QY none 0)):=hown2;have g1:Hid (Below w.heap.size w w2):=Below.grown (Qb HB.out (by go_grown)) hgrow2 (by have g5:=g0.out;go_size) (fun q hq=>(HW.out.lt q hq).1);clear hown2 hgrow2 HW HP HB;go_wp2_with fail
     go_roundw
     case rel=>exact⟨k+1,by omega,by go_num,⟨_,g6.out,g7.out⟩,g1.out⟩
     case measure=>simp[intOf];omega
   by_cases h3:xk=3
   ·subst h3;clear h2;by_cases hA:Ql (mvI h6 H1 d) (mvI h5 H0 e) (mvI h9 H3 d) (mvI h7 H2 e)=true
    ·obtain⟨G9,G8⟩:=g3.1 (H rfl);obtain⟨y5,y4⟩:=g3.2 rfl;clear g3
     have g8:Hid (Qp (⟨3,xo,H6,H5,H4,(mvI h6 H1 d),(mvI h5 H0 e),h6,h5,(mvI h9 H3 d),(mvI h7 H2 e),h9,h7,h4⟩:FN)=true):=by
      show _=_;rw[Xw (mvI h6 H1 d) (mvI h5 H0 e) (mvI h9 H3 d) (mvI h7 H2 e) g4.out];exact hA
     have G2:Hid ((fun i=>QB (Qi d e) (Qh d e) (F i)) k=(⟨3,xo,H6,H5,H4,(mvI h6 H1 d),(mvI h5 H0 e),h6,h5,(mvI h9 H3 d),(mvI h7 H2 e),h9,h7,h4⟩:FN)):=by
      refine HG.out.trans ?_;unfold QB;rw[nG (by show¬(3:Int)=2;decide),pS rfl];exact pS hA
     clear HG g4;clear hA
     go_wp2_with (first
      | (go_at_call 141;refine(XV _ _ _ _ _ _ _ (by assumption) (by assumption) G6 G5).mono ?_;rintro z w1 ⟨rfl,hb⟩;have H7:=Yi H7 (by repeat (first | exact K9.refl | refine K9.set ?_ _ _)) hb;have H8:=Zz H8 (by repeat (first | exact K9.refl | refine K9.set ?_ _ _)) (by go_size) hb;obtain⟨hc,hf,hC,hF,hz,hk,l0⟩:=bk1 (w:=wr) hb;clear hb)
      | (go_at_call 139;refine(QM (⟨3,xo,H6,H5,H4,(mvI h6 H1 d),(mvI h5 H0 e),h6,h5,(mvI h9 H3 d),(mvI h7 H2 e),h9,h7,h4⟩:FN) _ hs).mono ?_;rintro z w1 ⟨rfl,hb⟩;rw[g8.out];have H7:=Yi H7 (by repeat (first | exact K9.refl | refine K9.set ?_ _ _)) hb;have H8:=Zz H8 (by repeat (first | exact K9.refl | refine K9.set ?_ _ _)) (by go_size) hb;obtain⟨hc,hf,hC,hF,hz,hk,l0⟩:=bk1 (w:=wr) hb;clear hb)
      | (at_builtin;refine Zq _ rfl _ _ rfl u8 rfl w.heap.size ?hb k ys ?hw (⟨3,xo,H6,H5,H4,(mvI h6 H1 d),(mvI h5 H0 e),h6,h5,(mvI h9 H3 d),(mvI h7 H2 e),h9,h7,h4⟩:FN) KB kb _ _ rfl (B _ _) rfl (by omega) ?_))
     case hb=>have g5:=g0.out;have G4:=hz;(try simp only[World.size_alloc]);first | omega | go_size
     case hw=>exact Qd HW.out (by go_grown)
     intro v2 w2 hown2 hgrow2;have g7:Hid (FnPart w2 w.heap.size (ys++Qx (⟨3,xo,H6,H5,H4,(mvI h6 H1 d),(mvI h5 H0 e),h6,h5,(mvI h9 H3 d),(mvI h7 H2 e),h9,h7,h4⟩:FN) KB kb) (fun i=>QB (Qi d e) (Qh d e) (F i)) (k+1)):=Zp G2.out (Qd HW.out (by go_grown)) (HP.out.below (by go_grown)) (QU (Qd H7.out (by go_grown)) (by have:=g0.out;omega)) hgrow2;have g6:Hid (w2.ownsRow w.heap.size 177 14 v2 (k+1) (ys++Qx (⟨3,xo,H6,H5,H4,(mvI h6 H1 d),(mvI h5 H0 e),h6,h5,(mvI h9 H3 d),(mvI h7 H2 e),h9,h7,h4⟩:FN) KB kb)):=hown2;have g1:Hid (Below w.heap.size w w2):=Below.grown (Qb HB.out (by go_grown)) hgrow2 (by have g5:=g0.out;go_size) (fun q hq=>(HW.out.lt q hq).1);clear hown2 hgrow2 HW HP HB;go_wp2_with fail
     go_roundw
     case rel=>exact⟨k+1,by omega,by go_num,⟨_,g6.out,g7.out⟩,g1.out⟩
     case measure=>simp[intOf];omega
    ·replace hA:=eq_false_of_ne_true hA;obtain⟨G9,G8⟩:=g3.1 (H rfl);obtain⟨y5,y4⟩:=g3.2 rfl;clear g3
     have g8:Hid (Qp (⟨3,xo,H6,H5,H4,(mvI h6 H1 d),(mvI h5 H0 e),h6,h5,(mvI h9 H3 d),(mvI h7 H2 e),h9,h7,h4⟩:FN)=false):=by
      show _=_;rw[Xw (mvI h6 H1 d) (mvI h5 H0 e) (mvI h9 H3 d) (mvI h7 H2 e) g4.out];exact hA
     have G2:Hid ((fun i=>QB (Qi d e) (Qh d e) (F i)) k=QY):=by
      refine HG.out.trans ?_;unfold QB;rw[nG (by show¬(3:Int)=2;decide),pS rfl];exact nG (fun h8=>by cases (hA.symm.trans h8:false=true))
     clear HG g4;clear hA
     go_wp2_with (first
      | (go_at_call 141;refine(XV _ _ _ _ _ _ _ (by assumption) (by assumption) G6 G5).mono ?_;rintro z w1 ⟨rfl,hb⟩;have H7:=Yi H7 (by repeat (first | exact K9.refl | refine K9.set ?_ _ _)) hb;have H8:=Zz H8 (by repeat (first | exact K9.refl | refine K9.set ?_ _ _)) (by go_size) hb;obtain⟨hc,hf,hC,hF,hz,hk,l0⟩:=bk1 (w:=wr) hb;clear hb)
      | (go_at_call 139;refine(QM (⟨3,xo,H6,H5,H4,(mvI h6 H1 d),(mvI h5 H0 e),h6,h5,(mvI h9 H3 d),(mvI h7 H2 e),h9,h7,h4⟩:FN) _ hs).mono ?_;rintro z w1 ⟨rfl,hb⟩;rw[g8.out];have H7:=Yi H7 (by repeat (first | exact K9.refl | refine K9.set ?_ _ _)) hb;have H8:=Zz H8 (by repeat (first | exact K9.refl | refine K9.set ?_ _ _)) (by go_size) hb;obtain⟨hc,hf,hC,hF,hz,hk,l0⟩:=bk1 (w:=wr) hb;clear hb))
     refine(Yh _).mono ?_;rintro z w4 ⟨rfl,hb⟩;have x8:Hid (X9 wr.heap.size w4):=Zz H8 (by repeat (first | exact K9.refl | refine K9.set ?_ _ _)) (by go_size) hb;have k4:Below wr.heap.size wr w4:=Qb (by go_grown) hb;have z4:wr.heap.size+1<=w4.heap.size:=Nat.le_trans (by go_size) hb.size;have l4:wr.heap.size<w4.heap.size:=z4;clear hb hc hf hC hF e0 e1 e2 e3 e4 e5 e6 e7 e8 e9 x3 x2 x1 x0 f9 H7 H8
     go_wp2_with (first
      | (refine GS x8.out rfl _ _ rfl [f l 1,f l 0,f l 4,f l 3,D ⟨#[]⟩,f l 0,f l 0,t false,t false,f l 0,f l 0,t false,t false,C none 0 0] rfl rfl rfl rfl ?_;intro w5 hr5 hb5 hs5;have X1:Hid (w5.rangeAt wr.heap.size 0 [f l 1,f l 0,f l 4,f l 3,D ⟨#[]⟩,f l 0,f l 0,t false,t false,f l 0,f l 0,t false,t false,C none 0 0]):=hr5;have k5:Below wr.heap.size wr w5:=(k4.trans hb5);have z5:wr.heap.size+1<=w5.heap.size:=(by rw[hs5];exact z4);have l5:wr.heap.size<w5.heap.size:=z5;clear hr5 hb5 hs5)
      | (refine Bb X1.out rfl rfl _ rfl rfl ?_)
      | (at_builtin;refine Zq _ rfl _ _ rfl u8 rfl w.heap.size ?hb k ys ?hw QY none 0 _ _ rfl (B _ _) rfl (by omega) ?_))
     case hb=>have g5:=g0.out;have G4:=z5;(try simp only[World.size_alloc]);first | omega | go_size
     case hw=>exact Qd HW.out (by go_grown)
     intro v2 w2 hown2 hgrow2;have g7:Hid (FnPart w2 w.heap.size (ys++Qx QY none 0) (fun i=>QB (Qi d e) (Qh d e) (F i)) (k+1)):=Zp G2.out (Qd HW.out (by go_grown)) (HP.out.below (by go_grown)) (Je _ _) hgrow2;have g6:Hid (w2.ownsRow w.heap.size 177 14 v2 (k+1) (ys++Qx QY none 0)):=hown2;have g1:Hid (Below w.heap.size w w2):=Below.grown (Qb HB.out (by go_grown)) hgrow2 (by have g5:=g0.out;go_size) (fun q hq=>(HW.out.lt q hq).1);clear hown2 hgrow2 HW HP HB;go_wp2_with fail
     go_roundw
     case rel=>exact⟨k+1,by omega,by go_num,⟨_,g6.out,g7.out⟩,g1.out⟩
     case measure=>simp[intOf];omega
   ·clear g3;have g8:Hid (Qp (⟨xk,xo,H6,H5,H4,H1,H0,h6,h5,H3,H2,h9,h7,h4⟩:FN)=true):=g4.out
    have G2:Hid ((fun i=>QB (Qi d e) (Qh d e) (F i)) k=(⟨xk,xo,H6,H5,H4,H1,H0,h6,h5,H3,H2,h9,h7,h4⟩:FN)):=by
     refine HG.out.trans ?_;unfold QB;rw[nG h2,nG h3]
    have n2:(xk==2)=false:=by simpa using h2
    have n3:(xk==3)=false:=by simpa using h3
    clear HG g4;clear h2 h3
    go_wp2_with (first
     | (go_at_call 139;refine(QM (⟨xk,xo,H6,H5,H4,H1,H0,h6,h5,H3,H2,h9,h7,h4⟩:FN) _ hs).mono ?_;rintro z w1 ⟨rfl,hb⟩;rw[g8.out];have H7:=Yi H7 (by repeat (first | exact K9.refl | refine K9.set ?_ _ _)) hb;have H8:=Zz H8 (by repeat (first | exact K9.refl | refine K9.set ?_ _ _)) (by go_size) hb;obtain⟨hc,hf,hC,hF,hz,hk,l0⟩:=bk1 (w:=wr) hb;clear hb)
     | (at_builtin;refine Zq _ rfl _ _ rfl u8 rfl w.heap.size ?hb k ys ?hw (⟨xk,xo,H6,H5,H4,H1,H0,h6,h5,H3,H2,h9,h7,h4⟩:FN) KB kb _ _ rfl (B _ _) rfl (by omega) ?_))
    case hb=>have g5:=g0.out;have G4:=hz;(try simp only[World.size_alloc]);first | omega | go_size
    case hw=>exact Qd HW.out (by go_grown)
    intro v2 w2 hown2 hgrow2;have g7:Hid (FnPart w2 w.heap.size (ys++Qx (⟨xk,xo,H6,H5,H4,H1,H0,h6,h5,H3,H2,h9,h7,h4⟩:FN) KB kb) (fun i=>QB (Qi d e) (Qh d e) (F i)) (k+1)):=Zp G2.out (Qd HW.out (by go_grown)) (HP.out.below (by go_grown)) (QU (Qd H7.out (by go_grown)) (by have:=g0.out;omega)) hgrow2;have g6:Hid (w2.ownsRow w.heap.size 177 14 v2 (k+1) (ys++Qx (⟨xk,xo,H6,H5,H4,H1,H0,h6,h5,H3,H2,h9,h7,h4⟩:FN) KB kb)):=hown2;have g1:Hid (Below w.heap.size w w2):=Below.grown (Qb HB.out (by go_grown)) hgrow2 (by have g5:=g0.out;go_size) (fun q hq=>(HW.out.lt q hq).1);clear hown2 hgrow2 HW HP HB;go_wp2_with fail
    go_roundw
    case rel=>exact⟨k+1,by omega,by go_num,⟨_,g6.out,g7.out⟩,g1.out⟩
    case measure=>simp[intOf];omega
  ·have h1: ¬(k:Int)<(n:Int):=by omega
   obtain rfl:k=n:=by omega
   go_wp2_with fail
   refine bodyPost_ret (v:= K #[u8,t true]) ?_ rfl ⟨_,rfl,ys,HW.out,HP.out,HB.out⟩;simp (maxDischargeDepth:=9) [results,results109,go_sem]
theorem Mm(d e:Int)(w:World):Calls prog 104 #[f l d,f l e] w fun z w'=>z= I (t (Yf d e))/\w'=w:=by
 cases h1:decide (1<=d/\d<=99)
 ·have HD:Hid (decide (1<=d/\d<=99)=false):=h1;have HE:Hid (Yf d e=false):=by show _=_;unfold Yf;rw[h1];rfl
  clear h1;go_enter func104,ntmps104;go_wp2_with (go_at_call 102;refine(QG _ _ _ _).mono ?_;rintro z w3 ⟨rfl,hw⟩;subst w3;rw[HD.out])
  go_ret;exact⟨Qc HE.out.symm,rfl⟩
 ·have HD:Hid (decide (1<=d/\d<=99)=true):=h1;obtain⟨y,HY⟩: ∃y,Hid (decide (1<=e/\e<=99)=y):=⟨_,rfl⟩;have HE:Hid (Yf d e=y):=by show _=_;unfold Yf;rw[h1,HY.out];rfl
  clear h1;go_enter func104,ntmps104;go_wp2_with (go_at_call 102;refine(QG _ _ _ _).mono ?_;rintro z w3 ⟨rfl,hw⟩;subst w3;(first | rw[HD.out] | rw[HY.out]))
  go_ret;exact⟨Qc HE.out.symm,rfl⟩
theorem Qsf{g:Nat}{o:Obj}(h:g=W.heap.size):(W.alloc o).heap[g]? =some o:=by
 subst h;exact B _ _
theorem Gg(d e:Int)(w:World)(h:FnRowS w A n F)(hkn: ∀i,i<n->(F i).kids.length<=1048576)(hno: ∀i,i<n->Qp (F i)=true)(hn60:n<=60)(hdq:1<=d/\d<=99)(he:1<=e/\e<=99):
  Calls prog 108 #[C A n cap,f l d,f l e,t false] w fun z w'=> ∃v ys,z= I v/\w'.ownsRow w.heap.size 177 14 v n ys/\FnPart w' w.heap.size ys (fun i=>QB (Zw d e) (Zv d e) (F i)) n/\Below w.heap.size w w':=by
 have HR:Hid (FnRowS w A n F):=h;have y1:Hid (∀i,i<n->(F i).kids.length<=1048576):=hkn;have y0:Hid (∀i,i<n->Qp (F i)=true):=hno;have hd': -1000<=d/\d<=1000:=by omega
 have G5: -1000<=e/\e<=1000:=by omega
 have he0:0<=e/\e<=1000:=by omega
 have hw1:IntKind.i64.wrap (d+e)=d+e:=by rw[E];omega
 have hw2:IntKind.i64.wrap (d+e-1)=d+e-1:=by rw[E];omega
 have hw3:IntKind.i64.wrap (d-1)=d-1:=by rw[E];omega
 clear h hkn hno;go_enter func108,ntmps108;go_wp2_with fail
 have HV:Hid ((w.alloc (J #[] 177)).ownsRow w.heap.size 177 14 (C (some ⟨w.heap.size,0,none⟩) 0 0) 0 []):=Zt (Nat.le_refl _) rfl;have g1:Hid (Below w.heap.size w (w.alloc (J #[] 177))):=by show Below _ _ _;go_grown
 go_loopw [9,10] (fun v i wr=> ∃k:Nat,k<=n/\i= f l k/\(∃ys,wr.ownsRow w.heap.size 177 14 v k ys/\FnPart wr w.heap.size ys (fun i=>QB (Zw d e) (Zv d e) (F i)) k)/\Below w.heap.size w wr) (fun _ i _=>n-(intOf i).toNat)
 case atStart=>exact⟨0,Nat.zero_le _,rfl,⟨[],HV.out,fun i hi=>by omega⟩,g1.out⟩
 case round=>
  clear HV g1;obtain⟨k,hk,rfl,⟨ys,G4,X0⟩,g2⟩:=hrel;have HW:Hid (wr.ownsRow w.heap.size 177 14 u9 k ys):=G4;have HP:Hid (FnPart wr w.heap.size ys (fun i=>QB (Zw d e) (Zv d e) (F i)) k):=X0;have HB:Hid (Below w.heap.size w wr):=g2;have g0:Hid (w.heap.size<=wr.heap.size):=g2.size;clear G4 X0
  by_cases G6:k<n
  ·obtain⟨b,o,KA,kc,rfl,hl,X1,X2,hs,X3⟩:=HR.out.2 k G6;obtain⟨c0,c1,c2,c3,c4,c5,c6,c7,c8,c9,x6,x5,x4,x3⟩:=X1.below hl (W':=wr) g2;have g8:=y0.out k G6;have G0:=y1.out k G6;have G1:=X2.below (W':=wr) g2;have hl2:b<wr.heap.size:=Nat.lt_of_lt_of_le hl g0.out;have h0:(0:Int)<=(k:Int):=by omega
   have h1:(k:Int)<(n:Int):=by omega
   obtain⟨x,HX⟩: ∃x,Hid (F k=x):=⟨_,rfl⟩;have HG:Hid ((fun i=>QB (Zw d e) (Zv d e) (F i)) k=QB (Zw d e) (Zv d e) x):=by show QB _ _ (F k)=_;rw[HX.out]
   rw[HX.out]at c0 c1 c2 c3 c4 c5 c6 c7 c8 c9 x6 x5 x4 x3 g8 G0 G1 hs;obtain⟨xk,xo,H2,H1,H0,h6,h5,H6,H5,h9,h7,H4,H3,h4⟩:=x;simp only at c0 c1 c2 c3 c4 c5 c6 c7 c8 c9 x6 x5 x4 x3 G0 G1 hs;have g9:Hid (Qp ⟨xk,xo,H2,H1,H0,h6,h5,H6,H5,h9,h7,H4,H3,h4⟩=true):=g8;have y2:Hid (h4.length<=1048576):=G0;have X4:Hid (IntRow wr KA h4):=G1;have X5:Hid (KA=none->kc=0):=X3
   have g3:=Vo g8;clear g8 G0 G1 X3 X1 X2 g2 HX;go_wp2_with (at_builtin;refine Vb _ rfl _ _ rfl (C (some ⟨wr.heap.size+1,0,none⟩) 0 0) rfl (wr.heap.size+1) ?kb ?kn rfl X5.out ?ki y2.out ?_)
   case kn=>exact Zt (by go_size) (by go_size)
   case ki=>exact X4.out.below (by go_grown)
   intro KB kb w9 hown9 hgrow9;have H9:=(Below.refl (wr.heap.size+1) _).grown hgrow9 (by go_size) (fun k hk=>by cases hk;exact Nat.le_refl _);have e0:w9.cell? ⟨wr.heap.size,0,none⟩=some (f l xk):=(H9.cell (p:=⟨wr.heap.size,0,none⟩) (Nat.lt_succ_self _)).trans (by simp[go_sem]);have e1:w9.cell? ⟨wr.heap.size,1,none⟩=some (f l xo):=(H9.cell (p:=⟨wr.heap.size,1,none⟩) (Nat.lt_succ_self _)).trans (by simp[go_sem]);have e2:w9.cell? ⟨wr.heap.size,2,none⟩=some (f l H2):=(H9.cell (p:=⟨wr.heap.size,2,none⟩) (Nat.lt_succ_self _)).trans (by simp[go_sem]);have e3:w9.cell? ⟨wr.heap.size,3,none⟩=some (f l H1):=(H9.cell (p:=⟨wr.heap.size,3,none⟩) (Nat.lt_succ_self _)).trans (by simp[go_sem]);have e4:w9.cell? ⟨wr.heap.size,4,none⟩=some (D H0):=(H9.cell (p:=⟨wr.heap.size,4,none⟩) (Nat.lt_succ_self _)).trans (by simp[go_sem])
   have e5:w9.cell? ⟨wr.heap.size,5,none⟩=some (f l h6):=(H9.cell (p:=⟨wr.heap.size,5,none⟩) (Nat.lt_succ_self _)).trans (by simp[go_sem]);have e6:w9.cell? ⟨wr.heap.size,6,none⟩=some (f l h5):=(H9.cell (p:=⟨wr.heap.size,6,none⟩) (Nat.lt_succ_self _)).trans (by simp[go_sem]);have e7:w9.cell? ⟨wr.heap.size,7,none⟩=some (t H6):=(H9.cell (p:=⟨wr.heap.size,7,none⟩) (Nat.lt_succ_self _)).trans (by simp[go_sem]);have e8:w9.cell? ⟨wr.heap.size,8,none⟩=some (t H5):=(H9.cell (p:=⟨wr.heap.size,8,none⟩) (Nat.lt_succ_self _)).trans (by simp[go_sem]);have e9:w9.cell? ⟨wr.heap.size,9,none⟩=some (f l h9):=(H9.cell (p:=⟨wr.heap.size,9,none⟩) (Nat.lt_succ_self _)).trans (by simp[go_sem]);have x2:w9.cell? ⟨wr.heap.size,10,none⟩=some (f l h7):=(H9.cell (p:=⟨wr.heap.size,10,none⟩) (Nat.lt_succ_self _)).trans (by simp[go_sem]);have x1:w9.cell? ⟨wr.heap.size,11,none⟩=some (t H4):=(H9.cell (p:=⟨wr.heap.size,11,none⟩) (Nat.lt_succ_self _)).trans (by simp[go_sem])
   have x0:w9.cell? ⟨wr.heap.size,12,none⟩=some (t H3):=(H9.cell (p:=⟨wr.heap.size,12,none⟩) (Nat.lt_succ_self _)).trans (by simp[go_sem]);have G9:w9.cell? ⟨wr.heap.size,13,none⟩=some (C KA h4.length kc):=(H9.cell (p:=⟨wr.heap.size,13,none⟩) (Nat.lt_succ_self _)).trans (by simp[go_sem]);have f9: ∀j,j<14->w9.frozen? ⟨wr.heap.size,j,none⟩=false:=fun j hj=>(H9.frozen (p:=⟨wr.heap.size,j,none⟩) (Nat.lt_succ_self _)).trans (by simp[go_sem])
   have H8:Hid (X9 wr.heap.size w9):=fun j hj=>by
    have X6:j=0\/j=1\/j=2\/j=3\/j=4\/j=5\/j=6\/j=7\/j=8\/j=9\/j=10\/j=11\/j=12\/j=13:=by omega
    rcases X6 with rfl | rfl | rfl | rfl | rfl | rfl | rfl | rfl | rfl | rfl | rfl | rfl | rfl | rfl
    ·exact⟨_,e0,f9 _ hj⟩
    ·exact⟨_,e1,f9 _ hj⟩
    ·exact⟨_,e2,f9 _ hj⟩
    ·exact⟨_,e3,f9 _ hj⟩
    ·exact⟨_,e4,f9 _ hj⟩
    ·exact⟨_,e5,f9 _ hj⟩
    ·exact⟨_,e6,f9 _ hj⟩
    ·exact⟨_,e7,f9 _ hj⟩
    ·exact⟨_,e8,f9 _ hj⟩
    ·exact⟨_,e9,f9 _ hj⟩
    ·exact⟨_,x2,f9 _ hj⟩
    ·exact⟨_,x1,f9 _ hj⟩
    ·exact⟨_,x0,f9 _ hj⟩
    ·exact⟨_,G9,f9 _ hj⟩
   have z9:wr.heap.size+1<=w9.heap.size:=Nat.le_trans (by simp) H9.size;have l9:wr.heap.size<w9.heap.size:=z9;have k9:Below wr.heap.size wr w9:=Below.trans (by go_grown) (H9.mono (Nat.le_succ _));have H7:Hid (w9.ownsRow (wr.heap.size+1) 2 1 (C KB h4.length kb) h4.length (h4.map (Value.int .i64))):=hown9;clear hown9 hgrow9 H9 c0 c1 c2 c3 c4 c5 c6 c7 c8 c9 x6 x5 x4 x3 X4 X5;by_cases h2:xk=2
   ·subst h2;by_cases hA:Ql h6 (opI h5 d e) h6 (opI h5 d e)=true
    ·obtain⟨G8,G7⟩:=g3.1 (G rfl);clear g3
     have G3:Hid (Qp (⟨2,xo,H2,H1,H0,h6,(opI h5 d e),H6,H5,h9,h7,H4,H3,h4⟩:FN)=true):=by
      show _=_;rw[Xv h6 (opI h5 d e) g9.out,<-Ja];exact hA
     have G2:Hid ((fun i=>QB (Zw d e) (Zv d e) (F i)) k=(⟨2,xo,H2,H1,H0,h6,(opI h5 d e),H6,H5,h9,h7,H4,H3,h4⟩:FN)):=by
      refine HG.out.trans ?_;unfold QB;rw[pS rfl];exact pS hA
     clear HG g9 hA
     go_wp2_with (first
      | (go_at_call 105;refine(ZQ _ _ _ _ _ (by assumption) G5).mono ?_;rintro z w1 ⟨rfl,hb⟩;have H7:=Yi H7 (by repeat (first | exact K9.refl | refine K9.set ?_ _ _)) hb;have H8:=Zz H8 (by repeat (first | exact K9.refl | refine K9.set ?_ _ _)) (by go_size) hb;obtain⟨hc,hf,hC,hF,hz,hk,l0⟩:=bk1 (w:=wr) hb;clear hb)
      | (go_at_call 139;refine(QM (⟨2,xo,H2,H1,H0,h6,(opI h5 d e),H6,H5,h9,h7,H4,H3,h4⟩:FN) _ hs).mono ?_;rintro z w1 ⟨rfl,hb⟩;rw[G3.out];have H7:=Yi H7 (by repeat (first | exact K9.refl | refine K9.set ?_ _ _)) hb;have H8:=Zz H8 (by repeat (first | exact K9.refl | refine K9.set ?_ _ _)) (by go_size) hb;obtain⟨hc,hf,hC,hF,hz,hk,l0⟩:=bk1 (w:=wr) hb;clear hb)
      | (at_builtin;refine Zq _ rfl _ _ rfl u9 rfl w.heap.size ?hb k ys ?hw (⟨2,xo,H2,H1,H0,h6,(opI h5 d e),H6,H5,h9,h7,H4,H3,h4⟩:FN) KB kb _ _ rfl (B _ _) rfl (by omega) ?_))
     case hb=>have g5:=g0.out;have g4:=hz;(try simp only[World.size_alloc,World.size_setCell]);first | omega | go_size
     case hw=>exact Qd HW.out (by go_grown)
     intro v2 w2 hown2 hgrow2;have g7:Hid (FnPart w2 w.heap.size (ys++Qx (⟨2,xo,H2,H1,H0,h6,(opI h5 d e),H6,H5,h9,h7,H4,H3,h4⟩:FN) KB kb) (fun i=>QB (Zw d e) (Zv d e) (F i)) (k+1)):=Zp G2.out (Qd HW.out (by go_grown)) (HP.out.below (by go_grown)) (QU (Qd H7.out (by go_grown)) (by have:=g0.out;omega)) hgrow2;have g6:Hid (w2.ownsRow w.heap.size 177 14 v2 (k+1) (ys++Qx (⟨2,xo,H2,H1,H0,h6,(opI h5 d e),H6,H5,h9,h7,H4,H3,h4⟩:FN) KB kb)):=hown2;have g1:Hid (Below w.heap.size w w2):=Below.grown (Qb HB.out (by go_grown)) hgrow2 (by have g5:=g0.out;have g4:=hz;first | omega | go_size) (fun q hq=>(HW.out.lt q hq).1);clear hown2 hgrow2 HW HP HB;go_wp2_with fail
     go_roundw
     case rel=>exact⟨k+1,by omega,by go_num,⟨_,g6.out,g7.out⟩,g1.out⟩
     case measure=>simp[intOf];omega
    ·replace hA:=eq_false_of_ne_true hA;obtain⟨G8,G7⟩:=g3.1 (G rfl);clear g3
     have G3:Hid (Qp (⟨2,xo,H2,H1,H0,h6,(opI h5 d e),H6,H5,h9,h7,H4,H3,h4⟩:FN)=false):=by
      show _=_;rw[Xv h6 (opI h5 d e) g9.out,<-Ja];exact hA
     have G2:Hid ((fun i=>QB (Zw d e) (Zv d e) (F i)) k=QY):=by
      refine HG.out.trans ?_;unfold QB;rw[pS rfl];exact nG (fun h8=>by cases (hA.symm.trans h8:false=true))
     clear HG g9 hA
     go_wp2_with (first
      | (go_at_call 105;refine(ZQ _ _ _ _ _ (by assumption) G5).mono ?_;rintro z w1 ⟨rfl,hb⟩;have H7:=Yi H7 (by repeat (first | exact K9.refl | refine K9.set ?_ _ _)) hb;have H8:=Zz H8 (by repeat (first | exact K9.refl | refine K9.set ?_ _ _)) (by go_size) hb;obtain⟨hc,hf,hC,hF,hz,hk,l0⟩:=bk1 (w:=wr) hb;clear hb)
      | (go_at_call 139;refine(QM (⟨2,xo,H2,H1,H0,h6,(opI h5 d e),H6,H5,h9,h7,H4,H3,h4⟩:FN) _ hs).mono ?_;rintro z w1 ⟨rfl,hb⟩;rw[G3.out];have H7:=Yi H7 (by repeat (first | exact K9.refl | refine K9.set ?_ _ _)) hb;have H8:=Zz H8 (by repeat (first | exact K9.refl | refine K9.set ?_ _ _)) (by go_size) hb;obtain⟨hc,hf,hC,hF,hz,hk,l0⟩:=bk1 (w:=wr) hb;clear hb))
     refine(Yh _).mono ?_;rintro z w4 ⟨rfl,hb⟩;have x7:Hid (X9 wr.heap.size w4):=Zz H8 (by repeat (first | exact K9.refl | refine K9.set ?_ _ _)) (by go_size) hb;have k4:Below wr.heap.size wr w4:=Qb (by go_grown) hb;have z4:wr.heap.size+1<=w4.heap.size:=Nat.le_trans (by go_size) hb.size;have l4:wr.heap.size<w4.heap.size:=z4;clear hb hc hf hC hF e0 e1 e2 e3 e4 e5 e6 e7 e8 e9 x2 x1 x0 G9 f9 H7 H8
     go_wp2_with (first
      | (refine GS x7.out rfl _ _ rfl [f l 1,f l 0,f l 4,f l 3,D ⟨#[]⟩,f l 0,f l 0,t false,t false,f l 0,f l 0,t false,t false,C none 0 0] rfl rfl rfl rfl ?_;intro w5 hr5 hb5 hs5;have x8:Hid (w5.rangeAt wr.heap.size 0 [f l 1,f l 0,f l 4,f l 3,D ⟨#[]⟩,f l 0,f l 0,t false,t false,f l 0,f l 0,t false,t false,C none 0 0]):=hr5;have k5:Below wr.heap.size wr w5:=(k4.trans hb5);have z5:wr.heap.size+1<=w5.heap.size:=(by rw[hs5];exact z4);have l5:wr.heap.size<w5.heap.size:=z5;clear hr5 hb5 hs5)
      | (refine Bb x8.out rfl rfl _ rfl rfl ?_)
      | (at_builtin;refine Zq _ rfl _ _ rfl u9 rfl w.heap.size ?hb k ys ?hw QY none 0 _ _ rfl (B _ _) rfl (by omega) ?_))
     case hb=>have g5:=g0.out;have g4:=z5;(try simp only[World.size_alloc,World.size_setCell]);first | omega | go_size
     case hw=>exact Qd HW.out (by go_grown)
     intro v2 w2 hown2 hgrow2;have g7:Hid (FnPart w2 w.heap.size (ys++Qx QY none 0) (fun i=>QB (Zw d e) (Zv d e) (F i)) (k+1)):=Zp G2.out (Qd HW.out (by go_grown)) (HP.out.below (by go_grown)) (Je _ _) hgrow2;have g6:Hid (w2.ownsRow w.heap.size 177 14 v2 (k+1) (ys++Qx QY none 0)):=hown2;have g1:Hid (Below w.heap.size w w2):=Below.grown (Qb HB.out (by go_grown)) hgrow2 (by have g5:=g0.out;have g4:=z5;first | omega | go_size) (fun q hq=>(HW.out.lt q hq).1);clear hown2 hgrow2 HW HP HB;go_wp2_with fail
     go_roundw
     case rel=>exact⟨k+1,by omega,by go_num,⟨_,g6.out,g7.out⟩,g1.out⟩
     case measure=>simp[intOf];omega
   by_cases h3:xk=3
   ·subst h3;clear h2;by_cases hA:Ql h6 (opI h5 d e) h9 (opI h7 d e)=true
    ·obtain⟨G8,G7⟩:=g3.1 (H rfl);obtain⟨X8,X7⟩:=g3.2 rfl;clear g3
     have G3:Hid (Qp (⟨3,xo,H2,H1,H0,h6,(opI h5 d e),H6,H5,h9,(opI h7 d e),H4,H3,h4⟩:FN)=true):=by
      show _=_;rw[Xw h6 (opI h5 d e) h9 (opI h7 d e) g9.out];exact hA
     have G2:Hid ((fun i=>QB (Zw d e) (Zv d e) (F i)) k=(⟨3,xo,H2,H1,H0,h6,(opI h5 d e),H6,H5,h9,(opI h7 d e),H4,H3,h4⟩:FN)):=by
      refine HG.out.trans ?_;unfold QB;rw[nG (by show¬(3:Int)=2;decide),pS rfl];exact pS hA
     clear HG g9 hA
     go_wp2_with (first
      | (go_at_call 105;refine(ZQ _ _ _ _ _ (by assumption) G5).mono ?_;rintro z w1 ⟨rfl,hb⟩;have H7:=Yi H7 (by repeat (first | exact K9.refl | refine K9.set ?_ _ _)) hb;have H8:=Zz H8 (by repeat (first | exact K9.refl | refine K9.set ?_ _ _)) (by go_size) hb;obtain⟨hc,hf,hC,hF,hz,hk,l0⟩:=bk1 (w:=wr) hb;clear hb)
      | (go_at_call 139;refine(QM (⟨3,xo,H2,H1,H0,h6,(opI h5 d e),H6,H5,h9,(opI h7 d e),H4,H3,h4⟩:FN) _ hs).mono ?_;rintro z w1 ⟨rfl,hb⟩;rw[G3.out];have H7:=Yi H7 (by repeat (first | exact K9.refl | refine K9.set ?_ _ _)) hb;have H8:=Zz H8 (by repeat (first | exact K9.refl | refine K9.set ?_ _ _)) (by go_size) hb;obtain⟨hc,hf,hC,hF,hz,hk,l0⟩:=bk1 (w:=wr) hb;clear hb)
      | (at_builtin;refine Zq _ rfl _ _ rfl u9 rfl w.heap.size ?hb k ys ?hw (⟨3,xo,H2,H1,H0,h6,(opI h5 d e),H6,H5,h9,(opI h7 d e),H4,H3,h4⟩:FN) KB kb _ _ rfl (B _ _) rfl (by omega) ?_))
     case hb=>have g5:=g0.out;have g4:=hz;(try simp only[World.size_alloc,World.size_setCell]);first | omega | go_size
     case hw=>exact Qd HW.out (by go_grown)
     intro v2 w2 hown2 hgrow2;have g7:Hid (FnPart w2 w.heap.size (ys++Qx (⟨3,xo,H2,H1,H0,h6,(opI h5 d e),H6,H5,h9,(opI h7 d e),H4,H3,h4⟩:FN) KB kb) (fun i=>QB (Zw d e) (Zv d e) (F i)) (k+1)):=Zp G2.out (Qd HW.out (by go_grown)) (HP.out.below (by go_grown)) (QU (Qd H7.out (by go_grown)) (by have:=g0.out;omega)) hgrow2;have g6:Hid (w2.ownsRow w.heap.size 177 14 v2 (k+1) (ys++Qx (⟨3,xo,H2,H1,H0,h6,(opI h5 d e),H6,H5,h9,(opI h7 d e),H4,H3,h4⟩:FN) KB kb)):=hown2;have g1:Hid (Below w.heap.size w w2):=Below.grown (Qb HB.out (by go_grown)) hgrow2 (by have g5:=g0.out;have g4:=hz;first | omega | go_size) (fun q hq=>(HW.out.lt q hq).1);clear hown2 hgrow2 HW HP HB;go_wp2_with fail
     go_roundw
     case rel=>exact⟨k+1,by omega,by go_num,⟨_,g6.out,g7.out⟩,g1.out⟩
     case measure=>simp[intOf];omega
    ·replace hA:=eq_false_of_ne_true hA;obtain⟨G8,G7⟩:=g3.1 (H rfl);obtain⟨X8,X7⟩:=g3.2 rfl;clear g3
     have G3:Hid (Qp (⟨3,xo,H2,H1,H0,h6,(opI h5 d e),H6,H5,h9,(opI h7 d e),H4,H3,h4⟩:FN)=false):=by
      show _=_;rw[Xw h6 (opI h5 d e) h9 (opI h7 d e) g9.out];exact hA
     have G2:Hid ((fun i=>QB (Zw d e) (Zv d e) (F i)) k=QY):=by
      refine HG.out.trans ?_;unfold QB;rw[nG (by show¬(3:Int)=2;decide),pS rfl];exact nG (fun h8=>by cases (hA.symm.trans h8:false=true))
     clear HG g9 hA
     go_wp2_with (first
      | (go_at_call 105;refine(ZQ _ _ _ _ _ (by assumption) G5).mono ?_;rintro z w1 ⟨rfl,hb⟩;have H7:=Yi H7 (by repeat (first | exact K9.refl | refine K9.set ?_ _ _)) hb;have H8:=Zz H8 (by repeat (first | exact K9.refl | refine K9.set ?_ _ _)) (by go_size) hb;obtain⟨hc,hf,hC,hF,hz,hk,l0⟩:=bk1 (w:=wr) hb;clear hb)
      | (go_at_call 139;refine(QM (⟨3,xo,H2,H1,H0,h6,(opI h5 d e),H6,H5,h9,(opI h7 d e),H4,H3,h4⟩:FN) _ hs).mono ?_;rintro z w1 ⟨rfl,hb⟩;rw[G3.out];have H7:=Yi H7 (by repeat (first | exact K9.refl | refine K9.set ?_ _ _)) hb;have H8:=Zz H8 (by repeat (first | exact K9.refl | refine K9.set ?_ _ _)) (by go_size) hb;obtain⟨hc,hf,hC,hF,hz,hk,l0⟩:=bk1 (w:=wr) hb;clear hb))
     refine(Yh _).mono ?_;rintro z w4 ⟨rfl,hb⟩;have x7:Hid (X9 wr.heap.size w4):=Zz H8 (by repeat (first | exact K9.refl | refine K9.set ?_ _ _)) (by go_size) hb;have k4:Below wr.heap.size wr w4:=Qb (by go_grown) hb;have z4:wr.heap.size+1<=w4.heap.size:=Nat.le_trans (by go_size) hb.size;have l4:wr.heap.size<w4.heap.size:=z4;clear hb hc hf hC hF e0 e1 e2 e3 e4 e5 e6 e7 e8 e9 x2 x1 x0 G9 f9 H7 H8
     go_wp2_with (first
      | (refine GS x7.out rfl _ _ rfl [f l 1,f l 0,f l 4,f l 3,D ⟨#[]⟩,f l 0,f l 0,t false,t false,f l 0,f l 0,t false,t false,C none 0 0] rfl rfl rfl rfl ?_;intro w5 hr5 hb5 hs5;have x8:Hid (w5.rangeAt wr.heap.size 0 [f l 1,f l 0,f l 4,f l 3,D ⟨#[]⟩,f l 0,f l 0,t false,t false,f l 0,f l 0,t false,t false,C none 0 0]):=hr5;have k5:Below wr.heap.size wr w5:=(k4.trans hb5);have z5:wr.heap.size+1<=w5.heap.size:=(by rw[hs5];exact z4);have l5:wr.heap.size<w5.heap.size:=z5;clear hr5 hb5 hs5)
      | (refine Bb x8.out rfl rfl _ rfl rfl ?_)
      | (at_builtin;refine Zq _ rfl _ _ rfl u9 rfl w.heap.size ?hb k ys ?hw QY none 0 _ _ rfl (B _ _) rfl (by omega) ?_))
     case hb=>have g5:=g0.out;have g4:=z5;(try simp only[World.size_alloc,World.size_setCell]);first | omega | go_size
     case hw=>exact Qd HW.out (by go_grown)
     intro v2 w2 hown2 hgrow2;have g7:Hid (FnPart w2 w.heap.size (ys++Qx QY none 0) (fun i=>QB (Zw d e) (Zv d e) (F i)) (k+1)):=Zp G2.out (Qd HW.out (by go_grown)) (HP.out.below (by go_grown)) (Je _ _) hgrow2;have g6:Hid (w2.ownsRow w.heap.size 177 14 v2 (k+1) (ys++Qx QY none 0)):=hown2;have g1:Hid (Below w.heap.size w w2):=Below.grown (Qb HB.out (by go_grown)) hgrow2 (by have g5:=g0.out;have g4:=z5;first | omega | go_size) (fun q hq=>(HW.out.lt q hq).1);clear hown2 hgrow2 HW HP HB;go_wp2_with fail
     go_roundw
     case rel=>exact⟨k+1,by omega,by go_num,⟨_,g6.out,g7.out⟩,g1.out⟩
     case measure=>simp[intOf];omega
   ·clear g3
    have G2:Hid ((fun i=>QB (Zw d e) (Zv d e) (F i)) k=(⟨xk,xo,H2,H1,H0,h6,h5,H6,H5,h9,h7,H4,H3,h4⟩:FN)):=by
     refine HG.out.trans ?_;unfold QB;rw[nG h2,nG h3]
    have n2:(xk==2)=false:=by simpa using h2
    have n3:(xk==3)=false:=by simpa using h3
    clear HG g9 h2 h3
    go_wp2_with (first
     | (at_builtin;refine Zq _ rfl _ _ rfl u9 rfl w.heap.size ?hb k ys ?hw (⟨xk,xo,H2,H1,H0,h6,h5,H6,H5,h9,h7,H4,H3,h4⟩:FN) KB kb _ _ rfl (Qsf (by simp)) rfl (by omega) ?_))
    case hb=>have g5:=g0.out;have g4:=z9;(try simp only[World.size_alloc,World.size_setCell]);first | omega | go_size
    case hw=>exact Qd HW.out (by go_grown)
    intro v2 w2 hown2 hgrow2;have g7:Hid (FnPart w2 w.heap.size (ys++Qx (⟨xk,xo,H2,H1,H0,h6,h5,H6,H5,h9,h7,H4,H3,h4⟩:FN) KB kb) (fun i=>QB (Zw d e) (Zv d e) (F i)) (k+1)):=Zp G2.out (Qd HW.out (by go_grown)) (HP.out.below (by go_grown)) (QU (Qd (K9.own (W':=w9.setCell ⟨wr.heap.size,13,none⟩ (C KB h4.length kb)) (K9.set K9.refl _ _) H7.out) (by go_grown)) (by have:=g0.out;omega)) hgrow2;have g6:Hid (w2.ownsRow w.heap.size 177 14 v2 (k+1) (ys++Qx (⟨xk,xo,H2,H1,H0,h6,h5,H6,H5,h9,h7,H4,H3,h4⟩:FN) KB kb)):=hown2;have g1:Hid (Below w.heap.size w w2):=Below.grown (Qb HB.out (by go_grown)) hgrow2 (by have g5:=g0.out;have g4:=z9;first | omega | go_size) (fun q hq=>(HW.out.lt q hq).1);clear hown2 hgrow2 HW HP HB;go_wp2_with fail
    go_roundw
    case rel=>exact⟨k+1,by omega,by go_num,⟨_,g6.out,g7.out⟩,g1.out⟩
    case measure=>simp[intOf];omega
  ·have h1: ¬(k:Int)<(n:Int):=by omega
   obtain rfl:k=n:=by omega
   go_wp2_with fail
   go_ret;first | exact⟨_,rfl,ys,HW.out,HP.out,HB.out⟩ | exact⟨_,ys,rfl,HW.out,HP.out,HB.out⟩ | exact⟨ys,HW.out,HP.out,HB.out⟩
theorem Qm4{g:Nat}{o:Obj}(h:g=W.heap.size):(W.alloc o).heap[g]? =some o:=by
 subst h;exact B _ _
theorem Qdc{r d e:Int}(h: ¬(d<=r/\r<=d+e-1)):clI r d e (d-1)=clI r d e d:=by
 unfold clI;by_cases h1:d+e<=r
 ·rw[pS h1,pS h1]
 ·rw[nG h1,nG h1,nG (by omega),nG (by omega)]
theorem Qdd{r d e:Int}(o:Int)(h:d<=r/\r<=d+e-1):clI r d e o=o:=by
 unfold clI;rw[nG (by omega),pS h.1]
theorem Qjr(c d:Int):Ql c d c (d-1)=false:=by
 unfold Ql;rw[show decide (c<=c/\d<=d-1)=false from decide_eq_false (by omega),Bool.and_false]
theorem Gh(d e:Int)(w:World)(h:FnRowS w A n F)(hkn: ∀i,i<n->(F i).kids.length<=1048576)(hno: ∀i,i<n->Qp (F i)=true)(hn60:n<=60)(hdq:1<=d/\d<=99)(he:1<=e/\e<=99):
  Calls prog 108 #[C A n cap,f l d,f l e,t true] w fun z w'=> ∃v ys,z= I v/\w'.ownsRow w.heap.size 177 14 v n ys/\FnPart w' w.heap.size ys (fun i=>QB (Zi d e) (Zh d e) (F i)) n/\Below w.heap.size w w':=by
 have HR:Hid (FnRowS w A n F):=h;have y5:Hid (∀i,i<n->(F i).kids.length<=1048576):=hkn;have y4:Hid (∀i,i<n->Qp (F i)=true):=hno;have G8: -1000<=d/\d<=1000:=by omega
 have he': -1000<=e/\e<=1000:=by omega
 have G7:0<=e/\e<=1000:=by omega
 have hw1:IntKind.i64.wrap (d+e)=d+e:=by rw[E];omega
 have hw2:IntKind.i64.wrap (d+e-1)=d+e-1:=by rw[E];omega
 have hw3:IntKind.i64.wrap (d-1)=d-1:=by rw[E];omega
 clear h hkn hno;go_enter func108,ntmps108;go_wp2_with fail
 have HV:Hid ((w.alloc (J #[] 177)).ownsRow w.heap.size 177 14 (C (some ⟨w.heap.size,0,none⟩) 0 0) 0 []):=Zt (Nat.le_refl _) rfl;have g2:Hid (Below w.heap.size w (w.alloc (J #[] 177))):=by show Below _ _ _;go_grown
 go_loopw [9,10] (fun v i wr=> ∃k:Nat,k<=n/\i= f l k/\(∃ys,wr.ownsRow w.heap.size 177 14 v k ys/\FnPart wr w.heap.size ys (fun i=>QB (Zi d e) (Zh d e) (F i)) k)/\Below w.heap.size w wr) (fun _ i _=>n-(intOf i).toNat)
 case atStart=>exact⟨0,Nat.zero_le _,rfl,⟨[],HV.out,fun i hi=>by omega⟩,g2.out⟩
 case round=>
  clear HV g2;obtain⟨k,hk,rfl,⟨ys,G6,X4⟩,g6⟩:=hrel;have HW:Hid (wr.ownsRow w.heap.size 177 14 u9 k ys):=G6;have HP:Hid (FnPart wr w.heap.size ys (fun i=>QB (Zi d e) (Zh d e) (F i)) k):=X4;have HB:Hid (Below w.heap.size w wr):=g6;have g1:Hid (w.heap.size<=wr.heap.size):=g6.size;clear G6 X4
  by_cases x8:k<n
  ·obtain⟨b,o,KA,kc,rfl,hl,X5,X6,hs,X7⟩:=HR.out.2 k x8;obtain⟨c0,c1,c2,c3,c4,c5,c6,c7,c8,c9,X3,X2,X1,X0⟩:=X5.below hl (W':=wr) g6;have G2:=y4.out k x8;have G3:=y5.out k x8;have G4:=X6.below (W':=wr) g6;have hl2:b<wr.heap.size:=Nat.lt_of_lt_of_le hl g1.out;have h0:(0:Int)<=(k:Int):=by omega
   have h1:(k:Int)<(n:Int):=by omega
   obtain⟨x,HX⟩: ∃x,Hid (F k=x):=⟨_,rfl⟩;have HG:Hid ((fun i=>QB (Zi d e) (Zh d e) (F i)) k=QB (Zi d e) (Zh d e) x):=by show QB _ _ (F k)=_;rw[HX.out]
   rw[HX.out]at c0 c1 c2 c3 c4 c5 c6 c7 c8 c9 X3 X2 X1 X0 G2 G3 G4 hs;obtain⟨xk,xo,H5,H4,H3,h6,h5,H9,H8,H0,h7,H7,H6,h4⟩:=x;simp only at c0 c1 c2 c3 c4 c5 c6 c7 c8 c9 X3 X2 X1 X0 G3 G4 hs;have G1:Hid (Qp ⟨xk,xo,H5,H4,H3,h6,h5,H9,H8,H0,h7,H7,H6,h4⟩=true):=G2;have y6:Hid (h4.length<=1048576):=G3;have X8:Hid (IntRow wr KA h4):=G4;have y0:Hid (KA=none->kc=0):=X7
   have g3:=Vo G2;clear G2 G3 G4 X7 X5 X6 g6 HX;go_wp2_with (at_builtin;refine Vb _ rfl _ _ rfl (C (some ⟨wr.heap.size+1,0,none⟩) 0 0) rfl (wr.heap.size+1) ?kb ?kn rfl y0.out ?ki y6.out ?_)
   case kn=>exact Zt (by go_size) (by go_size)
   case ki=>exact X8.out.below (by go_grown)
   intro KB kb w9 hown9 hgrow9;have g0:=(Below.refl (wr.heap.size+1) _).grown hgrow9 (by go_size) (fun k hk=>by cases hk;exact Nat.le_refl _);have e0:w9.cell? ⟨wr.heap.size,0,none⟩=some (f l xk):=(g0.cell (p:=⟨wr.heap.size,0,none⟩) (Nat.lt_succ_self _)).trans (by simp[go_sem]);have e1:w9.cell? ⟨wr.heap.size,1,none⟩=some (f l xo):=(g0.cell (p:=⟨wr.heap.size,1,none⟩) (Nat.lt_succ_self _)).trans (by simp[go_sem]);have e2:w9.cell? ⟨wr.heap.size,2,none⟩=some (f l H5):=(g0.cell (p:=⟨wr.heap.size,2,none⟩) (Nat.lt_succ_self _)).trans (by simp[go_sem]);have e3:w9.cell? ⟨wr.heap.size,3,none⟩=some (f l H4):=(g0.cell (p:=⟨wr.heap.size,3,none⟩) (Nat.lt_succ_self _)).trans (by simp[go_sem]);have e4:w9.cell? ⟨wr.heap.size,4,none⟩=some (D H3):=(g0.cell (p:=⟨wr.heap.size,4,none⟩) (Nat.lt_succ_self _)).trans (by simp[go_sem])
   have e5:w9.cell? ⟨wr.heap.size,5,none⟩=some (f l h6):=(g0.cell (p:=⟨wr.heap.size,5,none⟩) (Nat.lt_succ_self _)).trans (by simp[go_sem]);have e6:w9.cell? ⟨wr.heap.size,6,none⟩=some (f l h5):=(g0.cell (p:=⟨wr.heap.size,6,none⟩) (Nat.lt_succ_self _)).trans (by simp[go_sem]);have e7:w9.cell? ⟨wr.heap.size,7,none⟩=some (t H9):=(g0.cell (p:=⟨wr.heap.size,7,none⟩) (Nat.lt_succ_self _)).trans (by simp[go_sem]);have e8:w9.cell? ⟨wr.heap.size,8,none⟩=some (t H8):=(g0.cell (p:=⟨wr.heap.size,8,none⟩) (Nat.lt_succ_self _)).trans (by simp[go_sem]);have e9:w9.cell? ⟨wr.heap.size,9,none⟩=some (f l H0):=(g0.cell (p:=⟨wr.heap.size,9,none⟩) (Nat.lt_succ_self _)).trans (by simp[go_sem]);have x7:w9.cell? ⟨wr.heap.size,10,none⟩=some (f l h7):=(g0.cell (p:=⟨wr.heap.size,10,none⟩) (Nat.lt_succ_self _)).trans (by simp[go_sem]);have x6:w9.cell? ⟨wr.heap.size,11,none⟩=some (t H7):=(g0.cell (p:=⟨wr.heap.size,11,none⟩) (Nat.lt_succ_self _)).trans (by simp[go_sem])
   have x5:w9.cell? ⟨wr.heap.size,12,none⟩=some (t H6):=(g0.cell (p:=⟨wr.heap.size,12,none⟩) (Nat.lt_succ_self _)).trans (by simp[go_sem]);have x4:w9.cell? ⟨wr.heap.size,13,none⟩=some (C KA h4.length kc):=(g0.cell (p:=⟨wr.heap.size,13,none⟩) (Nat.lt_succ_self _)).trans (by simp[go_sem]);have f9: ∀j,j<14->w9.frozen? ⟨wr.heap.size,j,none⟩=false:=fun j hj=>(g0.frozen (p:=⟨wr.heap.size,j,none⟩) (Nat.lt_succ_self _)).trans (by simp[go_sem])
   have H1:Hid (X9 wr.heap.size w9):=fun j hj=>by
    have y1:j=0\/j=1\/j=2\/j=3\/j=4\/j=5\/j=6\/j=7\/j=8\/j=9\/j=10\/j=11\/j=12\/j=13:=by omega
    rcases y1 with rfl | rfl | rfl | rfl | rfl | rfl | rfl | rfl | rfl | rfl | rfl | rfl | rfl | rfl
    ·exact⟨_,e0,f9 _ hj⟩
    ·exact⟨_,e1,f9 _ hj⟩
    ·exact⟨_,e2,f9 _ hj⟩
    ·exact⟨_,e3,f9 _ hj⟩
    ·exact⟨_,e4,f9 _ hj⟩
    ·exact⟨_,e5,f9 _ hj⟩
    ·exact⟨_,e6,f9 _ hj⟩
    ·exact⟨_,e7,f9 _ hj⟩
    ·exact⟨_,e8,f9 _ hj⟩
    ·exact⟨_,e9,f9 _ hj⟩
    ·exact⟨_,x7,f9 _ hj⟩
    ·exact⟨_,x6,f9 _ hj⟩
    ·exact⟨_,x5,f9 _ hj⟩
    ·exact⟨_,x4,f9 _ hj⟩
   have z9:wr.heap.size+1<=w9.heap.size:=Nat.le_trans (by simp) g0.size;have l9:wr.heap.size<w9.heap.size:=z9;have k9:Below wr.heap.size wr w9:=Below.trans (by go_grown) (g0.mono (Nat.le_succ _));have H2:Hid (w9.ownsRow (wr.heap.size+1) 2 1 (C KB h4.length kb) h4.length (h4.map (Value.int .i64))):=hown9;clear hown9 hgrow9 g0 c0 c1 c2 c3 c4 c5 c6 c7 c8 c9 X3 X2 X1 X0 X8 y0;by_cases h2:xk=2
   ·subst h2;by_cases G0:d<=h5/\h5<=d+e-1
    ·have hA:Ql h6 (clI h5 d e d) h6 (clI h5 d e (d-1))=false:=by rw[Qdd _ G0,Qdd _ G0];exact Qjr _ _
     obtain⟨x3,x2⟩:=g3.1 (G rfl);clear g3
     have g9:Hid ((fun i=>QB (Zi d e) (Zh d e) (F i)) k=QY):=by
      refine HG.out.trans ?_;unfold QB;rw[pS rfl];exact nG (fun h8=>by cases (hA.symm.trans h8:false=true))
     have x1:Hid (decide (d<=h5/\h5<=d+e-1)=true):=decide_eq_true G0;clear G0;clear HG G1 hA
     go_wp2_with (first
      | (go_at_call 105;refine(Zm _ _ _ _ _ (by assumption) G7 G8).mono ?_;rintro z w1 ⟨rfl,hb⟩;have H2:=Yi H2 (by repeat (first | exact K9.refl | refine K9.set ?_ _ _)) hb;have H1:=Zz H1 (by repeat (first | exact K9.refl | refine K9.set ?_ _ _)) (by go_size) hb;obtain⟨hc,hf,hC,hF,hz,hk,l0⟩:=bk1 (w:=wr) hb;clear hb)
      | (go_at_call 102;refine(QG _ _ _ _).mono ?_;rintro z w3 ⟨rfl,hw⟩;subst w3;rw[x1.out]))
     refine(Yh _).mono ?_;rintro z w4 ⟨rfl,hb⟩;have G9:Hid (X9 wr.heap.size w4):=Zz H1 (by repeat (first | exact K9.refl | refine K9.set ?_ _ _)) (by go_size) hb;have k4:Below wr.heap.size wr w4:=Qb (by go_grown) hb;have z4:wr.heap.size+1<=w4.heap.size:=Nat.le_trans (by go_size) hb.size;have l4:wr.heap.size<w4.heap.size:=z4;clear hb hc hf hC hF e0 e1 e2 e3 e4 e5 e6 e7 e8 e9 x7 x6 x5 x4 f9 H2 H1
     go_wp2_with (first
      | (refine GS G9.out rfl _ _ rfl [f l 1,f l 0,f l 4,f l 3,D ⟨#[]⟩,f l 0,f l 0,t false,t false,f l 0,f l 0,t false,t false,C none 0 0] rfl rfl rfl rfl ?_;intro w5 hr5 hb5 hs5;have x0:Hid (w5.rangeAt wr.heap.size 0 [f l 1,f l 0,f l 4,f l 3,D ⟨#[]⟩,f l 0,f l 0,t false,t false,f l 0,f l 0,t false,t false,C none 0 0]):=hr5;have k5:Below wr.heap.size wr w5:=(k4.trans hb5);have z5:wr.heap.size+1<=w5.heap.size:=(by rw[hs5];exact z4);have l5:wr.heap.size<w5.heap.size:=z5;clear hr5 hb5 hs5)
      | (refine Bb x0.out rfl rfl _ rfl rfl ?_)
      | (at_builtin;refine Zq _ rfl _ _ rfl u9 rfl w.heap.size ?hb k ys ?hw QY none 0 _ _ rfl (B _ _) rfl (by omega) ?_))
     case hb=>have g5:=g1.out;have g4:=z5;(try simp only[World.size_alloc,World.size_setCell]);first | omega | go_size
     case hw=>exact Qd HW.out (by go_grown)
     intro v2 w2 hown2 hgrow2;have g8:Hid (FnPart w2 w.heap.size (ys++Qx QY none 0) (fun i=>QB (Zi d e) (Zh d e) (F i)) (k+1)):=Zp g9.out (Qd HW.out (by go_grown)) (HP.out.below (by go_grown)) (Je _ _) hgrow2;have g7:Hid (w2.ownsRow w.heap.size 177 14 v2 (k+1) (ys++Qx QY none 0)):=hown2;have g2:Hid (Below w.heap.size w w2):=Below.grown (Qb HB.out (by go_grown)) hgrow2 (by have g5:=g1.out;have g4:=z5;first | omega | go_size) (fun q hq=>(HW.out.lt q hq).1);clear hown2 hgrow2 HW HP HB;go_wp2_with fail
     go_roundw
     case rel=>exact⟨k+1,by omega,by go_num,⟨_,g7.out,g8.out⟩,g2.out⟩
     case measure=>simp[intOf];omega
    by_cases hA:Ql h6 (clI h5 d e d) h6 (clI h5 d e (d-1))=true
    ·obtain⟨x3,x2⟩:=g3.1 (G rfl);clear g3
     have G5:Hid (Qp (⟨2,xo,H5,H4,H3,h6,(clI h5 d e d),H9,H8,H0,h7,H7,H6,h4⟩:FN)=true):=by
      show _=_;rw[Xv h6 (clI h5 d e d) G1.out,<-Ja];exact(by have h9:=hA;rw[Qdc G0]at h9;exact h9)
     have g9:Hid ((fun i=>QB (Zi d e) (Zh d e) (F i)) k=(⟨2,xo,H5,H4,H3,h6,(clI h5 d e d),H9,H8,H0,h7,H7,H6,h4⟩:FN)):=by
      refine HG.out.trans ?_;unfold QB;rw[pS rfl];exact pS hA
     have x1:Hid (decide (d<=h5/\h5<=d+e-1)=false):=decide_eq_false G0;clear G0;clear HG G1 hA
     go_wp2_with (first
      | (go_at_call 105;refine(Zm _ _ _ _ _ (by assumption) G7 G8).mono ?_;rintro z w1 ⟨rfl,hb⟩;have H2:=Yi H2 (by repeat (first | exact K9.refl | refine K9.set ?_ _ _)) hb;have H1:=Zz H1 (by repeat (first | exact K9.refl | refine K9.set ?_ _ _)) (by go_size) hb;obtain⟨hc,hf,hC,hF,hz,hk,l0⟩:=bk1 (w:=wr) hb;clear hb)
      | (go_at_call 102;refine(QG _ _ _ _).mono ?_;rintro z w3 ⟨rfl,hw⟩;subst w3;rw[x1.out])
      | (go_at_call 139;refine(QM (⟨2,xo,H5,H4,H3,h6,(clI h5 d e d),H9,H8,H0,h7,H7,H6,h4⟩:FN) _ hs).mono ?_;rintro z w1 ⟨rfl,hb⟩;rw[G5.out];have H2:=Yi H2 (by repeat (first | exact K9.refl | refine K9.set ?_ _ _)) hb;have H1:=Zz H1 (by repeat (first | exact K9.refl | refine K9.set ?_ _ _)) (by go_size) hb;obtain⟨hc,hf,hC,hF,hz,hk,l0⟩:=bk1 (w:=wr) hb;clear hb)
      | (at_builtin;refine Zq _ rfl _ _ rfl u9 rfl w.heap.size ?hb k ys ?hw (⟨2,xo,H5,H4,H3,h6,(clI h5 d e d),H9,H8,H0,h7,H7,H6,h4⟩:FN) KB kb _ _ rfl (B _ _) rfl (by omega) ?_))
     case hb=>have g5:=g1.out;have g4:=hz;(try simp only[World.size_alloc,World.size_setCell]);first | omega | go_size
     case hw=>exact Qd HW.out (by go_grown)
     intro v2 w2 hown2 hgrow2;have g8:Hid (FnPart w2 w.heap.size (ys++Qx (⟨2,xo,H5,H4,H3,h6,(clI h5 d e d),H9,H8,H0,h7,H7,H6,h4⟩:FN) KB kb) (fun i=>QB (Zi d e) (Zh d e) (F i)) (k+1)):=Zp g9.out (Qd HW.out (by go_grown)) (HP.out.below (by go_grown)) (QU (Qd H2.out (by go_grown)) (by have:=g1.out;omega)) hgrow2;have g7:Hid (w2.ownsRow w.heap.size 177 14 v2 (k+1) (ys++Qx (⟨2,xo,H5,H4,H3,h6,(clI h5 d e d),H9,H8,H0,h7,H7,H6,h4⟩:FN) KB kb)):=hown2;have g2:Hid (Below w.heap.size w w2):=Below.grown (Qb HB.out (by go_grown)) hgrow2 (by have g5:=g1.out;have g4:=hz;first | omega | go_size) (fun q hq=>(HW.out.lt q hq).1);clear hown2 hgrow2 HW HP HB;go_wp2_with fail
     go_roundw
     case rel=>exact⟨k+1,by omega,by go_num,⟨_,g7.out,g8.out⟩,g2.out⟩
     case measure=>simp[intOf];omega
    ·replace hA:=eq_false_of_ne_true hA;obtain⟨x3,x2⟩:=g3.1 (G rfl);clear g3
     have G5:Hid (Qp (⟨2,xo,H5,H4,H3,h6,(clI h5 d e d),H9,H8,H0,h7,H7,H6,h4⟩:FN)=false):=by
      show _=_;rw[Xv h6 (clI h5 d e d) G1.out,<-Ja];exact(by have h9:=hA;rw[Qdc G0]at h9;exact h9)
     have g9:Hid ((fun i=>QB (Zi d e) (Zh d e) (F i)) k=QY):=by
      refine HG.out.trans ?_;unfold QB;rw[pS rfl];exact nG (fun h8=>by cases (hA.symm.trans h8:false=true))
     have x1:Hid (decide (d<=h5/\h5<=d+e-1)=false):=decide_eq_false G0;clear G0;clear HG G1 hA
     go_wp2_with (first
      | (go_at_call 105;refine(Zm _ _ _ _ _ (by assumption) G7 G8).mono ?_;rintro z w1 ⟨rfl,hb⟩;have H2:=Yi H2 (by repeat (first | exact K9.refl | refine K9.set ?_ _ _)) hb;have H1:=Zz H1 (by repeat (first | exact K9.refl | refine K9.set ?_ _ _)) (by go_size) hb;obtain⟨hc,hf,hC,hF,hz,hk,l0⟩:=bk1 (w:=wr) hb;clear hb)
      | (go_at_call 102;refine(QG _ _ _ _).mono ?_;rintro z w3 ⟨rfl,hw⟩;subst w3;rw[x1.out])
      | (go_at_call 139;refine(QM (⟨2,xo,H5,H4,H3,h6,(clI h5 d e d),H9,H8,H0,h7,H7,H6,h4⟩:FN) _ hs).mono ?_;rintro z w1 ⟨rfl,hb⟩;rw[G5.out];have H2:=Yi H2 (by repeat (first | exact K9.refl | refine K9.set ?_ _ _)) hb;have H1:=Zz H1 (by repeat (first | exact K9.refl | refine K9.set ?_ _ _)) (by go_size) hb;obtain⟨hc,hf,hC,hF,hz,hk,l0⟩:=bk1 (w:=wr) hb;clear hb))
     refine(Yh _).mono ?_;rintro z w4 ⟨rfl,hb⟩;have G9:Hid (X9 wr.heap.size w4):=Zz H1 (by repeat (first | exact K9.refl | refine K9.set ?_ _ _)) (by go_size) hb;have k4:Below wr.heap.size wr w4:=Qb (by go_grown) hb;have z4:wr.heap.size+1<=w4.heap.size:=Nat.le_trans (by go_size) hb.size;have l4:wr.heap.size<w4.heap.size:=z4;clear hb hc hf hC hF e0 e1 e2 e3 e4 e5 e6 e7 e8 e9 x7 x6 x5 x4 f9 H2 H1
     go_wp2_with (first
      | (refine GS G9.out rfl _ _ rfl [f l 1,f l 0,f l 4,f l 3,D ⟨#[]⟩,f l 0,f l 0,t false,t false,f l 0,f l 0,t false,t false,C none 0 0] rfl rfl rfl rfl ?_;intro w5 hr5 hb5 hs5;have x0:Hid (w5.rangeAt wr.heap.size 0 [f l 1,f l 0,f l 4,f l 3,D ⟨#[]⟩,f l 0,f l 0,t false,t false,f l 0,f l 0,t false,t false,C none 0 0]):=hr5;have k5:Below wr.heap.size wr w5:=(k4.trans hb5);have z5:wr.heap.size+1<=w5.heap.size:=(by rw[hs5];exact z4);have l5:wr.heap.size<w5.heap.size:=z5;clear hr5 hb5 hs5)
      | (refine Bb x0.out rfl rfl _ rfl rfl ?_)
      | (at_builtin;refine Zq _ rfl _ _ rfl u9 rfl w.heap.size ?hb k ys ?hw QY none 0 _ _ rfl (B _ _) rfl (by omega) ?_))
     case hb=>have g5:=g1.out;have g4:=z5;(try simp only[World.size_alloc,World.size_setCell]);first | omega | go_size
     case hw=>exact Qd HW.out (by go_grown)
     intro v2 w2 hown2 hgrow2;have g8:Hid (FnPart w2 w.heap.size (ys++Qx QY none 0) (fun i=>QB (Zi d e) (Zh d e) (F i)) (k+1)):=Zp g9.out (Qd HW.out (by go_grown)) (HP.out.below (by go_grown)) (Je _ _) hgrow2;have g7:Hid (w2.ownsRow w.heap.size 177 14 v2 (k+1) (ys++Qx QY none 0)):=hown2;have g2:Hid (Below w.heap.size w w2):=Below.grown (Qb HB.out (by go_grown)) hgrow2 (by have g5:=g1.out;have g4:=z5;first | omega | go_size) (fun q hq=>(HW.out.lt q hq).1);clear hown2 hgrow2 HW HP HB;go_wp2_with fail
     go_roundw
     case rel=>exact⟨k+1,by omega,by go_num,⟨_,g7.out,g8.out⟩,g2.out⟩
     case measure=>simp[intOf];omega
   by_cases h3:xk=3
   ·subst h3;clear h2;by_cases hA:Ql h6 (clI h5 d e d) H0 (clI h7 d e (d-1))=true
    ·obtain⟨x3,x2⟩:=g3.1 (H rfl);obtain⟨y3,y2⟩:=g3.2 rfl;clear g3
     have G5:Hid (Qp (⟨3,xo,H5,H4,H3,h6,(clI h5 d e d),H9,H8,H0,(clI h7 d e (d-1)),H7,H6,h4⟩:FN)=true):=by
      show _=_;rw[Xw h6 (clI h5 d e d) H0 (clI h7 d e (d-1)) G1.out];exact hA
     have g9:Hid ((fun i=>QB (Zi d e) (Zh d e) (F i)) k=(⟨3,xo,H5,H4,H3,h6,(clI h5 d e d),H9,H8,H0,(clI h7 d e (d-1)),H7,H6,h4⟩:FN)):=by
      refine HG.out.trans ?_;unfold QB;rw[nG (by show¬(3:Int)=2;decide),pS rfl];exact pS hA
     clear HG G1 hA
     go_wp2_with (first
      | (go_at_call 105;refine(Zm _ _ _ _ _ (by assumption) G7 G8).mono ?_;rintro z w1 ⟨rfl,hb⟩;have H2:=Yi H2 (by repeat (first | exact K9.refl | refine K9.set ?_ _ _)) hb;have H1:=Zz H1 (by repeat (first | exact K9.refl | refine K9.set ?_ _ _)) (by go_size) hb;obtain⟨hc,hf,hC,hF,hz,hk,l0⟩:=bk1 (w:=wr) hb;clear hb)
      | (go_at_call 139;refine(QM (⟨3,xo,H5,H4,H3,h6,(clI h5 d e d),H9,H8,H0,(clI h7 d e (d-1)),H7,H6,h4⟩:FN) _ hs).mono ?_;rintro z w1 ⟨rfl,hb⟩;rw[G5.out];have H2:=Yi H2 (by repeat (first | exact K9.refl | refine K9.set ?_ _ _)) hb;have H1:=Zz H1 (by repeat (first | exact K9.refl | refine K9.set ?_ _ _)) (by go_size) hb;obtain⟨hc,hf,hC,hF,hz,hk,l0⟩:=bk1 (w:=wr) hb;clear hb)
      | (at_builtin;refine Zq _ rfl _ _ rfl u9 rfl w.heap.size ?hb k ys ?hw (⟨3,xo,H5,H4,H3,h6,(clI h5 d e d),H9,H8,H0,(clI h7 d e (d-1)),H7,H6,h4⟩:FN) KB kb _ _ rfl (B _ _) rfl (by omega) ?_))
     case hb=>have g5:=g1.out;have g4:=hz;(try simp only[World.size_alloc,World.size_setCell]);first | omega | go_size
     case hw=>exact Qd HW.out (by go_grown)
     intro v2 w2 hown2 hgrow2;have g8:Hid (FnPart w2 w.heap.size (ys++Qx (⟨3,xo,H5,H4,H3,h6,(clI h5 d e d),H9,H8,H0,(clI h7 d e (d-1)),H7,H6,h4⟩:FN) KB kb) (fun i=>QB (Zi d e) (Zh d e) (F i)) (k+1)):=Zp g9.out (Qd HW.out (by go_grown)) (HP.out.below (by go_grown)) (QU (Qd H2.out (by go_grown)) (by have:=g1.out;omega)) hgrow2;have g7:Hid (w2.ownsRow w.heap.size 177 14 v2 (k+1) (ys++Qx (⟨3,xo,H5,H4,H3,h6,(clI h5 d e d),H9,H8,H0,(clI h7 d e (d-1)),H7,H6,h4⟩:FN) KB kb)):=hown2;have g2:Hid (Below w.heap.size w w2):=Below.grown (Qb HB.out (by go_grown)) hgrow2 (by have g5:=g1.out;have g4:=hz;first | omega | go_size) (fun q hq=>(HW.out.lt q hq).1);clear hown2 hgrow2 HW HP HB;go_wp2_with fail
     go_roundw
     case rel=>exact⟨k+1,by omega,by go_num,⟨_,g7.out,g8.out⟩,g2.out⟩
     case measure=>simp[intOf];omega
    ·replace hA:=eq_false_of_ne_true hA;obtain⟨x3,x2⟩:=g3.1 (H rfl);obtain⟨y3,y2⟩:=g3.2 rfl;clear g3
     have G5:Hid (Qp (⟨3,xo,H5,H4,H3,h6,(clI h5 d e d),H9,H8,H0,(clI h7 d e (d-1)),H7,H6,h4⟩:FN)=false):=by
      show _=_;rw[Xw h6 (clI h5 d e d) H0 (clI h7 d e (d-1)) G1.out];exact hA
     have g9:Hid ((fun i=>QB (Zi d e) (Zh d e) (F i)) k=QY):=by
      refine HG.out.trans ?_;unfold QB;rw[nG (by show¬(3:Int)=2;decide),pS rfl];exact nG (fun h8=>by cases (hA.symm.trans h8:false=true))
     clear HG G1 hA
     go_wp2_with (first
      | (go_at_call 105;refine(Zm _ _ _ _ _ (by assumption) G7 G8).mono ?_;rintro z w1 ⟨rfl,hb⟩;have H2:=Yi H2 (by repeat (first | exact K9.refl | refine K9.set ?_ _ _)) hb;have H1:=Zz H1 (by repeat (first | exact K9.refl | refine K9.set ?_ _ _)) (by go_size) hb;obtain⟨hc,hf,hC,hF,hz,hk,l0⟩:=bk1 (w:=wr) hb;clear hb)
      | (go_at_call 139;refine(QM (⟨3,xo,H5,H4,H3,h6,(clI h5 d e d),H9,H8,H0,(clI h7 d e (d-1)),H7,H6,h4⟩:FN) _ hs).mono ?_;rintro z w1 ⟨rfl,hb⟩;rw[G5.out];have H2:=Yi H2 (by repeat (first | exact K9.refl | refine K9.set ?_ _ _)) hb;have H1:=Zz H1 (by repeat (first | exact K9.refl | refine K9.set ?_ _ _)) (by go_size) hb;obtain⟨hc,hf,hC,hF,hz,hk,l0⟩:=bk1 (w:=wr) hb;clear hb))
     refine(Yh _).mono ?_;rintro z w4 ⟨rfl,hb⟩;have G9:Hid (X9 wr.heap.size w4):=Zz H1 (by repeat (first | exact K9.refl | refine K9.set ?_ _ _)) (by go_size) hb;have k4:Below wr.heap.size wr w4:=Qb (by go_grown) hb;have z4:wr.heap.size+1<=w4.heap.size:=Nat.le_trans (by go_size) hb.size;have l4:wr.heap.size<w4.heap.size:=z4;clear hb hc hf hC hF e0 e1 e2 e3 e4 e5 e6 e7 e8 e9 x7 x6 x5 x4 f9 H2 H1
     go_wp2_with (first
      | (refine GS G9.out rfl _ _ rfl [f l 1,f l 0,f l 4,f l 3,D ⟨#[]⟩,f l 0,f l 0,t false,t false,f l 0,f l 0,t false,t false,C none 0 0] rfl rfl rfl rfl ?_;intro w5 hr5 hb5 hs5;have x0:Hid (w5.rangeAt wr.heap.size 0 [f l 1,f l 0,f l 4,f l 3,D ⟨#[]⟩,f l 0,f l 0,t false,t false,f l 0,f l 0,t false,t false,C none 0 0]):=hr5;have k5:Below wr.heap.size wr w5:=(k4.trans hb5);have z5:wr.heap.size+1<=w5.heap.size:=(by rw[hs5];exact z4);have l5:wr.heap.size<w5.heap.size:=z5;clear hr5 hb5 hs5)
      | (refine Bb x0.out rfl rfl _ rfl rfl ?_)
      | (at_builtin;refine Zq _ rfl _ _ rfl u9 rfl w.heap.size ?hb k ys ?hw QY none 0 _ _ rfl (B _ _) rfl (by omega) ?_))
     case hb=>have g5:=g1.out;have g4:=z5;(try simp only[World.size_alloc,World.size_setCell]);first | omega | go_size
     case hw=>exact Qd HW.out (by go_grown)
     intro v2 w2 hown2 hgrow2;have g8:Hid (FnPart w2 w.heap.size (ys++Qx QY none 0) (fun i=>QB (Zi d e) (Zh d e) (F i)) (k+1)):=Zp g9.out (Qd HW.out (by go_grown)) (HP.out.below (by go_grown)) (Je _ _) hgrow2;have g7:Hid (w2.ownsRow w.heap.size 177 14 v2 (k+1) (ys++Qx QY none 0)):=hown2;have g2:Hid (Below w.heap.size w w2):=Below.grown (Qb HB.out (by go_grown)) hgrow2 (by have g5:=g1.out;have g4:=z5;first | omega | go_size) (fun q hq=>(HW.out.lt q hq).1);clear hown2 hgrow2 HW HP HB;go_wp2_with fail
     go_roundw
     case rel=>exact⟨k+1,by omega,by go_num,⟨_,g7.out,g8.out⟩,g2.out⟩
     case measure=>simp[intOf];omega
   ·clear g3
    have g9:Hid ((fun i=>QB (Zi d e) (Zh d e) (F i)) k=(⟨xk,xo,H5,H4,H3,h6,h5,H9,H8,H0,h7,H7,H6,h4⟩:FN)):=by
     refine HG.out.trans ?_;unfold QB;rw[nG h2,nG h3]
    have n2:(xk==2)=false:=by simpa using h2
    have n3:(xk==3)=false:=by simpa using h3
    clear HG G1 h2 h3
    go_wp2_with (first
     | (at_builtin;refine Zq _ rfl _ _ rfl u9 rfl w.heap.size ?hb k ys ?hw (⟨xk,xo,H5,H4,H3,h6,h5,H9,H8,H0,h7,H7,H6,h4⟩:FN) KB kb _ _ rfl (Qm4 (by simp)) rfl (by omega) ?_))
    case hb=>have g5:=g1.out;have g4:=z9;(try simp only[World.size_alloc,World.size_setCell]);first | omega | go_size
    case hw=>exact Qd HW.out (by go_grown)
    intro v2 w2 hown2 hgrow2;have g8:Hid (FnPart w2 w.heap.size (ys++Qx (⟨xk,xo,H5,H4,H3,h6,h5,H9,H8,H0,h7,H7,H6,h4⟩:FN) KB kb) (fun i=>QB (Zi d e) (Zh d e) (F i)) (k+1)):=Zp g9.out (Qd HW.out (by go_grown)) (HP.out.below (by go_grown)) (QU (Qd (K9.own (W':=w9.setCell ⟨wr.heap.size,13,none⟩ (C KB h4.length kb)) (K9.set K9.refl _ _) H2.out) (by go_grown)) (by have:=g1.out;omega)) hgrow2;have g7:Hid (w2.ownsRow w.heap.size 177 14 v2 (k+1) (ys++Qx (⟨xk,xo,H5,H4,H3,h6,h5,H9,H8,H0,h7,H7,H6,h4⟩:FN) KB kb)):=hown2;have g2:Hid (Below w.heap.size w w2):=Below.grown (Qb HB.out (by go_grown)) hgrow2 (by have g5:=g1.out;have g4:=z9;first | omega | go_size) (fun q hq=>(HW.out.lt q hq).1);clear hown2 hgrow2 HW HP HB;go_wp2_with fail
    go_roundw
    case rel=>exact⟨k+1,by omega,by go_num,⟨_,g7.out,g8.out⟩,g2.out⟩
    case measure=>simp[intOf];omega
  ·have h1: ¬(k:Int)<(n:Int):=by omega
   obtain rfl:k=n:=by omega
   go_wp2_with fail
   go_ret;first | exact⟨_,rfl,ys,HW.out,HP.out,HB.out⟩ | exact⟨_,ys,rfl,HW.out,HP.out,HB.out⟩ | exact⟨ys,HW.out,HP.out,HB.out⟩
end Go.Proofs.YtomadadmakdkgaaGreatDoor
