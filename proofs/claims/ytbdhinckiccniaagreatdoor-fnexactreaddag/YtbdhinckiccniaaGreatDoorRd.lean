import Derived.Test.YtbdhinckiccniaaGreatDoorMn
import Derived.Test.YtbdhinckiccniaaGreatDoorRb
set_option linter.unusedSimpArgs false
set_option linter.unusedVariables false
set_option maxHeartbeats 8000000
set_option maxRecDepth 100000
namespace Go.Proofs.YtbdhinckiccniaaGreatDoor
open Go.RowKit Go.Maps
theorem Gu{b:Nat}{q:RQ}{v1 v2:Value}{ys:List Value}(s:ByteArray)(w:World)(h:DqP w b b q v1 v2 ys)(hs:s.size≤1048576)(hnv:q.vs.length≤1048576)(hg:GI w):Calls Tryz.prog 76 #[.pointer (some ⟨b,0,none⟩),.string s] w fun e w'=>
  PostL b ((Qk s.data.toList).map fun p=>⟨q.next,q.bl,q.vs++ [⟨p.1,p.2,[]⟩]⟩) w e w':=by
 have D:Hid (DqP w b b q v1 v2 ys):=h;have HG:Hid (GI w):=hg;have hbz:b<w.heap.size:=h.le.2;clear h hg;obtain⟨sp,HSP⟩: ∃y,Hid (spl s.data.toList=y):=⟨_,rfl⟩;obtain⟨n,HN⟩: ∃y,Hid (sp.length=y):=⟨_,rfl⟩
 have HSZ:Hid (n≤1048577∧ ∀x∈sp,x.length≤1048576):=by
  have h9:=Qj0 s.data.toList;have h8:s.data.toList.length=s.size:=by simp
  rw[HSP.out,h8]at h9;exact⟨by rw[←HN.out];omega,fun x hx=>Nat.le_trans (h9.2 x hx) hs⟩
 have HN1:Hid (1≤n):=by rw[←HN.out,←HSP.out];exact Qqt _
 go_enter Tryz.func76,Tryz.ntmps76;go_wp2_with fail
 refine(Qdm s _ hs HG.out).mono ?_;rintro e u1 ⟨rfl,hw1⟩;rw[HSP.out,HN.out];rw[HSP.out]at hw1;have HB1:Hid (Below w.heap.size w u1):=by rw[hw1];exact(Below.refl _ _).alloc (Nat.le_refl _) _
 have hz1:w.heap.size<u1.heap.size:=by rw[hw1];simp
 have HC:Hid (∀(k:Nat) x,sp[k]? =some x→u1.cell? ⟨w.heap.size,k,none⟩=some (.string (bs x))):=fun k x hx=>by
  rw[hw1];have:(sp.map fun l=>Value.string (bs l))[k]? =some (.string (bs x)):=by rw[List.getElem?_map,hx];rfl
  have h9:=World.news_of_block (heap_alloc_new w (.cells (sp.map fun l=>Value.string (bs l)).toArray 9)) k (.string (bs x)) (by simpa using this)
  have e9:(⟨w.heap.size,0,none⟩:Addr).add k=⟨w.heap.size,k,none⟩:=by
   rcases Nat.eq_zero_or_pos k with rfl | hk
   ·rfl
   ·simp[Addr.add,Nat.ne_of_gt hk]
  rw[e9]at h9;exact h9
 clear hw1;go_wp2_with fail
 go_loopw [5,13] (fun v i wr=> ∃(k:Nat) (t:List Int),k≤n∧i= .int .i64 k∧Qn Yt (sp.take k)=some t∧t.length=k∧wr.ownsRow u1.heap.size 2 1 v k (t.map (Value.int .i64))∧Below u1.heap.size u1 wr) (fun _ i _=>n-(intOf i).toNat)
 case atStart=>exact⟨0,[],Nat.zero_le _,rfl,rfl,rfl,World.ownsRow_nil _ _ _ _,Below.refl _ _⟩
 case round=>
  obtain⟨k,t,hk,rfl,hnm,htl,how,hby⟩:=hrel;have HNM:Hid (Qn Yt (sp.take k)=some t):=hnm
  have HBY:Hid (Below u1.heap.size u1 wr):=hby
  have hk0:(0:Int)≤(k:Int):=by omega
  by_cases hlt:k<n
  ·obtain⟨x,hx⟩: ∃x,sp[k]? =some x:=⟨_,List.getElem?_eq_getElem (by rw[HN.out];exact hlt)⟩;have d0:wr.cell? ⟨w.heap.size,k,none⟩=some (.string (bs x)):=(hby.cell (p:=⟨w.heap.size,k,none⟩) hz1).trans (HC.out k x hx);have HNX:Hid (Qn Yt (sp.take (k+1))=(Yt x).map fun a=>t++ [a]):=Qdl hnm hx;have HXZ:Hid ((bs x).size≤1048576):=by rw[Qj];exact HSZ.out.2 x (List.mem_of_getElem? hx)
   have hk1:(k:Int)<(n:Int):=by omega
   have hwz:w.heap.size<wr.heap.size:=Nat.lt_of_lt_of_le hz1 hby.size;obtain⟨A,cap,rfl,_,_⟩:=Qo how;have HOW:Hid (wr.ownsRow u1.heap.size 2 1 (.slice A k cap) k (t.map (Value.int .i64))):=how
   clear hx hnm how hby
   go_wp2_with fail
   refine(QC (bs x) _ HXZ.out (HG.out.below (HB1.out.trans (HBY.out.mono (Nat.le_of_lt hz1))))).mono ?_;rintro e x1 ⟨rfl,hb⟩;rw[Qnt];replace HBY:=hd (Qc HBY.out hb);replace HOW:=hd (Qf HOW.out hb);clear hb d0;cases hr:Yt x with
   | none=>
    have HF:Hid (Qk s.data.toList=none):=by
     show _=_;unfold Qk Qke;rw[HSP.out,Ml sp (k+1) (by rw[HNX.out,hr];rfl)];rfl
    clear hr;go_wp2_with fail
    refine bodyPost_ret (v:= .bool false) ?_ rfl (PostL.no (by rw[HF.out];rfl) (KpQ.of_below (HB1.out.trans (HBY.out.mono (Nat.le_of_lt hz1)))) rfl);simp (maxDischargeDepth:=9) [results,Tryz.results76,go_sem, *]
   | some a=>
    have HNY:Hid (Qn Yt (sp.take (k+1))=some (t++ [a])):=by rw[HNX.out,hr];exact(rfl:_=_)
    have hkz:k≤1099511627776:=by have:=HSZ.out.1;omega
    have hz8:u1.heap.size≤x1.heap.size:=HBY.out.size;clear hr
    go_wp2_with (first
     | (at_builtin;refine YK rfl _ _ rfl u1.heap.size (.slice A k cap) k t rfl (HOW.out.alloc _) a x1.heap.size rfl (by simp[go_sem, *]) (by omega) (by simp;omega) ?_)
     | fail)
    intro g7 c7 w7 ho hg;have B7:Hid (Below u1.heap.size u1 w7):=(HBY.out.alloc hz8 _).grown hg (by simp;omega) (fun j hj=>(HOW.out.lt j hj).1);have O7:Hid (w7.ownsRow u1.heap.size 2 1 (.slice (some ⟨g7,0,none⟩) (k+1) c7) (k+1) ((t++ [a]).map (Value.int .i64))):=by show World.ownsRow _ _ _ _ _ _ _;rw[List.map_append];exact ho
    clear ho hg;go_wp2_with fail
    go_roundw
    case rel=>exact⟨k+1,t++ [a],by omega,by go_num,HNY.out,by rw[List.length_append,htl];rfl,O7.out,B7.out⟩
    case measure=>simp[intOf];omega
  ·obtain rfl:k=n:=by omega
   rw[←HN.out,List.take_length]at hnm;have HNA:Hid (Qn Yt sp=some t):=hnm
   obtain⟨a,r,htr⟩: ∃a r,t=a::r:=by
    cases t with
    | nil=>have:=HN1.out;simp at htl;omega
    | cons a r=>exact⟨a,r,rfl⟩
   subst htr;obtain⟨A,cap,rfl,hkm,hcc⟩:=Qo how;obtain⟨g,rfl,hgb,hgz,d0,_⟩:=hcc 0 (by have:=HN1.out;omega);have HOW:Hid (wr.ownsRow u1.heap.size 2 1 (.slice (some ⟨g,0,none⟩) k cap) k ((a::r).map (Value.int .i64))):=how
   have HCP:Hid (k≤cap):=by
    rcases how.2 with⟨e9,_⟩ | ⟨g',cap',cur,e9,_,_,h9,_⟩
    ·cases e9
    ·cases e9;exact h9
   have HQ:Hid (((Qk s.data.toList).map fun p=>(⟨q.next,q.bl,q.vs++ [⟨p.1,p.2,[]⟩]⟩:RQ))=some ⟨q.next,q.bl,q.vs++ [⟨a,r,[]⟩]⟩):=by
    show _=_;unfold Qk Qke;rw[HSP.out,HNA.out];rfl
   have HRL:Hid (r.length+1=k):=by show r.length+1=k;simpa using htl
   have DR:=hd (D.out.below (HB1.out.trans (HBY.out.mono (Nat.le_of_lt hz1))));have KW:Hid (Below w.heap.size w wr):=HB1.out.trans (HBY.out.mono (Nat.le_of_lt hz1));have HGB:Hid (u1.heap.size≤g):=hgb;have hk1: ¬(k:Int)<(k:Int):=by omega
   clear hnm how hby hcc hk htl hlt;go_upto_region 10 with fail
   obtain⟨r1,HR1⟩: ∃r,Hid (wr.drew=r):=⟨_,rfl⟩;have hb:Below wr.heap.size wr r1:=by rw[←HR1.out];exact(Below.refl _ _).drew
   have DR1:=hd (DR.out.below hb);have KR1:=hd (Qc KW.out hb);have OR1:=hd (Qf HOW.out hb);have S1V:Hid (r1.cell? ⟨g,0,none⟩=some (.int .i64 a)∧b<r1.heap.size∧g<r1.heap.size):=⟨cy hb d0,Nat.lt_of_lt_of_le DR.out.le.2 hb.size,Nat.lt_of_lt_of_le hgz hb.size⟩;have C1:Hid (r1.cell? ⟨b,1,none⟩=some v1):=DR1.out.box.cellAt 1 (by decide);have q1:(1:Int)≤(k:Int):=by have:=HN1.out;omega
   have q2:(0:Int)<(k:Int):=by have:=HN1.out;omega
   have q3:(k:Int)≤(cap:Int):=by have:=HCP.out;omega
   have q4:(1:Int)≤(cap:Int):=by omega
   have q5:0<k:=HN1.out;have q6:1≤cap:=by omega
   clear hb d0 hgz hgb hbz;refine wp_region_held_drew (S:=(fun w'=>w'.cell? ⟨g,0,none⟩=some (.int .i64 a)∧b<w'.heap.size∧g<w'.heap.size)) (by kernel_rfl) (by rw[HR1.out];exact S1V.out) (fun hHeld=> ?_);rw[HR1.out]at hHeld ⊢;clear HR1;refine tkA 0 ?_;refine tkB 1 ?_;refine tkA 2 ?_
   refine tkB 3 ?_;refine tkA 5 ?_;refine tkB 6 ?_;refine tkA 7 ?_;refine tkB 8 ?_;refine tkA 9 ?_;refine tkB 10 ?_
   refine rqB 4 11 (fun Kq hKq=> ?_) (fun Kq hKq=> ?_)
   ·have d9:=C1.out;go_simp;clear d9;refine hkB hKq (S1V.out) fun hHeld=> ?_;clear hKq Kq;refine rqA 11 (fun Kq hKq=> ?_);go_simp
    obtain⟨r2,HR2⟩: ∃r,Hid (r1.alloc (.cells #[.int .i64 a,.slice (if cap=1 then some ⟨g,0,none⟩else some ⟨g,1,none⟩) (k-1) (cap-1),.slice none 0 0] 72)=r):=⟨_,rfl⟩;rw[HR2.out];have hb:Below r1.heap.size r1 r2:=by rw[←HR2.out];exact(Below.refl _ _).alloc (Nat.le_refl _) _
    have S2V:Hid (r2.cell? ⟨g,0,none⟩=some (.int .i64 a)∧b<r2.heap.size∧g<r2.heap.size):=⟨cy hb S1V.out.1,Nat.lt_of_lt_of_le S1V.out.2.1 hb.size,Nat.lt_of_lt_of_le S1V.out.2.2 hb.size⟩;have C2:Hid (r2.cell? ⟨b,1,none⟩=some v1):=cy hb C1.out;have N0:Hid (r2.cell? ⟨r1.heap.size,0,none⟩=some (.int .i64 a)∧r2.cell? ⟨r1.heap.size,1,none⟩=some (MU g cap k)∧r2.cell? ⟨r1.heap.size,2,none⟩=some (.slice none 0 0)):=by rw[←HR2.out];unfold MU;refine⟨?_,?_,?_⟩<;>go_simp
    have DR2:=hd (DR1.out.below hb);have KR2:=hd (Qc KR1.out hb);have OR2:=hd (Qf OR1.out hb);clear hb HR2;refine hkB hKq (S2V.out) fun hHeld=> ?_;clear hKq Kq;refine rqA 12 (fun Kq hKq=> ?_)
    refine KI (by rfl) _ _ (by rfl) b v1 q.vs.length ys (by rfl) DR2.out.vr a (MU g cap k) (.slice none 0 0) rfl rfl r1.heap.size (by rfl) N0.out.1 N0.out.2.1 N0.out.2.2 (by omega) (Nat.le_of_lt DR2.out.le.2) ?_;intro A7 c7 r3 ho hg
    have hng:some g≠v1.ownBlock:=by
     rcases Qht OR2.out DR2.out.vr (by decide)with h9 | h9
     ·cases h9
     ·exact h9
    have S3V:Hid (r3.cell? ⟨g,0,none⟩=some (.int .i64 a)∧b<r3.heap.size∧g<r3.heap.size):=⟨hg.cell S2V.out.1 hng,Nat.lt_of_lt_of_le S2V.out.2.1 hg.size,Nat.lt_of_lt_of_le S2V.out.2.2 hg.size⟩;have hbx:=DR2.out.boxVr hg;have K3:Hid (r3.cell? ⟨b,1,none⟩=some v1∧r3.frozen? ⟨b,1,none⟩=false):=⟨hbx.cellAt 1 (by decide),hbx.frozenAt 1⟩
    have D4:Hid (DqP (r3.setCell ⟨b,1,none⟩ (.slice A7 (q.vs.length+1) c7)) b b ⟨q.next,q.bl,q.vs++ [⟨a,r,[]⟩]⟩ (.slice A7 (q.vs.length+1) c7) v2 (ys++ [.int .i64 a,MU g cap k,.slice none 0 0])):=by
     have hu:UpO r2 u1.heap.size (MU g cap k) r:=Qfq OR2.out;exact DR2.out.setVr hg ho (hu.mono (by have:=D.out.le.2;omega)) (D.out.fresh (Nat.le_of_lt hz1) (fun j hj=>by rw[Qdd hj];exact HGB.out))
    have KK:Hid (KpQ b w (r3.setCell ⟨b,1,none⟩ (.slice A7 (q.vs.length+1) c7))):=((KpQ.of_below KR2.out).trans (KpQ.own DR2.out.vr Qcg hg)).trans (KpQ.own hbx NT (hbx.stored 1 _).2);clear ho hg hbx hng;refine hkB hKq (S3V.out) fun hHeld=> ?_;clear hKq Kq;refine tkA 13 ?_;refine tkB 14 ?_;refine rqA 15 (fun Kq hKq=> ?_)
    have d9:=K3.out.1;have f9:=K3.out.2;go_simp;clear d9 f9;have S4V:Hid ((r3.setCell ⟨b,1,none⟩ (.slice A7 (q.vs.length+1) c7)).cell? ⟨g,0,none⟩=some (.int .i64 a)∧b<(r3.setCell ⟨b,1,none⟩ (.slice A7 (q.vs.length+1) c7)).heap.size∧g<(r3.setCell ⟨b,1,none⟩ (.slice A7 (q.vs.length+1) c7)).heap.size):=⟨(World.cell?_of_block (Below.heap_setCell _ _ _ _ (fun e=>by have:=HGB.out;have h8:=D.out.le.2;have:g=b:=e;omega))).trans S3V.out.1,by simpa using S3V.out.2.1,by simpa using S3V.out.2.2⟩;refine hkB hKq (S4V.out) fun hHeld=> ?_;clear hKq Kq
    refine wpAnyH_done (by kernel_rfl) ?_ _;clear hHeld;go_wp2_with fail
    all_goals
     refine bodyPost_ret (v:= .bool true) ?_ rfl (PostL.yes HQ.out KK.out rfl D4.out);simp (maxDischargeDepth:=9) [results,Tryz.results76,go_sem, *]
   ·go_simp;obtain⟨r2,HR2⟩: ∃r,Hid (r1.alloc (.cells #[.int .i64 a,.slice (if cap=1 then some ⟨g,0,none⟩else some ⟨g,1,none⟩) (k-1) (cap-1),.slice none 0 0] 72)=r):=⟨_,rfl⟩;rw[HR2.out];have hb:Below r1.heap.size r1 r2:=by rw[←HR2.out];exact(Below.refl _ _).alloc (Nat.le_refl _) _
    have S2V:Hid (r2.cell? ⟨g,0,none⟩=some (.int .i64 a)∧b<r2.heap.size∧g<r2.heap.size):=⟨cy hb S1V.out.1,Nat.lt_of_lt_of_le S1V.out.2.1 hb.size,Nat.lt_of_lt_of_le S1V.out.2.2 hb.size⟩;have C2:Hid (r2.cell? ⟨b,1,none⟩=some v1):=cy hb C1.out;have N0:Hid (r2.cell? ⟨r1.heap.size,0,none⟩=some (.int .i64 a)∧r2.cell? ⟨r1.heap.size,1,none⟩=some (MU g cap k)∧r2.cell? ⟨r1.heap.size,2,none⟩=some (.slice none 0 0)):=by rw[←HR2.out];unfold MU;refine⟨?_,?_,?_⟩<;>go_simp
    have DR2:=hd (DR1.out.below hb);have KR2:=hd (Qc KR1.out hb);have OR2:=hd (Qf OR1.out hb);clear hb HR2;refine hkB hKq (S2V.out) fun hHeld=> ?_;clear hKq Kq;refine rqA 4 (fun Kq hKq=> ?_)
    have d9:=C2.out;go_simp;clear d9;refine hkB hKq (S2V.out) fun hHeld=> ?_;clear hKq Kq;refine rqA 12 (fun Kq hKq=> ?_);refine KI (by rfl) _ _ (by rfl) b v1 q.vs.length ys (by rfl) DR2.out.vr a (MU g cap k) (.slice none 0 0) rfl rfl r1.heap.size (by rfl) N0.out.1 N0.out.2.1 N0.out.2.2 (by omega) (Nat.le_of_lt DR2.out.le.2) ?_
    intro A7 c7 r3 ho hg
    have hng:some g≠v1.ownBlock:=by
     rcases Qht OR2.out DR2.out.vr (by decide)with h9 | h9
     ·cases h9
     ·exact h9
    have S3V:Hid (r3.cell? ⟨g,0,none⟩=some (.int .i64 a)∧b<r3.heap.size∧g<r3.heap.size):=⟨hg.cell S2V.out.1 hng,Nat.lt_of_lt_of_le S2V.out.2.1 hg.size,Nat.lt_of_lt_of_le S2V.out.2.2 hg.size⟩;have hbx:=DR2.out.boxVr hg;have K3:Hid (r3.cell? ⟨b,1,none⟩=some v1∧r3.frozen? ⟨b,1,none⟩=false):=⟨hbx.cellAt 1 (by decide),hbx.frozenAt 1⟩
    have D4:Hid (DqP (r3.setCell ⟨b,1,none⟩ (.slice A7 (q.vs.length+1) c7)) b b ⟨q.next,q.bl,q.vs++ [⟨a,r,[]⟩]⟩ (.slice A7 (q.vs.length+1) c7) v2 (ys++ [.int .i64 a,MU g cap k,.slice none 0 0])):=by
     have hu:UpO r2 u1.heap.size (MU g cap k) r:=Qfq OR2.out;exact DR2.out.setVr hg ho (hu.mono (by have:=D.out.le.2;omega)) (D.out.fresh (Nat.le_of_lt hz1) (fun j hj=>by rw[Qdd hj];exact HGB.out))
    have KK:Hid (KpQ b w (r3.setCell ⟨b,1,none⟩ (.slice A7 (q.vs.length+1) c7))):=((KpQ.of_below KR2.out).trans (KpQ.own DR2.out.vr Qcg hg)).trans (KpQ.own hbx NT (hbx.stored 1 _).2);clear ho hg hbx hng;refine hkB hKq (S3V.out) fun hHeld=> ?_;clear hKq Kq;refine tkA 13 ?_;refine tkB 14 ?_;refine rqA 15 (fun Kq hKq=> ?_)
    have d9:=K3.out.1;have f9:=K3.out.2;go_simp;clear d9 f9;have S4V:Hid ((r3.setCell ⟨b,1,none⟩ (.slice A7 (q.vs.length+1) c7)).cell? ⟨g,0,none⟩=some (.int .i64 a)∧b<(r3.setCell ⟨b,1,none⟩ (.slice A7 (q.vs.length+1) c7)).heap.size∧g<(r3.setCell ⟨b,1,none⟩ (.slice A7 (q.vs.length+1) c7)).heap.size):=⟨(World.cell?_of_block (Below.heap_setCell _ _ _ _ (fun e=>by have:=HGB.out;have h8:=D.out.le.2;have:g=b:=e;omega))).trans S3V.out.1,by simpa using S3V.out.2.1,by simpa using S3V.out.2.2⟩;refine hkB hKq (S4V.out) fun hHeld=> ?_;clear hKq Kq
    refine wpAnyH_done (by kernel_rfl) ?_ _;clear hHeld;go_wp2_with fail
    all_goals
     refine bodyPost_ret (v:= .bool true) ?_ rfl (PostL.yes HQ.out KK.out rfl D4.out);simp (maxDischargeDepth:=9) [results,Tryz.results76,go_sem, *]
theorem Dn{b:Nat}{q:RQ}{v1 v2:Value}{ys:List Value}(nm src:ByteArray)(w:World)(h:DqP w b b q v1 v2 ys)(hs:nm.size≤1048576)(hnv:q.vs.length≤1048576)(hcs: ∀x∈q.vs,x.cs.length≤1048576)(hg:GI w):Calls Tryz.prog 77 #[.pointer (some ⟨b,0,none⟩),.string nm,.string src] w fun e w'=>
  PostL b ((QH nm.data.toList).bind fun p=>(Qb7 q.vs ⟨p.1,p.2,src⟩).map fun v=>⟨q.next,q.bl,v⟩) w e w':=by
 obtain⟨VA,vc,rfl,_,hcV⟩:=Qo h.vr;have D:Hid (DqP w b b q (.slice VA q.vs.length vc) v2 ys):=h;have HCV:Hid (∀j,j<q.vs.length*3→ ∃g,VA=some ⟨g,0,none⟩∧b≤g∧g<w.heap.size):=fun j hj=>by obtain⟨g,e1,e2,e3,_⟩:=hcV j hj;exact⟨g,e1,e2,e3⟩
 have HG:Hid (GI w):=hg;have HCS:Hid (∀x∈q.vs,x.cs.length≤1048576):=hcs;have hbz:b<w.heap.size:=h.le.2;have hbw:Hid (b<w.heap.size):=hbz;clear h hg hcV hcs;go_enter Tryz.func77,Tryz.ntmps77;go_wp2_with fail
 refine(Ux nm _ hs HG.out).mono ?_;rintro e x2 ⟨a,c,bx,bY,f,hp,rfl,hb⟩;have HB2:Hid (Below w.heap.size w x2):=hb;replace D:=hd (D.out.below hb);replace hbz:b<x2.heap.size:=Nat.lt_of_lt_of_le hbz hb.size;clear hb;obtain⟨nv,HNV⟩: ∃m,Hid (q.vs.length=m):=⟨_,rfl⟩
 go_upto_region 2 with fail
 obtain⟨Y,HY⟩: ∃Y,Hid (x2.alloc (.cells #[.int .i64 a,.int .i64 c,.bool bx,.bool bY] 74)=Y):=⟨_,rfl⟩;rw[HY.out];have pb0:Y.cell? ⟨x2.heap.size,0,none⟩=some (.int .i64 a):=by rw[←HY.out];go_simp
 have pb1:Y.cell? ⟨x2.heap.size,1,none⟩=some (.int .i64 c):=by rw[←HY.out];go_simp
 have zY:x2.heap.size<Y.heap.size:=by rw[←HY.out];simp
 have hb:Below x2.heap.size x2 Y:=by rw[←HY.out];exact(Below.refl _ _).alloc (Nat.le_refl _) _
 clear HY
 have HSB:Hid (∀k,(match ys[(q.vs.length-1)*3+2]? with | some v=>v.ownBlock | none=>none)=some k→k<x2.heap.size):=fun k hk=>by
  rcases List.eq_nil_or_concat q.vs with e9 | ⟨v0,xx,e9⟩
  ·have h8:=D.out.vr.1;rw[e9]at h8 hk;have:ys= []:=List.length_eq_zero_iff.1 (by simpa using h8);rw[this]at hk;cases hk
  ·rw[List.concat_eq_append]at e9;obtain⟨SA,sc,hsv⟩:=D.out.lastAt e9;have e8:q.vs.length-1=v0.length:=by rw[e9];simp
   rw[e8,hsv]at hk;exact((D.out.lastRow e9 hsv).lt k hk).2
 replace D:=hd (D.out.below hb);have KY:=hd (Qc HB2.out hb);replace hbz:b<Y.heap.size:=Nat.lt_of_lt_of_le hbz hb.size;clear hb;have c1:Y.cell? ⟨b,1,none⟩=some (.slice VA nv vc):=by rw[←HNV.out];exact D.out.box.cellAt 1 (by decide)
 rcases hp with⟨rfl,hp⟩ | ⟨rfl,hp⟩
 rotate_left
 ·have HF:Hid (((QH nm.data.toList).bind fun p=>(Qb7 q.vs ⟨p.1,p.2,src⟩).map fun v=>(⟨q.next,q.bl,v⟩:RQ))=none):=by show _=_;rw[hp];rfl
  clear hp;go_wp2_with fail
  refine bodyPost_ret (v:= .bool false) ?_ rfl (PostL.no HF.out (KpQ.of_below KY.out) rfl);simp (maxDischargeDepth:=9) [results,Tryz.results77,go_sem, *]
 have HP:Hid (QH nm.data.toList=some (a,c)):=hp;clear hp;by_cases hv:nv=0
 ·have HF:Hid (((QH nm.data.toList).bind fun p=>(Qb7 q.vs ⟨p.1,p.2,src⟩).map fun v=>(⟨q.next,q.bl,v⟩:RQ))=none):=by
   have e9:q.vs= []:=List.length_eq_zero_iff.1 (HNV.out.trans hv);show _=_;rw[HP.out,Option.bind_some,e9];rfl
  have q2:(nv:Int)=0:=by omega
  go_wp2_with fail
  refine bodyPost_ret (v:= .bool false) ?_ rfl (PostL.no HF.out (KpQ.of_below KY.out) rfl);simp (maxDischargeDepth:=9) [results,Tryz.results77,go_sem, *]
 rcases List.eq_nil_or_concat q.vs with e9 | ⟨v0,xx,e9⟩
 ·exact absurd (by rw[←HNV.out,e9];rfl) hv
 rw[List.concat_eq_append]at e9;have HV:Hid (q.vs=v0++ [xx]):=e9;obtain⟨m,HM⟩: ∃m,Hid (v0.length=m):=⟨_,rfl⟩;have hnm:nv=m+1:=by rw[←HNV.out,e9,←HM.out];simp
 have HQ:Hid (((QH nm.data.toList).bind fun p=>(Qb7 q.vs ⟨p.1,p.2,src⟩).map fun v=>(⟨q.next,q.bl,v⟩:RQ))=some ⟨q.next,q.bl,v0++ [⟨xx.id,xx.ups,xx.cs++ [⟨a,c,src⟩]⟩]⟩):=by
  show _=_;rw[HP.out,Option.bind_some,e9,Jx];rfl
 obtain⟨gv,eVA,hgb,hgz⟩:=HCV.out 0 (by rw[HNV.out];omega);subst eVA;obtain⟨nc,HNC⟩: ∃y,Hid (xx.cs.length=y):=⟨_,rfl⟩;obtain⟨SA,sc,hsv⟩:=D.out.lastAt e9;rw[HNC.out,HM.out]at hsv;have HSV:Hid (ys[m*3+2]? =some (.slice SA nc sc)):=hsv;have HLX:Hid (nc≤1048576):=by rw[←HNC.out];exact HCS.out xx (by rw[e9];simp)
 have HLM9:Hid (m<q.vs.length):=by rw[HNV.out];show m<nv;omega
 have hgy:gv<Y.heap.size:=Nat.lt_of_lt_of_le hgz KY.out.size;have hls:=D.out.lastRow e9 (by rw[HM.out];exact hsv);have NE2:Hid (some x2.heap.size≠(Value.slice SA nc sc).ownBlock):=fun e=>by have:=HSB.out x2.heap.size (by rw[show q.vs.length-1=m by rw[HNV.out];omega,hsv];exact e.symm);omega
 have NE4:Hid (x2.heap.size≠gv):=fun e=>by have:=HB2.out.size;omega
 have hnz:nv≤1048576:=by rw[←HNV.out];exact hnv
 have q1:IntKind.i64.wrap ((nv:Int)-1)=(m:Int):=by rw[IntKind.wrap_i64];omega
 have q2: ¬(nv:Int)=0:=by omega
 have q3:(0:Int)≤(m:Int):=by omega
 have q4:(m:Int)<(nv:Int):=by omega
 have q5: ¬(nv:Int)-1<0:=by omega
 have q6:m<nv:=by omega
 clear hsv hls hgz hgb e9 hnm;go_upto_region 4 with fail
 go_quiet (fail)
 go_upto_region 5 with fail
 obtain⟨r1,HR1⟩: ∃r,Hid ((Y.drewN nq).drew=r):=⟨_,rfl⟩;have hb:Below Y.heap.size Y r1:=by rw[←HR1.out];exact(Ug (Below.refl _ _) _).drew
 have DR1:=hd (D.out.below hb);have KR1:=hd (Qc KY.out hb);have S1V:Hid (r1.cell? ⟨x2.heap.size,0,none⟩=some (.int .i64 a)∧r1.cell? ⟨x2.heap.size,1,none⟩=some (.int .i64 c)∧b<r1.heap.size∧x2.heap.size<r1.heap.size∧gv<r1.heap.size):=⟨cy hb pb0,cy hb pb1,Nat.lt_of_lt_of_le hbz hb.size,Nat.lt_of_lt_of_le zY hb.size,Nat.lt_of_lt_of_le hgy hb.size⟩;have D1:Hid (r1.cell? ⟨gv,m*3+2,none⟩=some (.slice SA nc sc)):=(DR1.out.vr.cellAt (m*3+2) (by have:=HLM9.out;omega)).trans HSV.out;clear hb D c1 pb0 pb1 hbz zY hgy;refine wp_region_held_drew (S:=(fun w'=>w'.cell? ⟨x2.heap.size,0,none⟩=some (.int .i64 a)∧w'.cell? ⟨x2.heap.size,1,none⟩=some (.int .i64 c)∧b<w'.heap.size∧x2.heap.size<w'.heap.size∧gv<w'.heap.size)) (by kernel_rfl) (by rw[HR1.out];exact S1V.out) (fun hHeld=> ?_);rw[HR1.out]at hHeld ⊢
 clear HR1;refine tkA 0 ?_;refine tkB 1 ?_;refine tkA 2 ?_;refine tkB 3 ?_;refine tkA 5 ?_;refine tkB 6 ?_
 refine tkA 7 ?_;refine tkB 8 ?_;refine rqB 4 9 (fun Kq hKq=> ?_) (fun Kq hKq=> ?_)
 ·have d9:=D1.out;go_simp;clear d9;refine hkB hKq (S1V.out) fun hHeld=> ?_;clear hKq Kq;refine rqA 9 (fun Kq hKq=> ?_);go_simp
  obtain⟨r2,HR2⟩: ∃r,Hid (r1.alloc (.cells #[.int .i64 a,.int .i64 c,.string src] 37)=r):=⟨_,rfl⟩;rw[HR2.out];have hb:Below r1.heap.size r1 r2:=by rw[←HR2.out];exact(Below.refl _ _).alloc (Nat.le_refl _) _
  have S2V:Hid (r2.cell? ⟨x2.heap.size,0,none⟩=some (.int .i64 a)∧r2.cell? ⟨x2.heap.size,1,none⟩=some (.int .i64 c)∧b<r2.heap.size∧x2.heap.size<r2.heap.size∧gv<r2.heap.size):=⟨cy hb S1V.out.1,cy hb S1V.out.2.1,Nat.lt_of_lt_of_le S1V.out.2.2.1 hb.size,Nat.lt_of_lt_of_le S1V.out.2.2.2.1 hb.size,Nat.lt_of_lt_of_le S1V.out.2.2.2.2 hb.size⟩;have D2:Hid (r2.cell? ⟨gv,m*3+2,none⟩=some (.slice SA nc sc)):=cy hb D1.out;have N0:Hid (r2.cell? ⟨r1.heap.size,0,none⟩=some (.int .i64 a)∧r2.cell? ⟨r1.heap.size,1,none⟩=some (.int .i64 c)∧r2.cell? ⟨r1.heap.size,2,none⟩=some (.string src)):=by rw[←HR2.out];refine⟨?_,?_,?_⟩<;>go_simp
  have DR2:=hd (DR1.out.below hb);have KR2:=hd (Qc KR1.out hb);clear hb HR2;refine hkB hKq (S2V.out) fun hHeld=> ?_;clear hKq Kq;refine rqA 10 (fun Kq hKq=> ?_);have OS2:Hid (r2.ownsRow b 37 3 (.slice SA nc sc) nc (Za cqL xx.cs)):=by have h9:=DR2.out.lastRow HV.out (by rw[HM.out];exact HSV.out);rw[HNC.out]at h9;exact h9
  refine ZD (by rfl) _ _ (by rfl) b (.slice SA nc sc) nc xx.cs (by rfl) OS2.out ⟨a,c,src⟩ r1.heap.size (by rfl) N0.out.1 N0.out.2.1 N0.out.2.2 (by have:=HLX.out;omega) (Nat.le_of_lt DR2.out.le.2) ?_;intro A7 c7 r3 ho hg hl7;have S3V:Hid (r3.cell? ⟨x2.heap.size,0,none⟩=some (.int .i64 a)∧r3.cell? ⟨x2.heap.size,1,none⟩=some (.int .i64 c)∧b<r3.heap.size∧x2.heap.size<r3.heap.size∧gv<r3.heap.size):=⟨hg.cell S2V.out.1 NE2.out,hg.cell S2V.out.2.1 NE2.out,Nat.lt_of_lt_of_le S2V.out.2.2.1 hg.size,Nat.lt_of_lt_of_le S2V.out.2.2.2.1 hg.size,Nat.lt_of_lt_of_le S2V.out.2.2.2.2 hg.size⟩;have V3:Hid (r3.ownsRow b 72 3 (.slice (some ⟨gv,0,none⟩) q.vs.length vc) q.vs.length ys):=DR2.out.vr.kept hg (Qht DR2.out.vr OS2.out (by decide))
  have D4:Hid (DqP (r3.setCell ⟨gv,m*3+2,none⟩ (.slice A7 (nc+1) c7)) b b ⟨q.next,q.bl,v0++ [⟨xx.id,xx.ups,xx.cs++ [⟨a,c,src⟩]⟩]⟩ (.slice (some ⟨gv,0,none⟩) q.vs.length vc) v2 (ys.set (m*3+2) (.slice A7 (nc+1) c7))):=by
   have h9:=DR2.out.setCl (s':= .slice A7 (nc+1) c7) (c:=⟨a,c,src⟩) HV.out (by rw[HM.out];exact HSV.out) hg (by rw[HNC.out];exact ho) hl7;rw[HM.out]at h9;exact h9
  have KK:Hid (KpQ b w (r3.setCell ⟨gv,m*3+2,none⟩ (.slice A7 (nc+1) c7))):=((KpQ.of_below KR2.out).trans (KpQ.own OS2.out Qii hg)).trans (KpQ.own V3.out Qcg (V3.out.stored _ _).2);clear ho hg hl7 OS2 DR2 KR2 N0;refine hkB hKq (S3V.out) fun hHeld=> ?_;clear hKq Kq;refine tkA 11 ?_;refine tkB 12 ?_;refine rqA 13 (fun Kq hKq=> ?_)
  have d9:r3.cell? ⟨gv,m*3+2,none⟩=some (.slice SA nc sc):=(V3.out.cellAt (m*3+2) (by have:=HLM9.out;omega)).trans HSV.out;have f9:r3.frozen? ⟨gv,m*3+2,none⟩=false:=V3.out.frozenAt _;go_simp;clear d9 f9;have S4V:Hid ((r3.setCell ⟨gv,m*3+2,none⟩ (.slice A7 (nc+1) c7)).cell? ⟨x2.heap.size,0,none⟩=some (.int .i64 a)∧(r3.setCell ⟨gv,m*3+2,none⟩ (.slice A7 (nc+1) c7)).cell? ⟨x2.heap.size,1,none⟩=some (.int .i64 c)∧b<(r3.setCell ⟨gv,m*3+2,none⟩ (.slice A7 (nc+1) c7)).heap.size∧x2.heap.size<(r3.setCell ⟨gv,m*3+2,none⟩ (.slice A7 (nc+1) c7)).heap.size∧gv<(r3.setCell ⟨gv,m*3+2,none⟩ (.slice A7 (nc+1) c7)).heap.size):=⟨(World.cell?_of_block (Below.heap_setCell _ _ _ _ NE4.out)).trans S3V.out.1,(World.cell?_of_block (Below.heap_setCell _ _ _ _ NE4.out)).trans S3V.out.2.1,by simpa using S3V.out.2.2.1,by simpa using S3V.out.2.2.2.1,by simpa using S3V.out.2.2.2.2⟩;refine hkB hKq (S4V.out) fun hHeld=> ?_;clear hKq Kq
  refine wpAnyH_done (by kernel_rfl) ?_ _;clear hHeld;go_wp2_with fail
  refine bodyPost_ret (v:= .bool true) ?_ rfl (PostL.yes HQ.out KK.out rfl D4.out);simp (maxDischargeDepth:=9) [results,Tryz.results77,go_sem, *]
 ·go_simp;obtain⟨r2,HR2⟩: ∃r,Hid (r1.alloc (.cells #[.int .i64 a,.int .i64 c,.string src] 37)=r):=⟨_,rfl⟩;rw[HR2.out];have hb:Below r1.heap.size r1 r2:=by rw[←HR2.out];exact(Below.refl _ _).alloc (Nat.le_refl _) _
  have S2V:Hid (r2.cell? ⟨x2.heap.size,0,none⟩=some (.int .i64 a)∧r2.cell? ⟨x2.heap.size,1,none⟩=some (.int .i64 c)∧b<r2.heap.size∧x2.heap.size<r2.heap.size∧gv<r2.heap.size):=⟨cy hb S1V.out.1,cy hb S1V.out.2.1,Nat.lt_of_lt_of_le S1V.out.2.2.1 hb.size,Nat.lt_of_lt_of_le S1V.out.2.2.2.1 hb.size,Nat.lt_of_lt_of_le S1V.out.2.2.2.2 hb.size⟩;have D2:Hid (r2.cell? ⟨gv,m*3+2,none⟩=some (.slice SA nc sc)):=cy hb D1.out;have N0:Hid (r2.cell? ⟨r1.heap.size,0,none⟩=some (.int .i64 a)∧r2.cell? ⟨r1.heap.size,1,none⟩=some (.int .i64 c)∧r2.cell? ⟨r1.heap.size,2,none⟩=some (.string src)):=by rw[←HR2.out];refine⟨?_,?_,?_⟩<;>go_simp
  have DR2:=hd (DR1.out.below hb);have KR2:=hd (Qc KR1.out hb);clear hb HR2;refine hkB hKq (S2V.out) fun hHeld=> ?_;clear hKq Kq;refine rqA 4 (fun Kq hKq=> ?_);have d9:=D2.out
  go_simp;clear d9;refine hkB hKq (S2V.out) fun hHeld=> ?_;clear hKq Kq;refine rqA 10 (fun Kq hKq=> ?_);have OS2:Hid (r2.ownsRow b 37 3 (.slice SA nc sc) nc (Za cqL xx.cs)):=by have h9:=DR2.out.lastRow HV.out (by rw[HM.out];exact HSV.out);rw[HNC.out]at h9;exact h9
  refine ZD (by rfl) _ _ (by rfl) b (.slice SA nc sc) nc xx.cs (by rfl) OS2.out ⟨a,c,src⟩ r1.heap.size (by rfl) N0.out.1 N0.out.2.1 N0.out.2.2 (by have:=HLX.out;omega) (Nat.le_of_lt DR2.out.le.2) ?_;intro A7 c7 r3 ho hg hl7;have S3V:Hid (r3.cell? ⟨x2.heap.size,0,none⟩=some (.int .i64 a)∧r3.cell? ⟨x2.heap.size,1,none⟩=some (.int .i64 c)∧b<r3.heap.size∧x2.heap.size<r3.heap.size∧gv<r3.heap.size):=⟨hg.cell S2V.out.1 NE2.out,hg.cell S2V.out.2.1 NE2.out,Nat.lt_of_lt_of_le S2V.out.2.2.1 hg.size,Nat.lt_of_lt_of_le S2V.out.2.2.2.1 hg.size,Nat.lt_of_lt_of_le S2V.out.2.2.2.2 hg.size⟩;have V3:Hid (r3.ownsRow b 72 3 (.slice (some ⟨gv,0,none⟩) q.vs.length vc) q.vs.length ys):=DR2.out.vr.kept hg (Qht DR2.out.vr OS2.out (by decide))
  have D4:Hid (DqP (r3.setCell ⟨gv,m*3+2,none⟩ (.slice A7 (nc+1) c7)) b b ⟨q.next,q.bl,v0++ [⟨xx.id,xx.ups,xx.cs++ [⟨a,c,src⟩]⟩]⟩ (.slice (some ⟨gv,0,none⟩) q.vs.length vc) v2 (ys.set (m*3+2) (.slice A7 (nc+1) c7))):=by
   have h9:=DR2.out.setCl (s':= .slice A7 (nc+1) c7) (c:=⟨a,c,src⟩) HV.out (by rw[HM.out];exact HSV.out) hg (by rw[HNC.out];exact ho) hl7;rw[HM.out]at h9;exact h9
  have KK:Hid (KpQ b w (r3.setCell ⟨gv,m*3+2,none⟩ (.slice A7 (nc+1) c7))):=((KpQ.of_below KR2.out).trans (KpQ.own OS2.out Qii hg)).trans (KpQ.own V3.out Qcg (V3.out.stored _ _).2);clear ho hg hl7 OS2 DR2 KR2 N0;refine hkB hKq (S3V.out) fun hHeld=> ?_;clear hKq Kq;refine tkA 11 ?_;refine tkB 12 ?_;refine rqA 13 (fun Kq hKq=> ?_)
  have d9:r3.cell? ⟨gv,m*3+2,none⟩=some (.slice SA nc sc):=(V3.out.cellAt (m*3+2) (by have:=HLM9.out;omega)).trans HSV.out;have f9:r3.frozen? ⟨gv,m*3+2,none⟩=false:=V3.out.frozenAt _;go_simp;clear d9 f9;have S4V:Hid ((r3.setCell ⟨gv,m*3+2,none⟩ (.slice A7 (nc+1) c7)).cell? ⟨x2.heap.size,0,none⟩=some (.int .i64 a)∧(r3.setCell ⟨gv,m*3+2,none⟩ (.slice A7 (nc+1) c7)).cell? ⟨x2.heap.size,1,none⟩=some (.int .i64 c)∧b<(r3.setCell ⟨gv,m*3+2,none⟩ (.slice A7 (nc+1) c7)).heap.size∧x2.heap.size<(r3.setCell ⟨gv,m*3+2,none⟩ (.slice A7 (nc+1) c7)).heap.size∧gv<(r3.setCell ⟨gv,m*3+2,none⟩ (.slice A7 (nc+1) c7)).heap.size):=⟨(World.cell?_of_block (Below.heap_setCell _ _ _ _ NE4.out)).trans S3V.out.1,(World.cell?_of_block (Below.heap_setCell _ _ _ _ NE4.out)).trans S3V.out.2.1,by simpa using S3V.out.2.2.1,by simpa using S3V.out.2.2.2.1,by simpa using S3V.out.2.2.2.2⟩;refine hkB hKq (S4V.out) fun hHeld=> ?_;clear hKq Kq
  refine wpAnyH_done (by kernel_rfl) ?_ _;clear hHeld;go_wp2_with fail
  refine bodyPost_ret (v:= .bool true) ?_ rfl (PostL.yes HQ.out KK.out rfl D4.out);simp (maxDischargeDepth:=9) [results,Tryz.results77,go_sem, *]
theorem OK{b m0 k0:Nat}{q:RQ}{v1 v2:Value}{ys:List Value}(s:ByteArray)(w:World)(h:DqP w b b q v1 v2 ys)(hs:s.size≤1048576)(hl:LimQ m0 k0 q)(hk:k0≤1048576)(hg:GI w):Calls Tryz.prog 34 #[.pointer (some ⟨b,0,none⟩),.string s] w fun e w'=>
  PostL b (stG Yt Qk QH q s.data.toList) w e w':=by
 have D:Hid (DqP w b b q v1 v2 ys):=h;have HG:Hid (GI w):=hg;have HL:Hid (LimQ m0 k0 q):=hl;obtain⟨l,HSL⟩: ∃y,Hid (s.data.toList=y):=⟨_,rfl⟩;have HLZ:Hid (l.length≤1048576):=by show _≤_;rw[←HSL.out];simpa using hs
 have hbz:b<w.heap.size:=h.le.2;rw[HSL.out];clear h hg hl;go_enter Tryz.func34,Tryz.ntmps34;go_wp2_with fail
 refine(Qdb s _ hs HG.out).mono ?_;rintro e x1 ⟨⟨f0,rfl⟩,hb⟩;rw[HSL.out];replace D:=hd (D.out.below hb);replace HG:=hd (HG.out.below hb);have KW:Hid (KpQ b w x1):=KpQ.of_below hb;replace hbz:b<x1.heap.size:=Nat.lt_of_lt_of_le hbz hb.size
 clear hb;obtain⟨wd,HW⟩: ∃y,Hid (bs (cw 32 l)=y):=⟨_,rfl⟩;obtain⟨rs,HRS⟩: ∃y,Hid (bs (cr 32 l)=y):=⟨_,rfl⟩;have HWL:Hid (wd.data.toList=cw 32 l):=by rw[←HW.out];exact(rfl:_=_)
 have HRL:Hid (rs.data.toList=cr 32 l):=by rw[←HRS.out];exact(rfl:_=_)
 have zwd:wd.size≤1048576:=by rw[←HW.out,Qj];exact Nat.le_trans (Qm5 32 l) HLZ.out
 have zrs:rs.size≤1048576:=by rw[←HRS.out,Qj];exact Nat.le_trans (Qew 32 l) HLZ.out
 rw[HW.out,HRS.out];by_cases w1:cw 32 l=UF
 ·have e9:wd=⟨#[100,97,103]⟩:=by rw[←HW.out,w1];rfl
  have HQ:Hid (stG Yt Qk QH q l=(Yt rs.data.toList).map fun n=>⟨n,q.bl,q.vs⟩):=by show _=_;unfold stG;rw[if_pos w1,←HRL.out]
  clear HW HWL w1;subst e9;go_wp2_with fail
  refine(QC rs _ zrs HG.out).mono ?_;rintro e x2 ⟨rfl,hb⟩;replace D:=hd (D.out.below hb);replace KW:Hid (KpQ b w x2):=KW.out.trans (KpQ.of_below hb);clear hb;obtain⟨nn,HNN⟩: ∃y,Hid ((Yt rs.data.toList).getD 0=y):=⟨_,rfl⟩;rw[HNN.out]
  have c0:x2.cell? ⟨b,0,none⟩=some (.int .i64 q.next):=D.out.box.cellAt 0 (by decide);have f0:x2.frozen? ⟨b,0,none⟩=false:=D.out.box.frozenAt 0;obtain⟨D2,G2⟩:=D.out.setNext nn;have D3:Hid (DqP (x2.setCell ⟨b,0,none⟩ (.int .i64 nn)) b b ⟨nn,q.bl,q.vs⟩ v1 v2 ys):=D2;have K3:Hid (KpQ b w (x2.setCell ⟨b,0,none⟩ (.int .i64 nn))):=KW.out.trans (KpQ.own D.out.box NT G2);clear D2 G2;cases hr:Yt rs.data.toList with
  | none=>
   have HF:Hid (stG Yt Qk QH q l=none):=by show _=_;rw[HQ.out,hr];rfl
   clear hr;go_wp2_with fail
   refine bodyPost_ret (v:= .bool false) ?_ rfl (PostL.no HF.out K3.out rfl);simp (maxDischargeDepth:=9) [results,Tryz.results34,go_sem, *]
  | some n9=>
   have HF:Hid (stG Yt Qk QH q l=some ⟨nn,q.bl,q.vs⟩):=by show _=_;rw[HQ.out,←HNN.out,hr];rfl
   clear hr;go_wp2_with fail
   refine bodyPost_ret (v:= .bool true) ?_ rfl (PostL.yes HF.out K3.out rfl D3.out);simp (maxDischargeDepth:=9) [results,Tryz.results34,go_sem, *]
 by_cases w2:cw 32 l=wBr
 ·have e9:wd=⟨#[98,114,97,110,99,104]⟩:=by rw[←HW.out,w2];rfl
  obtain⟨nm,HNM⟩: ∃y,Hid (bs (cw 32 (cr 32 l))=y):=⟨_,rfl⟩;obtain⟨hdq,HHD⟩: ∃y,Hid (bs (cr 32 (cr 32 l))=y):=⟨_,rfl⟩;have HHL:Hid (hdq.data.toList=cr 32 (cr 32 l)):=by rw[←HHD.out];exact(rfl:_=_)
  have zhd:hdq.size≤1048576:=by rw[←HHD.out,Qj];exact Nat.le_trans (Qew 32 _) (Nat.le_trans (Qew 32 l) HLZ.out)
  have HQ:Hid (stG Yt Qk QH q l=(Yt hdq.data.toList).map fun n=>⟨q.next,q.bl++ [⟨nm,n⟩],q.vs⟩):=by show _=_;unfold stG;rw[if_neg w1,if_pos w2,←HHL.out,HNM.out]
  clear HW HWL w1 w2;subst e9;go_wp2_with fail
  refine(Qdb rs _ zrs HG.out).mono ?_;rintro e x2 ⟨⟨f2,rfl⟩,hb⟩;replace D:=hd (D.out.below hb);replace HG:=hd (HG.out.below hb);replace KW:Hid (KpQ b w x2):=KW.out.trans (KpQ.of_below hb);replace hbz:b<x2.heap.size:=Nat.lt_of_lt_of_le hbz hb.size;clear hb
  rw[HRL.out,HNM.out,HHD.out];go_wp2_with fail
  refine(QC hdq _ zhd HG.out).mono ?_;rintro e x3 ⟨rfl,hb⟩;replace D:=hd (D.out.below hb);replace KW:Hid (KpQ b w x3):=KW.out.trans (KpQ.of_below hb);replace hbz:b<x3.heap.size:=Nat.lt_of_lt_of_le hbz hb.size;clear hb;obtain⟨nn,HNN⟩: ∃y,Hid ((Yt hdq.data.toList).getD 0=y):=⟨_,rfl⟩
  obtain⟨ok,HOK⟩: ∃y,Hid ((Yt hdq.data.toList).isSome=y):=⟨_,rfl⟩;rw[HNN.out,HOK.out];have c2:x3.cell? ⟨b,2,none⟩=some v2:=D.out.box.cellAt 2 (by decide);have HBR:Hid (x3.ownsRow b 69 2 v2 q.bl.length (Za brL q.bl)):=D.out.br;have hnb:q.bl.length≤1048576:=Nat.le_trans HL.out.nb hk
  go_wp2_with (first
   | (at_builtin;refine XR rfl _ _ rfl b v2 q.bl.length q.bl rfl (HBR.out.alloc _) ⟨nm,nn⟩ x3.heap.size rfl (by simp[go_sem, *]) (by simp[go_sem, *]) (by omega) (by simp;omega) ?_)
   | fail)
  intro A7 c7 w7 ho hg;have DA:=hd (D.out.below ((Below.refl _ _).alloc (Nat.le_refl _) (.cells #[.string nm,.int .i64 nn] 69)));have hbx:=DA.out.boxBr hg;have g2:w7.cell? ⟨b,2,none⟩=some v2:=hbx.cellAt 2 (by decide);have f9:w7.frozen? ⟨b,2,none⟩=false:=hbx.frozenAt 2;have D7:Hid (DqP (w7.setCell ⟨b,2,none⟩ (.slice A7 (q.bl.length+1) c7)) b b ⟨q.next,q.bl++ [⟨nm,nn⟩],q.vs⟩ v1 (.slice A7 (q.bl.length+1) c7) ys):=DA.out.setBr hg ho;have K7:Hid (KpQ b w (w7.setCell ⟨b,2,none⟩ (.slice A7 (q.bl.length+1) c7))):=((KW.out.trans (KpQ.of_below ((Below.refl _ _).alloc (Nat.le_refl _) _))).trans (KpQ.own DA.out.br Qkf hg)).trans (KpQ.own hbx NT (hbx.stored 2 _).2)
  clear c2 hbx ho hg DA;cases hr:Yt hdq.data.toList with
  | none=>
   have HF:Hid (stG Yt Qk QH q l=none):=by show _=_;rw[HQ.out,hr];rfl
   obtain rfl:ok=false:=by rw[←HOK.out,hr];rfl
   clear hr;go_wp2_with fail
   refine bodyPost_ret (v:= .bool false) ?_ rfl (PostL.no HF.out K7.out rfl);simp (maxDischargeDepth:=9) [results,Tryz.results34,go_sem, *]
  | some n9=>
   have HF:Hid (stG Yt Qk QH q l=some ⟨q.next,q.bl++ [⟨nm,nn⟩],q.vs⟩):=by show _=_;rw[HQ.out,←HNN.out,hr];rfl
   obtain rfl:ok=true:=by rw[←HOK.out,hr];rfl
   clear hr;go_wp2_with fail
   refine bodyPost_ret (v:= .bool true) ?_ rfl (PostL.yes HF.out K7.out rfl D7.out);simp (maxDischargeDepth:=9) [results,Tryz.results34,go_sem, *]
 by_cases w3:cw 32 l=wVr
 ·have e9:wd=⟨#[118,101,114,115,105,111,110]⟩:=by rw[←HW.out,w3];rfl
  have HQ:Hid (stG Yt Qk QH q l=(Qk rs.data.toList).map fun p=>⟨q.next,q.bl,q.vs++ [⟨p.1,p.2,[]⟩]⟩):=by show _=_;unfold stG;rw[if_neg w1,if_neg w2,if_pos w3,←HRL.out]
  clear HW HWL w1 w2 w3;subst e9;go_wp2_with fail
  refine(Gu rs _ D.out zrs (Nat.le_trans HL.out.nv hk) HG.out).mono ?_;rintro e x2 hp;obtain⟨hkp,hm⟩:=hp;cases ho:(Qk rs.data.toList).map fun p=>(⟨q.next,q.bl,q.vs++ [⟨p.1,p.2,[]⟩]⟩:RQ)with
  | none=>
   rw[ho]at hm;obtain rfl:=hm;go_wp2_with fail
   refine bodyPost_ret (v:= .bool false) ?_ rfl (PostL.no (HQ.out.trans ho) (KW.out.trans hkp) rfl);simp (maxDischargeDepth:=9) [results,Tryz.results34,go_sem, *]
  | some q2=>
   rw[ho]at hm;obtain⟨rfl,u1,u2,us,hdq⟩:=hm;go_wp2_with fail
   refine bodyPost_ret (v:= .bool true) ?_ rfl (PostL.yes (HQ.out.trans ho) (KW.out.trans hkp) rfl hdq);simp (maxDischargeDepth:=9) [results,Tryz.results34,go_sem, *]
 have hq1:(wd.toList==(⟨#[100,97,103]⟩:ByteArray).toList)=false:=Vo (l:=UF) rfl (by rw[HWL.out];exact w1);have hq2:(wd.toList==(⟨#[98,114,97,110,99,104]⟩:ByteArray).toList)=false:=Vo (l:=wBr) rfl (by rw[HWL.out];exact w2);have hq3:(wd.toList==(⟨#[118,101,114,115,105,111,110]⟩:ByteArray).toList)=false:=Vo (l:=wVr) rfl (by rw[HWL.out];exact w3);have hx1:(wd.toList== [100,97,103])=false:=by rw[ByteArray.toList_eq,HWL.out];simpa[UF]using w1
 have hx2:(wd.toList== [98,114,97,110,99,104])=false:=by rw[ByteArray.toList_eq,HWL.out];simpa[wBr]using w2
 have hx3:(wd.toList== [118,101,114,115,105,111,110])=false:=by rw[ByteArray.toList_eq,HWL.out];simpa[wVr]using w3
 have HQ:Hid (stG Yt Qk QH q l=(QH wd.data.toList).bind fun p=>(Qb7 q.vs ⟨p.1,p.2,rs⟩).map fun v=>⟨q.next,q.bl,v⟩):=by show _=_;unfold stG;rw[if_neg w1,if_neg w2,if_neg w3,HWL.out,←HRS.out]
 clear w1 w2 w3;go_wp2_with fail
 refine(Dn wd rs _ D.out zwd (Nat.le_trans HL.out.nv hk) (fun x hx=>Nat.le_trans (HL.out.vs x hx).2.2.2.1 hk) HG.out).mono ?_;rintro e x2 hp;clear hq1 hq2 hq3 hx1 hx2 hx3;obtain⟨hkp,hm⟩:=hp;cases ho:(QH wd.data.toList).bind fun p=>(Qb7 q.vs ⟨p.1,p.2,rs⟩).map fun v=>(⟨q.next,q.bl,v⟩:RQ)with
 | none=>
  rw[ho]at hm;obtain rfl:=hm;go_wp2_with fail
  refine bodyPost_ret (v:= .bool false) ?_ rfl (PostL.no (HQ.out.trans ho) (KW.out.trans hkp) rfl);simp (maxDischargeDepth:=9) [results,Tryz.results34,go_sem, *]
 | some q2=>
  rw[ho]at hm;obtain⟨rfl,u1,u2,us,hdq⟩:=hm;go_wp2_with fail
  refine bodyPost_ret (v:= .bool true) ?_ rfl (PostL.yes (HQ.out.trans ho) (KW.out.trans hkp) rfl hdq);simp (maxDischargeDepth:=9) [results,Tryz.results34,go_sem, *]
end Go.Proofs.YtbdhinckiccniaaGreatDoor
