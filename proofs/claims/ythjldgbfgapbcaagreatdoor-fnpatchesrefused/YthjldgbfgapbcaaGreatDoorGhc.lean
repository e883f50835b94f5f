import Derived.Test.YthjldgbfgapbcaaGreatDoorGze
import Derived.Test.YthjldgbfgapbcaaGreatDoorGge
import Derived.Test.YthjldgbfgapbcaaGreatDoorMn
set_option linter.unusedSimpArgs false
set_option linter.unusedVariables false
set_option maxHeartbeats 8000000
set_option maxRecDepth 100000
namespace Go.Proofs.YthjldgbfgapbcaaGreatDoor
open Go.RowKit
theorem Dv {C R:Nat→Int} {S:Nat→ByteArray} {n:Nat} (h:QC C R S n=true): ∀i,i<n→(S i).toList.isEmpty=false:=fun i hi=>by
 unfold QC at h;simp only [Bool.and_eq_true,List.all_eq_true]at h;have h9:=h.2 i (List.mem_range.2 hi);unfold YA at h9;simp only [Bool.and_eq_true,Bool.not_eq_true']at h9;exact h9.1
end Go.Proofs.YthjldgbfgapbcaaGreatDoor
namespace Go.Proofs.YthjldgbfgapbcaaGreatDoor
open Go.RowKit Go.Maps
def dfM:List CL→List CL→List CH
 | [],[]=> []
 | x::a,[]=>⟨x.c,x.r,x.s,⟨#[]⟩⟩::dfM a []
 | [],y::b=>⟨y.c,y.r,⟨#[]⟩,y.s⟩::dfM [] b
 | x::a,y::b=>if ltC x y=true then⟨x.c,x.r,x.s,⟨#[]⟩⟩::dfM a (y::b)else if ltC y x=true then⟨y.c,y.r,⟨#[]⟩,y.s⟩::dfM (x::a) b else⟨x.c,x.r,x.s,y.s⟩::dfM a b
 termination_by a b=>a.length+b.length
def neH (z:CH):Bool:= !(z.f.toList==z.t.toList)
def dfL (a b:List CL):List CH:=(dfM a b).filter neH
theorem XP {B:Nat} {X W:World} (hs:X.heap.size≤W.heap.size) (h:Below B X W):(∀bq oq,bq<B→W.cell? ⟨bq,oq,none⟩=X.cell? ⟨bq,oq,none⟩)∧X.heap.size≤W.heap.size∧Below B X W:=⟨fun b o hb=>h.cell (p:=⟨b,o,none⟩) hb,hs,h⟩
theorem Qpw (x:CH):(chL x).length=4:=rfl
theorem ZP {ops:Array Oper} {rest:List Oper} {o:Oper} {a:Act} {Q:Exit→Act→World→Prop} {W:World} (hgd:o.guard=none) (s x:Operand) (ho:o.op= .call {callee:= .builtin .append,args:= #[s,x],argTypes:= #[27,27]}) (B:Nat) (v:Value) (n:Nat) (L:List CH) (hs:a.eval s=v)
  (hown:W.ownsRow B 40 4 v n (Zb chL L)) (z:CH) (g:Nat) (hx:a.eval x= .slice (some ⟨g,0,none⟩) 1 1) (h0:W.cell? ⟨g,0,none⟩=some (.int .i64 z.c)) (h1:W.cell? ⟨g,1,none⟩=some (.int .i64 z.r)) (h2:W.cell? ⟨g,2,none⟩=some (.string z.f)) (h3:W.cell? ⟨g,3,none⟩=some (.string z.t)) (hn:n≤1099511627776) (hB:B≤W.heap.size)
  (h: ∀v' w',w'.ownsRow B 40 4 v' (n+1) (Zb chL (L++ [z]))→W.grownBy w' v.ownBlock→wpList Tryz.prog ops Q rest (a.put o.dst v') w'):wpList Tryz.prog ops Q (o::rest) a W:=by
 obtain⟨i0,hi,iz0,iz1,iz2⟩:=info_parts Qos;refine wpList_append_own W hgd s x 27 ho B 40 i0 (.agg #[.int .i64 0,.int .i64 0,.string ⟨#[]⟩,.string ⟨#[]⟩]) 4 48 Tryz.underlying27 hi iz0 iz1 iz2 rfl (by decide) v n _ hs hown ⟨g,0,none⟩ 1 1 (chL z) hx rfl ?_ ?_ ?_ ?_ hB ?_
 ·intro q u hq;match q,hq with
  | 0,hq=>simp [chL]at hq;subst hq;simpa [Addr.add]using h0
  | 1,hq=>simp [chL]at hq;subst hq;simpa [Addr.add]using h1
  | 2,hq=>simp [chL]at hq;subst hq;simpa [Addr.add]using h2
  | 3,hq=>simp [chL]at hq;subst hq;simpa [Addr.add]using h3
 ·intro u hu;simp [chL]at hu;rcases hu with rfl | rfl | rfl | rfl<;>rfl
 ·unfold maxLen;omega
 ·omega
 ·intro v' w3 hown' hgrow _;refine h v' w3 ?_ hgrow;rw [Ge];exact hown'
def DfR (B:Nat) (w':World) (L:List CH) (e:Ending):Prop:= ∃A c m,e= .returned (.slice A m c)∧L.length=m∧w'.ownsRow B 40 4 (.slice A m c) m (Zb chL L)
def dfF (C R:Nat→Int) (S:Nat→ByteArray) (n:Nat) (C' R':Nat→Int) (S':Nat→ByteArray) (m:Nat):List CH:=if QC C R S n=true∧QC C' R' S' m=true then dfL (clE C R S n) (clE C' R' S' m)else []
theorem Qmh {C R:Nat→Int} {S:Nat→ByteArray} {n:Nat} {C' R':Nat→Int} {S':Nat→ByteArray} {m:Nat} (h:QC C R S n=false):dfF C R S n C' R' S' m= []:=by rw [dfF,if_neg (fun e=>by rw [h]at e;cases e.1)]
theorem Qmg {C R:Nat→Int} {S:Nat→ByteArray} {n:Nat} {C' R':Nat→Int} {S':Nat→ByteArray} {m:Nat} (h:QC C' R' S' m=false):dfF C R S n C' R' S' m= []:=by rw [dfF,if_neg (fun e=>by rw [h]at e;cases e.2)]
theorem Qmf {C R:Nat→Int} {S:Nat→ByteArray} {n:Nat} {C' R':Nat→Int} {S':Nat→ByteArray} {m:Nat} (h:QC C R S n=true) (h':QC C' R' S' m=true):dfF C R S n C' R' S' m=dfL (clE C R S n) (clE C' R' S' m):=by rw [dfF,if_pos ⟨h,h'⟩]
theorem YQ {C R:Nat→Int} {S:Nat→ByteArray} {n i:Nat} (h:i<n):(clE C R S n).drop i=⟨C i,R i,S i⟩::(clE C R S n).drop (i+1):=by
 rw [List.drop_eq_getElem_cons (by rw [YP];exact h)];simp [clE]
theorem YY {C R:Nat→Int} {S:Nat→ByteArray} {n:Nat}:(clE C R S n).drop n= []:=List.drop_eq_nil_of_le (by rw [YP];exact Nat.le_refl _)
theorem Ht {a b O:List CH} {z:CH} {r r2:List CH} (h:a=O++r.filter neH) (hr:r=z::r2):(neH z=true→a=(O++ [z])++r2.filter neH)∧(neH z=false→a=O++r2.filter neH):=by
 subst hr;constructor
 ·intro hz;rw [h,List.filter_cons_of_pos hz,List.append_assoc];rfl
 ·intro hz;rw [h,List.filter_cons_of_neg (by rw [hz];decide)]
theorem Qmu {A A':Option Addr} {n cap m cap':Nat} {C R C' R':Nat→Int} {S S':Nat→ByteArray} (w:World) (h:ClRow w A n C R S) (h':ClRow w A' m C' R' S'):
  Calls Tryz.prog 10 #[.slice A n cap,.slice A' m cap'] w fun e w'=>DfR w.heap.size w' (dfF C R S n C' R' S' m) e∧Below w.heap.size w w':=by
 have HR:Hid (ClRow w A n C R S):=h;have HR':Hid (ClRow w A' m C' R' S'):=h';clear h h';obtain⟨ck,HCK⟩: ∃ck,Hid (QC C R S n=ck):=⟨_,rfl⟩;obtain⟨ck',HCK'⟩: ∃ck',Hid (QC C' R' S' m=ck'):=⟨_,rfl⟩;obtain⟨DL,HDL⟩: ∃DL,Hid (dfF C R S n C' R' S' m=DL):=⟨_,rfl⟩;rw [HDL.out]
 have HE0:Hid ((w.alloc (.cells #[] 40)).ownsRow w.heap.size 40 4 (.slice (some ⟨w.heap.size,0,none⟩) 0 0) 0 []):=Vk (Nat.le_refl _) rfl;go_enter Tryz.func10,Tryz.ntmps10;go_wp2_with fail
 obtain⟨X0,HX0⟩: ∃X0,Hid (w.alloc (.cells #[] 40)=X0):=⟨_,rfl⟩;rw [HX0.out];rw [HX0.out]at HE0;have K0:Hid (Below w.heap.size w X0):=by rw [←HX0.out];show Below _ _ _;go_grown
 clear HX0;refine(YX _ (HR.out.below K0.out)).mono ?_;rintro e u1 ⟨rfl,hb⟩;have K1:=hd (Qe K0.out hb);have HE1:=hd (Ql HE0.out hb);clear hb;rw [HCK.out]
 cases ck
 ·have HV:Hid (DL= []):=by rw [←HDL.out];exact Qmh HCK.out
  go_wp2_with fail
  go_ret;exact⟨⟨_,_,0,rfl,by rw [HV.out];rfl,by rw [HV.out];exact HE1.out⟩,K1.out⟩
 go_wp2_with fail
 refine(YX _ (HR'.out.below K1.out)).mono ?_;rintro e u2 ⟨rfl,hb⟩;have K2:=hd (Qe K1.out hb);have HE2:=hd (Ql HE1.out hb);clear hb;rw [HCK'.out];cases ck'
 ·have HV:Hid (DL= []):=by rw [←HDL.out];exact Qmg HCK'.out
  go_wp2_with fail
  go_ret;exact⟨⟨_,_,0,rfl,by rw [HV.out];rfl,by rw [HV.out];exact HE2.out⟩,K2.out⟩
 have hn:n≤120:=(VG HCK.out).1;have hm:m≤120:=(VG HCK'.out).1;have HDD:Hid (DL=dfL (clE C R S n) (clE C' R' S' m)):=by show _=_;rw [←HDL.out];exact Qmf HCK.out HCK'.out
 clear HE0 HE1 K0;go_wp2_with fail
 go_loopw [5,6,7] (fun v i k wr=> ∃(t s:Nat) (O:List CH) (F:Option Addr) (j c:Nat),t≤n∧s≤m∧v= .slice F j c∧i= .int .i64 t∧k= .int .i64 s∧DL=O++(dfM ((clE C R S n).drop t) ((clE C' R' S' m).drop s)).filter neH∧O.length=j∧j≤t+s∧wr.ownsRow w.heap.size 40 4 (.slice F j c) j (Zb chL O)∧Below w.heap.size w wr) (fun _ i k _=>(n-(intOf i).toNat)+(m-(intOf k).toNat))
 case atStart=>exact⟨0,0,[],_,0,0,Nat.zero_le _,Nat.zero_le _,rfl,rfl,rfl,HDD.out,rfl,Nat.zero_le _,HE2.out,K2.out⟩
 case round=>
  clear HE2 K2 K1;obtain⟨t,s,O,F,j,c,ht,hs,rfl,rfl,rfl,hdl,hj,hjl,hown,hbel⟩:=hrel;have HO:Hid (wr.ownsRow w.heap.size 40 4 (.slice F j c) j (Zb chL O)):=hown;have KV:Hid (Below w.heap.size w wr):=hbel;have HJ:Hid (O.length=j):=hj;have zv:w.heap.size≤wr.heap.size:=hbel.size;clear hown hbel hj
  have HDR:Hid (DL=O++(dfM ((clE C R S n).drop t) ((clE C' R' S' m).drop s)).filter neH):=hdl;clear hdl;by_cases hend:t=n∧s=m
  ·obtain⟨rfl,rfl⟩:=hend;have HI:Hid (DL=O):=by show _=_;rw [HDR.out,YY,YY,dfM];simp
   have q1: ¬(t:Int)<(t:Int):=by omega
   have q2: ¬(s:Int)<(s:Int):=by omega
   go_wp2_with fail
   go_ret;exact⟨⟨F,c,j,rfl,by rw [HI.out];exact HJ.out,by rw [HI.out];exact HO.out⟩,KV.out⟩
  by_cases hlt:t<n
  ·by_cases hls:s<m
   ·obtain⟨b,o,rfl,hl,c0,c1,c2,_⟩:=HR.out.2 t hlt;rw [←KV.out.cell (p:=⟨_,_,none⟩) hl]at c0 c1 c2;have hl2:b<wr.heap.size:=Nat.lt_of_lt_of_le hl KV.out.size;have q0:(0:Int)≤(t:Int):=by omega
    have q1:(t:Int)<(n:Int):=by omega
    obtain⟨b',o',rfl,hl',d0,d1,d2,_⟩:=HR'.out.2 s hls;rw [←KV.out.cell (p:=⟨_,_,none⟩) hl']at d0 d1 d2;have hl2':b'<wr.heap.size:=Nat.lt_of_lt_of_le hl' KV.out.size;have p0:(0:Int)≤(s:Int):=by omega
    have p1:(s:Int)<(m:Int):=by omega
    have e1:((s:Int)==(m:Int))=false:=by simp;omega
    have e2:((t:Int)==(n:Int))=false:=by simp;omega
    obtain⟨ab,HAB⟩: ∃ab,Hid (ZT (C t) (R t) (C' s) (R' s)=ab):=⟨_,rfl⟩;obtain⟨ba,HBA⟩: ∃ba,Hid (ZT (C' s) (R' s) (C t) (R t)=ba):=⟨_,rfl⟩;have HLX:Hid (ltC ⟨C t,R t,S t⟩ ⟨C' s,R' s,S' s⟩=ab):=HAB.out;have HLY:Hid (ltC ⟨C' s,R' s,S' s⟩ ⟨C t,R t,S t⟩=ba):=HBA.out;go_upto_region 11 with fail
    obtain⟨X,HX⟩: ∃X,Hid (wr.alloc (.cells #[.int .i64 0,.int .i64 0,.string ⟨#[]⟩,.string ⟨#[]⟩] 40)=X):=⟨_,rfl⟩;rw [HX.out];have x0:X.cell? ⟨wr.heap.size,0,none⟩=some (.int .i64 0):=by rw [←HX.out];go_simp
    have x1:X.cell? ⟨wr.heap.size,1,none⟩=some (.int .i64 0):=by rw [←HX.out];go_simp
    have x2:X.cell? ⟨wr.heap.size,2,none⟩=some (.string ⟨#[]⟩):=by rw [←HX.out];go_simp
    have x3:X.cell? ⟨wr.heap.size,3,none⟩=some (.string ⟨#[]⟩):=by rw [←HX.out];go_simp
    have f0:X.frozen? ⟨wr.heap.size,0,none⟩=false:=by rw [←HX.out];go_simp
    have f1:X.frozen? ⟨wr.heap.size,1,none⟩=false:=by rw [←HX.out];go_simp
    have f2:X.frozen? ⟨wr.heap.size,2,none⟩=false:=by rw [←HX.out];go_simp
    have f3:X.frozen? ⟨wr.heap.size,3,none⟩=false:=by rw [←HX.out];go_simp
    have zX:wr.heap.size<X.heap.size:=by rw [←HX.out];simp
    have zX0:wr.heap.size<X.heap.size:=zX;have KX:Hid (Below wr.heap.size wr X):=by rw [←HX.out];show Below _ _ _;go_grown
    have KW:=hd (Qe KV.out KX.out);have HOX:=hd (Ql HO.out KX.out);clear HX;replace c0:=(KX.out.cell (p:=⟨b,_,none⟩) hl2).trans c0;replace c1:=(KX.out.cell (p:=⟨b,_,none⟩) hl2).trans c1;replace c2:=(KX.out.cell (p:=⟨b,_,none⟩) hl2).trans c2;have hl3:b<X.heap.size:=by omega
    replace d0:=(KX.out.cell (p:=⟨b',_,none⟩) hl2').trans d0;replace d1:=(KX.out.cell (p:=⟨b',_,none⟩) hl2').trans d1;replace d2:=(KX.out.cell (p:=⟨b',_,none⟩) hl2').trans d2;have hl3':b'<X.heap.size:=by omega
    cases ab
    ·refine wp_region_held_drew (S:=(fun w'=>(∀bq oq,bq<X.heap.size→w'.cell? ⟨bq,oq,none⟩=X.cell? ⟨bq,oq,none⟩)∧X.heap.size≤w'.heap.size∧Below X.heap.size X w')) (by kernel_rfl) (Qm (by go_size) (by go_grown)) (fun hHeld=> ?_);refine tkA 0 ?_;refine tkB 1 ?_;refine tkA 2 ?_;refine tkB 3 ?_;refine tkA 4 ?_;refine tkB 5 ?_
     refine tkA 6 ?_;refine tkB 7 ?_;refine tkA 8 ?_;refine tkB 9 ?_;refine tkA 10 ?_;refine tkB 11 ?_;refine tkA 12 ?_
     refine tkB 13 ?_;refine tkA 14 ?_;refine tkB 15 ?_;refine tkA 16 ?_;refine tkB 17 ?_;refine tkA 18 ?_;refine tkB 19 ?_
     refine rqA 20 (fun Kq hKq=> ?_);go_simp
     (refine(ZD _ _ _ _ _).mono ?_;rintro e w1 ⟨rfl,hb⟩;rw [HAB.out];obtain⟨hk1,hz1⟩:=Qi (B:=X.heap.size) (X:=X) (by go_grown) (by go_size) hb;have hC1:=fun b o h=>hk1.cell (p:=⟨b,o,none⟩) h;have hw1:=hk1.mono (Nat.le_of_lt zX0);have xa0:=(hk1.cell (p:=⟨wr.heap.size,0,none⟩) zX0).trans x0;have fa0:=(hk1.frozen (p:=⟨wr.heap.size,0,none⟩) zX0).trans f0;have xa1:=(hk1.cell (p:=⟨wr.heap.size,1,none⟩) zX0).trans x1;have fa1:=(hk1.frozen (p:=⟨wr.heap.size,1,none⟩) zX0).trans f1;have xa2:=(hk1.cell (p:=⟨wr.heap.size,2,none⟩) zX0).trans x2;have fa2:=(hk1.frozen (p:=⟨wr.heap.size,2,none⟩) zX0).trans f2;have xa3:=(hk1.cell (p:=⟨wr.heap.size,3,none⟩) zX0).trans x3;have fa3:=(hk1.frozen (p:=⟨wr.heap.size,3,none⟩) zX0).trans f3;have zXa:wr.heap.size<w1.heap.size:=Nat.lt_of_lt_of_le zX0 hk1.size;clear hb)
     refine hkB hKq (Qm (by go_size) (by go_grown)) fun hHeld=> ?_;clear hKq Kq;refine tkA 21 ?_;refine tkB 22 ?_;refine tkB 23 ?_;refine wpAnyH_done (by kernel_rfl) ?_ _;go_upto_region 14 with fail
     cases ba
     ·refine wp_region_held_drew (S:=(fun w'=>(∀bq oq,bq<X.heap.size→w'.cell? ⟨bq,oq,none⟩=X.cell? ⟨bq,oq,none⟩)∧X.heap.size≤w'.heap.size∧Below X.heap.size X w')) (by kernel_rfl) (Qm (by go_size) (by go_grown)) (fun hHeld=> ?_);refine tkA 0 ?_;refine tkB 1 ?_;refine tkA 2 ?_;refine tkB 3 ?_;refine tkA 4 ?_;refine tkB 5 ?_
      refine tkA 6 ?_;refine tkB 7 ?_;refine tkA 8 ?_;refine tkB 9 ?_;refine tkA 10 ?_;refine tkB 11 ?_;refine tkA 12 ?_
      refine tkB 13 ?_;refine tkB 14 ?_;refine rqA 15 (fun Kq hKq=> ?_);go_simp
      (refine(ZD _ _ _ _ _).mono ?_;rintro e w2 ⟨rfl,hb⟩;rw [HBA.out];obtain⟨hk2,hz2⟩:=Qi (B:=X.heap.size) (X:=X) (by go_grown) (by go_size) hb;have hC2:=fun b o h=>hk2.cell (p:=⟨b,o,none⟩) h;have hw2:=hk2.mono (Nat.le_of_lt zX0);have xb0:=(hk2.cell (p:=⟨wr.heap.size,0,none⟩) zX0).trans x0;have fb0:=(hk2.frozen (p:=⟨wr.heap.size,0,none⟩) zX0).trans f0;have xb1:=(hk2.cell (p:=⟨wr.heap.size,1,none⟩) zX0).trans x1;have fb1:=(hk2.frozen (p:=⟨wr.heap.size,1,none⟩) zX0).trans f1;have xb2:=(hk2.cell (p:=⟨wr.heap.size,2,none⟩) zX0).trans x2;have fb2:=(hk2.frozen (p:=⟨wr.heap.size,2,none⟩) zX0).trans f2;have xb3:=(hk2.cell (p:=⟨wr.heap.size,3,none⟩) zX0).trans x3;have fb3:=(hk2.frozen (p:=⟨wr.heap.size,3,none⟩) zX0).trans f3;have zXb:wr.heap.size<w2.heap.size:=Nat.lt_of_lt_of_le zX0 hk2.size;clear hb)
      refine hkB hKq (Qm (by go_size) (by go_grown)) fun hHeld=> ?_;clear hKq Kq;refine tkA 16 ?_;refine tkB 17 ?_;refine wpAnyH_done (by kernel_rfl) ?_ _;go_upto_region 8 with fail
      refine wp_region_held_drew (S:=(fun w'=>(∀bq oq,bq<wr.heap.size→w'.cell? ⟨bq,oq,none⟩=X.cell? ⟨bq,oq,none⟩)∧X.heap.size≤w'.heap.size∧Below wr.heap.size X w')) (by kernel_rfl) (XP (by go_size) (by have h9:=hw2;go_grown)) (fun hHeld=> ?_);refine tkA 0 ?_;refine tkB 1 ?_;refine tkA 2 ?_;refine tkB 3 ?_;refine tkA 4 ?_;refine tkB 5 ?_
      refine tkA 6 ?_;refine tkB 7 ?_;refine tkA 8 ?_;refine tkB 9 ?_;refine tkA 10 ?_;refine tkB 11 ?_;refine tkA 12 ?_
      refine tkB 13 ?_;refine tkA 14 ?_;refine tkB 15 ?_;refine rqA 16 (fun Kq hKq=> ?_);go_simp;skip
      refine hkB hKq (XP (by go_size) (by have h9:=hw2;go_grown)) fun hHeld=> ?_;clear hKq Kq;refine wpAnyH_done (by kernel_rfl) ?_ _;obtain⟨Z,HZ⟩: ∃Z,Hid (((((w2.setCell ⟨wr.heap.size,0,none⟩ (.int .i64 (C t))).setCell ⟨wr.heap.size,1,none⟩ (.int .i64 (R t))).setCell ⟨wr.heap.size,2,none⟩ (.string (S t))).setCell ⟨wr.heap.size,3,none⟩ (.string (S' s))).drew=Z):=⟨_,rfl⟩;have z0:Z.cell? ⟨wr.heap.size,0,none⟩=some (.int .i64 (C t)):=by rw [←HZ.out];go_simp
      have z1:Z.cell? ⟨wr.heap.size,1,none⟩=some (.int .i64 (R t)):=by rw [←HZ.out];go_simp
      have z2:Z.cell? ⟨wr.heap.size,2,none⟩=some (.string (S t)):=by rw [←HZ.out];go_simp
      have z3:Z.cell? ⟨wr.heap.size,3,none⟩=some (.string (S' s)):=by rw [←HZ.out];go_simp
      rw [HZ.out]at hHeld;rw [HZ.out];have hwZ:=hHeld.2.2;have KZ:Hid (Below w.heap.size w Z):=KW.out.trans (hwZ.mono zv);have HOZ:=hd (Ql HO.out (KX.out.trans hwZ));have zZ:wr.heap.size<Z.heap.size:=by have h9:=hHeld.2.1;omega
      have zw:w.heap.size≤Z.heap.size:=by omega
      obtain⟨hN1,hN2⟩:=Ht (b:= []) (z:=⟨C t,R t,(S t),(S' s)⟩) (r2:=dfM ((clE C R S n).drop (t+1)) ((clE C' R' S' m).drop (s+1))) HDR.out (by rw [YQ hlt,YQ hls,dfM,if_neg (by rw [HLX.out];decide),if_neg (by rw [HLY.out];decide)]);have HN1:Hid (_→_):=hN1;have HN2:Hid (_→_):=hN2;clear hHeld hwZ HZ HOX KX KW x0 x1 x2 x3 f0 f1 f2 f3 hN1 hN2;obtain⟨sm,HSM⟩: ∃sm,Hid (((S t).toList==(S' s).toList)=sm):=⟨_,rfl⟩;have hsm:=HSM.out;cases sm
      ·have HNE:Hid (neH ⟨C t,R t,(S t),(S' s)⟩=true):=by show _=_;unfold neH;simp only;rw [HSM.out];rfl
       go_wp2_with (first
        | (at_builtin;refine ZP rfl _ _ rfl w.heap.size (.slice F j c) j O rfl (HOZ.out.alloc _) ⟨C t,R t,(S t),(S' s)⟩ Z.heap.size rfl (by simp [go_sem, *]) (by simp [go_sem, *]) (by simp [go_sem, *]) (by simp [go_sem, *]) (by omega) (by simp;omega) ?_)
        | fail)
       intro va w6 ho hg;obtain⟨F6,h6,rfl,_,_⟩:=Qr ho;have HO6:Hid (w6.ownsRow w.heap.size 40 4 (.slice F6 (j+1) h6) (j+1) (Zb chL (O++ [⟨C t,R t,(S t),(S' s)⟩]))):=ho;have K6:Hid (Below w.heap.size w w6):=(KZ.out.alloc zw _).grown hg (by simp;omega) (fun j hj=>(HOZ.out.lt j hj).1);clear ho hg;go_wp2_with fail
       go_roundw
       case rel=>exact⟨t+1,s+1,O++ [⟨C t,R t,(S t),(S' s)⟩],F6,j+1,h6,by omega,by omega,rfl,by go_num,by go_num,HN1.out HNE.out,by simp [HJ.out],by omega,HO6.out,K6.out⟩
       case measure=>simp [intOf];omega
      ·have HNE:Hid (neH ⟨C t,R t,(S t),(S' s)⟩=false):=by show _=_;unfold neH;simp only;rw [HSM.out];rfl
       go_wp2_with fail
       go_roundw
       case rel=>exact⟨t+1,s+1,O,F,j,c,by omega,by omega,rfl,by go_num,by go_num,HN2.out HNE.out,HJ.out,by omega,HOZ.out,KZ.out⟩
       case measure=>simp [intOf];omega
     ·refine wp_region_held_drew (S:=(fun w'=>(∀bq oq,bq<X.heap.size→w'.cell? ⟨bq,oq,none⟩=X.cell? ⟨bq,oq,none⟩)∧X.heap.size≤w'.heap.size∧Below X.heap.size X w')) (by kernel_rfl) (Qm (by go_size) (by go_grown)) (fun hHeld=> ?_);refine tkA 0 ?_;refine tkB 1 ?_;refine tkA 2 ?_;refine tkB 3 ?_;refine tkA 4 ?_;refine tkB 5 ?_
      refine tkA 6 ?_;refine tkB 7 ?_;refine tkA 8 ?_;refine tkB 9 ?_;refine tkA 10 ?_;refine tkB 11 ?_;refine tkA 12 ?_
      refine tkB 13 ?_;refine tkB 14 ?_;refine rqA 15 (fun Kq hKq=> ?_);go_simp
      (refine(ZD _ _ _ _ _).mono ?_;rintro e w2 ⟨rfl,hb⟩;rw [HBA.out];obtain⟨hk2,hz2⟩:=Qi (B:=X.heap.size) (X:=X) (by go_grown) (by go_size) hb;have hC2:=fun b o h=>hk2.cell (p:=⟨b,o,none⟩) h;have hw2:=hk2.mono (Nat.le_of_lt zX0);have xb0:=(hk2.cell (p:=⟨wr.heap.size,0,none⟩) zX0).trans x0;have fb0:=(hk2.frozen (p:=⟨wr.heap.size,0,none⟩) zX0).trans f0;have xb1:=(hk2.cell (p:=⟨wr.heap.size,1,none⟩) zX0).trans x1;have fb1:=(hk2.frozen (p:=⟨wr.heap.size,1,none⟩) zX0).trans f1;have xb2:=(hk2.cell (p:=⟨wr.heap.size,2,none⟩) zX0).trans x2;have fb2:=(hk2.frozen (p:=⟨wr.heap.size,2,none⟩) zX0).trans f2;have xb3:=(hk2.cell (p:=⟨wr.heap.size,3,none⟩) zX0).trans x3;have fb3:=(hk2.frozen (p:=⟨wr.heap.size,3,none⟩) zX0).trans f3;have zXb:wr.heap.size<w2.heap.size:=Nat.lt_of_lt_of_le zX0 hk2.size;clear hb)
      refine hkB hKq (Qm (by go_size) (by go_grown)) fun hHeld=> ?_;clear hKq Kq;refine tkA 16 ?_;refine tkB 17 ?_;refine wpAnyH_done (by kernel_rfl) ?_ _;go_upto_region 15 with fail
      have hse:(S' s).toList.isEmpty=false:=Dv HCK'.out s hls;have hse2:((S' s).toList== [])=false:=by cases h9:(S' s).toList with | nil=>rw [h9]at hse;cases hse | cons _ _=>rfl
      have hse3:(([]:List UInt8)==(S' s).toList)=false:=by cases h9:(S' s).toList with | nil=>rw [h9]at hse;cases hse | cons _ _=>rfl
      have HNE0:Hid (neH ⟨C' s,R' s,⟨#[]⟩,(S' s)⟩=true):=by show _=_;unfold neH;simp only;rw [show(⟨#[]⟩:ByteArray).toList= []from by(first | rfl | decide | simp | kernel_rfl),hse3];rfl
      refine wp_region_held_drew (S:=(fun w'=>(∀bq oq,bq<wr.heap.size→w'.cell? ⟨bq,oq,none⟩=X.cell? ⟨bq,oq,none⟩)∧X.heap.size≤w'.heap.size∧Below wr.heap.size X w')) (by kernel_rfl) (XP (by go_size) (by have h9:=hw2;go_grown)) (fun hHeld=> ?_);refine tkA 0 ?_;refine tkB 1 ?_;refine tkA 2 ?_;refine tkB 3 ?_;refine tkA 4 ?_;refine tkB 5 ?_
      refine tkA 6 ?_;refine tkB 7 ?_;refine tkA 8 ?_;refine tkB 9 ?_;refine tkB 10 ?_;refine rqA 11 (fun Kq hKq=> ?_);go_simp
      skip
      refine hkB hKq (XP (by go_size) (by have h9:=hw2;go_grown)) fun hHeld=> ?_;clear hKq Kq;refine wpAnyH_done (by kernel_rfl) ?_ _;obtain⟨Z,HZ⟩: ∃Z,Hid (((((w2.setCell ⟨wr.heap.size,0,none⟩ (.int .i64 (C' s))).setCell ⟨wr.heap.size,1,none⟩ (.int .i64 (R' s))).setCell ⟨wr.heap.size,2,none⟩ (.string ⟨#[]⟩)).setCell ⟨wr.heap.size,3,none⟩ (.string (S' s))).drew=Z):=⟨_,rfl⟩;have z0:Z.cell? ⟨wr.heap.size,0,none⟩=some (.int .i64 (C' s)):=by rw [←HZ.out];go_simp
      have z1:Z.cell? ⟨wr.heap.size,1,none⟩=some (.int .i64 (R' s)):=by rw [←HZ.out];go_simp
      have z2:Z.cell? ⟨wr.heap.size,2,none⟩=some (.string ⟨#[]⟩):=by rw [←HZ.out];go_simp
      have z3:Z.cell? ⟨wr.heap.size,3,none⟩=some (.string (S' s)):=by rw [←HZ.out];go_simp
      rw [HZ.out]at hHeld;rw [HZ.out];have hwZ:=hHeld.2.2;have KZ:Hid (Below w.heap.size w Z):=KW.out.trans (hwZ.mono zv);have HOZ:=hd (Ql HO.out (KX.out.trans hwZ));have zZ:wr.heap.size<Z.heap.size:=by have h9:=hHeld.2.1;omega
      have zw:w.heap.size≤Z.heap.size:=by omega
      obtain⟨hN1,hN2⟩:=Ht (b:= []) (z:=⟨C' s,R' s,⟨#[]⟩,(S' s)⟩) (r2:=dfM ((clE C R S n).drop t) ((clE C' R' S' m).drop (s+1))) HDR.out (by rw [YQ hlt,YQ hls,dfM,if_neg (by rw [HLX.out];decide),if_pos HLY.out]);have HN1:Hid (_→_):=hN1;have HN2:Hid (_→_):=hN2;clear hHeld hwZ HZ HOX KX KW x0 x1 x2 x3 f0 f1 f2 f3 hN1 hN2;have HNE:Hid (neH ⟨C' s,R' s,⟨#[]⟩,(S' s)⟩=true):=HNE0.out
      go_wp2_with (first
       | (at_builtin;refine ZP rfl _ _ rfl w.heap.size (.slice F j c) j O rfl (HOZ.out.alloc _) ⟨C' s,R' s,⟨#[]⟩,(S' s)⟩ Z.heap.size rfl (by simp [go_sem, *]) (by simp [go_sem, *]) (by simp [go_sem, *]) (by simp [go_sem, *]) (by omega) (by simp;omega) ?_)
       | fail)
      intro va w6 ho hg;obtain⟨F6,h6,rfl,_,_⟩:=Qr ho;have HO6:Hid (w6.ownsRow w.heap.size 40 4 (.slice F6 (j+1) h6) (j+1) (Zb chL (O++ [⟨C' s,R' s,⟨#[]⟩,(S' s)⟩]))):=ho;have K6:Hid (Below w.heap.size w w6):=(KZ.out.alloc zw _).grown hg (by simp;omega) (fun j hj=>(HOZ.out.lt j hj).1);clear ho hg;go_wp2_with fail
      go_roundw
      case rel=>exact⟨t,s+1,O++ [⟨C' s,R' s,⟨#[]⟩,(S' s)⟩],F6,j+1,h6,by omega,by omega,rfl,by go_num,by go_num,HN1.out HNE.out,by simp [HJ.out],by omega,HO6.out,K6.out⟩
      case measure=>simp [intOf];omega
    ·refine wp_region_held_drew (S:=(fun w'=>(∀bq oq,bq<X.heap.size→w'.cell? ⟨bq,oq,none⟩=X.cell? ⟨bq,oq,none⟩)∧X.heap.size≤w'.heap.size∧Below X.heap.size X w')) (by kernel_rfl) (Qm (by go_size) (by go_grown)) (fun hHeld=> ?_);refine tkA 0 ?_;refine tkB 1 ?_;refine tkA 2 ?_;refine tkB 3 ?_;refine tkA 4 ?_;refine tkB 5 ?_
     refine tkA 6 ?_;refine tkB 7 ?_;refine tkA 8 ?_;refine tkB 9 ?_;refine tkA 10 ?_;refine tkB 11 ?_;refine tkA 12 ?_
     refine tkB 13 ?_;refine tkA 14 ?_;refine tkB 15 ?_;refine tkA 16 ?_;refine tkB 17 ?_;refine tkA 18 ?_;refine tkB 19 ?_
     refine rqA 20 (fun Kq hKq=> ?_);go_simp
     (refine(ZD _ _ _ _ _).mono ?_;rintro e w1 ⟨rfl,hb⟩;rw [HAB.out];obtain⟨hk1,hz1⟩:=Qi (B:=X.heap.size) (X:=X) (by go_grown) (by go_size) hb;have hC1:=fun b o h=>hk1.cell (p:=⟨b,o,none⟩) h;have hw1:=hk1.mono (Nat.le_of_lt zX0);have xa0:=(hk1.cell (p:=⟨wr.heap.size,0,none⟩) zX0).trans x0;have fa0:=(hk1.frozen (p:=⟨wr.heap.size,0,none⟩) zX0).trans f0;have xa1:=(hk1.cell (p:=⟨wr.heap.size,1,none⟩) zX0).trans x1;have fa1:=(hk1.frozen (p:=⟨wr.heap.size,1,none⟩) zX0).trans f1;have xa2:=(hk1.cell (p:=⟨wr.heap.size,2,none⟩) zX0).trans x2;have fa2:=(hk1.frozen (p:=⟨wr.heap.size,2,none⟩) zX0).trans f2;have xa3:=(hk1.cell (p:=⟨wr.heap.size,3,none⟩) zX0).trans x3;have fa3:=(hk1.frozen (p:=⟨wr.heap.size,3,none⟩) zX0).trans f3;have zXa:wr.heap.size<w1.heap.size:=Nat.lt_of_lt_of_le zX0 hk1.size;clear hb)
     refine hkB hKq (Qm (by go_size) (by go_grown)) fun hHeld=> ?_;clear hKq Kq;refine tkA 21 ?_;refine tkB 22 ?_;refine tkB 23 ?_;refine wpAnyH_done (by kernel_rfl) ?_ _;go_upto_region 12 with fail
     have hse:(S t).toList.isEmpty=false:=Dv HCK.out t hlt;have hse2:((S t).toList== [])=false:=by cases h9:(S t).toList with | nil=>rw [h9]at hse;cases hse | cons _ _=>rfl
     have HNE0:Hid (neH ⟨C t,R t,(S t),⟨#[]⟩⟩=true):=by show _=_;unfold neH;simp only;rw [show(⟨#[]⟩:ByteArray).toList= []from by(first | rfl | decide | simp | kernel_rfl),hse2];rfl
     refine wp_region_held_drew (S:=(fun w'=>(∀bq oq,bq<wr.heap.size→w'.cell? ⟨bq,oq,none⟩=X.cell? ⟨bq,oq,none⟩)∧X.heap.size≤w'.heap.size∧Below wr.heap.size X w')) (by kernel_rfl) (XP (by go_size) (by have h9:=hw1;go_grown)) (fun hHeld=> ?_);refine tkA 0 ?_;refine tkB 1 ?_;refine tkA 2 ?_;refine tkB 3 ?_;refine tkA 4 ?_;refine tkB 5 ?_
     refine tkA 6 ?_;refine tkB 7 ?_;refine tkA 8 ?_;refine tkB 9 ?_;refine tkB 10 ?_;refine rqA 11 (fun Kq hKq=> ?_);go_simp
     skip
     refine hkB hKq (XP (by go_size) (by have h9:=hw1;go_grown)) fun hHeld=> ?_;clear hKq Kq;refine wpAnyH_done (by kernel_rfl) ?_ _;obtain⟨Z,HZ⟩: ∃Z,Hid (((((w1.setCell ⟨wr.heap.size,0,none⟩ (.int .i64 (C t))).setCell ⟨wr.heap.size,1,none⟩ (.int .i64 (R t))).setCell ⟨wr.heap.size,2,none⟩ (.string (S t))).setCell ⟨wr.heap.size,3,none⟩ (.string ⟨#[]⟩)).drew=Z):=⟨_,rfl⟩;have z0:Z.cell? ⟨wr.heap.size,0,none⟩=some (.int .i64 (C t)):=by rw [←HZ.out];go_simp
     have z1:Z.cell? ⟨wr.heap.size,1,none⟩=some (.int .i64 (R t)):=by rw [←HZ.out];go_simp
     have z2:Z.cell? ⟨wr.heap.size,2,none⟩=some (.string (S t)):=by rw [←HZ.out];go_simp
     have z3:Z.cell? ⟨wr.heap.size,3,none⟩=some (.string ⟨#[]⟩):=by rw [←HZ.out];go_simp
     rw [HZ.out]at hHeld;rw [HZ.out];have hwZ:=hHeld.2.2;have KZ:Hid (Below w.heap.size w Z):=KW.out.trans (hwZ.mono zv);have HOZ:=hd (Ql HO.out (KX.out.trans hwZ));have zZ:wr.heap.size<Z.heap.size:=by have h9:=hHeld.2.1;omega
     have zw:w.heap.size≤Z.heap.size:=by omega
     obtain⟨hN1,hN2⟩:=Ht (b:= []) (z:=⟨C t,R t,(S t),⟨#[]⟩⟩) (r2:=dfM ((clE C R S n).drop (t+1)) ((clE C' R' S' m).drop s)) HDR.out (by rw [YQ hlt,YQ hls,dfM,if_pos HLX.out]);have HN1:Hid (_→_):=hN1;have HN2:Hid (_→_):=hN2;clear hHeld hwZ HZ HOX KX KW x0 x1 x2 x3 f0 f1 f2 f3 hN1 hN2;have HNE:Hid (neH ⟨C t,R t,(S t),⟨#[]⟩⟩=true):=HNE0.out
     go_wp2_with (first
      | (at_builtin;refine ZP rfl _ _ rfl w.heap.size (.slice F j c) j O rfl (HOZ.out.alloc _) ⟨C t,R t,(S t),⟨#[]⟩⟩ Z.heap.size rfl (by simp [go_sem, *]) (by simp [go_sem, *]) (by simp [go_sem, *]) (by simp [go_sem, *]) (by omega) (by simp;omega) ?_)
      | fail)
     intro va w6 ho hg;obtain⟨F6,h6,rfl,_,_⟩:=Qr ho;have HO6:Hid (w6.ownsRow w.heap.size 40 4 (.slice F6 (j+1) h6) (j+1) (Zb chL (O++ [⟨C t,R t,(S t),⟨#[]⟩⟩]))):=ho;have K6:Hid (Below w.heap.size w w6):=(KZ.out.alloc zw _).grown hg (by simp;omega) (fun j hj=>(HOZ.out.lt j hj).1);clear ho hg;go_wp2_with fail
     go_roundw
     case rel=>exact⟨t+1,s,O++ [⟨C t,R t,(S t),⟨#[]⟩⟩],F6,j+1,h6,by omega,by omega,rfl,by go_num,by go_num,HN1.out HNE.out,by simp [HJ.out],by omega,HO6.out,K6.out⟩
     case measure=>simp [intOf];omega
   ·obtain rfl:s=m:=by omega
    obtain⟨b,o,rfl,hl,c0,c1,c2,_⟩:=HR.out.2 t hlt;rw [←KV.out.cell (p:=⟨_,_,none⟩) hl]at c0 c1 c2;have hl2:b<wr.heap.size:=Nat.lt_of_lt_of_le hl KV.out.size;have q0:(0:Int)≤(t:Int):=by omega
    have q1:(t:Int)<(n:Int):=by omega
    have e1:((s:Int)==(s:Int))=true:=by simp
    go_upto_region 11 with fail
    obtain⟨X,HX⟩: ∃X,Hid (wr.alloc (.cells #[.int .i64 0,.int .i64 0,.string ⟨#[]⟩,.string ⟨#[]⟩] 40)=X):=⟨_,rfl⟩;rw [HX.out];have x0:X.cell? ⟨wr.heap.size,0,none⟩=some (.int .i64 0):=by rw [←HX.out];go_simp
    have x1:X.cell? ⟨wr.heap.size,1,none⟩=some (.int .i64 0):=by rw [←HX.out];go_simp
    have x2:X.cell? ⟨wr.heap.size,2,none⟩=some (.string ⟨#[]⟩):=by rw [←HX.out];go_simp
    have x3:X.cell? ⟨wr.heap.size,3,none⟩=some (.string ⟨#[]⟩):=by rw [←HX.out];go_simp
    have f0:X.frozen? ⟨wr.heap.size,0,none⟩=false:=by rw [←HX.out];go_simp
    have f1:X.frozen? ⟨wr.heap.size,1,none⟩=false:=by rw [←HX.out];go_simp
    have f2:X.frozen? ⟨wr.heap.size,2,none⟩=false:=by rw [←HX.out];go_simp
    have f3:X.frozen? ⟨wr.heap.size,3,none⟩=false:=by rw [←HX.out];go_simp
    have zX:wr.heap.size<X.heap.size:=by rw [←HX.out];simp
    have zX0:wr.heap.size<X.heap.size:=zX;have KX:Hid (Below wr.heap.size wr X):=by rw [←HX.out];show Below _ _ _;go_grown
    have KW:=hd (Qe KV.out KX.out);have HOX:=hd (Ql HO.out KX.out);clear HX;replace c0:=(KX.out.cell (p:=⟨b,_,none⟩) hl2).trans c0;replace c1:=(KX.out.cell (p:=⟨b,_,none⟩) hl2).trans c1;replace c2:=(KX.out.cell (p:=⟨b,_,none⟩) hl2).trans c2;have hl3:b<X.heap.size:=by omega
    have hw0:Below wr.heap.size X X:=Below.refl _ _;refine wp_region_held_drew (S:=(fun w'=>(∀bq oq,bq<X.heap.size→w'.cell? ⟨bq,oq,none⟩=X.cell? ⟨bq,oq,none⟩)∧X.heap.size≤w'.heap.size∧Below X.heap.size X w')) (by kernel_rfl) (Qm (by go_size) (by go_grown)) (fun hHeld=> ?_);refine tkA 0 ?_;refine tkB 1 ?_;refine tkA 2 ?_;refine tkB 3 ?_;refine tkA 4 ?_
    refine tnB 5 ?_;refine tnA 6 ?_;refine tnB 7 ?_;refine tnA 8 ?_;refine tnB 9 ?_;refine tnA 10 ?_;refine tnB 11 ?_
    refine tnA 12 ?_;refine tnB 13 ?_;refine tnA 14 ?_;refine tnB 15 ?_;refine tnA 16 ?_;refine tnB 17 ?_;refine tnA 18 ?_
    refine tnB 19 ?_;refine tnA 20 ?_;refine tnB 21 ?_;refine tkA 22 ?_;refine tkB 23 ?_;refine wpAnyH_done (by kernel_rfl) ?_ _;go_upto_region 12 with fail
    have hse:(S t).toList.isEmpty=false:=Dv HCK.out t hlt;have hse2:((S t).toList== [])=false:=by cases h9:(S t).toList with | nil=>rw [h9]at hse;cases hse | cons _ _=>rfl
    have HNE0:Hid (neH ⟨C t,R t,(S t),⟨#[]⟩⟩=true):=by show _=_;unfold neH;simp only;rw [show(⟨#[]⟩:ByteArray).toList= []from by(first | rfl | decide | simp | kernel_rfl),hse2];rfl
    refine wp_region_held_drew (S:=(fun w'=>(∀bq oq,bq<wr.heap.size→w'.cell? ⟨bq,oq,none⟩=X.cell? ⟨bq,oq,none⟩)∧X.heap.size≤w'.heap.size∧Below wr.heap.size X w')) (by kernel_rfl) (XP (by go_size) (by have h9:=hw0;go_grown)) (fun hHeld=> ?_);refine tkA 0 ?_;refine tkB 1 ?_;refine tkA 2 ?_;refine tkB 3 ?_;refine tkA 4 ?_;refine tkB 5 ?_
    refine tkA 6 ?_;refine tkB 7 ?_;refine tkA 8 ?_;refine tkB 9 ?_;refine tkB 10 ?_;refine rqA 11 (fun Kq hKq=> ?_);go_simp
    skip
    refine hkB hKq (XP (by go_size) (by have h9:=hw0;go_grown)) fun hHeld=> ?_;clear hKq Kq;refine wpAnyH_done (by kernel_rfl) ?_ _;obtain⟨Z,HZ⟩: ∃Z,Hid (((((X.setCell ⟨wr.heap.size,0,none⟩ (.int .i64 (C t))).setCell ⟨wr.heap.size,1,none⟩ (.int .i64 (R t))).setCell ⟨wr.heap.size,2,none⟩ (.string (S t))).setCell ⟨wr.heap.size,3,none⟩ (.string ⟨#[]⟩)).drew.drew=Z):=⟨_,rfl⟩;have z0:Z.cell? ⟨wr.heap.size,0,none⟩=some (.int .i64 (C t)):=by rw [←HZ.out];go_simp
    have z1:Z.cell? ⟨wr.heap.size,1,none⟩=some (.int .i64 (R t)):=by rw [←HZ.out];go_simp
    have z2:Z.cell? ⟨wr.heap.size,2,none⟩=some (.string (S t)):=by rw [←HZ.out];go_simp
    have z3:Z.cell? ⟨wr.heap.size,3,none⟩=some (.string ⟨#[]⟩):=by rw [←HZ.out];go_simp
    rw [HZ.out]at hHeld;rw [HZ.out];have hwZ:=hHeld.2.2;have KZ:Hid (Below w.heap.size w Z):=KW.out.trans (hwZ.mono zv);have HOZ:=hd (Ql HO.out (KX.out.trans hwZ));have zZ:wr.heap.size<Z.heap.size:=by have h9:=hHeld.2.1;omega
    have zw:w.heap.size≤Z.heap.size:=by omega
    obtain⟨hN1,hN2⟩:=Ht (b:= []) (z:=⟨C t,R t,(S t),⟨#[]⟩⟩) (r2:=dfM ((clE C R S n).drop (t+1)) ((clE C' R' S' s).drop s)) HDR.out (by rw [YQ hlt,YY,dfM]);have HN1:Hid (_→_):=hN1;have HN2:Hid (_→_):=hN2;clear hHeld hwZ HZ HOX KX KW x0 x1 x2 x3 f0 f1 f2 f3 hN1 hN2;have HNE:Hid (neH ⟨C t,R t,(S t),⟨#[]⟩⟩=true):=HNE0.out
    go_wp2_with (first
     | (at_builtin;refine ZP rfl _ _ rfl w.heap.size (.slice F j c) j O rfl (HOZ.out.alloc _) ⟨C t,R t,(S t),⟨#[]⟩⟩ Z.heap.size rfl (by simp [go_sem, *]) (by simp [go_sem, *]) (by simp [go_sem, *]) (by simp [go_sem, *]) (by omega) (by simp;omega) ?_)
     | fail)
    intro va w6 ho hg;obtain⟨F6,h6,rfl,_,_⟩:=Qr ho;have HO6:Hid (w6.ownsRow w.heap.size 40 4 (.slice F6 (j+1) h6) (j+1) (Zb chL (O++ [⟨C t,R t,(S t),⟨#[]⟩⟩]))):=ho;have K6:Hid (Below w.heap.size w w6):=(KZ.out.alloc zw _).grown hg (by simp;omega) (fun j hj=>(HOZ.out.lt j hj).1);clear ho hg;go_wp2_with fail
    go_roundw
    case rel=>exact⟨t+1,s,O++ [⟨C t,R t,(S t),⟨#[]⟩⟩],F6,j+1,h6,by omega,by omega,rfl,by go_num,by go_num,HN1.out HNE.out,by simp [HJ.out],by omega,HO6.out,K6.out⟩
    case measure=>simp [intOf];omega
  ·have hls:s<m:=by omega
   obtain rfl:t=n:=by omega
   obtain⟨b',o',rfl,hl',d0,d1,d2,_⟩:=HR'.out.2 s hls;rw [←KV.out.cell (p:=⟨_,_,none⟩) hl']at d0 d1 d2;have hl2':b'<wr.heap.size:=Nat.lt_of_lt_of_le hl' KV.out.size;have p0:(0:Int)≤(s:Int):=by omega
   have p1:(s:Int)<(m:Int):=by omega
   have e1:((s:Int)==(m:Int))=false:=by simp;omega
   have e2:((t:Int)==(t:Int))=true:=by simp
   have q1: ¬(t:Int)<(t:Int):=by omega
   go_upto_region 11 with fail
   obtain⟨X,HX⟩: ∃X,Hid (wr.alloc (.cells #[.int .i64 0,.int .i64 0,.string ⟨#[]⟩,.string ⟨#[]⟩] 40)=X):=⟨_,rfl⟩;rw [HX.out];have x0:X.cell? ⟨wr.heap.size,0,none⟩=some (.int .i64 0):=by rw [←HX.out];go_simp
   have x1:X.cell? ⟨wr.heap.size,1,none⟩=some (.int .i64 0):=by rw [←HX.out];go_simp
   have x2:X.cell? ⟨wr.heap.size,2,none⟩=some (.string ⟨#[]⟩):=by rw [←HX.out];go_simp
   have x3:X.cell? ⟨wr.heap.size,3,none⟩=some (.string ⟨#[]⟩):=by rw [←HX.out];go_simp
   have f0:X.frozen? ⟨wr.heap.size,0,none⟩=false:=by rw [←HX.out];go_simp
   have f1:X.frozen? ⟨wr.heap.size,1,none⟩=false:=by rw [←HX.out];go_simp
   have f2:X.frozen? ⟨wr.heap.size,2,none⟩=false:=by rw [←HX.out];go_simp
   have f3:X.frozen? ⟨wr.heap.size,3,none⟩=false:=by rw [←HX.out];go_simp
   have zX:wr.heap.size<X.heap.size:=by rw [←HX.out];simp
   have zX0:wr.heap.size<X.heap.size:=zX;have KX:Hid (Below wr.heap.size wr X):=by rw [←HX.out];show Below _ _ _;go_grown
   have KW:=hd (Qe KV.out KX.out);have HOX:=hd (Ql HO.out KX.out);clear HX;replace d0:=(KX.out.cell (p:=⟨b',_,none⟩) hl2').trans d0;replace d1:=(KX.out.cell (p:=⟨b',_,none⟩) hl2').trans d1;replace d2:=(KX.out.cell (p:=⟨b',_,none⟩) hl2').trans d2;have hl3':b'<X.heap.size:=by omega
   have hw0:Below wr.heap.size X X:=Below.refl _ _;refine wp_region_held_drew (S:=(fun w'=>(∀bq oq,bq<X.heap.size→w'.cell? ⟨bq,oq,none⟩=X.cell? ⟨bq,oq,none⟩)∧X.heap.size≤w'.heap.size∧Below X.heap.size X w')) (by kernel_rfl) (Qm (by go_size) (by go_grown)) (fun hHeld=> ?_);refine tkA 0 ?_;refine tkB 1 ?_;refine tkA 2 ?_;refine tkB 3 ?_;refine tkA 4 ?_
   refine tkB 5 ?_;refine tkA 6 ?_;refine tkB 7 ?_;refine tkA 8 ?_;refine tkB 9 ?_;refine tnA 10 ?_;refine tnB 11 ?_
   refine tnA 12 ?_;refine tnB 13 ?_;refine tnA 14 ?_;refine tnB 15 ?_;refine tnA 16 ?_;refine tnB 17 ?_;refine tnA 18 ?_
   refine tnB 19 ?_;refine tnA 20 ?_;refine tkB 21 ?_;refine tkA 22 ?_;refine tkB 23 ?_;refine wpAnyH_done (by kernel_rfl) ?_ _;go_upto_region 14 with fail
   refine wp_region_held_drew (S:=(fun w'=>(∀bq oq,bq<X.heap.size→w'.cell? ⟨bq,oq,none⟩=X.cell? ⟨bq,oq,none⟩)∧X.heap.size≤w'.heap.size∧Below X.heap.size X w')) (by kernel_rfl) (Qm (by go_size) (by go_grown)) (fun hHeld=> ?_);refine tkA 0 ?_;refine tkB 1 ?_;refine tkA 2 ?_;refine tkB 3 ?_;refine tkA 4 ?_;refine tnB 5 ?_
   refine tnA 6 ?_;refine tnB 7 ?_;refine tnA 8 ?_;refine tnB 9 ?_;refine tnA 10 ?_;refine tnB 11 ?_;refine tnA 12 ?_
   refine tnB 13 ?_;refine tnA 14 ?_;refine tnB 15 ?_;refine tkA 16 ?_;refine tkB 17 ?_;refine wpAnyH_done (by kernel_rfl) ?_ _;go_upto_region 15 with fail
   have hse:(S' s).toList.isEmpty=false:=Dv HCK'.out s hls;have hse2:((S' s).toList== [])=false:=by cases h9:(S' s).toList with | nil=>rw [h9]at hse;cases hse | cons _ _=>rfl
   have hse3:(([]:List UInt8)==(S' s).toList)=false:=by cases h9:(S' s).toList with | nil=>rw [h9]at hse;cases hse | cons _ _=>rfl
   have HNE0:Hid (neH ⟨C' s,R' s,⟨#[]⟩,(S' s)⟩=true):=by show _=_;unfold neH;simp only;rw [show(⟨#[]⟩:ByteArray).toList= []from by(first | rfl | decide | simp | kernel_rfl),hse3];rfl
   refine wp_region_held_drew (S:=(fun w'=>(∀bq oq,bq<wr.heap.size→w'.cell? ⟨bq,oq,none⟩=X.cell? ⟨bq,oq,none⟩)∧X.heap.size≤w'.heap.size∧Below wr.heap.size X w')) (by kernel_rfl) (XP (by go_size) (by have h9:=hw0;go_grown)) (fun hHeld=> ?_);refine tkA 0 ?_;refine tkB 1 ?_;refine tkA 2 ?_;refine tkB 3 ?_;refine tkA 4 ?_;refine tkB 5 ?_
   refine tkA 6 ?_;refine tkB 7 ?_;refine tkA 8 ?_;refine tkB 9 ?_;refine tkB 10 ?_;refine rqA 11 (fun Kq hKq=> ?_);go_simp
   skip
   refine hkB hKq (XP (by go_size) (by have h9:=hw0;go_grown)) fun hHeld=> ?_;clear hKq Kq;refine wpAnyH_done (by kernel_rfl) ?_ _;obtain⟨Z,HZ⟩: ∃Z,Hid (((((X.setCell ⟨wr.heap.size,0,none⟩ (.int .i64 (C' s))).setCell ⟨wr.heap.size,1,none⟩ (.int .i64 (R' s))).setCell ⟨wr.heap.size,2,none⟩ (.string ⟨#[]⟩)).setCell ⟨wr.heap.size,3,none⟩ (.string (S' s))).drew.drew.drew=Z):=⟨_,rfl⟩;have z0:Z.cell? ⟨wr.heap.size,0,none⟩=some (.int .i64 (C' s)):=by rw [←HZ.out];go_simp
   have z1:Z.cell? ⟨wr.heap.size,1,none⟩=some (.int .i64 (R' s)):=by rw [←HZ.out];go_simp
   have z2:Z.cell? ⟨wr.heap.size,2,none⟩=some (.string ⟨#[]⟩):=by rw [←HZ.out];go_simp
   have z3:Z.cell? ⟨wr.heap.size,3,none⟩=some (.string (S' s)):=by rw [←HZ.out];go_simp
   rw [HZ.out]at hHeld;rw [HZ.out];have hwZ:=hHeld.2.2;have KZ:Hid (Below w.heap.size w Z):=KW.out.trans (hwZ.mono zv);have HOZ:=hd (Ql HO.out (KX.out.trans hwZ));have zZ:wr.heap.size<Z.heap.size:=by have h9:=hHeld.2.1;omega
   have zw:w.heap.size≤Z.heap.size:=by omega
   obtain⟨hN1,hN2⟩:=Ht (b:= []) (z:=⟨C' s,R' s,⟨#[]⟩,(S' s)⟩) (r2:=dfM ((clE C R S t).drop t) ((clE C' R' S' m).drop (s+1))) HDR.out (by rw [YQ hls,YY,dfM]);have HN1:Hid (_→_):=hN1;have HN2:Hid (_→_):=hN2;clear hHeld hwZ HZ HOX KX KW x0 x1 x2 x3 f0 f1 f2 f3 hN1 hN2;have HNE:Hid (neH ⟨C' s,R' s,⟨#[]⟩,(S' s)⟩=true):=HNE0.out
   go_wp2_with (first
    | (at_builtin;refine ZP rfl _ _ rfl w.heap.size (.slice F j c) j O rfl (HOZ.out.alloc _) ⟨C' s,R' s,⟨#[]⟩,(S' s)⟩ Z.heap.size rfl (by simp [go_sem, *]) (by simp [go_sem, *]) (by simp [go_sem, *]) (by simp [go_sem, *]) (by omega) (by simp;omega) ?_)
    | fail)
   intro va w6 ho hg;obtain⟨F6,h6,rfl,_,_⟩:=Qr ho;have HO6:Hid (w6.ownsRow w.heap.size 40 4 (.slice F6 (j+1) h6) (j+1) (Zb chL (O++ [⟨C' s,R' s,⟨#[]⟩,(S' s)⟩]))):=ho;have K6:Hid (Below w.heap.size w w6):=(KZ.out.alloc zw _).grown hg (by simp;omega) (fun j hj=>(HOZ.out.lt j hj).1);clear ho hg;go_wp2_with fail
   go_roundw
   case rel=>exact⟨t,s+1,O++ [⟨C' s,R' s,⟨#[]⟩,(S' s)⟩],F6,j+1,h6,by omega,by omega,rfl,by go_num,by go_num,HN1.out HNE.out,by simp [HJ.out],by omega,HO6.out,K6.out⟩
   case measure=>simp [intOf];omega
end Go.Proofs.YthjldgbfgapbcaaGreatDoor
