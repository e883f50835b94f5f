import Derived.Test.YtekcnhfkmimodaaGreatDoorGzj
import Derived.Test.YtekcnhfkmimodaaGreatDoorGaa
import Derived.Deep.RegionHeld3
import Derived.Deep.QuietTactic
import Derived.Test.YtekcnhfkmimodaaGreatDoorGzeA
import Derived.Maps.Own
import Derived.Maps.OwnOps
import Derived.Maps.OwnSet
import Derived.DeepKeys4
import Derived.Test.YtekcnhfkmimodaaGreatDoorGze
import Derived.BigQuiet
import Derived.Test.YtekcnhfkmimodaaGreatDoorGar2
import Derived.Test.YtekcnhfkmimodaaGreatDoorGad
import Derived.Test.YtekcnhfkmimodaaGreatDoorGbf
import Derived.Test.YtekcnhfkmimodaaGreatDoorGay
import Derived.Test.YtekcnhfkmimodaaGreatDoorMn
set_option linter.unusedSimpArgs false
set_option linter.unusedVariables false
set_option maxHeartbeats 8000000
set_option maxRecDepth 100000
namespace Go.Proofs.YtekcnhfkmimodaaGreatDoor
open Go.RowKit Go.Maps
def rfL (p:Int × Int):List Value:= [.int .i64 p.1,.int .i64 p.2]
theorem Qkz:(Tryz.prog.info? 30).map (fun i=>(i.zero,i.size,i.bytes))=some (some (.agg #[.int .i64 0,.int .i64 0]),2,16):=by kernel_rfl
theorem Ju {ops:Array Oper} {rest:List Oper} {o:Oper} {a:Act} {Q:Exit→Act→World→Prop} {W:World} (hgd:o.guard=none) (s x:Operand) (ho:o.op= .call {callee:= .builtin .append,args:= #[s,x],argTypes:= #[26,26]}) (B:Nat) (v:Value) (n:Nat) (L:List (Int × Int)) (hs:a.eval s=v)
  (hown:W.ownsRow B 30 2 v n (QP rfL L)) (z:Int × Int) (g:Nat) (hx:a.eval x= .slice (some ⟨g,0,none⟩) 1 1) (h0:W.cell? ⟨g,0,none⟩=some (.int .i64 z.1)) (h1:W.cell? ⟨g,1,none⟩=some (.int .i64 z.2)) (hn:n≤1099511627776) (hB:B≤W.heap.size)
  (h: ∀v' w',w'.ownsRow B 30 2 v' (n+1) (QP rfL (L++ [z]))→W.grownBy w' v.ownBlock→wpList Tryz.prog ops Q rest (a.put o.dst v') w'):wpList Tryz.prog ops Q (o::rest) a W:=by
 obtain⟨i0,hi,iz0,iz1,iz2⟩:=info_parts Qkz;refine wpList_append_own W hgd s x 26 ho B 30 i0 (.agg #[.int .i64 0,.int .i64 0]) 2 16 Tryz.underlying26 hi iz0 iz1 iz2 rfl (by decide) v n _ hs hown ⟨g,0,none⟩ 1 1 (rfL z) hx rfl ?_ ?_ ?_ ?_ hB ?_
 ·intro q u hq;match q,hq with
  | 0,hq=>simp [rfL]at hq;subst hq;simpa [Addr.add]using h0
  | 1,hq=>simp [rfL]at hq;subst hq;simpa [Addr.add]using h1
 ·intro u hu;simp [rfL]at hu;rcases hu with rfl | rfl<;>rfl
 ·unfold maxLen;omega
 ·omega
 ·intro v' w3 hown' hgrow _;refine h v' w3 ?_ hgrow;rw [Qb5];exact hown'
structure RfR (W:World) (A:Option Addr) (n:Nat) (P:List (Int × Int)):Prop where
 len:P.length=n
 lim:n≤maxLen
 at_: ∀i,i<n→ ∃b o,A=some ⟨b,o,none⟩∧b<W.heap.size∧W.cell? ⟨b,o+i*2,none⟩=some (.int .i64 (P.getD i (0,0)).1)∧W.cell? ⟨b,o+i*2+1,none⟩=some (.int .i64 (P.getD i (0,0)).2)
theorem RfR.below {W W':World} {A:Option Addr} {n:Nat} {P:List (Int × Int)} (h:RfR W A n P) (hb:Below W.heap.size W W'):RfR W' A n P:=
 ⟨h.len,h.lim,fun i hi=>by
  obtain⟨b,o,e,hl,c0,c1⟩:=h.at_ i hi
  exact⟨b,o,e,Nat.lt_of_lt_of_le hl hb.size,(hb.cell (p:=⟨b,_,none⟩) hl).trans c0,(hb.cell (p:=⟨b,_,none⟩) hl).trans c1⟩⟩
theorem RfR.of_own {W:World} {B n cap:Nat} {A:Option Addr} {P:List (Int × Int)} (h:W.ownsRow B 30 2 (.slice A n cap) n (QP rfL P)) (hP:P.length=n):RfR W A n P:=by
 obtain⟨A',cap',e,hn,hc⟩:=Qj h;cases e
 refine⟨hP,hn,fun i hi=> ?_⟩;have hat:P[i]? =some (P.getD i (0,0)):=by rw [List.getD_eq_getElem?_getD,List.getElem?_eq_getElem (by omega)];rfl
 have cell: ∀j,j<2→ ∃g,A=some ⟨g,0,none⟩∧g<W.heap.size∧W.cell? ⟨g,i*2+j,none⟩=(rfL (P.getD i (0,0)))[j]?:=fun j hj=>by
  obtain⟨g,e,_,hl,c,_⟩:=hc (i*2+j) (by omega);refine⟨g,e,hl,?_⟩;rw [c,XH (f:=rfL) (k:=2) (fun _=>rfl) j hj,hat];rfl
 obtain⟨g,rfl,hl,c0⟩:=cell 0 (by omega);obtain⟨g1,e1,_,c1⟩:=cell 1 (by omega);cases e1
 exact⟨g,0,rfl,hl,by rw [Nat.zero_add];exact c0,by rw [Nat.zero_add];exact c1⟩
end Go.Proofs.YtekcnhfkmimodaaGreatDoor
namespace Go.Proofs.YtekcnhfkmimodaaGreatDoor
open Go.RowKit
structure CE where
 c:Int
 r:Int
 s:ByteArray
def ceL (x:CE):List Value:= [.int .i64 x.c,.int .i64 x.r,.string x.s]
theorem Qaj (x:CE):(ceL x).length=3:=rfl
def Qlr (k:Int):CE:=⟨k,(k+1),mtx (k+1+1)⟩
theorem Hl {B n:Nat} {v:Value} {xs:List Value} (k0:Int) (w:World) (h:w.ownsRow B 48 3 v n xs) (hn:n≤1048576) (hk0:0<k0) (hk1:k0≤70368744177664):
  Calls Tryz.prog 13 #[v,.int .i64 k0] w fun e w'=>e= .returned (.int .i64 (k0+(n:Int)*3))∧w'.ownsRow B 48 3 v n (QP ceL (mkL Qlr 3 k0 n))∧w.grownBy w' v.ownBlock:=by
 have HO:Hid (w.ownsRow B 48 3 v n xs):=h;obtain⟨A,cap,rfl,_,_⟩:=Qj h;clear h;obtain⟨LL,HLL⟩: ∃LL,Hid (mkL Qlr 3 k0 n=LL):=⟨_,rfl⟩;rw [HLL.out];go_enter Tryz.func13,Tryz.ntmps13;go_wp2_with fail
 go_loopw [1,5] (fun q i wr=> ∃t:Nat,t≤n∧i= .int .i64 t∧q= .int .i64 (k0+(t:Int)*3)∧(∃ys,wr.ownsRow B 48 3 (.slice A n cap) n ys∧ ∀j,j<t*3→ys[j]? =(QP ceL LL)[j]?)∧w.grownBy wr (Value.slice A n cap).ownBlock) (fun _ i _=>n-(intOf i).toNat)
 case atStart=>exact⟨0,Nat.zero_le _,rfl,by simp,⟨xs,HO.out,fun j hj=>by omega⟩,World.grownBy.refl _ _⟩
 case round=>
  clear HO;obtain⟨t,ht,rfl,rfl,⟨ys,hown,hys⟩,hgr⟩:=hrel;by_cases hlt:t<n
  ·obtain⟨k,HK⟩: ∃k:Int,Hid (k0+(t:Int)*3=k):=⟨_,rfl⟩;have hp0:0<k:=by have:=HK.out;omega
   have hp1:k≤70378744177664:=by have:=HK.out;omega
   have HX:Hid (∀j,j<3→(QP ceL LL)[t*3+j]? =(ceL (Qlr k))[j]?):=fun j hj=>by
    rw [←HLL.out,XH Qaj j hj,Qki _ _ _ _ _ hlt,←HK.out];rfl
   rw [HK.out]
   obtain⟨g,rfl⟩: ∃g,A=some ⟨g,0,none⟩:=by
    obtain⟨A',cap',e,_,hc⟩:=Qj hown;cases e
    obtain⟨g,e,_⟩:=hc (t*3) (by omega);exact⟨g,e⟩
   have HA0:Hid (∃ys,wr.ownsRow B 48 3 (.slice (some ⟨g,0,none⟩) n cap) n ys∧(∀j,j<t*3→ys[j]? =(QP ceL LL)[j]?)∧w.grownBy wr (some g)):=⟨ys,hown,hys,hgr⟩;clear hown hys hgr;have q0:(0:Int)≤(t:Int):=by omega
   have q1:(t:Int)<(n:Int):=by omega
   obtain⟨ys0,o0,p0,r0⟩:=HA0.out;obtain⟨A',cap',e,_,hc⟩:=Qj o0;cases e
   obtain⟨gg,e0,_,hg0,d0,f0⟩:=hc (t*3) (by omega);cases e0
   clear hc;have hl:=o0.1;obtain⟨x0,y0⟩: ∃x,ys0[t*3]? =some x:=⟨_,List.getElem?_eq_getElem (by omega)⟩;rw [y0]at d0;clear y0 hl
   have HP0:Hid (∃ys,((wr.setCell ⟨g,t*3,none⟩ (.int .i64 (k)))).ownsRow B 48 3 (.slice (some ⟨g,0,none⟩) n cap) n ys∧(∀j,j<t*3+1→ys[j]? =(QP ceL LL)[j]?)∧w.grownBy ((wr.setCell ⟨g,t*3,none⟩ (.int .i64 (k)))) (some g)):=by
    obtain⟨oq,gq⟩:=o0.stored (t*3) (.int .i64 (k));refine⟨_,oq,fun j hj=> ?_,QV r0 gq⟩;by_cases e:t*3=j
    ·subst e;rw [List.getElem?_set_self (by have:=o0.1;omega)];exact(HX.out 0 (by omega)).symm
    ·rw [List.getElem?_set_ne e];exact p0 j (by omega)
   clear o0 p0 r0;clear HA0;obtain⟨ys1,o1,p1,r1⟩:=HP0.out;obtain⟨A',cap',e,_,hc⟩:=Qj o1;cases e
   obtain⟨gg,e1,_,hg1,d1,f1⟩:=hc (t*3+1) (by omega);cases e1
   clear hc;have hl:=o1.1;obtain⟨x1,y1⟩: ∃x,ys1[t*3+1]? =some x:=⟨_,List.getElem?_eq_getElem (by omega)⟩;rw [y1]at d1;clear y1 hl
   have HP1:Hid (∃ys,(((wr.setCell ⟨g,t*3,none⟩ (.int .i64 (k))).setCell ⟨g,t*3+1,none⟩ (.int .i64 (k+1)))).ownsRow B 48 3 (.slice (some ⟨g,0,none⟩) n cap) n ys∧(∀j,j<t*3+2→ys[j]? =(QP ceL LL)[j]?)∧w.grownBy (((wr.setCell ⟨g,t*3,none⟩ (.int .i64 (k))).setCell ⟨g,t*3+1,none⟩ (.int .i64 (k+1)))) (some g)):=by
    obtain⟨oq,gq⟩:=o1.stored (t*3+1) (.int .i64 (k+1));refine⟨_,oq,fun j hj=> ?_,QV r1 gq⟩;by_cases e:t*3+1=j
    ·subst e;rw [List.getElem?_set_self (by have:=o1.1;omega)];exact(HX.out 1 (by omega)).symm
    ·rw [List.getElem?_set_ne e];exact p1 j (by omega)
   clear o1 p1 r1;clear HP0;go_wp2_with fail
   refine(Hk _ _ (by omega) (by omega)).mono ?_;rintro e w2 ⟨rfl,hb⟩
   have HB2:Hid (∃ys,w2.ownsRow B 48 3 (.slice (some ⟨g,0,none⟩) n cap) n ys∧(∀j,j<t*3+2→ys[j]? =(QP ceL LL)[j]?)∧w.grownBy w2 (some g)):=by
    obtain⟨z,o1,p1,g1⟩:=HP1.out;exact⟨z,Qe o1 hb,p1,QV g1 (Yx _ hb)⟩
   clear hb HP1 d0 f0 d1 f1;obtain⟨ys2,o2,p2,r2⟩:=HB2.out;obtain⟨A',cap',e,_,hc⟩:=Qj o2;cases e
   obtain⟨gg,e2,_,hg2,d2,f2⟩:=hc (t*3+2) (by omega);cases e2
   clear hc;have hl:=o2.1;obtain⟨x2,y2⟩: ∃x,ys2[t*3+2]? =some x:=⟨_,List.getElem?_eq_getElem (by omega)⟩;rw [y2]at d2;clear y2 hl
   have HP2:Hid (∃ys,((w2.setCell ⟨g,t*3+2,none⟩ (.string (mtx (k+1+1))))).ownsRow B 48 3 (.slice (some ⟨g,0,none⟩) n cap) n ys∧(∀j,j<t*3+3→ys[j]? =(QP ceL LL)[j]?)∧w.grownBy ((w2.setCell ⟨g,t*3+2,none⟩ (.string (mtx (k+1+1))))) (some g)):=by
    obtain⟨oq,gq⟩:=o2.stored (t*3+2) (.string (mtx (k+1+1)));refine⟨_,oq,fun j hj=> ?_,QV r2 gq⟩;by_cases e:t*3+2=j
    ·subst e;rw [List.getElem?_set_self (by have:=o2.1;omega)];exact(HX.out 2 (by omega)).symm
    ·rw [List.getElem?_set_ne e];exact p2 j (by omega)
   clear o2 p2 r2;clear HB2;go_wp2_with fail
   all_goals
    go_roundw
    case rel=>
     obtain⟨z,o1,p1,g1⟩:=HP2.out;exact⟨t+1,by omega,by simp,by have:=HK.out;congr 1;omega,⟨z,o1,fun j hj=>p1 j (by omega)⟩,g1⟩
    case measure=>simp [intOf];omega
  ·have h1: ¬(t:Int)<(n:Int):=by omega
   obtain rfl:t=n:=by omega
   go_wp2_with fail
   go_ret;exact⟨rfl,by rw [Qio Qaj hown.1 (by rw [←HLL.out];exact Qhx _ _ _ _) hys]at hown;exact hown,hgr⟩
theorem Ja {B B' n:Nat} {v v':Value} {xs:List Value} (w:World) (h:w.ownsRow B 30 2 v n xs) (h':w.ownsRow B' 30 2 v' n xs) (hx: ∀j,j<n*2→ ∃z,xs[j]? =some (.int .i64 z)):
  Calls Tryz.prog 11 #[v,v'] w fun e w'=>e= .returned (.bool true)∧Below w.heap.size w w':=by
 obtain⟨A,cap,rfl,hn,hc⟩:=Qj h;obtain⟨A',cap',rfl,_,hc'⟩:=Qj h';unfold maxLen at hn
 have HC:Hid (∀k,k<n→ ∃g g' x y,A=some ⟨g,0,none⟩∧A'=some ⟨g',0,none⟩∧g<w.heap.size∧g'<w.heap.size∧w.cell? ⟨g,k*2,none⟩=some (.int .i64 x)∧w.cell? ⟨g,k*2+1,none⟩=some (.int .i64 y)∧w.cell? ⟨g',k*2,none⟩=some (.int .i64 x)∧w.cell? ⟨g',k*2+1,none⟩=some (.int .i64 y)):=by
  intro k hk;obtain⟨g,rfl,_,hg,c0,_⟩:=hc (k*2) (by omega);obtain⟨g1,e1,_,_,c1,_⟩:=hc (k*2+1) (by omega);obtain⟨g',rfl,_,hg',c0',_⟩:=hc' (k*2) (by omega);obtain⟨g1',e1',_,_,c1',_⟩:=hc' (k*2+1) (by omega);cases e1
  cases e1'
  obtain⟨x,hx0⟩:=hx (k*2) (by omega);obtain⟨y,hx1⟩:=hx (k*2+1) (by omega);exact⟨g,g',x,y,rfl,rfl,hg,hg',c0.trans hx0,c1.trans hx1,c0'.trans hx0,c1'.trans hx1⟩
 clear hc hc' h h' hx;go_enter Tryz.func11,Tryz.ntmps11;go_wp2_with fail
 go_loopw [5] (fun i wr=> ∃k:Nat,k≤n∧i= .int .i64 k∧Below w.heap.size w wr) (fun i _=>n-(intOf i).toNat)
 case atStart=>exact⟨0,Nat.zero_le _,rfl,Below.refl _ _⟩
 case round=>
  obtain⟨k,hk,rfl,hbel⟩:=hrel;by_cases hlt:k<n
  ·obtain⟨g,g',x,y,rfl,rfl,hg,hg',c0,c1,c0',c1'⟩:=HC.out k hlt;have hs:=hbel.size;have hW:=fun b o h=>hbel.cell (p:=⟨b,o,none⟩) h;have h0:(0:Int)≤(k:Int):=by omega
   have h1:(k:Int)<(n:Int):=by omega
   go_wp2_with fail
   go_region_held3 (fun w'=>(∀bq oq,bq<w.heap.size→w'.cell? ⟨bq,oq,none⟩=w.cell? ⟨bq,oq,none⟩)∧w.heap.size≤w'.heap.size∧Below w.heap.size w w')
    (exact Qn (Nat.le_refl _) (by go_grown))
    (first
    | (go_at_call 28;refine(Gq x y _).mono ?_;rintro e w1 ⟨rfl,hb⟩;obtain⟨hk1,hz1⟩:=Qh (B:=w.heap.size) (X:=w) (by go_grown) (by go_size) hb;clear hb))
   all_goals go_wp2_with fail
   all_goals
    go_roundw
    case rel=>exact⟨k+1,by omega,by go_num,by go_grown⟩
    case measure=>simp [intOf];omega
  ·have h1: ¬(k:Int)<(n:Int):=by omega
   go_wp2_with fail
   go_ret;exact⟨rfl,hbel⟩
theorem Qde {W:World} {B:Nat} {e:TypeId} {g n cap t:Nat} {ys:List Value} {k:Int} (h:W.ownsRow B e 2 (.slice (some ⟨g,0,none⟩) n cap) n ys) (ht:t<n) (hy: ∀j,j<t*2→ys[j]? =some (.int .i64 (k+(j:Nat)))):
  ∃zs,((W.setCell ⟨g,t*2,none⟩ (.int .i64 (k+(t*2:Nat)))).setCell ⟨g,t*2+1,none⟩ (.int .i64 (k+(t*2+1:Nat)))).ownsRow B e 2 (.slice (some ⟨g,0,none⟩) n cap) n zs∧
   (∀j,j<(t+1)*2→zs[j]? =some (.int .i64 (k+(j:Nat))))∧W.grownBy ((W.setCell ⟨g,t*2,none⟩ (.int .i64 (k+(t*2:Nat)))).setCell ⟨g,t*2+1,none⟩ (.int .i64 (k+(t*2+1:Nat)))) (some g):=by
 obtain⟨o1,g1⟩:=h.stored (t*2) (.int .i64 (k+(t*2:Nat)));obtain⟨o2,g2⟩:=o1.stored (t*2+1) (.int .i64 (k+(t*2+1:Nat)));refine⟨_,o2,fun j hj=> ?_,QV g1 g2⟩;have hl:=h.1;by_cases e1:t*2+1=j
 ·subst e1;rw [List.getElem?_set_self (by simp;omega)]
 ·rw [List.getElem?_set_ne e1];by_cases e2:t*2=j
  ·subst e2;rw [List.getElem?_set_self (by omega)]
  ·rw [List.getElem?_set_ne e2];exact hy j (by omega)
theorem Ur {B n:Nat} {v:Value} {xs:List Value} (k:Int) (w:World) (h:w.ownsRow B 30 2 v n xs) (hn:n≤10000) (h0:0≤k) (h1:k≤1000000):
  Calls Tryz.prog 14 #[v,.int .i64 k] w fun e w'=>e= .returned (.int .i64 (k+(n*2:Nat)))∧(∃ys,w'.ownsRow B 30 2 v n ys∧ ∀j,j<n*2→ys[j]? =some (.int .i64 (k+(j:Nat))))∧w.grownBy w' v.ownBlock:=by
 have HO:Hid (w.ownsRow B 30 2 v n xs):=h;obtain⟨A,cap,rfl,_,_⟩:=Qj h;clear h;go_enter Tryz.func14,Tryz.ntmps14;go_wp2_with fail
 go_loopw [1,5] (fun q i wr=> ∃t:Nat,t≤n∧i= .int .i64 t∧q= .int .i64 (k+(t*2:Nat))∧(∃ys,wr.ownsRow B 30 2 (.slice A n cap) n ys∧ ∀j,j<t*2→ys[j]? =some (.int .i64 (k+(j:Nat))))∧w.grownBy wr (Value.slice A n cap).ownBlock) (fun _ i _=>n-(intOf i).toNat)
 case atStart=>exact⟨0,Nat.zero_le _,rfl,by simp,⟨xs,HO.out,fun j hj=>by omega⟩,World.grownBy.refl _ _⟩
 case round=>
  obtain⟨t,ht,rfl,rfl,⟨ys,hown,hys⟩,hgr⟩:=hrel;by_cases hlt:t<n
  ·obtain⟨A',cap',e,_,hc⟩:=Qj hown;cases e
   obtain⟨g,rfl,_,hg,c0,f0⟩:=hc (t*2) (by omega);obtain⟨g',e1,_,_,c1,f1⟩:=hc (t*2+1) (by omega);cases e1
   clear hc;have hl:=hown.1;obtain⟨x0,e0⟩: ∃x,ys[t*2]? =some x:=⟨_,List.getElem?_eq_getElem (by omega)⟩;obtain⟨x1,e1⟩: ∃x,ys[t*2+1]? =some x:=⟨_,List.getElem?_eq_getElem (by omega)⟩;rw [e0]at c0;rw [e1]at c1;clear e0 e1
   have HT:=Qde hown hlt hys
   have HT':Hid (∃zs,((wr.setCell ⟨g,t*2,none⟩ (.int .i64 (k+(t*2:Nat)))).setCell ⟨g,t*2+1,none⟩ (.int .i64 (k+(t*2+1:Nat)))).ownsRow B 30 2 (.slice (some ⟨g,0,none⟩) n cap) n zs∧
    (∀j,j<(t+1)*2→zs[j]? =some (.int .i64 (k+(j:Nat))))∧wr.grownBy ((wr.setCell ⟨g,t*2,none⟩ (.int .i64 (k+(t*2:Nat)))).setCell ⟨g,t*2+1,none⟩ (.int .i64 (k+(t*2+1:Nat)))) (some g)):=HT
   clear HT hown hys hl;have HG:Hid (w.grownBy wr (some g)):=hgr;clear hgr HO;have q0:(0:Int)≤(t:Int):=by omega
   have q1:(t:Int)<(n:Int):=by omega
   go_wp2_with fail
   all_goals
    go_roundw
    case rel=>
     obtain⟨zs,z1,z2,z3⟩:=HT'.out;have e0:k+((t*2:Nat):Int)=k+(t:Int)*2:=by omega
     have e1:k+((t*2+1:Nat):Int)=k+(t:Int)*2+1:=by omega
     rw [e0,e1]at z1 z3;exact⟨t+1,by omega,by simp,by congr 1;omega,⟨zs,z1,z2⟩,QV HG.out z3⟩
    case measure=>simp [intOf];omega
  ·have h1: ¬(t:Int)<(n:Int):=by omega
   obtain rfl:t=n:=by omega
   go_wp2_with fail
   go_ret;exact⟨rfl,⟨ys,hown,hys⟩,hgr⟩
theorem JJ {B n:Nat} {v:Value} {ys:List Value} (k:Int) (w:World) (h:w.ownsRow B 30 2 v n ys) (hy: ∀j,j<n*2→ys[j]? =some (.int .i64 (k+(j:Nat)))) (hn:n≤10000) (h0:0≤k) (h1:k≤1000000):
  Calls Tryz.prog 15 #[v,.int .i64 k] w fun e w'=>e= .returned (.int .i64 (k+(n*2:Nat)))∧Below w.heap.size w w':=by
 obtain⟨A,cap,rfl,_,hc⟩:=Qj h
 have HC:Hid (∀t,t<n→ ∃g,A=some ⟨g,0,none⟩∧g<w.heap.size∧w.cell? ⟨g,t*2,none⟩=some (.int .i64 (k+(t:Int)*2))∧w.cell? ⟨g,t*2+1,none⟩=some (.int .i64 (k+(t:Int)*2+1))):=by
  intro t ht;obtain⟨g,rfl,_,hg,c0,_⟩:=hc (t*2) (by omega);obtain⟨g1,e1,_,_,c1,_⟩:=hc (t*2+1) (by omega);cases e1
  refine⟨g,rfl,hg,c0.trans ((hy _ (by omega)).trans ?_),c1.trans ((hy _ (by omega)).trans ?_)⟩
  ·rw [show k+((t*2:Nat):Int)=k+(t:Int)*2 by omega]
  ·rw [show k+((t*2+1:Nat):Int)=k+(t:Int)*2+1 by omega]
 clear hc h hy;go_enter Tryz.func15,Tryz.ntmps15;go_wp2_with fail
 go_loopw [1,5] (fun q i wr=> ∃t:Nat,t≤n∧i= .int .i64 t∧q= .int .i64 (k+(t:Int)*2)∧Below w.heap.size w wr) (fun _ i _=>n-(intOf i).toNat)
 case atStart=>exact⟨0,Nat.zero_le _,rfl,by simp,Below.refl _ _⟩
 case round=>
  obtain⟨t,ht,rfl,rfl,hbel⟩:=hrel;by_cases hlt:t<n
  ·obtain⟨g,rfl,hg,c0,c1⟩:=HC.out t hlt;rw [←hbel.cell (p:=⟨_,_,none⟩) hg]at c0 c1;have q0:(0:Int)≤(t:Int):=by omega
   have q1:(t:Int)<(n:Int):=by omega
   go_wp2_with fail
   all_goals
    go_roundw
    case rel=>exact⟨t+1,by omega,by simp,by congr 1;omega,by go_grown⟩
    case measure=>simp [intOf];omega
  ·have h1: ¬(t:Int)<(n:Int):=by omega
   obtain rfl:t=n:=by omega
   go_wp2_with fail
   go_ret;exact⟨Qz (by omega),hbel⟩
end Go.Proofs.YtekcnhfkmimodaaGreatDoor
namespace Go.Proofs.YtekcnhfkmimodaaGreatDoor
open Go.RowKit Go.Maps
theorem Qe0:30<Tryz.prog.types.size:=by decide+kernel
theorem Qf7:(match Tryz.prog.underlying 30 with | some (.array _ _) | some (.struct _)=>true | _=>false)=true:=by kernel_rfl
theorem Ql4:Tryz.prog.keyTypeAt 2 30=true:=by kernel_rfl
theorem keyedRef:Keyed Tryz.prog 30:=Keyed.of_law (deep_law_laid Qh6 (m:=2) (by omega) Qe0 Ql4 Qf7)
theorem Mo:Tryz.prog.cellsOf 30=2:=by kernel_rfl
theorem Qb8:Tryz.prog.cellsOf 2=1:=by kernel_rfl
theorem Qib:Tryz.prog.keyType 30=true:=by kernel_rfl
theorem ET (c r:Int) (hc:(Lit.int .i64 c).wf=true) (hr:(Lit.int .i64 r).wf=true): ∃l,keyOf Tryz.prog 30 (.agg #[.int .i64 c,.int .i64 r])=some l:=by
 have hF:Value.formed Tryz.prog 30 (Value.agg #[Value.int IntKind.i64 c,Value.int IntKind.i64 r])=true:=by
  simp [Value.formed,Tryz.underlying30,Mo]
 obtain⟨d,hd⟩: ∃d,Tryz.prog.types.size=d+1:=⟨Tryz.prog.types.size-1,by have:=Qe0;omega⟩;unfold keyOf;simp only [Tryz.underlying30,Qib,hF,Bool.and_true,if_true,Value.cells];rw [hd];simp [Program.keyLits,Tryz.underlying30,Tryz.underlying2,Mo,Qb8,hc,hr]
def Nc (v:Value):Option (DataW Value × List MemPlace):=some (.held v,[])
theorem Ol {n:Int} (h1:0≤n) (h2:n≤1000):(Lit.int .i64 n).wf=true:=WalkArith.wf_i64 (by omega)
theorem Qg2 {C R:Nat→Int} {n:Nat} (h: ∀i,i<n→Qm (C i) (R i)=true): ∃kl:Nat→Lit,∀i,i<n→keyOf Tryz.prog 30 (.agg #[.int .i64 (C i),.int .i64 (R i)])=some (kl i):=by
 have key: ∀i,∃l,i<n→keyOf Tryz.prog 30 (.agg #[.int .i64 (C i),.int .i64 (R i)])=some l:=fun i=>by
  by_cases hi:i<n
  ·have h1:=h i hi;simp only [Qm,decide_eq_true_eq]at h1;obtain⟨l,hl⟩:=ET (C i) (R i) (Ol (by omega) (by omega)) (Ol (by omega) (by omega));exact⟨l,fun _=>hl⟩
  ·exact⟨.bool true,fun h=>absurd h hi⟩
 exact⟨fun i=>Classical.choose (key i),fun i hi=>Classical.choose_spec (key i) hi⟩
def Yf (C R:Nat→Int) (S:Nat→ByteArray) (p q:Int):Nat→ByteArray
 | 0=>⟨#[]⟩
 | n+1=>if C n=p∧R n=q then S n else Yf C R S p q n
theorem Vf {C R:Nat→Int} {S:Nat→ByteArray} {n:Nat} (h:Zg C R S n=true):n≤120∧Ym C R n=true:=by
 unfold Zg at h;simp only [Bool.and_eq_true,decide_eq_true_eq]at h;exact h.1
theorem OM {C R:Nat→Int} {n:Nat} (h:Ym C R n=true): ∀i,i<n→QR C R i=true:=by
 unfold Ym at h;rw [List.all_eq_true]at h;exact fun i hi=>h i (List.mem_range.2 hi)
theorem Qc6 {C R:Nat→Int} {n:Nat} (h:Ym C R n=true): ∀i,i<n→Qm (C i) (R i)=true:=fun i hi=>by
 have:=OM h i hi;unfold QR at this;simp only [Bool.and_eq_true]at this;exact this.1
theorem Ok {a b c d e f:Int} (h1:ZL a b c d=true) (h2:ZL c d e f=true):ZL a b e f=true:=by
 simp only [ZL,decide_eq_true_eq]at*;omega
theorem Er {C R:Nat→Int} {n:Nat} (h:Ym C R n=true): ∀j,j<n→ ∀i,i<j→ZL (C i) (R i) (C j) (R j)=true:=by
 intro j;induction j with
 | zero=>intro _ i hi;omega
 | succ j ih=>
  intro hj i hi;have h1:=OM h (j+1) hj;unfold QR at h1;simp only [Bool.and_eq_true,Bool.or_eq_true,decide_eq_true_eq]at h1
  have h2:ZL (C j) (R j) (C (j+1)) (R (j+1))=true:=by
   rcases h1.2 with h3 | h3
   ·omega
   ·simpa using h3
  by_cases e:i=j
  ·subst e;exact h2
  ·exact Ok (ih (by omega) i (by omega)) h2
end Go.Proofs.YtekcnhfkmimodaaGreatDoor
namespace Go.Proofs.YtekcnhfkmimodaaGreatDoor
open Go.RowKit
abbrev AR:=Int × Int × Int × Int
def arC (a:AR):List Value:= [.int .i64 a.1,.int .i64 a.2.1,.int .i64 a.2.2.1,.int .i64 a.2.2.2]
def arQ (x:FN):List AR:=if x.k=2 then [(x.ac,x.ar,x.ac,x.ar)]else if x.k=3 then [(x.ac,x.ar,x.bc,x.br)]else []
def arA (F:Nat→FN) (n:Nat):List AR:=if QL F n then(List.range n).flatMap fun i=>arQ (F i)else []
theorem Qee {α:Type} (f:α→List Value) (L M:List α):QP f (L++M)=QP f L++QP f M:=by unfold QP;rw [List.flatMap_append]
theorem Qes (x:FN):QP arC (arQ x)=Qap x:=by
 unfold arQ Qap;split
 ·rfl
 ·split<;>rfl
theorem Qaq (F:Nat→FN): ∀n,QP arC ((List.range n).flatMap fun i=>arQ (F i))=Jm F n∧((List.range n).flatMap fun i=>arQ (F i)).length=Xf F n
 | 0=>⟨rfl,rfl⟩
 | n+1=>by
  obtain⟨h1,h2⟩:=Qaq F n;rw [List.range_succ,List.flatMap_append,Kn,Qee,h1,List.length_append,h2,Xf];refine⟨?_,?_⟩
  ·rw [List.flatMap_singleton,Qes]
  ·rw [List.flatMap_singleton];unfold arQ;by_cases h2:(F n).k=2
   ·simp [h2]
   ·by_cases h3:(F n).k=3<;>simp [h2,h3]
theorem DH (F:Nat→FN) (n:Nat):QP arC (arA F n)=Qal F n∧(arA F n).length=Mp F n:=by
 unfold arA Qal Mp;split
 ·exact Qaq F n
 ·exact⟨rfl,rfl⟩
def YF (p q:Int) (a:AR):Bool:=decide (a.1≤p)&&decide (p≤a.2.2.1)&&decide (a.2.1≤q)&&decide (q≤a.2.2.2)
structure ArR (W:World) (A:Option Addr) (n:Nat) (L:List AR):Prop where
 len:L.length=n
 lim:n≤maxLen
 at_: ∀i,i<n→ ∃b o,A=some ⟨b,o,none⟩∧b<W.heap.size∧W.cell? ⟨b,o+i*4,none⟩=some (.int .i64 (L.getD i (0,0,0,0)).1)∧W.cell? ⟨b,o+i*4+1,none⟩=some (.int .i64 (L.getD i (0,0,0,0)).2.1)∧
  W.cell? ⟨b,o+i*4+2,none⟩=some (.int .i64 (L.getD i (0,0,0,0)).2.2.1)∧W.cell? ⟨b,o+i*4+3,none⟩=some (.int .i64 (L.getD i (0,0,0,0)).2.2.2)
theorem ArR.below {W W':World} {A:Option Addr} {n:Nat} {L:List AR} (h:ArR W A n L) (hb:Below W.heap.size W W'):ArR W' A n L:=
 ⟨h.len,h.lim,fun i hi=>by
  obtain⟨b,o,e,hl,c0,c1,c2,c3⟩:=h.at_ i hi
  exact⟨b,o,e,Nat.lt_of_lt_of_le hl hb.size,(hb.cell (p:=⟨b,_,none⟩) hl).trans c0,(hb.cell (p:=⟨b,_,none⟩) hl).trans c1,(hb.cell (p:=⟨b,_,none⟩) hl).trans c2,(hb.cell (p:=⟨b,_,none⟩) hl).trans c3⟩⟩
theorem ArR.of_own {W:World} {B n cap:Nat} {A:Option Addr} {L:List AR} (h:W.ownsRow B 69 4 (.slice A n cap) n (QP arC L)) (hL:L.length=n):ArR W A n L:=by
 obtain⟨A',cap',e,hn,hc⟩:=Qj h;cases e
 refine⟨hL,hn,fun i hi=> ?_⟩;have hat:L[i]? =some (L.getD i (0,0,0,0)):=by rw [List.getD_eq_getElem?_getD,List.getElem?_eq_getElem (by omega)];rfl
 have cell: ∀j,j<4→ ∃g,A=some ⟨g,0,none⟩∧g<W.heap.size∧W.cell? ⟨g,i*4+j,none⟩=(arC (L.getD i (0,0,0,0)))[j]?:=fun j hj=>by
  obtain⟨g,e,_,hl,c,_⟩:=hc (i*4+j) (by omega);refine⟨g,e,hl,?_⟩;rw [c,XH (f:=arC) (k:=4) (fun _=>rfl) j hj,hat];rfl
 obtain⟨g,rfl,hl,c0⟩:=cell 0 (by omega);obtain⟨g1,e1,_,c1⟩:=cell 1 (by omega);obtain⟨g2,e2,_,c2⟩:=cell 2 (by omega);obtain⟨g3,e3,_,c3⟩:=cell 3 (by omega);cases e1
 cases e2
 cases e3
 exact⟨g,0,rfl,hl,by rw [Nat.zero_add];exact c0,by rw [Nat.zero_add];exact c1,by rw [Nat.zero_add];exact c2,by rw [Nat.zero_add];exact c3⟩
theorem Me (a:AR) (p q:Int) (w:World):Calls Tryz.prog 67 #[.agg #[.int .i64 a.1,.int .i64 a.2.1,.int .i64 a.2.2.1,.int .i64 a.2.2.2],.agg #[.int .i64 p,.int .i64 q]] w fun e w'=>
  e= .returned (.bool (YF p q a))∧Below w.heap.size w w':=by
 obtain⟨a1,a2,a3,a4⟩:=a;simp only;go_enter Tryz.func67,Tryz.ntmps67;go_wp2
 all_goals
  go_ret;refine⟨Qb ?_,by go_grown⟩;unfold YF;rw [Bool.eq_iff_iff];simp;try omega
theorem XT (a:AR) (p q:Int) (w:World):Calls Tryz.prog 40 #[.agg #[.int .i64 p,.int .i64 q],.agg #[.int .i64 a.1,.int .i64 a.2.1,.int .i64 a.2.2.1,.int .i64 a.2.2.2]] w fun e w'=>
  e= .returned (.bool (YF p q a))∧Below w.heap.size w w':=by
 obtain⟨a1,a2,a3,a4⟩:=a;simp only;cases h1:decide (a1≤p∧p≤a3)
 ·have HF:Hid (YF p q (a1,a2,a3,a4)=false):=by
   show _=_;have:=of_decide_eq_false h1;unfold YF;simp;omega
  go_enter Tryz.func40,Tryz.ntmps40;go_wp2_with (go_at_call 57;refine(QJ _ _ _ _).mono ?_;rintro e w1 ⟨rfl,rfl⟩;rw [h1])
  all_goals
   go_ret;exact⟨Qb HF.out.symm,by go_grown⟩
 ·have HF:Hid (YF p q (a1,a2,a3,a4)=(decide (a2≤q)&&decide (q≤a4))):=by
   show _=_;have:=of_decide_eq_true h1;unfold YF;rw [Bool.eq_iff_iff];simp;omega
  go_enter Tryz.func40,Tryz.ntmps40;go_wp2_with fail
  refine(QJ _ _ _ _).mono ?_;rintro e w1 ⟨rfl,hw1⟩;obtain rfl:=hw1.symm;rw [h1];go_wp2_with fail
  refine(QJ _ _ _ _).mono ?_;rintro e w2 ⟨rfl,hw2⟩;obtain rfl:=hw2.symm;go_wp2_with fail
  go_ret;exact⟨Qb HF.out.symm,by go_grown⟩
theorem Qlg {L:List AR} {f:AR→Bool} {n:Nat} (hL:L.length=n) (h: ∀j,j<n→f (L.getD j (0,0,0,0))=false):L.any f=false:=by
 rw [List.any_eq_false];intro x hx;obtain⟨j,hj,rfl⟩:=List.mem_iff_getElem.1 hx;have h9:=h j (by omega);rw [List.getD_eq_getElem?_getD,List.getElem?_eq_getElem hj]at h9;simpa using h9
theorem Qi6 {L:List AR} {f:AR→Bool} {j:Nat} (hj:j<L.length) (h:f (L.getD j (0,0,0,0))=true):L.any f=true:=by
 rw [List.any_eq_true];rw [List.getD_eq_getElem?_getD,List.getElem?_eq_getElem hj]at h;exact⟨_,List.getElem_mem hj,h⟩
theorem Og {A:Option Addr} {n cap:Nat} {L:List AR} (p q:Int) (w:World) (h:ArR w A n L):
  Calls Tryz.prog 50 #[.slice A n cap,.agg #[.int .i64 p,.int .i64 q]] w fun e w'=>e= .returned (.bool (L.any (YF p q)))∧Below w.heap.size w w':=by
 have HR:Hid (ArR w A n L):=h;have hn:=h.lim;unfold maxLen at hn;clear h;go_enter Tryz.func50,Tryz.ntmps50;go_wp2_with fail
 obtain⟨X,HX⟩: ∃X,Hid (w.alloc (.cells #[.int .i64 p,.int .i64 q] 30)=X):=⟨_,rfl⟩;rw [HX.out];have x0:X.cell? ⟨w.heap.size,0,none⟩=some (.int .i64 p):=by rw [←HX.out];simp
 have x1:X.cell? ⟨w.heap.size,1,none⟩=some (.int .i64 q):=by rw [←HX.out];simp
 have xl:w.heap.size<X.heap.size:=by rw [←HX.out];simp
 have BX:Hid (Below w.heap.size w X):=by show Below _ _ _;rw [←HX.out];exact(Below.refl _ _).alloc (Nat.le_refl _) _
 have HRX:=hd (HR.out.below BX.out);clear HX;go_loopw [9] (fun i wr=> ∃k:Nat,k≤n∧i= .int .i64 k∧(∀j,j<k→YF p q (L.getD j (0,0,0,0))=false)∧Below X.heap.size X wr) (fun i _=>n-(intOf i).toNat)
 case atStart=>exact⟨0,Nat.zero_le _,rfl,fun j hj=>absurd hj (Nat.not_lt_zero _),Below.refl _ _⟩
 case round=>
  obtain⟨k,hk,rfl,hall,hbel⟩:=hrel;have HAL:Hid (∀j,j<k→YF p q (L.getD j (0,0,0,0))=false):=hall;have BL:Hid (Below X.heap.size X wr):=hbel;replace x0:=(hbel.cell (p:=⟨w.heap.size,0,none⟩) xl).trans x0;replace x1:=(hbel.cell (p:=⟨w.heap.size,1,none⟩) xl).trans x1;have xlw:=Nat.lt_of_lt_of_le xl hbel.size;clear hall
  by_cases hlt:k<n
  ·obtain⟨b,o,rfl,hl,c0,c1,c2,c3⟩:=HRX.out.at_ k hlt;rw [←hbel.cell (p:=⟨_,_,none⟩) hl]at c0 c1 c2 c3;have h0:(0:Int)≤(k:Int):=by omega
   have h1:(k:Int)<(n:Int):=by omega
   have HKL:Hid (k<L.length):=by rw [HRX.out.len];exact hlt
   obtain⟨x,HXX⟩: ∃x,Hid (L.getD k (0,0,0,0)=x):=⟨_,rfl⟩;rw [HXX.out]at c0 c1 c2 c3;cases hin:YF p q x
   ·have HNX:Hid (∀j,j<k+1→YF p q (L.getD j (0,0,0,0))=false):=fun j hj=>by
     by_cases e:j=k
     ·subst e;rw [HXX.out];exact hin
     ·exact HAL.out j (by omega)
    go_wp2_with fail
    refine(Me x p q _).mono ?_;rintro e w1 ⟨rfl,hb⟩;rw [hin];have B1:=hd (Qc (BL.out.alloc BL.out.size _) hb);clear hb;go_wp2_with fail
    go_roundw
    case rel=>exact⟨k+1,by omega,by go_num,HNX.out,B1.out⟩
    case measure=>simp [intOf];omega
   ·have HT:Hid (L.any (YF p q)=true):=Qi6 HKL.out (by rw [HXX.out];exact hin);go_wp2_with fail
    refine(Me x p q _).mono ?_;rintro e w1 ⟨rfl,hb⟩;rw [hin];have B1:=hd (Qc (BL.out.alloc BL.out.size _) hb);clear hb;go_wp2_with fail
    go_ret;exact⟨Qb HT.out.symm,Qc BX.out B1.out⟩
  ·have h1: ¬(k:Int)<(n:Int):=by omega
   have HT:Hid (L.any (YF p q)=false):=Qlg HRX.out.len (fun j hj=>HAL.out j (by omega));go_wp2_with fail
   go_ret;exact⟨Qb HT.out.symm,Qc BX.out hbel⟩
def leL (C R:Nat→Int) (L:List AR):Nat→List (Int × Int)
 | 0=> []
 | k+1=>leL C R L k++if L.any (YF (C k) (R k))=true then [(C k,R k)]else []
theorem Gp (C R:Nat→Int) (L:List AR): ∀k,(leL C R L k).length≤k
 | 0=>Nat.le_refl _
 | k+1=>by have:=Gp C R L k;rw [leL,List.length_append];split<;>simp<;>omega
theorem Qff {C R:Nat→Int} {L:List AR} {k:Nat} (h:L.any (YF (C k) (R k))=false):leL C R L (k+1)=leL C R L k:=by rw [leL,if_neg (by rw [h];decide),List.append_nil]
theorem ES {C R:Nat→Int} {L:List AR} {k:Nat} (h:L.any (YF (C k) (R k))=true):leL C R L (k+1)=leL C R L k++ [(C k,R k)]:=by rw [leL,if_pos h]
theorem VT {A A':Option Addr} {n cap m cap':Nat} {C R:Nat→Int} {S:Nat→ByteArray} {L:List AR} (w:World) (h:ClRow w A n C R S) (h':ArR w A' m L) (hn:n≤120):
  Calls Tryz.prog 46 #[.slice A n cap,.slice A' m cap'] w fun e w'=> ∃F z c,e= .returned (.slice F z c)∧(leL C R L n).length=z∧w'.ownsRow w.heap.size 30 2 (.slice F z c) z (QP rfL (leL C R L n))∧Below w.heap.size w w':=by
 have HR:Hid (ClRow w A n C R S):=h;have HA:Hid (ArR w A' m L):=h';clear h h';go_enter Tryz.func46,Tryz.ntmps46;go_wp2_with fail
 go_loopw [5,10] (fun v i wr=> ∃(k:Nat) (F:Option Addr) (z c:Nat),k≤n∧v= .slice F z c∧(leL C R L k).length=z∧i= .int .i64 k∧wr.ownsRow w.heap.size 30 2 (.slice F z c) z (QP rfL (leL C R L k))∧Below w.heap.size w wr) (fun _ i _=>n-(intOf i).toNat)
 case atStart=>exact⟨0,none,0,0,Nat.zero_le _,rfl,rfl,rfl,World.ownsRow_nil _ _ _ _,Below.refl _ _⟩
 case round=>
  obtain⟨k,F,z,c,hk,rfl,hzl,rfl,hown,hbel⟩:=hrel;have OW:Hid (wr.ownsRow w.heap.size 30 2 (.slice F z c) z (QP rfL (leL C R L k))):=hown;have HZL:Hid ((leL C R L k).length=z):=hzl;have hz120:z≤120:=by rw [←hzl];exact Nat.le_trans (Gp C R L k) (by omega)
  have BL:Hid (Below w.heap.size w wr):=hbel;clear hown hzl;by_cases hlt:k<n
  ·obtain⟨b,o,rfl,hl,c0,c1,c2,_⟩:=HR.out.2 k hlt;rw [←hbel.cell (p:=⟨_,_,none⟩) hl]at c0 c1 c2;have hl2:b<wr.heap.size:=Nat.lt_of_lt_of_le hl hbel.size;have h0:(0:Int)≤(k:Int):=by omega
   have h1:(k:Int)<(n:Int):=by omega
   clear hbel;go_upto_region 5 with fail
   obtain⟨X,HX⟩: ∃X,Hid (wr.alloc (.cells #[.int .i64 (C k),.int .i64 (R k),.string (S k)] 48)=X):=⟨_,rfl⟩;rw [HX.out];have x0:X.cell? ⟨wr.heap.size,0,none⟩=some (.int .i64 (C k)):=by rw [←HX.out];simp
   have x1:X.cell? ⟨wr.heap.size,1,none⟩=some (.int .i64 (R k)):=by rw [←HX.out];simp
   have xl:wr.heap.size<X.heap.size:=by rw [←HX.out];simp
   have BX:Hid (Below w.heap.size w X):=by show Below _ _ _;rw [←HX.out];exact BL.out.alloc BL.out.size _
   have OX:Hid (X.ownsRow w.heap.size 30 2 (.slice F z c) z (QP rfL (leL C R L k))):=by show World.ownsRow _ _ _ _ _ _ _;rw [←HX.out];exact OW.out.alloc _
   clear HX c0 c1 c2 OW BL;go_wp2_with fail
   refine(Og (C k) (R k) _ (HA.out.below BX.out)).mono ?_;rintro e u ⟨rfl,hb⟩;replace x0:=(hb.cell (p:=⟨wr.heap.size,0,none⟩) xl).trans x0;replace x1:=(hb.cell (p:=⟨wr.heap.size,1,none⟩) xl).trans x1;have xl2:=Nat.lt_of_lt_of_le xl hb.size;have BU:=hd (Qc BX.out hb);have OU:=hd (Qe OX.out hb)
   clear hb OX BX;cases hin:L.any (YF (C k) (R k))
   ·have HE:Hid (leL C R L (k+1)=leL C R L k):=Qff hin;clear hin;go_wp2_with fail
    go_roundw
    case rel=>exact⟨k+1,F,z,c,by omega,rfl,by rw [HE.out];exact HZL.out,by go_num,by rw [HE.out];exact OU.out,BU.out⟩
    case measure=>simp [intOf];omega
   ·have HE:Hid (leL C R L (k+1)=leL C R L k++ [(C k,R k)]):=ES hin;have hus:=BU.out.size;clear hin
    go_wp2_with (first
     | (at_builtin;refine Ju rfl _ _ rfl w.heap.size (.slice F z c) z (leL C R L k) rfl (OU.out.alloc _) (C k,R k) u.heap.size rfl (by simp [go_sem]) (by simp [go_sem]) (by omega) (by simp;omega) ?_)
     | fail)
    intro v2 w2 ho hg;have B2:Hid (Below w.heap.size w w2):=(BU.out.alloc hus _).grown hg (by simp;omega) (fun j hj=>(OU.out.lt j hj).1);obtain⟨F2,c2,rfl,_,_⟩:=Qj ho;have O2:Hid (w2.ownsRow w.heap.size 30 2 (.slice F2 (z+1) c2) (z+1) (QP rfL (leL C R L (k+1)))):=by rw [HE.out];exact ho
    clear ho hg;go_wp2_with fail
    go_roundw
    case rel=>exact⟨k+1,F2,z+1,c2,by omega,rfl,by rw [HE.out,List.length_append,HZL.out];rfl,by go_num,O2.out,B2.out⟩
    case measure=>simp [intOf];omega
  ·have h1: ¬(k:Int)<(n:Int):=by omega
   obtain rfl:k=n:=by omega
   go_wp2_with fail
   go_ret;exact⟨F,z,c,rfl,HZL.out,OW.out,hbel⟩
def lnF (s:ByteArray):Option (List FN):=if eqH s=true then rdF (Jk s)else none
def lnA (s:ByteArray):List AR:=match lnF s with
 | some o=>arA (ouF o) o.length
 | none=> []
theorem Qah {s:ByteArray} (hs:s.size≤200):(Jk s).size≤maxLen:=by
 unfold Jk maxLen;split
 ·simp;omega
 ·omega
theorem Jp {s:ByteArray} {o:List FN} (h:rdF s=some o):o.length≤60∧ ∀i,i<o.length→(ouF o i).cs.size≤maxLen∧(ouF o i).kids.length≤1048576:=by
 obtain⟨h1,_,_⟩:=GM h;refine⟨Zt h1,fun i hi=> ?_⟩;obtain⟨h2,h3⟩:=Yw (Je h1 i hi);unfold maxLen;exact⟨by omega,by omega⟩
def Qf0 (s:ByteArray) (w:World) (e:Ending) (w':World):Prop:=
 Below w.heap.size w w'∧((lnF s=none∧e= .returned (.tuple #[.slice none 0 0,.bool false]))∨ ∃o A c,lnF s=some o∧rdF (Jk s)=some o∧e= .returned (.tuple #[.slice A o.length c,.bool true])∧FnRow w' A o.length (ouF o))
theorem Hp (s:ByteArray) (w:World) (hs:s.size≤200) (hg:GI w):Calls Tryz.prog 44 #[.string s] w (Qf0 s w):=by
 have HG:Hid (GI w):=hg;clear hg;cases he:eqH s
 ·have HE:Hid (eqH s=false):=he;have HN:Hid (lnF s=none):=by show _=_;unfold lnF;rw [he];rfl
  clear he;go_enter Tryz.func44,Tryz.ntmps44;go_wp2_with fail
  refine(GP s _ (by omega)).mono ?_;rintro e w1 ⟨rfl,hw1⟩;obtain rfl:=hw1.symm;rw [HE.out];go_wp2_with fail
  refine bodyPost_ret (v:= .tuple #[.slice none 0 0,.bool false]) ?_ rfl ⟨Below.refl _ _,Or.inl ⟨HN.out,rfl⟩⟩;simp (maxDischargeDepth:=9) [results,Tryz.results44,go_sem, *]
 ·have HE:Hid (eqH s=true):=he;have HN:Hid (lnF s=rdF (Jk s)):=by show _=_;unfold lnF;rw [he,if_pos rfl]
  have HC:Hid ((Jk s).size≤maxLen):=Qah hs;clear he;obtain⟨t,HT⟩: ∃t,Hid (Jk s=t):=⟨_,rfl⟩;rw [HT.out]at HN HC;go_enter Tryz.func44,Tryz.ntmps44;go_wp2_with fail
  refine(GP s _ (by omega)).mono ?_;rintro e w1 ⟨rfl,hw1⟩;obtain rfl:=hw1.symm;rw [HE.out,HT.out];go_wp2_with fail
  refine(Xc t _ HC.out HG.out).mono ?_;rintro e w2 ⟨hb,h⟩;have B2:Hid (Below w.heap.size w w2):=hb;rcases h with⟨h1,rfl⟩ | ⟨o,v,ys,h1,rfl,ho,hp,_⟩
  ·have H1:Hid (rdF t=none):=h1;clear h1 hb;go_wp2_with fail
   refine bodyPost_ret (v:= .tuple #[.slice none 0 0,.bool false]) ?_ rfl ⟨B2.out,Or.inl ⟨HN.out.trans H1.out,rfl⟩⟩;simp (maxDischargeDepth:=9) [results,Tryz.results44,go_sem, *]
  ·obtain⟨A,c,rfl,hfr⟩:=Yq ho hp (fun i hi=>((Jp h1).2 i hi).1);have H1:Hid (rdF t=some o):=h1;have HFR:Hid (FnRow w2 A o.length (ouF o)):=hfr;clear h1 hb ho hp hfr;go_wp2_with fail
   refine bodyPost_ret (v:= .tuple #[.slice A o.length c,.bool true]) ?_ rfl ⟨B2.out,Or.inr ⟨o,A,c,HN.out.trans H1.out,by rw [HT.out];exact H1.out,rfl,HFR.out⟩⟩;simp (maxDischargeDepth:=9) [results,Tryz.results44,go_sem, *]
theorem Hg (s:ByteArray) (w:World) (hs:s.size≤200):Calls Tryz.prog 58 #[.string s] w (Qf0 s w):=by
 by_cases h0:0<s.size
 rotate_left
 ·have HN:Hid (lnF s=none):=by show _=_;unfold lnF eqH;rw [dif_neg h0];rfl
  obtain rfl:=QN (s:=s) (by omega);go_enter Tryz.func58,Tryz.ntmps58;go_wp2_with fail
  refine bodyPost_ret (v:= .tuple #[.slice none 0 0,.bool false]) ?_ rfl ⟨Below.refl _ _,Or.inl ⟨HN.out,rfl⟩⟩;simp (maxDischargeDepth:=9) [results,Tryz.results58,go_sem, *]
 have hne:s.toList.isEmpty=false:=by
  rw [ByteArray.toList_eq,List.isEmpty_eq_false_iff];intro h;have h9:s.size=s.data.toList.length:=by simp
  rw [h]at h9;simp only [List.length_nil]at h9;omega
 have q0:(0:Int)<(s.size:Int):=by omega
 by_cases h61:s[0]=61
 rotate_left
 ·have HN:Hid (lnF s=none):=by show _=_;unfold lnF eqH;rw [dif_pos h0,if_neg];simpa using h61
  have hb:((s[0].toNat:Int)==61)=false:=by
   have: ¬(s[0].toNat:Int)=61:=fun e=>h61 (UInt8.toNat_inj.1 (by have:(61:UInt8).toNat=61:=rfl;omega));simpa using this
  go_enter Tryz.func58,Tryz.ntmps58;go_wp2_with fail
  refine bodyPost_ret (v:= .tuple #[.slice none 0 0,.bool false]) ?_ rfl ⟨Below.refl _ _,Or.inl ⟨HN.out,rfl⟩⟩;simp (maxDischargeDepth:=9) [results,Tryz.results58,go_sem, *]
 have he:eqH s=true:=by unfold eqH;rw [dif_pos h0,h61];rfl
 have HC:Hid (Jk s=s.extract 1 s.size):=by show _=_;unfold Jk;rw [if_pos he]
 have HN:Hid (lnF s=rdF (s.extract 1 s.size)):=by show _=_;unfold lnF;rw [he,if_pos rfl,HC.out]
 have HZ:Hid ((s.extract 1 s.size).size≤maxLen):=by rw [←HC.out];exact Qah hs
 have hb:(s[0].toNat:Int)=61:=by rw [h61];rfl
 have q1:(1:Int)≤(s.size:Int):=by omega
 clear he h61;go_enter Tryz.func58,Tryz.ntmps58;go_wp2_with fail
 refine(YT (s.extract 1 s.size) _ HZ.out).mono ?_;rintro e w2 ⟨hb2,h⟩;have B2:Hid (Below w.heap.size w w2):=hb2;rcases h with⟨h1,rfl⟩ | ⟨o,v,ys,h1,rfl,ho,hp⟩
 ·have H1:Hid (rdF (s.extract 1 s.size)=none):=h1;clear h1 hb2;go_wp2_with fail
  refine bodyPost_ret (v:= .tuple #[.slice none 0 0,.bool false]) ?_ rfl ⟨B2.out,Or.inl ⟨HN.out.trans H1.out,rfl⟩⟩;simp (maxDischargeDepth:=9) [results,Tryz.results58,go_sem, *]
 ·obtain⟨A,c,rfl,hfr⟩:=Yq ho hp (fun i hi=>((Jp h1).2 i hi).1);have H1:Hid (rdF (s.extract 1 s.size)=some o):=h1;have HFR:Hid (FnRow w2 A o.length (ouF o)):=hfr;clear h1 hb2 ho hp hfr;go_wp2_with fail
  refine bodyPost_ret (v:= .tuple #[.slice A o.length c,.bool true]) ?_ rfl ⟨B2.out,Or.inr ⟨o,A,c,HN.out.trans H1.out,by rw [HC.out];exact H1.out,rfl,HFR.out⟩⟩;simp (maxDischargeDepth:=9) [results,Tryz.results58,go_sem, *]
theorem Vb {W:World} {B g:Nat} {e:TypeId} {size:Nat} (hB:B≤W.heap.size) (hg:g=W.heap.size):(W.alloc (.cells #[] e)).ownsRow B e size (.slice (some ⟨g,0,none⟩) 0 0) 0 []:=by
 subst hg;exact World.ownsRow_made W #[] 0 hB (Nat.zero_le _) (by simp)
theorem Mw (s:ByteArray) (w:World) (hs:s.size≤200):Calls Tryz.prog 38 #[.string s] w fun e w'=>
  ∃A m c,e= .returned (.slice A m c)∧(lnA s).length=m∧w'.ownsRow w.heap.size 69 4 (.slice A m c) m (QP arC (lnA s))∧m≤60∧Below w.heap.size w w':=by
 go_enter Tryz.func38,Tryz.ntmps38;go_wp2_with fail
 refine(Hg s _ hs).mono ?_;rintro e w1 ⟨hb,h⟩;have B1:Hid (Below w.heap.size w w1):=hb;rcases h with⟨h1,rfl⟩ | ⟨o,A,c,h1,h2,rfl,hfr⟩
 ·have HE:Hid (lnA s= []):=by show _=_;unfold lnA;rw [h1]
  clear h1 hb;go_wp2_with fail
  go_ret;refine⟨some ⟨w1.heap.size,0,none⟩,0,0,rfl,by rw [HE.out];rfl,?_,Nat.zero_le _,B1.out.alloc B1.out.size _⟩;rw [HE.out];exact Vb B1.out.size rfl
 ·obtain⟨hl60,hsm⟩:=Jp h2;have HE:Hid (lnA s=arA (ouF o) o.length):=by show _=_;unfold lnA;rw [h1]
  have HFR:Hid (FnRow w1 A o.length (ouF o)):=hfr;have HSM:Hid (∀i,i<o.length→(ouF o i).cs.size≤maxLen∧(ouF o i).kids.length≤1048576):=hsm;clear h1 h2 hb hfr hsm;go_wp2_with fail
  refine(ME _ HFR.out (by omega) (fun i hi=>(HSM.out i hi).2)).mono ?_;rintro e w2 ⟨v,rfl,ho,hb⟩;obtain⟨G,d,rfl,_,_⟩:=Qj ho;obtain⟨e1,e2⟩:=DH (ouF o) o.length;rw [←e1]at ho;have HAR:=hd (Zl ho B1.out.size);have HM:Hid ((arA (ouF o) o.length).length=Mp (ouF o) o.length):=e2
  have B2:=hd (Qc B1.out hb);clear e1 e2 ho hb;go_wp2_with fail
  go_ret;exact⟨G,_,d,rfl,by rw [HE.out];exact HM.out,by rw [HE.out];exact HAR.out,Qi3 _ _,B2.out⟩
theorem in_limL {s t:ByteArray} (h:inF s=some t):t.size≤200:=by
 unfold inF at h;split at h
 ·unfold lim at h;split at h
  ·split at h
   ·cases h;assumption
   ·cases h
  ·cases h
 ·cases h
theorem own_lim {s:ByteArray} (h:UX s=true):s.size≤200:=by
 unfold UX at h;split at h
 ·rename_i t ht
  have e1:t.toList=s.toList:=eq_of_beq h
  have e2:t.data.toList.length=s.data.toList.length:=by
   rw [ByteArray.toList_eq,ByteArray.toList_eq]at e1;rw [e1]
  have h8:=in_limL ht;have e3:t.size=s.size:=by simpa using e2
  omega
 ·cases h
end Go.Proofs.YtekcnhfkmimodaaGreatDoor
namespace Go.Proofs.YtekcnhfkmimodaaGreatDoor
open Go.RowKit Go.Maps
theorem Qet {L:List AR} {f:AR→Bool} {j:Nat} {x:AR} (hj:j<L.length) (hx:L.getD j (0,0,0,0)=x):(L.take (j+1)).any f=((L.take j).any f || f x):=by
 rw [List.getD_eq_getElem?_getD,List.getElem?_eq_getElem hj]at hx;have hx:L[j]=x:=hx;rw [List.take_add_one,List.getElem?_eq_getElem hj,hx,List.any_append];simp
theorem UI {C R:Nat→Int} {S:Nat→ByteArray} {n:Nat} (h:Zg C R S n=true):(∀i,i<n→(S i).size≤200)∧ ∀p q,∀k,k≤n→(Yf C R S p q k).size≤200:=by
 have h1: ∀i,i<n→(S i).size≤200:=fun i hi=>by
  unfold Zg at h;simp only [Bool.and_eq_true]at h;have h9:=List.all_eq_true.1 h.2 i (List.mem_range.2 hi);unfold Yj at h9;rw [Bool.and_eq_true]at h9;exact own_lim h9.2
 refine⟨h1,fun p q k=> ?_⟩;induction k with
 | zero=>intro _;exact Nat.zero_le _
 | succ k ih=>
  intro hk;rw [Yf];split
  ·exact h1 k (by omega)
  ·exact ih (by omega)
theorem Qa1 {H:Type} {P:Program} {w:World} {ops:Array Oper} {o:Oper} {a:Act} {K:Act→World→Prop} {Q:Exit→Act→World→Prop} {E:Prop}
  (hg:o.guard=none) (m x v:Operand) (t:TypeId) (hop:o.op=Op.mapUpdate t m x v)
  (k e:TypeId) (K':Keyed P k) (ht:P.underlying t=some (.map k e)) (R:Value→Option (DataW H × List MemPlace)) (b n:Nat) (D:DataW H)
  (hm:a.eval m= .map (some b)) (hown:w.ownsMap P k R b n D) (hn:n<maxLen) (key val:Value) (kl:Lit) (hx:a.eval x=key) (hv:a.eval v=val) (hkey:keyOf P k key=some kl)
  (d:DataW H) (ps:List MemPlace) (hval:R val=some (d,ps))
  (h: ∀w',w'.ownsMap P k R b (n+1) (D.put kl d)→w.grownBy w' (some b)→K (a.put o.dst undef) w'):
  if Region.wanted o (yielded ops a.tmps)=true then Oper.wp P o a w K Q else E:=by
 have hw:Region.wanted o (yielded ops a.tmps)=true:=by simp [Region.wanted,hg]
 rw [if_pos hw];obtain⟨w',hrun,r1,r2⟩:=hown.update K' ht hn hkey hval;have hfin:=h w' r1 r2;unfold Oper.wp;simp [execOp,hop,hm,hx,hv,hrun,Result.andThen];exact hfin
theorem Gj {W:World} {B n mb:Nat} {e:TypeId} {s:Nat} {v:Value} {xs:List Value} (h:W.ownsRow B e s v n xs) (hb:mb<B):v.ownBlock=none∨v.ownBlock≠some mb:=by
 cases hv:v.ownBlock with
 | none=>exact Or.inl rfl
 | some g=>
  right
  intro e;have:=(h.lt g hv).1;cases e
  omega
def zLn:Value:= .agg #[.slice none 0 0,.slice none 0 0,.slice none 0 0]
def LnY (C R:Nat→Int) (B:Nat) (W:World) (n:Nat) (s:ByteArray) (v:Value):Prop:= ∃vn A m c F z d,v= .agg #[vn,.slice A m c,.slice F z d]∧(lnA s).length=m∧W.ownsRow B 69 4 (.slice A m c) m (QP arC (lnA s))∧(leL C R (lnA s) n).length=z∧W.ownsRow B 30 2 (.slice F z d) z (QP rfL (leL C R (lnA s) n))
def LnV (C R:Nat→Int) (B:Nat) (W:World) (n:Nat) (s:ByteArray) (v:Value):Prop:=(lnF s=none→v=zLn)∧(lnF s≠none→LnY C R B W n s v)
def LnS (C R:Nat→Int) (S:Nat→ByteArray) (B:Nat) (W:World) (n k:Nat) (D:DataW Value):Prop:= ∀p q l,keyOf Tryz.prog 30 (.agg #[.int .i64 p,.int .i64 q])=some l→ ∃v,D.atKey l (.held zLn)= .held v∧LnV C R B W n (Yf C R S p q k) v
theorem LnY.kept {C R:Nat→Int} {B n:Nat} {W W':World} {s:ByteArray} {v:Value} {mb:Nat} (h:LnY C R B W n s v) (hg:W.grownBy W' (some mb)) (hB:mb<B):LnY C R B W' n s v:=by
 obtain⟨vn,A,m,c,F,z,d,e,h1,h2,h3,h4⟩:=h;exact⟨vn,A,m,c,F,z,d,e,h1,h2.kept hg (Gj h2 hB),h3,h4.kept hg (Gj h4 hB)⟩
theorem LnY.below {C R:Nat→Int} {B n:Nat} {W W':World} {s:ByteArray} {v:Value} (h:LnY C R B W n s v) (hb:Below W.heap.size W W'):LnY C R B W' n s v:=by
 obtain⟨vn,A,m,c,F,z,d,e,h1,h2,h3,h4⟩:=h;exact⟨vn,A,m,c,F,z,d,e,h1,Qe h2 hb,h3,Qe h4 hb⟩
theorem LnS.kept {C R:Nat→Int} {S:Nat→ByteArray} {B n k:Nat} {W W':World} {D:DataW Value} {mb:Nat} (h:LnS C R S B W n k D) (hg:W.grownBy W' (some mb)) (hB:mb<B):LnS C R S B W' n k D:=fun p q l hl=>by
 obtain⟨v,e,h1,h2⟩:=h p q l hl;exact⟨v,e,h1,fun hn=>(h2 hn).kept hg hB⟩
theorem LnS.below {C R:Nat→Int} {S:Nat→ByteArray} {B n k:Nat} {W W':World} {D:DataW Value} (h:LnS C R S B W n k D) (hb:Below W.heap.size W W'):LnS C R S B W' n k D:=fun p q l hl=>by
 obtain⟨v,e,h1,h2⟩:=h p q l hl;exact⟨v,e,h1,fun hn=>(h2 hn).below hb⟩
theorem EQ:lnF ⟨#[]⟩=none:=rfl
theorem Ox {C R:Nat→Int} {S:Nat→ByteArray} {p q:Int}: ∀k:Nat,(∀i,i<k→ ¬(C i=p∧R i=q))→Yf C R S p q k=⟨#[]⟩
 | 0,_=>rfl
 | k+1,h=>by rw [Yf,if_neg (h k (by omega)),Ox k (fun i hi=>h i (by omega))]
theorem LnS.skip {C R:Nat→Int} {S:Nat→ByteArray} {B n k:Nat} {W:World} {D:DataW Value} (h:LnS C R S B W n k D) (hdq: ∀i,i<k→ ¬(C i=C k∧R i=R k)) (hs:lnF (S k)=none):LnS C R S B W n (k+1) D:=fun p q l hl=>by
 obtain⟨v,e,h1,h2⟩:=h p q l hl;refine⟨v,e,?_⟩;by_cases hm:C k=p∧R k=q
 ·have hn:Yf C R S p q k=⟨#[]⟩:=Ox k (fun i hi=>by rw [←hm.1,←hm.2];exact hdq i hi);rw [hn]at h1;rw [Yf,if_pos hm];exact⟨fun _=>h1 EQ,fun h9=>absurd hs h9⟩
 ·rw [Yf,if_neg hm];exact⟨h1,h2⟩
theorem LnS.put {C R:Nat→Int} {S:Nat→ByteArray} {B n k:Nat} {W:World} {D:DataW Value} {kk:Lit} {v:Value} (hD:IsMap D) (hk:keyOf Tryz.prog 30 (.agg #[.int .i64 (C k),.int .i64 (R k)])=some kk) (h:LnS C R S B W n k D) (hv:LnY C R B W n (S k) v) (hs:lnF (S k)≠none):LnS C R S B W n (k+1) (D.put kk (.held v)):=fun p q l hl=>by
 by_cases hm:C k=p∧R k=q
 ·rw [Yf,if_pos hm];rw [hm.1,hm.2,hl]at hk;cases hk
  exact⟨v,by rw [atKey_put_same hD (keyedRef.key hl)],fun h9=>absurd h9 hs,fun _=>hv⟩
 ·rw [Yf,if_neg hm]
  have hne:l≠kk:=fun e2=>by
   rw [←e2]at hk;have:=keyedRef.inj hk hl;simp at this;exact hm this
  obtain⟨v',e,hv'⟩:=h p q l hl;exact⟨v',by rw [atKey_put_other hne];exact e,hv'⟩
theorem Qjt (w:World):(zeroValue 53).run Tryz.prog w= .ok zLn w:=by kernel_rfl
theorem Qc7 {C R:Nat→Int} {n k:Nat} (h:Ym C R n=true) (hk:k<n): ∀i,i<k→ ¬(C i=C k∧R i=R k):=fun i hi e=>by
 have:=of_decide_eq_true (Er h k hk i hi);omega
theorem Kz {A:Option Addr} {n cap:Nat} {C R:Nat→Int} {S:Nat→ByteArray} (w:World) (h:ClRow w A n C R S) (hok:Zg C R S n=true) (hg:GI w):
  Calls Tryz.prog 27 #[.slice A n cap] w fun e w'=>e= .returned (.map (some w.heap.size))∧(∃z D,z≤n∧w'.ownsMap Tryz.prog 30 Nc w.heap.size z D∧LnS C R S (w.heap.size+1) w' n n D)∧Below w.heap.size w w':=by
 have HR:Hid (ClRow w A n C R S):=h;have HG:Hid (GI w):=hg;obtain⟨hn,hrs⟩:=Vf hok;obtain⟨kl,hkl⟩:=Qg2 (Qc6 hrs);have HK:Hid (∀i,i<n→keyOf Tryz.prog 30 (.agg #[.int .i64 (C i),.int .i64 (R i)])=some (kl i)):=hkl;have HOF:Hid (∀k,k<n→ ∀i,i<k→ ¬(C i=C k∧R i=R k)):=fun k hk=>Qc7 hrs hk;have HSZ:Hid (∀i,i<n→(S i).size≤200):=(UI hok).1
 have hmm:= @run_makeMap Tryz.prog;clear h hg hkl hrs hok;go_enter Tryz.func27,Tryz.ntmps27;go_wp2_with fail
 go_loopw [12] (fun i wr=> ∃(k z:Nat) (D:DataW Value),k≤n∧z≤k∧i= .int .i64 k∧wr.ownsMap Tryz.prog 30 Nc w.heap.size z D∧IsMap D∧LnS C R S (w.heap.size+1) wr n k D∧Below w.heap.size w wr∧w.heap.size<wr.heap.size) (fun i _=>n-(intOf i).toNat)
 case atStart=>exact⟨0,0,_,Nat.zero_le _,Nat.le_refl _,rfl,World.ownsMap_made _ _ _ _,⟨_,rfl⟩,fun p q l _=>⟨zLn,rfl,fun _=>rfl,fun h=>absurd EQ h⟩,by go_grown,by simp⟩
 case round=>
  obtain⟨k,z,D,hk,hz,rfl,hm,hD,hs,hbel,hws⟩:=hrel;have M0:Hid (wr.ownsMap Tryz.prog 30 Nc w.heap.size z D):=hm;have HD:Hid (IsMap D):=hD;have E0:Hid (LnS C R S (w.heap.size+1) wr n k D):=hs;have B0:Hid (Below w.heap.size w wr):=hbel;have HWS:Hid (w.heap.size<wr.heap.size):=hws;clear hm hD hs
  by_cases hlt:k<n
  ·obtain⟨b,o,rfl,hl,c0,c1,c2,_⟩:=HR.out.2 k hlt;rw [←hbel.cell (p:=⟨_,_,none⟩) hl]at c0 c1 c2;have hl2:b<wr.heap.size:=Nat.lt_of_lt_of_le hl hbel.size;have h0:(0:Int)≤(k:Int):=by omega
   have h1:(k:Int)<(n:Int):=by omega
   clear hbel hws;have hws:Hid (w.heap.size<wr.heap.size):=HWS.out;go_upto_region 5 with fail
   obtain⟨X,HX⟩: ∃X,Hid (wr.alloc (.cells #[.int .i64 (C k),.int .i64 (R k),.string (S k)] 48)=X):=⟨_,rfl⟩;rw [HX.out];have x0:X.cell? ⟨wr.heap.size,0,none⟩=some (.int .i64 (C k)):=by rw [←HX.out];simp
   have x1:X.cell? ⟨wr.heap.size,1,none⟩=some (.int .i64 (R k)):=by rw [←HX.out];simp
   have x2:X.cell? ⟨wr.heap.size,2,none⟩=some (.string (S k)):=by rw [←HX.out];simp
   have xl:wr.heap.size<X.heap.size:=by rw [←HX.out];simp
   have hbX:Below wr.heap.size wr X:=by rw [←HX.out];exact(Below.refl _ _).alloc (Nat.le_refl _) _
   have BX:=hd (Qc B0.out hbX);have MX:Hid (X.ownsMap Tryz.prog 30 Nc w.heap.size z D):=M0.out.kept (Yx none hbX) (by simp);have EX:=hd (E0.out.below hbX);clear HX hbX c0 c1 c2 M0 E0 B0;go_wp2_with fail
   refine(Hp (S k) _ (HSZ.out k hlt) (HG.out.below BX.out)).mono ?_;rintro e w1 ⟨hb,hf⟩;have B1:=hd (Qc BX.out hb);have M1:Hid (w1.ownsMap Tryz.prog 30 Nc w.heap.size z D):=MX.out.kept (Yx none hb) (by simp);have E1:=hd (EX.out.below hb);replace x0:=(hb.cell (p:=⟨wr.heap.size,0,none⟩) xl).trans x0;replace x1:=(hb.cell (p:=⟨wr.heap.size,1,none⟩) xl).trans x1
   replace xl:=Nat.lt_of_lt_of_le xl hb.size;clear hb BX MX EX x2;rcases hf with⟨h1',rfl⟩ | ⟨o1,A1,c1,h1',h2',rfl,hfr⟩
   ·have HE:Hid (LnS C R S (w.heap.size+1) w1 n (k+1) D):=E1.out.skip (HOF.out k hlt) h1';clear h1';go_wp2_with fail
    go_roundw
    case rel=>exact⟨k+1,z,D,by omega,by omega,by go_num,M1.out,HD.out,HE.out,B1.out,by have:=hws.out;omega⟩
    case measure=>simp [intOf];omega
   ·have HO:Hid (lnF (S k)≠none):=by show _≠_;rw [h1'];exact fun h=>by cases h
    have HLA:Hid (lnA (S k)=arA (ouF o1) o1.length):=by show _=_;unfold lnA;rw [h1']
    obtain⟨hl60,hsm⟩:=Jp h2';have HSM:Hid (∀i,i<o1.length→(ouF o1 i).cs.size≤maxLen∧(ouF o1 i).kids.length≤1048576):=hsm;have HFR:Hid (FnRow w1 A1 o1.length (ouF o1)):=hfr;obtain⟨on,HON⟩: ∃on,Hid (o1.length=on):=⟨_,rfl⟩;rw [HON.out]at HFR HSM hl60 ⊢;clear h1' h2' hsm hfr;go_wp2_with fail
    refine(MP _ HFR.out (by omega) (fun i hi=>(HSM.out i hi).2) (HG.out.below B1.out).gt.ft).mono ?_;rintro e w2 ⟨v,rfl,ho,hb⟩;obtain⟨A2,d2,rfl,_,_⟩:=Qj ho;obtain⟨m2,HM2'⟩: ∃m2,Hid (Mp (ouF o1) on=m2):=⟨_,rfl⟩;obtain⟨e1,e2⟩:=DH (ouF o1) on;rw [HM2'.out]at ho e2 ⊢;rw [←e1]at ho
    rw [HON.out]at HLA;have HM2:Hid ((lnA (S k)).length=m2):=by show _=_;rw [HLA.out];exact e2
    have O2:Hid (w2.ownsRow (w.heap.size+1) 69 4 (.slice A2 m2 d2) m2 (QP arC (lnA (S k)))):=by rw [HLA.out];exact Zl ho (by have:=hws.out;omega)
    have HA2:Hid (ArR w2 A2 m2 (lnA (S k))):=ArR.of_own O2.out HM2.out;have B2:=hd (Qc B1.out hb);have M2:Hid (w2.ownsMap Tryz.prog 30 Nc w.heap.size z D):=M1.out.kept (Yx none hb) (by simp);have E2:=hd (E1.out.below hb);replace x0:=(hb.cell (p:=⟨wr.heap.size,0,none⟩) xl).trans x0;replace x1:=(hb.cell (p:=⟨wr.heap.size,1,none⟩) xl).trans x1;replace xl:=Nat.lt_of_lt_of_le xl hb.size
    have hsw:Hid (w.heap.size<w2.heap.size):=by have:=hws.out;show w.heap.size<w2.heap.size;omega
    clear hb ho e1 e2 B1 M1 E1;go_wp2_with fail
    refine wp_region_held_drew (S:=fun w'=>w'.cell? ⟨wr.heap.size,0,none⟩=some (.int .i64 (C k))∧w'.cell? ⟨wr.heap.size,1,none⟩=some (.int .i64 (R k))∧wr.heap.size<w'.heap.size∧Below w.heap.size w w') (by kernel_rfl) ⟨x0,x1,xl,B2.out.drew⟩ (fun hHeld=> ?_);refine tjA 0 ?_ rfl (by kernel_rfl) (by rfl) ?_ ?_;rotate_left
    ·(intro wq hSw;obtain⟨hq0,hq1,hq2,hq3⟩:=hSw;go_simp<;>with_reducible rfl)
    try simp only [Act.put,List.getElem_toArray,List.getElem_cons_zero,List.getElem_cons_succ,List.setIfInBounds_toArray,List.set_cons_zero,List.set_cons_succ]
    refine tjA 1 ?_ rfl (by kernel_rfl) (by rfl) ?_ ?_;rotate_left
    ·(intro wq hSw;obtain⟨hq0,hq1,hq2,hq3⟩:=hSw;go_simp<;>with_reducible rfl)
    try simp only [Act.put,List.getElem_toArray,List.getElem_cons_zero,List.getElem_cons_succ,List.setIfInBounds_toArray,List.set_cons_zero,List.set_cons_succ]
    refine tjA 2 ?_ rfl (by kernel_rfl) (by rfl) ?_ ?_;rotate_left
    ·(intro wq hSw;obtain⟨hq0,hq1,hq2,hq3⟩:=hSw;go_simp<;>with_reducible rfl)
    try simp only [Act.put,List.getElem_toArray,List.getElem_cons_zero,List.getElem_cons_succ,List.setIfInBounds_toArray,List.set_cons_zero,List.set_cons_succ]
    refine tjA 3 ?_ rfl (by kernel_rfl) (by rfl) ?_ ?_;rotate_left
    ·(intro wq hSw;obtain⟨hq0,hq1,hq2,hq3⟩:=hSw;go_simp<;>with_reducible rfl)
    try simp only [Act.put,List.getElem_toArray,List.getElem_cons_zero,List.getElem_cons_succ,List.setIfInBounds_toArray,List.set_cons_zero,List.set_cons_succ]
    refine tjA 4 ?_ rfl (by kernel_rfl) (by rfl) ?_ ?_;rotate_left
    ·(intro wq hSw;obtain⟨hq0,hq1,hq2,hq3⟩:=hSw;go_simp<;>with_reducible rfl)
    try simp only [Act.put,List.getElem_toArray,List.getElem_cons_zero,List.getElem_cons_succ,List.setIfInBounds_toArray,List.set_cons_zero,List.set_cons_succ]
    refine tjA 5 ?_ rfl (by kernel_rfl) (by rfl) ?_ ?_;rotate_left
    ·(intro wq hSw;obtain⟨hq0,hq1,hq2,hq3⟩:=hSw;go_simp<;>with_reducible rfl)
    try simp only [Act.put,List.getElem_toArray,List.getElem_cons_zero,List.getElem_cons_succ,List.setIfInBounds_toArray,List.set_cons_zero,List.set_cons_succ]
    refine tjA 6 ?_ rfl (by kernel_rfl) (by rfl) ?_ ?_;rotate_left
    ·(intro wq hSw;obtain⟨hq0,hq1,hq2,hq3⟩:=hSw;go_simp<;>with_reducible rfl)
    try simp only [Act.put,List.getElem_toArray,List.getElem_cons_zero,List.getElem_cons_succ,List.setIfInBounds_toArray,List.set_cons_zero,List.set_cons_succ]
    refine rqA 7 (fun Kq hKq=> ?_);go_simp;refine(VT w2.drew (HR.out.below B2.out.drew) (HA2.out.below (Below.refl _ _).drew) hn).mono ?_;rintro e v1 ⟨G,z9,c9,rfl,hz9,ho9,hb⟩;have hb2:Below w2.heap.size w2 v1:=Qc (Below.refl _ _).drew hb;have y0:=(hb2.cell (p:=⟨wr.heap.size,0,none⟩) xl).trans x0;have y1:=(hb2.cell (p:=⟨wr.heap.size,1,none⟩) xl).trans x1
    have yl:wr.heap.size<v1.heap.size:=Nat.lt_of_lt_of_le xl hb2.size;have BV:=hd (Qc B2.out hb2);have MV:Hid (v1.ownsMap Tryz.prog 30 Nc w.heap.size z D):=M2.out.kept (Yx none hb2) (by simp);have EV:=hd (E2.out.below hb2);have AV:=hd (Qe O2.out hb2);have OV:Hid (v1.ownsRow (w.heap.size+1) 30 2 (.slice G z9 c9) z9 (QP rfL (leL C R (lnA (S k)) n))):=Zl ho9 (by have:=hsw.out;show w.heap.size+1≤w2.heap.size;omega);have HZ9:Hid ((leL C R (lnA (S k)) n).length=z9):=hz9
    refine hKq.out _ _ ?_ (fun hHeld=> ?_)
    ·exact⟨y0,y1,yl,BV.out⟩
    clear hKq Kq hb hb2 ho9 hz9 M2 E2 O2;try simp only [Act.put,List.getElem_toArray,List.getElem_cons_zero,List.getElem_cons_succ,List.setIfInBounds_toArray,List.set_cons_zero,List.set_cons_succ]
    refine tjA 8 ?_ rfl (by kernel_rfl) (by rfl) ?_ ?_;rotate_left
    ·(intro wq hSw;obtain⟨hq0,hq1,hq2,hq3⟩:=hSw;go_simp<;>with_reducible rfl)
    try simp only [Act.put,List.getElem_toArray,List.getElem_cons_zero,List.getElem_cons_succ,List.setIfInBounds_toArray,List.set_cons_zero,List.set_cons_succ]
    refine rqA 9 (fun Kq hKq=> ?_);refine Qa1 (by rfl) _ _ _ 55 (by rfl) 30 53 keyedRef Tryz.underlying55 Nc w.heap.size z D (by rfl) MV.out (by unfold maxLen;omega) _ (.agg #[.slice A1 on c1,.slice A2 m2 d2,.slice G z9 c9]) (kl k) (by rfl) (by rfl) (HK.out k hlt) _ [] rfl ?_;intro v2 ho2 hg2;have hne:wr.heap.size≠w.heap.size:=by have:=hws.out;omega
    have t0:=hg2.cell y0 (fun e=>hne (Option.some.inj e));have t1:=hg2.cell y1 (fun e=>hne (Option.some.inj e));have BV2:Hid (Below w.heap.size w v2):=BV.out.grown hg2 BV.out.size (fun j hj=>by cases hj;exact Nat.le_refl _);have HDP:Hid (IsMap (D.put (kl k) (.held (.agg #[.slice A1 on c1,.slice A2 m2 d2,.slice G z9 c9])))):=by obtain⟨es,rfl⟩:=HD.out;exact⟨_,rfl⟩
    have E9:Hid (LnS C R S (w.heap.size+1) v2 n (k+1) (D.put (kl k) (.held (.agg #[.slice A1 on c1,.slice A2 m2 d2,.slice G z9 c9])))):=LnS.put HD.out (HK.out k hlt) (EV.out.kept hg2 (Nat.lt_succ_self _)) ⟨_,A2,m2,d2,G,z9,c9,rfl,HM2.out,AV.out.kept hg2 (Gj AV.out (Nat.lt_succ_self _)),HZ9.out,OV.out.kept hg2 (Gj OV.out (Nat.lt_succ_self _))⟩ HO.out;refine hKq.out _ _ ?_ (fun hHeld=> ?_)
    ·exact⟨t0,t1,Nat.lt_of_lt_of_le yl hg2.size,BV2.out⟩
    clear hKq Kq;try simp only [Act.put,List.getElem_toArray,List.getElem_cons_zero,List.getElem_cons_succ,List.setIfInBounds_toArray,List.set_cons_zero,List.set_cons_succ]
    refine wpAnyH_done (by kernel_rfl) ?_ _;go_wp2_with fail
    go_roundw
    case rel=>exact⟨k+1,z+1,_,by omega,by omega,by go_num,ho2,HDP.out,E9.out,BV2.out,by have:=hws.out;have:=hg2.size;omega⟩
    case measure=>simp [intOf];omega
  ·have h1: ¬(k:Int)<(n:Int):=by omega
   obtain rfl:k=n:=by omega
   go_wp2_with fail
   go_ret;exact⟨rfl,⟨z,hz,D,M0.out,E0.out⟩,hbel⟩
end Go.Proofs.YtekcnhfkmimodaaGreatDoor
