import Derived.Test.YtbdhinckiccniaaGreatDoorMn
import Derived.Test.YtbdhinckiccniaaGreatDoorGzj
import Derived.Test.YtbdhinckiccniaaGreatDoorSa
import Derived.Laws.AppendOwnNone
import Derived.WideShapes
set_option linter.unusedSimpArgs false
set_option linter.unusedVariables false
set_option maxHeartbeats 4000000
set_option maxRecDepth 100000
namespace Go.Proofs.YtbdhinckiccniaaGreatDoor
open Go.RowKit
structure CE where
 c:Int
 r:Int
 s:ByteArray
def ceL(x:CE):List Value:= [.int .i64 x.c,.int .i64 x.r,.string x.s]
theorem ceL_len(x:CE):(ceL x).length=3:=rfl
abbrev CeRow(W:World)(A:Option Addr)(L:List CE):Prop:=RowAt 3 ceL W A L
def Qvu(k:Int):CE:=⟨k,(k+1),mtx (k+1+1)⟩
theorem laws_markCellS{B n:Nat}{v:Value}{xs:List Value}(k0:Int)(w:World)(h:w.ownsRow B 37 3 v n xs)(hn:n≤1048576)(hk0:0<k0)(hk1:k0≤70368744177664):
  Calls Tryz.prog 87 #[v,.int .i64 k0] w fun e w'=>e= .returned (.int .i64 (k0+(n:Int)*3))∧w'.ownsRow B 37 3 v n (Za ceL (mkL Qvu 3 k0 n))∧w.grownBy w' v.ownBlock:=by
 have HO:Hid (w.ownsRow B 37 3 v n xs):=h;obtain⟨A,cap,rfl,_,_⟩:=Qo h;clear h;obtain⟨LL,HLL⟩: ∃LL,Hid (mkL Qvu 3 k0 n=LL):=⟨_,rfl⟩;rw[HLL.out];go_enter Tryz.func87,Tryz.ntmps87;go_wp2_with fail
 go_loopw [1,5] (fun q i wr=> ∃t:Nat,t≤n∧i= .int .i64 t∧q= .int .i64 (k0+(t:Int)*3)∧(∃ys,wr.ownsRow B 37 3 (.slice A n cap) n ys∧ ∀j,j<t*3→ys[j]? =(Za ceL LL)[j]?)∧w.grownBy wr (Value.slice A n cap).ownBlock) (fun _ i _=>n-(intOf i).toNat)
 case atStart=>exact⟨0,Nat.zero_le _,rfl,by simp,⟨xs,HO.out,fun j hj=>by omega⟩,World.grownBy.refl _ _⟩
 case round=>
  clear HO;obtain⟨t,ht,rfl,rfl,⟨ys,hown,hys⟩,hgr⟩:=hrel;by_cases hlt:t<n
  ·obtain⟨k,HK⟩: ∃k:Int,Hid (k0+(t:Int)*3=k):=⟨_,rfl⟩;have hp0:0<k:=by have:=HK.out;omega
   have hp1:k≤70378744177664:=by have:=HK.out;omega
   have HX:Hid (∀j,j<3→(Za ceL LL)[t*3+j]? =(ceL (Qvu k))[j]?):=fun j hj=>by
    rw[←HLL.out,MP ceL_len j hj,mkL_at _ _ _ _ _ hlt,←HK.out];rfl
   rw[HK.out]
   obtain⟨g,rfl⟩: ∃g,A=some ⟨g,0,none⟩:=by
    obtain⟨A',cap',e,_,hc⟩:=Qo hown;cases e
    obtain⟨g,e,_⟩:=hc (t*3) (by omega);exact⟨g,e⟩
   have HA0:Hid (∃ys,wr.ownsRow B 37 3 (.slice (some ⟨g,0,none⟩) n cap) n ys∧(∀j,j<t*3→ys[j]? =(Za ceL LL)[j]?)∧w.grownBy wr (some g)):=⟨ys,hown,hys,hgr⟩;clear hown hys hgr;have q0:(0:Int)≤(t:Int):=by omega
   have q1:(t:Int)<(n:Int):=by omega
   obtain⟨ys0,o0,p0,r0⟩:=HA0.out;obtain⟨A',cap',e,_,hc⟩:=Qo o0;cases e
   obtain⟨gg,e0,_,hg0,d0,f0⟩:=hc (t*3) (by omega);cases e0
   clear hc;have hl:=o0.1;obtain⟨x0,y0⟩: ∃x,ys0[t*3]? =some x:=⟨_,List.getElem?_eq_getElem (by omega)⟩;rw[y0]at d0;clear y0 hl
   have HP0:Hid (∃ys,((wr.setCell ⟨g,t*3,none⟩ (.int .i64 (k)))).ownsRow B 37 3 (.slice (some ⟨g,0,none⟩) n cap) n ys∧(∀j,j<t*3+1→ys[j]? =(Za ceL LL)[j]?)∧w.grownBy ((wr.setCell ⟨g,t*3,none⟩ (.int .i64 (k)))) (some g)):=by
    obtain⟨oq,gq⟩:=o0.stored (t*3) (.int .i64 (k));refine⟨_,oq,fun j hj=> ?_,Qa0 r0 gq⟩;by_cases e:t*3=j
    ·subst e;rw[List.getElem?_set_self (by have:=o0.1;omega)];exact(HX.out 0 (by omega)).symm
    ·rw[List.getElem?_set_ne e];exact p0 j (by omega)
   clear o0 p0 r0;clear HA0;obtain⟨ys1,o1,p1,r1⟩:=HP0.out;obtain⟨A',cap',e,_,hc⟩:=Qo o1;cases e
   obtain⟨gg,e1,_,hg1,d1,f1⟩:=hc (t*3+1) (by omega);cases e1
   clear hc;have hl:=o1.1;obtain⟨x1,y1⟩: ∃x,ys1[t*3+1]? =some x:=⟨_,List.getElem?_eq_getElem (by omega)⟩;rw[y1]at d1;clear y1 hl
   have HP1:Hid (∃ys,(((wr.setCell ⟨g,t*3,none⟩ (.int .i64 (k))).setCell ⟨g,t*3+1,none⟩ (.int .i64 (k+1)))).ownsRow B 37 3 (.slice (some ⟨g,0,none⟩) n cap) n ys∧(∀j,j<t*3+2→ys[j]? =(Za ceL LL)[j]?)∧w.grownBy (((wr.setCell ⟨g,t*3,none⟩ (.int .i64 (k))).setCell ⟨g,t*3+1,none⟩ (.int .i64 (k+1)))) (some g)):=by
    obtain⟨oq,gq⟩:=o1.stored (t*3+1) (.int .i64 (k+1));refine⟨_,oq,fun j hj=> ?_,Qa0 r1 gq⟩;by_cases e:t*3+1=j
    ·subst e;rw[List.getElem?_set_self (by have:=o1.1;omega)];exact(HX.out 1 (by omega)).symm
    ·rw[List.getElem?_set_ne e];exact p1 j (by omega)
   clear o1 p1 r1;clear HP0;go_wp2_with fail
   refine(Qja _ _ (by omega) (by omega)).mono ?_;rintro e w2 ⟨rfl,hb⟩
   have HB2:Hid (∃ys,w2.ownsRow B 37 3 (.slice (some ⟨g,0,none⟩) n cap) n ys∧(∀j,j<t*3+2→ys[j]? =(Za ceL LL)[j]?)∧w.grownBy w2 (some g)):=by
    obtain⟨z,o1,p1,g1⟩:=HP1.out;exact⟨z,Qf o1 hb,p1,Qa0 g1 (Qrc _ hb)⟩
   clear hb HP1 d0 f0 d1 f1;obtain⟨ys2,o2,p2,r2⟩:=HB2.out;obtain⟨A',cap',e,_,hc⟩:=Qo o2;cases e
   obtain⟨gg,e2,_,hg2,d2,f2⟩:=hc (t*3+2) (by omega);cases e2
   clear hc;have hl:=o2.1;obtain⟨x2,y2⟩: ∃x,ys2[t*3+2]? =some x:=⟨_,List.getElem?_eq_getElem (by omega)⟩;rw[y2]at d2;clear y2 hl
   have HP2:Hid (∃ys,((w2.setCell ⟨g,t*3+2,none⟩ (.string (mtx (k+1+1))))).ownsRow B 37 3 (.slice (some ⟨g,0,none⟩) n cap) n ys∧(∀j,j<t*3+3→ys[j]? =(Za ceL LL)[j]?)∧w.grownBy ((w2.setCell ⟨g,t*3+2,none⟩ (.string (mtx (k+1+1))))) (some g)):=by
    obtain⟨oq,gq⟩:=o2.stored (t*3+2) (.string (mtx (k+1+1)));refine⟨_,oq,fun j hj=> ?_,Qa0 r2 gq⟩;by_cases e:t*3+2=j
    ·subst e;rw[List.getElem?_set_self (by have:=o2.1;omega)];exact(HX.out 2 (by omega)).symm
    ·rw[List.getElem?_set_ne e];exact p2 j (by omega)
   clear o2 p2 r2;clear HB2;go_wp2_with fail
   all_goals
    go_roundw
    case rel=>
     obtain⟨z,o1,p1,g1⟩:=HP2.out;exact⟨t+1,by omega,by simp,by have:=HK.out;congr 1;omega,⟨z,o1,fun j hj=>p1 j (by omega)⟩,g1⟩
    case measure=>simp[intOf];omega
  ·have h1: ¬(t:Int)<(n:Int):=by omega
   obtain rfl:t=n:=by omega
   go_wp2_with fail
   go_ret;exact⟨rfl,by rw[Qvs ceL_len hown.1 (by rw[←HLL.out];exact Qvq _ _ _ _) hys]at hown;exact hown,hgr⟩
theorem laws_heldCellS{A:Option Addr}{n cap:Nat}(k0:Int)(w:World)(h:CeRow w A (mkL Qvu 3 k0 n))(hn:n≤1048576)(hk0:0<k0)(hk1:k0≤70368744177664):
  Calls Tryz.prog 90 #[.slice A n cap,.int .i64 k0] w fun e w'=>e= .returned (.int .i64 (k0+(n:Int)*3))∧Below w.heap.size w w':=by
 have HR:Hid (CeRow w A (mkL Qvu 3 k0 n)):=h;clear h;go_enter Tryz.func90,Tryz.ntmps90;go_wp2_with fail
 go_loopw [1,5] (fun q i wr=> ∃t:Nat,t≤n∧i= .int .i64 t∧q= .int .i64 (k0+(t:Int)*3)∧Below w.heap.size w wr) (fun _ i _=>n-(intOf i).toNat)
 case atStart=>exact⟨0,Nat.zero_le _,rfl,by simp,Below.refl _ _⟩
 case round=>
  obtain⟨t,ht,rfl,rfl,hbel⟩:=hrel;by_cases hlt:t<n
  ·obtain⟨k,HK⟩: ∃k:Int,Hid (k0+(t:Int)*3=k):=⟨_,rfl⟩;have hp0:0<k:=by have:=HK.out;omega
   have hp1:k≤70378744177664:=by have:=HK.out;omega
   have hx:=mkL_at Qvu 3 k0 n t hlt;have hkk:k0+(t:Int)*((3:Nat):Int)=k:=HK.out;rw[hkk]at hx;rw[HK.out];obtain⟨b,o,rfl,hl,hc⟩:=HR.out.2 t _ hx;have HC0:Hid (w.cell? ⟨b,o+t*3,none⟩=some (.int .i64 (k))):=hc 0 _ rfl;have HC1:Hid (w.cell? ⟨b,o+t*3+1,none⟩=some (.int .i64 (k+1))):=hc 1 _ rfl
   have HC2:Hid (w.cell? ⟨b,o+t*3+2,none⟩=some (.string (mtx (k+1+1)))):=hc 2 _ rfl;clear hc hx hkk;have hlw:=hbel.size;have hl2:b<wr.heap.size:=Nat.lt_of_lt_of_le hl hlw;have c0:=HC0.out;rw[←hbel.cell (p:=⟨_,_,none⟩) hl]at c0;have c1:=HC1.out
   rw[←hbel.cell (p:=⟨_,_,none⟩) hl]at c1;have c2:=HC2.out;rw[←hbel.cell (p:=⟨_,_,none⟩) hl]at c2;have q0:(0:Int)≤(t:Int):=by omega
   have q1:(t:Int)<(n:Int):=by omega
   have HB:Hid (Below w.heap.size w wr):=hbel;clear hbel;go_wp2_with fail
   go_region_held3 (fun w'=>(∀bq oq,bq<wr.heap.size→w'.cell? ⟨bq,oq,none⟩=wr.cell? ⟨bq,oq,none⟩)∧wr.heap.size≤w'.heap.size∧Below wr.heap.size wr w')
    (exact Qp (Nat.le_refl _) (by go_grown))
    (first
    | (go_at_call 88;refine(Qja _ _ (by omega) (by omega)).mono ?_;rintro e v0 ⟨rfl,hb⟩;obtain⟨hk0,hz0⟩:=Qg (B:=wr.heap.size) (X:=wr) (by go_grown) (by go_size) hb;have hW0: ∀b o,b<wr.heap.size→v0.cell? ⟨b,o,none⟩=wr.cell? ⟨b,o,none⟩:=(fun b o h=>hk0.cell (p:=⟨b,o,none⟩) h);clear hb))
   all_goals go_wp2_with fail
   all_goals
    go_roundw
    case rel=>exact⟨t+1,by omega,by simp,by have:=HK.out;congr 1;omega,Qc HB.out (by go_grown)⟩
    case measure=>simp[intOf];omega
  ·have h1: ¬(t:Int)<(n:Int):=by omega
   obtain rfl:t=n:=by omega
   go_wp2_with fail
   go_ret;exact⟨rfl,hbel⟩
end Go.Proofs.YtbdhinckiccniaaGreatDoor
namespace Go.Proofs.YtbdhinckiccniaaGreatDoor
open Go.RowKit Go.Maps
def VO(k:Int)(n:Nat):List Int:=(List.range n).map fun(i:Nat)=>k+(i:Int)
theorem itMk_len(k:Int)(n:Nat):(VO k n).length=n:=by simp[VO]
theorem itMk_at(k:Int){n t:Nat}(h:t<n):(VO k n)[t]? =some (k+(t:Int)):=by simp[VO,h]
theorem laws_heldInt64S{A:Option Addr}{n cap:Nat}(k:Int)(w:World)(h:IntRow w A (VO k n))(hn:n≤1048576)(h0:0≤k)(h1:k≤1099511627776000):
  Calls Tryz.prog 89 #[.slice A n cap,.int .i64 k] w fun e w'=>e= .returned (.int .i64 (k+(n:Int)))∧w'=w:=by
 have HR:Hid (IntRow w A (VO k n)):=h;clear h;go_enter Tryz.func89,Tryz.ntmps89;go_wp2_with fail
 go_loopw [1,5] (fun q i wr=> ∃t:Nat,t≤n∧i= .int .i64 t∧q= .int .i64 (k+(t:Int))∧wr=w) (fun _ i _=>n-(intOf i).toNat)
 case atStart=>exact⟨0,Nat.zero_le _,rfl,by simp,rfl⟩
 case round=>
  obtain⟨t,ht,rfl,rfl,hw⟩:=hrel;subst hw;by_cases hlt:t<n
  ·obtain⟨b,o,rfl,hl,hc⟩:=HR.out.2 t (by rw[itMk_len];exact hlt);have e0:(VO k n).getD t 0=k+(t:Int):=by rw[List.getD_eq_getElem?_getD,itMk_at k hlt];rfl
   rw[e0]at hc;clear e0;have q0:(0:Int)≤(t:Int):=by omega
   have q1:(t:Int)<(n:Int):=by omega
   go_wp2_with fail
   go_roundw
   case rel=>exact⟨t+1,by omega,by simp,by first | rfl | (congr 1;omega),by trivial⟩
   case measure=>simp[intOf];omega
  ·have h1: ¬(t:Int)<(n:Int):=by omega
   obtain rfl:t=n:=by omega
   go_wp2_with fail
   go_ret;exact⟨rfl,rfl⟩
end Go.Proofs.YtbdhinckiccniaaGreatDoor
namespace Go.Proofs.YtbdhinckiccniaaGreatDoor
open Go.RowKit
def MW(k:Int):BR:=⟨mtx k,(k+1)⟩
theorem laws_markBranchS{B n:Nat}{v:Value}{xs:List Value}(k0:Int)(w:World)(h:w.ownsRow B 69 2 v n xs)(hn:n≤1048576)(hk0:0<k0)(hk1:k0≤70368744177664):
  Calls Tryz.prog 40 #[v,.int .i64 k0] w fun e w'=>e= .returned (.int .i64 (k0+(n:Int)*2))∧w'.ownsRow B 69 2 v n (Za brL (mkL MW 2 k0 n))∧w.grownBy w' v.ownBlock:=by
 have HO:Hid (w.ownsRow B 69 2 v n xs):=h;obtain⟨A,cap,rfl,_,_⟩:=Qo h;clear h;obtain⟨LL,HLL⟩: ∃LL,Hid (mkL MW 2 k0 n=LL):=⟨_,rfl⟩;rw[HLL.out];go_enter Tryz.func40,Tryz.ntmps40;go_wp2_with fail
 go_loopw [1,5] (fun q i wr=> ∃t:Nat,t≤n∧i= .int .i64 t∧q= .int .i64 (k0+(t:Int)*2)∧(∃ys,wr.ownsRow B 69 2 (.slice A n cap) n ys∧ ∀j,j<t*2→ys[j]? =(Za brL LL)[j]?)∧w.grownBy wr (Value.slice A n cap).ownBlock) (fun _ i _=>n-(intOf i).toNat)
 case atStart=>exact⟨0,Nat.zero_le _,rfl,by simp,⟨xs,HO.out,fun j hj=>by omega⟩,World.grownBy.refl _ _⟩
 case round=>
  clear HO;obtain⟨t,ht,rfl,rfl,⟨ys,hown,hys⟩,hgr⟩:=hrel;by_cases hlt:t<n
  ·obtain⟨k,HK⟩: ∃k:Int,Hid (k0+(t:Int)*2=k):=⟨_,rfl⟩;have hp0:0<k:=by have:=HK.out;omega
   have hp1:k≤70378744177664:=by have:=HK.out;omega
   have HX:Hid (∀j,j<2→(Za brL LL)[t*2+j]? =(brL (MW k))[j]?):=fun j hj=>by
    rw[←HLL.out,MP Qgw j hj,mkL_at _ _ _ _ _ hlt,←HK.out];rfl
   rw[HK.out]
   obtain⟨g,rfl⟩: ∃g,A=some ⟨g,0,none⟩:=by
    obtain⟨A',cap',e,_,hc⟩:=Qo hown;cases e
    obtain⟨g,e,_⟩:=hc (t*2) (by omega);exact⟨g,e⟩
   have HA0:Hid (∃ys,wr.ownsRow B 69 2 (.slice (some ⟨g,0,none⟩) n cap) n ys∧(∀j,j<t*2→ys[j]? =(Za brL LL)[j]?)∧w.grownBy wr (some g)):=⟨ys,hown,hys,hgr⟩;clear hown hys hgr;have q0:(0:Int)≤(t:Int):=by omega
   have q1:(t:Int)<(n:Int):=by omega
   go_wp2_with fail
   refine(Qja _ _ (by omega) (by omega)).mono ?_;rintro e w2 ⟨rfl,hb⟩
   have HB0:Hid (∃ys,w2.ownsRow B 69 2 (.slice (some ⟨g,0,none⟩) n cap) n ys∧(∀j,j<t*2→ys[j]? =(Za brL LL)[j]?)∧w.grownBy w2 (some g)):=by
    obtain⟨z,o1,p1,g1⟩:=HA0.out;exact⟨z,Qf o1 hb,p1,Qa0 g1 (Qrc _ hb)⟩
   clear hb HA0;obtain⟨ys0,o0,p0,r0⟩:=HB0.out;obtain⟨A',cap',e,_,hc⟩:=Qo o0;cases e
   obtain⟨gg,e0,_,hg0,d0,f0⟩:=hc (t*2) (by omega);cases e0
   clear hc;have hl:=o0.1;obtain⟨x0,y0⟩: ∃x,ys0[t*2]? =some x:=⟨_,List.getElem?_eq_getElem (by omega)⟩;rw[y0]at d0;clear y0 hl
   have HP0:Hid (∃ys,((w2.setCell ⟨g,t*2,none⟩ (.string (mtx (k))))).ownsRow B 69 2 (.slice (some ⟨g,0,none⟩) n cap) n ys∧(∀j,j<t*2+1→ys[j]? =(Za brL LL)[j]?)∧w.grownBy ((w2.setCell ⟨g,t*2,none⟩ (.string (mtx (k))))) (some g)):=by
    obtain⟨oq,gq⟩:=o0.stored (t*2) (.string (mtx (k)));refine⟨_,oq,fun j hj=> ?_,Qa0 r0 gq⟩;by_cases e:t*2=j
    ·subst e;rw[List.getElem?_set_self (by have:=o0.1;omega)];exact(HX.out 0 (by omega)).symm
    ·rw[List.getElem?_set_ne e];exact p0 j (by omega)
   clear o0 p0 r0;clear HB0;obtain⟨ys1,o1,p1,r1⟩:=HP0.out;obtain⟨A',cap',e,_,hc⟩:=Qo o1;cases e
   obtain⟨gg,e1,_,hg1,d1,f1⟩:=hc (t*2+1) (by omega);cases e1
   clear hc;have hl:=o1.1;obtain⟨x1,y1⟩: ∃x,ys1[t*2+1]? =some x:=⟨_,List.getElem?_eq_getElem (by omega)⟩;rw[y1]at d1;clear y1 hl
   have HP1:Hid (∃ys,(((w2.setCell ⟨g,t*2,none⟩ (.string (mtx (k)))).setCell ⟨g,t*2+1,none⟩ (.int .i64 (k+1)))).ownsRow B 69 2 (.slice (some ⟨g,0,none⟩) n cap) n ys∧(∀j,j<t*2+2→ys[j]? =(Za brL LL)[j]?)∧w.grownBy (((w2.setCell ⟨g,t*2,none⟩ (.string (mtx (k)))).setCell ⟨g,t*2+1,none⟩ (.int .i64 (k+1)))) (some g)):=by
    obtain⟨oq,gq⟩:=o1.stored (t*2+1) (.int .i64 (k+1));refine⟨_,oq,fun j hj=> ?_,Qa0 r1 gq⟩;by_cases e:t*2+1=j
    ·subst e;rw[List.getElem?_set_self (by have:=o1.1;omega)];exact(HX.out 1 (by omega)).symm
    ·rw[List.getElem?_set_ne e];exact p1 j (by omega)
   clear o1 p1 r1;clear HP0;go_wp2_with fail
   all_goals
    go_roundw
    case rel=>
     obtain⟨z,o1,p1,g1⟩:=HP1.out;exact⟨t+1,by omega,by simp,by have:=HK.out;congr 1;omega,⟨z,o1,fun j hj=>p1 j (by omega)⟩,g1⟩
    case measure=>simp[intOf];omega
  ·have h1: ¬(t:Int)<(n:Int):=by omega
   obtain rfl:t=n:=by omega
   go_wp2_with fail
   go_ret;exact⟨rfl,by rw[Qvs Qgw hown.1 (by rw[←HLL.out];exact Qvq _ _ _ _) hys]at hown;exact hown,hgr⟩
theorem laws_heldBranchS{A:Option Addr}{n cap:Nat}(k0:Int)(w:World)(h:Xy w A (mkL MW 2 k0 n))(hn:n≤1048576)(hk0:0<k0)(hk1:k0≤70368744177664):
  Calls Tryz.prog 42 #[.slice A n cap,.int .i64 k0] w fun e w'=>e= .returned (.int .i64 (k0+(n:Int)*2))∧Below w.heap.size w w':=by
 have HR:Hid (Xy w A (mkL MW 2 k0 n)):=h;clear h;go_enter Tryz.func42,Tryz.ntmps42;go_wp2_with fail
 go_loopw [1,5] (fun q i wr=> ∃t:Nat,t≤n∧i= .int .i64 t∧q= .int .i64 (k0+(t:Int)*2)∧Below w.heap.size w wr) (fun _ i _=>n-(intOf i).toNat)
 case atStart=>exact⟨0,Nat.zero_le _,rfl,by simp,Below.refl _ _⟩
 case round=>
  obtain⟨t,ht,rfl,rfl,hbel⟩:=hrel;by_cases hlt:t<n
  ·obtain⟨k,HK⟩: ∃k:Int,Hid (k0+(t:Int)*2=k):=⟨_,rfl⟩;have hp0:0<k:=by have:=HK.out;omega
   have hp1:k≤70378744177664:=by have:=HK.out;omega
   have hx:=mkL_at MW 2 k0 n t hlt;have hkk:k0+(t:Int)*((2:Nat):Int)=k:=HK.out;rw[hkk]at hx;rw[HK.out];obtain⟨b,o,rfl,hl,hc⟩:=HR.out.2 t _ hx;have HC0:Hid (w.cell? ⟨b,o+t*2,none⟩=some (.string (mtx (k)))):=hc 0 _ rfl;have HC1:Hid (w.cell? ⟨b,o+t*2+1,none⟩=some (.int .i64 (k+1))):=hc 1 _ rfl
   clear hc hx hkk;have hlw:=hbel.size;have hl2:b<wr.heap.size:=Nat.lt_of_lt_of_le hl hlw;have c0:=HC0.out;rw[←hbel.cell (p:=⟨_,_,none⟩) hl]at c0;have c1:=HC1.out;rw[←hbel.cell (p:=⟨_,_,none⟩) hl]at c1
   have q0:(0:Int)≤(t:Int):=by omega
   have q1:(t:Int)<(n:Int):=by omega
   have HB:Hid (Below w.heap.size w wr):=hbel;clear hbel;go_wp2_with fail
   go_region_held3 (fun w'=>(∀bq oq,bq<wr.heap.size→w'.cell? ⟨bq,oq,none⟩=wr.cell? ⟨bq,oq,none⟩)∧wr.heap.size≤w'.heap.size∧Below wr.heap.size wr w')
    (exact Qp (Nat.le_refl _) (by go_grown))
    (first
    | (go_at_call 88;refine(Qja _ _ (by omega) (by omega)).mono ?_;rintro e v0 ⟨rfl,hb⟩;obtain⟨hk0,hz0⟩:=Qg (B:=wr.heap.size) (X:=wr) (by go_grown) (by go_size) hb;have hW0: ∀b o,b<wr.heap.size→v0.cell? ⟨b,o,none⟩=wr.cell? ⟨b,o,none⟩:=(fun b o h=>hk0.cell (p:=⟨b,o,none⟩) h);clear hb))
   all_goals go_wp2_with fail
   all_goals
    go_roundw
    case rel=>exact⟨t+1,by omega,by simp,by have:=HK.out;congr 1;omega,Qc HB.out (by go_grown)⟩
    case measure=>simp[intOf];omega
  ·have h1: ¬(t:Int)<(n:Int):=by omega
   obtain rfl:t=n:=by omega
   go_wp2_with fail
   go_ret;exact⟨rfl,hbel⟩
end Go.Proofs.YtbdhinckiccniaaGreatDoor
namespace Go.Proofs.YtbdhinckiccniaaGreatDoor
open Go.RowKit Go.Maps
def Shp(w w':World):Prop:= ∀(k:Nat) (e:TypeId) (cur:Array Value),w.heap[k]? =some (.cells cur e (0,0))→ ∃cur':Array Value,w'.heap[k]? =some (.cells cur' e (0,0))∧cur'.size=cur.size
theorem Shp.refl(w:World):Shp w w:=fun k e cur h=>⟨cur,h,rfl⟩
theorem Shp.trans{a b c:World}(h:Shp a b)(h':Shp b c):Shp a c:=fun k e cur hk=>by
 obtain⟨c1,h1,e1⟩:=h k e cur hk;obtain⟨c2,h2,e2⟩:=h' k e c1 h1;exact⟨c2,h2,e2.trans e1⟩
theorem Eu{w:World}{k:Nat}{o:Obj}(h:w.heap[k]? =some o):k<w.heap.size:=(Array.getElem?_eq_some_iff.1 h).1
theorem Shp.below{w w':World}(hb:Below w.heap.size w w'):Shp w w':=fun k e cur h=>⟨cur,by rw[hb.block k (Eu h)];exact h,rfl⟩
theorem Shp.own{w w':World}{B n s:Nat}{e:TypeId}{v:Value}{xs ys:List Value}(h:w.ownsRow B e s v n xs)(h':w'.ownsRow B e s v n ys)(hg:w.grownBy w' v.ownBlock):Shp w w':=fun k e2 cur hk=>by
 by_cases e1:some k=v.ownBlock
 ·rcases h.2 with⟨rfl,_⟩ | ⟨g,cap,c1,rfl,_,hc1,_,_,hs1,_⟩
  ·cases e1
  ·cases e1
   rcases h'.2 with⟨e9,_⟩ | ⟨g',cap',c2,e9,_,hc2,_,_,hs2,_⟩
   ·cases e9
   ·cases e9
    rw[hc1]at hk;cases hk
    exact⟨c2,hc2,hs2.trans hs1.symm⟩
 ·exact⟨cur,by rw[hg.block k (Eu hk) e1];exact hk,rfl⟩
def OwnIn(lo hi:Nat)(w:World)(e:TypeId)(s:Nat)(v:Value)(n:Nat):Prop:=(∃xs,w.ownsRow lo e s v n xs)∧ ∀k,v.ownBlock=some k→k<hi
theorem OwnIn.shp{lo hi n s:Nat}{w w':World}{e:TypeId}{v:Value}(h:OwnIn lo hi w e s v n)(hs:Shp w w'):OwnIn lo hi w' e s v n:=by
 obtain⟨⟨xs,h1⟩,h2⟩:=h;refine⟨?_,h2⟩;rcases h1.2 with⟨rfl,rfl⟩ | ⟨g,cap,cur,rfl,hb,hg,h3,h4,h5,_⟩
 ·exact⟨[],⟨by simp,Or.inl ⟨rfl,rfl⟩⟩⟩
 ·obtain⟨c2,hc2,e2⟩:=hs g e cur hg;refine⟨c2.toList.take (n*s),?_,Or.inr ⟨g,cap,c2,rfl,hb,hc2,h3,h4,e2.trans h5,rfl⟩⟩;rw[List.length_take,Array.length_toList,e2,h5];exact Nat.min_eq_left (Nat.mul_le_mul_right _ h3)
structure FrX (lo hi:Nat) (w w':World):Prop where
 os:w'.os=w.os
 tape:w'.tape=w.tape
 output:w'.output=w.output
 size:w.heap.size≤w'.heap.size
 block: ∀k,k<w.heap.size→(k<lo∨hi≤k)→w'.heap[k]? =w.heap[k]?
 shp:Shp w w'
theorem FrX.refl(lo hi:Nat)(w:World):FrX lo hi w w:=⟨rfl,rfl,rfl,Nat.le_refl _,fun _ _ _=>rfl,Shp.refl w⟩
theorem FrX.trans{lo hi:Nat}{a b c:World}(h:FrX lo hi a b)(h':FrX lo hi b c):FrX lo hi a c:=
 ⟨h'.os.trans h.os,h'.tape.trans h.tape,h'.output.trans h.output,Nat.le_trans h.size h'.size,fun k hk ho=>(h'.block k (Nat.lt_of_lt_of_le hk h.size) ho).trans (h.block k hk ho),h.shp.trans h'.shp⟩
theorem FrX.below{lo hi:Nat}{w w':World}(hb:Below w.heap.size w w'):FrX lo hi w w':=⟨hb.os,hb.tape,hb.output,hb.size,fun k hk _=>hb.block k hk,Shp.below hb⟩
theorem FrX.own{lo hi n s:Nat}{w w':World}{e:TypeId}{v:Value}{xs ys:List Value}(h:w.ownsRow lo e s v n xs)(hh: ∀k,v.ownBlock=some k→k<hi)(h':w'.ownsRow lo e s v n ys)(hg:w.grownBy w' v.ownBlock):FrX lo hi w w':=
 ⟨hg.os,hg.tape,hg.output,hg.size,fun k hk ho=>hg.block k hk (fun e=>by
  have h1:=(h.lt k e.symm).1;have h2:=hh k e.symm
  omega),Shp.own h h' hg⟩
theorem FrX.cell{lo hi b o:Nat}{w w':World}{x:Value}(hf:FrX lo hi w w')(hk:b<lo∨hi≤b)(c:w.cell? ⟨b,o,none⟩=some x):w'.cell? ⟨b,o,none⟩=some x:=
 (World.cell?_of_block (hf.block b (World.block_lt_of_cell? w ⟨b,o,none⟩ c) hk)).trans c
def Ot(ys:List Value)(a:Nat):Option Nat:=match ys[a]? with | some v=>v.ownBlock | none=>none
def Qno(ys:List Value)(a b:Nat):Prop:=Ot ys a=none∨Ot ys a≠Ot ys b
def Qnv(ys:List Value)(n:Nat):Prop:= ∀i j,i<n→j<n→i≠j→Qno ys (i*3+1) (j*3+1)∧Qno ys (i*3+2) (j*3+2)
theorem Jw{ys:List Value}{a:Nat}{v:Value}(h:ys[a]? =some v):Ot ys a=v.ownBlock:=by rw[Ot,h]
def Qvz(ys:List Value)(n hi:Nat):Prop:= ∀i,i<n→(∀q,Ot ys (i*3+1)=some q→q<hi)∧ ∀q,Ot ys (i*3+2)=some q→q<hi
def kvN(L:List VR)(k0:Int):Nat→Int
 | 0=>k0
 | i+1=>kvN L k0 i+(match L[i]? with | some x=>1+(x.ups.length:Int)+(x.m:Int)*3 | none=>0)
theorem kvN_succ{L:List VR}{k0:Int}{i:Nat}{x:VR}(hx:L[i]? =some x):kvN L k0 (i+1)=kvN L k0 i+1+(x.ups.length:Int)+(x.m:Int)*3:=by
 rw[kvN,hx];show _+(1+(x.ups.length:Int)+(x.m:Int)*3)=_;omega
theorem kvN_bd{L:List VR}{k0:Int}(hl: ∀x∈L,Qub x): ∀i:Nat,k0≤kvN L k0 i∧kvN L k0 i≤k0+(i:Int)*4194305
 | 0=>by simp[kvN]
 | i+1=>by
  have ih:=kvN_bd (k0:=k0) hl i;rw[kvN];cases hx:L[i]? with
  | none=>simp only;omega
  | some x=>
   have h1:=hl x (List.mem_of_getElem? hx);have h2:=h1.1;have h3:=h1.2;simp only;omega
end Go.Proofs.YtbdhinckiccniaaGreatDoor
namespace Go.Proofs.YtbdhinckiccniaaGreatDoor
open Go.RowKit
section
variable {P:Program} {ops:Array Oper} {rest:List Oper} {o:Oper} {a:Act} {Q:Exit→Act→World→Prop}
end
end Go.Proofs.YtbdhinckiccniaaGreatDoor
namespace Go.Proofs.YtbdhinckiccniaaGreatDoor
open Go.RowKit Go.Maps
def kdN(d:DG):Int:=kvN d.vs 1 d.vs.length+(d.bs.length:Int)*2
theorem kdN_pos{d:DG}(hl:DgLil d):0<kdN d:=by
 have:=(kvN_bd (k0:=1) hl.v d.vs.length).1;unfold kdN;omega
end Go.Proofs.YtbdhinckiccniaaGreatDoor
