import Derived.Test.YtejbnnacghbhoaaGreatDoorMn
import Derived.Test.YtejbnnacghbhoaaGreatDoorMd
import Derived.Test.YtejbnnacghbhoaaGreatDoorMf
import Derived.Test.YtejbnnacghbhoaaGreatDoorMa
set_option linter.unusedSimpArgs false
set_option linter.unusedVariables false
set_option maxHeartbeats 4000000
set_option maxRecDepth 100000
namespace Go.Proofs.YtejbnnacghbhoaaGreatDoor
open Go.RowKit
theorem smL_len (x:SR):(srC x).length=5:=rfl
abbrev SmRow (W:World) (A:Option Addr) (L:List SR):Prop:=RowAt 5 srC W A L
def smMk (k:Int):SR:=⟨k,(k+1),(k+1+1),mtx (k+1+1+1),(k+1+1+1+1)⟩
theorem laws_markStmtS {B n:Nat} {v:Value} {xs:List Value} (k0:Int) (w:World) (h:w.ownsRow B 69 5 v n xs) (hn:n≤1048576) (hk0:0<k0) (hk1:k0≤70368744177664):
  Calls Tryz.prog 25 #[v,.int .i64 k0] w fun e w'=>e= .returned (.int .i64 (k0+(n:Int)*5))∧w'.ownsRow B 69 5 v n (QC srC (mkL smMk 5 k0 n))∧w.grownBy w' v.ownBlock:=by
 have HO:Hid (w.ownsRow B 69 5 v n xs):=h;obtain⟨A,cap,rfl,_,_⟩:=Qu h;clear h;obtain⟨LL,HLL⟩: ∃LL,Hid (mkL smMk 5 k0 n=LL):=⟨_,rfl⟩;rw [HLL.out];go_enter Tryz.func25,Tryz.ntmps25;go_wp2_with fail
 go_loopw [1,5] (fun q i wr=> ∃t:Nat,t≤n∧i= .int .i64 t∧q= .int .i64 (k0+(t:Int)*5)∧(∃ys,wr.ownsRow B 69 5 (.slice A n cap) n ys∧ ∀j,j<t*5→ys[j]? =(QC srC LL)[j]?)∧w.grownBy wr (Value.slice A n cap).ownBlock) (fun _ i _=>n-(intOf i).toNat)
 case atStart=>exact⟨0,Nat.zero_le _,rfl,by simp,⟨xs,HO.out,fun j hj=>by omega⟩,World.grownBy.refl _ _⟩
 case round=>
  clear HO;obtain⟨t,ht,rfl,rfl,⟨ys,hown,hys⟩,hgr⟩:=hrel;by_cases hlt:t<n
  ·obtain⟨k,HK⟩: ∃k:Int,Hid (k0+(t:Int)*5=k):=⟨_,rfl⟩;have hp0:0<k:=by have:=HK.out;omega
   have hp1:k≤70378744177664:=by have:=HK.out;omega
   have HX:Hid (∀j,j<5→(QC srC LL)[t*5+j]? =(srC (smMk k))[j]?):=fun j hj=>by
    rw [←HLL.out,Hu smL_len j hj,mkL_at _ _ _ _ _ hlt,←HK.out];rfl
   rw [HK.out]
   obtain⟨g,rfl⟩: ∃g,A=some ⟨g,0,none⟩:=by
    obtain⟨A',cap',e,_,hc⟩:=Qu hown;cases e
    obtain⟨g,e,_⟩:=hc (t*5) (by omega);exact⟨g,e⟩
   have HA0:Hid (∃ys,wr.ownsRow B 69 5 (.slice (some ⟨g,0,none⟩) n cap) n ys∧(∀j,j<t*5→ys[j]? =(QC srC LL)[j]?)∧w.grownBy wr (some g)):=⟨ys,hown,hys,hgr⟩;clear hown hys hgr;have q0:(0:Int)≤(t:Int):=by omega
   have q1:(t:Int)<(n:Int):=by omega
   obtain⟨ys0,o0,p0,r0⟩:=HA0.out;obtain⟨A',cap',e,_,hc⟩:=Qu o0;cases e
   obtain⟨gg,e0,_,hg0,d0,f0⟩:=hc (t*5) (by omega);cases e0
   clear hc;have hl:=o0.1;obtain⟨x0,y0⟩: ∃x,ys0[t*5]? =some x:=⟨_,List.getElem?_eq_getElem (by omega)⟩;rw [y0]at d0;clear y0 hl
   have HP0:Hid (∃ys,((wr.setCell ⟨g,t*5,none⟩ (.int .i64 (k)))).ownsRow B 69 5 (.slice (some ⟨g,0,none⟩) n cap) n ys∧(∀j,j<t*5+1→ys[j]? =(QC srC LL)[j]?)∧w.grownBy ((wr.setCell ⟨g,t*5,none⟩ (.int .i64 (k)))) (some g)):=by
    obtain⟨oq,gq⟩:=o0.stored (t*5) (.int .i64 (k));refine⟨_,oq,fun j hj=> ?_,BH r0 gq⟩;by_cases e:t*5=j
    ·subst e;rw [List.getElem?_set_self (by have:=o0.1;omega)];exact(HX.out 0 (by omega)).symm
    ·rw [List.getElem?_set_ne e];exact p0 j (by omega)
   clear o0 p0 r0;clear HA0;obtain⟨ys1,o1,p1,r1⟩:=HP0.out;obtain⟨A',cap',e,_,hc⟩:=Qu o1;cases e
   obtain⟨gg,e1,_,hg1,d1,f1⟩:=hc (t*5+1) (by omega);cases e1
   clear hc;have hl:=o1.1;obtain⟨x1,y1⟩: ∃x,ys1[t*5+1]? =some x:=⟨_,List.getElem?_eq_getElem (by omega)⟩;rw [y1]at d1;clear y1 hl
   have HP1:Hid (∃ys,(((wr.setCell ⟨g,t*5,none⟩ (.int .i64 (k))).setCell ⟨g,t*5+1,none⟩ (.int .i64 (k+1)))).ownsRow B 69 5 (.slice (some ⟨g,0,none⟩) n cap) n ys∧(∀j,j<t*5+2→ys[j]? =(QC srC LL)[j]?)∧w.grownBy (((wr.setCell ⟨g,t*5,none⟩ (.int .i64 (k))).setCell ⟨g,t*5+1,none⟩ (.int .i64 (k+1)))) (some g)):=by
    obtain⟨oq,gq⟩:=o1.stored (t*5+1) (.int .i64 (k+1));refine⟨_,oq,fun j hj=> ?_,BH r1 gq⟩;by_cases e:t*5+1=j
    ·subst e;rw [List.getElem?_set_self (by have:=o1.1;omega)];exact(HX.out 1 (by omega)).symm
    ·rw [List.getElem?_set_ne e];exact p1 j (by omega)
   clear o1 p1 r1;clear HP0;obtain⟨ys2,o2,p2,r2⟩:=HP1.out;obtain⟨A',cap',e,_,hc⟩:=Qu o2;cases e
   obtain⟨gg,e2,_,hg2,d2,f2⟩:=hc (t*5+2) (by omega);cases e2
   clear hc;have hl:=o2.1;obtain⟨x2,y2⟩: ∃x,ys2[t*5+2]? =some x:=⟨_,List.getElem?_eq_getElem (by omega)⟩;rw [y2]at d2;clear y2 hl
   have HP2:Hid (∃ys,((((wr.setCell ⟨g,t*5,none⟩ (.int .i64 (k))).setCell ⟨g,t*5+1,none⟩ (.int .i64 (k+1))).setCell ⟨g,t*5+2,none⟩ (.int .i64 (k+1+1)))).ownsRow B 69 5 (.slice (some ⟨g,0,none⟩) n cap) n ys∧(∀j,j<t*5+3→ys[j]? =(QC srC LL)[j]?)∧w.grownBy ((((wr.setCell ⟨g,t*5,none⟩ (.int .i64 (k))).setCell ⟨g,t*5+1,none⟩ (.int .i64 (k+1))).setCell ⟨g,t*5+2,none⟩ (.int .i64 (k+1+1)))) (some g)):=by
    obtain⟨oq,gq⟩:=o2.stored (t*5+2) (.int .i64 (k+1+1));refine⟨_,oq,fun j hj=> ?_,BH r2 gq⟩;by_cases e:t*5+2=j
    ·subst e;rw [List.getElem?_set_self (by have:=o2.1;omega)];exact(HX.out 2 (by omega)).symm
    ·rw [List.getElem?_set_ne e];exact p2 j (by omega)
   clear o2 p2 r2;clear HP1;go_wp2_with fail
   refine(Qgc _ _ (by omega) (by omega)).mono ?_;rintro e w2 ⟨rfl,hb⟩
   have HB3:Hid (∃ys,w2.ownsRow B 69 5 (.slice (some ⟨g,0,none⟩) n cap) n ys∧(∀j,j<t*5+3→ys[j]? =(QC srC LL)[j]?)∧w.grownBy w2 (some g)):=by
    obtain⟨z,o1,p1,g1⟩:=HP2.out;exact⟨z,Qi o1 hb,p1,BH g1 (Yr _ hb)⟩
   clear hb HP2 d0 f0 d1 f1 d2 f2;obtain⟨ys3,o3,p3,r3⟩:=HB3.out;obtain⟨A',cap',e,_,hc⟩:=Qu o3;cases e
   obtain⟨gg,e3,_,hg3,d3,f3⟩:=hc (t*5+3) (by omega);cases e3
   clear hc;have hl:=o3.1;obtain⟨x3,y3⟩: ∃x,ys3[t*5+3]? =some x:=⟨_,List.getElem?_eq_getElem (by omega)⟩;rw [y3]at d3;clear y3 hl
   have HP3:Hid (∃ys,((w2.setCell ⟨g,t*5+3,none⟩ (.string (mtx (k+1+1+1))))).ownsRow B 69 5 (.slice (some ⟨g,0,none⟩) n cap) n ys∧(∀j,j<t*5+4→ys[j]? =(QC srC LL)[j]?)∧w.grownBy ((w2.setCell ⟨g,t*5+3,none⟩ (.string (mtx (k+1+1+1))))) (some g)):=by
    obtain⟨oq,gq⟩:=o3.stored (t*5+3) (.string (mtx (k+1+1+1)));refine⟨_,oq,fun j hj=> ?_,BH r3 gq⟩;by_cases e:t*5+3=j
    ·subst e;rw [List.getElem?_set_self (by have:=o3.1;omega)];exact(HX.out 3 (by omega)).symm
    ·rw [List.getElem?_set_ne e];exact p3 j (by omega)
   clear o3 p3 r3;clear HB3;obtain⟨ys4,o4,p4,r4⟩:=HP3.out;obtain⟨A',cap',e,_,hc⟩:=Qu o4;cases e
   obtain⟨gg,e4,_,hg4,d4,f4⟩:=hc (t*5+4) (by omega);cases e4
   clear hc;have hl:=o4.1;obtain⟨x4,y4⟩: ∃x,ys4[t*5+4]? =some x:=⟨_,List.getElem?_eq_getElem (by omega)⟩;rw [y4]at d4;clear y4 hl
   have HP4:Hid (∃ys,(((w2.setCell ⟨g,t*5+3,none⟩ (.string (mtx (k+1+1+1)))).setCell ⟨g,t*5+4,none⟩ (.int .i64 (k+1+1+1+1)))).ownsRow B 69 5 (.slice (some ⟨g,0,none⟩) n cap) n ys∧(∀j,j<t*5+5→ys[j]? =(QC srC LL)[j]?)∧w.grownBy (((w2.setCell ⟨g,t*5+3,none⟩ (.string (mtx (k+1+1+1)))).setCell ⟨g,t*5+4,none⟩ (.int .i64 (k+1+1+1+1)))) (some g)):=by
    obtain⟨oq,gq⟩:=o4.stored (t*5+4) (.int .i64 (k+1+1+1+1));refine⟨_,oq,fun j hj=> ?_,BH r4 gq⟩;by_cases e:t*5+4=j
    ·subst e;rw [List.getElem?_set_self (by have:=o4.1;omega)];exact(HX.out 4 (by omega)).symm
    ·rw [List.getElem?_set_ne e];exact p4 j (by omega)
   clear o4 p4 r4;clear HP3;go_wp2_with fail
   all_goals
    go_roundw
    case rel=>
     obtain⟨z,o1,p1,g1⟩:=HP4.out;exact⟨t+1,by omega,by simp,by have:=HK.out;congr 1;omega,⟨z,o1,fun j hj=>p1 j (by omega)⟩,g1⟩
    case measure=>simp [intOf];omega
  ·have h1: ¬(t:Int)<(n:Int):=by omega
   obtain rfl:t=n:=by omega
   go_wp2_with fail
   go_ret;exact⟨rfl,by rw [Qsu smL_len hown.1 (by rw [←HLL.out];exact Qsq _ _ _ _) hys]at hown;exact hown,hgr⟩
theorem laws_heldStmtS {A:Option Addr} {n cap:Nat} (k0:Int) (w:World) (h:SmRow w A (mkL smMk 5 k0 n)) (hn:n≤1048576) (hk0:0<k0) (hk1:k0≤70368744177664):
  Calls Tryz.prog 26 #[.slice A n cap,.int .i64 k0] w fun e w'=>e= .returned (.int .i64 (k0+(n:Int)*5))∧Below w.heap.size w w':=by
 have HR:Hid (SmRow w A (mkL smMk 5 k0 n)):=h;clear h;go_enter Tryz.func26,Tryz.ntmps26;go_wp2_with fail
 go_loopw [1,5] (fun q i wr=> ∃t:Nat,t≤n∧i= .int .i64 t∧q= .int .i64 (k0+(t:Int)*5)∧Below w.heap.size w wr) (fun _ i _=>n-(intOf i).toNat)
 case atStart=>exact⟨0,Nat.zero_le _,rfl,by simp,Below.refl _ _⟩
 case round=>
  obtain⟨t,ht,rfl,rfl,hbel⟩:=hrel;by_cases hlt:t<n
  ·obtain⟨k,HK⟩: ∃k:Int,Hid (k0+(t:Int)*5=k):=⟨_,rfl⟩;have hp0:0<k:=by have:=HK.out;omega
   have hp1:k≤70378744177664:=by have:=HK.out;omega
   have hx:=mkL_at smMk 5 k0 n t hlt;have hkk:k0+(t:Int)*((5:Nat):Int)=k:=HK.out;rw [hkk]at hx;rw [HK.out];obtain⟨b,o,rfl,hl,hc⟩:=HR.out.2 t _ hx;have HC0:Hid (w.cell? ⟨b,o+t*5,none⟩=some (.int .i64 (k))):=hc 0 _ rfl;have HC1:Hid (w.cell? ⟨b,o+t*5+1,none⟩=some (.int .i64 (k+1))):=hc 1 _ rfl
   have HC2:Hid (w.cell? ⟨b,o+t*5+2,none⟩=some (.int .i64 (k+1+1))):=hc 2 _ rfl;have HC3:Hid (w.cell? ⟨b,o+t*5+3,none⟩=some (.string (mtx (k+1+1+1)))):=hc 3 _ rfl;have HC4:Hid (w.cell? ⟨b,o+t*5+4,none⟩=some (.int .i64 (k+1+1+1+1))):=hc 4 _ rfl;clear hc hx hkk;have hlw:=hbel.size;have hl2:b<wr.heap.size:=Nat.lt_of_lt_of_le hl hlw;have c0:=HC0.out
   rw [←hbel.cell (p:=⟨_,_,none⟩) hl]at c0;have c1:=HC1.out;rw [←hbel.cell (p:=⟨_,_,none⟩) hl]at c1;have c2:=HC2.out;rw [←hbel.cell (p:=⟨_,_,none⟩) hl]at c2;have c3:=HC3.out;rw [←hbel.cell (p:=⟨_,_,none⟩) hl]at c3
   have c4:=HC4.out;rw [←hbel.cell (p:=⟨_,_,none⟩) hl]at c4;have q0:(0:Int)≤(t:Int):=by omega
   have q1:(t:Int)<(n:Int):=by omega
   have HB:Hid (Below w.heap.size w wr):=hbel;clear hbel;go_wp2_with fail
   go_region_held3 (fun w'=>(∀bq oq,bq<wr.heap.size→w'.cell? ⟨bq,oq,none⟩=wr.cell? ⟨bq,oq,none⟩)∧wr.heap.size≤w'.heap.size∧Below wr.heap.size wr w')
    (exact Qq (Nat.le_refl _) (by go_grown))
    (first
    | (go_at_call 62;refine(Qgc _ _ (by omega) (by omega)).mono ?_;rintro e v0 ⟨rfl,hb⟩;obtain⟨hk0,hz0⟩:=Qh (B:=wr.heap.size) (X:=wr) (by go_grown) (by go_size) hb;have hW0: ∀b o,b<wr.heap.size→v0.cell? ⟨b,o,none⟩=wr.cell? ⟨b,o,none⟩:=(fun b o h=>hk0.cell (p:=⟨b,o,none⟩) h);clear hb))
   all_goals go_wp2_with fail
   all_goals
    go_roundw
    case rel=>exact⟨t+1,by omega,by simp,by have:=HK.out;congr 1;omega,Qc HB.out (by go_grown)⟩
    case measure=>simp [intOf];omega
  ·have h1: ¬(t:Int)<(n:Int):=by omega
   obtain rfl:t=n:=by omega
   go_wp2_with fail
   go_ret;exact⟨rfl,hbel⟩
def rmF (s:ByteArray):List SR:=if rmB s then rmI s else []
theorem rmF_len (s:ByteArray):(rmF s).length≤31:=by
 unfold rmF;split
 ·rename_i h
  unfold rmB at h;simp only [Bool.and_eq_true,decide_eq_true_eq]at h;have h1:=h.1;unfold rmI lnI;rw [List.length_map,List.length_append,EJ];split
  ·rw [List.length_nil];omega
  ·rw [List.length_singleton];omega
 ·exact Nat.zero_le _
theorem PostRM.out {s:ByteArray} {B:Nat} {w':World} {e:Ending} (h:PostRM s B w' e): ∃A cap,e= .returned (.tuple #[.slice A (rmF s).length cap,.bool (rmB s)])∧w'.ownsRow B 69 5 (.slice A (rmF s).length cap) (rmF s).length (QC srC (rmF s)):=by
 rcases h with⟨hb,v,he,ho⟩ | ⟨hb,he⟩
 ·have hF:rmF s=rmI s:=by unfold rmF;rw [if_pos hb]
  rw [hF,hb];obtain⟨A,cap,rfl,_,_⟩:=Qu ho;exact⟨A,cap,he,ho⟩
 ·have hF:rmF s= []:=by unfold rmF;rw [if_neg (by rw [hb];simp)]
  rw [hF,hb];exact⟨none,0,he,World.ownsRow_nil _ _ _ _⟩
theorem ms_of_sr {W:World} {B n:Nat} {A:Option Addr} {cap:Nat} {L:List SR} (h:W.ownsRow B 69 5 (.slice A n cap) n (QC srC L)) (hn:L.length=n) (hs: ∀i,i<L.length→(sT L i).size≤maxLen):MsRow W A n (sK L) (sC L) (sR L) (sT L) (sM L):=by
 subst hn;exact ms_of_own (by rw [flat_ms]at h;exact h) hs
end Go.Proofs.YtejbnnacghbhoaaGreatDoor
