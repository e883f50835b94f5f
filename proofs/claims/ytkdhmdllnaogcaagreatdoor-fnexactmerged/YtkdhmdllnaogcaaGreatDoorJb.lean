import Derived.Test.YtkdhmdllnaogcaaGreatDoorMn
import Derived.Test.YtkdhmdllnaogcaaGreatDoorJa
import Derived.Test.YtkdhmdllnaogcaaGreatDoorGze
import Derived.Test.YtkdhmdllnaogcaaGreatDoorGbf
import Derived.Test.YtkdhmdllnaogcaaGreatDoorGbg
import Derived.Test.YtkdhmdllnaogcaaGreatDoorGzj
import Derived.Test.YtkdhmdllnaogcaaGreatDoorGaa
import Derived.Laws.AppendOwnNone
import Derived.WideShapes
import Derived.Deep.QuietTactic
import Derived.BigQuiet
set_option linter.unusedSimpArgs false
set_option linter.unusedVariables false
set_option maxHeartbeats 4000000
set_option maxRecDepth 100000
namespace Go.Proofs.YtkdhmdllnaogcaaGreatDoor
open Go.RowKit Go.Maps
theorem key_refok {p q:Int} (h:Qj p q=true): ∃l,keyOf Tryz.prog 45 (.agg #[.int .i64 p,.int .i64 q])=some l:=by
 simp only [Qj,decide_eq_true_eq]at h;exact Qfc p q (MO (by omega) (by omega)) (MO (by omega) (by omega))
theorem clE_apart {C R:Nat→Int} {S:Nat→ByteArray} {n:Nat} (h:(clE C R S n).Pairwise (fun a b=>ltC a b=true)): ∀i j,i<j→j<n→ ¬(C i=C j∧R i=R j):=fun i j hij hj e=>by
 have h9:=List.pairwise_iff_getElem.1 h i j (by rw [clE_len];omega) (by rw [clE_len];exact hj) hij;simp only [clE,List.getElem_map,List.getElem_range]at h9;have h8:=of_decide_eq_true h9;simp only at h8;omega
end Go.Proofs.YtkdhmdllnaogcaaGreatDoor
namespace Go.Proofs.YtkdhmdllnaogcaaGreatDoor
open Go.RowKit
structure CE where
 c:Int
 r:Int
 s:ByteArray
def ceL (x:CE):List Value:= [.int .i64 x.c,.int .i64 x.r,.string x.s]
theorem ceL_len (x:CE):(ceL x).length=3:=rfl
abbrev CeRow (W:World) (A:Option Addr) (L:List CE):Prop:=RowAt 3 ceL W A L
def ceMk (k:Int):CE:=⟨k,(k+1),mtx (k+1+1)⟩
theorem laws_markCellS {B n:Nat} {v:Value} {xs:List Value} (k0:Int) (w:World) (h:w.ownsRow B 50 3 v n xs) (hn:n≤1048576) (hk0:0<k0) (hk1:k0≤70368744177664):
  Calls Tryz.prog 11 #[v,.int .i64 k0] w fun e w'=>e= .returned (.int .i64 (k0+(n:Int)*3))∧w'.ownsRow B 50 3 v n (Kc ceL (mkL ceMk 3 k0 n))∧w.grownBy w' v.ownBlock:=by
 have HO:Hid (w.ownsRow B 50 3 v n xs):=h;obtain⟨A,cap,rfl,_,_⟩:=QP h;clear h;obtain⟨LL,HLL⟩: ∃LL,Hid (mkL ceMk 3 k0 n=LL):=⟨_,rfl⟩;rw [HLL.out];go_enter Tryz.func11,Tryz.ntmps11;go_wp2_with fail
 go_loopw [1,5] (fun q i wr=> ∃t:Nat,t≤n∧i= .int .i64 t∧q= .int .i64 (k0+(t:Int)*3)∧(∃ys,wr.ownsRow B 50 3 (.slice A n cap) n ys∧ ∀j,j<t*3→ys[j]? =(Kc ceL LL)[j]?)∧w.grownBy wr (Value.slice A n cap).ownBlock) (fun _ i _=>n-(intOf i).toNat)
 case atStart=>exact⟨0,Nat.zero_le _,rfl,by simp,⟨xs,HO.out,fun j hj=>by omega⟩,World.grownBy.refl _ _⟩
 case round=>
  clear HO;obtain⟨t,ht,rfl,rfl,⟨ys,hown,hys⟩,hgr⟩:=hrel;by_cases hlt:t<n
  ·obtain⟨k,HK⟩: ∃k:Int,Hid (k0+(t:Int)*3=k):=⟨_,rfl⟩;have hp0:0<k:=by have:=HK.out;omega
   have hp1:k≤70378744177664:=by have:=HK.out;omega
   have HX:Hid (∀j,j<3→(Kc ceL LL)[t*3+j]? =(ceL (ceMk k))[j]?):=fun j hj=>by
    rw [←HLL.out,UV ceL_len j hj,mkL_at _ _ _ _ _ hlt,←HK.out];rfl
   rw [HK.out]
   obtain⟨g,rfl⟩: ∃g,A=some ⟨g,0,none⟩:=by
    obtain⟨A',cap',e,_,hc⟩:=QP hown;cases e
    obtain⟨g,e,_⟩:=hc (t*3) (by omega);exact⟨g,e⟩
   have HA0:Hid (∃ys,wr.ownsRow B 50 3 (.slice (some ⟨g,0,none⟩) n cap) n ys∧(∀j,j<t*3→ys[j]? =(Kc ceL LL)[j]?)∧w.grownBy wr (some g)):=⟨ys,hown,hys,hgr⟩;clear hown hys hgr;have q0:(0:Int)≤(t:Int):=by omega
   have q1:(t:Int)<(n:Int):=by omega
   obtain⟨ys0,o0,p0,r0⟩:=HA0.out;obtain⟨A',cap',e,_,hc⟩:=QP o0;cases e
   obtain⟨gg,e0,_,hg0,d0,f0⟩:=hc (t*3) (by omega);cases e0
   clear hc;have hl:=o0.1;obtain⟨x0,y0⟩: ∃x,ys0[t*3]? =some x:=⟨_,List.getElem?_eq_getElem (by omega)⟩;rw [y0]at d0;clear y0 hl
   have HP0:Hid (∃ys,((wr.setCell ⟨g,t*3,none⟩ (.int .i64 (k)))).ownsRow B 50 3 (.slice (some ⟨g,0,none⟩) n cap) n ys∧(∀j,j<t*3+1→ys[j]? =(Kc ceL LL)[j]?)∧w.grownBy ((wr.setCell ⟨g,t*3,none⟩ (.int .i64 (k)))) (some g)):=by
    obtain⟨oq,gq⟩:=o0.stored (t*3) (.int .i64 (k));refine⟨_,oq,fun j hj=> ?_,XI r0 gq⟩;by_cases e:t*3=j
    ·subst e;rw [List.getElem?_set_self (by have:=o0.1;omega)];exact(HX.out 0 (by omega)).symm
    ·rw [List.getElem?_set_ne e];exact p0 j (by omega)
   clear o0 p0 r0;clear HA0;obtain⟨ys1,o1,p1,r1⟩:=HP0.out;obtain⟨A',cap',e,_,hc⟩:=QP o1;cases e
   obtain⟨gg,e1,_,hg1,d1,f1⟩:=hc (t*3+1) (by omega);cases e1
   clear hc;have hl:=o1.1;obtain⟨x1,y1⟩: ∃x,ys1[t*3+1]? =some x:=⟨_,List.getElem?_eq_getElem (by omega)⟩;rw [y1]at d1;clear y1 hl
   have HP1:Hid (∃ys,(((wr.setCell ⟨g,t*3,none⟩ (.int .i64 (k))).setCell ⟨g,t*3+1,none⟩ (.int .i64 (k+1)))).ownsRow B 50 3 (.slice (some ⟨g,0,none⟩) n cap) n ys∧(∀j,j<t*3+2→ys[j]? =(Kc ceL LL)[j]?)∧w.grownBy (((wr.setCell ⟨g,t*3,none⟩ (.int .i64 (k))).setCell ⟨g,t*3+1,none⟩ (.int .i64 (k+1)))) (some g)):=by
    obtain⟨oq,gq⟩:=o1.stored (t*3+1) (.int .i64 (k+1));refine⟨_,oq,fun j hj=> ?_,XI r1 gq⟩;by_cases e:t*3+1=j
    ·subst e;rw [List.getElem?_set_self (by have:=o1.1;omega)];exact(HX.out 1 (by omega)).symm
    ·rw [List.getElem?_set_ne e];exact p1 j (by omega)
   clear o1 p1 r1;clear HP0;go_wp2_with fail
   refine(EI _ _ (by omega) (by omega)).mono ?_;rintro e w2 ⟨rfl,hb⟩
   have HB2:Hid (∃ys,w2.ownsRow B 50 3 (.slice (some ⟨g,0,none⟩) n cap) n ys∧(∀j,j<t*3+2→ys[j]? =(Kc ceL LL)[j]?)∧w.grownBy w2 (some g)):=by
    obtain⟨z,o1,p1,g1⟩:=HP1.out;exact⟨z,Qp o1 hb,p1,XI g1 (Qf5 _ hb)⟩
   clear hb HP1 d0 f0 d1 f1;obtain⟨ys2,o2,p2,r2⟩:=HB2.out;obtain⟨A',cap',e,_,hc⟩:=QP o2;cases e
   obtain⟨gg,e2,_,hg2,d2,f2⟩:=hc (t*3+2) (by omega);cases e2
   clear hc;have hl:=o2.1;obtain⟨x2,y2⟩: ∃x,ys2[t*3+2]? =some x:=⟨_,List.getElem?_eq_getElem (by omega)⟩;rw [y2]at d2;clear y2 hl
   have HP2:Hid (∃ys,((w2.setCell ⟨g,t*3+2,none⟩ (.string (mtx (k+1+1))))).ownsRow B 50 3 (.slice (some ⟨g,0,none⟩) n cap) n ys∧(∀j,j<t*3+3→ys[j]? =(Kc ceL LL)[j]?)∧w.grownBy ((w2.setCell ⟨g,t*3+2,none⟩ (.string (mtx (k+1+1))))) (some g)):=by
    obtain⟨oq,gq⟩:=o2.stored (t*3+2) (.string (mtx (k+1+1)));refine⟨_,oq,fun j hj=> ?_,XI r2 gq⟩;by_cases e:t*3+2=j
    ·subst e;rw [List.getElem?_set_self (by have:=o2.1;omega)];exact(HX.out 2 (by omega)).symm
    ·rw [List.getElem?_set_ne e];exact p2 j (by omega)
   clear o2 p2 r2;clear HB2;go_wp2_with fail
   all_goals
    go_roundw
    case rel=>
     obtain⟨z,o1,p1,g1⟩:=HP2.out;exact⟨t+1,by omega,by simp,by have:=HK.out;congr 1;omega,⟨z,o1,fun j hj=>p1 j (by omega)⟩,g1⟩
    case measure=>simp [intOf];omega
  ·have h1: ¬(t:Int)<(n:Int):=by omega
   obtain rfl:t=n:=by omega
   go_wp2_with fail
   go_ret;exact⟨rfl,by rw [Qj2 ceL_len hown.1 (by rw [←HLL.out];exact Qj1 _ _ _ _) hys]at hown;exact hown,hgr⟩
theorem laws_heldCellS {A:Option Addr} {n cap:Nat} (k0:Int) (w:World) (h:CeRow w A (mkL ceMk 3 k0 n)) (hn:n≤1048576) (hk0:0<k0) (hk1:k0≤70368744177664):
  Calls Tryz.prog 18 #[.slice A n cap,.int .i64 k0] w fun e w'=>e= .returned (.int .i64 (k0+(n:Int)*3))∧Below w.heap.size w w':=by
 have HR:Hid (CeRow w A (mkL ceMk 3 k0 n)):=h;clear h;go_enter Tryz.func18,Tryz.ntmps18;go_wp2_with fail
 go_loopw [1,5] (fun q i wr=> ∃t:Nat,t≤n∧i= .int .i64 t∧q= .int .i64 (k0+(t:Int)*3)∧Below w.heap.size w wr) (fun _ i _=>n-(intOf i).toNat)
 case atStart=>exact⟨0,Nat.zero_le _,rfl,by simp,Below.refl _ _⟩
 case round=>
  obtain⟨t,ht,rfl,rfl,hbel⟩:=hrel;by_cases hlt:t<n
  ·obtain⟨k,HK⟩: ∃k:Int,Hid (k0+(t:Int)*3=k):=⟨_,rfl⟩;have hp0:0<k:=by have:=HK.out;omega
   have hp1:k≤70378744177664:=by have:=HK.out;omega
   have hx:=mkL_at ceMk 3 k0 n t hlt;have hkk:k0+(t:Int)*((3:Nat):Int)=k:=HK.out;rw [hkk]at hx;rw [HK.out];obtain⟨b,o,rfl,hl,hc⟩:=HR.out.2 t _ hx;have HC0:Hid (w.cell? ⟨b,o+t*3,none⟩=some (.int .i64 (k))):=hc 0 _ rfl;have HC1:Hid (w.cell? ⟨b,o+t*3+1,none⟩=some (.int .i64 (k+1))):=hc 1 _ rfl
   have HC2:Hid (w.cell? ⟨b,o+t*3+2,none⟩=some (.string (mtx (k+1+1)))):=hc 2 _ rfl;clear hc hx hkk;have hlw:=hbel.size;have hl2:b<wr.heap.size:=Nat.lt_of_lt_of_le hl hlw;have c0:=HC0.out;rw [←hbel.cell (p:=⟨_,_,none⟩) hl]at c0;have c1:=HC1.out
   rw [←hbel.cell (p:=⟨_,_,none⟩) hl]at c1;have c2:=HC2.out;rw [←hbel.cell (p:=⟨_,_,none⟩) hl]at c2;have q0:(0:Int)≤(t:Int):=by omega
   have q1:(t:Int)<(n:Int):=by omega
   have HB:Hid (Below w.heap.size w wr):=hbel;clear hbel;go_wp2_with fail
   go_region_held3 (fun w'=>(∀bq oq,bq<wr.heap.size→w'.cell? ⟨bq,oq,none⟩=wr.cell? ⟨bq,oq,none⟩)∧wr.heap.size≤w'.heap.size∧Below wr.heap.size wr w')
    (exact Qo (Nat.le_refl _) (by go_grown))
    (first
    | (go_at_call 28;refine(EI _ _ (by omega) (by omega)).mono ?_;rintro e v0 ⟨rfl,hb⟩;obtain⟨hk0,hz0⟩:=Qf (B:=wr.heap.size) (X:=wr) (by go_grown) (by go_size) hb;have hW0: ∀b o,b<wr.heap.size→v0.cell? ⟨b,o,none⟩=wr.cell? ⟨b,o,none⟩:=(fun b o h=>hk0.cell (p:=⟨b,o,none⟩) h);clear hb))
   all_goals go_wp2_with fail
   all_goals
    go_roundw
    case rel=>exact⟨t+1,by omega,by simp,by have:=HK.out;congr 1;omega,Qc HB.out (by go_grown)⟩
    case measure=>simp [intOf];omega
  ·have h1: ¬(t:Int)<(n:Int):=by omega
   obtain rfl:t=n:=by omega
   go_wp2_with fail
   go_ret;exact⟨rfl,hbel⟩
end Go.Proofs.YtkdhmdllnaogcaaGreatDoor
namespace Go.Proofs.YtkdhmdllnaogcaaGreatDoor
open Go.RowKit Go.Maps
def cofC (L:List CL) (i:Nat):Int:=((L[i]?).map CL.c).getD 0
def cofR (L:List CL) (i:Nat):Int:=((L[i]?).map CL.r).getD 0
def cofS (L:List CL) (i:Nat):ByteArray:=((L[i]?).map CL.s).getD ⟨#[]⟩
theorem clE_of (L:List CL):clE (cofC L) (cofR L) (cofS L) L.length=L:=by
 apply List.ext_getElem (clE_len _ _ _ _);intro i h1 h2;simp only [clE,List.getElem_map,List.getElem_range,cofC,cofR,cofS,List.getElem?_eq_getElem h2,Option.map_some,Option.getD_some]
theorem clX_flat (C R:Nat→Int) (S:Nat→ByteArray): ∀n,clX C R S n=Kc CL.cs (clE C R S n)
 | 0=>rfl
 | n+1=>by rw [ND,clE_succ,Qio,clX_flat C R S n];rfl
theorem cl_of_list {W:World} {B n cap:Nat} {A:Option Addr} {L:List CL} (h:W.ownsRow B 50 3 (.slice A n cap) n (Kc CL.cs L)) (hL:L.length=n) (hs: ∀x∈L,x.s.size≤maxLen):ClRow W A n (cofC L) (cofR L) (cofS L):=by
 subst hL;refine Qip (B:=B) (cap:=cap) ?_ (fun i hi=> ?_)
 ·rw [clX_flat,clE_of];exact h
 ·simp only [cofS,List.getElem?_eq_getElem hi,Option.map_some,Option.getD_some];exact hs _ (List.getElem_mem hi)
theorem eq_of_lists {W:World} {B B' n cap cap':Nat} {A A':Option Addr} {L:List CL} (hL:L.length=n) (hs: ∀x∈L,x.s.size≤maxLen) (h:W.ownsRow B 50 3 (.slice A n cap) n (Kc CL.cs L)) (h':W.ownsRow B' 50 3 (.slice A' n cap') n (Kc CL.cs L)):
  Calls Tryz.prog 10 #[.slice A n cap,.slice A' n cap'] W fun e w'=>e= .returned (.bool true)∧Below W.heap.size W w':=
 Qdc W (cl_of_list h hL hs) (cl_of_list h' hL hs)
theorem gkeep {W w':World} {B B' n n' s s':Nat} {e e':TypeId} {v v':Value} {xs xs':List Value} (h:W.ownsRow B e s v n xs) (hg:W.grownBy w' v.ownBlock) (h':W.ownsRow B' e' s' v' n' xs') (hb: ∀k,v'.ownBlock=some k→v.ownBlock≠some k):w'.ownsRow B' e' s' v' n' xs':=
 h'.kept hg (by
  cases hv:v'.ownBlock with
  | none=>exact Or.inl rfl
  | some q=>exact Or.inr (fun e=>hb q hv e.symm))
end Go.Proofs.YtkdhmdllnaogcaaGreatDoor
namespace Go.Proofs.YtkdhmdllnaogcaaGreatDoor
open Go.RowKit
structure CH where
 c:Int
 r:Int
 f:ByteArray
 t:ByteArray
def chL (x:CH):List Value:= [.int .i64 x.c,.int .i64 x.r,.string x.f,.string x.t]
def ChRow (W:World) (A:Option Addr) (n:Nat) (D:Nat→CH):Prop:=
 n≤maxLen∧ ∀i,i<n→ ∃b o,A=some ⟨b,o,none⟩∧b<W.heap.size∧W.cell? ⟨b,o+i*4,none⟩=some (.int .i64 (D i).c)∧W.cell? ⟨b,o+i*4+1,none⟩=some (.int .i64 (D i).r)∧
  W.cell? ⟨b,o+i*4+2,none⟩=some (.string (D i).f)∧W.cell? ⟨b,o+i*4+3,none⟩=some (.string (D i).t)∧(D i).f.size≤maxLen∧(D i).t.size≤maxLen
theorem ChRow.below {W W':World} {A:Option Addr} {n:Nat} {D:Nat→CH} (h:ChRow W A n D) (hb:Below W.heap.size W W'):ChRow W' A n D:=
 ⟨h.1,fun i hi=>by
  obtain⟨b,o,e,hl,c0,c1,c2,c3,hs,ht⟩:=h.2 i hi
  exact⟨b,o,e,Nat.lt_of_lt_of_le hl hb.size,(hb.cell (p:=⟨b,_,none⟩) hl).trans c0,(hb.cell (p:=⟨b,_,none⟩) hl).trans c1,(hb.cell (p:=⟨b,_,none⟩) hl).trans c2,(hb.cell (p:=⟨b,_,none⟩) hl).trans c3,hs,ht⟩⟩
theorem infoCh:(Tryz.prog.info? 47).map (fun i=>(i.zero,i.size,i.bytes))=some (some (.agg #[.int .i64 0,.int .i64 0,.string ⟨#[]⟩,.string ⟨#[]⟩]),4,48):=by kernel_rfl
theorem laws_szCellSL {A:Option Addr} {n cap:Nat} {C R:Nat→Int} {S:Nat→ByteArray} (lf:Int) (w:World) (h:ClRow w A n C R S) (hl0:0≤lf) (hl1:lf≤1048576):
  Calls Tryz.prog 5 #[.slice A n cap,.int .i64 lf] w fun e w'=> ∃z:Int,e= .returned (.int .i64 z)∧z≤1048576∧(0≤z→n≤1048576)∧Below w.heap.size w w':=by
 have HR:Hid (ClRow w A n C R S):=h;have hm:=h.1;clear h;unfold maxLen at hm;by_cases hbig:lf-(n:Int)<0
 ·go_enter Tryz.func5,Tryz.ntmps5;go_wp2_with fail
  go_ret;exact⟨-1,rfl,by omega,fun h=>by omega,by go_grown⟩
 ·go_enter Tryz.func5,Tryz.ntmps5;go_wp2_with fail
  go_loopw [1,5] (fun l i wr=> ∃(t:Nat) (z:Int),t≤n∧i= .int .i64 t∧l= .int .i64 z∧0≤z∧z≤1048576∧Below w.heap.size w wr) (fun _ i _=>n-(intOf i).toNat)
  case atStart=>exact⟨0,_,Nat.zero_le _,rfl,rfl,by omega,by omega,Below.refl _ _⟩
  case round=>
   obtain⟨t,z,ht,rfl,rfl,z0,z1,hbel⟩:=hrel;by_cases hlt:t<n
   ·obtain⟨b,o,rfl,hl,c0,c1,c2,hs⟩:=HR.out.2 t hlt;rw [←hbel.cell (p:=⟨_,_,none⟩) hl]at c0 c1 c2;have q0:(0:Int)≤(t:Int):=by omega
    have q1:(t:Int)<(n:Int):=by omega
    have HB:Hid (Below w.heap.size w wr):=hbel;clear hbel;go_wp2_with fail
    refine(MH _ _ _ _ _ hs z0 z1).mono ?_;rintro e w2 ⟨rfl,hb⟩;have HB2:=hd (Qc HB.out hb);clear hb c0 c1 c2;have HZ:Hid (szv z (S t).size≤1048576):=by show _≤_;unfold szv;split<;>omega
    by_cases hz:szv z (S t).size<0
    ·go_wp2_with fail
     go_ret;exact⟨_,rfl,by omega,fun h=>by omega,HB2.out⟩
    ·go_wp2_with fail
     go_roundw
     case rel=>exact⟨t+1,_,by omega,by go_num,rfl,by omega,HZ.out,HB2.out⟩
     case measure=>simp [intOf];omega
   ·have q1: ¬(t:Int)<(n:Int):=by omega
    go_wp2_with fail
    go_ret;exact⟨_,rfl,z1,fun h=>by omega,hbel⟩
end Go.Proofs.YtkdhmdllnaogcaaGreatDoor
namespace Go.Proofs.YtkdhmdllnaogcaaGreatDoor
open Go.RowKit Go.Maps
def atC (p q:Int) (E:List CL):ByteArray:=((E.find? (fun y=>decide (y.c=p∧y.r=q))).map CL.s).getD ⟨#[]⟩
theorem CmD.perm {D:DataW Value} {E L:List CL} (h:CmD D E) (hp:E.Perm L):CmD D L where
 nd:=(hp.pairwise_iff (fun{x y} (h:x.key≠y.key) e=>h e.symm)).1 h.nd
 into x hx:=h.into x (hp.mem_iff.2 hx)
 back kl hk:=by
  obtain⟨x,hx,e⟩:=h.back kl hk;exact⟨x,hp.mem_iff.1 hx,e⟩
theorem CmD.look {D:DataW Value} {E:List CL} (h:CmD D E) {p q:Int} {kl:Lit} (hk:keyOf Tryz.prog 45 (.agg #[.int .i64 p,.int .i64 q])=some kl):
  ∃c r,D.atKey kl (.held (.agg #[.int .i64 0,.int .i64 0,.string ⟨#[]⟩]))= .held (.agg #[.int .i64 c,.int .i64 r,.string (atC p q E)]):=by
 unfold atC;cases hf:E.find? (fun y=>decide (y.c=p∧y.r=q))with
 | none=>
  refine⟨0,0,?_⟩
  have hno:Maps.has D kl=false:=by
   cases hh:Maps.has D kl with
   | false=>rfl
   | true=>
    obtain⟨x,hx,hkx⟩:=h.back kl hh;have e:=keyedRef.inj hkx hk;have h9:=List.find?_eq_none.1 hf x hx;exact absurd (decide_eq_true (by simpa [CL.key]using e)) h9
  rw [atKey_of_not_has hno];rfl
 | some x=>
  have hx:=List.mem_of_find?_eq_some hf;have hm9:=List.find?_some hf;have hm:x.c=p∧x.r=q:=of_decide_eq_true hm9;obtain⟨k2,hk2,hat⟩:=h.into x hx;have h2:x.key= .agg #[.int .i64 p,.int .i64 q]:=by simp [CL.key,hm.1,hm.2]
  rw [h2,hk]at hk2;cases hk2
  exact⟨x.c,x.r,hat _⟩
def paSt (E:List CL) (x:CH):Option (List CL):=if(Qj x.c x.r&&GP x.t&&((atC x.c x.r E).toList==x.f.toList))=true then some (setC ⟨x.c,x.r,x.t⟩ E)else none
def paRun (D:Nat→CH) (E:List CL):Nat→Option (List CL)
 | 0=>some E
 | k+1=>(paRun D E k).bind (fun L=>paSt L (D k))
theorem paRun_yes {D:Nat→CH} {E L:List CL} {t:Nat} (h:paRun D E t=some L):paRun D E (t+1)=paSt L (D t):=by rw [paRun,h];rfl
theorem own_lim {s:ByteArray} (h:GP s=true):inF s=some s∧s.size≤200:=by
 unfold GP at h;cases hi:inF s with
 | none=>rw [hi]at h;cases h
 | some t=>
  rw [hi]at h;obtain rfl:t=s:=Qgu h;exact⟨rfl,in_lim hi⟩
structure PaI (n t:Nat) (L:List CL):Prop where
 rise:L.Pairwise (fun a b=>ltC a b=true)
 len:L.length≤n+t
 sz: ∀x∈L,x.s.size≤maxLen
theorem setC_mem {x:CL} {E:List CL} {y:CL} (h:y∈setC x E):y∈E∨y=x:=by
 have h9:=(setC_perm x E).mem_iff.1 h;split at h9
 ·exact .inl (offP_mem.1 h9).1
 ·rcases List.mem_append.1 h9 with h9 | h9
  ·exact .inl (offP_mem.1 h9).1
  ·exact .inr (List.mem_singleton.1 h9)
theorem setC_len (x:CL) (E:List CL):(setC x E).length≤E.length+1:=by
 rw [(setC_perm x E).length_eq];have h9:(offP x.c x.r E).length≤E.length:=List.length_filter_le _ _;split
 ·omega
 ·simp;omega
theorem PaI.step {n t:Nat} {L L':List CL} {x:CH} (h:PaI n t L) (hs:paSt L x=some L'):PaI n (t+1) L':=by
 unfold paSt at hs;split at hs
 ·rename_i h9
  cases hs
  simp only [Bool.and_eq_true]at h9;refine⟨setC_rise h.rise,?_,fun y hy=> ?_⟩
  ·have:=setC_len ⟨x.c,x.r,x.t⟩ L;have:=h.len;omega
  ·rcases setC_mem hy with hy | rfl
   ·exact h.sz y hy
   ·have:=(own_lim h9.1.2).2;unfold maxLen;show x.t.size≤_;omega
 ·cases hs
theorem PaI.start {C R : Nat → Int} {S : Nat → ByteArray} {n : Nat} (h : Yg C R S n = true) (hs : ∀ i, i < n → (S i).size ≤ maxLen) : PaI n 0 (clE C R S n) :=
  ⟨(cl_rise h).2.2, by rw [clE_len]; omega, fun y hy => by
    obtain ⟨i, hi, rfl⟩ := List.mem_map.1 hy
    exact hs i (List.mem_range.1 hi)⟩
theorem PaI.run {D:Nat→CH} {n:Nat} {E:List CL} (h0:PaI n 0 E): ∀(t:Nat) {L:List CL},paRun D E t=some L→PaI n t L
 | 0,L,h=>by cases h;exact h0
 | t+1,L,h=>by
  cases hp:paRun D E t with
  | none=>rw [paRun,hp]at h;cases h
  | some L0=>
   rw [paRun_yes hp]at h;exact(PaI.run h0 t hp).step h
end Go.Proofs.YtkdhmdllnaogcaaGreatDoor
namespace Go.Proofs.YtkdhmdllnaogcaaGreatDoor
open Go.RowKit
theorem run_append_nilC {P:Program} {w:World} (base:Nat) (t ty e:TypeId) (i:TypeInfo) (size c:Nat) (ht:P.underlying t=some (.slice e)) (hi:P.info? e=some i)
  (v:Value) (n:Nat) (xs:List Value) (hown:w.ownsRow base e size v n xs):(Builtin.append_ #[t,t] ty #[v,.slice none 0 c]).run P w= .ok v w:=by
 rcases hown.2 with⟨rfl,rfl⟩ | ⟨g,cap,cur,rfl,_,_,hnc,_⟩
 ·simp [Builtin.append_,run_underlying ht,sizeOf,typeInfo,hi,Builtin.lenOf,Builtin.firstCells]
 ·simp [Builtin.append_,run_underlying ht,sizeOf,typeInfo,hi,Builtin.lenOf,Builtin.firstCells,hnc,storeCells]
section
variable {P:Program} {ops:Array Oper} {rest:List Oper} {o:Oper} {a:Act} {Q:Exit→Act→World→Prop}
theorem wpList_append_nilC {w:World} (hgd:o.guard=none) (s x:Operand) (t:TypeId)
  (ho:o.op= .call {callee:= .builtin .append,args:= #[s,x],argTypes:= #[t,t]})
  (base:Nat) (e:TypeId) (i:TypeInfo) (size c:Nat) (ht:P.underlying t=some (.slice e)) (hi:P.info? e=some i)
  (v:Value) (n:Nat) (xs:List Value) (hs:a.eval s=v) (hown:w.ownsRow base e size v n xs) (hx:a.eval x= .slice none 0 c)
  (h:wpList P ops Q rest (a.put o.dst v) w):wpList P ops Q (o::rest) a w:=by
 refine wpList_plain hgd fun K hK=> ?_;have hrun:=run_append_nilC (P:=P) (w:=w) base t o.type e i size c ht hi v n xs hown;unfold Oper.wp;simp [execOp,ho,resolve,invoke,builtin,hs,hx,hrun,Result.andThen];exact hK _ _ h
theorem wpList_copyG {W:World} (t e:TypeId) (i:TypeInfo) (z:Value) (size bytes:Nat) (ht:P.underlying t=some (.slice e)) (hi:P.info? e=some i) (hz:i.zero=some z) (hsize:i.size=size) (hby:i.bytes=bytes) (hzs:z.cells.size=size) (hsz:0<size)
  (hgd:o.guard=none) (s x:Operand) (ho:o.op= .call {callee:= .builtin .append,args:= #[s,x],argTypes:= #[t,t]}) (B:Nat) (hB:B≤W.heap.size) (v:Value) (hs:a.eval s=v) (hown:W.ownsRow B e size v 0 [])
  (A:Option Addr) (n c:Nat) (xs:List Value) (hx:a.eval x= .slice A n c) (hl:xs.length=n*size) (hA:A=none→n=0) (hc: ∀ad,A=some ad→ ∀j u,xs[j]? =some u→W.cell? (ad.add j)=some u) (h1: ∀u∈xs,u.oneCell'=true) (hn:n≤maxLen) (hb:n*bytes≤140737488355328)
  (h: ∀A' c' w',w'.ownsRow B e size (.slice A' n c') n xs→W.grownBy w' v.ownBlock→wpList P ops Q rest (a.put o.dst (.slice A' n c')) w'):wpList P ops Q (o::rest) a W:=by
 cases A with
 | none=>
  have hn0:=hA rfl;subst hn0;have hxs:xs= []:=by cases xs with | nil=>rfl | cons y ys=>simp at hl
  subst hxs;obtain⟨A',cap',rfl,_,_⟩:=QP hown;exact wpList_append_nilC hgd s x t ho B e i size c ht hi _ 0 [] hs hown hx (h _ _ W hown (World.grownBy.refl _ _))
 | some ad=>
  refine wpList_append_own W hgd s x t ho B e i z size bytes ht hi hz hsize hby hzs hsz v 0 [] hs hown ad n c xs hx hl (hc ad rfl) h1 (by omega) (by rw [Nat.zero_add];exact hb) hB ?_;intro v' w' ho' hg' _;rw [Nat.zero_add,List.nil_append]at ho';obtain⟨A',cap',rfl,_,_⟩:=QP ho';exact h A' cap' w' ho' hg'
end
theorem cl_cells {W:World} {A:Option Addr} {n:Nat} {C R:Nat→Int} {S:Nat→ByteArray} (h:ClRow W A n C R S): ∀ad,A=some ad→ ∀j u,(clX C R S n)[j]? =some u→W.cell? (ad.add j)=some u:=by
 intro ad hA j u hu;have hj:j<n*3:=by rw [←Bc C R S n];exact(List.getElem?_eq_some_iff.1 hu).1
 obtain⟨b,o,e,_,c0,c1,c2,_⟩:=h.2 (j/3) (by omega);rw [hA]at e;cases e
 have e1:j=(j/3)*3+j%3:=by omega
 have hm:j%3<3:=by omega
 rw [e1,VX C R S n (j/3) (j%3) (by omega) hm]at hu
 have e2:(⟨b,o,none⟩:Addr).add j=⟨b,o+j/3*3+j%3,none⟩:=by
  rw [Go.WideShapes.add_plain];congr 1
  omega
 rw [e2];rcases(show j%3=0∨j%3=1∨j%3=2 by omega)with h9 | h9 | h9
 ·rw [h9]at hu ⊢;cases hu;exact c0
 ·rw [h9]at hu ⊢;cases hu;exact c1
 ·rw [h9]at hu ⊢;cases hu;exact c2
theorem cl_none {W:World} {A:Option Addr} {n:Nat} {C R:Nat→Int} {S:Nat→ByteArray} (h:ClRow W A n C R S) (hA:A=none):n=0:=by
 cases n with
 | zero=>rfl
 | succ m=>obtain⟨b,o,e,_⟩:=h.2 0 (by omega);rw [hA]at e;cases e
theorem clX_one (C R:Nat→Int) (S:Nat→ByteArray) (n:Nat): ∀u∈clX C R S n,u.oneCell'=true:=by
 intro u hu;obtain⟨i,_,hi⟩:=List.mem_flatMap.1 hu;simp only [List.mem_cons,List.not_mem_nil,or_false]at hi;rcases hi with rfl | rfl | rfl<;>rfl
theorem bdrN {n:Nat} {w W:World} (h:Below n w W) (k:Nat):Below n w (W.drewN k):=by
 induction k with
 | zero=>exact h
 | succ k ih=>first | exact ih.drew | (rw [World.drewN_succ];exact ih.drew)
theorem atC_at {C R:Nat→Int} {S:Nat→ByteArray} {n k:Nat} {p q:Int} (hk:k<n) (hn: ∀j,j<k→ ¬(C j=p∧R j=q)) (hy:C k=p∧R k=q):atC p q (clE C R S n)=S k:=by
 have hf:(clE C R S n).find? (fun y=>decide (y.c=p∧y.r=q))=some ⟨C k,R k,S k⟩:=by
  rw [List.find?_eq_some_iff_getElem];refine⟨decide_eq_true hy,k,by rw [clE_len];exact hk,by simp [clE],fun j hj=> ?_⟩;simp only [clE,List.getElem_map,List.getElem_range,Bool.not_eq_true',decide_eq_false_iff_not];exact hn j hj
 rw [atC,hf];rfl
theorem atC_no {C R:Nat→Int} {S:Nat→ByteArray} {n:Nat} {p q:Int} (hn: ∀j,j<n→ ¬(C j=p∧R j=q)):atC p q (clE C R S n)=⟨#[]⟩:=by
 have hf:(clE C R S n).find? (fun y=>decide (y.c=p∧y.r=q))=none:=by
  rw [List.find?_eq_none];intro y hy;obtain⟨i,hi,rfl⟩:=List.mem_map.1 hy;simp only [decide_eq_true_eq];exact hn i (List.mem_range.1 hi)
 rw [atC,hf];rfl
theorem spec_l5At {A:Option Addr} {n cap:Nat} {C R:Nat→Int} {S:Nat→ByteArray} (p q:Int) (w:World) (h:ClRow w A n C R S):
  Calls Tryz.prog 29 #[.slice A n cap,.agg #[.int .i64 p,.int .i64 q]] w fun e w'=>e= .returned (.string (atC p q (clE C R S n)))∧Below w.heap.size w w':=by
 have HR:Hid (ClRow w A n C R S):=h;have hn:=h.1;unfold maxLen at hn;clear h;go_enter Tryz.func29,Tryz.ntmps29;go_wp2_with fail
 go_loopw [5] (fun i wr=> ∃k:Nat,k≤n∧i= .int .i64 k∧(∀j,j<k→ ¬(C j=p∧R j=q))∧Below w.heap.size w wr∧Below (w.heap.size+1) (w.alloc (.cells #[.int .i64 p,.int .i64 q] 45)) wr) (fun i _=>n-(intOf i).toNat)
 case atStart=>exact⟨0,Nat.zero_le _,rfl,fun i hi=>by omega,by go_grown,Below.refl _ _⟩
 case round=>
  obtain⟨k,hk,rfl,hr,hbel,hbx⟩:=hrel;have HI:Hid (∀j,j<k→ ¬(C j=p∧R j=q)):=hr;clear hr;have hs:=hbel.size;have hsx:w.heap.size+1≤wr.heap.size:=Nat.le_trans (by go_size) hbx.size;have e0:wr.cell? ⟨w.heap.size,0,none⟩=some (.int .i64 p):=(hbx.cell (p:=⟨_,_,none⟩) (by simp)).trans (by simp);have e1:wr.cell? ⟨w.heap.size,1,none⟩=some (.int .i64 q):=(hbx.cell (p:=⟨_,_,none⟩) (by simp)).trans (by simp)
  have l0:w.heap.size<wr.heap.size:=by omega
  have HB:Hid (Below w.heap.size w wr):=hbel;have HX:Hid (Below (w.heap.size+1) (w.alloc (.cells #[.int .i64 p,.int .i64 q] 45)) wr):=hbx;by_cases hlt:k<n
  ·obtain⟨b,o,rfl,hl,c0,c1,c2,_⟩:=HR.out.2 k hlt;rw [←hbel.cell (p:=⟨_,_,none⟩) hl]at c0 c1 c2;clear hbel hbx;have hl2:b<wr.heap.size:=Nat.lt_of_lt_of_le hl hs;have h0:(0:Int)≤(k:Int):=by omega
   have h1:(k:Int)<(n:Int):=by omega
   by_cases hc:C k=p
   ·by_cases hd:R k=q
    ·have HF:Hid (atC p q (clE C R S n)=S k):=atC_at hlt HI.out ⟨hc,hd⟩;have t1:(C k==p)=true:=by simpa using hc
     have t2:(R k==q)=true:=by simpa using hd
     clear hc hd;go_wp2_with fail
     go_quiet (fail)
     all_goals go_wp2_with fail
     all_goals go_ret
     all_goals exact⟨Qk HF.out.symm,bdrN HB.out _⟩
    ·have HI':Hid (∀j,j<k+1→ ¬(C j=p∧R j=q)):=fun j hj=>by
      by_cases e:j=k
      ·subst e;exact fun h=>hd h.2
      ·exact HI.out j (by omega)
     have t1:(C k==p)=true:=by simpa using hc
     have t2:(R k==q)=false:=by simpa using hd
     clear hc hd;go_wp2_with fail
     go_quiet (fail)
     all_goals go_wp2_with fail
     all_goals
      go_roundw
      case rel=>exact⟨k+1,by omega,by go_num,HI'.out,bdrN HB.out _,bdrN HX.out _⟩
      case measure=>simp [intOf];omega
   ·have HI':Hid (∀j,j<k+1→ ¬(C j=p∧R j=q)):=fun j hj=>by
     by_cases e:j=k
     ·subst e;exact fun h=>hc h.1
     ·exact HI.out j (by omega)
    have t1:(C k==p)=false:=by simpa using hc
    go_wp2_with fail
    go_quiet (fail)
    all_goals go_wp2_with fail
    all_goals
     go_roundw
     case rel=>exact⟨k+1,by omega,by go_num,HI'.out,bdrN HB.out _,bdrN HX.out _⟩
     case measure=>simp [intOf];omega
  ·have h1: ¬(k:Int)<(n:Int):=by omega
   obtain rfl:k=n:=by omega
   go_wp2_with fail
   go_ret;exact⟨Qk (atC_no HI.out).symm,HB.out⟩
theorem cl_src {C R:Nat→Int} {S:Nat→ByteArray} {n:Nat} (h:Yg C R S n=true): ∀i,i<n→(S i).toList.isEmpty=false:=fun i hi=>by
 unfold Yg at h;simp only [Bool.and_eq_true,List.all_eq_true]at h;have h9:=h.2 i (List.mem_range.2 hi);unfold Yk at h9;simp only [Bool.and_eq_true,Bool.not_eq_true']at h9;exact h9.1
end Go.Proofs.YtkdhmdllnaogcaaGreatDoor
namespace Go.Proofs.YtkdhmdllnaogcaaGreatDoor
open Go.RowKit Go.Maps
theorem sorted_ext {α:Type} {r:α→α→Prop} (irr: ∀x y,r x y→r y x→False): ∀{l1 l2:List α},l1.Pairwise r→l2.Pairwise r→(∀x,x∈l1↔x∈l2)→l1=l2
 | [],[],_,_,_=>rfl
 | [],y::l2,_,_,h=>absurd ((h y).2 (by simp)) (by simp)
 | x::l1,[],_,_,h=>absurd ((h x).1 (by simp)) (by simp)
 | x::l1,y::l2,h1,h2,h=>by
  obtain⟨a1,b1⟩:=List.pairwise_cons.1 h1;obtain⟨a2,b2⟩:=List.pairwise_cons.1 h2
  have e:x=y:=by
   rcases List.mem_cons.1 ((h x).1 (by simp))with e | e
   ·exact e
   ·rcases List.mem_cons.1 ((h y).2 (by simp))with e2 | e2
    ·exact e2.symm
    ·exact(irr _ _ (a2 x e) (a1 y e2)).elim
  subst e;congr 1
  refine sorted_ext irr b1 b2 (fun z=>⟨fun hz=> ?_,fun hz=> ?_⟩)
  ·rcases List.mem_cons.1 ((h z).1 (by simp [hz]))with e | e
   ·subst e;exact(irr _ _ (a1 z hz) (a1 z hz)).elim
   ·exact e
  ·rcases List.mem_cons.1 ((h z).2 (by simp [hz]))with e | e
   ·subst e;exact(irr _ _ (a2 z hz) (a2 z hz)).elim
   ·exact e
theorem atC_cons (p q:Int) (x:CL) (a:List CL):atC p q (x::a)=if x.c=p∧x.r=q then x.s else atC p q a:=by
 unfold atC;rw [List.find?_cons];by_cases h:x.c=p∧x.r=q<;>simp [h]
theorem atC_none {p q:Int} {a:List CL} (h: ∀x∈a,¬(x.c=p∧x.r=q)):atC p q a=⟨#[]⟩:=by
 unfold atC;rw [List.find?_eq_none.2 (fun x hx=>by simpa using h x hx)];rfl
def hasP (p q:Int) (a:List CL):Prop:= ∃x∈a,x.c=p∧x.r=q
theorem hasP_cons {p q:Int} {x:CL} {a:List CL}:hasP p q (x::a)↔(x.c=p∧x.r=q)∨hasP p q a:=by
 unfold hasP;constructor
 ·rintro⟨y,hy,h⟩;rcases List.mem_cons.1 hy with rfl | hy
  ·exact .inl h
  ·exact .inr ⟨y,hy,h⟩
 ·rintro(h | ⟨y,hy,h⟩)
  ·exact⟨x,by simp,h⟩
  ·exact⟨y,by simp [hy],h⟩
theorem atC_no' {p q:Int} {a:List CL} (h: ¬hasP p q a):atC p q a=⟨#[]⟩:=atC_none (fun x hx e=>h ⟨x,hx,e⟩)
theorem hasP_gt {p q:Int} {x:CL} {a:List CL} (h: ∀y∈a,ltC x y=true) (hp:hasP p q a):XA x.c x.r p q=true:=by
 obtain⟨y,hy,e1,e2⟩:=hp;have:=h y hy;rw [ltC,e1,e2]at this;exact this
def dfM:List CL→List CL→List CH
 | [],[]=> []
 | x::a,[]=>⟨x.c,x.r,x.s,⟨#[]⟩⟩::dfM a []
 | [],y::b=>⟨y.c,y.r,⟨#[]⟩,y.s⟩::dfM [] b
 | x::a,y::b=>if ltC x y=true then⟨x.c,x.r,x.s,⟨#[]⟩⟩::dfM a (y::b)else if ltC y x=true then⟨y.c,y.r,⟨#[]⟩,y.s⟩::dfM (x::a) b else⟨x.c,x.r,x.s,y.s⟩::dfM a b
 termination_by a b=>a.length+b.length
def inM (a b:List CL) (z:CH):Prop:=(hasP z.c z.r a∨hasP z.c z.r b)∧z.f=atC z.c z.r a∧z.t=atC z.c z.r b
theorem ahead_irr {p q p' q':Int} (h:XA p q p' q'=true): ¬(p=p'∧q=q'):=fun e=>by
 have:=of_decide_eq_true h;omega
theorem ahead_asy {p q p' q':Int} (h:XA p q p' q'=true) (h':XA p' q' p q=true):False:=by
 have:=of_decide_eq_true h;have:=of_decide_eq_true h';omega
theorem ahead_tr {p q p' q' p2 q2:Int} (h:XA p q p' q'=true) (h':XA p' q' p2 q2=true):XA p q p2 q2=true:=by
 have:=of_decide_eq_true h;have:=of_decide_eq_true h';exact decide_eq_true (by omega)
theorem ahead_tri {p q p' q':Int} (h:XA p q p' q'=false) (h':XA p' q' p q=false):p=p'∧q=q':=by
 have:=of_decide_eq_false h;have:=of_decide_eq_false h';omega
theorem inM_left {x:CL} {a b:List CL} (ha: ∀y∈a,ltC x y=true) (hb: ∀y∈b,ltC x y=true) (z:CH):inM (x::a) b z↔z=⟨x.c,x.r,x.s,⟨#[]⟩⟩∨inM a b z:=by
 obtain⟨zc,zr,zf,zt⟩:=z;unfold inM;simp only [atC_cons,hasP_cons,CH.mk.injEq];by_cases h:x.c=zc∧x.r=zr
 ·have n1: ¬hasP zc zr a:=fun hp=>ahead_irr (hasP_gt ha hp) h;have n2: ¬hasP zc zr b:=fun hp=>ahead_irr (hasP_gt hb hp) h;rw [if_pos h,atC_no' n2];constructor
  ·rintro⟨_,e1,e2⟩;exact .inl ⟨h.1.symm,h.2.symm,e1,e2⟩
  ·rintro(⟨_,_,e1,e2⟩ | ⟨h9,_⟩)
   ·exact⟨.inl (.inl h),e1,e2⟩
   ·rcases h9 with h9 | h9
    ·exact(n1 h9).elim
    ·exact(n2 h9).elim
 ·rw [if_neg h];constructor
  ·rintro⟨h9,e⟩;refine .inr ⟨?_,e⟩;rcases h9 with(h9 | h9) | h9
   ·exact(h h9).elim
   ·exact .inl h9
   ·exact .inr h9
  ·rintro(⟨e1,e2,_⟩ | ⟨h9,e⟩)
   ·exact(h ⟨e1.symm,e2.symm⟩).elim
   ·refine⟨?_,e⟩;rcases h9 with h9 | h9
    ·exact .inl (.inr h9)
    ·exact .inr h9
theorem inM_right {y:CL} {a b:List CL} (ha: ∀x∈a,ltC y x=true) (hb: ∀x∈b,ltC y x=true) (z:CH):inM a (y::b) z↔z=⟨y.c,y.r,⟨#[]⟩,y.s⟩∨inM a b z:=by
 obtain⟨zc,zr,zf,zt⟩:=z;unfold inM;simp only [atC_cons,hasP_cons,CH.mk.injEq];by_cases h:y.c=zc∧y.r=zr
 ·have n1: ¬hasP zc zr a:=fun hp=>ahead_irr (hasP_gt ha hp) h;have n2: ¬hasP zc zr b:=fun hp=>ahead_irr (hasP_gt hb hp) h;rw [if_pos h,atC_no' n1];constructor
  ·rintro⟨_,e1,e2⟩;exact .inl ⟨h.1.symm,h.2.symm,e1,e2⟩
  ·rintro(⟨_,_,e1,e2⟩ | ⟨h9,_⟩)
   ·exact⟨.inr (.inl h),e1,e2⟩
   ·rcases h9 with h9 | h9
    ·exact(n1 h9).elim
    ·exact(n2 h9).elim
 ·rw [if_neg h];constructor
  ·rintro⟨h9,e⟩;refine .inr ⟨?_,e⟩;rcases h9 with h9 | (h9 | h9)
   ·exact .inl h9
   ·exact(h h9).elim
   ·exact .inr h9
  ·rintro(⟨e1,e2,_⟩ | ⟨h9,e⟩)
   ·exact(h ⟨e1.symm,e2.symm⟩).elim
   ·refine⟨?_,e⟩;rcases h9 with h9 | h9
    ·exact .inl h9
    ·exact .inr (.inr h9)
theorem inM_both {x y:CL} {a b:List CL} (e0:x.c=y.c∧x.r=y.r) (ha: ∀u∈a,ltC x u=true) (hb: ∀u∈b,ltC y u=true) (z:CH):inM (x::a) (y::b) z↔z=⟨x.c,x.r,x.s,y.s⟩∨inM a b z:=by
 obtain⟨zc,zr,zf,zt⟩:=z;unfold inM;simp only [atC_cons,hasP_cons,CH.mk.injEq,←e0.1,←e0.2];by_cases h:x.c=zc∧x.r=zr
 ·have n1: ¬hasP zc zr a:=fun hp=>ahead_irr (hasP_gt ha hp) h;have n2: ¬hasP zc zr b:=fun hp=>ahead_irr (hasP_gt hb hp) (by rw [←e0.1,←e0.2];exact h);rw [if_pos h,if_pos h];constructor
  ·rintro⟨_,e1,e2⟩;exact .inl ⟨h.1.symm,h.2.symm,e1,e2⟩
  ·rintro(⟨_,_,e1,e2⟩ | ⟨h9,_⟩)
   ·exact⟨.inl (.inl h),e1,e2⟩
   ·rcases h9 with h9 | h9
    ·exact(n1 h9).elim
    ·exact(n2 h9).elim
 ·rw [if_neg h,if_neg h];constructor
  ·rintro⟨h9,e⟩;refine .inr ⟨?_,e⟩;rcases h9 with(h9 | h9) | (h9 | h9)
   ·exact(h h9).elim
   ·exact .inl h9
   ·exact(h h9).elim
   ·exact .inr h9
  ·rintro(⟨e1,e2,_⟩ | ⟨h9,e⟩)
   ·exact(h ⟨e1.symm,e2.symm⟩).elim
   ·refine⟨?_,e⟩;rcases h9 with h9 | h9
    ·exact .inl (.inr h9)
    ·exact .inr (.inr h9)
abbrev ltH (z z':CH):Prop:=XA z.c z.r z'.c z'.r=true
theorem inM_place {a b:List CL} {z:CH} {x:CL} (h:inM a b z) (ha: ∀y∈a,ltC x y=true) (hb: ∀y∈b,ltC x y=true):XA x.c x.r z.c z.r=true:=by
 rcases h.1 with h | h
 ·exact hasP_gt ha h
 ·exact hasP_gt hb h
abbrev upC (a:List CL):Prop:=a.Pairwise (fun x y=>ltC x y=true)
theorem ltC_tr {x y z:CL} (h:ltC x y=true) (h':ltC y z=true):ltC x z=true:=ahead_tr h h'
theorem dfM_all: ∀(a b:List CL),upC a→upC b→(∀z,z∈dfM a b↔inM a b z)∧(dfM a b).Pairwise ltH
 | [],[],_,_=>by
  rw [dfM];refine⟨fun z=>⟨fun h=>(by cases h),fun h=> ?_⟩,List.Pairwise.nil⟩;rcases h.1 with⟨_,h,_⟩ | ⟨_,h,_⟩<;>cases h
 | x::a,[],ha,hb=>by
  obtain⟨h1,h2⟩:=List.pairwise_cons.1 ha;obtain⟨ih,ip⟩:=dfM_all a [] h2 hb;rw [dfM];refine⟨fun z=> ?_,List.pairwise_cons.2 ⟨fun z hz=>inM_place ((ih z).1 hz) h1 (by simp),ip⟩⟩;rw [List.mem_cons,ih,inM_left h1 (by simp)]
 | [],y::b,ha,hb=>by
  obtain⟨h1,h2⟩:=List.pairwise_cons.1 hb;obtain⟨ih,ip⟩:=dfM_all [] b ha h2;rw [dfM];refine⟨fun z=> ?_,List.pairwise_cons.2 ⟨fun z hz=>inM_place ((ih z).1 hz) (by simp) h1,ip⟩⟩;rw [List.mem_cons,ih,inM_right (by simp) h1]
 | x::a,y::b,ha,hb=>by
  obtain⟨h1,h2⟩:=List.pairwise_cons.1 ha;obtain⟨h3,h4⟩:=List.pairwise_cons.1 hb;rw [dfM];by_cases e1:ltC x y=true
  ·rw [if_pos e1]
   have h5: ∀u∈y::b,ltC x u=true:=fun u hu=>by
    rcases List.mem_cons.1 hu with rfl | hu
    ·exact e1
    ·exact ltC_tr e1 (h3 u hu)
   obtain⟨ih,ip⟩:=dfM_all a (y::b) h2 hb;refine⟨fun z=> ?_,List.pairwise_cons.2 ⟨fun z hz=>inM_place ((ih z).1 hz) h1 h5,ip⟩⟩;rw [List.mem_cons,ih,inM_left h1 h5]
  ·rw [if_neg e1];by_cases e2:ltC y x=true
   ·rw [if_pos e2]
    have h5: ∀u∈x::a,ltC y u=true:=fun u hu=>by
     rcases List.mem_cons.1 hu with rfl | hu
     ·exact e2
     ·exact ltC_tr e2 (h1 u hu)
    obtain⟨ih,ip⟩:=dfM_all (x::a) b ha h4;refine⟨fun z=> ?_,List.pairwise_cons.2 ⟨fun z hz=>inM_place ((ih z).1 hz) h5 h3,ip⟩⟩;rw [List.mem_cons,ih,inM_right h5 h3]
   ·rw [if_neg e2];have e0:=ahead_tri (Bool.eq_false_iff.2 e1) (Bool.eq_false_iff.2 e2)
    have h6: ∀u∈b,ltC x u=true:=fun u hu=>by
     have:=h3 u hu;unfold ltC at this ⊢;rw [e0.1,e0.2];exact this
    obtain⟨ih,ip⟩:=dfM_all a b h2 h4;refine⟨fun z=> ?_,List.pairwise_cons.2 ⟨fun z hz=>inM_place ((ih z).1 hz) h1 h6,ip⟩⟩;rw [List.mem_cons,ih,inM_both e0 h1 h3]
 termination_by a b=>a.length+b.length
def neH (z:CH):Bool:= !(z.f.toList==z.t.toList)
def dfL (a b:List CL):List CH:=(dfM a b).filter neH
theorem sb_iff {a b:ByteArray}:(a.toList==b.toList)=true↔a=b:=⟨fun h=>Qgu h,fun h=>by rw [h];simp⟩
theorem sb_no {a b:ByteArray}:(a.toList==b.toList)=false↔a≠b:=by
 rw [←Bool.not_eq_true,sb_iff]
def mgS (o x y:ByteArray):Option ByteArray:=if(x.toList==o.toList)=true then some y else if(y.toList==o.toList)=true then some x else if(x.toList==y.toList)=true then some x else none
def mgAt (O X Y:List CL) (p q:Int):Option ByteArray:=mgS (atC p q O) (atC p q X) (atC p q Y)
def mgC (O X Y M:List CL):List (Int × Int):=(M.filter (fun m=>(mgAt O X Y m.c m.r).isNone)).map (fun m=>(m.c,m.r))
def mgOf (O X Y:List CL) (m:CL):Option CL:=(mgAt O X Y m.c m.r).bind (fun s=>if s.toList.isEmpty=true then none else some ⟨m.c,m.r,s⟩)
def mgL (O X Y M:List CL):List CL:=M.filterMap (mgOf O X Y)
def spIn (X:List CL) (c:CH):Bool:=(atC c.c c.r X).toList==c.f.toList
def spNo (X:List CL) (c:CH):Bool:= !((atC c.c c.r X).toList==c.f.toList)&& !((atC c.c c.r X).toList==c.t.toList)
def spO (X:List CL) (E:List CL) (ds:List CH):List CL:=ds.foldl (fun E c=>if spIn X c=true then setC ⟨c.c,c.r,c.t⟩ E else E) E
def spC (X:List CL) (ds:List CH):List (Int × Int):=(ds.filter (spNo X)).map (fun c=>(c.c,c.r))
theorem spO_snoc (X E:List CL) (ds:List CH) (c:CH):spO X E (ds++ [c])=if spIn X c=true then setC ⟨c.c,c.r,c.t⟩ (spO X E ds)else spO X E ds:=by simp [spO,List.foldl_append]
theorem spC_snoc (X:List CL) (ds:List CH) (c:CH):spC X (ds++ [c])=if spNo X c=true then spC X ds++ [(c.c,c.r)]else spC X ds:=by
 unfold spC;rw [List.filter_append];by_cases h:spNo X c=true<;>simp [h]
theorem setC_iff {w:CL} {E:List CL} {z:CL}:z∈setC w E↔(z∈E∧ ¬(z.c=w.c∧z.r=w.r))∨(z=w∧w.s.toList.isEmpty=false):=by
 rw [(setC_perm w E).mem_iff];by_cases h:w.s.toList.isEmpty=true
 ·rw [if_pos h,offP_mem];simp [h]
 ·rw [if_neg h,List.mem_append,offP_mem,List.mem_singleton];simp [Bool.eq_false_iff.2 h]
theorem spO_mem {X:List CL}: ∀{ds:List CH} {E:List CL},ds.Pairwise ltH→ ∀z,z∈spO X E ds↔(z∈E∧ ∀c∈ds,spIn X c=true→ ¬(z.c=c.c∧z.r=c.r))∨(∃c∈ds,spIn X c=true∧z=⟨c.c,c.r,c.t⟩∧c.t.toList.isEmpty=false)
 | [],E,_,z=>by simp [spO]
 | c::ds,E,hp,z=>by
  obtain⟨h1,h2⟩:=List.pairwise_cons.1 hp;have e:spO X E (c::ds)=spO X (if spIn X c=true then setC ⟨c.c,c.r,c.t⟩ E else E) ds:=rfl;rw [e,spO_mem h2];by_cases hc:spIn X c=true
  ·rw [if_pos hc,setC_iff];simp only;constructor
   ·rintro(⟨(⟨hz,hn⟩ | ⟨hz,hn⟩),hall⟩ | ⟨c',hc',h3⟩)
    ·exact .inl ⟨hz,fun c' hm hi=>by
      rcases List.mem_cons.1 hm with rfl | hm
      ·exact hn
      ·exact hall c' hm hi⟩
    ·exact .inr ⟨c,by simp,hc,hz,hn⟩
    ·exact .inr ⟨c',by simp [hc'],h3⟩
   ·rintro(⟨hz,hall⟩ | ⟨c',hm,hi,hz,hn⟩)
    ·exact .inl ⟨.inl ⟨hz,hall c (by simp) hc⟩,fun c' hm hi=>hall c' (by simp [hm]) hi⟩
    ·rcases List.mem_cons.1 hm with rfl | hm
     ·refine .inl ⟨.inr ⟨hz,hn⟩,fun c2 hm2 hi2 e2=> ?_⟩;subst hz;exact ahead_irr (h1 c2 hm2) e2
     ·exact .inr ⟨c',hm,hi,hz,hn⟩
  ·rw [if_neg hc];constructor
   ·rintro(⟨hz,hall⟩ | ⟨c',hm,h3⟩)
    ·exact .inl ⟨hz,fun c' hm hi=>by
      rcases List.mem_cons.1 hm with rfl | hm
      ·exact absurd hi hc
      ·exact hall c' hm hi⟩
    ·exact .inr ⟨c',by simp [hm],h3⟩
   ·rintro(⟨hz,hall⟩ | ⟨c',hm,hi,h3⟩)
    ·exact .inl ⟨hz,fun c' hm hi=>hall c' (by simp [hm]) hi⟩
    ·rcases List.mem_cons.1 hm with rfl | hm
     ·exact absurd hi hc
     ·exact .inr ⟨c',hm,hi,h3⟩
theorem spO_up {X:List CL}: ∀{ds:List CH} {E:List CL},upC E→upC (spO X E ds)
 | [],E,h=>h
 | c::ds,E,h=>by
  have e:spO X E (c::ds)=spO X (if spIn X c=true then setC ⟨c.c,c.r,c.t⟩ E else E) ds:=rfl;rw [e];refine spO_up ?_;split
  ·exact setC_rise h
  ·exact h
theorem at_of {X:List CL} (h:upC X) {z:CL} (hz:z∈X):atC z.c z.r X=z.s:=by
  unfold atC;cases hf:X.find? (fun y=>decide (y.c=z.c∧y.r=z.r))with
  | none=>exact absurd (List.find?_eq_none.1 hf z hz) (by simp)
  | some y=>
   have hy:=List.mem_of_find?_eq_some hf;have he9:=List.find?_some hf;have he:y.c=z.c∧y.r=z.r:=of_decide_eq_true he9
   have:y=z:=by
    obtain⟨i,hi,e1⟩:=List.mem_iff_getElem.1 hy;obtain⟨j,hj,e2⟩:=List.mem_iff_getElem.1 hz;rcases Nat.lt_trichotomy i j with h9 | h9 | h9
    ·have:=List.pairwise_iff_getElem.1 h i j hi hj h9;rw [e1,e2]at this;exact absurd he (ahead_irr this)
    ·subst h9;rw [←e1,←e2]
    ·have:=List.pairwise_iff_getElem.1 h j i hj hi h9;rw [e1,e2]at this;exact absurd ⟨he.1.symm,he.2.symm⟩ (ahead_irr this)
   rw [this];rfl
theorem at_mem {X:List CL} (h:upC X) {z:CL}:z∈X↔hasP z.c z.r X∧atC z.c z.r X=z.s:=by
 constructor
 ·intro hz;exact⟨⟨z,hz,rfl,rfl⟩,at_of h hz⟩
 ·rintro⟨⟨y,hy,e1,e2⟩,e3⟩;have h9:=at_of h hy
  have:y=z:=by
   obtain⟨yc,yr,ys⟩:=y;obtain⟨zc,zr,zs⟩:=z;simp only at e1 e2 e3 h9;subst e1 e2;rw [h9]at e3;rw [e3]
  rw [←this];exact hy
theorem hasP_ne {X:List CL} {p q:Int} (h:(atC p q X).toList.isEmpty=false):hasP p q X:=by
 refine Classical.byContradiction fun hn=> ?_;rw [atC_no' hn,show(⟨#[]⟩:ByteArray).toList= []from by(first | rfl | decide | simp | kernel_rfl)]at h;cases h
theorem hasP_or {O Y:List CL} {p q:Int} (h:atC p q O≠atC p q Y):hasP p q O∨hasP p q Y:=by
 refine Classical.byContradiction fun hn=> ?_;rw [not_or]at hn;exact h (by rw [atC_no' hn.1,atC_no' hn.2])
theorem df_mem {O Y:List CL} (hO:upC O) (hY:upC Y) {c:CH}:c∈dfL O Y↔c.f=atC c.c c.r O∧c.t=atC c.c c.r Y∧c.f≠c.t:=by
 unfold dfL;rw [List.mem_filter,(dfM_all O Y hO hY).1,neH,Bool.not_eq_true',sb_no];constructor
 ·rintro⟨⟨_,h1,h2⟩,h3⟩;exact⟨h1,h2,h3⟩
 ·rintro⟨h1,h2,h3⟩;exact⟨⟨hasP_or (by rw [←h1,←h2];exact h3),h1,h2⟩,h3⟩
theorem mg_none {O X Y:List CL} {p q:Int}:(mgAt O X Y p q).isNone=true↔atC p q X≠atC p q O∧atC p q Y≠atC p q O∧atC p q X≠atC p q Y:=by
 unfold mgAt mgS;by_cases h1:atC p q X=atC p q O
 ·rw [if_pos (sb_iff.2 h1)];simp [h1]
 ·rw [if_neg (by rw [sb_iff];exact h1)];by_cases h2:atC p q Y=atC p q O
  ·rw [if_pos (sb_iff.2 h2)];simp [h2]
  ·rw [if_neg (by rw [sb_iff];exact h2)];by_cases h3:atC p q X=atC p q Y
   ·rw [if_pos (sb_iff.2 h3)];simp [h3]
   ·rw [if_neg (by rw [sb_iff];exact h3)];simp [h1,h2,h3]
theorem mg_clash {O X Y M:List CL} (hO:upC O) (hY:upC Y) (hM:upC M) (hm: ∀p q,hasP p q M↔hasP p q O∨hasP p q X∨hasP p q Y):spC X (dfL O Y)=mgC O X Y M:=by
 refine sorted_ext (r:=fun a b=>XA a.1 a.2 b.1 b.2=true) (fun x y h h'=>ahead_asy h h') ?_ ?_ (fun z=> ?_)
 ·unfold spC;rw [List.pairwise_map];exact((dfM_all O Y hO hY).2.filter _).filter _
 ·unfold mgC;rw [List.pairwise_map];exact hM.filter _
 ·obtain⟨p,q⟩:=z;unfold spC mgC;simp only [List.mem_map,List.mem_filter,Prod.mk.injEq];constructor
  ·rintro⟨c,⟨hc,hn⟩,rfl,rfl⟩;obtain⟨e1,e2,e3⟩:=(df_mem hO hY).1 hc;unfold spNo at hn;simp only [Bool.and_eq_true,Bool.not_eq_true',sb_no]at hn;rw [e1,e2]at hn;rw [e1,e2]at e3;obtain⟨m,hm9,e4,e5⟩:=(hm c.c c.r).2 (by rcases hasP_or e3 with h | h;exact .inl h;exact .inr (.inr h))
   exact⟨m,⟨hm9,by rw [e4,e5];exact mg_none.2 ⟨hn.1,fun e=>e3 e.symm,hn.2⟩⟩,e4,e5⟩
  ·rintro⟨m,⟨hm9,hn⟩,rfl,rfl⟩;obtain⟨h1,h2,h3⟩:=mg_none.1 hn;refine⟨⟨m.c,m.r,atC m.c m.r O,atC m.c m.r Y⟩,⟨(df_mem hO hY).2 ⟨rfl,rfl,fun e=>h2 e.symm⟩,?_⟩,rfl,rfl⟩;unfold spNo;simp only [Bool.and_eq_true,Bool.not_eq_true',sb_no];exact⟨h1,h3⟩
theorem mg_out {O X Y M:List CL} (hO:upC O) (hX:upC X) (hY:upC Y) (hM:upC M) (hs: ∀x∈X,x.s.toList.isEmpty=false) (hm: ∀p q,hasP p q M↔hasP p q O∨hasP p q X∨hasP p q Y) (hc:mgC O X Y M= []):spO X X (dfL O Y)=mgL O X Y M:=by
 have hno: ∀p q,hasP p q M→ ¬(atC p q X≠atC p q O∧atC p q Y≠atC p q O∧atC p q X≠atC p q Y):=fun p q ⟨m,hm9,e1,e2⟩ h=>by
  have:(m.c,m.r)∈mgC O X Y M:=by
   unfold mgC;exact List.mem_map.2 ⟨m,List.mem_filter.2 ⟨hm9,mg_none.2 (by rw [e1,e2];exact h)⟩,rfl⟩
  rw [hc]at this;cases this
 have happ: ∀c:CH,c∈dfL O Y∧spIn X c=true↔c.f=atC c.c c.r O∧c.t=atC c.c c.r Y∧atC c.c c.r O≠atC c.c c.r Y∧atC c.c c.r X=atC c.c c.r O:=fun c=>by
  rw [df_mem hO hY,spIn,sb_iff];constructor
  ·rintro⟨⟨h1,h2,h3⟩,h4⟩;exact⟨h1,h2,by rw [←h1,←h2];exact h3,by rw [h4,h1]⟩
  ·rintro⟨h1,h2,h3,h4⟩;exact⟨⟨h1,h2,by rw [h1,h2];exact h3⟩,by rw [h4,h1]⟩
 refine sorted_ext (r:=fun x y=>ltC x y=true) (fun x y h h'=>ahead_asy h h') (spO_up hX) ?_ (fun z=> ?_)
 ·unfold mgL;refine List.Pairwise.filterMap _ (fun a b hab x hx y hy=> ?_) hM
  have ex:x.c=a.c∧x.r=a.r:=by
   unfold mgOf at hx;obtain⟨s,_,h2⟩:=Option.bind_eq_some_iff.1 hx;split at h2
   ·cases h2
   ·cases h2;exact⟨rfl,rfl⟩
  have ey:y.c=b.c∧y.r=b.r:=by
   unfold mgOf at hy;obtain⟨s,_,h2⟩:=Option.bind_eq_some_iff.1 hy;split at h2
   ·cases h2
   ·cases h2;exact⟨rfl,rfl⟩
  show XA x.c x.r y.c y.r=true;rw [ex.1,ex.2,ey.1,ey.2];exact hab
 ·have hml:z∈mgL O X Y M↔hasP z.c z.r M∧mgAt O X Y z.c z.r=some z.s∧z.s.toList.isEmpty=false:=by
   unfold mgL;rw [List.mem_filterMap];constructor
   ·rintro⟨m,hm9,h⟩;unfold mgOf at h;obtain⟨s,h1,h2⟩:=Option.bind_eq_some_iff.1 h;split at h2
    ·cases h2
    ·rename_i hne
     cases h2
     exact⟨⟨m,hm9,rfl,rfl⟩,h1,Bool.eq_false_iff.2 hne⟩
   ·rintro⟨⟨m,hm9,e1,e2⟩,h1,h2⟩;refine⟨m,hm9,?_⟩;unfold mgOf;rw [e1,e2,h1];simp only [Option.bind_some,h2,Bool.false_eq_true,if_false]
  rw [hml,spO_mem (show(dfL O Y).Pairwise ltH from(dfM_all O Y hO hY).2.filter _)];obtain⟨p,q,s⟩:=z;simp only;constructor
  ·rintro(⟨hz,hall⟩ | ⟨c,hcm,hi,hz,hne⟩)
   ·have hx:=(at_mem hX).1 hz;simp only at hx;have hse:=hs _ hz;simp only at hse;refine⟨(hm p q).2 (.inr (.inl hx.1)),?_,hse⟩
    have hna: ¬(atC p q O≠atC p q Y∧atC p q X=atC p q O):=fun h=>by
     have h9:=(happ ⟨p,q,atC p q O,atC p q Y⟩).2 ⟨rfl,rfl,h.1,h.2⟩;exact hall _ h9.1 h9.2 ⟨rfl,rfl⟩
    have hnc:=hno p q ((hm p q).2 (.inr (.inl hx.1)));unfold mgAt mgS;by_cases h1:atC p q X=atC p q O
    ·have h2:atC p q O=atC p q Y:=Classical.byContradiction fun h=>hna ⟨h,h1⟩;rw [if_pos (sb_iff.2 h1),←h2,←h1,hx.2]
    ·rw [if_neg (by rw [sb_iff];exact h1)];by_cases h2:atC p q Y=atC p q O
     ·rw [if_pos (sb_iff.2 h2),hx.2]
     ·rw [if_neg (by rw [sb_iff];exact h2)];have h3:atC p q X=atC p q Y:=Classical.byContradiction fun h=>hnc ⟨h1,h2,h⟩;rw [if_pos (sb_iff.2 h3),hx.2]
   ·obtain⟨h1,h2,h3,h4⟩:=(happ c).1 ⟨hcm,hi⟩;cases hz
    refine⟨(hm c.c c.r).2 (by rcases hasP_or h3 with h | h;exact .inl h;exact .inr (.inr h)),?_,hne⟩;unfold mgAt mgS;rw [if_pos (sb_iff.2 h4),h2]
  ·rintro⟨hp,hmg,hne⟩;unfold mgAt mgS at hmg;by_cases h1:atC p q X=atC p q O
   ·rw [if_pos (sb_iff.2 h1)]at hmg;have hY9:=Option.some.inj hmg;by_cases h2:atC p q O=atC p q Y
    ·have hxs:atC p q X=s:=by rw [h1,h2];exact hY9
     refine .inl ⟨(at_mem hX).2 ⟨hasP_ne (by rw [hxs];exact hne),hxs⟩,fun c hcm hi e=> ?_⟩;obtain⟨_,_,h3,_⟩:=(happ c).1 ⟨hcm,hi⟩;rw [←e.1,←e.2]at h3;exact h3 h2
    ·have h9:=(happ ⟨p,q,atC p q O,atC p q Y⟩).2 ⟨rfl,rfl,h2,h1⟩;exact .inr ⟨_,h9.1,h9.2,by rw [hY9],by rw [hY9];exact hne⟩
   ·rw [if_neg (by rw [sb_iff];exact h1)]at hmg
    have hxs:atC p q X=s:=by
     split at hmg
     ·exact Option.some.inj hmg
     ·split at hmg
      ·exact Option.some.inj hmg
      ·cases hmg
    refine .inl ⟨(at_mem hX).2 ⟨hasP_ne (by rw [hxs];exact hne),hxs⟩,fun c hcm hi e=> ?_⟩;obtain⟨_,_,_,h4⟩:=(happ c).1 ⟨hcm,hi⟩;rw [←e.1,←e.2]at h4;exact h1 h4
end Go.Proofs.YtkdhmdllnaogcaaGreatDoor
