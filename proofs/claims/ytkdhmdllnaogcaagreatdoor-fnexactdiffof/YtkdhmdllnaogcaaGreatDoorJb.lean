import Derived.Test.YtkdhmdllnaogcaaGreatDoorMn
import Derived.Test.YtkdhmdllnaogcaaGreatDoorJa
import Derived.Test.YtkdhmdllnaogcaaGreatDoorGze
import Derived.Test.YtkdhmdllnaogcaaGreatDoorGbf
import Derived.Test.YtkdhmdllnaogcaaGreatDoorGbg
import Derived.Test.YtkdhmdllnaogcaaGreatDoorGzj
import Derived.Test.YtkdhmdllnaogcaaGreatDoorGaa
import Derived.Laws.AppendOwnNone
import Derived.WideShapes
import Derived.Deep.QuietTactic
import Derived.BigQuiet
set_option linter.unusedSimpArgs false
set_option linter.unusedVariables false
set_option maxHeartbeats 4000000
set_option maxRecDepth 100000
namespace Go.Proofs.YtkdhmdllnaogcaaGreatDoor
open Go.RowKit Go.Maps
theorem key_refok {p q:Int} (h:Qj p q=true): ∃l,keyOf Tryz.prog 45 (.agg #[.int .i64 p,.int .i64 q])=some l:=by
 simp only [Qj,decide_eq_true_eq]at h;exact Qfc p q (MO (by omega) (by omega)) (MO (by omega) (by omega))
theorem clE_apart {C R:Nat→Int} {S:Nat→ByteArray} {n:Nat} (h:(clE C R S n).Pairwise (fun a b=>ltC a b=true)): ∀i j,i<j→j<n→ ¬(C i=C j∧R i=R j):=fun i j hij hj e=>by
 have h9:=List.pairwise_iff_getElem.1 h i j (by rw [clE_len];omega) (by rw [clE_len];exact hj) hij;simp only [clE,List.getElem_map,List.getElem_range]at h9;have h8:=of_decide_eq_true h9;simp only at h8;omega
end Go.Proofs.YtkdhmdllnaogcaaGreatDoor
namespace Go.Proofs.YtkdhmdllnaogcaaGreatDoor
open Go.RowKit
structure CE where
 c:Int
 r:Int
 s:ByteArray
def ceL (x:CE):List Value:= [.int .i64 x.c,.int .i64 x.r,.string x.s]
theorem ceL_len (x:CE):(ceL x).length=3:=rfl
def ceMk (k:Int):CE:=⟨k,(k+1),mtx (k+1+1)⟩
theorem laws_markCellS {B n:Nat} {v:Value} {xs:List Value} (k0:Int) (w:World) (h:w.ownsRow B 50 3 v n xs) (hn:n≤1048576) (hk0:0<k0) (hk1:k0≤70368744177664):
  Calls Tryz.prog 11 #[v,.int .i64 k0] w fun e w'=>e= .returned (.int .i64 (k0+(n:Int)*3))∧w'.ownsRow B 50 3 v n (Kc ceL (mkL ceMk 3 k0 n))∧w.grownBy w' v.ownBlock:=by
 have HO:Hid (w.ownsRow B 50 3 v n xs):=h;obtain⟨A,cap,rfl,_,_⟩:=QP h;clear h;obtain⟨LL,HLL⟩: ∃LL,Hid (mkL ceMk 3 k0 n=LL):=⟨_,rfl⟩;rw [HLL.out];go_enter Tryz.func11,Tryz.ntmps11;go_wp2_with fail
 go_loopw [1,5] (fun q i wr=> ∃t:Nat,t≤n∧i= .int .i64 t∧q= .int .i64 (k0+(t:Int)*3)∧(∃ys,wr.ownsRow B 50 3 (.slice A n cap) n ys∧ ∀j,j<t*3→ys[j]? =(Kc ceL LL)[j]?)∧w.grownBy wr (Value.slice A n cap).ownBlock) (fun _ i _=>n-(intOf i).toNat)
 case atStart=>exact⟨0,Nat.zero_le _,rfl,by simp,⟨xs,HO.out,fun j hj=>by omega⟩,World.grownBy.refl _ _⟩
 case round=>
  clear HO;obtain⟨t,ht,rfl,rfl,⟨ys,hown,hys⟩,hgr⟩:=hrel;by_cases hlt:t<n
  ·obtain⟨k,HK⟩: ∃k:Int,Hid (k0+(t:Int)*3=k):=⟨_,rfl⟩;have hp0:0<k:=by have:=HK.out;omega
   have hp1:k≤70378744177664:=by have:=HK.out;omega
   have HX:Hid (∀j,j<3→(Kc ceL LL)[t*3+j]? =(ceL (ceMk k))[j]?):=fun j hj=>by
    rw [←HLL.out,UV ceL_len j hj,mkL_at _ _ _ _ _ hlt,←HK.out];rfl
   rw [HK.out]
   obtain⟨g,rfl⟩: ∃g,A=some ⟨g,0,none⟩:=by
    obtain⟨A',cap',e,_,hc⟩:=QP hown;cases e
    obtain⟨g,e,_⟩:=hc (t*3) (by omega);exact⟨g,e⟩
   have HA0:Hid (∃ys,wr.ownsRow B 50 3 (.slice (some ⟨g,0,none⟩) n cap) n ys∧(∀j,j<t*3→ys[j]? =(Kc ceL LL)[j]?)∧w.grownBy wr (some g)):=⟨ys,hown,hys,hgr⟩;clear hown hys hgr;have q0:(0:Int)≤(t:Int):=by omega
   have q1:(t:Int)<(n:Int):=by omega
   obtain⟨ys0,o0,p0,r0⟩:=HA0.out;obtain⟨A',cap',e,_,hc⟩:=QP o0;cases e
   obtain⟨gg,e0,_,hg0,d0,f0⟩:=hc (t*3) (by omega);cases e0
   clear hc;have hl:=o0.1;obtain⟨x0,y0⟩: ∃x,ys0[t*3]? =some x:=⟨_,List.getElem?_eq_getElem (by omega)⟩;rw [y0]at d0;clear y0 hl
   have HP0:Hid (∃ys,((wr.setCell ⟨g,t*3,none⟩ (.int .i64 (k)))).ownsRow B 50 3 (.slice (some ⟨g,0,none⟩) n cap) n ys∧(∀j,j<t*3+1→ys[j]? =(Kc ceL LL)[j]?)∧w.grownBy ((wr.setCell ⟨g,t*3,none⟩ (.int .i64 (k)))) (some g)):=by
    obtain⟨oq,gq⟩:=o0.stored (t*3) (.int .i64 (k));refine⟨_,oq,fun j hj=> ?_,XI r0 gq⟩;by_cases e:t*3=j
    ·subst e;rw [List.getElem?_set_self (by have:=o0.1;omega)];exact(HX.out 0 (by omega)).symm
    ·rw [List.getElem?_set_ne e];exact p0 j (by omega)
   clear o0 p0 r0;clear HA0;obtain⟨ys1,o1,p1,r1⟩:=HP0.out;obtain⟨A',cap',e,_,hc⟩:=QP o1;cases e
   obtain⟨gg,e1,_,hg1,d1,f1⟩:=hc (t*3+1) (by omega);cases e1
   clear hc;have hl:=o1.1;obtain⟨x1,y1⟩: ∃x,ys1[t*3+1]? =some x:=⟨_,List.getElem?_eq_getElem (by omega)⟩;rw [y1]at d1;clear y1 hl
   have HP1:Hid (∃ys,(((wr.setCell ⟨g,t*3,none⟩ (.int .i64 (k))).setCell ⟨g,t*3+1,none⟩ (.int .i64 (k+1)))).ownsRow B 50 3 (.slice (some ⟨g,0,none⟩) n cap) n ys∧(∀j,j<t*3+2→ys[j]? =(Kc ceL LL)[j]?)∧w.grownBy (((wr.setCell ⟨g,t*3,none⟩ (.int .i64 (k))).setCell ⟨g,t*3+1,none⟩ (.int .i64 (k+1)))) (some g)):=by
    obtain⟨oq,gq⟩:=o1.stored (t*3+1) (.int .i64 (k+1));refine⟨_,oq,fun j hj=> ?_,XI r1 gq⟩;by_cases e:t*3+1=j
    ·subst e;rw [List.getElem?_set_self (by have:=o1.1;omega)];exact(HX.out 1 (by omega)).symm
    ·rw [List.getElem?_set_ne e];exact p1 j (by omega)
   clear o1 p1 r1;clear HP0;go_wp2_with fail
   refine(EI _ _ (by omega) (by omega)).mono ?_;rintro e w2 ⟨rfl,hb⟩
   have HB2:Hid (∃ys,w2.ownsRow B 50 3 (.slice (some ⟨g,0,none⟩) n cap) n ys∧(∀j,j<t*3+2→ys[j]? =(Kc ceL LL)[j]?)∧w.grownBy w2 (some g)):=by
    obtain⟨z,o1,p1,g1⟩:=HP1.out;exact⟨z,Qp o1 hb,p1,XI g1 (Qf5 _ hb)⟩
   clear hb HP1 d0 f0 d1 f1;obtain⟨ys2,o2,p2,r2⟩:=HB2.out;obtain⟨A',cap',e,_,hc⟩:=QP o2;cases e
   obtain⟨gg,e2,_,hg2,d2,f2⟩:=hc (t*3+2) (by omega);cases e2
   clear hc;have hl:=o2.1;obtain⟨x2,y2⟩: ∃x,ys2[t*3+2]? =some x:=⟨_,List.getElem?_eq_getElem (by omega)⟩;rw [y2]at d2;clear y2 hl
   have HP2:Hid (∃ys,((w2.setCell ⟨g,t*3+2,none⟩ (.string (mtx (k+1+1))))).ownsRow B 50 3 (.slice (some ⟨g,0,none⟩) n cap) n ys∧(∀j,j<t*3+3→ys[j]? =(Kc ceL LL)[j]?)∧w.grownBy ((w2.setCell ⟨g,t*3+2,none⟩ (.string (mtx (k+1+1))))) (some g)):=by
    obtain⟨oq,gq⟩:=o2.stored (t*3+2) (.string (mtx (k+1+1)));refine⟨_,oq,fun j hj=> ?_,XI r2 gq⟩;by_cases e:t*3+2=j
    ·subst e;rw [List.getElem?_set_self (by have:=o2.1;omega)];exact(HX.out 2 (by omega)).symm
    ·rw [List.getElem?_set_ne e];exact p2 j (by omega)
   clear o2 p2 r2;clear HB2;go_wp2_with fail
   all_goals
    go_roundw
    case rel=>
     obtain⟨z,o1,p1,g1⟩:=HP2.out;exact⟨t+1,by omega,by simp,by have:=HK.out;congr 1;omega,⟨z,o1,fun j hj=>p1 j (by omega)⟩,g1⟩
    case measure=>simp [intOf];omega
  ·have h1: ¬(t:Int)<(n:Int):=by omega
   obtain rfl:t=n:=by omega
   go_wp2_with fail
   go_ret;exact⟨rfl,by rw [Qj2 ceL_len hown.1 (by rw [←HLL.out];exact Qj1 _ _ _ _) hys]at hown;exact hown,hgr⟩
end Go.Proofs.YtkdhmdllnaogcaaGreatDoor
namespace Go.Proofs.YtkdhmdllnaogcaaGreatDoor
open Go.RowKit Go.Maps
theorem gkeep {W w':World} {B B' n n' s s':Nat} {e e':TypeId} {v v':Value} {xs xs':List Value} (h:W.ownsRow B e s v n xs) (hg:W.grownBy w' v.ownBlock) (h':W.ownsRow B' e' s' v' n' xs') (hb: ∀k,v'.ownBlock=some k→v.ownBlock≠some k):w'.ownsRow B' e' s' v' n' xs':=
 h'.kept hg (by
  cases hv:v'.ownBlock with
  | none=>exact Or.inl rfl
  | some q=>exact Or.inr (fun e=>hb q hv e.symm))
end Go.Proofs.YtkdhmdllnaogcaaGreatDoor
namespace Go.Proofs.YtkdhmdllnaogcaaGreatDoor
open Go.RowKit
structure CH where
 c:Int
 r:Int
 f:ByteArray
 t:ByteArray
def chL (x:CH):List Value:= [.int .i64 x.c,.int .i64 x.r,.string x.f,.string x.t]
def ChRow (W:World) (A:Option Addr) (n:Nat) (D:Nat→CH):Prop:=
 n≤maxLen∧ ∀i,i<n→ ∃b o,A=some ⟨b,o,none⟩∧b<W.heap.size∧W.cell? ⟨b,o+i*4,none⟩=some (.int .i64 (D i).c)∧W.cell? ⟨b,o+i*4+1,none⟩=some (.int .i64 (D i).r)∧
  W.cell? ⟨b,o+i*4+2,none⟩=some (.string (D i).f)∧W.cell? ⟨b,o+i*4+3,none⟩=some (.string (D i).t)∧(D i).f.size≤maxLen∧(D i).t.size≤maxLen
theorem ChRow.below {W W':World} {A:Option Addr} {n:Nat} {D:Nat→CH} (h:ChRow W A n D) (hb:Below W.heap.size W W'):ChRow W' A n D:=
 ⟨h.1,fun i hi=>by
  obtain⟨b,o,e,hl,c0,c1,c2,c3,hs,ht⟩:=h.2 i hi
  exact⟨b,o,e,Nat.lt_of_lt_of_le hl hb.size,(hb.cell (p:=⟨b,_,none⟩) hl).trans c0,(hb.cell (p:=⟨b,_,none⟩) hl).trans c1,(hb.cell (p:=⟨b,_,none⟩) hl).trans c2,(hb.cell (p:=⟨b,_,none⟩) hl).trans c3,hs,ht⟩⟩
def chX (D:Nat→CH) (m:Nat):List Value:=(List.range m).flatMap fun i=>chL (D i)
theorem chX_succ (D:Nat→CH) (m:Nat):chX D (m+1)=chX D m++chL (D m):=by
 simp [chX,List.range_succ,List.flatMap_append]
theorem chX_len (D:Nat→CH) (m:Nat):(chX D m).length=m*4:=by
 induction m with
 | zero=>rfl
 | succ m ih=>rw [chX_succ,List.length_append,ih];simp [chL];omega
theorem chX_at (D:Nat→CH) (m i j:Nat) (hi:i<m) (hj:j<4):(chX D m)[i*4+j]? =(chL (D i))[j]?:=by
 induction m with
 | zero=>omega
 | succ m ih=>
  rw [chX_succ];have hl:=chX_len D m;by_cases h:i<m
  ·rw [List.getElem?_append_left (by omega)];exact ih h
  ·obtain rfl:i=m:=by omega
   rw [List.getElem?_append_right (by omega),hl];congr 1
   omega
theorem infoCh:(Tryz.prog.info? 47).map (fun i=>(i.zero,i.size,i.bytes))=some (some (.agg #[.int .i64 0,.int .i64 0,.string ⟨#[]⟩,.string ⟨#[]⟩]),4,48):=by kernel_rfl
theorem ch_of_own {W:World} {B n:Nat} {A:Option Addr} {cap:Nat} {D:Nat→CH} (h:W.ownsRow B 47 4 (.slice A n cap) n (chX D n)) (hs: ∀i,i<n→(D i).f.size≤maxLen∧(D i).t.size≤maxLen):ChRow W A n D:=by
 obtain⟨A',cap',e,hn,hc⟩:=QP h;cases e
 refine⟨hn,fun i hi=> ?_⟩;obtain⟨g,rfl,_,hl,c0,_⟩:=hc (i*4) (by omega);obtain⟨g1,e1,_,_,c1,_⟩:=hc (i*4+1) (by omega);obtain⟨g2,e2,_,_,c2,_⟩:=hc (i*4+2) (by omega);obtain⟨g3,e3,_,_,c3,_⟩:=hc (i*4+3) (by omega);cases e1
 cases e2
 cases e3
 refine⟨g,0,rfl,hl,?_,?_,?_,?_,hs i hi⟩
 ·rw [Nat.zero_add,c0];exact chX_at D n i 0 hi (by omega)
 ·rw [Nat.zero_add,c1];exact chX_at D n i 1 hi (by omega)
 ·rw [Nat.zero_add,c2];exact chX_at D n i 2 hi (by omega)
 ·rw [Nat.zero_add,c3];exact chX_at D n i 3 hi (by omega)
theorem laws_eqChange (c r:Int) (f t:ByteArray) (w:World):Calls Tryz.prog 26 #[.agg #[.int .i64 c,.int .i64 r,.string f,.string t],.agg #[.int .i64 c,.int .i64 r,.string f,.string t]] w fun e w'=>
  e= .returned (.bool true)∧Below w.heap.size w w':=by
 go_enter Tryz.func26,Tryz.ntmps26
 go_wp2_with (first
  | (go_at_call 33;refine(Og _ _ _).mono ?_;rintro e w1 ⟨rfl,hb⟩;obtain⟨hc,hf,hC,hF,hz,hk,l0,l1⟩:=bk2 (w:=w) (by go_grown) (by go_size) hb;clear hb))
 go_ret;exact⟨rfl,by go_grown⟩
theorem laws_eqChangeS {A A':Option Addr} {n cap cap':Nat} {D:Nat→CH} (w:World) (h:ChRow w A n D) (h':ChRow w A' n D):
  Calls Tryz.prog 9 #[.slice A n cap,.slice A' n cap'] w fun e w'=>e= .returned (.bool true)∧Below w.heap.size w w':=by
 have HR:Hid (ChRow w A n D):=h;have HR':Hid (ChRow w A' n D):=h';have hn:=h.1;unfold maxLen at hn;clear h h';go_enter Tryz.func9,Tryz.ntmps9;go_wp2_with fail
 go_loopw [5] (fun i wr=> ∃k:Nat,k≤n∧i= .int .i64 k∧Below w.heap.size w wr) (fun i _=>n-(intOf i).toNat)
 case atStart=>exact⟨0,Nat.zero_le _,rfl,Below.refl _ _⟩
 case round=>
  obtain⟨k,hk,rfl,hbel⟩:=hrel;by_cases hlt:k<n
  ·obtain⟨b,o,rfl,hl,c0,c1,c2,c3,hs,hs'⟩:=HR.out.2 k hlt;obtain⟨b',o',rfl,hl',c0',c1',c2',c3',_⟩:=HR'.out.2 k hlt;have hs:=hbel.size;have hW:=fun b o h=>hbel.cell (p:=⟨b,o,none⟩) h;have h0:(0:Int)≤(k:Int):=by omega
   have h1:(k:Int)<(n:Int):=by omega
   go_wp2_with fail
   go_region_held3 (fun w'=>(∀bq oq,bq<w.heap.size→w'.cell? ⟨bq,oq,none⟩=w.cell? ⟨bq,oq,none⟩)∧w.heap.size≤w'.heap.size∧Below w.heap.size w w')
    (exact Qo (Nat.le_refl _) (by go_grown))
    (first
    | (go_at_call 26;refine(laws_eqChange (D k).c (D k).r (D k).f (D k).t _).mono ?_;rintro e w1 ⟨rfl,hb⟩;obtain⟨hk1,hz1⟩:=Qf (B:=w.heap.size) (X:=w) (by go_grown) (by go_size) hb;clear hb))
   all_goals go_wp2_with fail
   all_goals
    go_roundw
    case rel=>exact⟨k+1,by omega,by go_num,by go_grown⟩
    case measure=>simp [intOf];omega
  ·have h1: ¬(k:Int)<(n:Int):=by omega
   go_wp2_with fail
   go_ret;exact⟨rfl,hbel⟩
theorem laws_szCellSL {A:Option Addr} {n cap:Nat} {C R:Nat→Int} {S:Nat→ByteArray} (lf:Int) (w:World) (h:ClRow w A n C R S) (hl0:0≤lf) (hl1:lf≤1048576):
  Calls Tryz.prog 5 #[.slice A n cap,.int .i64 lf] w fun e w'=> ∃z:Int,e= .returned (.int .i64 z)∧z≤1048576∧(0≤z→n≤1048576)∧Below w.heap.size w w':=by
 have HR:Hid (ClRow w A n C R S):=h;have hm:=h.1;clear h;unfold maxLen at hm;by_cases hbig:lf-(n:Int)<0
 ·go_enter Tryz.func5,Tryz.ntmps5;go_wp2_with fail
  go_ret;exact⟨-1,rfl,by omega,fun h=>by omega,by go_grown⟩
 ·go_enter Tryz.func5,Tryz.ntmps5;go_wp2_with fail
  go_loopw [1,5] (fun l i wr=> ∃(t:Nat) (z:Int),t≤n∧i= .int .i64 t∧l= .int .i64 z∧0≤z∧z≤1048576∧Below w.heap.size w wr) (fun _ i _=>n-(intOf i).toNat)
  case atStart=>exact⟨0,_,Nat.zero_le _,rfl,rfl,by omega,by omega,Below.refl _ _⟩
  case round=>
   obtain⟨t,z,ht,rfl,rfl,z0,z1,hbel⟩:=hrel;by_cases hlt:t<n
   ·obtain⟨b,o,rfl,hl,c0,c1,c2,hs⟩:=HR.out.2 t hlt;rw [←hbel.cell (p:=⟨_,_,none⟩) hl]at c0 c1 c2;have q0:(0:Int)≤(t:Int):=by omega
    have q1:(t:Int)<(n:Int):=by omega
    have HB:Hid (Below w.heap.size w wr):=hbel;clear hbel;go_wp2_with fail
    refine(MH _ _ _ _ _ hs z0 z1).mono ?_;rintro e w2 ⟨rfl,hb⟩;have HB2:=hd (Qc HB.out hb);clear hb c0 c1 c2;have HZ:Hid (szv z (S t).size≤1048576):=by show _≤_;unfold szv;split<;>omega
    by_cases hz:szv z (S t).size<0
    ·go_wp2_with fail
     go_ret;exact⟨_,rfl,by omega,fun h=>by omega,HB2.out⟩
    ·go_wp2_with fail
     go_roundw
     case rel=>exact⟨t+1,_,by omega,by go_num,rfl,by omega,HZ.out,HB2.out⟩
     case measure=>simp [intOf];omega
   ·have q1: ¬(t:Int)<(n:Int):=by omega
    go_wp2_with fail
    go_ret;exact⟨_,rfl,z1,fun h=>by omega,hbel⟩
def chMk (k:Int):CH:=⟨k,(k+1),mtx (k+1+1),mtx (k+1+1+1)⟩
theorem chL_len (x:CH):(chL x).length=4:=rfl
theorem laws_markChangeS {B n:Nat} {v:Value} {xs:List Value} (k0:Int) (w:World) (h:w.ownsRow B 47 4 v n xs) (hn:n≤1048576) (hk0:0<k0) (hk1:k0≤70368744177664):
  Calls Tryz.prog 12 #[v,.int .i64 k0] w fun e w'=>e= .returned (.int .i64 (k0+(n:Int)*4))∧w'.ownsRow B 47 4 v n (Kc chL (mkL chMk 4 k0 n))∧w.grownBy w' v.ownBlock:=by
 have HO:Hid (w.ownsRow B 47 4 v n xs):=h;obtain⟨A,cap,rfl,_,_⟩:=QP h;clear h;obtain⟨LL,HLL⟩: ∃LL,Hid (mkL chMk 4 k0 n=LL):=⟨_,rfl⟩;rw [HLL.out];go_enter Tryz.func12,Tryz.ntmps12;go_wp2_with fail
 go_loopw [1,5] (fun q i wr=> ∃t:Nat,t≤n∧i= .int .i64 t∧q= .int .i64 (k0+(t:Int)*4)∧(∃ys,wr.ownsRow B 47 4 (.slice A n cap) n ys∧ ∀j,j<t*4→ys[j]? =(Kc chL LL)[j]?)∧w.grownBy wr (Value.slice A n cap).ownBlock) (fun _ i _=>n-(intOf i).toNat)
 case atStart=>exact⟨0,Nat.zero_le _,rfl,by simp,⟨xs,HO.out,fun j hj=>by omega⟩,World.grownBy.refl _ _⟩
 case round=>
  clear HO;obtain⟨t,ht,rfl,rfl,⟨ys,hown,hys⟩,hgr⟩:=hrel;by_cases hlt:t<n
  ·obtain⟨k,HK⟩: ∃k:Int,Hid (k0+(t:Int)*4=k):=⟨_,rfl⟩;have hp0:0<k:=by have:=HK.out;omega
   have hp1:k≤70378744177664:=by have:=HK.out;omega
   have HX:Hid (∀j,j<4→(Kc chL LL)[t*4+j]? =(chL (chMk k))[j]?):=fun j hj=>by
    rw [←HLL.out,UV chL_len j hj,mkL_at _ _ _ _ _ hlt,←HK.out];rfl
   rw [HK.out]
   obtain⟨g,rfl⟩: ∃g,A=some ⟨g,0,none⟩:=by
    obtain⟨A',cap',e,_,hc⟩:=QP hown;cases e
    obtain⟨g,e,_⟩:=hc (t*4) (by omega);exact⟨g,e⟩
   have HA0:Hid (∃ys,wr.ownsRow B 47 4 (.slice (some ⟨g,0,none⟩) n cap) n ys∧(∀j,j<t*4→ys[j]? =(Kc chL LL)[j]?)∧w.grownBy wr (some g)):=⟨ys,hown,hys,hgr⟩;clear hown hys hgr;have q0:(0:Int)≤(t:Int):=by omega
   have q1:(t:Int)<(n:Int):=by omega
   obtain⟨ys0,o0,p0,r0⟩:=HA0.out;obtain⟨A',cap',e,_,hc⟩:=QP o0;cases e
   obtain⟨gg,e0,_,hg0,d0,f0⟩:=hc (t*4) (by omega);cases e0
   clear hc;have hl:=o0.1;obtain⟨x0,y0⟩: ∃x,ys0[t*4]? =some x:=⟨_,List.getElem?_eq_getElem (by omega)⟩;rw [y0]at d0;clear y0 hl
   have HP0:Hid (∃ys,((wr.setCell ⟨g,t*4,none⟩ (.int .i64 (k)))).ownsRow B 47 4 (.slice (some ⟨g,0,none⟩) n cap) n ys∧(∀j,j<t*4+1→ys[j]? =(Kc chL LL)[j]?)∧w.grownBy ((wr.setCell ⟨g,t*4,none⟩ (.int .i64 (k)))) (some g)):=by
    obtain⟨oq,gq⟩:=o0.stored (t*4) (.int .i64 (k));refine⟨_,oq,fun j hj=> ?_,XI r0 gq⟩;by_cases e:t*4=j
    ·subst e;rw [List.getElem?_set_self (by have:=o0.1;omega)];exact(HX.out 0 (by omega)).symm
    ·rw [List.getElem?_set_ne e];exact p0 j (by omega)
   clear o0 p0 r0;clear HA0;obtain⟨ys1,o1,p1,r1⟩:=HP0.out;obtain⟨A',cap',e,_,hc⟩:=QP o1;cases e
   obtain⟨gg,e1,_,hg1,d1,f1⟩:=hc (t*4+1) (by omega);cases e1
   clear hc;have hl:=o1.1;obtain⟨x1,y1⟩: ∃x,ys1[t*4+1]? =some x:=⟨_,List.getElem?_eq_getElem (by omega)⟩;rw [y1]at d1;clear y1 hl
   have HP1:Hid (∃ys,(((wr.setCell ⟨g,t*4,none⟩ (.int .i64 (k))).setCell ⟨g,t*4+1,none⟩ (.int .i64 (k+1)))).ownsRow B 47 4 (.slice (some ⟨g,0,none⟩) n cap) n ys∧(∀j,j<t*4+2→ys[j]? =(Kc chL LL)[j]?)∧w.grownBy (((wr.setCell ⟨g,t*4,none⟩ (.int .i64 (k))).setCell ⟨g,t*4+1,none⟩ (.int .i64 (k+1)))) (some g)):=by
    obtain⟨oq,gq⟩:=o1.stored (t*4+1) (.int .i64 (k+1));refine⟨_,oq,fun j hj=> ?_,XI r1 gq⟩;by_cases e:t*4+1=j
    ·subst e;rw [List.getElem?_set_self (by have:=o1.1;omega)];exact(HX.out 1 (by omega)).symm
    ·rw [List.getElem?_set_ne e];exact p1 j (by omega)
   clear o1 p1 r1;clear HP0;go_wp2_with fail
   refine(EI _ _ (by omega) (by omega)).mono ?_;rintro e w2 ⟨rfl,hb⟩
   have HB2:Hid (∃ys,w2.ownsRow B 47 4 (.slice (some ⟨g,0,none⟩) n cap) n ys∧(∀j,j<t*4+2→ys[j]? =(Kc chL LL)[j]?)∧w.grownBy w2 (some g)):=by
    obtain⟨z,o1,p1,g1⟩:=HP1.out;exact⟨z,Qp o1 hb,p1,XI g1 (Qf5 _ hb)⟩
   clear hb HP1 d0 f0 d1 f1;obtain⟨ys2,o2,p2,r2⟩:=HB2.out;obtain⟨A',cap',e,_,hc⟩:=QP o2;cases e
   obtain⟨gg,e2,_,hg2,d2,f2⟩:=hc (t*4+2) (by omega);cases e2
   clear hc;have hl:=o2.1;obtain⟨x2,y2⟩: ∃x,ys2[t*4+2]? =some x:=⟨_,List.getElem?_eq_getElem (by omega)⟩;rw [y2]at d2;clear y2 hl
   have HP2:Hid (∃ys,((w2.setCell ⟨g,t*4+2,none⟩ (.string (mtx (k+1+1))))).ownsRow B 47 4 (.slice (some ⟨g,0,none⟩) n cap) n ys∧(∀j,j<t*4+3→ys[j]? =(Kc chL LL)[j]?)∧w.grownBy ((w2.setCell ⟨g,t*4+2,none⟩ (.string (mtx (k+1+1))))) (some g)):=by
    obtain⟨oq,gq⟩:=o2.stored (t*4+2) (.string (mtx (k+1+1)));refine⟨_,oq,fun j hj=> ?_,XI r2 gq⟩;by_cases e:t*4+2=j
    ·subst e;rw [List.getElem?_set_self (by have:=o2.1;omega)];exact(HX.out 2 (by omega)).symm
    ·rw [List.getElem?_set_ne e];exact p2 j (by omega)
   clear o2 p2 r2;clear HB2;go_wp2_with fail
   refine(EI _ _ (by omega) (by omega)).mono ?_;rintro e w3 ⟨rfl,hb⟩
   have HB3:Hid (∃ys,w3.ownsRow B 47 4 (.slice (some ⟨g,0,none⟩) n cap) n ys∧(∀j,j<t*4+3→ys[j]? =(Kc chL LL)[j]?)∧w.grownBy w3 (some g)):=by
    obtain⟨z,o1,p1,g1⟩:=HP2.out;exact⟨z,Qp o1 hb,p1,XI g1 (Qf5 _ hb)⟩
   clear hb HP2 d2 f2;obtain⟨ys3,o3,p3,r3⟩:=HB3.out;obtain⟨A',cap',e,_,hc⟩:=QP o3;cases e
   obtain⟨gg,e3,_,hg3,d3,f3⟩:=hc (t*4+3) (by omega);cases e3
   clear hc;have hl:=o3.1;obtain⟨x3,y3⟩: ∃x,ys3[t*4+3]? =some x:=⟨_,List.getElem?_eq_getElem (by omega)⟩;rw [y3]at d3;clear y3 hl
   have HP3:Hid (∃ys,((w3.setCell ⟨g,t*4+3,none⟩ (.string (mtx (k+1+1+1))))).ownsRow B 47 4 (.slice (some ⟨g,0,none⟩) n cap) n ys∧(∀j,j<t*4+4→ys[j]? =(Kc chL LL)[j]?)∧w.grownBy ((w3.setCell ⟨g,t*4+3,none⟩ (.string (mtx (k+1+1+1))))) (some g)):=by
    obtain⟨oq,gq⟩:=o3.stored (t*4+3) (.string (mtx (k+1+1+1)));refine⟨_,oq,fun j hj=> ?_,XI r3 gq⟩;by_cases e:t*4+3=j
    ·subst e;rw [List.getElem?_set_self (by have:=o3.1;omega)];exact(HX.out 3 (by omega)).symm
    ·rw [List.getElem?_set_ne e];exact p3 j (by omega)
   clear o3 p3 r3;clear HB3;go_wp2_with fail
   all_goals
    go_roundw
    case rel=>
     obtain⟨z,o1,p1,g1⟩:=HP3.out;exact⟨t+1,by omega,by simp,by have:=HK.out;congr 1;omega,⟨z,o1,fun j hj=>p1 j (by omega)⟩,g1⟩
    case measure=>simp [intOf];omega
  ·have h1: ¬(t:Int)<(n:Int):=by omega
   obtain rfl:t=n:=by omega
   go_wp2_with fail
   go_ret;exact⟨rfl,by rw [Qj2 chL_len hown.1 (by rw [←HLL.out];exact Qj1 _ _ _ _) hys]at hown;exact hown,hgr⟩
theorem laws_heldChangeS {A:Option Addr} {n cap:Nat} (k0:Int) (w:World) (h:RowAt 4 chL w A (mkL chMk 4 k0 n)) (hn:n≤1048576) (hk0:0<k0) (hk1:k0≤70368744177664):
  Calls Tryz.prog 13 #[.slice A n cap,.int .i64 k0] w fun e w'=>e= .returned (.int .i64 (k0+(n:Int)*4))∧Below w.heap.size w w':=by
 have HR:Hid (RowAt 4 chL w A (mkL chMk 4 k0 n)):=h;clear h;go_enter Tryz.func13,Tryz.ntmps13;go_wp2_with fail
 go_loopw [1,5] (fun q i wr=> ∃t:Nat,t≤n∧i= .int .i64 t∧q= .int .i64 (k0+(t:Int)*4)∧Below w.heap.size w wr) (fun _ i _=>n-(intOf i).toNat)
 case atStart=>exact⟨0,Nat.zero_le _,rfl,by simp,Below.refl _ _⟩
 case round=>
  obtain⟨t,ht,rfl,rfl,hbel⟩:=hrel;by_cases hlt:t<n
  ·obtain⟨k,HK⟩: ∃k:Int,Hid (k0+(t:Int)*4=k):=⟨_,rfl⟩;have hp0:0<k:=by have:=HK.out;omega
   have hp1:k≤70378744177664:=by have:=HK.out;omega
   have hx:=mkL_at chMk 4 k0 n t hlt;have hkk:k0+(t:Int)*((4:Nat):Int)=k:=HK.out;rw [hkk]at hx;rw [HK.out];obtain⟨b,o,rfl,hl,hc⟩:=HR.out.2 t _ hx;have HC0:Hid (w.cell? ⟨b,o+t*4,none⟩=some (.int .i64 (k))):=hc 0 _ rfl;have HC1:Hid (w.cell? ⟨b,o+t*4+1,none⟩=some (.int .i64 (k+1))):=hc 1 _ rfl
   have HC2:Hid (w.cell? ⟨b,o+t*4+2,none⟩=some (.string (mtx (k+1+1)))):=hc 2 _ rfl;have HC3:Hid (w.cell? ⟨b,o+t*4+3,none⟩=some (.string (mtx (k+1+1+1)))):=hc 3 _ rfl;clear hc hx hkk;have hlw:=hbel.size;have hl2:b<wr.heap.size:=Nat.lt_of_lt_of_le hl hlw;have c0:=HC0.out;rw [←hbel.cell (p:=⟨_,_,none⟩) hl]at c0
   have c1:=HC1.out;rw [←hbel.cell (p:=⟨_,_,none⟩) hl]at c1;have c2:=HC2.out;rw [←hbel.cell (p:=⟨_,_,none⟩) hl]at c2;have c3:=HC3.out;rw [←hbel.cell (p:=⟨_,_,none⟩) hl]at c3;have q0:(0:Int)≤(t:Int):=by omega
   have q1:(t:Int)<(n:Int):=by omega
   have HB:Hid (Below w.heap.size w wr):=hbel;clear hbel;go_wp2_with fail
   go_region_held3 (fun w'=>(∀bq oq,bq<wr.heap.size→w'.cell? ⟨bq,oq,none⟩=wr.cell? ⟨bq,oq,none⟩)∧wr.heap.size≤w'.heap.size∧Below wr.heap.size wr w')
    (exact Qo (Nat.le_refl _) (by go_grown))
    (first
    | (go_at_call 28;refine(EI _ _ (by omega) (by omega)).mono ?_;rintro e v0 ⟨rfl,hb⟩;obtain⟨hk0,hz0⟩:=Qf (B:=wr.heap.size) (X:=wr) (by go_grown) (by go_size) hb;have hW0: ∀b o,b<wr.heap.size→v0.cell? ⟨b,o,none⟩=wr.cell? ⟨b,o,none⟩:=(fun b o h=>hk0.cell (p:=⟨b,o,none⟩) h);clear hb))
   all_goals go_wp2_with fail
   all_goals
    go_region_held3 (fun w'=>(∀bq oq,bq<wr.heap.size→w'.cell? ⟨bq,oq,none⟩=wr.cell? ⟨bq,oq,none⟩)∧wr.heap.size≤w'.heap.size∧Below wr.heap.size wr w')
     (exact Qo (Nat.le_refl _) (by go_grown))
     (first
     | (go_at_call 28;refine(EI _ _ (by omega) (by omega)).mono ?_;rintro e v1 ⟨rfl,hb⟩;obtain⟨hk1,hz1⟩:=Qf (B:=wr.heap.size) (X:=wr) (by go_grown) (by go_size) hb;have hW1: ∀b o,b<wr.heap.size→v1.cell? ⟨b,o,none⟩=wr.cell? ⟨b,o,none⟩:=(fun b o h=>hk1.cell (p:=⟨b,o,none⟩) h);clear hb))
   all_goals go_wp2_with fail
   all_goals
    go_roundw
    case rel=>exact⟨t+1,by omega,by simp,by have:=HK.out;congr 1;omega,Qc HB.out (by go_grown)⟩
    case measure=>simp [intOf];omega
  ·have h1: ¬(t:Int)<(n:Int):=by omega
   obtain rfl:t=n:=by omega
   go_wp2_with fail
   go_ret;exact⟨rfl,hbel⟩
end Go.Proofs.YtkdhmdllnaogcaaGreatDoor
namespace Go.Proofs.YtkdhmdllnaogcaaGreatDoor
open Go.RowKit Go.Maps
def atC (p q:Int) (E:List CL):ByteArray:=((E.find? (fun y=>decide (y.c=p∧y.r=q))).map CL.s).getD ⟨#[]⟩
theorem CmD.perm {D:DataW Value} {E L:List CL} (h:CmD D E) (hp:E.Perm L):CmD D L where
 nd:=(hp.pairwise_iff (fun{x y} (h:x.key≠y.key) e=>h e.symm)).1 h.nd
 into x hx:=h.into x (hp.mem_iff.2 hx)
 back kl hk:=by
  obtain⟨x,hx,e⟩:=h.back kl hk;exact⟨x,hp.mem_iff.1 hx,e⟩
theorem CmD.look {D:DataW Value} {E:List CL} (h:CmD D E) {p q:Int} {kl:Lit} (hk:keyOf Tryz.prog 45 (.agg #[.int .i64 p,.int .i64 q])=some kl):
  ∃c r,D.atKey kl (.held (.agg #[.int .i64 0,.int .i64 0,.string ⟨#[]⟩]))= .held (.agg #[.int .i64 c,.int .i64 r,.string (atC p q E)]):=by
 unfold atC;cases hf:E.find? (fun y=>decide (y.c=p∧y.r=q))with
 | none=>
  refine⟨0,0,?_⟩
  have hno:Maps.has D kl=false:=by
   cases hh:Maps.has D kl with
   | false=>rfl
   | true=>
    obtain⟨x,hx,hkx⟩:=h.back kl hh;have e:=keyedRef.inj hkx hk;have h9:=List.find?_eq_none.1 hf x hx;exact absurd (decide_eq_true (by simpa [CL.key]using e)) h9
  rw [atKey_of_not_has hno];rfl
 | some x=>
  have hx:=List.mem_of_find?_eq_some hf;have hm9:=List.find?_some hf;have hm:x.c=p∧x.r=q:=of_decide_eq_true hm9;obtain⟨k2,hk2,hat⟩:=h.into x hx;have h2:x.key= .agg #[.int .i64 p,.int .i64 q]:=by simp [CL.key,hm.1,hm.2]
  rw [h2,hk]at hk2;cases hk2
  exact⟨x.c,x.r,hat _⟩
def paSt (E:List CL) (x:CH):Option (List CL):=if(Qj x.c x.r&&GP x.t&&((atC x.c x.r E).toList==x.f.toList))=true then some (setC ⟨x.c,x.r,x.t⟩ E)else none
def paRun (D:Nat→CH) (E:List CL):Nat→Option (List CL)
 | 0=>some E
 | k+1=>(paRun D E k).bind (fun L=>paSt L (D k))
theorem paRun_yes {D:Nat→CH} {E L:List CL} {t:Nat} (h:paRun D E t=some L):paRun D E (t+1)=paSt L (D t):=by rw [paRun,h];rfl
theorem own_lim {s:ByteArray} (h:GP s=true):inF s=some s∧s.size≤200:=by
 unfold GP at h;cases hi:inF s with
 | none=>rw [hi]at h;cases h
 | some t=>
  rw [hi]at h;obtain rfl:t=s:=Qgu h;exact⟨rfl,in_lim hi⟩
structure PaI (n t:Nat) (L:List CL):Prop where
 rise:L.Pairwise (fun a b=>ltC a b=true)
 len:L.length≤n+t
 sz: ∀x∈L,x.s.size≤maxLen
theorem setC_mem {x:CL} {E:List CL} {y:CL} (h:y∈setC x E):y∈E∨y=x:=by
 have h9:=(setC_perm x E).mem_iff.1 h;split at h9
 ·exact .inl (offP_mem.1 h9).1
 ·rcases List.mem_append.1 h9 with h9 | h9
  ·exact .inl (offP_mem.1 h9).1
  ·exact .inr (List.mem_singleton.1 h9)
theorem setC_len (x:CL) (E:List CL):(setC x E).length≤E.length+1:=by
 rw [(setC_perm x E).length_eq];have h9:(offP x.c x.r E).length≤E.length:=List.length_filter_le _ _;split
 ·omega
 ·simp;omega
theorem PaI.step {n t:Nat} {L L':List CL} {x:CH} (h:PaI n t L) (hs:paSt L x=some L'):PaI n (t+1) L':=by
 unfold paSt at hs;split at hs
 ·rename_i h9
  cases hs
  simp only [Bool.and_eq_true]at h9;refine⟨setC_rise h.rise,?_,fun y hy=> ?_⟩
  ·have:=setC_len ⟨x.c,x.r,x.t⟩ L;have:=h.len;omega
  ·rcases setC_mem hy with hy | rfl
   ·exact h.sz y hy
   ·have:=(own_lim h9.1.2).2;unfold maxLen;show x.t.size≤_;omega
 ·cases hs
theorem PaI.start {C R : Nat → Int} {S : Nat → ByteArray} {n : Nat} (h : Yg C R S n = true) (hs : ∀ i, i < n → (S i).size ≤ maxLen) : PaI n 0 (clE C R S n) :=
  ⟨(cl_rise h).2.2, by rw [clE_len]; omega, fun y hy => by
    obtain ⟨i, hi, rfl⟩ := List.mem_map.1 hy
    exact hs i (List.mem_range.1 hi)⟩
theorem PaI.run {D:Nat→CH} {n:Nat} {E:List CL} (h0:PaI n 0 E): ∀(t:Nat) {L:List CL},paRun D E t=some L→PaI n t L
 | 0,L,h=>by cases h;exact h0
 | t+1,L,h=>by
  cases hp:paRun D E t with
  | none=>rw [paRun,hp]at h;cases h
  | some L0=>
   rw [paRun_yes hp]at h;exact(PaI.run h0 t hp).step h
end Go.Proofs.YtkdhmdllnaogcaaGreatDoor
namespace Go.Proofs.YtkdhmdllnaogcaaGreatDoor
open Go.RowKit
section
variable {P:Program} {ops:Array Oper} {rest:List Oper} {o:Oper} {a:Act} {Q:Exit→Act→World→Prop}
end
theorem bdrN {n:Nat} {w W:World} (h:Below n w W) (k:Nat):Below n w (W.drewN k):=by
 induction k with
 | zero=>exact h
 | succ k ih=>first | exact ih.drew | (rw [World.drewN_succ];exact ih.drew)
theorem cl_src {C R:Nat→Int} {S:Nat→ByteArray} {n:Nat} (h:Yg C R S n=true): ∀i,i<n→(S i).toList.isEmpty=false:=fun i hi=>by
 unfold Yg at h;simp only [Bool.and_eq_true,List.all_eq_true]at h;have h9:=h.2 i (List.mem_range.2 hi);unfold Yk at h9;simp only [Bool.and_eq_true,Bool.not_eq_true']at h9;exact h9.1
end Go.Proofs.YtkdhmdllnaogcaaGreatDoor
namespace Go.Proofs.YtkdhmdllnaogcaaGreatDoor
open Go.RowKit Go.Maps
theorem sorted_ext {α:Type} {r:α→α→Prop} (irr: ∀x y,r x y→r y x→False): ∀{l1 l2:List α},l1.Pairwise r→l2.Pairwise r→(∀x,x∈l1↔x∈l2)→l1=l2
 | [],[],_,_,_=>rfl
 | [],y::l2,_,_,h=>absurd ((h y).2 (by simp)) (by simp)
 | x::l1,[],_,_,h=>absurd ((h x).1 (by simp)) (by simp)
 | x::l1,y::l2,h1,h2,h=>by
  obtain⟨a1,b1⟩:=List.pairwise_cons.1 h1;obtain⟨a2,b2⟩:=List.pairwise_cons.1 h2
  have e:x=y:=by
   rcases List.mem_cons.1 ((h x).1 (by simp))with e | e
   ·exact e
   ·rcases List.mem_cons.1 ((h y).2 (by simp))with e2 | e2
    ·exact e2.symm
    ·exact(irr _ _ (a2 x e) (a1 y e2)).elim
  subst e;congr 1
  refine sorted_ext irr b1 b2 (fun z=>⟨fun hz=> ?_,fun hz=> ?_⟩)
  ·rcases List.mem_cons.1 ((h z).1 (by simp [hz]))with e | e
   ·subst e;exact(irr _ _ (a1 z hz) (a1 z hz)).elim
   ·exact e
  ·rcases List.mem_cons.1 ((h z).2 (by simp [hz]))with e | e
   ·subst e;exact(irr _ _ (a2 z hz) (a2 z hz)).elim
   ·exact e
theorem atC_cons (p q:Int) (x:CL) (a:List CL):atC p q (x::a)=if x.c=p∧x.r=q then x.s else atC p q a:=by
 unfold atC;rw [List.find?_cons];by_cases h:x.c=p∧x.r=q<;>simp [h]
theorem atC_none {p q:Int} {a:List CL} (h: ∀x∈a,¬(x.c=p∧x.r=q)):atC p q a=⟨#[]⟩:=by
 unfold atC;rw [List.find?_eq_none.2 (fun x hx=>by simpa using h x hx)];rfl
def hasP (p q:Int) (a:List CL):Prop:= ∃x∈a,x.c=p∧x.r=q
theorem hasP_cons {p q:Int} {x:CL} {a:List CL}:hasP p q (x::a)↔(x.c=p∧x.r=q)∨hasP p q a:=by
 unfold hasP;constructor
 ·rintro⟨y,hy,h⟩;rcases List.mem_cons.1 hy with rfl | hy
  ·exact .inl h
  ·exact .inr ⟨y,hy,h⟩
 ·rintro(h | ⟨y,hy,h⟩)
  ·exact⟨x,by simp,h⟩
  ·exact⟨y,by simp [hy],h⟩
theorem atC_no' {p q:Int} {a:List CL} (h: ¬hasP p q a):atC p q a=⟨#[]⟩:=atC_none (fun x hx e=>h ⟨x,hx,e⟩)
theorem hasP_gt {p q:Int} {x:CL} {a:List CL} (h: ∀y∈a,ltC x y=true) (hp:hasP p q a):XA x.c x.r p q=true:=by
 obtain⟨y,hy,e1,e2⟩:=hp;have:=h y hy;rw [ltC,e1,e2]at this;exact this
def dfM:List CL→List CL→List CH
 | [],[]=> []
 | x::a,[]=>⟨x.c,x.r,x.s,⟨#[]⟩⟩::dfM a []
 | [],y::b=>⟨y.c,y.r,⟨#[]⟩,y.s⟩::dfM [] b
 | x::a,y::b=>if ltC x y=true then⟨x.c,x.r,x.s,⟨#[]⟩⟩::dfM a (y::b)else if ltC y x=true then⟨y.c,y.r,⟨#[]⟩,y.s⟩::dfM (x::a) b else⟨x.c,x.r,x.s,y.s⟩::dfM a b
 termination_by a b=>a.length+b.length
def inM (a b:List CL) (z:CH):Prop:=(hasP z.c z.r a∨hasP z.c z.r b)∧z.f=atC z.c z.r a∧z.t=atC z.c z.r b
theorem ahead_irr {p q p' q':Int} (h:XA p q p' q'=true): ¬(p=p'∧q=q'):=fun e=>by
 have:=of_decide_eq_true h;omega
theorem ahead_asy {p q p' q':Int} (h:XA p q p' q'=true) (h':XA p' q' p q=true):False:=by
 have:=of_decide_eq_true h;have:=of_decide_eq_true h';omega
theorem ahead_tr {p q p' q' p2 q2:Int} (h:XA p q p' q'=true) (h':XA p' q' p2 q2=true):XA p q p2 q2=true:=by
 have:=of_decide_eq_true h;have:=of_decide_eq_true h';exact decide_eq_true (by omega)
theorem ahead_tri {p q p' q':Int} (h:XA p q p' q'=false) (h':XA p' q' p q=false):p=p'∧q=q':=by
 have:=of_decide_eq_false h;have:=of_decide_eq_false h';omega
theorem inM_left {x:CL} {a b:List CL} (ha: ∀y∈a,ltC x y=true) (hb: ∀y∈b,ltC x y=true) (z:CH):inM (x::a) b z↔z=⟨x.c,x.r,x.s,⟨#[]⟩⟩∨inM a b z:=by
 obtain⟨zc,zr,zf,zt⟩:=z;unfold inM;simp only [atC_cons,hasP_cons,CH.mk.injEq];by_cases h:x.c=zc∧x.r=zr
 ·have n1: ¬hasP zc zr a:=fun hp=>ahead_irr (hasP_gt ha hp) h;have n2: ¬hasP zc zr b:=fun hp=>ahead_irr (hasP_gt hb hp) h;rw [if_pos h,atC_no' n2];constructor
  ·rintro⟨_,e1,e2⟩;exact .inl ⟨h.1.symm,h.2.symm,e1,e2⟩
  ·rintro(⟨_,_,e1,e2⟩ | ⟨h9,_⟩)
   ·exact⟨.inl (.inl h),e1,e2⟩
   ·rcases h9 with h9 | h9
    ·exact(n1 h9).elim
    ·exact(n2 h9).elim
 ·rw [if_neg h];constructor
  ·rintro⟨h9,e⟩;refine .inr ⟨?_,e⟩;rcases h9 with(h9 | h9) | h9
   ·exact(h h9).elim
   ·exact .inl h9
   ·exact .inr h9
  ·rintro(⟨e1,e2,_⟩ | ⟨h9,e⟩)
   ·exact(h ⟨e1.symm,e2.symm⟩).elim
   ·refine⟨?_,e⟩;rcases h9 with h9 | h9
    ·exact .inl (.inr h9)
    ·exact .inr h9
theorem inM_right {y:CL} {a b:List CL} (ha: ∀x∈a,ltC y x=true) (hb: ∀x∈b,ltC y x=true) (z:CH):inM a (y::b) z↔z=⟨y.c,y.r,⟨#[]⟩,y.s⟩∨inM a b z:=by
 obtain⟨zc,zr,zf,zt⟩:=z;unfold inM;simp only [atC_cons,hasP_cons,CH.mk.injEq];by_cases h:y.c=zc∧y.r=zr
 ·have n1: ¬hasP zc zr a:=fun hp=>ahead_irr (hasP_gt ha hp) h;have n2: ¬hasP zc zr b:=fun hp=>ahead_irr (hasP_gt hb hp) h;rw [if_pos h,atC_no' n1];constructor
  ·rintro⟨_,e1,e2⟩;exact .inl ⟨h.1.symm,h.2.symm,e1,e2⟩
  ·rintro(⟨_,_,e1,e2⟩ | ⟨h9,_⟩)
   ·exact⟨.inr (.inl h),e1,e2⟩
   ·rcases h9 with h9 | h9
    ·exact(n1 h9).elim
    ·exact(n2 h9).elim
 ·rw [if_neg h];constructor
  ·rintro⟨h9,e⟩;refine .inr ⟨?_,e⟩;rcases h9 with h9 | (h9 | h9)
   ·exact .inl h9
   ·exact(h h9).elim
   ·exact .inr h9
  ·rintro(⟨e1,e2,_⟩ | ⟨h9,e⟩)
   ·exact(h ⟨e1.symm,e2.symm⟩).elim
   ·refine⟨?_,e⟩;rcases h9 with h9 | h9
    ·exact .inl h9
    ·exact .inr (.inr h9)
theorem inM_both {x y:CL} {a b:List CL} (e0:x.c=y.c∧x.r=y.r) (ha: ∀u∈a,ltC x u=true) (hb: ∀u∈b,ltC y u=true) (z:CH):inM (x::a) (y::b) z↔z=⟨x.c,x.r,x.s,y.s⟩∨inM a b z:=by
 obtain⟨zc,zr,zf,zt⟩:=z;unfold inM;simp only [atC_cons,hasP_cons,CH.mk.injEq,←e0.1,←e0.2];by_cases h:x.c=zc∧x.r=zr
 ·have n1: ¬hasP zc zr a:=fun hp=>ahead_irr (hasP_gt ha hp) h;have n2: ¬hasP zc zr b:=fun hp=>ahead_irr (hasP_gt hb hp) (by rw [←e0.1,←e0.2];exact h);rw [if_pos h,if_pos h];constructor
  ·rintro⟨_,e1,e2⟩;exact .inl ⟨h.1.symm,h.2.symm,e1,e2⟩
  ·rintro(⟨_,_,e1,e2⟩ | ⟨h9,_⟩)
   ·exact⟨.inl (.inl h),e1,e2⟩
   ·rcases h9 with h9 | h9
    ·exact(n1 h9).elim
    ·exact(n2 h9).elim
 ·rw [if_neg h,if_neg h];constructor
  ·rintro⟨h9,e⟩;refine .inr ⟨?_,e⟩;rcases h9 with(h9 | h9) | (h9 | h9)
   ·exact(h h9).elim
   ·exact .inl h9
   ·exact(h h9).elim
   ·exact .inr h9
  ·rintro(⟨e1,e2,_⟩ | ⟨h9,e⟩)
   ·exact(h ⟨e1.symm,e2.symm⟩).elim
   ·refine⟨?_,e⟩;rcases h9 with h9 | h9
    ·exact .inl (.inr h9)
    ·exact .inr (.inr h9)
abbrev ltH (z z':CH):Prop:=XA z.c z.r z'.c z'.r=true
theorem inM_place {a b:List CL} {z:CH} {x:CL} (h:inM a b z) (ha: ∀y∈a,ltC x y=true) (hb: ∀y∈b,ltC x y=true):XA x.c x.r z.c z.r=true:=by
 rcases h.1 with h | h
 ·exact hasP_gt ha h
 ·exact hasP_gt hb h
abbrev upC (a:List CL):Prop:=a.Pairwise (fun x y=>ltC x y=true)
theorem ltC_tr {x y z:CL} (h:ltC x y=true) (h':ltC y z=true):ltC x z=true:=ahead_tr h h'
theorem dfM_all: ∀(a b:List CL),upC a→upC b→(∀z,z∈dfM a b↔inM a b z)∧(dfM a b).Pairwise ltH
 | [],[],_,_=>by
  rw [dfM];refine⟨fun z=>⟨fun h=>(by cases h),fun h=> ?_⟩,List.Pairwise.nil⟩;rcases h.1 with⟨_,h,_⟩ | ⟨_,h,_⟩<;>cases h
 | x::a,[],ha,hb=>by
  obtain⟨h1,h2⟩:=List.pairwise_cons.1 ha;obtain⟨ih,ip⟩:=dfM_all a [] h2 hb;rw [dfM];refine⟨fun z=> ?_,List.pairwise_cons.2 ⟨fun z hz=>inM_place ((ih z).1 hz) h1 (by simp),ip⟩⟩;rw [List.mem_cons,ih,inM_left h1 (by simp)]
 | [],y::b,ha,hb=>by
  obtain⟨h1,h2⟩:=List.pairwise_cons.1 hb;obtain⟨ih,ip⟩:=dfM_all [] b ha h2;rw [dfM];refine⟨fun z=> ?_,List.pairwise_cons.2 ⟨fun z hz=>inM_place ((ih z).1 hz) (by simp) h1,ip⟩⟩;rw [List.mem_cons,ih,inM_right (by simp) h1]
 | x::a,y::b,ha,hb=>by
  obtain⟨h1,h2⟩:=List.pairwise_cons.1 ha;obtain⟨h3,h4⟩:=List.pairwise_cons.1 hb;rw [dfM];by_cases e1:ltC x y=true
  ·rw [if_pos e1]
   have h5: ∀u∈y::b,ltC x u=true:=fun u hu=>by
    rcases List.mem_cons.1 hu with rfl | hu
    ·exact e1
    ·exact ltC_tr e1 (h3 u hu)
   obtain⟨ih,ip⟩:=dfM_all a (y::b) h2 hb;refine⟨fun z=> ?_,List.pairwise_cons.2 ⟨fun z hz=>inM_place ((ih z).1 hz) h1 h5,ip⟩⟩;rw [List.mem_cons,ih,inM_left h1 h5]
  ·rw [if_neg e1];by_cases e2:ltC y x=true
   ·rw [if_pos e2]
    have h5: ∀u∈x::a,ltC y u=true:=fun u hu=>by
     rcases List.mem_cons.1 hu with rfl | hu
     ·exact e2
     ·exact ltC_tr e2 (h1 u hu)
    obtain⟨ih,ip⟩:=dfM_all (x::a) b ha h4;refine⟨fun z=> ?_,List.pairwise_cons.2 ⟨fun z hz=>inM_place ((ih z).1 hz) h5 h3,ip⟩⟩;rw [List.mem_cons,ih,inM_right h5 h3]
   ·rw [if_neg e2];have e0:=ahead_tri (Bool.eq_false_iff.2 e1) (Bool.eq_false_iff.2 e2)
    have h6: ∀u∈b,ltC x u=true:=fun u hu=>by
     have:=h3 u hu;unfold ltC at this ⊢;rw [e0.1,e0.2];exact this
    obtain⟨ih,ip⟩:=dfM_all a b h2 h4;refine⟨fun z=> ?_,List.pairwise_cons.2 ⟨fun z hz=>inM_place ((ih z).1 hz) h1 h6,ip⟩⟩;rw [List.mem_cons,ih,inM_both e0 h1 h3]
 termination_by a b=>a.length+b.length
theorem dfM_by {a b M:List CL} (ha:upC a) (hb:upC b) (hM:upC M) (hm: ∀p q,hasP p q M↔hasP p q a∨hasP p q b):dfM a b=M.map (fun m=>⟨m.c,m.r,atC m.c m.r a,atC m.c m.r b⟩):=by
 obtain⟨h1,h2⟩:=dfM_all a b ha hb;refine sorted_ext (fun x y=>ahead_asy) h2 ?_ (fun z=> ?_)
 ·rw [List.pairwise_map];exact hM
 ·rw [h1,List.mem_map];constructor
  ·rintro⟨h,e1,e2⟩;obtain⟨m,hm9,e3,e4⟩:=(hm z.c z.r).2 h;refine⟨m,hm9,?_⟩;obtain⟨zc,zr,zf,zt⟩:=z;simp only at e1 e2 e3 e4;subst e3 e4 e1 e2;rfl
  ·rintro⟨m,hm9,rfl⟩;exact⟨(hm _ _).1 ⟨m,hm9,rfl,rfl⟩,rfl,rfl⟩
def neH (z:CH):Bool:= !(z.f.toList==z.t.toList)
def dfL (a b:List CL):List CH:=(dfM a b).filter neH
end Go.Proofs.YtkdhmdllnaogcaaGreatDoor
