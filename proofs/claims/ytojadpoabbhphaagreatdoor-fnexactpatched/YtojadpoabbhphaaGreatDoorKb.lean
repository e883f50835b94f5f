import Derived.Test.YtojadpoabbhphaaGreatDoorMn
import Derived.Test.YtojadpoabbhphaaGreatDoorGze
import Derived.Test.YtojadpoabbhphaaGreatDoorJa
import Derived.Test.YtojadpoabbhphaaGreatDoorGbf
import Derived.Test.YtojadpoabbhphaaGreatDoorGbg
import Derived.Test.YtojadpoabbhphaaGreatDoorGzj
import Derived.Test.YtojadpoabbhphaaGreatDoorGaa
set_option linter.unusedSimpArgs false
set_option linter.unusedVariables false
set_option maxHeartbeats 4000000
set_option maxRecDepth 100000
namespace Go.Proofs.YtojadpoabbhphaaGreatDoor
open Go.RowKit
theorem impl_isOwnSource (s:ByteArray) (w:World) (hs:s.size≤maxLen) (hg:GI w):Calls Tryz.prog 36 #[.string s] w fun e w'=>e= .returned (.bool (Qf5 s))∧Below w.heap.size w w':=by
 have HG:Hid (GI w):=hg;clear hg;cases ho:inF s with
 | none=>
  have HO:Hid (inF s=none):=ho;have HB:Hid (Qf5 s=false):=by show _=_;unfold Qf5;rw [ho]
  clear ho;go_enter Tryz.func36,Tryz.ntmps36;go_wp2_with fail
  refine(Qc5 s w hs HG.out).mono ?_;rintro e u1 ⟨he,hb⟩;rw [HO.out]at he;obtain rfl:e= .returned (.tuple #[.string ⟨#[]⟩,.bool false]):=he;go_wp2_with fail
  go_ret;exact⟨Qa HB.out.symm,hb⟩
 | some t=>
  have HO:Hid (inF s=some t):=ho;have HB:Hid (Qf5 s=(t.toList==s.toList)):=by show _=_;unfold Qf5;rw [ho]
  clear ho;go_enter Tryz.func36,Tryz.ntmps36;go_wp2_with fail
  refine(Qc5 s w hs HG.out).mono ?_;rintro e u1 ⟨he,hb⟩;rw [HO.out]at he;obtain rfl:e= .returned (.tuple #[.string t,.bool true]):=he;go_wp2_with fail
  go_ret;exact⟨Qa HB.out.symm,hb⟩
theorem impl_SheetOk {A:Option Addr} {n cap:Nat} {C R:Nat→Int} {S:Nat→ByteArray} (w:World) (h:ClRow w A n C R S) (hg:GI w):
  Calls Tryz.prog 26 #[.slice A n cap] w fun e w'=>e= .returned (.bool (YO C R S n))∧Below w.heap.size w w':=by
 have HR:Hid (ClRow w A n C R S):=h;have HG:Hid (GI w):=hg;have hn:=h.1;unfold maxLen at hn;clear h hg;by_cases hbig:(120:Int)<(n:Int)
 ·have HF:Hid (YO C R S n=false):=Qbm (by omega);go_enter Tryz.func26,Tryz.ntmps26;go_wp2_with fail
  go_ret;exact⟨Qa HF.out.symm,by go_grown⟩
 cases hrs:Md C R n
 ·have HRS:Hid (Md C R n=false):=hrs;have HF:Hid (YO C R S n=false):=Ub hrs;clear hrs;go_enter Tryz.func26,Tryz.ntmps26;go_wp2_with (go_at_call 48;refine(NF _ HR.out).mono ?_;rintro e w1 ⟨rfl,hb⟩;rw [HRS.out])
  go_ret;exact⟨Qa HF.out.symm,by go_grown⟩
 have HRS:Hid (Md C R n=true):=hrs;clear hrs;go_enter Tryz.func26,Tryz.ntmps26;go_wp2_with fail
 refine(NF _ HR.out).mono ?_;rintro e w1 ⟨rfl,hb1⟩;rw [HRS.out];go_wp2_with fail
 go_loopw [15] (fun i wr=> ∃k:Nat,k≤n∧i= .int .i64 k∧(∀i,i<k→Xn S i=true)∧Below w.heap.size w wr) (fun i _=>n-(intOf i).toNat)
 case atStart=>exact⟨0,Nat.zero_le _,rfl,fun i hi=>by omega,hb1⟩
 case round=>
  clear hb1;obtain⟨k,hk,rfl,hr,hbel⟩:=hrel;have HI:Hid (∀i,i<k→Xn S i=true):=hr;clear hr;by_cases hlt:k<n
  ·obtain⟨b,o,rfl,hl,c0,c1,c2,hsz⟩:=HR.out.2 k hlt;have HS:Hid ((S k).size≤maxLen):=hsz;clear hsz;have hs:=hbel.size;have HGr:=hd (HG.out.below hbel);rw [←hbel.cell (p:=⟨_,_,none⟩) hl]at c0 c1 c2;have hl2:b<wr.heap.size:=Nat.lt_of_lt_of_le hl hs
   have h0:(0:Int)≤(k:Int):=by omega
   have h1:(k:Int)<(n:Int):=by omega
   cases he:(S k).toList.isEmpty
   ·cases hv:Qf5 (S k)
    ·have HV:Hid (Qf5 (S k)=false):=hv;have HF:Hid (YO C R S n=false):=Hp hlt (by simp [Xn,hv]);clear hv;go_wp2_with (go_at_call 36;refine(impl_isOwnSource _ _ HS.out (HGr.out.below (by go_grown))).mono ?_;rintro e w2 ⟨rfl,hb⟩;rw [HV.out];have hk1:=Qd (w:=wr) (by go_grown) hb;clear hb)
     go_ret;exact⟨Qa HF.out.symm,Qd hbel (by go_grown)⟩
    ·have HV:Hid (Qf5 (S k)=true):=hv;have HT:Hid (Xn S k=true):=by show _=_;simp [Xn,hv,he]
     clear hv;go_wp2_with (go_at_call 36;refine(impl_isOwnSource _ _ HS.out (HGr.out.below (by go_grown))).mono ?_;rintro e w2 ⟨rfl,hb⟩;rw [HV.out];have hk1:=Qd (w:=wr) (by go_grown) hb;clear hb)
     go_roundw
     case rel=>exact⟨k+1,by omega,by go_num,fun i hi=>by
      by_cases e:i=k
      ·subst e;exact HT.out
      ·exact HI.out i (by omega),Qd hbel (by go_grown)⟩
     case measure=>simp [intOf];omega
   ·have HF:Hid (YO C R S n=false):=Hp hlt (by simp [Xn,he]);go_wp2_with fail
    go_ret;exact⟨Qa HF.out.symm,Qd hbel (by go_grown)⟩
  ·have h1: ¬(k:Int)<(n:Int):=by omega
   obtain rfl:k=n:=by omega
   go_wp2_with fail
   go_ret;exact⟨Qa (Qbl (by omega) HRS.out (Ht HI.out)).symm,hbel⟩
end Go.Proofs.YtojadpoabbhphaaGreatDoor
namespace Go.Proofs.YtojadpoabbhphaaGreatDoor
open Go.RowKit Go.Maps
def EnR (B:Nat) (w':World) (r:Option (List CL)) (e:Ending):Prop:=match r with
 | some L=> ∃A c m,e= .returned (.tuple #[.slice A m c,.bool true])∧L.length=m∧w'.ownsRow B 52 3 (.slice A m c) m (VU CL.cs L)
 | none=>e= .returned (.tuple #[.slice none 0 0,.bool false])
theorem key_refok {p q:Int} (h:Qj p q=true): ∃l,keyOf Tryz.prog 30 (.agg #[.int .i64 p,.int .i64 q])=some l:=by
 simp only [Qj,decide_eq_true_eq]at h;exact Qe4 p q (MJ (by omega) (by omega)) (MJ (by omega) (by omega))
theorem clE_apart {C R:Nat→Int} {S:Nat→ByteArray} {n:Nat} (h:(clE C R S n).Pairwise (fun a b=>ltC a b=true)): ∀i j,i<j→j<n→ ¬(C i=C j∧R i=R j):=fun i j hij hj e=>by
 have h9:=List.pairwise_iff_getElem.1 h i j (by rw [clE_len];omega) (by rw [clE_len];exact hj) hij;simp only [clE,List.getElem_map,List.getElem_range]at h9;have h8:=of_decide_eq_true h9;simp only at h8;omega
end Go.Proofs.YtojadpoabbhphaaGreatDoor
namespace Go.Proofs.YtojadpoabbhphaaGreatDoor
open Go.RowKit
structure CE where
 c:Int
 r:Int
 s:ByteArray
def ceL (x:CE):List Value:= [.int .i64 x.c,.int .i64 x.r,.string x.s]
theorem ceL_len (x:CE):(ceL x).length=3:=rfl
abbrev CeRow (W:World) (A:Option Addr) (L:List CE):Prop:=RowAt 3 ceL W A L
def ceMk (k:Int):CE:=⟨k,(k+1),mtx (k+1+1)⟩
theorem laws_markCellS {B n:Nat} {v:Value} {xs:List Value} (k0:Int) (w:World) (h:w.ownsRow B 52 3 v n xs) (hn:n≤1048576) (hk0:0<k0) (hk1:k0≤70368744177664):
  Calls Tryz.prog 11 #[v,.int .i64 k0] w fun e w'=>e= .returned (.int .i64 (k0+(n:Int)*3))∧w'.ownsRow B 52 3 v n (VU ceL (mkL ceMk 3 k0 n))∧w.grownBy w' v.ownBlock:=by
 have HO:Hid (w.ownsRow B 52 3 v n xs):=h;obtain⟨A,cap,rfl,_,_⟩:=QP h;clear h;obtain⟨LL,HLL⟩: ∃LL,Hid (mkL ceMk 3 k0 n=LL):=⟨_,rfl⟩;rw [HLL.out];go_enter Tryz.func11,Tryz.ntmps11;go_wp2_with fail
 go_loopw [1,5] (fun q i wr=> ∃t:Nat,t≤n∧i= .int .i64 t∧q= .int .i64 (k0+(t:Int)*3)∧(∃ys,wr.ownsRow B 52 3 (.slice A n cap) n ys∧ ∀j,j<t*3→ys[j]? =(VU ceL LL)[j]?)∧w.grownBy wr (Value.slice A n cap).ownBlock) (fun _ i _=>n-(intOf i).toNat)
 case atStart=>exact⟨0,Nat.zero_le _,rfl,by simp,⟨xs,HO.out,fun j hj=>by omega⟩,World.grownBy.refl _ _⟩
 case round=>
  clear HO;obtain⟨t,ht,rfl,rfl,⟨ys,hown,hys⟩,hgr⟩:=hrel;by_cases hlt:t<n
  ·obtain⟨k,HK⟩: ∃k:Int,Hid (k0+(t:Int)*3=k):=⟨_,rfl⟩;have hp0:0<k:=by have:=HK.out;omega
   have hp1:k≤70378744177664:=by have:=HK.out;omega
   have HX:Hid (∀j,j<3→(VU ceL LL)[t*3+j]? =(ceL (ceMk k))[j]?):=fun j hj=>by
    rw [←HLL.out,UN ceL_len j hj,mkL_at _ _ _ _ _ hlt,←HK.out];rfl
   rw [HK.out]
   obtain⟨g,rfl⟩: ∃g,A=some ⟨g,0,none⟩:=by
    obtain⟨A',cap',e,_,hc⟩:=QP hown;cases e
    obtain⟨g,e,_⟩:=hc (t*3) (by omega);exact⟨g,e⟩
   have HA0:Hid (∃ys,wr.ownsRow B 52 3 (.slice (some ⟨g,0,none⟩) n cap) n ys∧(∀j,j<t*3→ys[j]? =(VU ceL LL)[j]?)∧w.grownBy wr (some g)):=⟨ys,hown,hys,hgr⟩;clear hown hys hgr;have q0:(0:Int)≤(t:Int):=by omega
   have q1:(t:Int)<(n:Int):=by omega
   obtain⟨ys0,o0,p0,r0⟩:=HA0.out;obtain⟨A',cap',e,_,hc⟩:=QP o0;cases e
   obtain⟨gg,e0,_,hg0,d0,f0⟩:=hc (t*3) (by omega);cases e0
   clear hc;have hl:=o0.1;obtain⟨x0,y0⟩: ∃x,ys0[t*3]? =some x:=⟨_,List.getElem?_eq_getElem (by omega)⟩;rw [y0]at d0;clear y0 hl
   have HP0:Hid (∃ys,((wr.setCell ⟨g,t*3,none⟩ (.int .i64 (k)))).ownsRow B 52 3 (.slice (some ⟨g,0,none⟩) n cap) n ys∧(∀j,j<t*3+1→ys[j]? =(VU ceL LL)[j]?)∧w.grownBy ((wr.setCell ⟨g,t*3,none⟩ (.int .i64 (k)))) (some g)):=by
    obtain⟨oq,gq⟩:=o0.stored (t*3) (.int .i64 (k));refine⟨_,oq,fun j hj=> ?_,XG r0 gq⟩;by_cases e:t*3=j
    ·subst e;rw [List.getElem?_set_self (by have:=o0.1;omega)];exact(HX.out 0 (by omega)).symm
    ·rw [List.getElem?_set_ne e];exact p0 j (by omega)
   clear o0 p0 r0;clear HA0;obtain⟨ys1,o1,p1,r1⟩:=HP0.out;obtain⟨A',cap',e,_,hc⟩:=QP o1;cases e
   obtain⟨gg,e1,_,hg1,d1,f1⟩:=hc (t*3+1) (by omega);cases e1
   clear hc;have hl:=o1.1;obtain⟨x1,y1⟩: ∃x,ys1[t*3+1]? =some x:=⟨_,List.getElem?_eq_getElem (by omega)⟩;rw [y1]at d1;clear y1 hl
   have HP1:Hid (∃ys,(((wr.setCell ⟨g,t*3,none⟩ (.int .i64 (k))).setCell ⟨g,t*3+1,none⟩ (.int .i64 (k+1)))).ownsRow B 52 3 (.slice (some ⟨g,0,none⟩) n cap) n ys∧(∀j,j<t*3+2→ys[j]? =(VU ceL LL)[j]?)∧w.grownBy (((wr.setCell ⟨g,t*3,none⟩ (.int .i64 (k))).setCell ⟨g,t*3+1,none⟩ (.int .i64 (k+1)))) (some g)):=by
    obtain⟨oq,gq⟩:=o1.stored (t*3+1) (.int .i64 (k+1));refine⟨_,oq,fun j hj=> ?_,XG r1 gq⟩;by_cases e:t*3+1=j
    ·subst e;rw [List.getElem?_set_self (by have:=o1.1;omega)];exact(HX.out 1 (by omega)).symm
    ·rw [List.getElem?_set_ne e];exact p1 j (by omega)
   clear o1 p1 r1;clear HP0;go_wp2_with fail
   refine(Ew _ _ (by omega) (by omega)).mono ?_;rintro e w2 ⟨rfl,hb⟩
   have HB2:Hid (∃ys,w2.ownsRow B 52 3 (.slice (some ⟨g,0,none⟩) n cap) n ys∧(∀j,j<t*3+2→ys[j]? =(VU ceL LL)[j]?)∧w.grownBy w2 (some g)):=by
    obtain⟨z,o1,p1,g1⟩:=HP1.out;exact⟨z,Qp o1 hb,p1,XG g1 (Qfx _ hb)⟩
   clear hb HP1 d0 f0 d1 f1;obtain⟨ys2,o2,p2,r2⟩:=HB2.out;obtain⟨A',cap',e,_,hc⟩:=QP o2;cases e
   obtain⟨gg,e2,_,hg2,d2,f2⟩:=hc (t*3+2) (by omega);cases e2
   clear hc;have hl:=o2.1;obtain⟨x2,y2⟩: ∃x,ys2[t*3+2]? =some x:=⟨_,List.getElem?_eq_getElem (by omega)⟩;rw [y2]at d2;clear y2 hl
   have HP2:Hid (∃ys,((w2.setCell ⟨g,t*3+2,none⟩ (.string (mtx (k+1+1))))).ownsRow B 52 3 (.slice (some ⟨g,0,none⟩) n cap) n ys∧(∀j,j<t*3+3→ys[j]? =(VU ceL LL)[j]?)∧w.grownBy ((w2.setCell ⟨g,t*3+2,none⟩ (.string (mtx (k+1+1))))) (some g)):=by
    obtain⟨oq,gq⟩:=o2.stored (t*3+2) (.string (mtx (k+1+1)));refine⟨_,oq,fun j hj=> ?_,XG r2 gq⟩;by_cases e:t*3+2=j
    ·subst e;rw [List.getElem?_set_self (by have:=o2.1;omega)];exact(HX.out 2 (by omega)).symm
    ·rw [List.getElem?_set_ne e];exact p2 j (by omega)
   clear o2 p2 r2;clear HB2;go_wp2_with fail
   all_goals
    go_roundw
    case rel=>
     obtain⟨z,o1,p1,g1⟩:=HP2.out;exact⟨t+1,by omega,by simp,by have:=HK.out;congr 1;omega,⟨z,o1,fun j hj=>p1 j (by omega)⟩,g1⟩
    case measure=>simp [intOf];omega
  ·have h1: ¬(t:Int)<(n:Int):=by omega
   obtain rfl:t=n:=by omega
   go_wp2_with fail
   go_ret;exact⟨rfl,by rw [Qjv ceL_len hown.1 (by rw [←HLL.out];exact Qju _ _ _ _) hys]at hown;exact hown,hgr⟩
theorem laws_heldCellS {A:Option Addr} {n cap:Nat} (k0:Int) (w:World) (h:CeRow w A (mkL ceMk 3 k0 n)) (hn:n≤1048576) (hk0:0<k0) (hk1:k0≤70368744177664):
  Calls Tryz.prog 12 #[.slice A n cap,.int .i64 k0] w fun e w'=>e= .returned (.int .i64 (k0+(n:Int)*3))∧Below w.heap.size w w':=by
 have HR:Hid (CeRow w A (mkL ceMk 3 k0 n)):=h;clear h;go_enter Tryz.func12,Tryz.ntmps12;go_wp2_with fail
 go_loopw [1,5] (fun q i wr=> ∃t:Nat,t≤n∧i= .int .i64 t∧q= .int .i64 (k0+(t:Int)*3)∧Below w.heap.size w wr) (fun _ i _=>n-(intOf i).toNat)
 case atStart=>exact⟨0,Nat.zero_le _,rfl,by simp,Below.refl _ _⟩
 case round=>
  obtain⟨t,ht,rfl,rfl,hbel⟩:=hrel;by_cases hlt:t<n
  ·obtain⟨k,HK⟩: ∃k:Int,Hid (k0+(t:Int)*3=k):=⟨_,rfl⟩;have hp0:0<k:=by have:=HK.out;omega
   have hp1:k≤70378744177664:=by have:=HK.out;omega
   have hx:=mkL_at ceMk 3 k0 n t hlt;have hkk:k0+(t:Int)*((3:Nat):Int)=k:=HK.out;rw [hkk]at hx;rw [HK.out];obtain⟨b,o,rfl,hl,hc⟩:=HR.out.2 t _ hx;have HC0:Hid (w.cell? ⟨b,o+t*3,none⟩=some (.int .i64 (k))):=hc 0 _ rfl;have HC1:Hid (w.cell? ⟨b,o+t*3+1,none⟩=some (.int .i64 (k+1))):=hc 1 _ rfl
   have HC2:Hid (w.cell? ⟨b,o+t*3+2,none⟩=some (.string (mtx (k+1+1)))):=hc 2 _ rfl;clear hc hx hkk;have hlw:=hbel.size;have hl2:b<wr.heap.size:=Nat.lt_of_lt_of_le hl hlw;have c0:=HC0.out;rw [←hbel.cell (p:=⟨_,_,none⟩) hl]at c0;have c1:=HC1.out
   rw [←hbel.cell (p:=⟨_,_,none⟩) hl]at c1;have c2:=HC2.out;rw [←hbel.cell (p:=⟨_,_,none⟩) hl]at c2;have q0:(0:Int)≤(t:Int):=by omega
   have q1:(t:Int)<(n:Int):=by omega
   have HB:Hid (Below w.heap.size w wr):=hbel;clear hbel;go_wp2_with fail
   go_region_held3 (fun w'=>(∀bq oq,bq<wr.heap.size→w'.cell? ⟨bq,oq,none⟩=wr.cell? ⟨bq,oq,none⟩)∧wr.heap.size≤w'.heap.size∧Below wr.heap.size wr w')
    (exact Qo (Nat.le_refl _) (by go_grown))
    (first
    | (go_at_call 32;refine(Ew _ _ (by omega) (by omega)).mono ?_;rintro e v0 ⟨rfl,hb⟩;obtain⟨hk0,hz0⟩:=Qf (B:=wr.heap.size) (X:=wr) (by go_grown) (by go_size) hb;have hW0: ∀b o,b<wr.heap.size→v0.cell? ⟨b,o,none⟩=wr.cell? ⟨b,o,none⟩:=(fun b o h=>hk0.cell (p:=⟨b,o,none⟩) h);clear hb))
   all_goals go_wp2_with fail
   all_goals
    go_roundw
    case rel=>exact⟨t+1,by omega,by simp,by have:=HK.out;congr 1;omega,Qd HB.out (by go_grown)⟩
    case measure=>simp [intOf];omega
  ·have h1: ¬(t:Int)<(n:Int):=by omega
   obtain rfl:t=n:=by omega
   go_wp2_with fail
   go_ret;exact⟨rfl,hbel⟩
end Go.Proofs.YtojadpoabbhphaaGreatDoor
namespace Go.Proofs.YtojadpoabbhphaaGreatDoor
open Go.RowKit Go.Maps
def cofC (L:List CL) (i:Nat):Int:=((L[i]?).map CL.c).getD 0
def cofR (L:List CL) (i:Nat):Int:=((L[i]?).map CL.r).getD 0
def cofS (L:List CL) (i:Nat):ByteArray:=((L[i]?).map CL.s).getD ⟨#[]⟩
theorem clE_of (L:List CL):clE (cofC L) (cofR L) (cofS L) L.length=L:=by
 apply List.ext_getElem (clE_len _ _ _ _);intro i h1 h2;simp only [clE,List.getElem_map,List.getElem_range,cofC,cofR,cofS,List.getElem?_eq_getElem h2,Option.map_some,Option.getD_some]
theorem clX_flat (C R:Nat→Int) (S:Nat→ByteArray): ∀n,clX C R S n=VU CL.cs (clE C R S n)
 | 0=>rfl
 | n+1=>by rw [Ny,clE_succ,Qih,clX_flat C R S n];rfl
theorem cl_of_list {W:World} {B n cap:Nat} {A:Option Addr} {L:List CL} (h:W.ownsRow B 52 3 (.slice A n cap) n (VU CL.cs L)) (hL:L.length=n) (hs: ∀x∈L,x.s.size≤maxLen):ClRow W A n (cofC L) (cofR L) (cofS L):=by
 subst hL;refine Qii (B:=B) (cap:=cap) ?_ (fun i hi=> ?_)
 ·rw [clX_flat,clE_of];exact h
 ·simp only [cofS,List.getElem?_eq_getElem hi,Option.map_some,Option.getD_some];exact hs _ (List.getElem_mem hi)
theorem eq_of_lists {W:World} {B B' n cap cap':Nat} {A A':Option Addr} {L:List CL} (hL:L.length=n) (hs: ∀x∈L,x.s.size≤maxLen) (h:W.ownsRow B 52 3 (.slice A n cap) n (VU CL.cs L)) (h':W.ownsRow B' 52 3 (.slice A' n cap') n (VU CL.cs L)):
  Calls Tryz.prog 10 #[.slice A n cap,.slice A' n cap'] W fun e w'=>e= .returned (.bool true)∧Below W.heap.size W w':=
 Qc4 W (cl_of_list h hL hs) (cl_of_list h' hL hs)
theorem en_form {B:Nat} {w':World} {r:Option (List CL)} {e:Ending} (h:EnR B w' r e): ∃A c,e= .returned (.tuple #[.slice A (r.getD []).length c,.bool r.isSome])∧w'.ownsRow B 52 3 (.slice A (r.getD []).length c) (r.getD []).length (VU CL.cs (r.getD [])):=by
 cases r with
 | none=>exact⟨none,0,h,rfl,.inl ⟨rfl,rfl⟩⟩
 | some L=>
  obtain⟨A,c,m,he,hm,ho⟩:=h;subst hm;exact⟨A,c,he,ho⟩
theorem en_form2 {B mn:Nat} {w':World} {r:Option (List CL)} {L:List CL} {xx:List Value} {ob:Bool} {e:Ending} (h1:r.getD []=L) (h2:L.length=mn) (h3:VU CL.cs L=xx) (h4:r.isSome=ob) (h:EnR B w' r e): ∃A c,e= .returned (.tuple #[.slice A mn c,.bool ob])∧w'.ownsRow B 52 3 (.slice A mn c) mn xx:=by
 obtain⟨A,c,he,ho⟩:=en_form h;rw [h1,h2]at he ho;rw [h3]at ho;rw [h4]at he;exact⟨A,c,he,ho⟩
theorem gkeep {W w':World} {B B' n n' s s':Nat} {e e':TypeId} {v v':Value} {xs xs':List Value} (h:W.ownsRow B e s v n xs) (hg:W.grownBy w' v.ownBlock) (h':W.ownsRow B' e' s' v' n' xs') (hb: ∀k,v'.ownBlock=some k→v.ownBlock≠some k):w'.ownsRow B' e' s' v' n' xs':=
 h'.kept hg (by
  cases hv:v'.ownBlock with
  | none=>exact Or.inl rfl
  | some q=>exact Or.inr (fun e=>hb q hv e.symm))
end Go.Proofs.YtojadpoabbhphaaGreatDoor
namespace Go.Proofs.YtojadpoabbhphaaGreatDoor
open Go.RowKit
structure CH where
 c:Int
 r:Int
 f:ByteArray
 t:ByteArray
def chL (x:CH):List Value:= [.int .i64 x.c,.int .i64 x.r,.string x.f,.string x.t]
def ChRow (W:World) (A:Option Addr) (n:Nat) (D:Nat→CH):Prop:=
 n≤maxLen∧ ∀i,i<n→ ∃b o,A=some ⟨b,o,none⟩∧b<W.heap.size∧W.cell? ⟨b,o+i*4,none⟩=some (.int .i64 (D i).c)∧W.cell? ⟨b,o+i*4+1,none⟩=some (.int .i64 (D i).r)∧
  W.cell? ⟨b,o+i*4+2,none⟩=some (.string (D i).f)∧W.cell? ⟨b,o+i*4+3,none⟩=some (.string (D i).t)∧(D i).f.size≤maxLen∧(D i).t.size≤maxLen
theorem ChRow.below {W W':World} {A:Option Addr} {n:Nat} {D:Nat→CH} (h:ChRow W A n D) (hb:Below W.heap.size W W'):ChRow W' A n D:=
 ⟨h.1,fun i hi=>by
  obtain⟨b,o,e,hl,c0,c1,c2,c3,hs,ht⟩:=h.2 i hi
  exact⟨b,o,e,Nat.lt_of_lt_of_le hl hb.size,(hb.cell (p:=⟨b,_,none⟩) hl).trans c0,(hb.cell (p:=⟨b,_,none⟩) hl).trans c1,(hb.cell (p:=⟨b,_,none⟩) hl).trans c2,(hb.cell (p:=⟨b,_,none⟩) hl).trans c3,hs,ht⟩⟩
def chX (D:Nat→CH) (m:Nat):List Value:=(List.range m).flatMap fun i=>chL (D i)
theorem chX_succ (D:Nat→CH) (m:Nat):chX D (m+1)=chX D m++chL (D m):=by
 simp [chX,List.range_succ,List.flatMap_append]
theorem chX_len (D:Nat→CH) (m:Nat):(chX D m).length=m*4:=by
 induction m with
 | zero=>rfl
 | succ m ih=>rw [chX_succ,List.length_append,ih];simp [chL];omega
theorem chX_at (D:Nat→CH) (m i j:Nat) (hi:i<m) (hj:j<4):(chX D m)[i*4+j]? =(chL (D i))[j]?:=by
 induction m with
 | zero=>omega
 | succ m ih=>
  rw [chX_succ];have hl:=chX_len D m;by_cases h:i<m
  ·rw [List.getElem?_append_left (by omega)];exact ih h
  ·obtain rfl:i=m:=by omega
   rw [List.getElem?_append_right (by omega),hl];congr 1
   omega
theorem infoCh:(Tryz.prog.info? 65).map (fun i=>(i.zero,i.size,i.bytes))=some (some (.agg #[.int .i64 0,.int .i64 0,.string ⟨#[]⟩,.string ⟨#[]⟩]),4,48):=by kernel_rfl
theorem ch_of_own {W:World} {B n:Nat} {A:Option Addr} {cap:Nat} {D:Nat→CH} (h:W.ownsRow B 65 4 (.slice A n cap) n (chX D n)) (hs: ∀i,i<n→(D i).f.size≤maxLen∧(D i).t.size≤maxLen):ChRow W A n D:=by
 obtain⟨A',cap',e,hn,hc⟩:=QP h;cases e
 refine⟨hn,fun i hi=> ?_⟩;obtain⟨g,rfl,_,hl,c0,_⟩:=hc (i*4) (by omega);obtain⟨g1,e1,_,_,c1,_⟩:=hc (i*4+1) (by omega);obtain⟨g2,e2,_,_,c2,_⟩:=hc (i*4+2) (by omega);obtain⟨g3,e3,_,_,c3,_⟩:=hc (i*4+3) (by omega);cases e1
 cases e2
 cases e3
 refine⟨g,0,rfl,hl,?_,?_,?_,?_,hs i hi⟩
 ·rw [Nat.zero_add,c0];exact chX_at D n i 0 hi (by omega)
 ·rw [Nat.zero_add,c1];exact chX_at D n i 1 hi (by omega)
 ·rw [Nat.zero_add,c2];exact chX_at D n i 2 hi (by omega)
 ·rw [Nat.zero_add,c3];exact chX_at D n i 3 hi (by omega)
theorem own_put {W:World} {B g n cap m:Nat} {e:TypeId} {ys X:List Value} {u:Value} {Q:Nat→Prop} (h:W.ownsRow B e 4 (.slice (some ⟨g,0,none⟩) n cap) n ys) (hm:m<n*4) (hu:X[m]? =some u) (hy: ∀j,Q j→ys[j]? =X[j]?):
  ∃zs,(W.setCell ⟨g,m,none⟩ u).ownsRow B e 4 (.slice (some ⟨g,0,none⟩) n cap) n zs∧(∀j,Q j∨j=m→zs[j]? =X[j]?)∧W.grownBy (W.setCell ⟨g,m,none⟩ u) (some g):=by
 obtain⟨o1,g1⟩:=h.stored m u;refine⟨_,o1,fun j hj=> ?_,g1⟩;have hl:=h.1;by_cases e:m=j
 ·subst e;rw [List.getElem?_set_self (by omega)];exact hu.symm
 ·rw [List.getElem?_set_ne e];rcases hj with hj | hj
  ·exact hy j hj
  ·exact absurd hj.symm e
theorem ch_rows_eq {n:Nat} {ys:List Value} {D:Nat→CH} (hl:ys.length=n*4) (hy: ∀j,j<n*4→ys[j]? =(chX D n)[j]?):ys=chX D n:=by
 apply List.ext_getElem?;intro j;by_cases h:j<n*4
 ·exact hy j h
 ·rw [List.getElem?_eq_none (by omega),List.getElem?_eq_none (by rw [chX_len];omega)]
theorem own_four {W:World} {B g n cap t:Nat} {e:TypeId} {ys:List Value} {D:Nat→CH} {Q:Nat→Prop} (x:CH) (hx:D t=x) (h:W.ownsRow B e 4 (.slice (some ⟨g,0,none⟩) n cap) n ys) (ht:t<n) (hy: ∀j,Q j→ys[j]? =(chX D n)[j]?):
  ∃zs,((((W.setCell ⟨g,t*4,none⟩ (.int .i64 x.c)).setCell ⟨g,t*4+1,none⟩ (.int .i64 x.r)).setCell ⟨g,t*4+2,none⟩ (.string x.f)).setCell ⟨g,t*4+3,none⟩ (.string x.t)).ownsRow B e 4 (.slice (some ⟨g,0,none⟩) n cap) n zs∧
   (∀j,Q j∨(t*4≤j∧j<(t+1)*4)→zs[j]? =(chX D n)[j]?)∧W.grownBy ((((W.setCell ⟨g,t*4,none⟩ (.int .i64 x.c)).setCell ⟨g,t*4+1,none⟩ (.int .i64 x.r)).setCell ⟨g,t*4+2,none⟩ (.string x.f)).setCell ⟨g,t*4+3,none⟩ (.string x.t)) (some g):=by
 subst hx;obtain⟨y1,o1,q1,g1⟩:=own_put h (by omega) (chX_at D n t 0 ht (by omega)) hy;obtain⟨y2,o2,q2,g2⟩:=own_put o1 (by omega) (chX_at D n t 1 ht (by omega)) q1;obtain⟨y3,o3,q3,g3⟩:=own_put o2 (by omega) (chX_at D n t 2 ht (by omega)) q2;obtain⟨y4,o4,q4,g4⟩:=own_put o3 (by omega) (chX_at D n t 3 ht (by omega)) q3
 exact⟨y4,o4,fun j hj=>q4 j (by
  rcases hj with hj | hj
  ·exact Or.inl (Or.inl (Or.inl (Or.inl hj)))
  ·by_cases e3:j=t*4+3
   ·exact Or.inr e3
   by_cases e2:j=t*4+2
   ·exact Or.inl (Or.inr e2)
   by_cases e1:j=t*4+1
   ·exact Or.inl (Or.inl (Or.inr e1))
   ·exact Or.inl (Or.inl (Or.inl (Or.inr (by omega))))),XG (XG (XG g1 g2) g3) g4⟩
theorem laws_szChange (c r:Int) (f t:ByteArray) (l:Int) (w:World) (hf:f.size≤maxLen) (ht:t.size≤maxLen) (h0:0≤l) (h1:l≤1048576):Calls Tryz.prog 33 #[.agg #[.int .i64 c,.int .i64 r,.string f,.string t],.int .i64 l] w fun e w'=>
  ∃z:Int,e= .returned (.int .i64 z)∧z≤1048576∧Below w.heap.size w w':=by
 unfold maxLen at hf ht;by_cases hz:l-(f.size:Int)<0
 ·go_enter Tryz.func33,Tryz.ntmps33;go_wp2_with fail
  go_ret;exact⟨_,rfl,by omega,by go_grown⟩
 by_cases hy:l-(f.size:Int)-(t.size:Int)<0
 ·go_enter Tryz.func33,Tryz.ntmps33;go_wp2_with fail
  go_ret;exact⟨_,rfl,by omega,by go_grown⟩
 ·go_enter Tryz.func33,Tryz.ntmps33;go_wp2_with fail
  go_ret;exact⟨_,rfl,by omega,by go_grown⟩
theorem laws_toChange (c r:Int) (f t:ByteArray) (w:World):Calls Tryz.prog 35 #[.agg #[.int .i64 c,.int .i64 r,.string f,.string t]] w fun e w'=>
  e= .returned (.agg #[.int .i64 c,.int .i64 r,.string f,.string t])∧Below w.heap.size w w':=by
 go_enter Tryz.func35,Tryz.ntmps35
 go_wp2_with (first
  | (go_at_call 8;refine(NY _ _ _).mono ?_;rintro e w1 ⟨rfl,hb⟩;obtain⟨hc,hf,hC,hF,hz,hk,l0,l1,l2⟩:=bk3 (w:=w) (by go_grown) (by go_size) hb;clear hb))
 refine bodyPost_ret (v:= .agg #[.int .i64 c,.int .i64 r,.string f,.string t]) ?_ rfl ⟨rfl,by go_grown⟩;simp (maxDischargeDepth:=9) [results,Tryz.results35,go_sem, *]
theorem laws_eqChange (c r:Int) (f t:ByteArray) (w:World):Calls Tryz.prog 37 #[.agg #[.int .i64 c,.int .i64 r,.string f,.string t],.agg #[.int .i64 c,.int .i64 r,.string f,.string t]] w fun e w'=>
  e= .returned (.bool true)∧Below w.heap.size w w':=by
 go_enter Tryz.func37,Tryz.ntmps37
 go_wp2_with (first
  | (go_at_call 54;refine(Oa _ _ _).mono ?_;rintro e w1 ⟨rfl,hb⟩;obtain⟨hc,hf,hC,hF,hz,hk,l0,l1⟩:=bk2 (w:=w) (by go_grown) (by go_size) hb;clear hb))
 go_ret;exact⟨rfl,by go_grown⟩
theorem laws_eqChangeS {A A':Option Addr} {n cap cap':Nat} {D:Nat→CH} (w:World) (h:ChRow w A n D) (h':ChRow w A' n D):
  Calls Tryz.prog 17 #[.slice A n cap,.slice A' n cap'] w fun e w'=>e= .returned (.bool true)∧Below w.heap.size w w':=by
 have HR:Hid (ChRow w A n D):=h;have HR':Hid (ChRow w A' n D):=h';have hn:=h.1;unfold maxLen at hn;clear h h';go_enter Tryz.func17,Tryz.ntmps17;go_wp2_with fail
 go_loopw [5] (fun i wr=> ∃k:Nat,k≤n∧i= .int .i64 k∧Below w.heap.size w wr) (fun i _=>n-(intOf i).toNat)
 case atStart=>exact⟨0,Nat.zero_le _,rfl,Below.refl _ _⟩
 case round=>
  obtain⟨k,hk,rfl,hbel⟩:=hrel;by_cases hlt:k<n
  ·obtain⟨b,o,rfl,hl,c0,c1,c2,c3,hs,hs'⟩:=HR.out.2 k hlt;obtain⟨b',o',rfl,hl',c0',c1',c2',c3',_⟩:=HR'.out.2 k hlt;have hs:=hbel.size;have hW:=fun b o h=>hbel.cell (p:=⟨b,o,none⟩) h;have h0:(0:Int)≤(k:Int):=by omega
   have h1:(k:Int)<(n:Int):=by omega
   go_wp2_with fail
   go_region_held3 (fun w'=>(∀bq oq,bq<w.heap.size→w'.cell? ⟨bq,oq,none⟩=w.cell? ⟨bq,oq,none⟩)∧w.heap.size≤w'.heap.size∧Below w.heap.size w w')
    (exact Qo (Nat.le_refl _) (by go_grown))
    (first
    | (go_at_call 37;refine(laws_eqChange (D k).c (D k).r (D k).f (D k).t _).mono ?_;rintro e w1 ⟨rfl,hb⟩;obtain⟨hk1,hz1⟩:=Qf (B:=w.heap.size) (X:=w) (by go_grown) (by go_size) hb;clear hb))
   all_goals go_wp2_with fail
   all_goals
    go_roundw
    case rel=>exact⟨k+1,by omega,by go_num,by go_grown⟩
    case measure=>simp [intOf];omega
  ·have h1: ¬(k:Int)<(n:Int):=by omega
   go_wp2_with fail
   go_ret;exact⟨rfl,hbel⟩
theorem laws_toChangeS {A:Option Addr} {n cap:Nat} {D:Nat→CH} (w:World) (h:ChRow w A n D) (hn:n≤1048576):
  Calls Tryz.prog 15 #[.slice A n cap] w fun e w'=> ∃v,e= .returned v∧w'.ownsRow w.heap.size 65 4 v n (chX D n)∧Below w.heap.size w w':=by
 have HR:Hid (ChRow w A n D):=h;clear h;obtain⟨i0,hi,hz0,hz1,hz2⟩:=info_parts infoCh;go_enter Tryz.func15,Tryz.ntmps15;go_wp2_with (refine wpList_make_full _ rfl _ _ 38 rfl w.heap.size 65 i0 _ 4 Tryz.underlying38 hi hz0 hz1 _ _ _ _ n rfl rfl rfl rfl ?m1 ?m2 ?m3 ?_)
 case m1=>rw [hz2];omega
 case m2=>unfold maxLen;omega
 case m3=>exact Nat.le_refl _
 intro w1 hown hgrow;have hg1:Below w.heap.size w w1:=(Below.refl _ _).grown hgrow (Nat.le_refl _) (fun k hk=>by cases hk);obtain⟨ys,hown⟩: ∃ys,w1.ownsRow w.heap.size 65 4 (.slice (some ⟨w.heap.size,0,none⟩) n n) n ys:=⟨_,hown⟩;clear hgrow;have HO:Hid (w1.ownsRow w.heap.size 65 4 (.slice (some ⟨w.heap.size,0,none⟩) n n) n ys):=hown;clear hown;go_wp2_with fail
 go_loopw [4] (fun i wr=> ∃t:Nat,t≤n∧i= .int .i64 t∧(∃ys,wr.ownsRow w.heap.size 65 4 (.slice (some ⟨w.heap.size,0,none⟩) n n) n ys∧ ∀j,j<t*4→ys[j]? =(chX D n)[j]?)∧Below w.heap.size w wr) (fun i _=>n-(intOf i).toNat)
 case atStart=>exact⟨0,Nat.zero_le _,rfl,⟨ys,HO.out,fun j hj=>by omega⟩,hg1⟩
 case round=>
  clear HO hg1;obtain⟨t,ht,rfl,⟨ys,hown,hys⟩,hbel⟩:=hrel;by_cases hlt:t<n
  ·obtain⟨b,o,rfl,hl,c0,c1,c2,c3,hs,hs'⟩:=HR.out.2 t hlt;rw [←hbel.cell (p:=⟨_,_,none⟩) hl]at c0 c1 c2 c3;have q0:(0:Int)≤(t:Int):=by omega
   have q1:(t:Int)<(n:Int):=by omega
   have HO:Hid (wr.ownsRow w.heap.size 65 4 (.slice (some ⟨w.heap.size,0,none⟩) n n) n ys):=hown;have HY:Hid (∀j,j<t*4→ys[j]? =(chX D n)[j]?):=hys;have HB:Hid (Below w.heap.size w wr):=hbel;clear hown hys hbel;go_wp2_with fail
   refine(laws_toChange _ _ _ _ _).mono ?_;rintro e w2 ⟨rfl,hb⟩;have HO2:=hd (Qp HO.out hb);have HB2:=hd (Qd HB.out hb);obtain⟨A',cap',e,_,hc⟩:=QP HO2.out;cases e
   obtain⟨g0,e0,_,hg,d0,f0⟩:=hc (t*4) (by omega);obtain⟨g1,e1,_,_,d1,f1⟩:=hc (t*4+1) (by omega);obtain⟨g2,e2,_,_,d2,f2⟩:=hc (t*4+2) (by omega);obtain⟨g3,e3,_,_,d3,f3⟩:=hc (t*4+3) (by omega);cases e0
   cases e1
   cases e2
   cases e3
   clear hc hb c0 c1 c2 c3 HO HB;have hl4:=HO2.out.1;obtain⟨x0,y0⟩: ∃x,ys[t*4]? =some x:=⟨_,List.getElem?_eq_getElem (by omega)⟩;obtain⟨x1,y1⟩: ∃x,ys[t*4+1]? =some x:=⟨_,List.getElem?_eq_getElem (by omega)⟩;obtain⟨x2,y2⟩: ∃x,ys[t*4+2]? =some x:=⟨_,List.getElem?_eq_getElem (by omega)⟩;obtain⟨x3,y3⟩: ∃x,ys[t*4+3]? =some x:=⟨_,List.getElem?_eq_getElem (by omega)⟩;rw [y0]at d0
   rw [y1]at d1;rw [y2]at d2;rw [y3]at d3;clear y0 y1 y2 y3 hl4
   have HT:Hid (∃zs,((((w2.setCell ⟨w.heap.size,t*4,none⟩ (.int .i64 (D t).c)).setCell ⟨w.heap.size,t*4+1,none⟩ (.int .i64 (D t).r)).setCell ⟨w.heap.size,t*4+2,none⟩ (.string (D t).f)).setCell ⟨w.heap.size,t*4+3,none⟩ (.string (D t).t)).ownsRow w.heap.size 65 4 (.slice (some ⟨w.heap.size,0,none⟩) n n) n zs∧
    (∀j,j<t*4∨(t*4≤j∧j<(t+1)*4)→zs[j]? =(chX D n)[j]?)∧w2.grownBy ((((w2.setCell ⟨w.heap.size,t*4,none⟩ (.int .i64 (D t).c)).setCell ⟨w.heap.size,t*4+1,none⟩ (.int .i64 (D t).r)).setCell ⟨w.heap.size,t*4+2,none⟩ (.string (D t).f)).setCell ⟨w.heap.size,t*4+3,none⟩ (.string (D t).t)) (some w.heap.size)):=own_four (D t) rfl HO2.out hlt HY.out
   clear HO2 HY;go_wp2_with fail
   all_goals
    go_roundw
    case rel=>
     obtain⟨zs,z1,z2,z3⟩:=HT.out;exact⟨t+1,by omega,by simp,⟨zs,z1,fun j hj=>z2 j (by omega)⟩,HB2.out.grown z3 HB2.out.size (fun k hk=>by cases hk;exact Nat.le_refl _)⟩
    case measure=>simp [intOf];omega
  ·have q1: ¬(t:Int)<(n:Int):=by omega
   obtain rfl:t=n:=by omega
   go_wp2_with fail
   go_ret;exact⟨_,rfl,by rw [ch_rows_eq hown.1 hys]at hown;exact hown,hbel⟩
theorem laws_szCellSL {A:Option Addr} {n cap:Nat} {C R:Nat→Int} {S:Nat→ByteArray} (lf:Int) (w:World) (h:ClRow w A n C R S) (hl0:0≤lf) (hl1:lf≤1048576):
  Calls Tryz.prog 5 #[.slice A n cap,.int .i64 lf] w fun e w'=> ∃z:Int,e= .returned (.int .i64 z)∧z≤1048576∧(0≤z→n≤1048576)∧Below w.heap.size w w':=by
 have HR:Hid (ClRow w A n C R S):=h;have hm:=h.1;clear h;unfold maxLen at hm;by_cases hbig:lf-(n:Int)<0
 ·go_enter Tryz.func5,Tryz.ntmps5;go_wp2_with fail
  go_ret;exact⟨-1,rfl,by omega,fun h=>by omega,by go_grown⟩
 ·go_enter Tryz.func5,Tryz.ntmps5;go_wp2_with fail
  go_loopw [1,5] (fun l i wr=> ∃(t:Nat) (z:Int),t≤n∧i= .int .i64 t∧l= .int .i64 z∧0≤z∧z≤1048576∧Below w.heap.size w wr) (fun _ i _=>n-(intOf i).toNat)
  case atStart=>exact⟨0,_,Nat.zero_le _,rfl,rfl,by omega,by omega,Below.refl _ _⟩
  case round=>
   obtain⟨t,z,ht,rfl,rfl,z0,z1,hbel⟩:=hrel;by_cases hlt:t<n
   ·obtain⟨b,o,rfl,hl,c0,c1,c2,hs⟩:=HR.out.2 t hlt;rw [←hbel.cell (p:=⟨_,_,none⟩) hl]at c0 c1 c2;have q0:(0:Int)≤(t:Int):=by omega
    have q1:(t:Int)<(n:Int):=by omega
    have HB:Hid (Below w.heap.size w wr):=hbel;clear hbel;go_wp2_with fail
    refine(MD _ _ _ _ _ hs z0 z1).mono ?_;rintro e w2 ⟨rfl,hb⟩;have HB2:=hd (Qd HB.out hb);clear hb c0 c1 c2;have HZ:Hid (szv z (S t).size≤1048576):=by show _≤_;unfold szv;split<;>omega
    by_cases hz:szv z (S t).size<0
    ·go_wp2_with fail
     go_ret;exact⟨_,rfl,by omega,fun h=>by omega,HB2.out⟩
    ·go_wp2_with fail
     go_roundw
     case rel=>exact⟨t+1,_,by omega,by go_num,rfl,by omega,HZ.out,HB2.out⟩
     case measure=>simp [intOf];omega
   ·have q1: ¬(t:Int)<(n:Int):=by omega
    go_wp2_with fail
    go_ret;exact⟨_,rfl,z1,fun h=>by omega,hbel⟩
theorem laws_szChangeSL {A:Option Addr} {n cap:Nat} {D:Nat→CH} (lf:Int) (w:World) (h:ChRow w A n D) (hl0:0≤lf) (hl1:lf≤1048576):
  Calls Tryz.prog 13 #[.slice A n cap,.int .i64 lf] w fun e w'=> ∃z:Int,e= .returned (.int .i64 z)∧z≤1048576∧(0≤z→n≤1048576)∧Below w.heap.size w w':=by
 have HR:Hid (ChRow w A n D):=h;have hm:=h.1;clear h;unfold maxLen at hm;by_cases hbig:lf-(n:Int)<0
 ·go_enter Tryz.func13,Tryz.ntmps13;go_wp2_with fail
  go_ret;exact⟨-1,rfl,by omega,fun h=>by omega,by go_grown⟩
 ·go_enter Tryz.func13,Tryz.ntmps13;go_wp2_with fail
  go_loopw [1,5] (fun l i wr=> ∃(t:Nat) (z:Int),t≤n∧i= .int .i64 t∧l= .int .i64 z∧0≤z∧z≤1048576∧Below w.heap.size w wr) (fun _ i _=>n-(intOf i).toNat)
  case atStart=>exact⟨0,_,Nat.zero_le _,rfl,rfl,by omega,by omega,Below.refl _ _⟩
  case round=>
   obtain⟨t,z,ht,rfl,rfl,z0,z1,hbel⟩:=hrel;by_cases hlt:t<n
   ·obtain⟨b,o,rfl,hl,c0,c1,c2,c3,hs,hs'⟩:=HR.out.2 t hlt;rw [←hbel.cell (p:=⟨_,_,none⟩) hl]at c0 c1 c2 c3;have q0:(0:Int)≤(t:Int):=by omega
    have q1:(t:Int)<(n:Int):=by omega
    have HB:Hid (Below w.heap.size w wr):=hbel;clear hbel;go_wp2_with fail
    refine(laws_szChange _ _ _ _ _ _ hs hs' z0 z1).mono ?_;rintro e w2 ⟨y,rfl,hy,hb⟩;have HB2:=hd (Qd HB.out hb);clear hb c0 c1 c2 c3;by_cases hz:y<0
    ·go_wp2_with fail
     go_ret;exact⟨_,rfl,by omega,fun h=>by omega,HB2.out⟩
    ·go_wp2_with fail
     go_roundw
     case rel=>exact⟨t+1,_,by omega,by go_num,rfl,by omega,hy,HB2.out⟩
     case measure=>simp [intOf];omega
   ·have q1: ¬(t:Int)<(n:Int):=by omega
    go_wp2_with fail
    go_ret;exact⟨_,rfl,z1,fun h=>by omega,hbel⟩
def chMk (k:Int):CH:=⟨k,(k+1),mtx (k+1+1),mtx (k+1+1+1)⟩
theorem chL_len (x:CH):(chL x).length=4:=rfl
theorem laws_markChangeS {B n:Nat} {v:Value} {xs:List Value} (k0:Int) (w:World) (h:w.ownsRow B 65 4 v n xs) (hn:n≤1048576) (hk0:0<k0) (hk1:k0≤70368744177664):
  Calls Tryz.prog 18 #[v,.int .i64 k0] w fun e w'=>e= .returned (.int .i64 (k0+(n:Int)*4))∧w'.ownsRow B 65 4 v n (VU chL (mkL chMk 4 k0 n))∧w.grownBy w' v.ownBlock:=by
 have HO:Hid (w.ownsRow B 65 4 v n xs):=h;obtain⟨A,cap,rfl,_,_⟩:=QP h;clear h;obtain⟨LL,HLL⟩: ∃LL,Hid (mkL chMk 4 k0 n=LL):=⟨_,rfl⟩;rw [HLL.out];go_enter Tryz.func18,Tryz.ntmps18;go_wp2_with fail
 go_loopw [1,5] (fun q i wr=> ∃t:Nat,t≤n∧i= .int .i64 t∧q= .int .i64 (k0+(t:Int)*4)∧(∃ys,wr.ownsRow B 65 4 (.slice A n cap) n ys∧ ∀j,j<t*4→ys[j]? =(VU chL LL)[j]?)∧w.grownBy wr (Value.slice A n cap).ownBlock) (fun _ i _=>n-(intOf i).toNat)
 case atStart=>exact⟨0,Nat.zero_le _,rfl,by simp,⟨xs,HO.out,fun j hj=>by omega⟩,World.grownBy.refl _ _⟩
 case round=>
  clear HO;obtain⟨t,ht,rfl,rfl,⟨ys,hown,hys⟩,hgr⟩:=hrel;by_cases hlt:t<n
  ·obtain⟨k,HK⟩: ∃k:Int,Hid (k0+(t:Int)*4=k):=⟨_,rfl⟩;have hp0:0<k:=by have:=HK.out;omega
   have hp1:k≤70378744177664:=by have:=HK.out;omega
   have HX:Hid (∀j,j<4→(VU chL LL)[t*4+j]? =(chL (chMk k))[j]?):=fun j hj=>by
    rw [←HLL.out,UN chL_len j hj,mkL_at _ _ _ _ _ hlt,←HK.out];rfl
   rw [HK.out]
   obtain⟨g,rfl⟩: ∃g,A=some ⟨g,0,none⟩:=by
    obtain⟨A',cap',e,_,hc⟩:=QP hown;cases e
    obtain⟨g,e,_⟩:=hc (t*4) (by omega);exact⟨g,e⟩
   have HA0:Hid (∃ys,wr.ownsRow B 65 4 (.slice (some ⟨g,0,none⟩) n cap) n ys∧(∀j,j<t*4→ys[j]? =(VU chL LL)[j]?)∧w.grownBy wr (some g)):=⟨ys,hown,hys,hgr⟩;clear hown hys hgr;have q0:(0:Int)≤(t:Int):=by omega
   have q1:(t:Int)<(n:Int):=by omega
   obtain⟨ys0,o0,p0,r0⟩:=HA0.out;obtain⟨A',cap',e,_,hc⟩:=QP o0;cases e
   obtain⟨gg,e0,_,hg0,d0,f0⟩:=hc (t*4) (by omega);cases e0
   clear hc;have hl:=o0.1;obtain⟨x0,y0⟩: ∃x,ys0[t*4]? =some x:=⟨_,List.getElem?_eq_getElem (by omega)⟩;rw [y0]at d0;clear y0 hl
   have HP0:Hid (∃ys,((wr.setCell ⟨g,t*4,none⟩ (.int .i64 (k)))).ownsRow B 65 4 (.slice (some ⟨g,0,none⟩) n cap) n ys∧(∀j,j<t*4+1→ys[j]? =(VU chL LL)[j]?)∧w.grownBy ((wr.setCell ⟨g,t*4,none⟩ (.int .i64 (k)))) (some g)):=by
    obtain⟨oq,gq⟩:=o0.stored (t*4) (.int .i64 (k));refine⟨_,oq,fun j hj=> ?_,XG r0 gq⟩;by_cases e:t*4=j
    ·subst e;rw [List.getElem?_set_self (by have:=o0.1;omega)];exact(HX.out 0 (by omega)).symm
    ·rw [List.getElem?_set_ne e];exact p0 j (by omega)
   clear o0 p0 r0;clear HA0;obtain⟨ys1,o1,p1,r1⟩:=HP0.out;obtain⟨A',cap',e,_,hc⟩:=QP o1;cases e
   obtain⟨gg,e1,_,hg1,d1,f1⟩:=hc (t*4+1) (by omega);cases e1
   clear hc;have hl:=o1.1;obtain⟨x1,y1⟩: ∃x,ys1[t*4+1]? =some x:=⟨_,List.getElem?_eq_getElem (by omega)⟩;rw [y1]at d1;clear y1 hl
   have HP1:Hid (∃ys,(((wr.setCell ⟨g,t*4,none⟩ (.int .i64 (k))).setCell ⟨g,t*4+1,none⟩ (.int .i64 (k+1)))).ownsRow B 65 4 (.slice (some ⟨g,0,none⟩) n cap) n ys∧(∀j,j<t*4+2→ys[j]? =(VU chL LL)[j]?)∧w.grownBy (((wr.setCell ⟨g,t*4,none⟩ (.int .i64 (k))).setCell ⟨g,t*4+1,none⟩ (.int .i64 (k+1)))) (some g)):=by
    obtain⟨oq,gq⟩:=o1.stored (t*4+1) (.int .i64 (k+1));refine⟨_,oq,fun j hj=> ?_,XG r1 gq⟩;by_cases e:t*4+1=j
    ·subst e;rw [List.getElem?_set_self (by have:=o1.1;omega)];exact(HX.out 1 (by omega)).symm
    ·rw [List.getElem?_set_ne e];exact p1 j (by omega)
   clear o1 p1 r1;clear HP0;go_wp2_with fail
   refine(Ew _ _ (by omega) (by omega)).mono ?_;rintro e w2 ⟨rfl,hb⟩
   have HB2:Hid (∃ys,w2.ownsRow B 65 4 (.slice (some ⟨g,0,none⟩) n cap) n ys∧(∀j,j<t*4+2→ys[j]? =(VU chL LL)[j]?)∧w.grownBy w2 (some g)):=by
    obtain⟨z,o1,p1,g1⟩:=HP1.out;exact⟨z,Qp o1 hb,p1,XG g1 (Qfx _ hb)⟩
   clear hb HP1 d0 f0 d1 f1;obtain⟨ys2,o2,p2,r2⟩:=HB2.out;obtain⟨A',cap',e,_,hc⟩:=QP o2;cases e
   obtain⟨gg,e2,_,hg2,d2,f2⟩:=hc (t*4+2) (by omega);cases e2
   clear hc;have hl:=o2.1;obtain⟨x2,y2⟩: ∃x,ys2[t*4+2]? =some x:=⟨_,List.getElem?_eq_getElem (by omega)⟩;rw [y2]at d2;clear y2 hl
   have HP2:Hid (∃ys,((w2.setCell ⟨g,t*4+2,none⟩ (.string (mtx (k+1+1))))).ownsRow B 65 4 (.slice (some ⟨g,0,none⟩) n cap) n ys∧(∀j,j<t*4+3→ys[j]? =(VU chL LL)[j]?)∧w.grownBy ((w2.setCell ⟨g,t*4+2,none⟩ (.string (mtx (k+1+1))))) (some g)):=by
    obtain⟨oq,gq⟩:=o2.stored (t*4+2) (.string (mtx (k+1+1)));refine⟨_,oq,fun j hj=> ?_,XG r2 gq⟩;by_cases e:t*4+2=j
    ·subst e;rw [List.getElem?_set_self (by have:=o2.1;omega)];exact(HX.out 2 (by omega)).symm
    ·rw [List.getElem?_set_ne e];exact p2 j (by omega)
   clear o2 p2 r2;clear HB2;go_wp2_with fail
   refine(Ew _ _ (by omega) (by omega)).mono ?_;rintro e w3 ⟨rfl,hb⟩
   have HB3:Hid (∃ys,w3.ownsRow B 65 4 (.slice (some ⟨g,0,none⟩) n cap) n ys∧(∀j,j<t*4+3→ys[j]? =(VU chL LL)[j]?)∧w.grownBy w3 (some g)):=by
    obtain⟨z,o1,p1,g1⟩:=HP2.out;exact⟨z,Qp o1 hb,p1,XG g1 (Qfx _ hb)⟩
   clear hb HP2 d2 f2;obtain⟨ys3,o3,p3,r3⟩:=HB3.out;obtain⟨A',cap',e,_,hc⟩:=QP o3;cases e
   obtain⟨gg,e3,_,hg3,d3,f3⟩:=hc (t*4+3) (by omega);cases e3
   clear hc;have hl:=o3.1;obtain⟨x3,y3⟩: ∃x,ys3[t*4+3]? =some x:=⟨_,List.getElem?_eq_getElem (by omega)⟩;rw [y3]at d3;clear y3 hl
   have HP3:Hid (∃ys,((w3.setCell ⟨g,t*4+3,none⟩ (.string (mtx (k+1+1+1))))).ownsRow B 65 4 (.slice (some ⟨g,0,none⟩) n cap) n ys∧(∀j,j<t*4+4→ys[j]? =(VU chL LL)[j]?)∧w.grownBy ((w3.setCell ⟨g,t*4+3,none⟩ (.string (mtx (k+1+1+1))))) (some g)):=by
    obtain⟨oq,gq⟩:=o3.stored (t*4+3) (.string (mtx (k+1+1+1)));refine⟨_,oq,fun j hj=> ?_,XG r3 gq⟩;by_cases e:t*4+3=j
    ·subst e;rw [List.getElem?_set_self (by have:=o3.1;omega)];exact(HX.out 3 (by omega)).symm
    ·rw [List.getElem?_set_ne e];exact p3 j (by omega)
   clear o3 p3 r3;clear HB3;go_wp2_with fail
   all_goals
    go_roundw
    case rel=>
     obtain⟨z,o1,p1,g1⟩:=HP3.out;exact⟨t+1,by omega,by simp,by have:=HK.out;congr 1;omega,⟨z,o1,fun j hj=>p1 j (by omega)⟩,g1⟩
    case measure=>simp [intOf];omega
  ·have h1: ¬(t:Int)<(n:Int):=by omega
   obtain rfl:t=n:=by omega
   go_wp2_with fail
   go_ret;exact⟨rfl,by rw [Qjv chL_len hown.1 (by rw [←HLL.out];exact Qju _ _ _ _) hys]at hown;exact hown,hgr⟩
end Go.Proofs.YtojadpoabbhphaaGreatDoor
