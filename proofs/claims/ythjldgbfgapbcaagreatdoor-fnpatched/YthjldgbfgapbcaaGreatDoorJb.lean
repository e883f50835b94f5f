import Derived.Test.YthjldgbfgapbcaaGreatDoorMn
import Derived.Test.YthjldgbfgapbcaaGreatDoorGge
import Derived.Test.YthjldgbfgapbcaaGreatDoorGze
import Derived.Test.YthjldgbfgapbcaaGreatDoorGzc
import Derived.Test.YthjldgbfgapbcaaGreatDoorSdB
import Derived.Test.YthjldgbfgapbcaaGreatDoorGhc
import Derived.Test.YthjldgbfgapbcaaGreatDoorGzeA
import Derived.Test.YthjldgbfgapbcaaGreatDoorJa
set_option linter.unusedSimpArgs false
set_option linter.unusedVariables false
set_option maxHeartbeats 8000000
set_option maxRecDepth 100000
namespace Go.Proofs.YthjldgbfgapbcaaGreatDoor
open Go.RowKit
def Yn (n:Nat) (D:Nat→CH) (i:Nat):CH:=⟨(D (n-1-i)).c,(D (n-1-i)).r,(D (n-1-i)).t,(D (n-1-i)).f⟩
theorem Qh8 {n t m:Nat} (D:Nat→CH) (h:m+1+t=n):Yn n D m=⟨(D t).c,(D t).r,(D t).t,(D t).f⟩:=by
 have e:n-1-m=t:=by omega
 unfold Yn;rw [e]
theorem Vk {A:Option Addr} {n cap:Nat} {D:Nat→CH} (w:World) (h:ChRow w A n D) (hn:n≤1048576):
  Calls Tryz.prog 13 #[.slice A n cap] w fun e w'=> ∃v,e= .returned v∧w'.ownsRow w.heap.size 40 4 v n (chX (Yn n D) n)∧Below w.heap.size w w':=by
 have HR:Hid (ChRow w A n D):=h;clear h;obtain⟨i0,hi,hz0,hz1,hz2⟩:=info_parts BS;go_enter Tryz.func13,Tryz.ntmps13;go_wp2_with (refine wpList_make_full _ rfl _ _ 27 rfl w.heap.size 40 i0 _ 4 Tryz.underlying27 hi hz0 hz1 _ _ _ _ n rfl rfl rfl rfl ?m1 ?m2 ?m3 ?_)
 case m1=>rw [hz2];omega
 case m2=>unfold maxLen;omega
 case m3=>exact Nat.le_refl _
 intro w1 hown hgrow;have hg1:Below w.heap.size w w1:=(Below.refl _ _).grown hgrow (Nat.le_refl _) (fun k hk=>by cases hk);obtain⟨ys,hown⟩: ∃ys,w1.ownsRow w.heap.size 40 4 (.slice (some ⟨w.heap.size,0,none⟩) n n) n ys:=⟨_,hown⟩;clear hgrow;have HO:Hid (w1.ownsRow w.heap.size 40 4 (.slice (some ⟨w.heap.size,0,none⟩) n n) n ys):=hown;clear hown;go_wp2_with fail
 go_loopw [11] (fun i wr=> ∃t:Nat,t≤n∧i= .int .i64 t∧(∃ys,wr.ownsRow w.heap.size 40 4 (.slice (some ⟨w.heap.size,0,none⟩) n n) n ys∧ ∀j,(n-t)*4≤j∧j<n*4→ys[j]? =(chX (Yn n D) n)[j]?)∧Below w.heap.size w wr) (fun i _=>n-(intOf i).toNat)
 case atStart=>exact⟨0,Nat.zero_le _,rfl,⟨ys,HO.out,fun j hj=>by omega⟩,hg1⟩
 case round=>
  clear HO hg1;obtain⟨t,ht,rfl,⟨ys,hown,hys⟩,hbel⟩:=hrel;by_cases hlt:t<n
  ·obtain⟨m,HM⟩: ∃m:Nat,Hid (m+1+t=n):=⟨n-1-t,(by omega:n-1-t+1+t=n)⟩;have hmi:(n:Int)-1-(t:Int)=(m:Int):=by have:=HM.out;omega
   have hmn:(m:Int)<(n:Int):=by have:=HM.out;omega
   have hm0:(0:Int)≤(m:Int):=by omega
   obtain⟨b,o,rfl,hl,c0,c1,c2,c3,hs,hs'⟩:=HR.out.2 t hlt;have hlw:=hbel.size;have hl2:b<wr.heap.size:=Nat.lt_of_lt_of_le hl hlw;rw [←hbel.cell (p:=⟨_,_,none⟩) hl]at c0 c1 c2 c3;have q0:(0:Int)≤(t:Int):=by omega
   have q1:(t:Int)<(n:Int):=by omega
   obtain⟨A',cap',e,_,hc⟩:=Qh hown;cases e
   obtain⟨g0,e0,_,hg,d0,f0⟩:=hc (m*4) (by omega);obtain⟨g1,e1,_,_,d1,f1⟩:=hc (m*4+1) (by omega);obtain⟨g2,e2,_,_,d2,f2⟩:=hc (m*4+2) (by omega);obtain⟨g3,e3,_,_,d3,f3⟩:=hc (m*4+3) (by omega);cases e0
   cases e1
   cases e2
   cases e3
   clear hc;have hl4:=hown.1;obtain⟨x0,y0⟩: ∃x,ys[m*4]? =some x:=⟨_,List.getElem?_eq_getElem (by omega)⟩;obtain⟨x1,y1⟩: ∃x,ys[m*4+1]? =some x:=⟨_,List.getElem?_eq_getElem (by omega)⟩;obtain⟨x2,y2⟩: ∃x,ys[m*4+2]? =some x:=⟨_,List.getElem?_eq_getElem (by omega)⟩;obtain⟨x3,y3⟩: ∃x,ys[m*4+3]? =some x:=⟨_,List.getElem?_eq_getElem (by omega)⟩;rw [y0]at d0
   rw [y1]at d1;rw [y2]at d2;rw [y3]at d3;clear y0 y1 y2 y3 hl4
   have HO:Hid (∀U,Below wr.heap.size wr U→ ∃zs,((((U.setCell ⟨w.heap.size,m*4,none⟩ (.int .i64 (D t).c)).setCell ⟨w.heap.size,m*4+1,none⟩ (.int .i64 (D t).r)).setCell ⟨w.heap.size,m*4+2,none⟩ (.string (D t).t)).setCell ⟨w.heap.size,m*4+3,none⟩ (.string (D t).f)).ownsRow w.heap.size 40 4 (.slice (some ⟨w.heap.size,0,none⟩) n n) n zs∧
    (∀j,((n-t)*4≤j∧j<n*4)∨(m*4≤j∧j<(m+1)*4)→zs[j]? =(chX (Yn n D) n)[j]?)∧U.grownBy ((((U.setCell ⟨w.heap.size,m*4,none⟩ (.int .i64 (D t).c)).setCell ⟨w.heap.size,m*4+1,none⟩ (.int .i64 (D t).r)).setCell ⟨w.heap.size,m*4+2,none⟩ (.string (D t).t)).setCell ⟨w.heap.size,m*4+3,none⟩ (.string (D t).f)) (some w.heap.size)):=fun U hU=>Qik ⟨(D t).c,(D t).r,(D t).t,(D t).f⟩ (Qh8 D HM.out) (Qe hown hU) (by omega) hys
   have HB:Hid (Below w.heap.size w wr):=hbel;clear hown hys hbel;go_wp2_with fail
   all_goals
    go_roundw
    case rel=>
     obtain⟨zs,z1,z2,z3⟩:=HO.out wr (Below.refl _ _);have hB:=HB.out.grown z3 HB.out.size (fun k hk=>by cases hk;exact Nat.le_refl _);exact⟨t+1,by omega,by simp,⟨zs,z1.alloc _,fun j hj=>z2 j (by have:=HM.out;omega)⟩,hB.alloc hB.size _⟩
    case measure=>simp [intOf];omega
  ·have q1: ¬(t:Int)<(n:Int):=by omega
   obtain rfl:t=n:=by omega
   go_wp2_with fail
   go_ret;exact⟨_,rfl,by rw [Qcn hown.1 (fun j hj=>hys j (by omega))]at hown;exact hown,hbel⟩
theorem ZR {A A':Option Addr} {n cap cap':Nat} {D D':Nat→CH} (w:World) (h:ChRow w A n D) (h':ChRow w A' n D') (hdq: ∀i,i<n→D i=D' i):
  Calls Tryz.prog 9 #[.slice A n cap,.slice A' n cap'] w fun e w'=>e= .returned (.bool true)∧Below w.heap.size w w':=by
 have HR:Hid (ChRow w A n D):=h;have HR':Hid (ChRow w A' n D'):=h';have HD:Hid (∀i,i<n→D i=D' i):=hdq;have hn:=h.1;unfold maxLen at hn;clear h h' hdq;go_enter Tryz.func9,Tryz.ntmps9
 go_wp2_with fail
 go_loopw [5] (fun i wr=> ∃k:Nat,k≤n∧i= .int .i64 k∧Below w.heap.size w wr) (fun i _=>n-(intOf i).toNat)
 case atStart=>exact⟨0,Nat.zero_le _,rfl,Below.refl _ _⟩
 case round=>
  obtain⟨k,hk,rfl,hbel⟩:=hrel;by_cases hlt:k<n
  ·obtain⟨b,o,rfl,hl,c0,c1,c2,c3,_⟩:=HR.out.2 k hlt;obtain⟨b',o',rfl,hl',c0',c1',c2',c3',_⟩:=HR'.out.2 k hlt;rw [←hbel.cell (p:=⟨_,_,none⟩) hl]at c0 c1 c2 c3;rw [←hbel.cell (p:=⟨_,_,none⟩) hl']at c0' c1' c2' c3';rw [←HD.out k hlt]at c0' c1' c2' c3';have h0:(0:Int)≤(k:Int):=by omega
   have h1:(k:Int)<(n:Int):=by omega
   obtain⟨x,HX⟩: ∃x,Hid (D k=x):=⟨_,rfl⟩;rw [HX.out]at c0 c1 c2 c3 c0' c1' c2' c3';obtain⟨xc,xr,xf,xt⟩:=x;simp only at c0 c1 c2 c3 c0' c1' c2' c3';have hs1:(xf.toList==xf.toList)=true:=by simp
   have hs2:(xt.toList==xt.toList)=true:=by simp
   go_wp2_with fail
   go_region
   all_goals go_wp2_with fail
   all_goals
    go_roundw
    case rel=>exact⟨k+1,by omega,by go_num,by go_grown⟩
    case measure=>simp [intOf];omega
  ·have h1: ¬(k:Int)<(n:Int):=by omega
   go_wp2_with fail
   go_ret;exact⟨rfl,hbel⟩
theorem setC_iffE {w:CL} {E:List CL} {z:CL}:z∈YE w E↔(z∈E∧ ¬(z.c=w.c∧z.r=w.r))∨(z=w∧w.s.toList.isEmpty=false):=by
 rw [(Xo w E).mem_iff];by_cases h:w.s.toList.isEmpty=true
 ·rw [if_pos h,offP_mem];simp [h]
 ·rw [if_neg h,List.mem_append,offP_mem,List.mem_singleton];simp [Bool.eq_false_iff.2 h]
theorem Qnf {M:List CL} (h:M.Pairwise (fun a b=>ltC a b=true)) (hr: ∀z∈M,Qi z.c z.r=true):Jd (QA M) (Qz M) M.length=true:=by
 refine List.all_eq_true.2 fun i hi=> ?_;have hi':=List.mem_range.1 hi;unfold Za;have e1:QA M i=M[i].c∧Qz M i=M[i].r:=by unfold QA Qz;rw [List.getElem?_eq_getElem hi'];exact⟨rfl,rfl⟩
 rw [Bool.and_eq_true];refine⟨by rw [e1.1,e1.2];exact hr _ (List.getElem_mem hi'),?_⟩;by_cases h0:i=0
 ·simp [h0]
 ·have e2:QA M (i-1)=(M[i-1]'(by omega)).c∧Qz M (i-1)=(M[i-1]'(by omega)).r:=by unfold QA Qz;rw [List.getElem?_eq_getElem (by omega)];exact⟨rfl,rfl⟩
  rw [Bool.or_eq_true];refine Or.inr ?_;rw [e1.1,e1.2,e2.1,e2.2];exact List.pairwise_iff_getElem.1 h (i-1) i (by omega) hi' (by omega)
theorem Kl {M:List CL} {j:Nat} (hj:j<M.length):QA M j=M[j].c∧Qz M j=M[j].r∧QB M j=M[j].s:=by
 unfold QA Qz QB;rw [List.getElem?_eq_getElem hj];exact⟨rfl,rfl,rfl⟩
theorem Hh (A:Option Addr) (len cap:Nat) (w:World):Calls Tryz.prog 24 #[.slice A len cap] w fun e w'=>
  e= .returned (.pointer (some ⟨w.heap.size,0,none⟩))∧w.alloc (.cells #[.slice A len cap,.int .i64 0] 77)=w':=by
 go_enter Tryz.func24,Tryz.ntmps24;go_wp2
 go_ret;exact⟨rfl,rfl⟩
theorem VA (A:Option Addr) (len cap:Nat) (w:World):Calls Tryz.prog 6 #[.slice A len cap] w fun e w'=>
  e= .returned (.bool (decide ((1048576:Int)<(len:Int))))∧w'=w:=by
 go_enter Tryz.func6,Tryz.ntmps6;go_wp2
 go_ret;exact⟨rfl,rfl⟩
def Qbe (n:Nat):ByteArray:=match n with
 | 0=>⟨#[49]⟩
 | 1=>⟨#[50]⟩
 | 2=>⟨#[51]⟩
 | 3=>⟨#[]⟩
 | _=>⟨#[61,65,49]⟩
theorem Qfa (n:Nat):(Qbe n).size≤3:=by
 match n with
 | 0=>decide
 | 1=>decide
 | 2=>decide
 | 3=>decide
 | n+4=>show(⟨#[61,65,49]⟩:ByteArray).size≤3;decide
theorem Qfb (W:World) (t:Nat) (ht:t<5) (ty:TypeId):(W.alloc (.cells #[.string ⟨#[49]⟩,.string ⟨#[50]⟩,.string ⟨#[51]⟩,.string ⟨#[]⟩,.string ⟨#[61,65,49]⟩] ty)).cell? ⟨W.heap.size,t,none⟩=some (.string (Qbe t)):=by
 match t,ht with
 | 0,_=>simp [Qbe]
 | 1,_=>simp [Qbe]
 | 2,_=>simp [Qbe]
 | 3,_=>simp [Qbe]
 | 4,_=>simp [Qbe]
theorem Be (r:Nat) (A:Option Addr) (len cap:Nat) (most:Int) (w W:World) {B0:Option Addr} {n0 c0:Nat} {L0:List CL} (h:ShD w W r A len cap (.slice B0 n0 c0) L0) (hn0:L0.length=n0) (hr:r<w.heap.size) (h0:0≤most) (h1:most≤20):Calls Tryz.prog 27 #[.pointer (some ⟨r,0,none⟩),.slice B0 n0 c0,.int .i64 most] W fun e w'=>
  ∃(L:List CL) (B:Option Addr) (c:Nat),e= .returned (.slice B L.length c)∧ShD w w' r A len cap (.slice B L.length c) L∧ShD w w' r A len cap (.slice B0 n0 c0) L0∧Upd r W w':=by
 have HS0:Hid (ShD w W r A len cap (.slice B0 n0 c0) L0):=h;have HL:Hid (r<w.heap.size):=hr;have HL0:Hid (L0.length=n0):=hn0;clear h hr hn0;go_enter Tryz.func27,Tryz.ntmps27;go_wp2_with fail
 refine(QC r A len cap (most+1) _ HS0.out.rd (by omega) (by omega)).mono ?_;rintro e w1 ⟨v,rfl,v0,v1,hr,hu⟩;obtain⟨t,rfl⟩: ∃t:Nat,v=(t:Int):=⟨v.toNat,by omega⟩;have HS1:Hid (ShD w w1 r A len cap (.slice B0 n0 c0) L0):=HS0.out.keep HL.out hu hr;have HU1:Hid (Upd r W w1):=hu;clear hr hu HS0;go_wp2_with fail
 go_loopw [1,7] (fun o i wr=> ∃(k:Nat) (L:List CL) (B:Option Addr) (n c:Nat),k≤t∧i= .int .i64 k∧o= .slice B n c∧L.length=n∧ShD w wr r A len cap (.slice B n c) L∧ShD w wr r A len cap (.slice B0 n0 c0) L0∧Upd r W wr) (fun _ i _=>(intOf i).toNat)
 case atStart=>exact⟨t,L0,B0,n0,c0,Nat.le_refl _,rfl,rfl,HL0.out,HS1.out,HS1.out,HU1.out⟩
 case round=>
  clear HS1 HU1;obtain⟨k,L,B,n,c,hk,rfl,rfl,hL,hsh,hs0,hup⟩:=hrel;have HU:Hid (Upd r W wr):=hup;have HS:Hid (ShD w wr r A len cap (.slice B n c) L):=hsh;have HT:Hid (ShD w wr r A len cap (.slice B0 n0 c0) L0):=hs0;have HLn:Hid (L.length=n):=hL;clear hsh hL hs0 hup
  by_cases hk0:0<k
  ·have q0:(0:Int)<(k:Int):=by omega
   go_wp2_with fail
   refine(Hr r A len cap _ HS.out.rd).mono ?_;rintro e w2 ⟨p,q,rfl,_,_,_,_,hr,hu⟩;have HS2:Hid (ShD w w2 r A len cap (.slice B n c) L):=HS.out.keep HL.out hu hr;have HT2:Hid (ShD w w2 r A len cap (.slice B0 n0 c0) L0):=HT.out.keep HL.out hu hr;have HU2:Hid (Upd r W w2):=HU.out.trans hu;have hl2: ¬w2.heap.size=r:=by have:=hr.lt;omega
   clear hr hu HS HT;have BA:Hid (Below w2.heap.size w2 (w2.alloc (.cells #[.string ⟨#[49]⟩,.string ⟨#[50]⟩,.string ⟨#[51]⟩,.string ⟨#[]⟩,.string ⟨#[61,65,49]⟩] 9))):=(Below.refl _ _).alloc (Nat.le_refl _) _;go_wp2_with fail
   refine(QC r A len cap 5 _ (HS2.out.rd.below BA.out) (by omega) (by omega)).mono ?_;rintro e w3 ⟨v,rfl,v2,v3,hr,hu⟩;obtain⟨j,rfl⟩: ∃j:Nat,v=(j:Int):=⟨v.toNat,by omega⟩;have ct:w3.cell? ⟨w2.heap.size,j,none⟩=some (.string (Qbe j)):=(hu.1 w2.heap.size j (by simp) hl2).trans (Qfb w2 j (by omega) _);have HS3:Hid (ShD w w3 r A len cap (.slice B n c) L):=(HS2.out.below HL.out BA.out).keep HL.out hu hr;have HU3:Hid (Upd r W w3):=HU2.out.trans ((Upd.of_below (Nat.le_of_lt HS2.out.rd.lt) BA.out).trans hu);have HT3:Hid (ShD w w3 r A len cap (.slice B0 n0 c0) L0):=(HT2.out.below HL.out BA.out).keep HL.out hu hr
   obtain⟨s,HNM⟩: ∃s,Hid (Qbe j=s):=⟨_,rfl⟩;rw [HNM.out]at ct;have hs:s.size≤3:=by rw [←HNM.out];exact Qfa _
   have j0:(0:Int)≤(j:Int):=by omega
   have j5:(j:Int)<5:=by omega
   clear hr hu HS2 HT2 BA HNM;go_wp2_with fail
   refine(Mj _ (HS3.out.row HLn.out) (by unfold maxLen;omega)).mono ?_;rintro e w4 ⟨he,hb⟩;have HS4:=hd (HS3.out.below HL.out hb);have HU4:Hid (Upd r W w4):=HU3.out.trans (Upd.of_below (Nat.le_of_lt HS3.out.rd.lt) hb);have HT4:=hd (HT3.out.below HL.out hb);have HZ3:Hid (w.heap.size≤w3.heap.size):=HS3.out.upd.2.2.1;have hz:=Qpv (p:=p) (q:=q) (s:=s) (n:=n) (C:=QA L) (R:=Qz L) (S:=QB L) (fun i hi=>Qlh HS3.out.sz i (by rw [HLn.out];exact hi))
   have hl:=Qlb (p:=p) (q:=q) (s:=s) (n:=n) (C:=QA L) (R:=Qz L) (S:=QB L);cases hen:enF (QA L) (Qz L) (QB L) n p q s with
   | none=>
    rw [hen]at he;obtain rfl:e= .returned (.tuple #[.slice none 0 0,.bool false]):=he;clear hb hz hl hen HS3 HT3;go_wp2_with fail
    go_roundw
    case rel=>exact⟨k-1,L,B,n,c,by omega,by rw [show((k-1:Nat):Int)=(k:Int)-1 by omega],rfl,HLn.out,HS4.out,HT4.out,HU4.out⟩
    case measure=>simp [intOf];omega
   | some M=>
    rw [hen]at he hz hl;obtain⟨B',c',m,rfl,hm,ho⟩:=he;have HM:Hid (ShD w w4 r A len cap (.slice B' m c') M):=⟨by rw [hm];exact Ju ho HZ3.out,by rw [Option.getD_some]at hl;omega,by rw [Option.getD_some]at hz;exact hz,HS4.out.rd,HS4.out.upd⟩;have HMn:Hid (M.length=m):=hm;clear hb hz hl hen HS3 HT3 ho hm;go_wp2_with fail
    go_roundw
    case rel=>exact⟨k-1,M,B',m,c',by omega,by rw [show((k-1:Nat):Int)=(k:Int)-1 by omega],rfl,HMn.out,HM.out,HT4.out,HU4.out⟩
    case measure=>simp [intOf];omega
  ·have q0: ¬(0:Int)<(k:Int):=by omega
   go_wp2_with fail
   go_ret;exact⟨L,B,c,by rw [HLn.out];rfl,by rw [HLn.out];exact HS.out,HT.out,HU.out⟩
structure CR (W:World) (r g m:Nat) (D:Nat→CH):Prop where
 gr:g≠r
 gl:g<W.heap.size
 cell: ∀i,i<m→ ∀j,j<4→W.cell? ⟨g,i*4+j,none⟩=(chL (D i))[j]?
 fz: ∀p,p<m*4→W.frozen? ⟨g,p,none⟩=false
 sz: ∀i,i<m→(D i).f.size≤maxLen∧(D i).t.size≤maxLen
theorem CR.upd {W w':World} {r g m:Nat} {D:Nat→CH} (h:CR W r g m D) (hu:Upd r W w'):CR w' r g m D:=
 ⟨h.gr,Nat.lt_of_lt_of_le h.gl hu.2.2.1,fun i hi j hj=>(hu.1 g _ h.gl h.gr).trans (h.cell i hi j hj),fun p hp=>(hu.2.1 g p h.gl h.gr).trans (h.fz p hp),h.sz⟩
theorem CR.row {W:World} {r g m:Nat} {D:Nat→CH} (h:CR W r g m D) (hm:m≤maxLen):ChRow W (some ⟨g,0,none⟩) m D:=by
 refine⟨hm,fun i hi=>⟨g,0,rfl,h.gl,?_,?_,?_,?_,(h.sz i hi).1,(h.sz i hi).2⟩⟩
 ·rw [Nat.zero_add];exact h.cell i hi 0 (by omega)
 ·rw [Nat.zero_add];exact h.cell i hi 1 (by omega)
 ·rw [Nat.zero_add];exact h.cell i hi 2 (by omega)
 ·rw [Nat.zero_add];exact h.cell i hi 3 (by omega)
def chO (L:List CH) (i:Nat):CH:=(L[i]?).getD ⟨0,0,⟨#[]⟩,⟨#[]⟩⟩
theorem CR.of_own {W:World} {B r g m cap:Nat} {L:List CH} (h:W.ownsRow B 40 4 (.slice (some ⟨g,0,none⟩) m cap) m (Qu chL L)) (hL:L.length=m) (hs: ∀x∈L,x.f.size≤maxLen∧x.t.size≤maxLen) (hr:r<B):CR W r g m (chO L):=by
 obtain⟨A',cap',e,hn,hc⟩:=Qh h;cases e
 have hg:=h.lt g rfl
 have hat: ∀i,i<m→L[i]? =some (chO L i):=fun i hi=>by
  unfold chO;rw [List.getElem?_eq_getElem (by omega)];rfl
 refine⟨by omega,hg.2,fun i hi j hj=> ?_,fun p hp=> ?_,fun i hi=>hs _ (List.mem_of_getElem? (hat i hi))⟩
 ·obtain⟨g',e',_,_,c,_⟩:=hc (i*4+j) (by omega);cases e'
  rw [c,Jb (f:=chL) (k:=4) (fun _=>rfl) j hj,hat i hi];rfl
 ·obtain⟨g',e',_,_,_,f⟩:=hc p hp;cases e'
  exact f
theorem Gt {W:World} {B n cap:Nat} {A:Option Addr} {L:List CH} (h:W.ownsRow B 40 4 (.slice A n cap) n (Qu chL L)) (hL:L.length=n) (hs: ∀x∈L,x.f.size≤maxLen∧x.t.size≤maxLen):ChRow W A n (chO L):=by
 obtain⟨A',cap',e,hn,hc⟩:=Qh h;cases e
 refine⟨hn,fun i hi=> ?_⟩;have hat:L[i]? =some (chO L i):=by unfold chO;rw [List.getElem?_eq_getElem (by omega)];rfl
 have cell: ∀j,j<4→ ∃g,A=some ⟨g,0,none⟩∧g<W.heap.size∧W.cell? ⟨g,i*4+j,none⟩=(chL (chO L i))[j]?:=fun j hj=>by
  obtain⟨g,e,_,hl,c,_⟩:=hc (i*4+j) (by omega);refine⟨g,e,hl,?_⟩;rw [c,Jb (f:=chL) (k:=4) (fun _=>rfl) j hj,hat];rfl
 obtain⟨g,rfl,hl,c0⟩:=cell 0 (by omega);obtain⟨g1,e1,_,c1⟩:=cell 1 (by omega);obtain⟨g2,e2,_,c2⟩:=cell 2 (by omega);obtain⟨g3,e3,_,c3⟩:=cell 3 (by omega);cases e1
 cases e2
 cases e3
 have hz:=hs _ (List.mem_of_getElem? hat);exact⟨g,0,rfl,hl,by rw [Nat.zero_add];exact c0,by rw [Nat.zero_add];exact c1,by rw [Nat.zero_add];exact c2,by rw [Nat.zero_add];exact c3,hz.1,hz.2⟩
theorem Kj: ∀(a b:List CL),(∀x∈a,x.s.size≤maxLen)→(∀x∈b,x.s.size≤maxLen)→ ∀z∈dfM a b,z.f.size≤maxLen∧z.t.size≤maxLen
 | [],[],_,_,z,hz=>by rw [dfM]at hz;cases hz
 | x::a,[],ha,hb,z,hz=>by
  rw [dfM]at hz;rcases List.mem_cons.1 hz with rfl | hz
  ·exact⟨ha x (by simp),Nat.zero_le _⟩
  ·exact Kj a [] (fun y hy=>ha y (by simp [hy])) hb z hz
 | [],y::b,ha,hb,z,hz=>by
  rw [dfM]at hz;rcases List.mem_cons.1 hz with rfl | hz
  ·exact⟨Nat.zero_le _,hb y (by simp)⟩
  ·exact Kj [] b ha (fun x hx=>hb x (by simp [hx])) z hz
 | x::a,y::b,ha,hb,z,hz=>by
  rw [dfM]at hz;have hx:=ha x (by simp);have hy:=hb y (by simp);have ha': ∀u∈a,u.s.size≤maxLen:=fun u hu=>ha u (by simp [hu]);have hb': ∀u∈b,u.s.size≤maxLen:=fun u hu=>hb u (by simp [hu]);split at hz
  ·rcases List.mem_cons.1 hz with rfl | hz
   ·exact⟨hx,Nat.zero_le _⟩
   ·exact Kj a (y::b) ha' hb z hz
  ·split at hz
   ·rcases List.mem_cons.1 hz with rfl | hz
    ·exact⟨Nat.zero_le _,hy⟩
    ·exact Kj (x::a) b ha hb' z hz
   ·rcases List.mem_cons.1 hz with rfl | hz
    ·exact⟨hx,hy⟩
    ·exact Kj a b ha' hb' z hz
 termination_by a b=>a.length+b.length
theorem Xy: ∀a b:List CL,(dfM a b).length≤a.length+b.length
 | [],[]=>by rw [dfM];simp
 | x::a,[]=>by rw [dfM];have:=Xy a [];simp at this ⊢;omega
 | [],y::b=>by rw [dfM];have:=Xy [] b;simp at this ⊢;omega
 | x::a,y::b=>by
  rw [dfM];have h1:=Xy a (y::b);have h2:=Xy (x::a) b;have h3:=Xy a b;simp only [List.length_cons]at h1 h2 h3 ⊢;split
  ·simp only [List.length_cons];omega
  ·split<;>(simp only [List.length_cons];omega)
 termination_by a b=>a.length+b.length
theorem OU {L M:List CL} {n m:Nat} (hn:L.length=n) (hm:M.length=m) (hL: ∀x∈L,x.s.size≤maxLen) (hM: ∀x∈M,x.s.size≤maxLen) (l1:n≤121) (l2:m≤121):(dfF (QA L) (Qz L) (QB L) n (QA M) (Qz M) (QB M) m).length≤242∧ ∀x∈dfF (QA L) (Qz L) (QB L) n (QA M) (Qz M) (QB M) m,x.f.size≤maxLen∧x.t.size≤maxLen:=by
 subst hn hm;unfold dfF;split
 ·rw [YV,YV];have h4:(dfL L M).length≤(dfM L M).length:=List.length_filter_le _ _;have h3:=Xy L M;exact⟨by omega,fun x hx=>Kj L M hL hM x (List.mem_filter.1 hx).1⟩
 ·exact⟨Nat.zero_le _,fun x hx=>(List.not_mem_nil hx).elim⟩
structure RunOk (L:List CL):Prop where
 up:L.Pairwise (fun a b=>ltC a b=true)
 all: ∀z∈L,Qi z.c z.r=true∧z.s.toList.isEmpty=false∧YQ z.s=true
theorem RunOk.start {L:List CL} (h:Qm (QA L) (Qz L) (QB L) L.length=true):RunOk L:=by
 obtain⟨_,r1,r2⟩:=Qx h;rw [YV]at r2;refine⟨r2,fun z hz=> ?_⟩;obtain⟨j,hj,rfl⟩:=List.mem_iff_getElem.1 hz;unfold Qm at h;simp only [Bool.and_eq_true]at h;have h9:=List.all_eq_true.1 h.2 j (List.mem_range.2 hj)
 have c1:=Kl hj;have h8:=r1 j hj;unfold Yz at h9;rw [c1.2.2,Bool.and_eq_true,Bool.not_eq_true']at h9;rw [c1.1,c1.2.1]at h8;exact⟨h8,h9.1,h9.2⟩
theorem Qie {L L':List CL} {x:CH} (h:VU L x=some L'):Qi x.c x.r=true∧YQ x.t=true∧L'=YE ⟨x.c,x.r,x.t⟩ L:=by
 unfold VU at h;split at h
 ·rename_i h9
  simp only [Bool.and_eq_true]at h9;cases h
  exact⟨h9.1.1,h9.1.2,rfl⟩
 ·cases h
theorem RunOk.step {L L':List CL} {x:CH} (h:RunOk L) (hs:VU L x=some L'):RunOk L':=by
 obtain⟨h1,h2,rfl⟩:=Qie hs;refine⟨Vw h.up,fun z hz=> ?_⟩;rcases setC_iffE.1 hz with⟨hz,_⟩ | ⟨rfl,h9⟩
 ·exact h.all z hz
 ·exact⟨h1,h9,h2⟩
theorem RunOk.run {D:Nat→CH} {E:List CL} (h0:RunOk E): ∀(t:Nat) {L:List CL},Zy D E t=some L→RunOk L
 | 0,L,h=>by cases h;exact h0
 | t+1,L,h=>by
  cases hp:Zy D E t with
  | none=>rw [Zy,hp]at h;cases h
  | some L0=>
   rw [Zy,hp]at h;exact(RunOk.run h0 t hp).step h
theorem RunOk.ok {M:List CL} (h:RunOk M) (hl:M.length≤120):Qm (QA M) (Qz M) (QB M) M.length=true:=by
 refine Nm hl (Qnf h.up (fun z hz=>(h.all z hz).1)) (List.all_eq_true.2 fun i hi=> ?_);have hi':=List.mem_range.1 hi;have c1:=Kl hi';have h9:=h.all _ (List.getElem_mem hi');unfold Yz;rw [c1.2.2,h9.2.1,h9.2.2];rfl
abbrev neP (x y:CH):Prop:= ¬(x.c=y.c∧x.r=y.r)
theorem Qa4 {ds:List CH} {k:Nat} (hk:k<ds.length):ds.take (k+1)=ds.take k++ [chO ds k]:=by
 rw [List.take_add_one,List.getElem?_eq_getElem hk];unfold chO;rw [List.getElem?_eq_getElem hk];rfl
theorem Qeq {ds:List CH} {k:Nat} (hk:k<ds.length):chO ds k∈ds:=by
 unfold chO;rw [List.getElem?_eq_getElem hk];exact List.getElem_mem _
theorem EX {a:List CL} {ds:List CH} (ha:upC a) (hdq:ds.Pairwise neP) (hf: ∀c∈ds,Qi c.c c.r=true∧YQ c.t=true∧c.f=atC c.c c.r a): ∀k,k≤ds.length→ ∃E,Zy (chO ds) a k=some E∧upC E∧ ∀z,z∈E↔(z∈a∧ ∀c∈ds.take k,¬(z.c=c.c∧z.r=c.r))∨(∃c∈ds.take k,z=⟨c.c,c.r,c.t⟩∧c.t.toList.isEmpty=false)
 | 0,_=>⟨a,rfl,ha,fun z=>by simp⟩
 | k+1,hk=>by
  obtain⟨E,h1,h2,h3⟩:=EX ha hdq hf k (by omega);have hm:=Qeq (ds:=ds) (k:=k) (by omega);obtain⟨f1,f2,f3⟩:=hf _ hm
  have hno: ∀c∈ds.take k,¬((chO ds k).c=c.c∧(chO ds k).r=c.r):=fun c hc e=>by
   have h9:(ds.take (k+1)).Pairwise neP:=hdq.sublist (List.take_sublist _ _);rw [Qa4 (by omega),List.pairwise_append]at h9;exact h9.2.2 c hc (chO ds k) (by simp) ⟨e.1.symm,e.2.symm⟩
  have hat:atC (chO ds k).c (chO ds k).r E=atC (chO ds k).c (chO ds k).r a:=by
   by_cases h:Zo (chO ds k).c (chO ds k).r a
   ·obtain⟨z,hz,e1,e2⟩:=h;have hz':z∈E:=(h3 z).2 (Or.inl ⟨hz,fun c hc=>by rw [e1,e2];exact hno c hc⟩);rw [←e1,←e2,Vc ha hz,Vc h2 hz']
   ·rw [Yx h];refine Yx (fun⟨z,hz,e1,e2⟩=> ?_);rcases(h3 z).1 hz with⟨hz,_⟩ | ⟨c,hc,rfl,_⟩
    ·exact h ⟨z,hz,e1,e2⟩
    ·exact hno c hc ⟨e1.symm,e2.symm⟩
  refine⟨YE ⟨(chO ds k).c,(chO ds k).r,(chO ds k).t⟩ E,?_,Vw h2,fun z=> ?_⟩
  ·rw [Zy,h1];show VU _ _=_;exact Qaj f1 f2 (by rw [hat,f3];simp)
  ·rw [setC_iffE,h3,Qa4 (by omega)];constructor
   ·rintro(⟨(⟨hz,hn⟩ | ⟨c,hc,he,hn⟩),hp⟩ | ⟨rfl,hn⟩)
    ·refine Or.inl ⟨hz,fun c hc=> ?_⟩;rcases List.mem_append.1 hc with hc | hc
     ·exact hn c hc
     ·rw [List.mem_singleton.1 hc];exact hp
    ·exact Or.inr ⟨c,List.mem_append.2 (Or.inl hc),he,hn⟩
    ·exact Or.inr ⟨chO ds k,List.mem_append.2 (Or.inr (by simp)),rfl,hn⟩
   ·rintro(⟨hz,hn⟩ | ⟨c,hc,rfl,hn⟩)
    ·exact Or.inl ⟨Or.inl ⟨hz,fun c hc=>hn c (List.mem_append.2 (Or.inl hc))⟩,hn _ (List.mem_append.2 (Or.inr (by simp)))⟩
    ·rcases List.mem_append.1 hc with hc | hc
     ·exact Or.inl ⟨Or.inr ⟨c,hc,rfl,hn⟩,fun e=>hno c hc ⟨e.1.symm,e.2.symm⟩⟩
     ·rw [List.mem_singleton.1 hc]at hn ⊢;exact Or.inr ⟨rfl,hn⟩
theorem On {a b:List CL} {ds:List CH} (ha:upC a) (hb:upC b) (na: ∀z∈a,z.s.toList.isEmpty=false) (nb: ∀z∈b,z.s.toList.isEmpty=false) (hdq:ds.Pairwise neP) (hf: ∀c∈ds,Qi c.c c.r=true∧YQ c.t=true∧c.f=atC c.c c.r a) (ht: ∀c∈ds,c.t=atC c.c c.r b) (hall: ∀p q,atC p q a≠atC p q b→ ∃c∈ds,c.c=p∧c.r=q):Zy (chO ds) a ds.length=some b:=by
 obtain⟨E,h1,h2,h3⟩:=EX ha hdq hf ds.length (Nat.le_refl _);rw [List.take_length]at h3;rw [h1];congr 1
 refine Yt (r:=fun x y=>ltC x y=true) (fun x y h1 h2=>by
  have h1:=of_decide_eq_true h1;have h2:=of_decide_eq_true h2
  omega) h2 hb (fun z=> ?_)
 rw [h3];constructor
 ·rintro(⟨hz,hno⟩ | ⟨c,hc,rfl,hn⟩)
  ·have e1:=Vc ha hz;by_cases e:atC z.c z.r b=z.s
   ·exact(Vd hb).2 ⟨XY (by rw [e];exact na z hz),e⟩
   ·obtain⟨c,hc,e2,e3⟩:=hall z.c z.r (by rw [e1];exact fun h=>e h.symm);exact absurd ⟨e2.symm,e3.symm⟩ (hno c hc)
  ·have h9:=ht c hc;exact(Vd hb).2 ⟨XY (by show(atC c.c c.r b).toList.isEmpty=false;rw [←h9];exact hn),h9.symm⟩
 ·intro hz;have e1:=Vc hb hz;by_cases h: ∃c∈ds,c.c=z.c∧c.r=z.r
  ·obtain⟨c,hc,e2,e3⟩:=h;have h9:=ht c hc;rw [e2,e3,e1]at h9;refine Or.inr ⟨c,hc,?_,by rw [h9];exact nb z hz⟩;rw [e2,e3,h9]
  ·have e:atC z.c z.r a=z.s:=by
    by_cases e:atC z.c z.r a=atC z.c z.r b
    ·rw [e,e1]
    ·exact absurd (hall _ _ e) h
   exact Or.inl ⟨(Vd ha).2 ⟨XY (by rw [e];exact nb z hz),e⟩,fun c hc e9=>h ⟨c,hc,e9.1.symm,e9.2.symm⟩⟩
def Qpm (c:CH):CH:=⟨c.c,c.r,c.t,c.f⟩
def trL (ds:List CH):List CH:=ds.reverse.map Qpm
theorem Qjy {a b:List CL} (ha:upC a) (hb:upC b) (na: ∀z∈a,Qi z.c z.r=true∧z.s.toList.isEmpty=false∧YQ z.s=true) (nb: ∀z∈b,Qi z.c z.r=true∧z.s.toList.isEmpty=false∧YQ z.s=true) (he:YQ ⟨#[]⟩=true) (hdq:(dfL a b).Pairwise ltH):Zy (chO (dfL a b)) a (dfL a b).length=some b∧Zy (chO (trL (dfL a b))) b (dfL a b).length=some a:=by
 have hne:(dfL a b).Pairwise neP:=hdq.imp (fun h e=>ZM h e)
 have own: ∀{x:List CL},(∀z∈x,Qi z.c z.r=true∧z.s.toList.isEmpty=false∧YQ z.s=true)→upC x→ ∀p q,YQ (atC p q x)=true:=fun{x} h hu p q=>by
  by_cases h9:Zo p q x
  ·obtain⟨z,hz,rfl,rfl⟩:=h9;rw [Vc hu hz];exact(h z hz).2.2
  ·rw [Yx h9];exact he
 have rf: ∀c∈dfL a b,Qi c.c c.r=true:=fun c hc=>by
  have h9:=(ZP ha hb).1 hc;rcases MJ (O:=a) (Y:=b) (p:=c.c) (q:=c.r) (by rw [←h9.1,←h9.2.1];exact h9.2.2)with⟨z,hz,e1,e2⟩ | ⟨z,hz,e1,e2⟩
  ·rw [←e1,←e2];exact(na z hz).1
  ·rw [←e1,←e2];exact(nb z hz).1
 refine⟨On ha hb (fun z hz=>(na z hz).2.1) (fun z hz=>(nb z hz).2.1) hne (fun c hc=>⟨rf c hc,?_,((ZP ha hb).1 hc).1⟩) (fun c hc=>((ZP ha hb).1 hc).2.1) (fun p q h=>⟨⟨p,q,atC p q a,atC p q b⟩,(ZP ha hb).2 ⟨rfl,rfl,h⟩,rfl,rfl⟩),?_⟩
 ·rw [((ZP ha hb).1 hc).2.1];exact own nb hb _ _
 ·have hl:(trL (dfL a b)).length=(dfL a b).length:=by simp [trL]
  rw [←hl]
  have mem: ∀c∈trL (dfL a b),∃x∈dfL a b,Qpm x=c:=fun c hc=>by
   obtain⟨x,hx,e⟩:=List.mem_map.1 hc;exact⟨x,List.mem_reverse.1 hx,e⟩
  refine On hb ha (fun z hz=>(nb z hz).2.1) (fun z hz=>(na z hz).2.1) ?_ (fun c hc=> ?_) (fun c hc=> ?_) (fun p q h=> ?_)
  ·unfold trL;rw [List.pairwise_map,List.pairwise_reverse];exact hne.imp (fun h e=>h ⟨e.1.symm,e.2.symm⟩)
  ·obtain⟨x,hx,rfl⟩:=mem c hc;have h9:=(ZP ha hb).1 hx;refine⟨rf x hx,?_,h9.2.1⟩;show YQ x.f=true;rw [h9.1];exact own na ha _ _
  ·obtain⟨x,hx,rfl⟩:=mem c hc;exact((ZP ha hb).1 hx).1
  ·refine⟨Qpm ⟨p,q,atC p q a,atC p q b⟩,List.mem_map.2 ⟨_,List.mem_reverse.2 ((ZP ha hb).2 ⟨rfl,rfl,fun e=>h e.symm⟩),rfl⟩,rfl,rfl⟩
def DfD2 (w:World) (e:Ending) (w':World):Prop:= ∃(L:List CL) (B:Option Addr) (n c:Nat) (M:List CL) (B':Option Addr) (m c':Nat),e= .returned (.tuple #[.slice B n c,.slice B' m c'])∧L.length=n∧M.length=m∧ClRow w' B n (QA L) (Qz L) (QB L)∧ClRow w' B' m (QA M) (Qz M) (QB M)∧(∀x∈L,x.s.size≤maxLen)∧(∀x∈M,x.s.size≤maxLen)∧n≤121∧m≤121∧Below w.heap.size w w'
theorem ED (H1:FtX 1 69) (H2:FtX 2 228) (A:Option Addr) (len cap:Nat) (w:World) (h:Cd w A len):Calls Tryz.prog 7 #[.slice A len cap] w (DfD2 w):=by
 have HH:Hid (Cd w A len):=h;clear h;go_enter Tryz.func7,Tryz.ntmps7;go_wp2_with fail
 refine(Hh A len cap _).mono ?_;rintro e w1 ⟨rfl,hw1⟩;have HR1:Hid (Rd w1 w.heap.size A len cap):=by show Rd _ _ _ _ _;rw [←hw1];exact HH.out.open (Below.refl _ _) rfl
 have BW:Hid (Below w.heap.size w w1):=by show Below _ _ _;rw [←hw1];exact(Below.refl _ _).alloc (Nat.le_refl _) _
 have HLT:Hid (w.heap.size<w1.heap.size):=HR1.out.lt;clear hw1;go_wp2_with fail
 refine(Na H1 H2 w.heap.size A len cap 8 _ HR1.out (by omega) (by omega)).mono ?_;rintro e w2 ⟨L,B,c,rfl,hsh⟩;obtain⟨n,HLn⟩: ∃n,Hid (L.length=n):=⟨_,rfl⟩;rw [HLn.out]at hsh ⊢;have HS2:Hid (ShD w1 w2 w.heap.size A len cap (.slice B n c) L):=hsh;have hn121:n≤121:=by have:=hsh.lim;rw [HLn.out]at this;exact this
 clear hsh;go_wp2_with fail
 refine(Xr w.heap.size A len cap 3 _ HS2.out.rd (by omega) (by omega)).mono ?_;rintro e w3 ⟨b,rfl,hr,hu⟩;have HS3:Hid (ShD w1 w3 w.heap.size A len cap (.slice B n c) L):=HS2.out.keep HLT.out hu hr;clear hr hu HS2;cases b
 ·go_wp2_with fail
  refine(Be w.heap.size A len cap 4 w1 _ HS3.out HLn.out HLT.out (by omega) (by omega)).mono ?_;rintro e w4 ⟨M,B',c',rfl,hm,hl,_⟩;obtain⟨m,HMm⟩: ∃m,Hid (M.length=m):=⟨_,rfl⟩;rw [HMm.out]at hm ⊢;have HM4:Hid (ShD w1 w4 w.heap.size A len cap (.slice B' m c') M):=hm;have HL4:Hid (ShD w1 w4 w.heap.size A len cap (.slice B n c) L):=hl;have hm121:m≤121:=by have:=hm.lim;rw [HMm.out]at this;exact this
  clear hm hl;go_wp2_with fail
  refine bodyPost_ret (v:= .tuple #[.slice B n c,.slice B' m c']) ?_ rfl ⟨L,B,n,c,M,B',m,c',rfl,HLn.out,HMm.out,HL4.out.row HLn.out,HM4.out.row HMm.out,HL4.out.sz,HM4.out.sz,hn121,hm121,BW.out.trans HL4.out.upd.2.2.2.1⟩;simp (maxDischargeDepth:=9) [results,Tryz.results7,go_sem, *]
 ·go_wp2_with fail
  refine(Na H1 H2 w.heap.size A len cap 8 _ HS3.out.rd (by omega) (by omega)).mono ?_;rintro e w4 ⟨M,B',c',rfl,hm⟩;obtain⟨m,HMm⟩: ∃m,Hid (M.length=m):=⟨_,rfl⟩;rw [HMm.out]at hm ⊢;have HM4:Hid (ShD w3 w4 w.heap.size A len cap (.slice B' m c') M):=hm;have HL4:Hid (ShD w1 w4 w.heap.size A len cap (.slice B n c) L):=HS3.out.keep HLT.out hm.upd hm.rd;have hm121:m≤121:=by have:=hm.lim;rw [HMm.out]at this;exact this
  clear hm;go_wp2_with fail
  refine bodyPost_ret (v:= .tuple #[.slice B n c,.slice B' m c']) ?_ rfl ⟨L,B,n,c,M,B',m,c',rfl,HLn.out,HMm.out,HL4.out.row HLn.out,HM4.out.row HMm.out,HL4.out.sz,HM4.out.sz,hn121,hm121,BW.out.trans HL4.out.upd.2.2.2.1⟩;simp (maxDischargeDepth:=9) [results,Tryz.results7,go_sem, *]
end Go.Proofs.YthjldgbfgapbcaaGreatDoor
namespace Go.Proofs.YthjldgbfgapbcaaGreatDoor
theorem Qsk:YQ ⟨#[]⟩=true:=by
 have h:inF ⟨#[]⟩=some ⟨#[]⟩:=by rfl
 unfold YQ;rw [h];simp
end Go.Proofs.YthjldgbfgapbcaaGreatDoor
namespace Go.Proofs.YthjldgbfgapbcaaGreatDoor
open Go.RowKit Go.Maps
theorem Uq {D D':Nat→CH} {E:List CL}: ∀{k:Nat},(∀i,i<k→D i=D' i)→Zy D E k=Zy D' E k
 | 0,_=>rfl
 | k+1,h=>by rw [Zy,Zy,Uq (fun i hi=>h i (by omega)),h k (by omega)]
theorem Qqj {ds:List CH} {k i:Nat} (hk:ds.length=k) (hi:i<k):Yn k (chO ds) i=chO (trL ds) i:=by
 subst hk
 have e:(trL ds)[i]? =(ds[ds.length-1-i]?).map Qpm:=by
  unfold trL;rw [List.getElem?_map,List.getElem?_reverse hi]
 unfold Yn chO;rw [e,List.getElem?_eq_getElem (by omega)];rfl
theorem Qm1 {n i:Nat} {D:Nat→CH} (hi:i<n):Yn n (Yn n D) i=D i:=by
 unfold Yn;simp only;rw [show n-1-(n-1-i)=i by omega]
theorem Uj {W:World} {B n:Nat} {v:Value} {D:Nat→CH} (h:W.ownsRow B 40 4 v n (chX (Yn n D) n)) (hs: ∀i,i<n→(D i).f.size≤maxLen∧(D i).t.size≤maxLen): ∃A c,v= .slice A n c∧ChRow W A n (Yn n D)∧ ∀i,i<n→(Yn n D i).f.size≤maxLen∧(Yn n D i).t.size≤maxLen:=by
 obtain⟨A,c,rfl,_,_⟩:=Qh h;have hz: ∀i,i<n→(Yn n D i).f.size≤maxLen∧(Yn n D i).t.size≤maxLen:=fun i hi=>⟨(hs (n-1-i) (by omega)).2,(hs (n-1-i) (by omega)).1⟩;exact⟨A,c,rfl,Qgu h hz,hz⟩
theorem Qmn {L M:List CL} (h:Xq (QA L) (Qz L) (QB L) L.length (QA M) (Qz M) (QB M) M.length=true):L=M:=by
 unfold Xq at h;simp only [Bool.and_eq_true,decide_eq_true_eq]at h;obtain⟨h1,h2⟩:=h;apply List.ext_getElem h1;intro i hi hi';have h9:=List.all_eq_true.1 h2 i (List.mem_range.2 hi);simp only [Bool.and_eq_true,decide_eq_true_eq]at h9
 have c1:=Kl hi;have c2:=Kl hi';rw [c1.1,c1.2.1,c1.2.2,c2.1,c2.2.1,c2.2.2]at h9
 have e: ∀{x y:CL},x.c=y.c→x.r=y.r→x.s=y.s→x=y:=fun{x y} a b c=>by
  obtain⟨x1,x2,x3⟩:=x;obtain⟨y1,y2,y3⟩:=y;cases a
  cases b
  cases c
  rfl
 exact e h9.1.1 h9.1.2 h9.2
theorem Qfh (L:List CL):Xq (QA L) (Qz L) (QB L) L.length (QA L) (Qz L) (QB L) L.length=true:=Zv (fun _ _=>⟨rfl,rfl,rfl⟩)
structure PtF (L M:List CL) (ds:List CH):Prop where
 one:paF (QA L) (Qz L) (QB L) L.length (chO ds) ds.length=some M
 two:paF (QA M) (Qz M) (QB M) M.length (Yn ds.length (chO ds)) ds.length=some L
 none:(decide (ds.length=0)==Xq (QA L) (Qz L) (QB L) L.length (QA M) (Qz M) (QB M) M.length)=true
theorem Qqr {L M:List CL} (he:YQ ⟨#[]⟩=true) (h:Qm (QA L) (Qz L) (QB L) L.length=true) (h':Qm (QA M) (Qz M) (QB M) M.length=true):PtF L M (dfF (QA L) (Qz L) (QB L) L.length (QA M) (Qz M) (QB M) M.length):=by
 have e:dfF (QA L) (Qz L) (QB L) L.length (QA M) (Qz M) (QB M) M.length=dfL L M:=by
  rw [dfF,if_pos ⟨h,h'⟩,YV,YV]
 rw [e];have r1:=RunOk.start h;have r2:=RunOk.start h';have l1:=(Qx h).1;have l2:=(Qx h').1;have hd:(dfL L M).Pairwise ltH:=(Yl L M r1.up r2.up).2.sublist List.filter_sublist
 have hl:(dfL L M).length≤240:=by
  have h4:(dfL L M).length≤(dfM L M).length:=List.length_filter_le _ _;have h3:=Xy L M;omega
 obtain⟨t1,t2⟩:=Qjy r1.up r2.up r1.all r2.all he hd;refine⟨?_,?_,?_⟩
 ·rw [paF,if_pos ⟨h,by omega⟩,YV,t1];exact if_neg (by omega)
 ·rw [paF,if_pos ⟨h',by omega⟩,YV,Uq (fun i hi=>Qqj rfl hi),t2];exact if_neg (by omega)
 ·by_cases h0:(dfL L M).length=0
  ·rw [h0]at t1;have:L=M:=Option.some.inj t1;subst this;rw [Qfh,decide_eq_true h0];rfl
  ·cases hs:Xq (QA L) (Qz L) (QB L) L.length (QA M) (Qz M) (QB M) M.length with
   | false=>rw [decide_eq_false h0];rfl
   | true=>
    exfalso
    have:=Qmn hs;subst this;apply h0;rw [List.length_eq_zero_iff];refine List.eq_nil_iff_forall_not_mem.2 (fun c hc=> ?_);have h9:=(ZP r1.up r1.up).1 hc;exact h9.2.2 (h9.1.trans h9.2.1.symm)
theorem Qky (H1:FtX 1 69) (H2:FtX 2 228) (he:YQ ⟨#[]⟩=true) (A:Option Addr) (len cap:Nat) (w:World) (hz:len≤1048576→Cd w A len) (hg:GI w):Calls Tryz.prog 3 #[.slice A len cap] w fun e w'=>
  e= .returned (.bool true)∧Below w.heap.size w w':=by
 have HG:Hid (GI w):=hg;have HE0:Hid (YQ ⟨#[]⟩=true):=he;clear hg he;by_cases hbig:(1048576:Int)<(len:Int)
 ·go_enter Tryz.func3,Tryz.ntmps3;go_wp2_with fail
  refine(VA A len cap _).mono ?_;rintro e wq ⟨rfl,hw⟩;subst wq;go_wp2_with fail
  go_ret;exact⟨rfl,by go_grown⟩
 have HC:Hid (Cd w A len):=hz (by omega);clear hz;go_enter Tryz.func3,Tryz.ntmps3;go_wp2_with fail
 refine(VA A len cap _).mono ?_;rintro e wq ⟨rfl,hw⟩;subst wq;go_wp2_with fail
 refine(ED H1 H2 A len cap _ HC.out).mono ?_;rintro e w1 ⟨L,B,n,c,M,B',m,c',rfl,hL,hM,hr1,hr2,hs1,hs2,hn,hm,hb⟩;have HLn:Hid (L.length=n):=hL;have HMm:Hid (M.length=m):=hM;have K1:Hid (Below w.heap.size w w1):=hb;have R1:Hid (ClRow w1 B n (QA L) (Qz L) (QB L)):=hr1;have S1:Hid (ClRow w1 B' m (QA M) (Qz M) (QB M)):=hr2
 have HDF:=OU hL hM hs1 hs2 hn hm;clear hb hr1 hr2 hL hM;obtain⟨ds,HDS⟩: ∃ds,Hid (dfF (QA L) (Qz L) (QB L) n (QA M) (Qz M) (QB M) m=ds):=⟨_,rfl⟩;rw [HDS.out]at HDF;obtain⟨k,HDK⟩: ∃k,Hid (ds.length=k):=⟨_,rfl⟩;have hk:k≤242:=by rw [←HDK.out];exact HDF.1
 have HDZ:Hid (∀i,i<k→(chO ds i).f.size≤maxLen∧(chO ds i).t.size≤maxLen):=fun i hi=>HDF.2 _ (Qeq (by rw [HDK.out];exact hi));have HDX:Hid (∀x∈ds,x.f.size≤maxLen∧x.t.size≤maxLen):=HDF.2;clear HDF;go_wp2_with fail
 refine(Ex _ R1.out S1.out (HG.out.below K1.out)).mono ?_;rintro e w2 ⟨he,hb⟩;rw [HDS.out]at he;obtain⟨G,d,k1,rfl,hk1,ho⟩:=he;obtain rfl:k=k1:=by rw [←HDK.out];exact hk1
 have R2:=hd (R1.out.below hb);have S2:=hd (S1.out.below hb);have G2:Hid (ChRow w2 G k (chO ds)):=Gt ho hk1 HDX.out;have K2:=hd (Qb K1.out hb);clear hb ho R1 S1 hk1;go_wp2_with fail
 refine(XH _ R2.out S2.out).mono ?_;rintro e w3 ⟨he,hb⟩;rw [HDS.out]at he;obtain⟨G',d',k1,rfl,hk1,ho⟩:=he;obtain rfl:k=k1:=by rw [←HDK.out];exact hk1
 have R3:=hd (R2.out.below hb);have S3:=hd (S2.out.below hb);have G3:=hd (G2.out.below hb);have J3:Hid (ChRow w3 G' k (chO ds)):=Gt ho hk1 HDX.out;have K3:=hd (Qb K2.out hb);clear hb ho R2 S2 G2 hk1;go_wp2_with fail
 refine(ZR _ G3.out J3.out (fun _ _=>rfl)).mono ?_;rintro e w4 ⟨rfl,hb⟩;have R4:=hd (R3.out.below hb);have S4:=hd (S3.out.below hb);have G4:=hd (G3.out.below hb);have K4:=hd (Qb K3.out hb);clear hb R3 S3 G3 J3
 go_wp2_with fail
 refine(QI _ R4.out).mono ?_;rintro e w5 ⟨rfl,hb⟩;have R5:=hd (R4.out.below hb);have S5:=hd (S4.out.below hb);have G5:=hd (G4.out.below hb);have K5:=hd (Qb K4.out hb);clear hb R4 S4 G4
 cases hok:Qm (QA L) (Qz L) (QB L) n
 ·clear hok;go_wp2_with fail
  refine(XH _ R5.out S5.out).mono ?_;rintro e w6 ⟨he,hb⟩;rw [HDS.out]at he;obtain⟨G',d',k1,rfl,hk1,ho⟩:=he;obtain rfl:k=k1:=by rw [←HDK.out];exact hk1
  have G6:=hd (G5.out.below hb);have J6:Hid (ChRow w6 G' k (chO ds)):=Gt ho hk1 HDX.out;have K6:=hd (Qb K5.out hb);clear hb ho hk1;go_wp2_with fail
  refine(ZR _ G6.out J6.out (fun _ _=>rfl)).mono ?_;rintro e w7 ⟨rfl,hb⟩;have K7:=hd (Qb K6.out hb);clear hb;go_wp2_with fail
  go_ret;exact⟨rfl,K7.out⟩
 have HOK:Hid (Qm (QA L) (Qz L) (QB L) n=true):=hok;clear hok;go_wp2_with fail
 refine(QI _ S5.out).mono ?_;rintro e w6 ⟨rfl,hb⟩;have R6:=hd (R5.out.below hb);have S6:=hd (S5.out.below hb);have G6:=hd (G5.out.below hb);have K6:=hd (Qb K5.out hb);clear hb R5 S5 G5
 cases hok:Qm (QA M) (Qz M) (QB M) m
 ·clear hok;go_wp2_with fail
  refine(XH _ R6.out S6.out).mono ?_;rintro e w7 ⟨he,hb⟩;rw [HDS.out]at he;obtain⟨G',d',k1,rfl,hk1,ho⟩:=he;obtain rfl:k=k1:=by rw [←HDK.out];exact hk1
  have G7:=hd (G6.out.below hb);have J7:Hid (ChRow w7 G' k (chO ds)):=Gt ho hk1 HDX.out;have K7:=hd (Qb K6.out hb);clear hb ho hk1;go_wp2_with fail
  refine(ZR _ G7.out J7.out (fun _ _=>rfl)).mono ?_;rintro e w8 ⟨rfl,hb⟩;have K8:=hd (Qb K7.out hb);clear hb;go_wp2_with fail
  go_ret;exact⟨rfl,K8.out⟩
 have HPT:Hid (PtF L M ds):=by
  have h9:=Qqr (L:=L) (M:=M) HE0.out (by rw [HLn.out];exact HOK.out) (by rw [HMm.out];exact hok);rw [HLn.out,HMm.out,HDS.out]at h9;exact h9
 have HO1:Hid (paF (QA L) (Qz L) (QB L) n (chO ds) k=some M):=by have h9:=HPT.out.one;rw [HLn.out,HDK.out]at h9;exact h9
 have HO2:Hid (paF (QA M) (Qz M) (QB M) m (Yn k (chO ds)) k=some L):=by have h9:=HPT.out.two;rw [HMm.out,HDK.out]at h9;exact h9
 have HO3:Hid ((decide (k=0)==Xq (QA L) (Qz L) (QB L) n (QA M) (Qz M) (QB M) m)=true):=by have h9:=HPT.out.none;rw [HLn.out,HMm.out,HDK.out]at h9;exact h9
 clear hok HPT;go_wp2_with fail
 refine(Hm _ R6.out G6.out (HG.out.below K6.out)).mono ?_;rintro e w7 ⟨he,hb⟩;rw [HO1.out]at he;obtain⟨X,cx,m1,rfl,hm1,ho⟩:=he;obtain rfl:m=m1:=by rw [←HMm.out];exact hm1
 have X7:Hid (ClRow w7 X m (QA M) (Qz M) (QB M)):=Xv ho hm1 hs2;have R7:=hd (R6.out.below hb);have S7:=hd (S6.out.below hb);have G7:=hd (G6.out.below hb);have K7:=hd (Qb K6.out hb);clear hb ho hm1 R6 S6 G6;go_wp2_with fail
 refine(Vk _ G7.out (by omega)).mono ?_;rintro e w8 ⟨v8,rfl,ho,hb⟩;obtain⟨T,ct,rfl,hT,hTz⟩:=Uj ho HDZ.out;have T8:Hid (ChRow w8 T k (Yn k (chO ds))):=hT;have X8:=hd (X7.out.below hb);have R8:=hd (R7.out.below hb);have S8:=hd (S7.out.below hb)
 have G8:=hd (G7.out.below hb);have K8:=hd (Qb K7.out hb);clear hb ho hT R7 S7 G7 X7;go_wp2_with fail
 refine(Hm _ S8.out T8.out (HG.out.below K8.out)).mono ?_;rintro e w9 ⟨he,hb⟩;rw [HO2.out]at he;obtain⟨Y,cy,n1,rfl,hn1,ho⟩:=he;obtain rfl:n=n1:=by rw [←HLn.out];exact hn1
 have Y9:Hid (ClRow w9 Y n (QA L) (Qz L) (QB L)):=Xv ho hn1 hs1;have X9:=hd (X8.out.below hb);have R9:=hd (R8.out.below hb);have S9:=hd (S8.out.below hb);have G9:=hd (G8.out.below hb);have K9:=hd (Qb K8.out hb);clear hb ho hn1 R8 S8 G8 X8 T8
 go_wp2_with fail
 refine(QD _ X9.out S9.out).mono ?_;rintro e wa ⟨rfl,hb⟩;rw [Zv (fun _ _=>⟨rfl,rfl,rfl⟩)];have Ya:=hd (Y9.out.below hb);have Ra:=hd (R9.out.below hb);have Sa:=hd (S9.out.below hb);have Ga:=hd (G9.out.below hb)
 have Ka:=hd (Qb K9.out hb);clear hb R9 S9 G9 X9 Y9;go_wp2_with fail
 refine(QD _ Ya.out Ra.out).mono ?_;rintro e wb ⟨rfl,hb⟩;rw [Zv (fun _ _=>⟨rfl,rfl,rfl⟩)];have Rb:=hd (Ra.out.below hb);have Sb:=hd (Sa.out.below hb);have Gb:=hd (Ga.out.below hb);have Kb:=hd (Qb Ka.out hb)
 clear hb Ra Sa Ga Ya;go_wp2_with fail
 refine(QD _ Rb.out Sb.out).mono ?_;rintro e wc ⟨rfl,hb⟩;have Gc:=hd (Gb.out.below hb);have Kc:=hd (Qb Kb.out hb);obtain⟨sl,HSL⟩: ∃sl,Hid (Xq (QA L) (Qz L) (QB L) n (QA M) (Qz M) (QB M) m=sl):=⟨_,rfl⟩;rw [HSL.out]at HO3 ⊢
 have hk0:((k:Int)==0)=sl:=by
  have h9:=eq_of_beq HO3.out;rw [←h9,Bool.eq_iff_iff];simp;try omega
 clear hb Gb HSL Rb Sb;go_wp2_with fail
 refine(Vk _ Gc.out (by omega)).mono ?_;rintro e wd ⟨vd,rfl,ho,hb⟩;obtain⟨T1,ct1,rfl,hT1,hT1z⟩:=Uj ho HDZ.out;have Td:Hid (ChRow wd T1 k (Yn k (chO ds))):=hT1;have TZ:Hid (∀i,i<k→(Yn k (chO ds) i).f.size≤maxLen∧(Yn k (chO ds) i).t.size≤maxLen):=hT1z;have Gd:=hd (Gc.out.below hb);have Kd:=hd (Qb Kc.out hb)
 clear hb ho hT1 hT1z Gc;go_wp2_with fail
 refine(Vk _ Td.out (by omega)).mono ?_;rintro e we ⟨ve,rfl,ho,hb⟩;obtain⟨T2,ct2,rfl,hT2,_⟩:=Uj ho TZ.out;have Te:Hid (ChRow we T2 k (Yn k (Yn k (chO ds)))):=hT2;have Ge:=hd (Gd.out.below hb);have Ke:=hd (Qb Kd.out hb);clear hb ho hT2 Gd Td
 go_wp2_with fail
 refine(ZR _ Te.out Ge.out (fun i hi=>Qm1 hi)).mono ?_;rintro e wf ⟨rfl,hb⟩;have Kf:=hd (Qb Ke.out hb);clear hb;go_wp2_with fail
 go_ret;exact⟨rfl,Kf.out⟩
end Go.Proofs.YthjldgbfgapbcaaGreatDoor
