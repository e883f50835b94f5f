import Derived.Test.YthjldgbfgapbcaaGreatDoorMn
import Derived.Test.YthjldgbfgapbcaaGreatDoorGge
import Derived.Test.YthjldgbfgapbcaaGreatDoorGze
import Derived.Test.YthjldgbfgapbcaaGreatDoorGzc
import Derived.Test.YthjldgbfgapbcaaGreatDoorSdB
import Derived.Test.YthjldgbfgapbcaaGreatDoorGhc
import Derived.Test.YthjldgbfgapbcaaGreatDoorJc
import Derived.Test.YthjldgbfgapbcaaGreatDoorGzeA
set_option linter.unusedSimpArgs false
set_option linter.unusedVariables false
set_option maxHeartbeats 8000000
set_option maxRecDepth 100000
namespace Go.Proofs.YthjldgbfgapbcaaGreatDoor
open Go.RowKit
theorem setC_iffE {w:CL} {E:List CL} {z:CL}:z∈YE w E↔(z∈E∧ ¬(z.c=w.c∧z.r=w.r))∨(z=w∧w.s.toList.isEmpty=false):=by
 rw [(Xo w E).mem_iff];by_cases h:w.s.toList.isEmpty=true
 ·rw [if_pos h,offP_mem];simp [h]
 ·rw [if_neg h,List.mem_append,offP_mem,List.mem_singleton];simp [Bool.eq_false_iff.2 h]
theorem Qnf {M:List CL} (h:M.Pairwise (fun a b=>ltC a b=true)) (hr: ∀z∈M,Qi z.c z.r=true):Jd (QA M) (Qz M) M.length=true:=by
 refine List.all_eq_true.2 fun i hi=> ?_;have hi':=List.mem_range.1 hi;unfold Za;have e1:QA M i=M[i].c∧Qz M i=M[i].r:=by unfold QA Qz;rw [List.getElem?_eq_getElem hi'];exact⟨rfl,rfl⟩
 rw [Bool.and_eq_true];refine⟨by rw [e1.1,e1.2];exact hr _ (List.getElem_mem hi'),?_⟩;by_cases h0:i=0
 ·simp [h0]
 ·have e2:QA M (i-1)=(M[i-1]'(by omega)).c∧Qz M (i-1)=(M[i-1]'(by omega)).r:=by unfold QA Qz;rw [List.getElem?_eq_getElem (by omega)];exact⟨rfl,rfl⟩
  rw [Bool.or_eq_true];refine Or.inr ?_;rw [e1.1,e1.2,e2.1,e2.2];exact List.pairwise_iff_getElem.1 h (i-1) i (by omega) hi' (by omega)
theorem Kl {M:List CL} {j:Nat} (hj:j<M.length):QA M j=M[j].c∧Qz M j=M[j].r∧QB M j=M[j].s:=by
 unfold QA Qz QB;rw [List.getElem?_eq_getElem hj];exact⟨rfl,rfl,rfl⟩
theorem Mh {C R:Nat→Int} {S:Nat→ByteArray} {p q:Int}: ∀n:Nat,(∀i,i<n→ ¬(C i=p∧R i=q))→Nz C R S p q n=⟨#[]⟩
 | 0,_=>rfl
 | n+1,h=>by rw [Nz,if_neg (h n (by omega)),Mh n (fun i hi=>h i (by omega))]
theorem Qhr {M:List CL} (h:M.Pairwise (fun a b=>ltC a b=true)) {k:Nat} (hk:k<M.length): ∀m,k<m→m≤M.length→Nz (QA M) (Qz M) (QB M) (QA M k) (Qz M k) m=QB M k:=by
 intro m;induction m with
 | zero=>intro h1;omega
 | succ m ih=>
  intro h1 h2;by_cases e:k=m
  ·subst e;rw [Nz,if_pos ⟨rfl,rfl⟩]
  ·have h3:=List.pairwise_iff_getElem.1 h k m hk (by omega) (by omega);have c1:=Kl hk;have c2:=Kl (show m<M.length by omega);simp only [ltC,QF,decide_eq_true_eq]at h3;rw [Nz,if_neg (by rw [c1.1,c1.2.1,c2.1,c2.2.1];omega)];exact ih (by omega) (by omega)
theorem Qhq {M:List CL} (h:M.Pairwise (fun a b=>ltC a b=true)) {z:CL} (hz:z∈M):Nz (QA M) (Qz M) (QB M) z.c z.r M.length=z.s:=by
 obtain⟨j,hj,rfl⟩:=List.mem_iff_getElem.1 hz;have c1:=Kl hj;have h9:=Qhr h hj M.length hj (Nat.le_refl _);rw [c1.1,c1.2.1,c1.2.2]at h9;exact h9
structure RunOk (L:List CL):Prop where
 up:L.Pairwise (fun a b=>ltC a b=true)
 all: ∀z∈L,Qi z.c z.r=true∧z.s.toList.isEmpty=false∧YQ z.s=true
theorem RunOk.start {L:List CL} (h:Qm (QA L) (Qz L) (QB L) L.length=true):RunOk L:=by
 obtain⟨_,r1,r2⟩:=Qx h;rw [YV]at r2;refine⟨r2,fun z hz=> ?_⟩;obtain⟨j,hj,rfl⟩:=List.mem_iff_getElem.1 hz;unfold Qm at h;simp only [Bool.and_eq_true]at h;have h9:=List.all_eq_true.1 h.2 j (List.mem_range.2 hj)
 have c1:=Kl hj;have h8:=r1 j hj;unfold Yz at h9;rw [c1.2.2,Bool.and_eq_true,Bool.not_eq_true']at h9;rw [c1.1,c1.2.1]at h8;exact⟨h8,h9.1,h9.2⟩
theorem Qie {L L':List CL} {x:CH} (h:VU L x=some L'):Qi x.c x.r=true∧YQ x.t=true∧L'=YE ⟨x.c,x.r,x.t⟩ L:=by
 unfold VU at h;split at h
 ·rename_i h9
  simp only [Bool.and_eq_true]at h9;cases h
  exact⟨h9.1.1,h9.1.2,rfl⟩
 ·cases h
theorem RunOk.step {L L':List CL} {x:CH} (h:RunOk L) (hs:VU L x=some L'):RunOk L':=by
 obtain⟨h1,h2,rfl⟩:=Qie hs;refine⟨Vw h.up,fun z hz=> ?_⟩;rcases setC_iffE.1 hz with⟨hz,_⟩ | ⟨rfl,h9⟩
 ·exact h.all z hz
 ·exact⟨h1,h9,h2⟩
theorem RunOk.run {D:Nat→CH} {E:List CL} (h0:RunOk E): ∀(t:Nat) {L:List CL},Zy D E t=some L→RunOk L
 | 0,L,h=>by cases h;exact h0
 | t+1,L,h=>by
  cases hp:Zy D E t with
  | none=>rw [Zy,hp]at h;cases h
  | some L0=>
   rw [Zy,hp]at h;exact(RunOk.run h0 t hp).step h
theorem RunOk.ok {M:List CL} (h:RunOk M) (hl:M.length≤120):Qm (QA M) (Qz M) (QB M) M.length=true:=by
 refine Nm hl (Qnf h.up (fun z hz=>(h.all z hz).1)) (List.all_eq_true.2 fun i hi=> ?_);have hi':=List.mem_range.1 hi;have c1:=Kl hi';have h9:=h.all _ (List.getElem_mem hi');unfold Yz;rw [c1.2.2,h9.2.1,h9.2.2];rfl
theorem Hh (A:Option Addr) (len cap:Nat) (w:World):Calls Tryz.prog 24 #[.slice A len cap] w fun e w'=>
  e= .returned (.pointer (some ⟨w.heap.size,0,none⟩))∧w.alloc (.cells #[.slice A len cap,.int .i64 0] 77)=w':=by
 go_enter Tryz.func24,Tryz.ntmps24;go_wp2
 go_ret;exact⟨rfl,rfl⟩
theorem VA (A:Option Addr) (len cap:Nat) (w:World):Calls Tryz.prog 6 #[.slice A len cap] w fun e w'=>
  e= .returned (.bool (decide ((1048576:Int)<(len:Int))))∧w'=w:=by
 go_enter Tryz.func6,Tryz.ntmps6;go_wp2
 go_ret;exact⟨rfl,rfl⟩
def Qbe (n:Nat):ByteArray:=match n with
 | 0=>⟨#[49]⟩
 | 1=>⟨#[50]⟩
 | 2=>⟨#[51]⟩
 | 3=>⟨#[]⟩
 | _=>⟨#[61,65,49]⟩
theorem Qfa (n:Nat):(Qbe n).size≤3:=by
 match n with
 | 0=>decide
 | 1=>decide
 | 2=>decide
 | 3=>decide
 | n+4=>show(⟨#[61,65,49]⟩:ByteArray).size≤3;decide
theorem Qfb (W:World) (t:Nat) (ht:t<5) (ty:TypeId):(W.alloc (.cells #[.string ⟨#[49]⟩,.string ⟨#[50]⟩,.string ⟨#[51]⟩,.string ⟨#[]⟩,.string ⟨#[61,65,49]⟩] ty)).cell? ⟨W.heap.size,t,none⟩=some (.string (Qbe t)):=by
 match t,ht with
 | 0,_=>simp [Qbe]
 | 1,_=>simp [Qbe]
 | 2,_=>simp [Qbe]
 | 3,_=>simp [Qbe]
 | 4,_=>simp [Qbe]
theorem Be (r:Nat) (A:Option Addr) (len cap:Nat) (most:Int) (w W:World) {B0:Option Addr} {n0 c0:Nat} {L0:List CL} (h:ShD w W r A len cap (.slice B0 n0 c0) L0) (hn0:L0.length=n0) (hr:r<w.heap.size) (h0:0≤most) (h1:most≤20):Calls Tryz.prog 27 #[.pointer (some ⟨r,0,none⟩),.slice B0 n0 c0,.int .i64 most] W fun e w'=>
  ∃(L:List CL) (B:Option Addr) (c:Nat),e= .returned (.slice B L.length c)∧ShD w w' r A len cap (.slice B L.length c) L∧ShD w w' r A len cap (.slice B0 n0 c0) L0∧Upd r W w':=by
 have HS0:Hid (ShD w W r A len cap (.slice B0 n0 c0) L0):=h;have HL:Hid (r<w.heap.size):=hr;have HL0:Hid (L0.length=n0):=hn0;clear h hr hn0;go_enter Tryz.func27,Tryz.ntmps27;go_wp2_with fail
 refine(QC r A len cap (most+1) _ HS0.out.rd (by omega) (by omega)).mono ?_;rintro e w1 ⟨v,rfl,v0,v1,hr,hu⟩;obtain⟨t,rfl⟩: ∃t:Nat,v=(t:Int):=⟨v.toNat,by omega⟩;have HS1:Hid (ShD w w1 r A len cap (.slice B0 n0 c0) L0):=HS0.out.keep HL.out hu hr;have HU1:Hid (Upd r W w1):=hu;clear hr hu HS0;go_wp2_with fail
 go_loopw [1,7] (fun o i wr=> ∃(k:Nat) (L:List CL) (B:Option Addr) (n c:Nat),k≤t∧i= .int .i64 k∧o= .slice B n c∧L.length=n∧ShD w wr r A len cap (.slice B n c) L∧ShD w wr r A len cap (.slice B0 n0 c0) L0∧Upd r W wr) (fun _ i _=>(intOf i).toNat)
 case atStart=>exact⟨t,L0,B0,n0,c0,Nat.le_refl _,rfl,rfl,HL0.out,HS1.out,HS1.out,HU1.out⟩
 case round=>
  clear HS1 HU1;obtain⟨k,L,B,n,c,hk,rfl,rfl,hL,hsh,hs0,hup⟩:=hrel;have HU:Hid (Upd r W wr):=hup;have HS:Hid (ShD w wr r A len cap (.slice B n c) L):=hsh;have HT:Hid (ShD w wr r A len cap (.slice B0 n0 c0) L0):=hs0;have HLn:Hid (L.length=n):=hL;clear hsh hL hs0 hup
  by_cases hk0:0<k
  ·have q0:(0:Int)<(k:Int):=by omega
   go_wp2_with fail
   refine(Hr r A len cap _ HS.out.rd).mono ?_;rintro e w2 ⟨p,q,rfl,_,_,_,_,hr,hu⟩;have HS2:Hid (ShD w w2 r A len cap (.slice B n c) L):=HS.out.keep HL.out hu hr;have HT2:Hid (ShD w w2 r A len cap (.slice B0 n0 c0) L0):=HT.out.keep HL.out hu hr;have HU2:Hid (Upd r W w2):=HU.out.trans hu;have hl2: ¬w2.heap.size=r:=by have:=hr.lt;omega
   clear hr hu HS HT;have BA:Hid (Below w2.heap.size w2 (w2.alloc (.cells #[.string ⟨#[49]⟩,.string ⟨#[50]⟩,.string ⟨#[51]⟩,.string ⟨#[]⟩,.string ⟨#[61,65,49]⟩] 9))):=(Below.refl _ _).alloc (Nat.le_refl _) _;go_wp2_with fail
   refine(QC r A len cap 5 _ (HS2.out.rd.below BA.out) (by omega) (by omega)).mono ?_;rintro e w3 ⟨v,rfl,v2,v3,hr,hu⟩;obtain⟨j,rfl⟩: ∃j:Nat,v=(j:Int):=⟨v.toNat,by omega⟩;have ct:w3.cell? ⟨w2.heap.size,j,none⟩=some (.string (Qbe j)):=(hu.1 w2.heap.size j (by simp) hl2).trans (Qfb w2 j (by omega) _);have HS3:Hid (ShD w w3 r A len cap (.slice B n c) L):=(HS2.out.below HL.out BA.out).keep HL.out hu hr;have HU3:Hid (Upd r W w3):=HU2.out.trans ((Upd.of_below (Nat.le_of_lt HS2.out.rd.lt) BA.out).trans hu);have HT3:Hid (ShD w w3 r A len cap (.slice B0 n0 c0) L0):=(HT2.out.below HL.out BA.out).keep HL.out hu hr
   obtain⟨s,HNM⟩: ∃s,Hid (Qbe j=s):=⟨_,rfl⟩;rw [HNM.out]at ct;have hs:s.size≤3:=by rw [←HNM.out];exact Qfa _
   have j0:(0:Int)≤(j:Int):=by omega
   have j5:(j:Int)<5:=by omega
   clear hr hu HS2 HT2 BA HNM;go_wp2_with fail
   refine(Mj _ (HS3.out.row HLn.out) (by unfold maxLen;omega)).mono ?_;rintro e w4 ⟨he,hb⟩;have HS4:=hd (HS3.out.below HL.out hb);have HU4:Hid (Upd r W w4):=HU3.out.trans (Upd.of_below (Nat.le_of_lt HS3.out.rd.lt) hb);have HT4:=hd (HT3.out.below HL.out hb);have HZ3:Hid (w.heap.size≤w3.heap.size):=HS3.out.upd.2.2.1;have hz:=Qpv (p:=p) (q:=q) (s:=s) (n:=n) (C:=QA L) (R:=Qz L) (S:=QB L) (fun i hi=>Qlh HS3.out.sz i (by rw [HLn.out];exact hi))
   have hl:=Qlb (p:=p) (q:=q) (s:=s) (n:=n) (C:=QA L) (R:=Qz L) (S:=QB L);cases hen:enF (QA L) (Qz L) (QB L) n p q s with
   | none=>
    rw [hen]at he;obtain rfl:e= .returned (.tuple #[.slice none 0 0,.bool false]):=he;clear hb hz hl hen HS3 HT3;go_wp2_with fail
    go_roundw
    case rel=>exact⟨k-1,L,B,n,c,by omega,by rw [show((k-1:Nat):Int)=(k:Int)-1 by omega],rfl,HLn.out,HS4.out,HT4.out,HU4.out⟩
    case measure=>simp [intOf];omega
   | some M=>
    rw [hen]at he hz hl;obtain⟨B',c',m,rfl,hm,ho⟩:=he;have HM:Hid (ShD w w4 r A len cap (.slice B' m c') M):=⟨by rw [hm];exact Ju ho HZ3.out,by rw [Option.getD_some]at hl;omega,by rw [Option.getD_some]at hz;exact hz,HS4.out.rd,HS4.out.upd⟩;have HMn:Hid (M.length=m):=hm;clear hb hz hl hen HS3 HT3 ho hm;go_wp2_with fail
    go_roundw
    case rel=>exact⟨k-1,M,B',m,c',by omega,by rw [show((k-1:Nat):Int)=(k:Int)-1 by omega],rfl,HMn.out,HM.out,HT4.out,HU4.out⟩
    case measure=>simp [intOf];omega
  ·have q0: ¬(0:Int)<(k:Int):=by omega
   go_wp2_with fail
   go_ret;exact⟨L,B,c,by rw [HLn.out];rfl,by rw [HLn.out];exact HS.out,HT.out,HU.out⟩
structure CR (W:World) (r g m:Nat) (D:Nat→CH):Prop where
 gr:g≠r
 gl:g<W.heap.size
 cell: ∀i,i<m→ ∀j,j<4→W.cell? ⟨g,i*4+j,none⟩=(chL (D i))[j]?
 fz: ∀p,p<m*4→W.frozen? ⟨g,p,none⟩=false
 sz: ∀i,i<m→(D i).f.size≤maxLen∧(D i).t.size≤maxLen
theorem CR.upd {W w':World} {r g m:Nat} {D:Nat→CH} (h:CR W r g m D) (hu:Upd r W w'):CR w' r g m D:=
 ⟨h.gr,Nat.lt_of_lt_of_le h.gl hu.2.2.1,fun i hi j hj=>(hu.1 g _ h.gl h.gr).trans (h.cell i hi j hj),fun p hp=>(hu.2.1 g p h.gl h.gr).trans (h.fz p hp),h.sz⟩
theorem CR.row {W:World} {r g m:Nat} {D:Nat→CH} (h:CR W r g m D) (hm:m≤maxLen):ChRow W (some ⟨g,0,none⟩) m D:=by
 refine⟨hm,fun i hi=>⟨g,0,rfl,h.gl,?_,?_,?_,?_,(h.sz i hi).1,(h.sz i hi).2⟩⟩
 ·rw [Nat.zero_add];exact h.cell i hi 0 (by omega)
 ·rw [Nat.zero_add];exact h.cell i hi 1 (by omega)
 ·rw [Nat.zero_add];exact h.cell i hi 2 (by omega)
 ·rw [Nat.zero_add];exact h.cell i hi 3 (by omega)
def chO (L:List CH) (i:Nat):CH:=(L[i]?).getD ⟨0,0,⟨#[]⟩,⟨#[]⟩⟩
theorem CR.of_own {W:World} {B r g m cap:Nat} {L:List CH} (h:W.ownsRow B 40 4 (.slice (some ⟨g,0,none⟩) m cap) m (Qu chL L)) (hL:L.length=m) (hs: ∀x∈L,x.f.size≤maxLen∧x.t.size≤maxLen) (hr:r<B):CR W r g m (chO L):=by
 obtain⟨A',cap',e,hn,hc⟩:=Qh h;cases e
 have hg:=h.lt g rfl
 have hat: ∀i,i<m→L[i]? =some (chO L i):=fun i hi=>by
  unfold chO;rw [List.getElem?_eq_getElem (by omega)];rfl
 refine⟨by omega,hg.2,fun i hi j hj=> ?_,fun p hp=> ?_,fun i hi=>hs _ (List.mem_of_getElem? (hat i hi))⟩
 ·obtain⟨g',e',_,_,c,_⟩:=hc (i*4+j) (by omega);cases e'
  rw [c,Jb (f:=chL) (k:=4) (fun _=>rfl) j hj,hat i hi];rfl
 ·obtain⟨g',e',_,_,_,f⟩:=hc p hp;cases e'
  exact f
theorem Kj: ∀(a b:List CL),(∀x∈a,x.s.size≤maxLen)→(∀x∈b,x.s.size≤maxLen)→ ∀z∈dfM a b,z.f.size≤maxLen∧z.t.size≤maxLen
 | [],[],_,_,z,hz=>by rw [dfM]at hz;cases hz
 | x::a,[],ha,hb,z,hz=>by
  rw [dfM]at hz;rcases List.mem_cons.1 hz with rfl | hz
  ·exact⟨ha x (by simp),Nat.zero_le _⟩
  ·exact Kj a [] (fun y hy=>ha y (by simp [hy])) hb z hz
 | [],y::b,ha,hb,z,hz=>by
  rw [dfM]at hz;rcases List.mem_cons.1 hz with rfl | hz
  ·exact⟨Nat.zero_le _,hb y (by simp)⟩
  ·exact Kj [] b ha (fun x hx=>hb x (by simp [hx])) z hz
 | x::a,y::b,ha,hb,z,hz=>by
  rw [dfM]at hz;have hx:=ha x (by simp);have hy:=hb y (by simp);have ha': ∀u∈a,u.s.size≤maxLen:=fun u hu=>ha u (by simp [hu]);have hb': ∀u∈b,u.s.size≤maxLen:=fun u hu=>hb u (by simp [hu]);split at hz
  ·rcases List.mem_cons.1 hz with rfl | hz
   ·exact⟨hx,Nat.zero_le _⟩
   ·exact Kj a (y::b) ha' hb z hz
  ·split at hz
   ·rcases List.mem_cons.1 hz with rfl | hz
    ·exact⟨Nat.zero_le _,hy⟩
    ·exact Kj (x::a) b ha hb' z hz
   ·rcases List.mem_cons.1 hz with rfl | hz
    ·exact⟨hx,hy⟩
    ·exact Kj a b ha' hb' z hz
 termination_by a b=>a.length+b.length
theorem Xy: ∀a b:List CL,(dfM a b).length≤a.length+b.length
 | [],[]=>by rw [dfM];simp
 | x::a,[]=>by rw [dfM];have:=Xy a [];simp at this ⊢;omega
 | [],y::b=>by rw [dfM];have:=Xy [] b;simp at this ⊢;omega
 | x::a,y::b=>by
  rw [dfM];have h1:=Xy a (y::b);have h2:=Xy (x::a) b;have h3:=Xy a b;simp only [List.length_cons]at h1 h2 h3 ⊢;split
  ·simp only [List.length_cons];omega
  ·split<;>(simp only [List.length_cons];omega)
 termination_by a b=>a.length+b.length
theorem OU {L M:List CL} {n m:Nat} (hn:L.length=n) (hm:M.length=m) (hL: ∀x∈L,x.s.size≤maxLen) (hM: ∀x∈M,x.s.size≤maxLen) (l1:n≤121) (l2:m≤121):(dfF (QA L) (Qz L) (QB L) n (QA M) (Qz M) (QB M) m).length≤242∧ ∀x∈dfF (QA L) (Qz L) (QB L) n (QA M) (Qz M) (QB M) m,x.f.size≤maxLen∧x.t.size≤maxLen:=by
 subst hn hm;unfold dfF;split
 ·rw [YV,YV];have h4:(dfL L M).length≤(dfM L M).length:=List.length_filter_le _ _;have h3:=Xy L M;exact⟨by omega,fun x hx=>Kj L M hL hM x (List.mem_filter.1 hx).1⟩
 ·exact⟨Nat.zero_le _,fun x hx=>(List.not_mem_nil hx).elim⟩
theorem Qla {a b:List CL} (ha:upC a) (hb:upC b) (na: ∀z∈a,z.s.toList.isEmpty=false) (nb: ∀z∈b,z.s.toList.isEmpty=false) (h: ∀p q,atC p q a=atC p q b):a=b:=by
 refine Yt (r:=fun x y=>ltC x y=true) (fun x y h1 h2=>by
  have h1:=of_decide_eq_true h1;have h2:=of_decide_eq_true h2
  omega) ha hb (fun z=> ?_)
 constructor
 ·intro hz;have e:=Vc ha hz;exact(Vd hb).2 ⟨XY (by rw [←h,e];exact na z hz),by rw [←h];exact e⟩
 ·intro hz;have e:=Vc hb hz;exact(Vd ha).2 ⟨XY (by rw [h,e];exact nb z hz),by rw [h];exact e⟩
theorem DR {X:List CL} {ds:List CH} (hX:upC X) (nX: ∀z∈X,z.s.toList.isEmpty=false) (hdq:ds.Pairwise ltH): ∀z∈spO X X ds,z.s.toList.isEmpty=false:=fun z hz=>by
 rcases(XQ hdq z).1 hz with⟨hz,_⟩ | ⟨c,_,_,rfl,h⟩
 ·exact nX z hz
 ·exact h
theorem Qqy {s:ByteArray} (h:s.toList.isEmpty=true):s=⟨#[]⟩:=by
 rw [ByteArray.toList_eq]at h;have h1:=List.isEmpty_iff.1 h;exact ByteArray.ext (Array.ext' (by rw [h1]))
theorem XA {a b:ByteArray}:(a.toList==b.toList)=true↔a=b:=by
 rw [beq_iff_eq,ByteArray.toList_eq,ByteArray.toList_eq];exact⟨fun h=>ByteArray.ext (Array.ext' h),fun h=>by rw [h]⟩
theorem Qg8 {O X Y:List CL} (hO:upC O) (hX:upC X) (hY:upC Y) (hdq:(dfL O Y).Pairwise ltH) (p q:Int):atC p q (spO X X (dfL O Y))=if atC p q O≠atC p q Y∧atC p q X=atC p q O then atC p q Y else atC p q X:=by
 have hu:=VM (X:=X) (ds:=dfL O Y) hX;have inIff: ∀c:CH,Hi X c=true↔atC c.c c.r X=c.f:=fun c=>by unfold Hi;exact XA
 by_cases hc:atC p q O≠atC p q Y∧atC p q X=atC p q O
 ·rw [if_pos hc];have hm:(⟨p,q,atC p q O,atC p q Y⟩:CH)∈dfL O Y:=(ZP hO hY).2 ⟨rfl,rfl,hc.1⟩;have hi:Hi X ⟨p,q,atC p q O,atC p q Y⟩=true:=(inIff _).2 hc.2;cases hn:(atC p q Y).toList.isEmpty with
  | false=>exact Vc hu (z:=⟨p,q,atC p q Y⟩) ((XQ hdq _).2 (Or.inr ⟨_,hm,hi,rfl,hn⟩))
  | true=>
   rw [Qqy hn];refine Yx (fun⟨z,hz,e1,e2⟩=> ?_);rcases(XQ hdq z).1 hz with⟨_,hno⟩ | ⟨c,hc9,_,rfl,h9⟩
   ·exact hno _ hm hi ⟨e1,e2⟩
   ·have h8:=(ZP hO hY).1 hc9;have e1:c.c=p:=e1;have e2:c.r=q:=e2;rw [h8.2.1,e1,e2,hn]at h9;cases h9
 ·rw [if_neg hc]
  have hno: ∀c∈dfL O Y,Hi X c=true→ ¬(p=c.c∧q=c.r):=fun c hm hi e=>by
   have h8:=(ZP hO hY).1 hm;have h9:=(inIff c).1 hi;rw [←e.1,←e.2]at h8 h9;exact hc ⟨by rw [←h8.1,←h8.2.1];exact h8.2.2,by rw [h9,h8.1]⟩
  by_cases h:Zo p q X
  ·obtain⟨z,hz,rfl,rfl⟩:=h;rw [Vc hX hz];exact Vc hu ((XQ hdq z).2 (Or.inl ⟨hz,hno⟩))
  ·rw [Yx h];refine Yx (fun⟨z,hz,e1,e2⟩=> ?_);rcases(XQ hdq z).1 hz with⟨hz,_⟩ | ⟨c,hm,hi,rfl,_⟩
   ·exact h ⟨z,hz,e1,e2⟩
   ·exact hno c hm hi ⟨e1.symm,e2.symm⟩
theorem Vl {O X Y:List CL} (hO:upC O) (hY:upC Y) (p q:Int):(p,q)∈spC X (dfL O Y)↔atC p q X≠atC p q O∧atC p q Y≠atC p q O∧atC p q X≠atC p q Y:=by
 have noIff: ∀c:CH,EQ X c=true↔atC c.c c.r X≠c.f∧atC c.c c.r X≠c.t:=fun c=>by
  unfold EQ;rw [Bool.and_eq_true,Bool.not_eq_true',Bool.not_eq_true',←Bool.not_eq_true,←Bool.not_eq_true,XA,XA]
 unfold spC;rw [List.mem_map];constructor
 ·rintro⟨c,hc,e⟩;obtain⟨hc,hn⟩:=List.mem_filter.1 hc;have h8:=(ZP hO hY).1 hc;have h9:=(noIff c).1 hn;cases e
  exact⟨by rw [←h8.1];exact h9.1,by rw [←h8.1,←h8.2.1];exact fun e=>h8.2.2 e.symm,by rw [←h8.2.1];exact h9.2⟩
 ·rintro⟨h1,h2,h3⟩;refine⟨⟨p,q,atC p q O,atC p q Y⟩,List.mem_filter.2 ⟨(ZP hO hY).2 ⟨rfl,rfl,fun e=>h2 e.symm⟩,(noIff _).2 ⟨h1,h3⟩⟩,rfl⟩
theorem Qgr {O X Y:List CL} (hO:upC O) (hX:upC X) (hY:upC Y) (d1:(dfL O Y).Pairwise ltH) (d2:(dfL O X).Pairwise ltH):spC Y (dfL O X)=spC X (dfL O Y):=by
 have pw: ∀{Z:List CL} {ds:List CH},ds.Pairwise ltH→(spC Z ds).Pairwise (fun a b:Int × Int=>QF a.1 a.2 b.1 b.2=true):=fun{Z ds} h=>by
  unfold spC;rw [List.pairwise_map];exact h.sublist List.filter_sublist
 refine Yt (r:=fun a b:Int × Int=>QF a.1 a.2 b.1 b.2=true) (fun x y h1 h2=>by
  have h1:=of_decide_eq_true h1;have h2:=of_decide_eq_true h2
  omega) (pw d2) (pw d1) (fun z=> ?_)
 obtain⟨p,q⟩:=z;rw [Vl hO hX,Vl hO hY];exact⟨fun⟨h1,h2,h3⟩=>⟨h2,h1,fun e=>h3 e.symm⟩,fun⟨h1,h2,h3⟩=>⟨h2,h1,fun e=>h3 e.symm⟩⟩
theorem Qf5 {O X Y:List CL} (hO:upC O) (hX:upC X) (hY:upC Y) (nX: ∀z∈X,z.s.toList.isEmpty=false) (nY: ∀z∈Y,z.s.toList.isEmpty=false) (d1:(dfL O Y).Pairwise ltH) (d2:(dfL O X).Pairwise ltH) (hc:spC X (dfL O Y)= []):spO Y Y (dfL O X)=spO X X (dfL O Y):=by
 refine Qla (VM hY) (VM hX) (DR hY nY d2) (DR hX nX d1) (fun p q=> ?_)
 have hno: ¬(atC p q X≠atC p q O∧atC p q Y≠atC p q O∧atC p q X≠atC p q Y):=fun h=>by
  have h9:=(Vl (X:=X) hO hY p q).2 h;rw [hc]at h9;cases h9
 rw [Qg8 hO hY hX d2,Qg8 hO hX hY d1];by_cases e1:atC p q X=atC p q O
 ·by_cases e2:atC p q Y=atC p q O
  ·simp [e1,e2]
  ·have e2': ¬atC p q O=atC p q Y:=fun e=>e2 e.symm;simp [e1,e2,e2']
 ·by_cases e2:atC p q Y=atC p q O
  ·have e1': ¬atC p q O=atC p q X:=fun e=>e1 e.symm;simp [e1,e2,e1']
  ·have e3:atC p q X=atC p q Y:=by
    by_cases e:atC p q X=atC p q Y
    ·exact e
    ·exact absurd ⟨e1,e2,e⟩ hno
   simp [e3,e2]
theorem Qo8 {O:List CL} (hO:upC O):dfL O O= []:=List.eq_nil_iff_forall_not_mem.2 (fun c hc=>by
 have h9:=(ZP hO hO).1 hc
 exact h9.2.2 (h9.1.trans h9.2.1.symm))
theorem Qgs {O Y:List CL} (hO:upC O) (hY:upC Y):spC O (dfL O Y)= []:=List.eq_nil_iff_forall_not_mem.2 (fun c hc=>((Vl (X:=O) hO hY c.1 c.2).1 hc).1 rfl)
theorem Qf6 {O Y:List CL} (hO:upC O) (hY:upC Y) (nO: ∀z∈O,z.s.toList.isEmpty=false) (nY: ∀z∈Y,z.s.toList.isEmpty=false) (hdq:(dfL O Y).Pairwise ltH):spO O O (dfL O Y)=Y:=by
 refine Qla (VM hO) hY (DR hO nO hdq) nY (fun p q=> ?_);rw [Qg8 hO hO hY hdq];by_cases e:atC p q O=atC p q Y
 ·simp [e]
 ·simp [e]
theorem Qf7 {O X Y:List CL} (hO:upC O) (hX:upC X) (hY:upC Y) (hdq:(dfL O Y).Pairwise ltH) (hc:spC X (dfL O Y)= []) (p q:Int):(atC p q (spO X X (dfL O Y))=atC p q X∨atC p q (spO X X (dfL O Y))=atC p q Y)∧(atC p q X=atC p q Y→atC p q (spO X X (dfL O Y))=atC p q X):=by
 rw [Qg8 hO hX hY hdq];split
 ·exact⟨Or.inr rfl,fun e=>e.symm⟩
 ·exact⟨Or.inl rfl,fun _=>rfl⟩
theorem Mg {L:List CL} (h:Qm (QA L) (Qz L) (QB L) L.length=true) (p q:Int):Oh (QA L) (Qz L) (QB L) L.length p q=atC p q L:=by
 have hr:=RunOk.start h;unfold Oh;rw [h,if_pos rfl];by_cases hp:Zo p q L
 ·obtain⟨z,hz,rfl,rfl⟩:=hp;rw [Qhq hr.up hz,Vc hr.up hz]
 ·rw [Yx hp]
  exact Mh _ (fun i hi e=>hp (by
   have c:=Kl hi
   exact⟨L[i],List.getElem_mem hi,by rw [←c.1];exact e.1,by rw [←c.2.1];exact e.2⟩))
theorem RunOk.merged {O X Y:List CL} (hO:RunOk O) (hX:RunOk X) (hY:RunOk Y) (hdq:(dfL O Y).Pairwise ltH):RunOk (spO X X (dfL O Y)):=by
 refine⟨VM hX.up,fun z hz=> ?_⟩;rcases(XQ hdq z).1 hz with⟨hz,_⟩ | ⟨c,hc,_,rfl,h9⟩
 ·exact hX.all z hz
 ·have h8:=(ZP hO.up hY.up).1 hc;have hne:(atC c.c c.r Y).toList.isEmpty=false:=by rw [←h8.2.1];exact h9
  have hm:=(Vd hY.up (z:=⟨c.c,c.r,atC c.c c.r Y⟩)).2 ⟨XY hne,rfl⟩;have ha:Qi c.c c.r=true∧(atC c.c c.r Y).toList.isEmpty=false∧YQ (atC c.c c.r Y)=true:=hY.all _ hm;rw [←h8.2.1]at ha;exact ha
theorem Jw {X:List CL} {ds:List CH}:mgF true X ds=if spC X ds= []then(if 120<(spO X X ds).length then([],[],false)else(spO X X ds,[],true))else([],spC X ds,false):=by
 unfold mgF;rw [if_pos rfl]
structure MtF (O X Y:List CL) (r:MgT):Prop where
 sym:mgF true Y (dfL O X)=r
 one:mgF true X (dfL O O)=(X,[],true)
 two:mgF true O (dfL O Y)=(Y,[],true)
 hit: ∀p q,(p,q)∈r.2.1↔atC p q X≠atC p q O∧atC p q Y≠atC p q O∧atC p q X≠atC p q Y
 has:r.2.2=true→r.2.1= []∧Qm (QA r.1) (Qz r.1) (QB r.1) r.1.length=true∧ ∀p q,(atC p q r.1=atC p q X∨atC p q r.1=atC p q Y)∧(atC p q X=atC p q Y→atC p q r.1=atC p q X)
theorem Qq0 {O X Y:List CL} (h0:Qm (QA O) (Qz O) (QB O) O.length=true) (h1:Qm (QA X) (Qz X) (QB X) X.length=true) (h2:Qm (QA Y) (Qz Y) (QB Y) Y.length=true):MtF O X Y (mgF true X (dfL O Y)):=by
 have rO:=RunOk.start h0;have rX:=RunOk.start h1;have rY:=RunOk.start h2;have lX:=(Qx h1).1;have lY:=(Qx h2).1;have d1:(dfL O Y).Pairwise ltH:=(Yl O Y rO.up rY.up).2.sublist List.filter_sublist;have d2:(dfL O X).Pairwise ltH:=(Yl O X rO.up rX.up).2.sublist List.filter_sublist
 have nX: ∀z∈X,z.s.toList.isEmpty=false:=fun z hz=>(rX.all z hz).2.1;have nY: ∀z∈Y,z.s.toList.isEmpty=false:=fun z hz=>(rY.all z hz).2.1;have nO: ∀z∈O,z.s.toList.isEmpty=false:=fun z hz=>(rO.all z hz).2.1;have cs:=Qgr rO.up rX.up rY.up d1 d2;refine⟨?_,?_,?_,fun p q=> ?_,fun hr=> ?_⟩
 ·rw [Jw,Jw,cs];by_cases hc:spC X (dfL O Y)= []
  ·rw [if_pos hc,if_pos hc,Qf5 rO.up rX.up rY.up nX nY d1 d2 hc]
  ·rw [if_neg hc,if_neg hc]
 ·rw [Jw,Qo8 rO.up];exact(if_pos rfl).trans (if_neg (show¬120<X.length by omega))
 ·rw [Jw,Qgs rO.up rY.up,if_pos rfl,Qf6 rO.up rY.up nO nY d1,if_neg (by omega)]
 ·rw [Jw,←Vl (X:=X) rO.up rY.up];by_cases hc:spC X (dfL O Y)= []
  ·rw [if_pos hc,hc];split<;>exact Iff.rfl
  ·rw [if_neg hc]
 ·rw [Jw]at hr ⊢;by_cases hc:spC X (dfL O Y)= []
  ·rw [if_pos hc]at hr ⊢;by_cases hl:120<(spO X X (dfL O Y)).length
   ·rw [if_pos hl]at hr;cases hr
   ·rw [if_neg hl];exact⟨rfl,(rO.merged rX rY d1).ok (by omega),fun p q=>Qf7 rO.up rX.up rY.up d1 hc p q⟩
  ·rw [if_neg hc]at hr;cases hr
def mg3 (O X Y:List CL) (n0 n1 n2:Nat):MgT:=mgF (Qm (QA O) (Qz O) (QB O) n0&&Qm (QA X) (Qz X) (QB X) n1&&Qm (QA Y) (Qz Y) (QB Y) n2) (clE (QA X) (Qz X) (QB X) n1) (dfF (QA O) (Qz O) (QB O) n0 (QA Y) (Qz Y) (QB Y) n2)
structure ShR (W:World) (B:Option Addr) (n:Nat) (L:List CL):Prop where
 len:L.length=n
 row:ClRow W B n (QA L) (Qz L) (QB L)
 sz: ∀x∈L,x.s.size≤maxLen
 lim:n≤121
theorem ShD.shr {w W:World} {r len cap n c:Nat} {A B:Option Addr} {L:List CL} (h:ShD w W r A len cap (.slice B n c) L) (hn:L.length=n):ShR W B n L:=⟨hn,h.row hn,h.sz,by have:=h.lim;rw [hn]at this;exact this⟩
def DfD3 (w:World) (e:Ending) (w':World):Prop:= ∃(O:List CL) (B0:Option Addr) (n0 c0:Nat) (X:List CL) (B1:Option Addr) (n1 c1:Nat) (Y:List CL) (B2:Option Addr) (n2 c2:Nat),e= .returned (.tuple #[.slice B0 n0 c0,.slice B1 n1 c1,.slice B2 n2 c2])∧ShR w' B0 n0 O∧ShR w' B1 n1 X∧ShR w' B2 n2 Y∧Below w.heap.size w w'
theorem EB (H1:FtX 1 69) (H2:FtX 2 228) (A:Option Addr) (len cap:Nat) (w:World) (h:Cd w A len):Calls Tryz.prog 19 #[.slice A len cap] w (DfD3 w):=by
 have HH:Hid (Cd w A len):=h;clear h;go_enter Tryz.func19,Tryz.ntmps19;go_wp2_with fail
 refine(Hh A len cap _).mono ?_;rintro e w1 ⟨rfl,hw1⟩;have HR1:Hid (Rd w1 w.heap.size A len cap):=by show Rd _ _ _ _ _;rw [←hw1];exact HH.out.open (Below.refl _ _) rfl
 have BW:Hid (Below w.heap.size w w1):=by show Below _ _ _;rw [←hw1];exact(Below.refl _ _).alloc (Nat.le_refl _) _
 have HLT:Hid (w.heap.size<w1.heap.size):=HR1.out.lt;clear hw1;go_wp2_with fail
 refine(Na H1 H2 w.heap.size A len cap 8 _ HR1.out (by omega) (by omega)).mono ?_;rintro e w2 ⟨L,B,c,rfl,hsh⟩;obtain⟨n,HLn⟩: ∃n,Hid (L.length=n):=⟨_,rfl⟩;rw [HLn.out]at hsh ⊢;have HS2:Hid (ShD w1 w2 w.heap.size A len cap (.slice B n c) L):=hsh;clear hsh;go_wp2_with fail
 refine(Be w.heap.size A len cap 3 w1 _ HS2.out HLn.out HLT.out (by omega) (by omega)).mono ?_;rintro e w3 ⟨X,B',c',rfl,hm,hl,_⟩;obtain⟨m,HXm⟩: ∃m,Hid (X.length=m):=⟨_,rfl⟩;rw [HXm.out]at hm ⊢;have HX3:Hid (ShD w1 w3 w.heap.size A len cap (.slice B' m c') X):=hm;have HS3:Hid (ShD w1 w3 w.heap.size A len cap (.slice B n c) L):=hl;clear hm hl HS2
 go_wp2_with fail
 refine(Be w.heap.size A len cap 3 w1 _ HS3.out HLn.out HLT.out (by omega) (by omega)).mono ?_;rintro e w4 ⟨Y,B2,c2,rfl,hm,hl,hu⟩;obtain⟨k,HYk⟩: ∃k,Hid (Y.length=k):=⟨_,rfl⟩;rw [HYk.out]at hm ⊢;have HY4:Hid (ShD w1 w4 w.heap.size A len cap (.slice B2 k c2) Y):=hm;have HS4:Hid (ShD w1 w4 w.heap.size A len cap (.slice B n c) L):=hl;have HX4:Hid (ShD w1 w4 w.heap.size A len cap (.slice B' m c') X):=HX3.out.keep HLT.out hu hl.rd
 clear hm hl hu HX3 HS3;go_wp2_with fail
 refine bodyPost_ret (v:= .tuple #[.slice B n c,.slice B' m c',.slice B2 k c2]) ?_ rfl ⟨L,B,n,c,X,B',m,c',Y,B2,k,c2,rfl,HS4.out.shr HLn.out,HX4.out.shr HXm.out,HY4.out.shr HYk.out,BW.out.trans HS4.out.upd.2.2.2.1⟩;simp (maxDischargeDepth:=9) [results,Tryz.results19,go_sem, *]
theorem Yk {A A':Option Addr} {n cap cap':Nat} {P:List (Int × Int)} (w:World) (h:RfR w A n P) (h':RfR w A' n P):
  Calls Tryz.prog 22 #[.slice A n cap,.slice A' n cap'] w fun e w'=>e= .returned (.bool true)∧Below w.heap.size w w':=by
 have HR:Hid (RfR w A n P):=h;have HR':Hid (RfR w A' n P):=h';have hn:=h.lim;unfold maxLen at hn;clear h h';go_enter Tryz.func22,Tryz.ntmps22;go_wp2_with fail
 go_loopw [5] (fun i wr=> ∃k:Nat,k≤n∧i= .int .i64 k∧Below w.heap.size w wr) (fun i _=>n-(intOf i).toNat)
 case atStart=>exact⟨0,Nat.zero_le _,rfl,Below.refl _ _⟩
 case round=>
  obtain⟨k,hk,rfl,hbel⟩:=hrel;by_cases hlt:k<n
  ·obtain⟨b,o,rfl,hl,c0,c1⟩:=HR.out.at_ k hlt;obtain⟨b',o',rfl,hl',c0',c1'⟩:=HR'.out.at_ k hlt;rw [←hbel.cell (p:=⟨_,_,none⟩) hl]at c0 c1;rw [←hbel.cell (p:=⟨_,_,none⟩) hl']at c0' c1';have h0:(0:Int)≤(k:Int):=by omega
   have h1:(k:Int)<(n:Int):=by omega
   obtain⟨x,HX⟩: ∃x,Hid (P.getD k (0,0)=x):=⟨_,rfl⟩;rw [HX.out]at c0 c1 c0' c1';obtain⟨x1,x2⟩:=x;simp only at c0 c1 c0' c1';go_wp2_with fail
   go_region
   all_goals go_wp2_with fail
   all_goals
    go_roundw
    case rel=>exact⟨k+1,by omega,by go_num,by go_grown⟩
    case measure=>simp [intOf];omega
  ·have h1: ¬(k:Int)<(n:Int):=by omega
   go_wp2_with fail
   go_ret;exact⟨rfl,hbel⟩
theorem Qdm {a b:Bool} (h:b=a):Ending.returned (.bool a)= .returned (.bool b):=by rw [h]
theorem Qjl {P:List (Int × Int)} {k:Nat} (hk:k<P.length):P.getD k (0,0)∈P:=by
 rw [List.getD_eq_getElem?_getD,List.getElem?_eq_getElem hk];exact List.getElem_mem _
theorem XJ {A:Option Addr} {n cap:Nat} {P:List (Int × Int)} (p q:Int) (w:World) (h:RfR w A n P):
  Calls Tryz.prog 23 #[.slice A n cap,.agg #[.int .i64 p,.int .i64 q]] w fun e w'=>e= .returned (.bool (decide ((p,q)∈P)))∧Below w.heap.size w w':=by
 have HR:Hid (RfR w A n P):=h;have hn:=h.lim;unfold maxLen at hn;clear h;go_enter Tryz.func23,Tryz.ntmps23;go_wp2_with fail
 obtain⟨X,HX⟩: ∃X,Hid (w.alloc (.cells #[.int .i64 p,.int .i64 q] 38)=X):=⟨_,rfl⟩;rw [HX.out];have x0:X.cell? ⟨w.heap.size,0,none⟩=some (.int .i64 p):=by rw [←HX.out];simp
 have x1:X.cell? ⟨w.heap.size,1,none⟩=some (.int .i64 q):=by rw [←HX.out];simp
 have xl:w.heap.size<X.heap.size:=by rw [←HX.out];simp
 have BX:Hid (Below w.heap.size w X):=by show Below _ _ _;rw [←HX.out];exact(Below.refl _ _).alloc (Nat.le_refl _) _
 have HRX:=hd (HR.out.below BX.out);clear HX;go_loopw [5] (fun i wr=> ∃k:Nat,k≤n∧i= .int .i64 k∧(∀j,j<k→P.getD j (0,0)≠(p,q))∧Below X.heap.size X wr) (fun i _=>n-(intOf i).toNat)
 case atStart=>exact⟨0,Nat.zero_le _,rfl,fun j hj=>absurd hj (Nat.not_lt_zero _),Below.refl _ _⟩
 case round=>
  obtain⟨k,hk,rfl,hall,hbel⟩:=hrel;have HAL:Hid (∀j,j<k→P.getD j (0,0)≠(p,q)):=hall;have BL:Hid (Below X.heap.size X wr):=hbel;replace x0:=(hbel.cell (p:=⟨w.heap.size,0,none⟩) xl).trans x0;replace x1:=(hbel.cell (p:=⟨w.heap.size,1,none⟩) xl).trans x1;have xlw:=Nat.lt_of_lt_of_le xl hbel.size;clear hall
  by_cases hlt:k<n
  ·obtain⟨b,o,rfl,hl,c0,c1⟩:=HRX.out.at_ k hlt;rw [←hbel.cell (p:=⟨_,_,none⟩) hl]at c0 c1;have h0:(0:Int)≤(k:Int):=by omega
   have h1:(k:Int)<(n:Int):=by omega
   have HME:Hid (P.getD k (0,0)∈P):=Qjl (by rw [HRX.out.len];exact hlt);obtain⟨x,HX⟩: ∃x,Hid (P.getD k (0,0)=x):=⟨_,rfl⟩;rw [HX.out]at c0 c1 HME;obtain⟨a1,a2⟩:=x;simp only at c0 c1;by_cases e1:a1=p
   ·by_cases e2:a2=q
    ·subst e1 e2;have HT:Hid (decide ((a1,a2)∈P)=true):=decide_eq_true HME.out;go_wp2_with fail
     go_region
     all_goals go_wp2_with fail
     all_goals
      go_ret;exact⟨Qdm HT.out,Qb BX.out (Qb BL.out (by go_grown))⟩
    ·have HNX:Hid (∀j,j<k+1→P.getD j (0,0)≠(p,q)):=fun j hj=>by
      by_cases e:j=k
      ·subst e;rw [HX.out];exact fun e=>e2 (congrArg Prod.snd e)
      ·exact HAL.out j (by omega)
     subst e1;have hne:(a2==q)=false:=by simpa using e2
     go_wp2_with fail
     go_region
     all_goals go_wp2_with fail
     all_goals
      go_roundw
      case rel=>exact⟨k+1,by omega,by go_num,HNX.out,Qb BL.out (by go_grown)⟩
      case measure=>simp [intOf];omega
   ·have HNX:Hid (∀j,j<k+1→P.getD j (0,0)≠(p,q)):=fun j hj=>by
     by_cases e:j=k
     ·subst e;rw [HX.out];exact fun e=>e1 (congrArg Prod.fst e)
     ·exact HAL.out j (by omega)
    have hne:(a1==p)=false:=by simpa using e1
    go_wp2_with fail
    go_region
    all_goals go_wp2_with fail
    all_goals
     go_roundw
     case rel=>exact⟨k+1,by omega,by go_num,HNX.out,Qb BL.out (by go_grown)⟩
     case measure=>simp [intOf];omega
  ·have h1: ¬(k:Int)<(n:Int):=by omega
   have HT:Hid (decide ((p,q)∈P)=false):=decide_eq_false (fun hm=>by
    obtain⟨j,hj,e⟩:=List.mem_iff_getElem.1 hm;refine HAL.out j (by have:=HRX.out.len;omega) ?_;rw [List.getD_eq_getElem?_getD,List.getElem?_eq_getElem hj]
    exact e)
   go_wp2_with fail
   go_ret;exact⟨Qdm HT.out,Qb BX.out hbel⟩
end Go.Proofs.YthjldgbfgapbcaaGreatDoor
namespace Go.Proofs.YthjldgbfgapbcaaGreatDoor
open Go.RowKit Go.Maps
theorem ShR.below {W W':World} {B:Option Addr} {n:Nat} {L:List CL} (h:ShR W B n L) (hb:Below W.heap.size W W'):ShR W' B n L:=⟨h.len,h.row.below hb,h.sz,h.lim⟩
theorem Qf3 {ok:Bool} {X:List CL} {ds:List CH} (hdq:ds.length≤242) (hX: ∀x∈X,x.s.size≤maxLen) (hs: ∀c∈ds,c.f.size≤maxLen∧c.t.size≤maxLen):(mgF ok X ds).1.length≤120∧(mgF ok X ds).2.1.length≤242∧ ∀x∈(mgF ok X ds).1,x.s.size≤maxLen:=by
 have h1:=Qdh X ds;unfold mgF;split
 ·split
  ·split
   ·exact⟨Nat.zero_le _,Nat.zero_le _,fun x hx=>by cases hx⟩
   ·exact⟨by simp only;omega,Nat.zero_le _,Qcw hX hs⟩
  ·exact⟨Nat.zero_le _,by simp only;omega,fun x hx=>by cases hx⟩
 ·exact⟨Nat.zero_le _,Nat.zero_le _,fun x hx=>by cases hx⟩
def MgP (w':World) (r:MgT) (e:Ending):Prop:= ∃A c A' c',e= .returned (.tuple #[.slice A r.1.length c,.slice A' r.2.1.length c',.bool r.2.2])∧ShR w' A r.1.length r.1∧RfR w' A' r.2.1.length r.2.1
theorem GG {ML:List CL} {CC:List (Int × Int)} {ok:Bool} {mn mr:Nat} {w':World} {e:Ending} (h1:ML.length=mn) (h2:CC.length=mr) (h:MgP w' (ML,CC,ok) e): ∃A c A' c',e= .returned (.tuple #[.slice A mn c,.slice A' mr c',.bool ok])∧ShR w' A mn ML∧RfR w' A' mr CC:=by
 subst h1 h2;exact h
theorem MgP.of {B:Nat} {w':World} {r:MgT} {e:Ending} (h:MgR B w' r e) (hz:r.1.length≤120∧r.2.1.length≤242∧ ∀x∈r.1,x.s.size≤maxLen):MgP w' r e:=by
 obtain⟨A,c,A',c',rfl,ho,ho'⟩:=h;exact⟨A,c,A',c',rfl,⟨rfl,Xv ho rfl hz.2.2,hz.2.2,by omega⟩,RfR.of_own ho' rfl⟩
theorem Ue {W:World} {A0 A A':Option Addr} {n0 n1 n2:Nat} {O X Y:List CL} (h0:ShR W A0 n0 O) (h1:ShR W A n1 X) (h2:ShR W A' n2 Y):(mg3 O X Y n0 n1 n2).1.length≤120∧(mg3 O X Y n0 n1 n2).2.1.length≤242∧ ∀x∈(mg3 O X Y n0 n1 n2).1,x.s.size≤maxLen:=by
 have hdq:=OU h0.len h2.len h0.sz h2.sz h0.lim h2.lim;refine Qf3 hdq.1 ?_ hdq.2;have e:=h1.len;subst e;rw [YV];exact h1.sz
theorem Xg {A0 A A':Option Addr} {n0 cap0 n1 cap1 n2 cap2:Nat} {O X Y:List CL} (w:World) (h0:ShR w A0 n0 O) (h1:ShR w A n1 X) (h2:ShR w A' n2 Y) (hg:GI w):Calls Tryz.prog 20 #[.slice A0 n0 cap0,.slice A n1 cap1,.slice A' n2 cap2] w fun e w'=>MgP w' (mg3 O X Y n0 n1 n2) e∧Below w.heap.size w w':=
 (Ew w h0.row h1.row h2.row hg).mono fun e w' ⟨h,hb⟩=>⟨MgP.of h (Ue h0 h1 h2),hb⟩
theorem Dx {A0 A A':Option Addr} {n0 cap0 n1 cap1 n2 cap2:Nat} {O X Y:List CL} (w:World) (h0:ShR w A0 n0 O) (h1:ShR w A n1 X) (h2:ShR w A' n2 Y):Calls Tryz.prog 21 #[.slice A0 n0 cap0,.slice A n1 cap1,.slice A' n2 cap2] w fun e w'=>MgP w' (mg3 O X Y n0 n1 n2) e∧Below w.heap.size w w':=
 (Eo w h0.row h1.row h2.row).mono fun e w' ⟨h,hb⟩=>⟨MgP.of h (Ue h0 h1 h2),hb⟩
structure Mt3 (O X Y:List CL) (n0 n1 n2:Nat) (ML:List CL) (CC:List (Int × Int)) (ok:Bool) (mn:Nat):Prop where
 sym:mg3 O Y X n0 n2 n1=(ML,CC,ok)
 one:mg3 O X O n0 n1 n0=(X,[],true)
 two:mg3 O O Y n0 n0 n2=(Y,[],true)
 nil:ok=true→CC.length=0
 at_: ∀p q:Int,∃(P Q R M:ByteArray) (b1 b2 b3 b4 b5:Bool),Oh (QA O) (Qz O) (QB O) n0 p q=P∧Oh (QA X) (Qz X) (QB X) n1 p q=Q∧Oh (QA Y) (Qz Y) (QB Y) n2 p q=R∧Oh (QA ML) (Qz ML) (QB ML) mn p q=M∧
  (Q.toList==P.toList)=b1∧(R.toList==P.toList)=b2∧(Q.toList==R.toList)=b3∧(M.toList==Q.toList)=b4∧(M.toList==R.toList)=b5∧decide ((p,q)∈CC)=(!b1&&(!b2&& !b3))∧(ok=true→(b4=true∨b5=true)∧(b3=true→b4=true))
theorem MB {O X Y:List CL} {n0 n1 n2:Nat} (e0:O.length=n0) (e1:X.length=n1) (e2:Y.length=n2) (h0:Qm (QA O) (Qz O) (QB O) n0=true) (h1:Qm (QA X) (Qz X) (QB X) n1=true) (h2:Qm (QA Y) (Qz Y) (QB Y) n2=true):mg3 O X Y n0 n1 n2=mgF true X (dfL O Y):=by
 subst e0 e1 e2;unfold mg3 dfF;rw [h0,h1,h2,if_pos ⟨rfl,rfl⟩,YV,YV,YV];rfl
theorem Qir {O X Y:List CL} {n0 n1 n2 mn:Nat} {ML:List CL} {CC:List (Int × Int)} {ok:Bool} (e0:O.length=n0) (e1:X.length=n1) (e2:Y.length=n2) (em:ML.length=mn) (h0:Qm (QA O) (Qz O) (QB O) n0=true) (h1:Qm (QA X) (Qz X) (QB X) n1=true) (h2:Qm (QA Y) (Qz Y) (QB Y) n2=true) (h:mg3 O X Y n0 n1 n2=(ML,CC,ok)):Mt3 O X Y n0 n1 n2 ML CC ok mn:=by
 rw [MB e0 e1 e2 h0 h1 h2]at h;have hm:MtF O X Y (mgF true X (dfL O Y)):=Qq0 (by rw [e0];exact h0) (by rw [e1];exact h1) (by rw [e2];exact h2);rw [h]at hm;refine⟨?_,?_,?_,fun hr=> ?_,fun p q=> ?_⟩
 ·rw [MB e0 e2 e1 h0 h2 h1];exact hm.sym
 ·rw [MB e0 e1 e0 h0 h1 h0];exact hm.one
 ·rw [MB e0 e0 e2 h0 h0 h2];exact hm.two
 ·rw [show CC= []from(hm.has hr).1];rfl
 ·subst e0 e1 e2 em;refine⟨_,_,_,_,_,_,_,_,_,Mg h0 p q,Mg h1 p q,Mg h2 p q,rfl,rfl,rfl,rfl,rfl,rfl,?_,fun hr=> ?_⟩
  ·have h9:=hm.hit p q;rw [Bool.eq_iff_iff,decide_eq_true_iff];simp only [Bool.and_eq_true,Bool.not_eq_true',←Bool.not_eq_true,XA];exact h9
  ·obtain⟨_,hk,ha⟩:=hm.has hr;rw [Mg hk];obtain⟨h8,h9⟩:=ha p q;rw [XA,XA,XA];exact⟨h8,h9⟩
def Qtv (W:World) (A:Option Addr) (n:Nat):Prop:= ∀i,i<n→ ∃b o p q,A=some ⟨b,o,none⟩∧b<W.heap.size∧W.cell? ⟨b,o+i*3,none⟩=some (.int .i64 p)∧W.cell? ⟨b,o+i*3+1,none⟩=some (.int .i64 q)∧Qi p q=true
theorem Qpk {W:World} {B n cap:Nat} {A:Option Addr} {L:List CL} (h:W.ownsRow B 49 3 (.slice A n cap) n (Qu CL.cs L)) (hL:L.length=n) (hr: ∀x∈L,Qi x.c x.r=true):Qtv W A n:=fun i hi=>by
 obtain⟨A',cap',e,hn,hc⟩:=Qh h;cases e
 obtain⟨x,hat⟩: ∃x,L[i]? =some x:=⟨L[i]'(by omega),List.getElem?_eq_getElem (by omega)⟩
 have cell: ∀j,j<3→ ∃g,A=some ⟨g,0,none⟩∧g<W.heap.size∧W.cell? ⟨g,i*3+j,none⟩=(CL.cs x)[j]?:=fun j hj=>by
  obtain⟨g,e,_,hl,c,_⟩:=hc (i*3+j) (by omega);refine⟨g,e,hl,?_⟩;rw [c,Jb (f:=CL.cs) (k:=3) (fun _=>rfl) j hj,hat];rfl
 obtain⟨g,rfl,hl,c0⟩:=cell 0 (by omega);obtain⟨g1,e1,_,c1⟩:=cell 1 (by omega);cases e1
 exact⟨g,0,x.c,x.r,rfl,hl,by rw [Nat.zero_add];exact c0,by rw [Nat.zero_add];exact c1,hr x (List.mem_of_getElem? hat)⟩
theorem Qm4 {p q:Int} (h:Qi p q=true):(Lit.int .i64 p).wf=true∧(Lit.int .i64 q).wf=true:=by
 have hb:IntKind.i64.min= -9223372036854775808∧IntKind.i64.max=9223372036854775807:=⟨by kernel_rfl,by kernel_rfl⟩;simp only [Qi,Bool.and_eq_true,decide_eq_true_eq]at h;simp only [Lit.wf,hb.1,hb.2,Bool.and_eq_true,decide_eq_true_eq];omega
theorem Qbv {W:World} {B g:Nat} {e:TypeId} {size:Nat} (hB:B≤W.heap.size) (hg:g=W.heap.size):(W.alloc (.cells #[] e)).ownsRow B e size (.slice (some ⟨g,0,none⟩) 0 0) 0 []:=by
 subst hg;exact World.ownsRow_made W #[] 0 hB (Nat.zero_le _) (by simp)
theorem XL {ops:Array Oper} {rest:List Oper} {o:Oper} {a:Act} {Q:Exit→Act→World→Prop} {W:World} (hgd:o.guard=none) (s x:Operand) (ho:o.op= .call {callee:= .builtin .append,args:= #[s,x],argTypes:= #[24,24]}) (B:Nat) (v:Value) (m:Nat) (L0:List CL) (hs:a.eval s=v)
  (hown:W.ownsRow B 49 3 v m (Qu CL.cs L0)) (A:Option Addr) (n c:Nat) (L:List CL) (hsh:ShR W A n L) (hx:a.eval x= .slice A n c) (hm:m≤1000) (hB:B≤W.heap.size) (k:Nat) (hk:m+n=k)
  (h: ∀A' c' w',w'.ownsRow B 49 3 (.slice A' k c') k (Qu CL.cs (L0++L))→W.grownBy w' v.ownBlock→wpList Tryz.prog ops Q rest (a.put o.dst (.slice A' k c')) w'):wpList Tryz.prog ops Q (o::rest) a W:=by
 subst hk;obtain⟨i0,hi,iz0,iz1,iz2⟩:=info_parts NM
 have hxs:clX (QA L) (Qz L) (QB L) n=Qu CL.cs L:=by
  have e:=hsh.len;subst e;rw [Gr,YV]
 have hfl:Qu CL.cs (L0++L)=Qu CL.cs L0++Qu CL.cs L:=by unfold Qu;rw [List.flatMap_append]
 cases A with
 | none=>
  have hn0:=Qen hsh.row rfl;subst hn0;have hL:L= []:=List.length_eq_zero_iff.1 hsh.len;subst hL;rw [Nat.add_zero,List.append_nil]at h;obtain⟨A',cap',rfl,_,_⟩:=Qh hown;exact Xi hgd s x 24 ho B 49 i0 3 c Tryz.underlying24 hi _ m _ hs hown hx (h _ _ W hown (World.grownBy.refl _ _))
 | some ad=>
  have hlim:=hsh.lim;refine wpList_append_own W hgd s x 24 ho B 49 i0 (.agg #[.int .i64 0,.int .i64 0,.string ⟨#[]⟩]) 3 32 Tryz.underlying24 hi iz0 iz1 iz2 rfl (by decide) v m _ hs hown ad n c (clX (QA L) (Qz L) (QB L) n) hx (MR _ _ _ _) (Qa1 hsh.row ad rfl) (Qeo _ _ _ _) (by unfold maxLen;omega) (by omega) hB ?_;intro v' w' ho' hg' _;rw [hxs,←hfl]at ho';obtain⟨A',cap',rfl,_,_⟩:=Qh ho';exact h A' cap' w' ho' hg'
theorem Bc {L:List CL} {n:Nat} (e:L.length=n) (h:Qm (QA L) (Qz L) (QB L) n=true): ∀x∈L,Qi x.c x.r=true:=fun x hx=>by
 subst e;exact((RunOk.start h).all x hx).1
theorem Ql3 (H1:FtX 1 69) (H2:FtX 2 228) (A:Option Addr) (len cap:Nat) (w:World) (hz:len≤1048576→Cd w A len) (hg:GI w):Calls Tryz.prog 5 #[.slice A len cap] w fun e w'=>
  e= .returned (.bool true)∧Below w.heap.size w w':=by
 have HG:Hid (GI w):=hg;clear hg;by_cases hbig:(1048576:Int)<(len:Int)
 ·go_enter Tryz.func5,Tryz.ntmps5;go_wp2_with fail
  refine(VA A len cap _).mono ?_;rintro e wq ⟨rfl,hw⟩;subst wq;go_wp2_with fail
  go_ret;exact⟨rfl,by go_grown⟩
 have HC:Hid (Cd w A len):=hz (by omega);clear hz;go_enter Tryz.func5,Tryz.ntmps5;go_wp2_with fail
 refine(VA A len cap _).mono ?_;rintro e wq ⟨rfl,hw⟩;subst wq;go_wp2_with fail
 refine(EB H1 H2 A len cap _ HC.out).mono ?_;rintro e w1 ⟨O,B0,n0,c0,X,B1,n1,c1,Y,B2,n2,c2,rfl,hO,hX,hY,hb⟩;have K:Hid (Below w.heap.size w w1):=hb;have HO:Hid (ShR w1 B0 n0 O):=hO;have HX:Hid (ShR w1 B1 n1 X):=hX;have HY:Hid (ShR w1 B2 n2 Y):=hY;have hn0:=hO.lim
 have hn1:=hX.lim;have hn2:=hY.lim;have HSM:=Ue hO hX hY;clear hb hO hX hY;obtain⟨RS,HRS⟩: ∃RS,Hid (mg3 O X Y n0 n1 n2=RS):=⟨_,rfl⟩;rw [HRS.out]at HSM;obtain⟨ML,CC,ok⟩:=RS
 obtain⟨mn,HMN⟩: ∃mn,Hid (ML.length=mn):=⟨_,rfl⟩;obtain⟨mr,HMR⟩: ∃mr,Hid (CC.length=mr):=⟨_,rfl⟩;have hmn:mn≤120:=by rw [←HMN.out];exact HSM.1
 have hmr:mr≤242:=by rw [←HMR.out];exact HSM.2.1
 clear HSM;have eb:(ok !=ok)=false:=by simp
 have ee:(ok==ok)=true:=by simp
 go_wp2_with fail
 refine(Xg _ HO.out HX.out HY.out (HG.out.below K.out)).mono ?_;rintro e w2 ⟨he,hb⟩;rw [HRS.out]at he;obtain⟨Am,cm,Ac,cc,rfl,hM,hR⟩:=GG HMN.out HMR.out he;have HM:Hid (ShR w2 Am mn ML):=hM;have HR:Hid (RfR w2 Ac mr CC):=hR;clear he hM hR
 replace HO:=hd (HO.out.below hb);replace HX:=hd (HX.out.below hb);replace HY:=hd (HY.out.below hb);replace K:=hd (Qb K.out hb);clear hb;go_wp2_with fail
 refine(Dx _ HO.out HX.out HY.out).mono ?_;rintro e w3 ⟨he,hb⟩;rw [HRS.out]at he;obtain⟨Aw,cw,Ao,co,rfl,hW,hV⟩:=GG HMN.out HMR.out he;have HW:Hid (ShR w3 Aw mn ML):=hW;have HV:Hid (RfR w3 Ao mr CC):=hV;clear he hW hV
 replace HO:=hd (HO.out.below hb);replace HX:=hd (HX.out.below hb);replace HY:=hd (HY.out.below hb);replace HM:=hd (HM.out.below hb);replace HR:=hd (HR.out.below hb);replace K:=hd (Qb K.out hb);clear hb
 go_wp2_with fail
 refine(QD _ HM.out.row HW.out.row).mono ?_;rintro e w4 ⟨rfl,hb⟩;rw [Zv (fun _ _=>⟨rfl,rfl,rfl⟩)];replace HO:=hd (HO.out.below hb);replace HX:=hd (HX.out.below hb);replace HY:=hd (HY.out.below hb);replace HM:=hd (HM.out.below hb)
 replace HR:=hd (HR.out.below hb);replace HW:=hd (HW.out.below hb);replace HV:=hd (HV.out.below hb);replace K:=hd (Qb K.out hb);clear hb;go_wp2_with fail
 refine(Yk _ HR.out HV.out).mono ?_;rintro e w5 ⟨rfl,hb⟩;replace HO:=hd (HO.out.below hb);replace HX:=hd (HX.out.below hb);replace HY:=hd (HY.out.below hb);replace HM:=hd (HM.out.below hb);replace HR:=hd (HR.out.below hb)
 replace HW:=hd (HW.out.below hb);replace HV:=hd (HV.out.below hb);replace K:=hd (Qb K.out hb);clear hb;go_wp2_with fail
 refine(QI _ HO.out.row).mono ?_;rintro e w6 ⟨rfl,hb⟩;replace HO:=hd (HO.out.below hb);replace HX:=hd (HX.out.below hb);replace HY:=hd (HY.out.below hb);replace HM:=hd (HM.out.below hb);replace HR:=hd (HR.out.below hb)
 replace HW:=hd (HW.out.below hb);replace HV:=hd (HV.out.below hb);replace K:=hd (Qb K.out hb);clear hb;cases hk0:Qm (QA O) (Qz O) (QB O) n0
 ·clear hk0;go_wp2_with fail
  refine(QD _ HM.out.row HW.out.row).mono ?_;rintro e x1 ⟨rfl,hb⟩;rw [Zv (fun _ _=>⟨rfl,rfl,rfl⟩)];replace HR:=hd (HR.out.below hb);replace HV:=hd (HV.out.below hb);replace K:=hd (Qb K.out hb);clear hb
  go_wp2_with fail
  refine(Yk _ HR.out HV.out).mono ?_;rintro e x2 ⟨rfl,hb⟩;replace K:=hd (Qb K.out hb);clear hb;go_wp2_with fail
  go_ret;exact⟨rfl,K.out⟩
 have HK0:Hid (Qm (QA O) (Qz O) (QB O) n0=true):=hk0;clear hk0;go_wp2_with fail
 refine(QI _ HX.out.row).mono ?_;rintro e w7 ⟨rfl,hb⟩;replace HO:=hd (HO.out.below hb);replace HX:=hd (HX.out.below hb);replace HY:=hd (HY.out.below hb);replace HM:=hd (HM.out.below hb);replace HR:=hd (HR.out.below hb)
 replace HW:=hd (HW.out.below hb);replace HV:=hd (HV.out.below hb);replace K:=hd (Qb K.out hb);clear hb;cases hk0:Qm (QA X) (Qz X) (QB X) n1
 ·clear hk0;go_wp2_with fail
  refine(QD _ HM.out.row HW.out.row).mono ?_;rintro e x1 ⟨rfl,hb⟩;rw [Zv (fun _ _=>⟨rfl,rfl,rfl⟩)];replace HR:=hd (HR.out.below hb);replace HV:=hd (HV.out.below hb);replace K:=hd (Qb K.out hb);clear hb
  go_wp2_with fail
  refine(Yk _ HR.out HV.out).mono ?_;rintro e x2 ⟨rfl,hb⟩;replace K:=hd (Qb K.out hb);clear hb;go_wp2_with fail
  go_ret;exact⟨rfl,K.out⟩
 have HK1:Hid (Qm (QA X) (Qz X) (QB X) n1=true):=hk0;clear hk0;go_wp2_with fail
 refine(QI _ HY.out.row).mono ?_;rintro e w8 ⟨rfl,hb⟩;replace HO:=hd (HO.out.below hb);replace HX:=hd (HX.out.below hb);replace HY:=hd (HY.out.below hb);replace HM:=hd (HM.out.below hb);replace HR:=hd (HR.out.below hb)
 replace HW:=hd (HW.out.below hb);replace HV:=hd (HV.out.below hb);replace K:=hd (Qb K.out hb);clear hb;cases hk0:Qm (QA Y) (Qz Y) (QB Y) n2
 ·clear hk0;go_wp2_with fail
  refine(QD _ HM.out.row HW.out.row).mono ?_;rintro e x1 ⟨rfl,hb⟩;rw [Zv (fun _ _=>⟨rfl,rfl,rfl⟩)];replace HR:=hd (HR.out.below hb);replace HV:=hd (HV.out.below hb);replace K:=hd (Qb K.out hb);clear hb
  go_wp2_with fail
  refine(Yk _ HR.out HV.out).mono ?_;rintro e x2 ⟨rfl,hb⟩;replace K:=hd (Qb K.out hb);clear hb;go_wp2_with fail
  go_ret;exact⟨rfl,K.out⟩
 have HK2:Hid (Qm (QA Y) (Qz Y) (QB Y) n2=true):=hk0;clear hk0 HW HV;have HMT:Hid (Mt3 O X Y n0 n1 n2 ML CC ok mn):=Qir HO.out.len HX.out.len HY.out.len HMN.out HK0.out HK1.out HK2.out HRS.out;go_wp2_with fail
 refine(Xg _ HO.out HY.out HX.out (HG.out.below K.out)).mono ?_;rintro e w9 ⟨he,hb⟩;rw [HMT.out.sym]at he;obtain⟨An,cn,Ab,cb,rfl,hN,hP⟩:=GG HMN.out HMR.out he;have HN:Hid (ShR w9 An mn ML):=hN;have HP:Hid (RfR w9 Ab mr CC):=hP;clear he hN hP
 replace HO:=hd (HO.out.below hb);replace HX:=hd (HX.out.below hb);replace HY:=hd (HY.out.below hb);replace HM:=hd (HM.out.below hb);replace HR:=hd (HR.out.below hb);replace K:=hd (Qb K.out hb);clear hb
 go_wp2_with fail
 refine(Xg _ HO.out HX.out HO.out (HG.out.below K.out)).mono ?_;rintro e wa ⟨he,hb⟩;rw [HMT.out.one]at he;obtain⟨Aa,ca,Ad,cd,rfl,hD,_⟩:=GG HX.out.len rfl he;have HD:Hid (ShR wa Aa n1 X):=hD;clear he hD;replace HO:=hd (HO.out.below hb)
 replace HX:=hd (HX.out.below hb);replace HY:=hd (HY.out.below hb);replace HM:=hd (HM.out.below hb);replace HR:=hd (HR.out.below hb);replace HN:=hd (HN.out.below hb);replace HP:=hd (HP.out.below hb);replace K:=hd (Qb K.out hb)
 clear hb;go_wp2_with fail
 refine(Xg _ HO.out HO.out HY.out (HG.out.below K.out)).mono ?_;rintro e wb ⟨he,hb⟩;rw [HMT.out.two]at he;obtain⟨Ae,ce,Af,cf,rfl,hE,_⟩:=GG HY.out.len rfl he;have HE:Hid (ShR wb Ae n2 Y):=hE;clear he hE;replace HO:=hd (HO.out.below hb)
 replace HX:=hd (HX.out.below hb);replace HY:=hd (HY.out.below hb);replace HM:=hd (HM.out.below hb);replace HR:=hd (HR.out.below hb);replace HN:=hd (HN.out.below hb);replace HP:=hd (HP.out.below hb);replace HD:=hd (HD.out.below hb)
 replace K:=hd (Qb K.out hb);clear hb;go_wp2_with fail
 refine(QD _ HN.out.row HM.out.row).mono ?_;rintro e wc ⟨rfl,hb⟩;rw [Zv (fun _ _=>⟨rfl,rfl,rfl⟩)];replace HO:=hd (HO.out.below hb);replace HX:=hd (HX.out.below hb);replace HY:=hd (HY.out.below hb);replace HM:=hd (HM.out.below hb)
 replace HR:=hd (HR.out.below hb);replace HP:=hd (HP.out.below hb);replace HD:=hd (HD.out.below hb);replace HE:=hd (HE.out.below hb);replace K:=hd (Qb K.out hb);clear hb;clear HN
 go_wp2_with fail
 refine(Yk _ HP.out HR.out).mono ?_;rintro e wd ⟨rfl,hb⟩;replace HO:=hd (HO.out.below hb);replace HX:=hd (HX.out.below hb);replace HY:=hd (HY.out.below hb);replace HM:=hd (HM.out.below hb);replace HR:=hd (HR.out.below hb)
 replace HD:=hd (HD.out.below hb);replace HE:=hd (HE.out.below hb);replace K:=hd (Qb K.out hb);clear hb;clear HP;go_wp2_with fail
 refine(QD _ HD.out.row HX.out.row).mono ?_;rintro e we ⟨rfl,hb⟩;rw [Zv (fun _ _=>⟨rfl,rfl,rfl⟩)];replace HO:=hd (HO.out.below hb);replace HX:=hd (HX.out.below hb);replace HY:=hd (HY.out.below hb);replace HM:=hd (HM.out.below hb)
 replace HR:=hd (HR.out.below hb);replace HE:=hd (HE.out.below hb);replace K:=hd (Qb K.out hb);clear hb;clear HD;go_wp2_with fail
 refine(QD _ HE.out.row HY.out.row).mono ?_;rintro e wf ⟨rfl,hb⟩;rw [Zv (fun _ _=>⟨rfl,rfl,rfl⟩)];replace HO:=hd (HO.out.below hb);replace HX:=hd (HX.out.below hb);replace HY:=hd (HY.out.below hb);replace HM:=hd (HM.out.below hb)
 replace HR:=hd (HR.out.below hb);replace K:=hd (Qb K.out hb);clear hb;clear HE;go_upto_region 13 with fail
 obtain⟨k1,HK1'⟩: ∃k1,Hid (n0+n1=k1):=⟨_,rfl⟩;obtain⟨tn,HTN⟩: ∃tn,Hid (k1+n2=tn):=⟨_,rfl⟩;have hk1:k1≤242:=by have:=HK1'.out;omega
 have htn:tn≤363:=by have:=HTN.out;omega
 go_wp2_with (first
  | (at_builtin;refine XL rfl _ _ rfl wf.heap.size _ 0 [] rfl (Qbv (Nat.le_refl _) rfl) B0 n0 c0 O (HO.out.below (by go_grown)) rfl (by omega) (by go_size) n0 (by omega) ?_)
  | fail)
 intro A1 d1 x1 ho hg;have G1:Hid (Below wf.heap.size wf x1):=((Below.refl _ _).alloc (Nat.le_refl _) _).grown hg (by simp) (fun j hj=>by cases hj;exact Nat.le_refl _);have OW1:Hid (x1.ownsRow wf.heap.size 49 3 (.slice A1 n0 d1) n0 (Qu CL.cs ([]++O))):=ho;clear ho hg
 go_wp2_with (first
  | (at_builtin;refine XL rfl _ _ rfl wf.heap.size _ n0 ([]++O) rfl OW1.out B1 n1 c1 X (HX.out.below G1.out) rfl (by omega) G1.out.size k1 HK1'.out ?_)
  | fail)
 intro A2 d2 x2 ho hg;have G2:=hd (G1.out.grown hg G1.out.size (fun j hj=>(OW1.out.lt j hj).1));have OW2:Hid (x2.ownsRow wf.heap.size 49 3 (.slice A2 k1 d2) k1 (Qu CL.cs ([]++O++X))):=ho;clear ho hg OW1 G1
 go_wp2_with (first
  | (at_builtin;refine XL rfl _ _ rfl wf.heap.size _ k1 ([]++O++X) rfl OW2.out B2 n2 c2 Y (HY.out.below G2.out) rfl (by omega) G2.out.size tn HTN.out ?_)
  | fail)
 intro A3 d3 z ho hg;have G3:=hd (G2.out.grown hg G2.out.size (fun j hj=>(OW2.out.lt j hj).1))
 have HA:Hid (Qtv z A3 tn):=Qpk ho (by rw [List.length_append,List.length_append,HO.out.len,HX.out.len,HY.out.len];have h8:=HK1'.out;have h9:=HTN.out;omega) (fun x hx=>by
  rcases List.mem_append.1 hx with h | h
  ·exact Bc HO.out.len HK0.out x h
  ·rcases List.mem_append.1 h with h | h
   ·exact Bc HX.out.len HK1.out x h
   ·exact Bc HY.out.len HK2.out x h)
 clear ho hg OW2 G2;replace HO:=hd (HO.out.below G3.out);replace HX:=hd (HX.out.below G3.out);replace HY:=hd (HY.out.below G3.out);replace HM:=hd (HM.out.below G3.out);replace HR:=hd (HR.out.below G3.out);replace K:=hd (Qb K.out G3.out)
 clear G3 HTN HK1';go_wp2_with fail
 go_loopw [22] (fun i wr=> ∃k:Nat,k≤tn∧i= .int .i64 k∧Below z.heap.size z wr) (fun i _=>tn-(intOf i).toNat)
 case atStart=>exact⟨0,Nat.zero_le _,rfl,Below.refl _ _⟩
 case round=>
  obtain⟨k,hk,rfl,hbel⟩:=hrel;have BL:Hid (Below z.heap.size z wr):=hbel;by_cases hlt:k<tn
  ·obtain⟨b,o,p,q,rfl,hl,k0,k1,hrf⟩:=HA.out k hlt;rw [←hbel.cell (p:=⟨_,_,none⟩) hl]at k0 k1;have q0:(0:Int)≤(k:Int):=by omega
   have q1:(k:Int)<(tn:Int):=by omega
   have hwf:=Qm4 hrf;obtain⟨P,Q,R,M,b1,b2,b3,b4,b5,eP,eQ,eR,eM,f1,f2,f3,f4,f5,hdc,hok⟩:=HMT.out.at_ p q;have EM:Hid (Oh (QA ML) (Qz ML) (QB ML) mn p q=M):=eM;have HDC:Hid (decide ((p,q)∈CC)=(!b1&&(!b2&& !b3))):=hdc;have HOK:Hid (ok=true→(b4=true∨b5=true)∧(b3=true→b4=true)):=hok;clear hbel eM hdc hok hrf;go_upto_region 18 with fail
   obtain⟨u0,HU⟩: ∃u0,Hid (wr.alloc (.cells #[.int .i64 p,.int .i64 q] 38)=u0):=⟨_,rfl⟩;rw [HU.out];have B0':Hid (Below z.heap.size z u0):=by show Below _ _ _;rw [←HU.out];exact BL.out.alloc BL.out.size _
   have x0:u0.cell? ⟨wr.heap.size,0,none⟩=some (.int .i64 p):=by rw [←HU.out];simp
   have x1:u0.cell? ⟨wr.heap.size,1,none⟩=some (.int .i64 q):=by rw [←HU.out];simp
   have xl:wr.heap.size<u0.heap.size:=by rw [←HU.out];simp
   clear HU k0 k1 hl;go_wp2_with fail
   refine(Ze p q _ (HO.out.below B0'.out).row (HG.out.below (Qb K.out B0'.out)) hwf.1 hwf.2).mono ?_;rintro e u1 ⟨rfl,hb⟩;rw [eP];replace x0:=(hb.cell (p:=⟨wr.heap.size,0,none⟩) xl).trans x0;replace x1:=(hb.cell (p:=⟨wr.heap.size,1,none⟩) xl).trans x1;replace xl:=Nat.lt_of_lt_of_le xl hb.size;have B1':=hd (Qb B0'.out hb)
   clear hb;go_wp2_with fail
   refine(Ze p q _ (HX.out.below B1'.out).row (HG.out.below (Qb K.out B1'.out)) hwf.1 hwf.2).mono ?_;rintro e u2 ⟨rfl,hb⟩;rw [eQ];replace x0:=(hb.cell (p:=⟨wr.heap.size,0,none⟩) xl).trans x0;replace x1:=(hb.cell (p:=⟨wr.heap.size,1,none⟩) xl).trans x1;replace xl:=Nat.lt_of_lt_of_le xl hb.size;have B2':=hd (Qb B1'.out hb)
   clear hb;go_wp2_with fail
   refine(Ze p q _ (HY.out.below B2'.out).row (HG.out.below (Qb K.out B2'.out)) hwf.1 hwf.2).mono ?_;rintro e u ⟨rfl,hb⟩;rw [eR];replace x0:=(hb.cell (p:=⟨wr.heap.size,0,none⟩) xl).trans x0;replace x1:=(hb.cell (p:=⟨wr.heap.size,1,none⟩) xl).trans x1;replace xl:=Nat.lt_of_lt_of_le xl hb.size;have BU:=hd (Qb B2'.out hb)
   clear hb;clear eP eQ eR;have HRU:=hd (HR.out.below BU.out);have HMU:=hd (HM.out.below BU.out);have HGU:=hd (HG.out.below (Qb K.out BU.out));go_upto_region 21 with fail
   go_cut [196]from 160 to 226 (fun v wx=>v= .bool false∧Below u.heap.size u wx)
   case first=>
    have hdc:=HDC.out;cases b1
    ·cases b2
     ·cases b3
      ·simp only [Bool.not_false,Bool.and_true]at hdc;go_wp2_with fail
       refine(XJ p q _ HRU.out).mono ?_;rintro e u9 ⟨rfl,hb⟩;rw [hdc];go_wp2_with fail
       go_meet;exact⟨rfl,hb⟩
      ·simp only [Bool.not_false,Bool.not_true,Bool.and_false]at hdc;go_wp2_with fail
       refine(XJ p q _ HRU.out).mono ?_;rintro e u9 ⟨rfl,hb⟩;rw [hdc];go_wp2_with fail
       go_meet;exact⟨rfl,hb⟩
     ·simp only [Bool.not_true,Bool.false_and,Bool.and_false]at hdc;go_wp2_with fail
      refine(XJ p q _ HRU.out).mono ?_;rintro e u9 ⟨rfl,hb⟩;rw [hdc];go_wp2_with fail
      go_meet;exact⟨rfl,hb⟩
    ·simp only [Bool.not_true,Bool.false_and]at hdc;go_wp2_with fail
     refine(XJ p q _ HRU.out).mono ?_;rintro e u9 ⟨rfl,hb⟩;rw [hdc];go_wp2_with fail
     go_meet;exact⟨rfl,hb⟩
   case rest=>
    obtain⟨rfl,hbx⟩:=hcut;replace x0:=(hbx.cell (p:=⟨wr.heap.size,0,none⟩) xl).trans x0;replace x1:=(hbx.cell (p:=⟨wr.heap.size,1,none⟩) xl).trans x1;replace xl:=Nat.lt_of_lt_of_le xl hbx.size;replace HMU:=hd (HMU.out.below hbx);replace HGU:=hd (HGU.out.below hbx);replace BU:=hd (Qb BU.out hbx)
    clear hbx HRU HDC;go_upto_region 23 with fail
    go_cut [226]from 160 to 226 (fun v wx=>v= .bool false∧Below wc.heap.size wc wx)
    case first=>
     cases ok
     ·go_wp2_with fail
      go_meet;exact⟨rfl,Below.refl _ _⟩
     ·obtain⟨ho1,ho2⟩:=HOK.out rfl;cases b4
      ·obtain rfl:b5=true:=by rcases ho1 with h | h;exact absurd h (by decide);exact h
       obtain rfl:b3=false:=by cases b3;rfl;exact absurd (ho2 rfl) (by decide)
       go_wp2_with fail
       refine(Ze p q _ HMU.out.row HGU.out hwf.1 hwf.2).mono ?_;rintro e y1 ⟨rfl,hb⟩;rw [EM.out];have x0y1:=(hb.cell (p:=⟨wr.heap.size,0,none⟩) xl).trans x0;have x1y1:=(hb.cell (p:=⟨wr.heap.size,1,none⟩) xl).trans x1;have By1:Hid (Below wc.heap.size wc y1):=hb;clear hb
       go_wp2_with fail
       refine(Ze p q _ (HMU.out.below By1.out).row (HGU.out.below By1.out) hwf.1 hwf.2).mono ?_;rintro e y2 ⟨rfl,hb⟩;rw [EM.out];have x0y2:=(hb.cell (p:=⟨wr.heap.size,0,none⟩) (Nat.lt_of_lt_of_le xl By1.out.size)).trans x0y1;have x1y2:=(hb.cell (p:=⟨wr.heap.size,1,none⟩) (Nat.lt_of_lt_of_le xl By1.out.size)).trans x1y1;have By2:=hd (Qb By1.out hb);clear hb
       go_wp2_with fail
       go_meet;exact⟨rfl,By2.out⟩
      ·cases b3
       ·go_wp2_with fail
        refine(Ze p q _ HMU.out.row HGU.out hwf.1 hwf.2).mono ?_;rintro e y1 ⟨rfl,hb⟩;rw [EM.out];have x0y1:=(hb.cell (p:=⟨wr.heap.size,0,none⟩) xl).trans x0;have x1y1:=(hb.cell (p:=⟨wr.heap.size,1,none⟩) xl).trans x1;have By1:Hid (Below wc.heap.size wc y1):=hb;clear hb
        go_wp2_with fail
        go_meet;exact⟨rfl,By1.out⟩
       ·go_wp2_with fail
        refine(Ze p q _ HMU.out.row HGU.out hwf.1 hwf.2).mono ?_;rintro e y1 ⟨rfl,hb⟩;rw [EM.out];have x0y1:=(hb.cell (p:=⟨wr.heap.size,0,none⟩) xl).trans x0;have x1y1:=(hb.cell (p:=⟨wr.heap.size,1,none⟩) xl).trans x1;have By1:Hid (Below wc.heap.size wc y1):=hb;clear hb
        go_wp2_with fail
        refine(Ze p q _ (HMU.out.below By1.out).row (HGU.out.below By1.out) hwf.1 hwf.2).mono ?_;rintro e y2 ⟨rfl,hb⟩;rw [EM.out];have x0y2:=(hb.cell (p:=⟨wr.heap.size,0,none⟩) (Nat.lt_of_lt_of_le xl By1.out.size)).trans x0y1;have x1y2:=(hb.cell (p:=⟨wr.heap.size,1,none⟩) (Nat.lt_of_lt_of_le xl By1.out.size)).trans x1y1;have By2:=hd (Qb By1.out hb);clear hb
        go_wp2_with fail
        go_meet;exact⟨rfl,By2.out⟩
    case rest=>
     obtain⟨rfl,hbx⟩:=hcut;go_wp2_with fail
     go_roundw
     case rel=>exact⟨k+1,by omega,by go_num,Qb BU.out hbx⟩
     case measure=>simp [intOf];omega
  ·have h1: ¬(k:Int)<(tn:Int):=by omega
   cases ok
   ·go_wp2_with fail
    go_ret;exact⟨rfl,Qb K.out (by go_grown)⟩
   ·have hmr0:mr=0:=by rw [←HMR.out];exact HMT.out.nil rfl
    subst hmr0;go_wp2_with fail
    go_ret;exact⟨rfl,Qb K.out (by go_grown)⟩
end Go.Proofs.YthjldgbfgapbcaaGreatDoor
