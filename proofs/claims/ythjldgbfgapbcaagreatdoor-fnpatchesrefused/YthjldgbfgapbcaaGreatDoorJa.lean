import Derived.Test.YthjldgbfgapbcaaGreatDoorSdB
import Derived.Test.YthjldgbfgapbcaaGreatDoorGhc
import Derived.Test.YthjldgbfgapbcaaGreatDoorGge
import Derived.Test.YthjldgbfgapbcaaGreatDoorGze
import Derived.Test.YthjldgbfgapbcaaGreatDoorGzc
import Derived.Test.YthjldgbfgapbcaaGreatDoorMn
import Derived.Test.YthjldgbfgapbcaaGreatDoorGhb
import Derived.Test.YthjldgbfgapbcaaGreatDoorGzeA
set_option linter.unusedSimpArgs false
set_option linter.unusedVariables false
set_option maxHeartbeats 8000000
set_option maxRecDepth 100000
namespace Go.Proofs.YthjldgbfgapbcaaGreatDoor
open Go.RowKit
theorem ShD.cellP {w W:World} {r len cap g o:Nat} {A:Option Addr} {v u:Value} {L:List CL} (h:ShD w W r A len cap v L) (h0:Rd w r A len cap) (hg:w.heap.size≤g) (hv: ∀k,v.ownBlock=some k→k≠g):ShD w (W.setCell ⟨g,o,none⟩ u) r A len cap v L:=by
 have gb:W.grownBy (W.setCell ⟨g,o,none⟩ u) (some g):=⟨rfl,rfl,rfl,by simp,fun k _ hk=>Below.heap_setCell W ⟨g,o,none⟩ u k (fun e=>hk (by rw [e]))⟩;have hl:=h0.lt;have hu:=h.upd.app gb (fun k e=>by cases e;exact hg) hl;refine⟨h.own.kept gb ?_,h.lim,h.sz,h0.app h.rd hu (gb.block r (Nat.lt_of_lt_of_le hl h.upd.2.2.1) (fun e=>by cases e;omega)),hu⟩;cases hq:v.ownBlock with
 | none=>exact Or.inl rfl
 | some k=>
  right
  intro e;cases e
  exact hv _ hq rfl
theorem spec_l1OpenP (A:Option Addr) (len cap:Nat) (w:World):Calls Tryz.prog 24 #[.slice A len cap] w fun e w'=>
  e= .returned (.pointer (some ⟨w.heap.size,0,none⟩))∧w.alloc (.cells #[.slice A len cap,.int .i64 0] 77)=w':=by
 go_enter Tryz.func24,Tryz.ntmps24;go_wp2
 go_ret;exact⟨rfl,rfl⟩
theorem laws_bigP (A:Option Addr) (len cap:Nat) (w:World):Calls Tryz.prog 6 #[.slice A len cap] w fun e w'=>
  e= .returned (.bool (decide ((1048576:Int)<(len:Int))))∧w'=w:=by
 go_enter Tryz.func6,Tryz.ntmps6;go_wp2
 go_ret;exact⟨rfl,rfl⟩
def tab5 (n:Nat):ByteArray:=match n with
 | 0=>⟨#[49]⟩
 | 1=>⟨#[50]⟩
 | 2=>⟨#[51]⟩
 | 3=>⟨#[]⟩
 | _=>⟨#[61,65,49]⟩
theorem tab5_size (n:Nat):(tab5 n).size≤3:=by
 match n with
 | 0=>decide
 | 1=>decide
 | 2=>decide
 | 3=>decide
 | n+4=>show(⟨#[61,65,49]⟩:ByteArray).size≤3;decide
theorem tab5_cell (W:World) (t:Nat) (ht:t<5) (ty:TypeId):(W.alloc (.cells #[.string ⟨#[49]⟩,.string ⟨#[50]⟩,.string ⟨#[51]⟩,.string ⟨#[]⟩,.string ⟨#[61,65,49]⟩] ty)).cell? ⟨W.heap.size,t,none⟩=some (.string (tab5 t)):=by
 match t,ht with
 | 0,_=>simp [tab5]
 | 1,_=>simp [tab5]
 | 2,_=>simp [tab5]
 | 3,_=>simp [tab5]
 | 4,_=>simp [tab5]
theorem rd_turn (r:Nat) (A:Option Addr) (len cap:Nat) (most:Int) (w W:World) {B0:Option Addr} {n0 c0:Nat} {L0:List CL} (h:ShD w W r A len cap (.slice B0 n0 c0) L0) (hn0:L0.length=n0) (hr:r<w.heap.size) (h0:0≤most) (h1:most≤20):Calls Tryz.prog 27 #[.pointer (some ⟨r,0,none⟩),.slice B0 n0 c0,.int .i64 most] W fun e w'=>
  ∃(L:List CL) (B:Option Addr) (c:Nat),e= .returned (.slice B L.length c)∧ShD w w' r A len cap (.slice B L.length c) L∧ShD w w' r A len cap (.slice B0 n0 c0) L0∧Upd r W w':=by
 have HS0:Hid (ShD w W r A len cap (.slice B0 n0 c0) L0):=h;have HL:Hid (r<w.heap.size):=hr;have HL0:Hid (L0.length=n0):=hn0;clear h hr hn0;go_enter Tryz.func27,Tryz.ntmps27;go_wp2_with fail
 refine(Qy r A len cap (most+1) _ HS0.out.rd (by omega) (by omega)).mono ?_;rintro e w1 ⟨v,rfl,v0,v1,hr,hu⟩;obtain⟨t,rfl⟩: ∃t:Nat,v=(t:Int):=⟨v.toNat,by omega⟩;have HS1:Hid (ShD w w1 r A len cap (.slice B0 n0 c0) L0):=HS0.out.keep HL.out hu hr;have HU1:Hid (Upd r W w1):=hu;clear hr hu HS0;go_wp2_with fail
 go_loopw [1,7] (fun o i wr=> ∃(k:Nat) (L:List CL) (B:Option Addr) (n c:Nat),k≤t∧i= .int .i64 k∧o= .slice B n c∧L.length=n∧ShD w wr r A len cap (.slice B n c) L∧ShD w wr r A len cap (.slice B0 n0 c0) L0∧Upd r W wr) (fun _ i _=>(intOf i).toNat)
 case atStart=>exact⟨t,L0,B0,n0,c0,Nat.le_refl _,rfl,rfl,HL0.out,HS1.out,HS1.out,HU1.out⟩
 case round=>
  clear HS1 HU1;obtain⟨k,L,B,n,c,hk,rfl,rfl,hL,hsh,hs0,hup⟩:=hrel;have HU:Hid (Upd r W wr):=hup;have HS:Hid (ShD w wr r A len cap (.slice B n c) L):=hsh;have HT:Hid (ShD w wr r A len cap (.slice B0 n0 c0) L0):=hs0;have HLn:Hid (L.length=n):=hL;clear hsh hL hs0 hup
  by_cases hk0:0<k
  ·have q0:(0:Int)<(k:Int):=by omega
   go_wp2_with fail
   refine(GA r A len cap _ HS.out.rd).mono ?_;rintro e w2 ⟨p,q,rfl,_,_,_,_,hr,hu⟩;have HS2:Hid (ShD w w2 r A len cap (.slice B n c) L):=HS.out.keep HL.out hu hr;have HT2:Hid (ShD w w2 r A len cap (.slice B0 n0 c0) L0):=HT.out.keep HL.out hu hr;have HU2:Hid (Upd r W w2):=HU.out.trans hu;have hl2: ¬w2.heap.size=r:=by have:=hr.lt;omega
   clear hr hu HS HT;have BA:Hid (Below w2.heap.size w2 (w2.alloc (.cells #[.string ⟨#[49]⟩,.string ⟨#[50]⟩,.string ⟨#[51]⟩,.string ⟨#[]⟩,.string ⟨#[61,65,49]⟩] 9))):=(Below.refl _ _).alloc (Nat.le_refl _) _;go_wp2_with fail
   refine(Qy r A len cap 5 _ (HS2.out.rd.below BA.out) (by omega) (by omega)).mono ?_;rintro e w3 ⟨v,rfl,v2,v3,hr,hu⟩;obtain⟨j,rfl⟩: ∃j:Nat,v=(j:Int):=⟨v.toNat,by omega⟩;have ct:w3.cell? ⟨w2.heap.size,j,none⟩=some (.string (tab5 j)):=(hu.1 w2.heap.size j (by simp) hl2).trans (tab5_cell w2 j (by omega) _);have HS3:Hid (ShD w w3 r A len cap (.slice B n c) L):=(HS2.out.below HL.out BA.out).keep HL.out hu hr;have HU3:Hid (Upd r W w3):=HU2.out.trans ((Upd.of_below (Nat.le_of_lt HS2.out.rd.lt) BA.out).trans hu);have HT3:Hid (ShD w w3 r A len cap (.slice B0 n0 c0) L0):=(HT2.out.below HL.out BA.out).keep HL.out hu hr
   obtain⟨s,HNM⟩: ∃s,Hid (tab5 j=s):=⟨_,rfl⟩;rw [HNM.out]at ct;have hs:s.size≤3:=by rw [←HNM.out];exact tab5_size _
   have j0:(0:Int)≤(j:Int):=by omega
   have j5:(j:Int)<5:=by omega
   clear hr hu HS2 HT2 BA HNM;go_wp2_with fail
   refine(ED _ (HS3.out.row HLn.out) (by unfold maxLen;omega)).mono ?_;rintro e w4 ⟨he,hb⟩;have HS4:=hd (HS3.out.below HL.out hb);have HU4:Hid (Upd r W w4):=HU3.out.trans (Upd.of_below (Nat.le_of_lt HS3.out.rd.lt) hb);have HT4:=hd (HT3.out.below HL.out hb);have HZ3:Hid (w.heap.size≤w3.heap.size):=HS3.out.upd.2.2.1;have hz:=Qq3 (p:=p) (q:=q) (s:=s) (n:=n) (C:=Ec L) (R:=Eb L) (S:=MN L) (fun i hi=>Qo5 HS3.out.sz i (by rw [HLn.out];exact hi))
   have hl:=Qo0 (p:=p) (q:=q) (s:=s) (n:=n) (C:=Ec L) (R:=Eb L) (S:=MN L);cases hen:enF (Ec L) (Eb L) (MN L) n p q s with
   | none=>
    rw [hen]at he;obtain rfl:e= .returned (.tuple #[.slice none 0 0,.bool false]):=he;clear hb hz hl hen HS3 HT3;go_wp2_with fail
    go_roundw
    case rel=>exact⟨k-1,L,B,n,c,by omega,by rw [show((k-1:Nat):Int)=(k:Int)-1 by omega],rfl,HLn.out,HS4.out,HT4.out,HU4.out⟩
    case measure=>simp [intOf];omega
   | some M=>
    rw [hen]at he hz hl;obtain⟨B',c',m,rfl,hm,ho⟩:=he;have HM:Hid (ShD w w4 r A len cap (.slice B' m c') M):=⟨by rw [hm];exact JP ho HZ3.out,by rw [Option.getD_some]at hl;omega,by rw [Option.getD_some]at hz;exact hz,HS4.out.rd,HS4.out.upd⟩;have HMn:Hid (M.length=m):=hm;clear hb hz hl hen HS3 HT3 ho hm;go_wp2_with fail
    go_roundw
    case rel=>exact⟨k-1,M,B',m,c',by omega,by rw [show((k-1:Nat):Int)=(k:Int)-1 by omega],rfl,HMn.out,HM.out,HT4.out,HU4.out⟩
    case measure=>simp [intOf];omega
  ·have q0: ¬(0:Int)<(k:Int):=by omega
   go_wp2_with fail
   go_ret;exact⟨L,B,c,by rw [HLn.out];rfl,by rw [HLn.out];exact HS.out,HT.out,HU.out⟩
structure CR (W:World) (r g m:Nat) (D:Nat→CH):Prop where
 gr:g≠r
 gl:g<W.heap.size
 cell: ∀i,i<m→ ∀j,j<4→W.cell? ⟨g,i*4+j,none⟩=(chL (D i))[j]?
 fz: ∀p,p<m*4→W.frozen? ⟨g,p,none⟩=false
 sz: ∀i,i<m→(D i).f.size≤maxLen∧(D i).t.size≤maxLen
theorem CR.upd {W w':World} {r g m:Nat} {D:Nat→CH} (h:CR W r g m D) (hu:Upd r W w'):CR w' r g m D:=
 ⟨h.gr,Nat.lt_of_lt_of_le h.gl hu.2.2.1,fun i hi j hj=>(hu.1 g _ h.gl h.gr).trans (h.cell i hi j hj),fun p hp=>(hu.2.1 g p h.gl h.gr).trans (h.fz p hp),h.sz⟩
theorem cell_set_neP {W:World} {b p q:Nat} {u:Value} (h:p≠q):(W.setCell ⟨b,p,none⟩ u).cell? ⟨b,q,none⟩=W.cell? ⟨b,q,none⟩:=
 World.cell?_setCell_other W ⟨b,p,none⟩ ⟨b,q,none⟩ u (fun e=>h (congrArg Addr.off e))
theorem CR.set {W:World} {r g m t:Nat} {D:Nat→CH} {s:ByteArray} (h:CR W r g m D) (ht:t<m) (hs:s.size≤maxLen):CR (W.setCell ⟨g,t*4+2,none⟩ (.string s)) r g m (fun i=>if i=t then⟨(D t).c,(D t).r,s,(D t).t⟩else D i):=by
 refine⟨h.gr,by simpa using h.gl,fun i hi j hj=> ?_,fun p hp=>by simpa using h.fz p hp,fun i hi=> ?_⟩
 ·by_cases e:i=t
  ·subst e;rw [if_pos rfl];by_cases ej:j=2
   ·subst ej;exact World.cell?_setCell_same _ _ _ (h.cell i hi 2 (by omega))
   ·rw [cell_set_neP (by omega),h.cell i hi j hj];match j,hj,ej with
    | 0,_,_=>rfl
    | 1,_,_=>rfl
    | 3,_,_=>rfl
  ·rw [if_neg e,cell_set_neP (by omega)];exact h.cell i hi j hj
 ·by_cases e:i=t
  ·rw [if_pos e];exact⟨hs,(h.sz t ht).2⟩
  ·rw [if_neg e];exact h.sz i hi
theorem CR.row {W:World} {r g m:Nat} {D:Nat→CH} (h:CR W r g m D) (hm:m≤maxLen):ChRow W (some ⟨g,0,none⟩) m D:=by
 refine⟨hm,fun i hi=>⟨g,0,rfl,h.gl,?_,?_,?_,?_,(h.sz i hi).1,(h.sz i hi).2⟩⟩
 ·rw [Nat.zero_add];exact h.cell i hi 0 (by omega)
 ·rw [Nat.zero_add];exact h.cell i hi 1 (by omega)
 ·rw [Nat.zero_add];exact h.cell i hi 2 (by omega)
 ·rw [Nat.zero_add];exact h.cell i hi 3 (by omega)
def chO (L:List CH) (i:Nat):CH:=(L[i]?).getD ⟨0,0,⟨#[]⟩,⟨#[]⟩⟩
theorem CR.of_own {W:World} {B r g m cap:Nat} {L:List CH} (h:W.ownsRow B 40 4 (.slice (some ⟨g,0,none⟩) m cap) m (Zb chL L)) (hL:L.length=m) (hs: ∀x∈L,x.f.size≤maxLen∧x.t.size≤maxLen) (hr:r<B):CR W r g m (chO L):=by
 obtain⟨A',cap',e,hn,hc⟩:=Qr h;cases e
 have hg:=h.lt g rfl
 have hat: ∀i,i<m→L[i]? =some (chO L i):=fun i hi=>by
  unfold chO;rw [List.getElem?_eq_getElem (by omega)];rfl
 refine⟨by omega,hg.2,fun i hi j hj=> ?_,fun p hp=> ?_,fun i hi=>hs _ (List.mem_of_getElem? (hat i hi))⟩
 ·obtain⟨g',e',_,_,c,_⟩:=hc (i*4+j) (by omega);cases e'
  rw [c,Qch (f:=chL) (k:=4) (fun _=>rfl) j hj,hat i hi];rfl
 ·obtain⟨g',e',_,_,_,f⟩:=hc p hp;cases e'
  exact f
theorem dfM_szP: ∀(a b:List CL),(∀x∈a,x.s.size≤maxLen)→(∀x∈b,x.s.size≤maxLen)→ ∀z∈dfM a b,z.f.size≤maxLen∧z.t.size≤maxLen
 | [],[],_,_,z,hz=>by rw [dfM]at hz;cases hz
 | x::a,[],ha,hb,z,hz=>by
  rw [dfM]at hz;rcases List.mem_cons.1 hz with rfl | hz
  ·exact⟨ha x (by simp),Nat.zero_le _⟩
  ·exact dfM_szP a [] (fun y hy=>ha y (by simp [hy])) hb z hz
 | [],y::b,ha,hb,z,hz=>by
  rw [dfM]at hz;rcases List.mem_cons.1 hz with rfl | hz
  ·exact⟨Nat.zero_le _,hb y (by simp)⟩
  ·exact dfM_szP [] b ha (fun x hx=>hb x (by simp [hx])) z hz
 | x::a,y::b,ha,hb,z,hz=>by
  rw [dfM]at hz;have hx:=ha x (by simp);have hy:=hb y (by simp);have ha': ∀u∈a,u.s.size≤maxLen:=fun u hu=>ha u (by simp [hu]);have hb': ∀u∈b,u.s.size≤maxLen:=fun u hu=>hb u (by simp [hu]);split at hz
  ·rcases List.mem_cons.1 hz with rfl | hz
   ·exact⟨hx,Nat.zero_le _⟩
   ·exact dfM_szP a (y::b) ha' hb z hz
  ·split at hz
   ·rcases List.mem_cons.1 hz with rfl | hz
    ·exact⟨Nat.zero_le _,hy⟩
    ·exact dfM_szP (x::a) b ha hb' z hz
   ·rcases List.mem_cons.1 hz with rfl | hz
    ·exact⟨hx,hy⟩
    ·exact dfM_szP a b ha' hb' z hz
 termination_by a b=>a.length+b.length
theorem dfM_lenP: ∀a b:List CL,(dfM a b).length≤a.length+b.length
 | [],[]=>by rw [dfM];simp
 | x::a,[]=>by rw [dfM];have:=dfM_lenP a [];simp at this ⊢;omega
 | [],y::b=>by rw [dfM];have:=dfM_lenP [] b;simp at this ⊢;omega
 | x::a,y::b=>by
  rw [dfM];have h1:=dfM_lenP a (y::b);have h2:=dfM_lenP (x::a) b;have h3:=dfM_lenP a b;simp only [List.length_cons]at h1 h2 h3 ⊢;split
  ·simp only [List.length_cons];omega
  ·split<;>(simp only [List.length_cons];omega)
 termination_by a b=>a.length+b.length
theorem df_smallP {L M:List CL} {n m:Nat} (hn:L.length=n) (hm:M.length=m) (hL: ∀x∈L,x.s.size≤maxLen) (hM: ∀x∈M,x.s.size≤maxLen) (l1:n≤121) (l2:m≤121):(dfF (Ec L) (Eb L) (MN L) n (Ec M) (Eb M) (MN M) m).length≤242∧ ∀x∈dfF (Ec L) (Eb L) (MN L) n (Ec M) (Eb M) (MN M) m,x.f.size≤maxLen∧x.t.size≤maxLen:=by
 subst hn hm;unfold dfF;split
 ·rw [Qa0,Qa0];have h4:(dfL L M).length≤(dfM L M).length:=List.length_filter_le _ _;have h3:=dfM_lenP L M;exact⟨by omega,fun x hx=>dfM_szP L M hL hM x (List.mem_filter.1 hx).1⟩
 ·exact⟨Nat.zero_le _,fun x hx=>(List.not_mem_nil hx).elim⟩
def PrD (w:World) (e:Ending) (w':World):Prop:= ∃(L:List CL) (B:Option Addr) (n c:Nat) (D:Nat→CH) (m:Nat) (G:Option Addr) (d:Nat),e= .returned (.tuple #[.slice B n c,.slice G m d])∧L.length=n∧ClRow w' B n (Ec L) (Eb L) (MN L)∧(∀x∈L,x.s.size≤maxLen)∧m≤242∧ChRow w' G m D∧Below w.heap.size w w'
def ChS (W:World) (r:Nat) (G:Option Addr) (m:Nat) (D:Nat→CH):Prop:=m=0∨ ∃g,G=some ⟨g,0,none⟩∧CR W r g m D
theorem ChS.upd {W w':World} {r m:Nat} {G:Option Addr} {D:Nat→CH} (h:ChS W r G m D) (hu:Upd r W w'):ChS w' r G m D:=by
 rcases h with h | ⟨g,e,h⟩
 ·exact Or.inl h
 ·exact Or.inr ⟨g,e,h.upd hu⟩
theorem ChS.row {W:World} {r m:Nat} {G:Option Addr} {D:Nat→CH} (h:ChS W r G m D) (hm:m≤242):ChRow W G m D:=by
 rcases h with rfl | ⟨g,rfl,h⟩
 ·exact⟨Nat.zero_le _,fun i hi=>absurd hi (Nat.not_lt_zero _)⟩
 ·exact h.row (by unfold maxLen;omega)
theorem draw_patched (H1:FtX 1 69) (H2:FtX 2 228) (A:Option Addr) (len cap:Nat) (w:World) (h:Cd w A len):Calls Tryz.prog 15 #[.slice A len cap] w (PrD w):=by
 have HH:Hid (Cd w A len):=h;clear h;go_enter Tryz.func15,Tryz.ntmps15;go_wp2_with fail
 refine(spec_l1OpenP A len cap _).mono ?_;rintro e w1 ⟨rfl,hw1⟩;have HR1:Hid (Rd w1 w.heap.size A len cap):=by show Rd _ _ _ _ _;rw [←hw1];exact HH.out.open (Below.refl _ _) rfl
 have BW:Hid (Below w.heap.size w w1):=by show Below _ _ _;rw [←hw1];exact(Below.refl _ _).alloc (Nat.le_refl _) _
 have HLT:Hid (w.heap.size<w1.heap.size):=HR1.out.lt;clear hw1;go_wp2_with fail
 refine(Qpr H1 H2 w.heap.size A len cap 8 _ HR1.out (by omega) (by omega)).mono ?_;rintro e w2 ⟨L,B,c,rfl,hsh⟩;obtain⟨n,HLn⟩: ∃n,Hid (L.length=n):=⟨_,rfl⟩;rw [HLn.out]at hsh ⊢;have HS2:Hid (ShD w1 w2 w.heap.size A len cap (.slice B n c) L):=hsh;clear hsh;go_wp2_with fail
 refine(rd_turn w.heap.size A len cap 4 w1 _ HS2.out HLn.out HLT.out (by omega) (by omega)).mono ?_;rintro e w3 ⟨M,B3,c3,rfl,hm,hl,_⟩;obtain⟨k,HMk⟩: ∃k,Hid (M.length=k):=⟨_,rfl⟩;rw [HMk.out]at hm ⊢;have HM3:Hid (ShD w1 w3 w.heap.size A len cap (.slice B3 k c3) M):=hm;have HS3:Hid (ShD w1 w3 w.heap.size A len cap (.slice B n c) L):=hl;have HG3:Hid (w1.heap.size≤w3.heap.size):=hl.upd.2.2.1
 have HOB:Hid (∀g,(Value.slice B n c).ownBlock=some g→g<w3.heap.size):=fun g e=>(hl.own.lt g e).2;have HDF:=df_smallP HLn.out HMk.out hl.sz hm.sz (by have:=hl.lim;rw [HLn.out]at this;exact this) (by have:=hm.lim;rw [HMk.out]at this;exact this);clear hm hl HS2;go_wp2_with fail
 refine(Qmu _ (HS3.out.row HLn.out) (HM3.out.row HMk.out)).mono ?_;rintro e w4 ⟨he,hb⟩;obtain⟨G,d,m,rfl,hm,ho⟩:=he;have hm242:m≤242:=by rw [←hm];exact HDF.1
 have HS4:=hd (HS3.out.below HLT.out hb)
 have HC4:Hid (∃D,ChS w4 w.heap.size G m D):=by
  rcases Nat.eq_zero_or_pos m with h0 | h0
  ·exact⟨chO [],Or.inl h0⟩
  ·obtain⟨g,e⟩: ∃g,G=some ⟨g,0,none⟩:=by
    rcases ho.2 with⟨_,e⟩ | ⟨g,cp,cur,e,_⟩
    ·omega
    ·cases e;exact⟨g,rfl⟩
   subst e;exact⟨_,Or.inr ⟨g,rfl,CR.of_own ho hm HDF.2 (by have:=HLT.out;have:=HG3.out;omega)⟩⟩
 have HGB:Hid (∀g,G=some ⟨g,0,none⟩→0<m→w3.heap.size≤g):=fun g e h0=>by subst e;exact(ho.lt g rfl).1
 clear HDF ho hm hb HM3 HS3;obtain⟨D,hD⟩:=HC4.out;have HD4:Hid (ChS w4 w.heap.size G m D):=hD;clear HC4 hD
 have fin: ∀(D:Nat→CH) (W:World),ShD w1 W w.heap.size A len cap (.slice B n c) L→ChS W w.heap.size G m D→PrD w (.returned (.tuple #[.slice B n c,.slice G m d])) W:=fun D W h1 h2=>
  ⟨L,B,n,c,D,m,G,d,rfl,HLn.out,h1.row HLn.out,h1.sz,hm242,h2.row hm242,BW.out.trans h1.upd.2.2.2.1⟩
 have HFIN:Hid (∀(D:Nat→CH) (W:World),ShD w1 W w.heap.size A len cap (.slice B n c) L→ChS W w.heap.size G m D→PrD w (.returned (.tuple #[.slice B n c,.slice G m d])) W):=fin
 have fin2: ∀(D:Nat→CH) (W:World) (K:List CL) (B':Option Addr) (k' c':Nat),K.length=k'→ShD w1 W w.heap.size A len cap (.slice B' k' c') K→ChS W w.heap.size G m D→PrD w (.returned (.tuple #[.slice B' k' c',.slice G m d])) W:=fun D W K B' k' c' hk h1 h2=>
  ⟨K,B',k',c',D,m,G,d,rfl,hk,h1.row hk,h1.sz,hm242,h2.row hm242,BW.out.trans h1.upd.2.2.2.1⟩
 have HFIN2:Hid (∀(D:Nat→CH) (W:World) (K:List CL) (B':Option Addr) (k' c':Nat),K.length=k'→ShD w1 W w.heap.size A len cap (.slice B' k' c') K→ChS W w.heap.size G m D→PrD w (.returned (.tuple #[.slice B' k' c',.slice G m d])) W):=fin2;clear fin fin2;go_wp2_with fail
 refine(Xx w.heap.size A len cap 4 _ HS4.out.rd (by omega) (by omega)).mono ?_;rintro e w5 ⟨b,rfl,hr,hu⟩;have HS5:Hid (ShD w1 w5 w.heap.size A len cap (.slice B n c) L):=HS4.out.keep HLT.out hu hr;have HD5:Hid (ChS w5 w.heap.size G m D):=HD4.out.upd hu;clear hr hu HS4 HD4;by_cases hgo:b=true∧0<m
 ·obtain⟨rfl,h0⟩:=hgo;have q0:(0:Int)<(m:Int):=by omega
  go_wp2_with fail
  refine(Qy w.heap.size A len cap m _ HS5.out.rd (by omega) (by omega)).mono ?_;rintro e w6 ⟨v,rfl,v0,v1,hr,hu⟩;obtain⟨t,rfl⟩: ∃t:Nat,v=(t:Int):=⟨v.toNat,by omega⟩;have ht:t<m:=by omega
  have HS6:Hid (ShD w1 w6 w.heap.size A len cap (.slice B n c) L):=HS5.out.keep HLT.out hu hr;have HD6:Hid (ChS w6 w.heap.size G m D):=HD5.out.upd hu;clear hr hu HS5 HD5;go_wp2_with fail
  refine(Bt H1 H2 w.heap.size A len cap _ HS6.out.rd).mono ?_;rintro e w7 ⟨s,rfl,hs,hr,hu⟩;have HS7:Hid (ShD w1 w7 w.heap.size A len cap (.slice B n c) L):=HS6.out.keep HLT.out hu hr;have HD7:Hid (ChS w7 w.heap.size G m D):=HD6.out.upd hu;clear hr hu HS6 HD6
  obtain⟨g,rfl,hcr⟩: ∃g,G=some ⟨g,0,none⟩∧CR w7 w.heap.size g m D:=by
   rcases HD7.out with h9 | h9
   ·omega
   ·exact h9
  have hgb:=HGB.out g rfl h0;have HS8:Hid (ShD w1 (w7.setCell ⟨g,t*4+2,none⟩ (.string s)) w.heap.size A len cap (.slice B n c) L):=HS7.out.cellP HR1.out (Nat.le_trans HG3.out hgb) (fun k9 e=>by have:=HOB.out k9 e;omega);have HD8:Hid (ChS (w7.setCell ⟨g,t*4+2,none⟩ (.string s)) w.heap.size (some ⟨g,0,none⟩) m (fun i=>if i=t then⟨(D t).c,(D t).r,s,(D t).t⟩else D i)):=Or.inr ⟨g,rfl,hcr.set ht (by unfold maxLen;omega)⟩;have d2:w7.cell? ⟨g,t*4+2,none⟩=some (.string (D t).f):=hcr.cell t ht 2 (by omega);have f2:=hcr.fz (t*4+2) (by omega);clear hcr HS7 HD7 hgb;obtain⟨D8,HD8'⟩: ∃D8,Hid (ChS (w7.setCell ⟨g,t*4+2,none⟩ (.string s)) w.heap.size (some ⟨g,0,none⟩) m D8):=⟨_,HD8⟩
  clear HD8;go_wp2_with fail
  refine(Xx w.heap.size A len cap 8 _ HS8.out.rd (by omega) (by omega)).mono ?_;rintro e w9 ⟨b9,rfl,hr,hu⟩;have HS9:Hid (ShD w1 w9 w.heap.size A len cap (.slice B n c) L):=HS8.out.keep HLT.out hu hr;have HD9:Hid (ChS w9 w.heap.size (some ⟨g,0,none⟩) m D8):=HD8'.out.upd hu;clear hr hu HS8 HD8';cases b9
  ·go_wp2_with fail
   refine bodyPost_ret (v:= .tuple #[.slice B n c,.slice (some ⟨g,0,none⟩) m d]) ?_ rfl (HFIN.out _ _ HS9.out HD9.out);simp (maxDischargeDepth:=9) [results,Tryz.results15,go_sem, *]
  ·go_wp2_with fail
   refine(rd_turn w.heap.size A len cap 2 w1 _ HS9.out HLn.out HLT.out (by omega) (by omega)).mono ?_;rintro e wa ⟨K,Ba,ca,rfl,hk,hl,hu⟩;obtain⟨ka,HKa⟩: ∃ka,Hid (K.length=ka):=⟨_,rfl⟩;rw [HKa.out]at hk ⊢;have HKA:Hid (ShD w1 wa w.heap.size A len cap (.slice Ba ka ca) K):=hk;have HDA:Hid (ChS wa w.heap.size (some ⟨g,0,none⟩) m D8):=HD9.out.upd hu;clear hk hl hu
   go_wp2_with fail
   refine bodyPost_ret (v:= .tuple #[.slice Ba ka ca,.slice (some ⟨g,0,none⟩) m d]) ?_ rfl (HFIN2.out _ _ _ _ _ _ HKa.out HKA.out HDA.out);simp (maxDischargeDepth:=9) [results,Tryz.results15,go_sem, *]
 ·have hcnd:(b&&decide ((0:Int)<(m:Int)))=false:=by
   cases b
   ·rfl
   ·have: ¬0<m:=fun h9=>hgo ⟨rfl,h9⟩;rw [decide_eq_false (by omega)];rfl
  cases b
  ·skip
   go_wp2_with fail
   refine(Xx w.heap.size A len cap 8 _ HS5.out.rd (by omega) (by omega)).mono ?_;rintro e w9 ⟨b9,rfl,hr,hu⟩;have HS9:Hid (ShD w1 w9 w.heap.size A len cap (.slice B n c) L):=HS5.out.keep HLT.out hu hr;have HD9:Hid (ChS w9 w.heap.size G m D):=HD5.out.upd hu;clear hr hu HS5 HD5;cases b9
   ·go_wp2_with fail
    refine bodyPost_ret (v:= .tuple #[.slice B n c,.slice G m d]) ?_ rfl (HFIN.out _ _ HS9.out HD9.out);simp (maxDischargeDepth:=9) [results,Tryz.results15,go_sem, *]
   ·go_wp2_with fail
    refine(rd_turn w.heap.size A len cap 2 w1 _ HS9.out HLn.out HLT.out (by omega) (by omega)).mono ?_;rintro e wa ⟨K,Ba,ca,rfl,hk,hl,hu⟩;obtain⟨ka,HKa⟩: ∃ka,Hid (K.length=ka):=⟨_,rfl⟩;rw [HKa.out]at hk ⊢;have HKA:Hid (ShD w1 wa w.heap.size A len cap (.slice Ba ka ca) K):=hk;have HDA:Hid (ChS wa w.heap.size G m D):=HD9.out.upd hu;clear hk hl hu
    go_wp2_with fail
    refine bodyPost_ret (v:= .tuple #[.slice Ba ka ca,.slice G m d]) ?_ rfl (HFIN2.out _ _ _ _ _ _ HKa.out HKA.out HDA.out);simp (maxDischargeDepth:=9) [results,Tryz.results15,go_sem, *]
  ·have q0: ¬(0:Int)<(m:Int):=by have: ¬0<m:=fun h9=>hgo ⟨rfl,h9⟩;omega
   go_wp2_with fail
   refine(Xx w.heap.size A len cap 8 _ HS5.out.rd (by omega) (by omega)).mono ?_;rintro e w9 ⟨b9,rfl,hr,hu⟩;have HS9:Hid (ShD w1 w9 w.heap.size A len cap (.slice B n c) L):=HS5.out.keep HLT.out hu hr;have HD9:Hid (ChS w9 w.heap.size G m D):=HD5.out.upd hu;clear hr hu HS5 HD5;cases b9
   ·go_wp2_with fail
    refine bodyPost_ret (v:= .tuple #[.slice B n c,.slice G m d]) ?_ rfl (HFIN.out _ _ HS9.out HD9.out);simp (maxDischargeDepth:=9) [results,Tryz.results15,go_sem, *]
   ·go_wp2_with fail
    refine(rd_turn w.heap.size A len cap 2 w1 _ HS9.out HLn.out HLT.out (by omega) (by omega)).mono ?_;rintro e wa ⟨K,Ba,ca,rfl,hk,hl,hu⟩;obtain⟨ka,HKa⟩: ∃ka,Hid (K.length=ka):=⟨_,rfl⟩;rw [HKa.out]at hk ⊢;have HKA:Hid (ShD w1 wa w.heap.size A len cap (.slice Ba ka ca) K):=hk;have HDA:Hid (ChS wa w.heap.size G m D):=HD9.out.upd hu;clear hk hl hu
    go_wp2_with fail
    refine bodyPost_ret (v:= .tuple #[.slice Ba ka ca,.slice G m d]) ?_ rfl (HFIN2.out _ _ _ _ _ _ HKa.out HKA.out HDA.out);simp (maxDischargeDepth:=9) [results,Tryz.results15,go_sem, *]
theorem setC_iffE {w:CL} {E:List CL} {z:CL}:z∈Xs w E↔(z∈E∧ ¬(z.c=w.c∧z.r=w.r))∨(z=w∧w.s.toList.isEmpty=false):=by
 rw [(Ve w E).mem_iff];by_cases h:w.s.toList.isEmpty=true
 ·rw [if_pos h,offP_mem];simp [h]
 ·rw [if_neg h,List.mem_append,offP_mem,List.mem_singleton];simp [Bool.eq_false_iff.2 h]
theorem pw_rise {M:List CL} (h:M.Pairwise (fun a b=>ltC a b=true)) (hr: ∀z∈M,Qj z.c z.r=true):Je (Ec M) (Eb M) M.length=true:=by
 refine List.all_eq_true.2 fun i hi=> ?_;have hi':=List.mem_range.1 hi;unfold QY;have e1:Ec M i=M[i].c∧Eb M i=M[i].r:=by unfold Ec Eb;rw [List.getElem?_eq_getElem hi'];exact⟨rfl,rfl⟩
 rw [Bool.and_eq_true];refine⟨by rw [e1.1,e1.2];exact hr _ (List.getElem_mem hi'),?_⟩;by_cases h0:i=0
 ·simp [h0]
 ·have e2:Ec M (i-1)=(M[i-1]'(by omega)).c∧Eb M (i-1)=(M[i-1]'(by omega)).r:=by unfold Ec Eb;rw [List.getElem?_eq_getElem (by omega)];exact⟨rfl,rfl⟩
  rw [Bool.or_eq_true];refine Or.inr ?_;rw [e1.1,e1.2,e2.1,e2.2];exact List.pairwise_iff_getElem.1 h (i-1) i (by omega) hi' (by omega)
theorem cof_at {M:List CL} {j:Nat} (hj:j<M.length):Ec M j=M[j].c∧Eb M j=M[j].r∧MN M j=M[j].s:=by
 unfold Ec Eb MN;rw [List.getElem?_eq_getElem hj];exact⟨rfl,rfl,rfl⟩
theorem srcL_noneE {C R:Nat→Int} {S:Nat→ByteArray} {p q:Int}: ∀n:Nat,(∀i,i<n→ ¬(C i=p∧R i=q))→Qe0 C R S p q n=⟨#[]⟩
 | 0,_=>rfl
 | n+1,h=>by rw [Qe0,if_neg (h n (by omega)),srcL_noneE n (fun i hi=>h i (by omega))]
theorem srcL_atE {M:List CL} (h:M.Pairwise (fun a b=>ltC a b=true)) {k:Nat} (hk:k<M.length): ∀m,k<m→m≤M.length→Qe0 (Ec M) (Eb M) (MN M) (Ec M k) (Eb M k) m=MN M k:=by
 intro m;induction m with
 | zero=>intro h1;omega
 | succ m ih=>
  intro h1 h2;by_cases e:k=m
  ·subst e;rw [Qe0,if_pos ⟨rfl,rfl⟩]
  ·have h3:=List.pairwise_iff_getElem.1 h k m hk (by omega) (by omega);have c1:=cof_at hk;have c2:=cof_at (show m<M.length by omega);simp only [ltC,ZT,decide_eq_true_eq]at h3;rw [Qe0,if_neg (by rw [c1.1,c1.2.1,c2.1,c2.2.1];omega)];exact ih (by omega) (by omega)
theorem srcL_mem {M:List CL} (h:M.Pairwise (fun a b=>ltC a b=true)) {z:CL} (hz:z∈M):Qe0 (Ec M) (Eb M) (MN M) z.c z.r M.length=z.s:=by
 obtain⟨j,hj,rfl⟩:=List.mem_iff_getElem.1 hz;have c1:=cof_at hj;have h9:=srcL_atE h hj M.length hj (Nat.le_refl _);rw [c1.1,c1.2.1,c1.2.2]at h9;exact h9
structure RunOk (L:List CL):Prop where
 up:L.Pairwise (fun a b=>ltC a b=true)
 all: ∀z∈L,Qj z.c z.r=true∧z.s.toList.isEmpty=false∧JQ z.s=true
theorem RunOk.start {L:List CL} (h:QC (Ec L) (Eb L) (MN L) L.length=true):RunOk L:=by
 obtain⟨_,r1,r2⟩:=VG h;rw [Qa0]at r2;refine⟨r2,fun z hz=> ?_⟩;obtain⟨j,hj,rfl⟩:=List.mem_iff_getElem.1 hz;unfold QC at h;simp only [Bool.and_eq_true]at h;have h9:=List.all_eq_true.1 h.2 j (List.mem_range.2 hj)
 have c1:=cof_at hj;have h8:=r1 j hj;unfold YA at h9;rw [c1.2.2,Bool.and_eq_true,Bool.not_eq_true']at h9;rw [c1.1,c1.2.1]at h8;exact⟨h8,h9.1,h9.2⟩
theorem pa_stepP {L L':List CL} {x:CH} (h:VZ L x=some L'):Qj x.c x.r=true∧JQ x.t=true∧L'=Xs ⟨x.c,x.r,x.t⟩ L:=by
 unfold VZ at h;split at h
 ·rename_i h9
  simp only [Bool.and_eq_true]at h9;cases h
  exact⟨h9.1.1,h9.1.2,rfl⟩
 ·cases h
theorem RunOk.step {L L':List CL} {x:CH} (h:RunOk L) (hs:VZ L x=some L'):RunOk L':=by
 obtain⟨h1,h2,rfl⟩:=pa_stepP hs;refine⟨Qde h.up,fun z hz=> ?_⟩;rcases setC_iffE.1 hz with⟨hz,_⟩ | ⟨rfl,h9⟩
 ·exact h.all z hz
 ·exact⟨h1,h9,h2⟩
theorem RunOk.run {D:Nat→CH} {E:List CL} (h0:RunOk E): ∀(t:Nat) {L:List CL},Yt D E t=some L→RunOk L
 | 0,L,h=>by cases h;exact h0
 | t+1,L,h=>by
  cases hp:Yt D E t with
  | none=>rw [Yt,hp]at h;cases h
  | some L0=>
   rw [Yt,hp]at h;exact(RunOk.run h0 t hp).step h
theorem RunOk.ok {M:List CL} (h:RunOk M) (hl:M.length≤120):QC (Ec M) (Eb M) (MN M) M.length=true:=by
 refine Ee hl (pw_rise h.up (fun z hz=>(h.all z hz).1)) (List.all_eq_true.2 fun i hi=> ?_);have hi':=List.mem_range.1 hi;have c1:=cof_at hi';have h9:=h.all _ (List.getElem_mem hi');unfold YA;rw [c1.2.2,h9.2.1,h9.2.2];rfl
theorem set_at {L:List CL} {p q:Int} {t:ByteArray} (h:L.Pairwise (fun a b=>ltC a b=true)):Qe0 (Ec (Xs ⟨p,q,t⟩ L)) (Eb (Xs ⟨p,q,t⟩ L)) (MN (Xs ⟨p,q,t⟩ L)) p q (Xs ⟨p,q,t⟩ L).length=t:=by
 have hpw:=Qde (x:=⟨p,q,t⟩) h;cases he:t.toList.isEmpty with
 | false=>exact srcL_mem hpw (z:=⟨p,q,t⟩) (setC_iffE.2 (Or.inr ⟨rfl,he⟩))
 | true=>
  have ht:t=⟨#[]⟩:=by
   apply QM;rw [ByteArray.toList_eq]at he;have:=List.isEmpty_iff.1 he;have h8:t.data.toList.length=0:=by rw [this];rfl
   simpa using h8
  rw [srcL_noneE]
  ·exact ht.symm
  intro j hj e;have c1:=cof_at hj;rw [c1.1,c1.2.1]at e;rcases setC_iffE.1 (List.getElem_mem hj)with⟨_,h9⟩ | ⟨_,h9⟩
  ·exact h9 e
  ·rw [he]at h9;cases h9
theorem pa_some {L M:List CL} {n m:Nat} {D:Nat→CH} (hn:L.length=n) (h:paF (Ec L) (Eb L) (MN L) n D m=some M):M.length≤120∧QC (Ec M) (Eb M) (MN M) M.length=true∧(0<m→Qj (D (m-1)).c (D (m-1)).r=true∧Qj2 (Ec M) (Eb M) (MN M) M.length (D (m-1)).c (D (m-1)).r=(D (m-1)).t):=by
 subst hn;unfold paF at h;split at h
 ·rename_i hc
  rw [Qa0]at h;cases hp:Yt D L m with
  | none=>rw [hp]at h;cases h
  | some K=>
   rw [hp]at h;simp only at h;split at h
   ·cases h
   ·rename_i hl
    cases h
    have hr:=(RunOk.start hc.1).run m hp;have hok:=hr.ok (by omega);refine⟨by omega,hok,fun h0=> ?_⟩;obtain⟨j,rfl⟩: ∃j,m=j+1:=⟨m-1,by omega⟩;cases hq:Yt D L j with
    | none=>rw [Yt,hq]at hp;cases hp
    | some L0=>
     rw [Yt,hq]at hp;obtain⟨h1,_,h3⟩:=pa_stepP (L:=L0) (x:=D j) hp;rw [Nat.add_sub_cancel];refine⟨h1,?_⟩;unfold Qj2;rw [hok,if_pos rfl,h3];exact set_at ((RunOk.start hc.1).run j hq).up
 ·cases h
theorem pa_szP {L M:List CL} {n m:Nat} {D:Nat→CH} (hn:L.length=n) (h:paF (Ec L) (Eb L) (MN L) n D m=some M): ∀x∈M,x.s.size≤maxLen:=by
 subst hn;unfold paF at h;split at h
 ·rename_i hc
  rw [Qa0]at h;cases hp:Yt D L m with
  | none=>rw [hp]at h;cases h
  | some K=>
   rw [hp]at h;simp only at h;split at h
   ·cases h
   ·cases h
    intro x hx;have h9:=(((RunOk.start hc.1).run m hp).all x hx).2.2;unfold JQ at h9;split at h9
    ·rename_i t ht
     have e1:t.toList=x.s.toList:=eq_of_beq h9
     have e2:t.data.toList.length=x.s.data.toList.length:=by
      rw [ByteArray.toList_eq,ByteArray.toList_eq]at e1;rw [e1]
     have h8:=Qit ht;have e3:t.size=x.s.size:=by simpa using e2
     unfold maxLen;omega
    ·cases h9
 ·cases h
end Go.Proofs.YthjldgbfgapbcaaGreatDoor
namespace Go.Proofs.YthjldgbfgapbcaaGreatDoor
open Go.RowKit Go.Maps
theorem ref_wfP {p q:Int} (h:Qj p q=true):(Lit.int .i64 p).wf=true∧(Lit.int .i64 q).wf=true:=by
 have hb:IntKind.i64.min= -9223372036854775808∧IntKind.i64.max=9223372036854775807:=⟨by kernel_rfl,by kernel_rfl⟩;simp only [Qj,Bool.and_eq_true,decide_eq_true_eq]at h;simp only [Lit.wf,hb.1,hb.2,Bool.and_eq_true,decide_eq_true_eq];omega
theorem row_nilP (W:World) (C R:Nat→Int) (S:Nat→ByteArray):ClRow W none 0 C R S:=⟨Nat.zero_le _,fun i hi=>absurd hi (Nat.not_lt_zero _)⟩
theorem law_FnPatchesRefused (H1:FtX 1 69) (H2:FtX 2 228) (A:Option Addr) (len cap:Nat) (w:World) (hz:len≤1048576→Cd w A len) (hg:GI w):Calls Tryz.prog 4 #[.slice A len cap] w fun e w'=>
  e= .returned (.bool true)∧Below w.heap.size w w':=by
 have HG:Hid (GI w):=hg;clear hg;by_cases hbig:(1048576:Int)<(len:Int)
 ·go_enter Tryz.func4,Tryz.ntmps4;go_wp2_with fail
  refine(laws_bigP A len cap _).mono ?_;rintro e wq ⟨rfl,hw⟩;subst wq;go_wp2_with fail
  go_ret;exact⟨rfl,by go_grown⟩
 have HC:Hid (Cd w A len):=hz (by omega);clear hz;go_enter Tryz.func4,Tryz.ntmps4;go_wp2_with fail
 refine(laws_bigP A len cap _).mono ?_;rintro e wq ⟨rfl,hw⟩;subst wq;go_wp2_with fail
 refine(draw_patched H1 H2 A len cap _ HC.out).mono ?_;rintro e w1 ⟨L,B,n,c,D,m,G,d,rfl,hL,hrow,hsz,hm,hch,hb⟩;have HLn:Hid (L.length=n):=hL;have K1:Hid (Below w.heap.size w w1):=hb;have R1:Hid (ClRow w1 B n (Ec L) (Eb L) (MN L)):=hrow;have D1:Hid (ChRow w1 G m D):=hch;clear hb hrow hch hL
 go_wp2_with fail
 refine(Qjn _ R1.out D1.out (HG.out.below K1.out)).mono ?_;rintro e w2 ⟨he,hb⟩;have R2:=hd (R1.out.below hb);have D2:=hd (D1.out.below hb);have K2:=hd (Qe K1.out hb);clear hb R1 D1;cases hpa:paF (Ec L) (Eb L) (MN L) n D m with
 | none=>
  have HE:Hid (paF (Ec L) (Eb L) (MN L) n D m=none):=hpa;rw [hpa]at he;obtain rfl:e= .returned (.tuple #[.slice none 0 0,.bool false]):=he;clear hpa;go_wp2_with fail
  refine(Qjm _ R2.out D2.out).mono ?_;rintro e w3 ⟨he,hb⟩;rw [HE.out]at he;obtain rfl:e= .returned (.tuple #[.slice none 0 0,.bool false]):=he;have K3:=hd (Qe K2.out hb);clear hb;go_wp2_with fail
  refine(Qe2 (C:=Ec L) (R:=Eb L) (S:=MN L) _ (row_nilP _ _ _ _) (row_nilP _ _ _ _)).mono ?_;rintro e w4 ⟨rfl,hb⟩;have K4:=hd (Qe K3.out hb);clear hb;go_wp2_with fail
  refine(Qe2 (C:=Ec L) (R:=Eb L) (S:=MN L) _ (row_nilP _ _ _ _) (row_nilP _ _ _ _)).mono ?_;rintro e w5 ⟨rfl,hb⟩;have K5:=hd (Qe K4.out hb);clear hb;go_wp2_with fail
  go_ret;exact⟨rfl,K5.out⟩
 | some M=>
  have HE:Hid (paF (Ec L) (Eb L) (MN L) n D m=some M):=hpa;obtain⟨hM120,hMok,hMlast⟩:=pa_some HLn.out hpa;have HMS:Hid (∀x∈M,x.s.size≤maxLen):=pa_szP HLn.out hpa;rw [hpa]at he;obtain⟨A2,c2,k,rfl,hk,ho⟩:=he;have HMk:Hid (M.length=k):=hk;rw [hk]at hMok hMlast
  have HMO:Hid (QC (Ec M) (Eb M) (MN M) k=true):=hMok;have HML:Hid (0<m→Qj (D (m-1)).c (D (m-1)).r=true∧Qj2 (Ec M) (Eb M) (MN M) k (D (m-1)).c (D (m-1)).r=(D (m-1)).t):=hMlast;have Q2:Hid (ClRow w2 A2 k (Ec M) (Eb M) (MN M)):=UK ho hk HMS.out;clear hpa ho hk hsz hMok hMlast hM120;go_wp2_with fail
  refine(Qjm _ R2.out D2.out).mono ?_;rintro e w3 ⟨he,hb⟩;rw [HE.out]at he;obtain⟨A3,c3,k',rfl,hk',ho'⟩:=he;obtain rfl:k=k':=by rw [←HMk.out,hk']
  have P3:Hid (ClRow w3 A3 k (Ec M) (Eb M) (MN M)):=UK ho' hk' HMS.out;have Q3:=hd (Q2.out.below hb);have D3:=hd (D2.out.below hb);have K3:=hd (Qe K2.out hb);clear hb ho' hk' Q2 R2 D2;go_wp2_with fail
  refine(Qe2 _ Q3.out P3.out).mono ?_;rintro e w4 ⟨rfl,hb⟩;have Q4:=hd (Q3.out.below hb);have P4:=hd (P3.out.below hb);have D4:=hd (D3.out.below hb);have K4:=hd (Qe K3.out hb);clear hb Q3 D3 P3
  rcases Nat.eq_zero_or_pos m with h0 | h0
  ·subst h0;go_wp2_with fail
   refine(Qe2 _ Q4.out P4.out).mono ?_;rintro e w5 ⟨rfl,hb⟩;have K5:=hd (Qe K4.out hb);clear hb;go_wp2_with fail
   go_ret;exact⟨rfl,K5.out⟩
  obtain⟨j,rfl⟩: ∃j,m=j+1:=⟨m-1,by omega⟩;have hml:=HML.out h0;rw [Nat.add_sub_cancel]at hml;obtain⟨bG,oG,rfl,hl,c0,c1,c2',c3',_,hts⟩:=D4.out.2 j (by omega);have e0:(((j+1:Nat):Int)==0)=false:=by simp;omega
  have q0:(0:Int)≤(j:Int):=by omega
  have q1:(j:Int)<(j:Int)+1:=by omega
  obtain⟨x,HX⟩: ∃x,Hid (D j=x):=⟨_,rfl⟩;rw [HX.out]at c0 c1 c2' c3' hml hts;obtain⟨cc,rr,ff,tt⟩:=x;simp only at c0 c1 c2' c3' hml hts;have HRF:Hid (Qj cc rr=true):=hml.1;have HSE:Hid (Qj2 (Ec M) (Eb M) (MN M) k cc rr=tt):=hml.2;have hbb:(tt.toList==tt.toList)=true:=by simp
  clear hml hts HML HX h0;go_upto_region 9 with fail
  obtain⟨u,HU⟩: ∃u,Hid (w4.alloc (.cells #[.int .i64 cc,.int .i64 rr,.string ff,.string tt] 40)=u):=⟨_,rfl⟩;rw [HU.out];have BU:Hid (Below w4.heap.size w4 u):=by show Below _ _ _;rw [←HU.out];exact(Below.refl _ _).alloc (Nat.le_refl _) _
  have x0:u.cell? ⟨w4.heap.size,0,none⟩=some (.int .i64 cc):=by rw [←HU.out];simp
  have x1:u.cell? ⟨w4.heap.size,1,none⟩=some (.int .i64 rr):=by rw [←HU.out];simp
  have x3:u.cell? ⟨w4.heap.size,3,none⟩=some (.string tt):=by rw [←HU.out];simp
  have xl:w4.heap.size<u.heap.size:=by rw [←HU.out];simp
  have HQU:=hd (Q4.out.below BU.out);have KU:=hd (Qe K4.out BU.out);have HGU:=hd (HG.out.below KU.out);have hse:=HSE.out;have hso:=HMO.out;clear HU c0 c1 c2' c3' hl D4;refine wp_region_held_drew (S:=(fun w'=>(∀bq oq,bq<u.heap.size→w'.cell? ⟨bq,oq,none⟩=u.cell? ⟨bq,oq,none⟩)∧u.heap.size≤w'.heap.size∧Below u.heap.size u w')) (by kernel_rfl) (Qm (by go_size) (by go_grown)) (fun hHeld=> ?_)
  refine tkA 0 ?_;refine tkB 1 ?_;refine tkA 2 ?_;refine tkB 4 ?_;refine tkB 5 ?_;refine rqA 3 (fun Kq hKq=> ?_);go_simp
  (refine(Qiu cc rr _ (HQU.out.below (by go_grown)) (HGU.out.below (by go_grown)) (ref_wfP HRF.out).1 (ref_wfP HRF.out).2).mono ?_;rintro e wy ⟨rfl,hb⟩;rw [hse];obtain⟨hk1,hz1⟩:=Qi (B:=u.heap.size) (X:=u) (by go_grown) (by go_size) hb;have hCy:=fun b o h=>hk1.cell (p:=⟨b,o,none⟩) h;clear hb)
  refine hkB hKq (Qm (by go_size) (by go_grown)) fun hHeld=> ?_;clear hKq Kq;refine tkA 6 ?_;refine tkB 7 ?_;refine tkB 8 ?_;refine rqA 9 (fun Kq hKq=> ?_);go_simp
  (refine(Jb _ (HQU.out.below (by go_grown)) (HGU.out.below (by go_grown))).mono ?_;rintro e wz ⟨rfl,hb⟩;rw [hso];obtain⟨hk1,hz1⟩:=Qi (B:=u.heap.size) (X:=u) (by go_grown) (by go_size) hb;have hCy:=fun b o h=>hk1.cell (p:=⟨b,o,none⟩) h;clear hb)
  refine hkB hKq (Qm (by go_size) (by go_grown)) fun hHeld=> ?_;clear hKq Kq;refine tkA 10 ?_;refine tkB 11 ?_;refine wpAnyH_done (by kernel_rfl) ?_ _;go_wp2_with fail
  go_ret;exact⟨rfl,Qe KU.out (by go_grown)⟩
end Go.Proofs.YthjldgbfgapbcaaGreatDoor
