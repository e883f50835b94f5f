import Derived.Test.YtbdhinckiccniaaGreatDoorMn
import Derived.Test.YtbdhinckiccniaaGreatDoorGzw
import Derived.Test.YtbdhinckiccniaaGreatDoorGze
import Derived.Test.YtbdhinckiccniaaGreatDoorGbf
import Derived.Test.YtbdhinckiccniaaGreatDoorGbg
import Derived.Test.YtbdhinckiccniaaGreatDoorGyq
import Derived.Test.YtbdhinckiccniaaGreatDoorGzb
set_option linter.unusedSimpArgs false
set_option linter.unusedVariables false
set_option maxHeartbeats 8000000
set_option maxRecDepth 100000
namespace Go.Proofs.YtbdhinckiccniaaGreatDoor
open Go.RowKit Go.Maps
theorem cyE {W w':World} {b o:Nat} {x:Value} (hb:Below W.heap.size W w') (c:W.cell? ⟨b,o,none⟩=some x):w'.cell? ⟨b,o,none⟩=some x:=
 (hb.cell (p:=⟨b,o,none⟩) (World.block_lt_of_cell? W ⟨b,o,none⟩ c)).trans c
def enF (C R:Nat→Int) (S:Nat→ByteArray) (n:Nat) (p q:Int) (s:ByteArray):Option (List CL):=if Qx C R S n=true∧Qh p q=true then(match inF s with
 | some t=>if 120<(NT ⟨p,q,t⟩ (clE C R S n)).length then none else some (NT ⟨p,q,t⟩ (clE C R S n))
 | none=>none)else none
def EnR (B:Nat) (w':World) (r:Option (List CL)) (e:Ending):Prop:=match r with
 | some L=> ∃A c m,e= .returned (.tuple #[.slice A m c,.bool true])∧L.length=m∧w'.ownsRow B 37 3 (.slice A m c) m (Za CL.cs L)
 | none=>e= .returned (.tuple #[.slice none 0 0,.bool false])
theorem Qqv {C R:Nat→Int} {S:Nat→ByteArray} {n:Nat} {p q:Int} {s:ByteArray} (h:Qx C R S n=false):enF C R S n p q s=none:=by rw [enF,if_neg (fun e=>by rw [h]at e;cases e.1)]
theorem Qqu {C R:Nat→Int} {S:Nat→ByteArray} {n:Nat} {p q:Int} {s:ByteArray} (h:Qh p q=false):enF C R S n p q s=none:=by rw [enF,if_neg (fun e=>by rw [h]at e;cases e.2)]
theorem Qqt {C R:Nat→Int} {S:Nat→ByteArray} {n:Nat} {p q:Int} {s:ByteArray} (h:inF s=none):enF C R S n p q s=none:=by rw [enF,h];split<;>rfl
theorem Qqs {C R:Nat→Int} {S:Nat→ByteArray} {n:Nat} {p q:Int} {s t:ByteArray} (h1:Qx C R S n=true) (h2:Qh p q=true) (h3:inF s=some t):enF C R S n p q s=if 120<(NT ⟨p,q,t⟩ (clE C R S n)).length then none else some (NT ⟨p,q,t⟩ (clE C R S n)):=by rw [enF,if_pos ⟨h1,h2⟩,h3]
theorem Qdd {A:Option Addr} {n cap:Nat} {C R:Nat→Int} {S:Nat→ByteArray} {p q:Int} {s:ByteArray} (w:World) (h:ClRow w A n C R S) (hs:s.size≤maxLen):
  Calls Tryz.prog 44 #[.slice A n cap,.agg #[.int .i64 p,.int .i64 q],.string s] w fun e w'=>EnR w.heap.size w' (enF C R S n p q s) e∧Below w.heap.size w w':=by
 have HR:Hid (ClRow w A n C R S):=h;have HS:Hid (s.size≤maxLen):=hs;clear h;obtain⟨ck,HCK⟩: ∃ck,Hid (Qx C R S n=ck):=⟨_,rfl⟩;obtain⟨rk,HRK⟩: ∃rk,Hid (Qh p q=rk):=⟨_,rfl⟩;obtain⟨io,HIO⟩: ∃io,Hid (inF s=io):=⟨_,rfl⟩;go_enter Tryz.func44,Tryz.ntmps44
 go_wp2_with fail
 obtain⟨X,HX⟩: ∃X,Hid (w.alloc (.cells #[.int .i64 p,.int .i64 q] 27)=X):=⟨_,rfl⟩;rw [HX.out];have x0:X.cell? ⟨w.heap.size,0,none⟩=some (.int .i64 p):=by rw [←HX.out];go_simp
 have x1:X.cell? ⟨w.heap.size,1,none⟩=some (.int .i64 q):=by rw [←HX.out];go_simp
 have zX:w.heap.size<X.heap.size:=by rw [←HX.out];simp
 have KX:Hid (Below w.heap.size w X):=by rw [←HX.out];show Below _ _ _;go_grown
 clear HX;refine(Zo s X HS.out).mono ?_;rintro e u0 ⟨hop,hb⟩;replace x0:=cyE hb x0;replace x1:=cyE hb x1;replace zX:w.heap.size<u0.heap.size:=Nat.lt_of_lt_of_le zX hb.size;replace KX:=hd (Qc KX.out hb)
 clear hb;rw [HIO.out]at hop;have HOP:Hid (opA io e):=hop;clear hop
 obtain⟨tx,ok,HE,HTX⟩: ∃(tx:ByteArray) (ok:Bool),Hid (e= .returned (.tuple #[.string tx,.bool ok]))∧Hid (io=if ok=true then some tx else none):=by
  cases io with
  | none=>exact⟨⟨#[]⟩,false,HOP.out,rfl⟩
  | some t=>exact⟨t,true,HOP.out,rfl⟩
 rw [HE.out];clear HE HOP;go_wp2_with fail
 refine(YY _ (HR.out.below KX.out)).mono ?_;rintro e u1 ⟨rfl,hb⟩;replace x0:=cyE hb x0;replace x1:=cyE hb x1;replace zX:w.heap.size<u1.heap.size:=Nat.lt_of_lt_of_le zX hb.size;replace KX:=hd (Qc KX.out hb);clear hb
 rw [HCK.out];cases ck
 ·have HV:Hid (enF C R S n p q s=none):=Qqv HCK.out;go_wp2_with fail
  refine bodyPost_ret (v:= .tuple #[.slice none 0 0,.bool false]) ?_ rfl ⟨?_,KX.out⟩
  ·simp (maxDischargeDepth:=9) [results,Tryz.results44,go_sem, *]
  ·rw [HV.out];exact rfl
 go_wp2_with fail
 refine(Qz p q _).mono ?_;rintro e u2 ⟨rfl,hb⟩;replace x0:=cyE hb x0;replace x1:=cyE hb x1;replace zX:w.heap.size<u2.heap.size:=Nat.lt_of_lt_of_le zX hb.size;replace KX:=hd (Qc KX.out hb);clear hb
 rw [HRK.out];cases rk
 ·have HV:Hid (enF C R S n p q s=none):=Qqu HRK.out;go_wp2_with fail
  refine bodyPost_ret (v:= .tuple #[.slice none 0 0,.bool false]) ?_ rfl ⟨?_,KX.out⟩
  ·simp (maxDischargeDepth:=9) [results,Tryz.results44,go_sem, *]
  ·rw [HV.out];exact rfl
 cases ok
 ·have HV:Hid (enF C R S n p q s=none):=Qqt (HIO.out.trans HTX.out);go_wp2_with fail
  refine bodyPost_ret (v:= .tuple #[.slice none 0 0,.bool false]) ?_ rfl ⟨?_,KX.out⟩
  ·simp (maxDischargeDepth:=9) [results,Tryz.results44,go_sem, *]
  ·rw [HV.out];exact rfl
 have HIT:Hid (inF s=some tx):=HIO.out.trans HTX.out;obtain⟨hn,hrf,hri⟩:=MW HCK.out;have HRI:Hid ((clE C R S n).Pairwise (fun a b=>ltC a b=true)):=hri;have HRF:Hid (∀i,i<n→Qh (C i) (R i)=true):=hrf;have HV:Hid (enF C R S n p q s=if 120<(NT ⟨p,q,tx⟩ (clE C R S n)).length then none else some (NT ⟨p,q,tx⟩ (clE C R S n))):=Qqs HCK.out HRK.out HIT.out;clear hri hrf;go_wp2_with fail
 refine(Qdb _ (HR.out.below KX.out) (by omega)).mono ?_;rintro e u3 ⟨A',c',m,rfl,hl,ho,hb⟩;have HEQ:Hid (Qi6 ⟨p,q,tx⟩ (clE C R S n)=NT ⟨p,q,tx⟩ (clE C R S n)):=(Qjx HRI.out).symm;rw [HEQ.out]at hl ho;have HLN:Hid ((NT ⟨p,q,tx⟩ (clE C R S n)).length=m):=hl;have HO:Hid (u3.ownsRow w.heap.size 37 3 (.slice A' m c') m (Za CL.cs (NT ⟨p,q,tx⟩ (clE C R S n)))):=Go.Proofs.ownsRow_base_a ho KX.out.size;clear hl ho
 replace x0:=cyE hb x0;replace x1:=cyE hb x1;replace zX:w.heap.size<u3.heap.size:=Nat.lt_of_lt_of_le zX hb.size;replace KX:=hd (Qc KX.out hb);clear hb;by_cases h120:120<m
 ·have q1:(120:Int)<((m:Nat):Int):=by omega
  go_wp2_with fail
  refine bodyPost_ret (v:= .tuple #[.slice none 0 0,.bool false]) ?_ rfl ⟨?_,KX.out⟩
  ·simp (maxDischargeDepth:=9) [results,Tryz.results44,go_sem, *]
  ·rw [HV.out,HLN.out,if_pos h120];exact rfl
 ·have q1: ¬(120:Int)<((m:Nat):Int):=by omega
  go_wp2_with fail
  refine bodyPost_ret (v:= .tuple #[.slice A' m c',.bool true]) ?_ rfl ⟨?_,KX.out⟩
  ·simp (maxDischargeDepth:=9) [results,Tryz.results44,go_sem, *]
  ·rw [HV.out,HLN.out,if_neg h120];exact⟨A',c',m,rfl,HLN.out,HO.out⟩
def ZE (L:List CL) (i:Nat):Int:=((L[i]?).map CL.c).getD 0
def ZD (L:List CL) (i:Nat):Int:=((L[i]?).map CL.r).getD 0
def Yg (L:List CL) (i:Nat):ByteArray:=((L[i]?).map CL.s).getD ⟨#[]⟩
theorem Qne (L:List CL):clE (ZE L) (ZD L) (Yg L) L.length=L:=by
 apply List.ext_getElem (VU _ _ _ _);intro i h1 h2;simp only [clE,List.getElem_map,List.getElem_range,ZE,ZD,Yg,List.getElem?_eq_getElem h2,Option.map_some,Option.getD_some]
theorem Qcp (C R:Nat→Int) (S:Nat→ByteArray): ∀n,clX C R S n=Za CL.cs (clE C R S n)
 | 0=>rfl
 | n+1=>by rw [Nw,Qcr,Dx,Qcp C R S n];rfl
theorem YK {W:World} {B n cap:Nat} {A:Option Addr} {L:List CL} (h:W.ownsRow B 37 3 (.slice A n cap) n (Za CL.cs L)) (hL:L.length=n) (hs: ∀x∈L,x.s.size≤maxLen):ClRow W A n (ZE L) (ZD L) (Yg L):=by
 subst hL;refine DN (B:=B) (cap:=cap) ?_ (fun i hi=> ?_)
 ·rw [Qcp,Qne];exact h
 ·simp only [Yg,List.getElem?_eq_getElem hi,Option.map_some,Option.getD_some];exact hs _ (List.getElem_mem hi)
theorem Qvf {C R:Nat→Int} {S:Nat→ByteArray} {n:Nat} {p q:Int} {s:ByteArray} (hs: ∀i,i<n→(S i).size≤maxLen): ∀x∈(enF C R S n p q s).getD [],x.s.size≤maxLen:=by
 intro x hx;rw [enF]at hx;split at hx
 ·cases hi:inF s with
  | none=>rw [hi]at hx;cases hx
  | some t=>
   rw [hi]at hx;simp only at hx;split at hx
   ·cases hx
   ·have h9:=(Qhg ⟨p,q,t⟩ (clE C R S n)).mem_iff.1 hx
    have hm: ∀y∈clE C R S n,y.s.size≤maxLen:=fun y hy=>by
     obtain⟨i,hi,rfl⟩:=List.mem_map.1 hy;exact hs i (List.mem_range.1 hi)
    split at h9
    ·exact hm x (offP_mem.1 h9).1
    ·rcases List.mem_append.1 h9 with h9 | h9
     ·exact hm x (offP_mem.1 h9).1
     ·rw [List.mem_singleton]at h9;subst h9;have:=Qs9 hi;unfold maxLen;show t.size≤_;omega
 ·cases hx
theorem Qth {C R:Nat→Int} {S:Nat→ByteArray} {n:Nat} {p q:Int} {s:ByteArray}:((enF C R S n p q s).getD []).length≤120:=by
 rw [enF];split
 ·cases hi:inF s with
  | none=>simp
  | some t=>
   simp only;split
   ·simp
   ·simp only [Option.getD_some];omega
 ·simp
end Go.Proofs.YtbdhinckiccniaaGreatDoor
namespace Go.Proofs.YtbdhinckiccniaaGreatDoor
open Go.RowKit
theorem Upd.grown {r:Nat} {W w':World} (h:Upd r W w'):W.grownBy w' (some r):=
 ⟨h.2.2.2.1.os,h.2.2.2.1.tape,h.2.2.2.1.output,h.2.2.1,fun k hk hr=>h.2.2.2.2 k hk (fun e=>hr (by rw [e]))⟩
theorem Qfx {W w1:World} {r B k s:Nat} {e:TypeId} {v:Value} {xs:List Value} (h:W.ownsRow B e s v k xs) (hu:Upd r W w1) (hr:r<B):w1.ownsRow B e s v k xs:=by
 refine h.kept hu.grown ?_;cases hv:v.ownBlock with
 | none=>exact Or.inl rfl
 | some g=>
  right
  intro e9;cases e9
  have:=(h.lt r hv).1;omega
theorem Upd.app {r:Nat} {w W W':World} {ob:Option Nat} (h:Upd r w W) (hg:W.grownBy W' ob) (hob: ∀k,ob=some k→w.heap.size≤k) (hr:r<w.heap.size):Upd r w W':=by
 have blk: ∀b,b<w.heap.size→W'.heap[b]? =W.heap[b]?:=fun b hb=>hg.block b (Nat.lt_of_lt_of_le hb h.2.2.1) (fun e=>by have:=hob b e.symm;omega);refine⟨fun b o hb hn=> ?_,fun b o hb hn=> ?_,Nat.le_trans h.2.2.1 hg.size,⟨hg.os.trans h.2.2.2.1.os,hg.tape.trans h.2.2.2.1.tape,hg.output.trans h.2.2.2.1.output,Nat.le_trans h.2.2.1 hg.size,fun k hk=>(blk k (by omega)).trans (h.2.2.2.1.block k hk)⟩,fun b hb hn=>(blk b hb).trans (h.2.2.2.2 b hb hn)⟩
 ·refine Eq.trans ?_ (h.1 b o hb hn);unfold World.cell?;simp only [blk b hb]
 ·refine Eq.trans ?_ (h.2.1 b o hb hn);unfold World.frozen?;simp only [blk b hb]
theorem Rd.app {w W W':World} {r len cap:Nat} {A:Option Addr} (h0:Rd w r A len cap) (h:Rd W r A len cap) (hu:Upd r w W') (hb:W'.heap[r]? =W.heap[r]?):Rd W' r A len cap:=by
 obtain⟨z0,hby,_,_,_⟩:=h0;obtain⟨_,_,c0,f1,p,hp,c1⟩:=h;have cellr: ∀o,W'.cell? ⟨r,o,none⟩=W.cell? ⟨r,o,none⟩:=fun o=>by unfold World.cell?;simp only [hb]
 have frzr: ∀o,W'.frozen? ⟨r,o,none⟩=W.frozen? ⟨r,o,none⟩:=fun o=>by unfold World.frozen?;simp only [hb]
 refine⟨z0,fun i hi=> ?_,(cellr _).trans c0,(frzr _).trans f1,p,hp,(cellr _).trans c1⟩;obtain⟨b,o,v,e,hn,c,v0,v1⟩:=hby i hi;exact⟨b,o,v,e,hn,(hu.1 _ _ (Zp c) hn).trans c,v0,v1⟩
structure ShD (w w':World) (r:Nat) (A:Option Addr) (len cap:Nat) (v:Value) (L:List CL):Prop where
 own:w'.ownsRow w.heap.size 37 3 v L.length (Za CL.cs L)
 lim:L.length≤121
 sz: ∀x∈L,x.s.size≤maxLen
 rd:Rd w' r A len cap
 upd:Upd r w w'
theorem ShD.keep {w W W':World} {r len cap:Nat} {A:Option Addr} {v:Value} {L:List CL} (h:ShD w W r A len cap v L) (hr:r<w.heap.size) (hu:Upd r W W') (hd:Rd W' r A len cap):ShD w W' r A len cap v L:=
 ⟨Qfx h.own hu hr,h.lim,h.sz,hd,h.upd.trans hu⟩
theorem ShD.below {w W W':World} {r len cap:Nat} {A:Option Addr} {v:Value} {L:List CL} (h:ShD w W r A len cap v L) (hr:r<w.heap.size) (hb:Below W.heap.size W W'):ShD w W' r A len cap v L:=
 h.keep hr (Upd.of_below (Nat.le_of_lt h.rd.lt) hb) (h.rd.below hb)
theorem ShD.row {w W:World} {r len cap n c:Nat} {A B:Option Addr} {L:List CL} (h:ShD w W r A len cap (.slice B n c) L) (hn:L.length=n):ClRow W B n (ZE L) (ZD L) (Yg L):=by
 have h9:=h.own;rw [hn]at h9;exact YK h9 hn h.sz
theorem Qto {L:List CL} (h: ∀x∈L,x.s.size≤maxLen) (i:Nat) (hi:i<L.length):(Yg L i).size≤maxLen:=by
 unfold Yg;rw [List.getElem?_eq_getElem hi];exact h _ (List.getElem_mem hi)
theorem Qj7 (H1:FtX 1 69) (H2:FtX 2 228) (r:Nat) (A:Option Addr) (len cap:Nat) (most:Int) (w:World) (hr:Rd w r A len cap) (h0:0≤most) (h1:most≤20):Calls Tryz.prog 19 #[.pointer (some ⟨r,0,none⟩),.int .i64 most] w fun e w'=>
  ∃(L:List CL) (B:Option Addr) (c:Nat),e= .returned (.slice B L.length c)∧ShD w w' r A len cap (.slice B L.length c) L:=by
 have HR:Hid (Rd w r A len cap):=hr;have HL:Hid (r<w.heap.size):=hr.lt;clear hr;go_enter Tryz.func19,Tryz.ntmps19;go_wp2_with fail
 have HO0:Hid ((w.alloc (.cells #[] 37)).ownsRow w.heap.size 37 3 (.slice (some ⟨w.heap.size,0,none⟩) 0 0) 0 []):=GJ (Nat.le_refl _) rfl;have HB0:Hid (Below w.heap.size w (w.alloc (.cells #[] 37))):=(Below.refl _ _).alloc (Nat.le_refl _) _;refine(Qy r A len cap (most+1) _ (HR.out.below HB0.out) (by omega) (by omega)).mono ?_;rintro e w1 ⟨v,rfl,v0,v1,hr,hu⟩;obtain⟨t,rfl⟩: ∃t:Nat,v=(t:Int):=⟨v.toNat,by omega⟩;have HS1:Hid (ShD w w1 r A len cap (.slice (some ⟨w.heap.size,0,none⟩) 0 0) []):=⟨Qfx HO0.out hu HL.out,Nat.zero_le _,fun x hx=>(List.not_mem_nil hx).elim,hr,(Upd.of_below (Nat.le_of_lt HL.out) HB0.out).trans hu⟩;clear hr hu HO0 HB0
 go_wp2_with fail
 go_loopw [5,6] (fun o i wr=> ∃(k:Nat) (L:List CL) (B:Option Addr) (n c:Nat),k≤t∧i= .int .i64 k∧o= .slice B n c∧L.length=n∧n≤120∧ShD w wr r A len cap (.slice B n c) L) (fun _ i _=>(intOf i).toNat)
 case atStart=>exact⟨t,[],_,0,0,Nat.le_refl _,rfl,rfl,rfl,by omega,HS1.out⟩
 case round=>
  clear HS1;obtain⟨k,L,B,n,c,hk,rfl,rfl,hL,hn,hsh⟩:=hrel;have HS:Hid (ShD w wr r A len cap (.slice B n c) L):=hsh;have HLn:Hid (L.length=n):=hL;clear hsh hL;by_cases hk0:0<k
  ·have q0:(0:Int)<(k:Int):=by omega
   go_wp2_with fail
   refine(Ux r A len cap _ HS.out.rd).mono ?_;rintro e w2 ⟨p,q,rfl,_,_,_,_,hr,hu⟩;have HS2:Hid (ShD w w2 r A len cap (.slice B n c) L):=HS.out.keep HL.out hu hr;clear hr hu HS;go_wp2_with fail
   refine(Qbr H1 H2 r A len cap _ HS2.out.rd).mono ?_;rintro e w3 ⟨s,rfl,hs,hr,hu⟩;have HS3:Hid (ShD w w3 r A len cap (.slice B n c) L):=HS2.out.keep HL.out hu hr;clear hr hu HS2;go_wp2_with fail
   refine(Qdd _ (HS3.out.row HLn.out) (by unfold maxLen;omega)).mono ?_;rintro e w4 ⟨he,hb⟩;have HS4:=hd (HS3.out.below HL.out hb);have HZ3:Hid (w.heap.size≤w3.heap.size):=HS3.out.upd.2.2.1;have hz:=Qvf (p:=p) (q:=q) (s:=s) (n:=n) (C:=ZE L) (R:=ZD L) (S:=Yg L) (fun i hi=>Qto HS3.out.sz i (by rw [HLn.out];exact hi));have hl:=Qth (p:=p) (q:=q) (s:=s) (n:=n) (C:=ZE L) (R:=ZD L) (S:=Yg L);cases hen:enF (ZE L) (ZD L) (Yg L) n p q s with
   | none=>
    rw [hen]at he;obtain rfl:e= .returned (.tuple #[.slice none 0 0,.bool false]):=he;clear hb hz hl hen HS3;go_wp2_with fail
    go_roundw
    case rel=>exact⟨k-1,L,B,n,c,by omega,by rw [show((k-1:Nat):Int)=(k:Int)-1 by omega],rfl,HLn.out,hn,HS4.out⟩
    case measure=>simp [intOf];omega
   | some M=>
    rw [hen]at he hz hl;obtain⟨B',c',m,rfl,hm,ho⟩:=he;have HM:Hid (ShD w w4 r A len cap (.slice B' m c') M):=⟨by rw [hm];exact Yv ho HZ3.out,by rw [Option.getD_some]at hl;omega,by rw [Option.getD_some]at hz;exact hz,HS4.out.rd,HS4.out.upd⟩;have HMn:Hid (M.length=m):=hm;have hm120:m≤120:=by rw [Option.getD_some]at hl;omega
    clear hb hz hl hen HS3 ho hm;go_wp2_with fail
    go_roundw
    case rel=>exact⟨k-1,M,B',m,c',by omega,by rw [show((k-1:Nat):Int)=(k:Int)-1 by omega],rfl,HMn.out,hm120,HM.out⟩
    case measure=>simp [intOf];omega
  ·have q0: ¬(0:Int)<(k:Int):=by omega
   go_wp2_with fail
   refine(XF r A len cap 40 _ HS.out.rd (by omega) (by omega)).mono ?_;rintro e w2 ⟨b,rfl,hr,hu⟩;have HS2:Hid (ShD w w2 r A len cap (.slice B n c) L):=HS.out.keep HL.out hu hr;clear hr hu HS;cases b
   ·go_wp2_with fail
    go_ret;exact⟨L,B,c,by rw [HLn.out];rfl,by rw [HLn.out];exact HS2.out⟩
   go_wp2_with fail
   refine(Ux r A len cap _ HS2.out.rd).mono ?_;rintro e w3 ⟨p,q,rfl,_,_,_,_,hr,hu⟩;have HS3:Hid (ShD w w3 r A len cap (.slice B n c) L):=HS2.out.keep HL.out hu hr;clear hr hu HS2;go_wp2_with fail
   refine(Qbr H1 H2 r A len cap _ HS3.out.rd).mono ?_;rintro e w4 ⟨s,rfl,hs,hr,hu⟩;have HS4:Hid (ShD w w4 r A len cap (.slice B n c) L):=HS3.out.keep HL.out hu hr;have HO4:Hid (w4.ownsRow w.heap.size 37 3 (.slice B n c) n (Za CL.cs L)):=by have h9:=HS4.out.own;rw [HLn.out]at h9;exact h9
   have HZ4:Hid (w.heap.size≤w4.heap.size):=HS4.out.upd.2.2.1;have hz4:=HZ4.out;clear hr hu HS3
   go_wp2_with (first
    | (at_builtin;refine QC rfl _ _ rfl w.heap.size (.slice B n c) n L rfl (HO4.out.alloc _) p q s w4.heap.size rfl (by simp [go_sem]) (by simp [go_sem]) (by simp [go_sem]) (by omega) (by simp;omega) ?_)
    | fail)
   intro va w6 ho hg;obtain⟨F6,h6,rfl,_,_⟩:=Qo ho;have hba:Below w4.heap.size w4 (w4.alloc (.cells #[.int .i64 p,.int .i64 q,.string s] 37)):=(Below.refl _ _).alloc (Nat.le_refl _) _;have HS5:=HS4.out.below HL.out hba;have hlt:=HL.out;have hob: ∀k,(Value.slice B n c).ownBlock=some k→w.heap.size≤k:=fun k e=>(HO4.out.lt k e).1;have HU6:Upd r w w6:=HS5.upd.app hg hob hlt
   have HR6:Rd w6 r A len cap:=HR.out.app HS5.rd HU6 (hg.block r (Nat.lt_of_lt_of_le hlt HS5.upd.2.2.1) (fun e=>by have:=hob r e.symm;omega))
   have HS6:Hid (ShD w w6 r A len cap (.slice F6 (n+1) h6) (L++ [⟨p,q,s⟩])):=⟨by rw [List.length_append,HLn.out];exact ho,by rw [List.length_append,HLn.out];simp;omega,fun x hx=>by
    rcases List.mem_append.1 hx with hx | hx
    ·exact HS4.out.sz x hx
    ·rw [List.mem_singleton.1 hx];show s.size≤_;unfold maxLen;omega,HR6,HU6⟩
   have HLm:Hid ((L++ [(⟨p,q,s⟩:CL)]).length=n+1):=by show _=_;rw [List.length_append,HLn.out];rfl
   clear ho hg HR6 HU6 HS5 hba;go_wp2_with fail
   go_ret;exact⟨L++ [⟨p,q,s⟩],F6,h6,by rw [HLm.out];rfl,by rw [HLm.out];exact HS6.out⟩
end Go.Proofs.YtbdhinckiccniaaGreatDoor
