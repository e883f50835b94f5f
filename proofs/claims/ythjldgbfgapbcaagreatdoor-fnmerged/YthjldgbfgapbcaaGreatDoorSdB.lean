import Derived.Test.YthjldgbfgapbcaaGreatDoorMn
import Derived.Test.YthjldgbfgapbcaaGreatDoorGzb
import Derived.Test.YthjldgbfgapbcaaGreatDoorGge
set_option linter.unusedSimpArgs false
set_option linter.unusedVariables false
set_option maxHeartbeats 8000000
set_option maxRecDepth 100000
namespace Go.Proofs.YthjldgbfgapbcaaGreatDoor
open Go.RowKit
theorem Upd.grown {r:Nat} {W w':World} (h:Upd r W w'):W.grownBy w' (some r):=
 ⟨h.2.2.2.1.os,h.2.2.2.1.tape,h.2.2.2.1.output,h.2.2.1,fun k hk hr=>h.2.2.2.2 k hk (fun e=>hr (by rw [e]))⟩
theorem Qdt {W w1:World} {r B k s:Nat} {e:TypeId} {v:Value} {xs:List Value} (h:W.ownsRow B e s v k xs) (hu:Upd r W w1) (hr:r<B):w1.ownsRow B e s v k xs:=by
 refine h.kept hu.grown ?_;cases hv:v.ownBlock with
 | none=>exact Or.inl rfl
 | some g=>
  right
  intro e9;cases e9
  have:=(h.lt r hv).1;omega
theorem Upd.app {r:Nat} {w W W':World} {ob:Option Nat} (h:Upd r w W) (hg:W.grownBy W' ob) (hob: ∀k,ob=some k→w.heap.size≤k) (hr:r<w.heap.size):Upd r w W':=by
 have blk: ∀b,b<w.heap.size→W'.heap[b]? =W.heap[b]?:=fun b hb=>hg.block b (Nat.lt_of_lt_of_le hb h.2.2.1) (fun e=>by have:=hob b e.symm;omega);refine⟨fun b o hb hn=> ?_,fun b o hb hn=> ?_,Nat.le_trans h.2.2.1 hg.size,⟨hg.os.trans h.2.2.2.1.os,hg.tape.trans h.2.2.2.1.tape,hg.output.trans h.2.2.2.1.output,Nat.le_trans h.2.2.1 hg.size,fun k hk=>(blk k (by omega)).trans (h.2.2.2.1.block k hk)⟩,fun b hb hn=>(blk b hb).trans (h.2.2.2.2 b hb hn)⟩
 ·refine Eq.trans ?_ (h.1 b o hb hn);unfold World.cell?;simp only [blk b hb]
 ·refine Eq.trans ?_ (h.2.1 b o hb hn);unfold World.frozen?;simp only [blk b hb]
theorem Rd.app {w W W':World} {r len cap:Nat} {A:Option Addr} (h0:Rd w r A len cap) (h:Rd W r A len cap) (hu:Upd r w W') (hb:W'.heap[r]? =W.heap[r]?):Rd W' r A len cap:=by
 obtain⟨z0,hby,_,_,_⟩:=h0;obtain⟨_,_,c0,f1,p,hp,c1⟩:=h;have cellr: ∀o,W'.cell? ⟨r,o,none⟩=W.cell? ⟨r,o,none⟩:=fun o=>by unfold World.cell?;simp only [hb]
 have frzr: ∀o,W'.frozen? ⟨r,o,none⟩=W.frozen? ⟨r,o,none⟩:=fun o=>by unfold World.frozen?;simp only [hb]
 refine⟨z0,fun i hi=> ?_,(cellr _).trans c0,(frzr _).trans f1,p,hp,(cellr _).trans c1⟩;obtain⟨b,o,v,e,hn,c,v0,v1⟩:=hby i hi;exact⟨b,o,v,e,hn,(hu.1 _ _ (ZE c) hn).trans c,v0,v1⟩
structure ShD (w w':World) (r:Nat) (A:Option Addr) (len cap:Nat) (v:Value) (L:List CL):Prop where
 own:w'.ownsRow w.heap.size 49 3 v L.length (Qu CL.cs L)
 lim:L.length≤121
 sz: ∀x∈L,x.s.size≤maxLen
 rd:Rd w' r A len cap
 upd:Upd r w w'
theorem ShD.keep {w W W':World} {r len cap:Nat} {A:Option Addr} {v:Value} {L:List CL} (h:ShD w W r A len cap v L) (hr:r<w.heap.size) (hu:Upd r W W') (hd:Rd W' r A len cap):ShD w W' r A len cap v L:=
 ⟨Qdt h.own hu hr,h.lim,h.sz,hd,h.upd.trans hu⟩
theorem ShD.below {w W W':World} {r len cap:Nat} {A:Option Addr} {v:Value} {L:List CL} (h:ShD w W r A len cap v L) (hr:r<w.heap.size) (hb:Below W.heap.size W W'):ShD w W' r A len cap v L:=
 h.keep hr (Upd.of_below (Nat.le_of_lt h.rd.lt) hb) (h.rd.below hb)
theorem ShD.row {w W:World} {r len cap n c:Nat} {A B:Option Addr} {L:List CL} (h:ShD w W r A len cap (.slice B n c) L) (hn:L.length=n):ClRow W B n (QA L) (Qz L) (QB L):=by
 have h9:=h.own;rw [hn]at h9;exact Xv h9 hn h.sz
theorem Qlh {L:List CL} (h: ∀x∈L,x.s.size≤maxLen) (i:Nat) (hi:i<L.length):(QB L i).size≤maxLen:=by
 unfold QB;rw [List.getElem?_eq_getElem hi];exact h _ (List.getElem_mem hi)
theorem Na (H1:FtX 1 69) (H2:FtX 2 228) (r:Nat) (A:Option Addr) (len cap:Nat) (most:Int) (w:World) (hr:Rd w r A len cap) (h0:0≤most) (h1:most≤20):Calls Tryz.prog 25 #[.pointer (some ⟨r,0,none⟩),.int .i64 most] w fun e w'=>
  ∃(L:List CL) (B:Option Addr) (c:Nat),e= .returned (.slice B L.length c)∧ShD w w' r A len cap (.slice B L.length c) L:=by
 have HR:Hid (Rd w r A len cap):=hr;have HL:Hid (r<w.heap.size):=hr.lt;clear hr;go_enter Tryz.func25,Tryz.ntmps25;go_wp2_with fail
 have HO0:Hid ((w.alloc (.cells #[] 49)).ownsRow w.heap.size 49 3 (.slice (some ⟨w.heap.size,0,none⟩) 0 0) 0 []):=Jj (Nat.le_refl _) rfl;have HB0:Hid (Below w.heap.size w (w.alloc (.cells #[] 49))):=(Below.refl _ _).alloc (Nat.le_refl _) _;refine(QC r A len cap (most+1) _ (HR.out.below HB0.out) (by omega) (by omega)).mono ?_;rintro e w1 ⟨v,rfl,v0,v1,hr,hu⟩;obtain⟨t,rfl⟩: ∃t:Nat,v=(t:Int):=⟨v.toNat,by omega⟩;have HS1:Hid (ShD w w1 r A len cap (.slice (some ⟨w.heap.size,0,none⟩) 0 0) []):=⟨Qdt HO0.out hu HL.out,Nat.zero_le _,fun x hx=>(List.not_mem_nil hx).elim,hr,(Upd.of_below (Nat.le_of_lt HL.out) HB0.out).trans hu⟩;clear hr hu HO0 HB0
 go_wp2_with fail
 go_loopw [5,6] (fun o i wr=> ∃(k:Nat) (L:List CL) (B:Option Addr) (n c:Nat),k≤t∧i= .int .i64 k∧o= .slice B n c∧L.length=n∧n≤120∧ShD w wr r A len cap (.slice B n c) L) (fun _ i _=>(intOf i).toNat)
 case atStart=>exact⟨t,[],_,0,0,Nat.le_refl _,rfl,rfl,rfl,by omega,HS1.out⟩
 case round=>
  clear HS1;obtain⟨k,L,B,n,c,hk,rfl,rfl,hL,hn,hsh⟩:=hrel;have HS:Hid (ShD w wr r A len cap (.slice B n c) L):=hsh;have HLn:Hid (L.length=n):=hL;clear hsh hL;by_cases hk0:0<k
  ·have q0:(0:Int)<(k:Int):=by omega
   go_wp2_with fail
   refine(Hr r A len cap _ HS.out.rd).mono ?_;rintro e w2 ⟨p,q,rfl,_,_,_,_,hr,hu⟩;have HS2:Hid (ShD w w2 r A len cap (.slice B n c) L):=HS.out.keep HL.out hu hr;clear hr hu HS;go_wp2_with fail
   refine(Qab H1 H2 r A len cap _ HS2.out.rd).mono ?_;rintro e w3 ⟨s,rfl,hs,hr,hu⟩;have HS3:Hid (ShD w w3 r A len cap (.slice B n c) L):=HS2.out.keep HL.out hu hr;clear hr hu HS2;go_wp2_with fail
   refine(Mj _ (HS3.out.row HLn.out) (by unfold maxLen;omega)).mono ?_;rintro e w4 ⟨he,hb⟩;have HS4:=hd (HS3.out.below HL.out hb);have HZ3:Hid (w.heap.size≤w3.heap.size):=HS3.out.upd.2.2.1;have hz:=Qpv (p:=p) (q:=q) (s:=s) (n:=n) (C:=QA L) (R:=Qz L) (S:=QB L) (fun i hi=>Qlh HS3.out.sz i (by rw [HLn.out];exact hi));have hl:=Qlb (p:=p) (q:=q) (s:=s) (n:=n) (C:=QA L) (R:=Qz L) (S:=QB L);cases hen:enF (QA L) (Qz L) (QB L) n p q s with
   | none=>
    rw [hen]at he;obtain rfl:e= .returned (.tuple #[.slice none 0 0,.bool false]):=he;clear hb hz hl hen HS3;go_wp2_with fail
    go_roundw
    case rel=>exact⟨k-1,L,B,n,c,by omega,by rw [show((k-1:Nat):Int)=(k:Int)-1 by omega],rfl,HLn.out,hn,HS4.out⟩
    case measure=>simp [intOf];omega
   | some M=>
    rw [hen]at he hz hl;obtain⟨B',c',m,rfl,hm,ho⟩:=he;have HM:Hid (ShD w w4 r A len cap (.slice B' m c') M):=⟨by rw [hm];exact Ju ho HZ3.out,by rw [Option.getD_some]at hl;omega,by rw [Option.getD_some]at hz;exact hz,HS4.out.rd,HS4.out.upd⟩;have HMn:Hid (M.length=m):=hm;have hm120:m≤120:=by rw [Option.getD_some]at hl;omega
    clear hb hz hl hen HS3 ho hm;go_wp2_with fail
    go_roundw
    case rel=>exact⟨k-1,M,B',m,c',by omega,by rw [show((k-1:Nat):Int)=(k:Int)-1 by omega],rfl,HMn.out,hm120,HM.out⟩
    case measure=>simp [intOf];omega
  ·have q0: ¬(0:Int)<(k:Int):=by omega
   go_wp2_with fail
   refine(Xr r A len cap 40 _ HS.out.rd (by omega) (by omega)).mono ?_;rintro e w2 ⟨b,rfl,hr,hu⟩;have HS2:Hid (ShD w w2 r A len cap (.slice B n c) L):=HS.out.keep HL.out hu hr;clear hr hu HS;cases b
   ·go_wp2_with fail
    go_ret;exact⟨L,B,c,by rw [HLn.out];rfl,by rw [HLn.out];exact HS2.out⟩
   go_wp2_with fail
   refine(Hr r A len cap _ HS2.out.rd).mono ?_;rintro e w3 ⟨p,q,rfl,_,_,_,_,hr,hu⟩;have HS3:Hid (ShD w w3 r A len cap (.slice B n c) L):=HS2.out.keep HL.out hu hr;clear hr hu HS2;go_wp2_with fail
   refine(Qab H1 H2 r A len cap _ HS3.out.rd).mono ?_;rintro e w4 ⟨s,rfl,hs,hr,hu⟩;have HS4:Hid (ShD w w4 r A len cap (.slice B n c) L):=HS3.out.keep HL.out hu hr;have HO4:Hid (w4.ownsRow w.heap.size 49 3 (.slice B n c) n (Qu CL.cs L)):=by have h9:=HS4.out.own;rw [HLn.out]at h9;exact h9
   have HZ4:Hid (w.heap.size≤w4.heap.size):=HS4.out.upd.2.2.1;have hz4:=HZ4.out;clear hr hu HS3
   go_wp2_with (first
    | (at_builtin;refine QS rfl _ _ rfl w.heap.size (.slice B n c) n L rfl (HO4.out.alloc _) p q s w4.heap.size rfl (by simp [go_sem]) (by simp [go_sem]) (by simp [go_sem]) (by omega) (by simp;omega) ?_)
    | fail)
   intro va w6 ho hg;obtain⟨F6,h6,rfl,_,_⟩:=Qh ho;have hba:Below w4.heap.size w4 (w4.alloc (.cells #[.int .i64 p,.int .i64 q,.string s] 49)):=(Below.refl _ _).alloc (Nat.le_refl _) _;have HS5:=HS4.out.below HL.out hba;have hlt:=HL.out;have hob: ∀k,(Value.slice B n c).ownBlock=some k→w.heap.size≤k:=fun k e=>(HO4.out.lt k e).1;have HU6:Upd r w w6:=HS5.upd.app hg hob hlt
   have HR6:Rd w6 r A len cap:=HR.out.app HS5.rd HU6 (hg.block r (Nat.lt_of_lt_of_le hlt HS5.upd.2.2.1) (fun e=>by have:=hob r e.symm;omega))
   have HS6:Hid (ShD w w6 r A len cap (.slice F6 (n+1) h6) (L++ [⟨p,q,s⟩])):=⟨by rw [List.length_append,HLn.out];exact ho,by rw [List.length_append,HLn.out];simp;omega,fun x hx=>by
    rcases List.mem_append.1 hx with hx | hx
    ·exact HS4.out.sz x hx
    ·rw [List.mem_singleton.1 hx];show s.size≤_;unfold maxLen;omega,HR6,HU6⟩
   have HLm:Hid ((L++ [(⟨p,q,s⟩:CL)]).length=n+1):=by show _=_;rw [List.length_append,HLn.out];rfl
   clear ho hg HR6 HU6 HS5 hba;go_wp2_with fail
   go_ret;exact⟨L++ [⟨p,q,s⟩],F6,h6,by rw [HLm.out];rfl,by rw [HLm.out];exact HS6.out⟩
end Go.Proofs.YthjldgbfgapbcaaGreatDoor
