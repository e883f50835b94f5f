import Derived.Test.YthpmmfmanaefgaaGreatDoorGzb
import Derived.Test.YthpmmfmanaefgaaGreatDoorGge
import Derived.Test.YthpmmfmanaefgaaGreatDoorGgf
import Derived.Test.YthpmmfmanaefgaaGreatDoorGgg
import Derived.Test.YthpmmfmanaefgaaGreatDoorGzc
import Derived.Test.YthpmmfmanaefgaaGreatDoorMn
import Derived.Test.YthpmmfmanaefgaaGreatDoorGbf
import Derived.Test.YthpmmfmanaefgaaGreatDoorGze
set_option linter.unusedSimpArgs false
set_option linter.unusedVariables false
set_option maxHeartbeats 8000000
set_option maxRecDepth 100000
namespace Go.Proofs.YthpmmfmanaefgaaGreatDoor
open Go.RowKit
theorem Upd.grown {r:Nat} {W w':World} (h:Upd r W w'):W.grownBy w' (some r):=
 ⟨h.2.2.2.1.os,h.2.2.2.1.tape,h.2.2.2.1.output,h.2.2.1,fun k hk hr=>h.2.2.2.2 k hk (fun e=>hr (by rw [e]))⟩
theorem own_upd {W w1:World} {r B k s:Nat} {e:TypeId} {v:Value} {xs:List Value} (h:W.ownsRow B e s v k xs) (hu:Upd r W w1) (hr:r<B):w1.ownsRow B e s v k xs:=by
 refine h.kept hu.grown ?_;cases hv:v.ownBlock with
 | none=>exact Or.inl rfl
 | some g=>
  right
  intro e9;cases e9
  have:=(h.lt r hv).1;omega
theorem Upd.app {r:Nat} {w W W':World} {ob:Option Nat} (h:Upd r w W) (hg:W.grownBy W' ob) (hob: ∀k,ob=some k→w.heap.size≤k) (hr:r<w.heap.size):Upd r w W':=by
 have blk: ∀b,b<w.heap.size→W'.heap[b]? =W.heap[b]?:=fun b hb=>hg.block b (Nat.lt_of_lt_of_le hb h.2.2.1) (fun e=>by have:=hob b e.symm;omega);refine⟨fun b o hb hn=> ?_,fun b o hb hn=> ?_,Nat.le_trans h.2.2.1 hg.size,⟨hg.os.trans h.2.2.2.1.os,hg.tape.trans h.2.2.2.1.tape,hg.output.trans h.2.2.2.1.output,Nat.le_trans h.2.2.1 hg.size,fun k hk=>(blk k (by omega)).trans (h.2.2.2.1.block k hk)⟩,fun b hb hn=>(blk b hb).trans (h.2.2.2.2 b hb hn)⟩
 ·refine Eq.trans ?_ (h.1 b o hb hn);unfold World.cell?;simp only [blk b hb]
 ·refine Eq.trans ?_ (h.2.1 b o hb hn);unfold World.frozen?;simp only [blk b hb]
theorem Rd.app {w W W':World} {r len cap:Nat} {A:Option Addr} (h0:Rd w r A len cap) (h:Rd W r A len cap) (hu:Upd r w W') (hb:W'.heap[r]? =W.heap[r]?):Rd W' r A len cap:=by
 obtain⟨z0,hby,_,_,_⟩:=h0;obtain⟨_,_,c0,f1,p,hp,c1⟩:=h;have cellr: ∀o,W'.cell? ⟨r,o,none⟩=W.cell? ⟨r,o,none⟩:=fun o=>by unfold World.cell?;simp only [hb]
 have frzr: ∀o,W'.frozen? ⟨r,o,none⟩=W.frozen? ⟨r,o,none⟩:=fun o=>by unfold World.frozen?;simp only [hb]
 refine⟨z0,fun i hi=> ?_,(cellr _).trans c0,(frzr _).trans f1,p,hp,(cellr _).trans c1⟩;obtain⟨b,o,v,e,hn,c,v0,v1⟩:=hby i hi;exact⟨b,o,v,e,hn,(hu.1 _ _ (lt_of_cell c) hn).trans c,v0,v1⟩
structure ShD (w w':World) (r:Nat) (A:Option Addr) (len cap:Nat) (v:Value) (L:List CL):Prop where
 own:w'.ownsRow w.heap.size 37 3 v L.length (flat CL.cs L)
 lim:L.length≤121
 sz: ∀x∈L,x.s.size≤maxLen
 rd:Rd w' r A len cap
 upd:Upd r w w'
theorem ShD.keep {w W W':World} {r len cap:Nat} {A:Option Addr} {v:Value} {L:List CL} (h:ShD w W r A len cap v L) (hr:r<w.heap.size) (hu:Upd r W W') (hdq:Rd W' r A len cap):ShD w W' r A len cap v L:=
 ⟨own_upd h.own hu hr,h.lim,h.sz,hdq,h.upd.trans hu⟩
theorem ShD.below {w W W':World} {r len cap:Nat} {A:Option Addr} {v:Value} {L:List CL} (h:ShD w W r A len cap v L) (hr:r<w.heap.size) (hb:Below W.heap.size W W'):ShD w W' r A len cap v L:=
 h.keep hr (Upd.of_below (Nat.le_of_lt h.rd.lt) hb) (h.rd.below hb)
theorem ShD.row {w W:World} {r len cap n c:Nat} {A B:Option Addr} {L:List CL} (h:ShD w W r A len cap (.slice B n c) L) (hn:L.length=n):ClRow W B n (cofC L) (cofR L) (cofS L):=by
 have h9:=h.own;rw [hn]at h9;exact cl_of_list h9 hn h.sz
theorem cof_sz {L:List CL} (h: ∀x∈L,x.s.size≤maxLen) (i:Nat) (hi:i<L.length):(cofS L i).size≤maxLen:=by
 unfold cofS;rw [List.getElem?_eq_getElem hi];exact h _ (List.getElem_mem hi)
theorem rd_sheet (H1:FtX 1 69) (H2:FtX 2 228) (r:Nat) (A:Option Addr) (len cap:Nat) (most:Int) (w:World) (hr:Rd w r A len cap) (h0:0≤most) (h1:most≤20):Calls Tryz.prog 13 #[.pointer (some ⟨r,0,none⟩),.int .i64 most] w fun e w'=>
  ∃(L:List CL) (B:Option Addr) (c:Nat),e= .returned (.slice B L.length c)∧ShD w w' r A len cap (.slice B L.length c) L:=by
 have HR:Hid (Rd w r A len cap):=hr;have HL:Hid (r<w.heap.size):=hr.lt;clear hr;go_enter Tryz.func13,Tryz.ntmps13;go_wp2_with fail
 have HO0:Hid ((w.alloc (.cells #[] 37)).ownsRow w.heap.size 37 3 (.slice (some ⟨w.heap.size,0,none⟩) 0 0) 0 []):=own_empty (Nat.le_refl _) rfl;have HB0:Hid (Below w.heap.size w (w.alloc (.cells #[] 37))):=(Below.refl _ _).alloc (Nat.le_refl _) _;refine(rd_below r A len cap (most+1) _ (HR.out.below HB0.out) (by omega) (by omega)).mono ?_;rintro e w1 ⟨v,rfl,v0,v1,hr,hu⟩;obtain⟨t,rfl⟩: ∃t:Nat,v=(t:Int):=⟨v.toNat,by omega⟩;have HS1:Hid (ShD w w1 r A len cap (.slice (some ⟨w.heap.size,0,none⟩) 0 0) []):=⟨own_upd HO0.out hu HL.out,Nat.zero_le _,fun x hx=>(List.not_mem_nil hx).elim,hr,(Upd.of_below (Nat.le_of_lt HL.out) HB0.out).trans hu⟩;clear hr hu HO0 HB0
 go_wp2_with fail
 go_loopw [5,6] (fun o i wr=> ∃(k:Nat) (L:List CL) (B:Option Addr) (n c:Nat),k≤t∧i= .int .i64 k∧o= .slice B n c∧L.length=n∧n≤120∧ShD w wr r A len cap (.slice B n c) L) (fun _ i _=>(intOf i).toNat)
 case atStart=>exact⟨t,[],_,0,0,Nat.le_refl _,rfl,rfl,rfl,by omega,HS1.out⟩
 case round=>
  clear HS1;obtain⟨k,L,B,n,c,hk,rfl,rfl,hL,hn,hsh⟩:=hrel;have HS:Hid (ShD w wr r A len cap (.slice B n c) L):=hsh;have HLn:Hid (L.length=n):=hL;clear hsh hL;by_cases hk0:0<k
  ·have q0:(0:Int)<(k:Int):=by omega
   go_wp2_with fail
   refine(rd_ref r A len cap _ HS.out.rd).mono ?_;rintro e w2 ⟨p,q,rfl,_,_,_,_,hr,hu⟩;have HS2:Hid (ShD w w2 r A len cap (.slice B n c) L):=HS.out.keep HL.out hu hr;clear hr hu HS;go_wp2_with fail
   refine(rd_input H1 H2 r A len cap _ HS2.out.rd).mono ?_;rintro e w3 ⟨s,rfl,hs,hr,hu⟩;have HS3:Hid (ShD w w3 r A len cap (.slice B n c) L):=HS2.out.keep HL.out hu hr;clear hr hu HS2;go_wp2_with fail
   refine(spec_Enter _ (HS3.out.row HLn.out) (by unfold maxLen;omega)).mono ?_;rintro e w4 ⟨he,hb⟩;have HS4:=hd (HS3.out.below HL.out hb);have HZ3:Hid (w.heap.size≤w3.heap.size):=HS3.out.upd.2.2.1;have hz:=en_sz (p:=p) (q:=q) (s:=s) (n:=n) (C:=cofC L) (R:=cofR L) (S:=cofS L) (fun i hi=>cof_sz HS3.out.sz i (by rw [HLn.out];exact hi));have hl:=en_len (p:=p) (q:=q) (s:=s) (n:=n) (C:=cofC L) (R:=cofR L) (S:=cofS L);cases hen:enF (cofC L) (cofR L) (cofS L) n p q s with
   | none=>
    rw [hen]at he;obtain rfl:e= .returned (.tuple #[.slice none 0 0,.bool false]):=he;clear hb hz hl hen HS3;go_wp2_with fail
    go_roundw
    case rel=>exact⟨k-1,L,B,n,c,by omega,by rw [show((k-1:Nat):Int)=(k:Int)-1 by omega],rfl,HLn.out,hn,HS4.out⟩
    case measure=>simp [intOf];omega
   | some M=>
    rw [hen]at he hz hl;obtain⟨B',c',m,rfl,hm,ho⟩:=he;have HM:Hid (ShD w w4 r A len cap (.slice B' m c') M):=⟨by rw [hm];exact own_mono ho HZ3.out,by rw [Option.getD_some]at hl;omega,by rw [Option.getD_some]at hz;exact hz,HS4.out.rd,HS4.out.upd⟩;have HMn:Hid (M.length=m):=hm;have hm120:m≤120:=by rw [Option.getD_some]at hl;omega
    clear hb hz hl hen HS3 ho hm;go_wp2_with fail
    go_roundw
    case rel=>exact⟨k-1,M,B',m,c',by omega,by rw [show((k-1:Nat):Int)=(k:Int)-1 by omega],rfl,HMn.out,hm120,HM.out⟩
    case measure=>simp [intOf];omega
  ·have q0: ¬(0:Int)<(k:Int):=by omega
   go_wp2_with fail
   refine(rd_once r A len cap 40 _ HS.out.rd (by omega) (by omega)).mono ?_;rintro e w2 ⟨b,rfl,hr,hu⟩;have HS2:Hid (ShD w w2 r A len cap (.slice B n c) L):=HS.out.keep HL.out hu hr;clear hr hu HS;cases b
   ·go_wp2_with fail
    go_ret;exact⟨L,B,c,by rw [HLn.out];rfl,by rw [HLn.out];exact HS2.out⟩
   go_wp2_with fail
   refine(rd_ref r A len cap _ HS2.out.rd).mono ?_;rintro e w3 ⟨p,q,rfl,_,_,_,_,hr,hu⟩;have HS3:Hid (ShD w w3 r A len cap (.slice B n c) L):=HS2.out.keep HL.out hu hr;clear hr hu HS2;go_wp2_with fail
   refine(rd_input H1 H2 r A len cap _ HS3.out.rd).mono ?_;rintro e w4 ⟨s,rfl,hs,hr,hu⟩;have HS4:Hid (ShD w w4 r A len cap (.slice B n c) L):=HS3.out.keep HL.out hu hr;have HO4:Hid (w4.ownsRow w.heap.size 37 3 (.slice B n c) n (flat CL.cs L)):=by have h9:=HS4.out.own;rw [HLn.out]at h9;exact h9
   have HZ4:Hid (w.heap.size≤w4.heap.size):=HS4.out.upd.2.2.1;have hz4:=HZ4.out;clear hr hu HS3
   go_wp2_with (first
    | (at_builtin;refine wpList_app_cl rfl _ _ rfl w.heap.size (.slice B n c) n L rfl (HO4.out.alloc _) p q s w4.heap.size rfl (by simp [go_sem]) (by simp [go_sem]) (by simp [go_sem]) (by omega) (by simp;omega) ?_)
    | fail)
   intro va w6 ho hg;obtain⟨F6,h6,rfl,_,_⟩:=own_shape ho;have hba:Below w4.heap.size w4 (w4.alloc (.cells #[.int .i64 p,.int .i64 q,.string s] 37)):=(Below.refl _ _).alloc (Nat.le_refl _) _;have HS5:=HS4.out.below HL.out hba;have hlt:=HL.out;have hob: ∀k,(Value.slice B n c).ownBlock=some k→w.heap.size≤k:=fun k e=>(HO4.out.lt k e).1;have HU6:Upd r w w6:=HS5.upd.app hg hob hlt
   have HR6:Rd w6 r A len cap:=HR.out.app HS5.rd HU6 (hg.block r (Nat.lt_of_lt_of_le hlt HS5.upd.2.2.1) (fun e=>by have:=hob r e.symm;omega))
   have HS6:Hid (ShD w w6 r A len cap (.slice F6 (n+1) h6) (L++ [⟨p,q,s⟩])):=⟨by rw [List.length_append,HLn.out];exact ho,by rw [List.length_append,HLn.out];simp;omega,fun x hx=>by
    rcases List.mem_append.1 hx with hx | hx
    ·exact HS4.out.sz x hx
    ·rw [List.mem_singleton.1 hx];show s.size≤_;unfold maxLen;omega,HR6,HU6⟩
   have HLm:Hid ((L++ [(⟨p,q,s⟩:CL)]).length=n+1):=by show _=_;rw [List.length_append,HLn.out];rfl
   clear ho hg HR6 HU6 HS5 hba;go_wp2_with fail
   go_ret;exact⟨L++ [⟨p,q,s⟩],F6,h6,by rw [HLm.out];rfl,by rw [HLm.out];exact HS6.out⟩
def C2 (W:World) (b:Nat) (v0 v1:Value):Prop:=b<W.heap.size∧(W.cell? ⟨b,0,none⟩=some v0∧W.cell? ⟨b,1,none⟩=some v1)∧W.frozen? ⟨b,0,none⟩=false∧W.frozen? ⟨b,1,none⟩=false
theorem C2.upd {W w1:World} {r b:Nat} {v0 v1:Value} (h:C2 W b v0 v1) (hu:Upd r W w1) (hn:b≠r):C2 w1 b v0 v1:=by
 obtain⟨hl,⟨c0,c1⟩,f0,f1⟩:=h;exact⟨Nat.lt_of_lt_of_le hl hu.2.2.1,⟨(hu.1 b 0 hl hn).trans c0,(hu.1 b 1 hl hn).trans c1⟩,(hu.2.1 b 0 hl hn).trans f0,(hu.2.1 b 1 hl hn).trans f1⟩
theorem C2.below {W w1:World} {b:Nat} {v0 v1:Value} (h:C2 W b v0 v1) (hb:Below W.heap.size W w1):C2 w1 b v0 v1:=by
 obtain⟨hl,⟨c0,c1⟩,f0,f1⟩:=h;exact⟨Nat.lt_of_lt_of_le hl hb.size,⟨(hb.cell (p:=⟨b,0,none⟩) hl).trans c0,(hb.cell (p:=⟨b,1,none⟩) hl).trans c1⟩,(hb.frozen (p:=⟨b,0,none⟩) hl).trans f0,(hb.frozen (p:=⟨b,1,none⟩) hl).trans f1⟩
theorem C2.new (W:World) (v0 v1:Value) (t:TypeId):C2 (W.alloc (.cells #[v0,v1] t)) W.heap.size v0 v1:=by
 refine⟨by simp,⟨by simp,by simp⟩,by simp,by simp⟩
theorem C2.far {W:World} {b g o:Nat} {v0 v1 u:Value} (h:C2 W b v0 v1) (hn:b≠g):C2 (W.setCell ⟨g,o,none⟩ u) b v0 v1:=by
 obtain⟨hl,⟨c0,c1⟩,f0,f1⟩:=h;exact⟨by simpa using hl,⟨(World.cell?_setCell_other W ⟨g,o,none⟩ ⟨b,0,none⟩ u (fun e=>hn (congrArg Addr.block e).symm)).trans c0,(World.cell?_setCell_other W ⟨g,o,none⟩ ⟨b,1,none⟩ u (fun e=>hn (congrArg Addr.block e).symm)).trans c1⟩,by simpa using f0,by simpa using f1⟩
theorem C2.one {W:World} {b:Nat} {v0 v1 u:Value} (h:C2 W b v0 v1):C2 (W.setCell ⟨b,1,none⟩ u) b v0 u:=by
 obtain⟨hl,⟨c0,c1⟩,f0,f1⟩:=h;exact⟨by simpa using hl,⟨(World.cell?_setCell_other W ⟨b,1,none⟩ ⟨b,0,none⟩ u (fun e=>by cases e)).trans c0,World.cell?_setCell_same _ _ _ c1⟩,by simpa using f0,by simpa using f1⟩
theorem ShD.cell {w W:World} {r len cap g o:Nat} {A:Option Addr} {v u:Value} {L:List CL} (h:ShD w W r A len cap v L) (h0:Rd w r A len cap) (hg:w.heap.size≤g) (hv: ∀k,v.ownBlock=some k→k≠g):ShD w (W.setCell ⟨g,o,none⟩ u) r A len cap v L:=by
 have gb:W.grownBy (W.setCell ⟨g,o,none⟩ u) (some g):=⟨rfl,rfl,rfl,by simp,fun k _ hk=>Below.heap_setCell W ⟨g,o,none⟩ u k (fun e=>hk (by rw [e]))⟩;have hl:=h0.lt;have hu:=h.upd.app gb (fun k e=>by cases e;exact hg) hl;refine⟨h.own.kept gb ?_,h.lim,h.sz,h0.app h.rd hu (gb.block r (Nat.lt_of_lt_of_le hl h.upd.2.2.1) (fun e=>by cases e;omega)),hu⟩;cases hq:v.ownBlock with
 | none=>exact Or.inl rfl
 | some k=>
  right
  intro e;cases e
  exact hv _ hq rfl
theorem draw_enter (H1:FtX 1 69) (H2:FtX 2 228) (A:Option Addr) (len cap:Nat) (w:World) (h:Cd w A len):Calls Tryz.prog 5 #[.slice A len cap] w fun e w'=>
  ∃(L:List CL) (B:Option Addr) (c:Nat) (p q:Int) (s:ByteArray),e= .returned (.tuple #[.slice B L.length c,.agg #[.int .i64 p,.int .i64 q],.string s])∧ClRow w' B L.length (cofC L) (cofR L) (cofS L)∧L.length≤121∧(∀x∈L,x.s.size≤maxLen)∧s.size≤300∧Below w.heap.size w w':=by
 have HH:Hid (Cd w A len):=h;clear h;go_enter Tryz.func5,Tryz.ntmps5;go_wp2_with fail
 obtain⟨X,HX⟩: ∃X,Hid (w.alloc (.cells #[.int .i64 0,.int .i64 0] 26)=X):=⟨_,rfl⟩;rw [HX.out];have zX:Hid (w.heap.size<X.heap.size):=by show _<_;rw [←HX.out];simp
 have C0:Hid (C2 X w.heap.size (.int .i64 0) (.int .i64 0)):=by show C2 _ _ _ _;rw [←HX.out];exact C2.new _ _ _ _
 have BX:Hid (Below w.heap.size w X):=by show Below _ _ _;rw [←HX.out];exact(Below.refl _ _).alloc (Nat.le_refl _) _
 clear HX;refine(spec_l1Open A len cap _).mono ?_;rintro e w1 ⟨rfl,hw1⟩;have HR1:Hid (Rd w1 X.heap.size A len cap):=by show Rd _ _ _ _ _;rw [←hw1];exact HH.out.open BX.out rfl
 have B1:Hid (Below X.heap.size X w1):=by show Below _ _ _;rw [←hw1];exact(Below.refl _ _).alloc (Nat.le_refl _) _
 have HLT:Hid (X.heap.size<w1.heap.size):=HR1.out.lt;have C1:=hd (C0.out.below B1.out);have BW:Hid (Below w.heap.size w w1):=BX.out.trans (B1.out.mono (Nat.le_of_lt zX.out));clear hw1 C0 BX B1;go_wp2_with fail
 refine(rd_sheet H1 H2 X.heap.size A len cap 8 _ HR1.out (by omega) (by omega)).mono ?_;rintro e w2 ⟨L,B,c,rfl,hsh⟩;obtain⟨n,HLn⟩: ∃n,Hid (L.length=n):=⟨_,rfl⟩;rw [HLn.out]at hsh ⊢;have HS2:Hid (ShD w1 w2 X.heap.size A len cap (.slice B n c) L):=hsh;have D2:Hid (C2 w2 w.heap.size (.int .i64 0) (.int .i64 0)):=C1.out.upd hsh.upd (by have:=zX.out;omega);clear hsh C1
 go_wp2_with fail
 refine(rd_ref X.heap.size A len cap _ HS2.out.rd).mono ?_;rintro e w3 ⟨p,q,rfl,_,_,_,_,hr,hu⟩;have HS3:Hid (ShD w1 w3 X.heap.size A len cap (.slice B n c) L):=HS2.out.keep HLT.out hu hr;have D3:Hid (C2 w3 w.heap.size (.int .i64 0) (.int .i64 0)):=D2.out.upd hu (by have:=zX.out;omega);have HZ:Hid (w.heap.size<X.heap.size∧X.heap.size<w3.heap.size):=⟨zX.out,Nat.lt_of_lt_of_le HLT.out HS3.out.upd.2.2.1⟩;have HG3:Hid (w1.heap.size≤w3.heap.size):=HS3.out.upd.2.2.1;have HOB:Hid (∀k,(Value.slice B n c).ownBlock=some k→k≠w3.heap.size):=fun k e=>Nat.ne_of_lt (HS3.out.own.lt k e).2
 have E3:Hid (C2 (w3.alloc (.cells #[.int .i64 p,.int .i64 q] 26)) w3.heap.size (.int .i64 p) (.int .i64 q)):=C2.new _ _ _ _;have BA:Hid (Below w3.heap.size w3 (w3.alloc (.cells #[.int .i64 p,.int .i64 q] 26))):=(Below.refl _ _).alloc (Nat.le_refl _) _;clear hr hu D2 HS2;go_wp2_with fail
 refine(rd_once X.heap.size A len cap 20 _ (HS3.out.rd.below BA.out) (by omega) (by omega)).mono ?_;rintro e w4 ⟨b,rfl,hr,hu⟩;have HS4:Hid (ShD w1 w4 X.heap.size A len cap (.slice B n c) L):=(HS3.out.below HLT.out BA.out).keep HLT.out hu hr;have D4:Hid (C2 w4 w.heap.size (.int .i64 0) (.int .i64 0)):=(D3.out.below BA.out).upd hu (by have:=zX.out;omega);have E4:Hid (C2 w4 w3.heap.size (.int .i64 p) (.int .i64 q)):=E3.out.upd hu (by have:=HZ.out.2;omega);clear hr hu D3 E3 HS3 BA;cases b
 ·skip
  have HLY:=HLT.out;obtain⟨l0,⟨z0,z1⟩,zf0,zf1⟩:=D4.out;obtain⟨l3,⟨d0,d1⟩,df0,df1⟩:=E4.out;have ne1: ¬w3.heap.size=w.heap.size:=by have:=HZ.out.1;have:=HZ.out.2;omega
  have ne1': ¬w.heap.size=w3.heap.size:=by omega
  have lw3:w.heap.size<w3.heap.size:=by have:=HZ.out.1;have:=HZ.out.2;omega
  go_upto_region 6 with fail
  go_region_with (first
   | (go_at_call 17;refine(rd_input H1 H2 X.heap.size A len cap _ (HS4.out.rd.below (by go_grown))).mono ?_;rintro e y ⟨s,rfl,hs,hr,hu⟩;have JY:Hid (ShD w1 y X.heap.size A len cap (.slice B n c) L):=(HS4.out.below HLT.out (by go_grown)).keep HLT.out hu hr;have CY:Hid (C2 y w.heap.size (.int .i64 0) (.int .i64 0)):=(D4.out.below (by go_grown)).upd hu (by have:=HZ.out.1;omega);have DY:Hid (C2 y w3.heap.size (.int .i64 p) (.int .i64 q)):=(E4.out.below (by go_grown)).upd hu (by have:=HZ.out.2;omega);obtain⟨yl0,⟨y0,y1⟩,yf0,yf1⟩:=CY.out;obtain⟨yl3,⟨e0,e1⟩,ef0,ef1⟩:=DY.out;clear hr hu))
  all_goals
   go_wp2_with fail
   refine bodyPost_ret (v:= .tuple #[.slice B n c,.agg #[.int .i64 p,.int .i64 q],.string s]) ?_ rfl ⟨L,B,c,p,q,s,by rw [HLn.out],?_,JY.out.lim,JY.out.sz,hs,?_⟩
   ·simp (maxDischargeDepth:=9) [results,Tryz.results5,go_sem, *]
   ·have h9:=JY.out.own;rw [HLn.out]at h9 ⊢;have g0:w.heap.size<w1.heap.size:=by have:=HZ.out.1;have:=HLT.out;omega
    exact cl_of_list (ownsRow_setCell_below (ownsRow_setCell_below h9 (by exact g0) _) (by exact g0) _) HLn.out JY.out.sz
   ·have g0:w.heap.size≤w.heap.size:=Nat.le_refl _;exact((BW.out.trans (JY.out.upd.2.2.2.1.mono (by have:=HZ.out.1;omega))).setCell (by exact g0) _).setCell (by exact g0) _
 ·go_wp2_with fail
  refine(rd_off X.heap.size A len cap 1 99 _ HS4.out.rd (by omega) (by omega) (by omega)).mono ?_;rintro e w5 ⟨q5,rfl,hr,hu⟩;have HS5:Hid (ShD w1 w5 X.heap.size A len cap (.slice B n c) L):=HS4.out.keep HLT.out hu hr;have D5:Hid (C2 w5 w.heap.size (.int .i64 0) (.int .i64 0)):=D4.out.upd hu (by have:=zX.out;omega);have E5:Hid (C2 w5 w3.heap.size (.int .i64 p) (.int .i64 q)):=E4.out.upd hu (by have:=HZ.out.2;omega);have HS6:Hid (ShD w1 (w5.setCell ⟨w3.heap.size,1,none⟩ (.int .i64 q5)) X.heap.size A len cap (.slice B n c) L):=HS5.out.cell HR1.out HG3.out HOB.out;have D6:Hid (C2 (w5.setCell ⟨w3.heap.size,1,none⟩ (.int .i64 q5)) w.heap.size (.int .i64 0) (.int .i64 0)):=D5.out.far (by have:=HZ.out.1;have:=HZ.out.2;omega)
  have E6:Hid (C2 (w5.setCell ⟨w3.heap.size,1,none⟩ (.int .i64 q5)) w3.heap.size (.int .i64 p) (.int .i64 q5)):=E5.out.one;obtain⟨k3,⟨k0,k1⟩,kf0,kf1⟩:=E5.out;clear hr hu D4 E4 HS4;have HLY:=HLT.out;obtain⟨l0,⟨z0,z1⟩,zf0,zf1⟩:=D6.out;obtain⟨l3,⟨d0,d1⟩,df0,df1⟩:=E6.out;have ne1: ¬w3.heap.size=w.heap.size:=by have:=HZ.out.1;have:=HZ.out.2;omega
  have ne1': ¬w.heap.size=w3.heap.size:=by omega
  have lw3:w.heap.size<w3.heap.size:=by have:=HZ.out.1;have:=HZ.out.2;omega
  go_upto_region 6 with fail
  go_region_with (first
   | (go_at_call 17;refine(rd_input H1 H2 X.heap.size A len cap _ (HS6.out.rd.below (by go_grown))).mono ?_;rintro e y ⟨s,rfl,hs,hr,hu⟩;have JY:Hid (ShD w1 y X.heap.size A len cap (.slice B n c) L):=(HS6.out.below HLT.out (by go_grown)).keep HLT.out hu hr;have CY:Hid (C2 y w.heap.size (.int .i64 0) (.int .i64 0)):=(D6.out.below (by go_grown)).upd hu (by have:=HZ.out.1;omega);have DY:Hid (C2 y w3.heap.size (.int .i64 p) (.int .i64 q5)):=(E6.out.below (by go_grown)).upd hu (by have:=HZ.out.2;omega);obtain⟨yl0,⟨y0,y1⟩,yf0,yf1⟩:=CY.out;obtain⟨yl3,⟨e0,e1⟩,ef0,ef1⟩:=DY.out;clear hr hu))
  all_goals
   go_wp2_with fail
   refine bodyPost_ret (v:= .tuple #[.slice B n c,.agg #[.int .i64 p,.int .i64 q5],.string s]) ?_ rfl ⟨L,B,c,p,q5,s,by rw [HLn.out],?_,JY.out.lim,JY.out.sz,hs,?_⟩
   ·simp (maxDischargeDepth:=9) [results,Tryz.results5,go_sem, *]
   ·have h9:=JY.out.own;rw [HLn.out]at h9 ⊢;have g0:w.heap.size<w1.heap.size:=by have:=HZ.out.1;have:=HLT.out;omega
    exact cl_of_list (ownsRow_setCell_below (ownsRow_setCell_below h9 (by exact g0) _) (by exact g0) _) HLn.out JY.out.sz
   ·have g0:w.heap.size≤w.heap.size:=Nat.le_refl _;exact((BW.out.trans (JY.out.upd.2.2.2.1.mono (by have:=HZ.out.1;omega))).setCell (by exact g0) _).setCell (by exact g0) _
theorem setC_iffE {w:CL} {E:List CL} {z:CL}:z∈setC w E↔(z∈E∧ ¬(z.c=w.c∧z.r=w.r))∨(z=w∧w.s.toList.isEmpty=false):=by
 rw [(setC_perm w E).mem_iff];by_cases h:w.s.toList.isEmpty=true
 ·rw [if_pos h,offP_mem];simp [h]
 ·rw [if_neg h,List.mem_append,offP_mem,List.mem_singleton];simp [Bool.eq_false_iff.2 h]
theorem offP_most {p q:Int}: ∀{E:List CL},E.Pairwise (fun a b=>ltC a b=true)→E.length≤(offP p q E).length+1
 | [],_=>Nat.zero_le _
 | y::E,h=>by
  obtain⟨h1,h2⟩:=List.pairwise_cons.1 h;by_cases e:y.c=p∧y.r=q
  ·have e2:offP p q E=E:=by
    unfold offP;rw [List.filter_eq_self];intro z hz;have h9:=h1 z hz;simp only [ltC,aheadB,decide_eq_true_eq]at h9;simp only [Bool.not_eq_true',decide_eq_false_iff_not];intro e9
    omega
   have e3:offP p q (y::E)=offP p q E:=by
    unfold offP;rw [List.filter_cons,if_neg (by simp [e])]
   rw [e3,e2,List.length_cons];exact Nat.le_refl _
  ·have e3:offP p q (y::E)=y::offP p q E:=by
    unfold offP;rw [List.filter_cons,if_pos (by simp only [Bool.not_eq_true',decide_eq_false_iff_not];exact e)]
   rw [e3,List.length_cons,List.length_cons];have:=offP_most (p:=p) (q:=q) h2;omega
theorem setC_lens {x:CL} {E:List CL} (h:E.Pairwise (fun a b=>ltC a b=true)):(setC x E).length≤E.length+1∧E.length≤(setC x E).length+1:=by
 rw [(setC_perm x E).length_eq];have h9:(offP x.c x.r E).length≤E.length:=List.length_filter_le _ _;have h8:=offP_most (p:=x.c) (q:=x.r) h;split
 ·omega
 ·simp;omega
theorem pw_rise {M:List CL} (h:M.Pairwise (fun a b=>ltC a b=true)) (hr: ∀z∈M,refOkB z.c z.r=true):riseB (cofC M) (cofR M) M.length=true:=by
 refine List.all_eq_true.2 fun i hi=> ?_;have hi':=List.mem_range.1 hi;unfold riseAt;have e1:cofC M i=M[i].c∧cofR M i=M[i].r:=by unfold cofC cofR;rw [List.getElem?_eq_getElem hi'];exact⟨rfl,rfl⟩
 rw [Bool.and_eq_true];refine⟨by rw [e1.1,e1.2];exact hr _ (List.getElem_mem hi'),?_⟩;by_cases h0:i=0
 ·simp [h0]
 ·have e2:cofC M (i-1)=(M[i-1]'(by omega)).c∧cofR M (i-1)=(M[i-1]'(by omega)).r:=by unfold cofC cofR;rw [List.getElem?_eq_getElem (by omega)];exact⟨rfl,rfl⟩
  rw [Bool.or_eq_true];refine Or.inr ?_;rw [e1.1,e1.2,e2.1,e2.2];exact List.pairwise_iff_getElem.1 h (i-1) i (by omega) hi' (by omega)
theorem cof_at {M:List CL} {j:Nat} (hj:j<M.length):cofC M j=M[j].c∧cofR M j=M[j].r∧cofS M j=M[j].s:=by
 unfold cofC cofR cofS;rw [List.getElem?_eq_getElem hj];exact⟨rfl,rfl,rfl⟩
theorem srcL_noneE {C R:Nat→Int} {S:Nat→ByteArray} {p q:Int}: ∀n:Nat,(∀i,i<n→ ¬(C i=p∧R i=q))→srcL C R S p q n=⟨#[]⟩
 | 0,_=>rfl
 | n+1,h=>by rw [srcL,if_neg (h n (by omega)),srcL_noneE n (fun i hi=>h i (by omega))]
theorem srcL_atE {M:List CL} (h:M.Pairwise (fun a b=>ltC a b=true)) {k:Nat} (hk:k<M.length): ∀m,k<m→m≤M.length→srcL (cofC M) (cofR M) (cofS M) (cofC M k) (cofR M k) m=cofS M k:=by
 intro m;induction m with
 | zero=>intro h1;omega
 | succ m ih=>
  intro h1 h2;by_cases e:k=m
  ·subst e;rw [srcL,if_pos ⟨rfl,rfl⟩]
  ·have h3:=List.pairwise_iff_getElem.1 h k m hk (by omega) (by omega);have c1:=cof_at hk;have c2:=cof_at (show m<M.length by omega);simp only [ltC,aheadB,decide_eq_true_eq]at h3;rw [srcL,if_neg (by rw [c1.1,c1.2.1,c2.1,c2.2.1];omega)];exact ih (by omega) (by omega)
theorem srcL_mem {M:List CL} (h:M.Pairwise (fun a b=>ltC a b=true)) {z:CL} (hz:z∈M):srcL (cofC M) (cofR M) (cofS M) z.c z.r M.length=z.s:=by
 obtain⟨j,hj,rfl⟩:=List.mem_iff_getElem.1 hz;have c1:=cof_at hj;have h9:=srcL_atE h hj M.length hj (Nat.le_refl _);rw [c1.1,c1.2.1,c1.2.2]at h9;exact h9
structure EnM (L M:List CL) (p q:Int) (t:ByteArray):Prop where
 ok:clOkB (cofC M) (cofR M) (cofS M) M.length=true
 at_:srcO (cofC M) (cofR M) (cofS M) M.length p q=t
 rest: ∀i,i<L.length→ ¬(cofC L i=p∧cofR L i=q)→srcO (cofC M) (cofR M) (cofS M) M.length (cofC L i) (cofR L i)=cofS L i
 up:M.length≤L.length+1
 down:L.length≤M.length+1
theorem en_made {L:List CL} {p q:Int} {s t:ByteArray} (h:clOkB (cofC L) (cofR L) (cofS L) L.length=true) (hr:refOkB p q=true) (hs:inF s=some t) (hl:(setC ⟨p,q,t⟩ L).length≤120):EnM L (setC ⟨p,q,t⟩ L) p q t:=by
 obtain⟨_,r1,r2⟩:=cl_rise h;rw [clE_of]at r2;have hpw:=setC_rise (x:=⟨p,q,t⟩) r2
 have hv: ∀i,i<L.length→srcAt (cofS L) i=true:=by
  unfold clOkB at h;simp only [Bool.and_eq_true]at h;exact fun i hi=>List.all_eq_true.1 h.2 i (List.mem_range.2 hi)
 have hown:ownB t=true:=by
  have h9:=(in_again hs).1.1;unfold ownB;rw [h9];simp
 have hmem: ∀z∈setC ⟨p,q,t⟩ L,refOkB z.c z.r=true∧z.s.toList.isEmpty=false∧ownB z.s=true:=fun z hz=>by
  rcases setC_iffE.1 hz with⟨hz,_⟩ | ⟨rfl,hz9⟩
  ·obtain⟨j,hj,rfl⟩:=List.mem_iff_getElem.1 hz;have c1:=cof_at hj;have h8:=r1 j hj;have h9:=hv j hj;unfold srcAt at h9;rw [c1.2.2,Bool.and_eq_true,Bool.not_eq_true']at h9;rw [c1.1,c1.2.1]at h8
   exact⟨h8,h9.1,h9.2⟩
  ·exact⟨hr,hz9,hown⟩
 obtain⟨M,HM⟩: ∃M,setC ⟨p,q,t⟩ L=M:=⟨_,rfl⟩;have hlens:=setC_lens (x:=⟨p,q,t⟩) r2;have hiff: ∀z,z∈M↔(z∈L∧ ¬(z.c=p∧z.r=q))∨(z=⟨p,q,t⟩∧t.toList.isEmpty=false):=fun z=>by rw [←HM];exact setC_iffE
 rw [HM]at hl hpw hmem hlens ⊢
 have hok:clOkB (cofC M) (cofR M) (cofS M) M.length=true:=by
  refine clOk_yes hl (pw_rise hpw (fun z hz=>(hmem z hz).1)) (List.all_eq_true.2 fun i hi=> ?_);have hi':=List.mem_range.1 hi;have c1:=cof_at hi';have h9:=hmem _ (List.getElem_mem hi');unfold srcAt;rw [c1.2.2,h9.2.1,h9.2.2];rfl
 have hso: ∀a b,srcO (cofC M) (cofR M) (cofS M) M.length a b=srcL (cofC M) (cofR M) (cofS M) a b M.length:=fun a b=>by unfold srcO;rw [hok,if_pos rfl]
 refine⟨hok,?_,fun i hi hn=> ?_,hlens.1,hlens.2⟩
 ·rw [hso];cases he:t.toList.isEmpty with
  | false=>exact srcL_mem hpw (z:=⟨p,q,t⟩) ((hiff _).2 (Or.inr ⟨rfl,he⟩))
  | true=>
   have ht:t=⟨#[]⟩:=by
    apply toList_nil_of;rw [ByteArray.toList_eq]at he;have:=List.isEmpty_iff.1 he;have h8:t.data.toList.length=0:=by rw [this];rfl
    simpa using h8
   rw [srcL_noneE,ht];intro j hj e;have c1:=cof_at hj;rw [c1.1,c1.2.1]at e;rcases(hiff _).1 (List.getElem_mem hj)with⟨_,h9⟩ | ⟨_,h9⟩
   ·exact h9 e
   ·rw [he]at h9;cases h9
 ·have c1:=cof_at hi;rw [hso,c1.1,c1.2.1,c1.2.2];rw [c1.1,c1.2.1]at hn;exact srcL_mem hpw ((hiff _).2 (Or.inl ⟨List.getElem_mem hi,hn⟩))
end Go.Proofs.YthpmmfmanaefgaaGreatDoor
namespace Go.Proofs.YthpmmfmanaefgaaGreatDoor
open Go.RowKit Go.Maps
theorem en_some {L M:List CL} {p q:Int} {s:ByteArray} {n:Nat} (hn:L.length=n) (h:enF (cofC L) (cofR L) (cofS L) n p q s=some M): ∃t,inF s=some t∧refOkB p q=true∧clOkB (cofC L) (cofR L) (cofS L) n=true∧EnM L M p q t:=by
 subst hn;unfold enF at h;split at h
 ·rename_i hc
  cases hi:inF s with
  | none=>rw [hi]at h;cases h
  | some t=>
   rw [hi]at h;simp only [clE_of]at h;split at h
   ·cases h
   ·rename_i hl
    cases h
    exact⟨t,rfl,hc.2,hc.1,en_made hc.1 hc.2 hi (by omega)⟩
 ·cases h
theorem ref_wf {p q:Int} (h:refOkB p q=true):(Lit.int .i64 p).wf=true∧(Lit.int .i64 q).wf=true:=by
 have hb:IntKind.i64.min= -9223372036854775808∧IntKind.i64.max=9223372036854775807:=⟨by kernel_rfl,by kernel_rfl⟩;simp only [refOkB,Bool.and_eq_true,decide_eq_true_eq]at h;simp only [Lit.wf,hb.1,hb.2,Bool.and_eq_true,decide_eq_true_eq];omega
theorem row_nilE (W:World) (C R:Nat→Int) (S:Nat→ByteArray):ClRow W none 0 C R S:=⟨Nat.zero_le _,fun i hi=>absurd hi (Nat.not_lt_zero _)⟩
theorem law_FnEntered (H1:FtX 1 69) (H2:FtX 2 228) (A:Option Addr) (len cap:Nat) (w:World) (hz:len≤1048576→Cd w A len) (hg:GI w):Calls Tryz.prog 3 #[.slice A len cap] w fun e w'=>
  e= .returned (.bool true)∧Below w.heap.size w w':=by
 have HG:Hid (GI w):=hg;clear hg;by_cases hbig:(1048576:Int)<(len:Int)
 ·go_enter Tryz.func3,Tryz.ntmps3;go_wp2_with fail
  refine(laws_big A len cap _).mono ?_;rintro e wq ⟨rfl,hw⟩;subst wq;go_wp2_with fail
  go_ret;exact⟨rfl,by go_grown⟩
 have HC:Hid (Cd w A len):=hz (by omega);clear hz;go_enter Tryz.func3,Tryz.ntmps3;go_wp2_with fail
 refine(laws_big A len cap _).mono ?_;rintro e wq ⟨rfl,hw⟩;subst wq;go_wp2_with fail
 refine(draw_enter H1 H2 A len cap _ HC.out).mono ?_;rintro e w1 ⟨L,B,c,p,q,s,rfl,hrow,hlim,hsz,hs,hb⟩;obtain⟨n,HLn⟩: ∃n,Hid (L.length=n):=⟨_,rfl⟩;rw [HLn.out]at hrow hlim ⊢;have K1:Hid (Below w.heap.size w w1):=hb;have R1:Hid (ClRow w1 B n (cofC L) (cofR L) (cofS L)):=hrow;have HSM:Hid (s.size≤maxLen):=by show _≤_;unfold maxLen;omega
 clear hb hrow hs;go_wp2_with fail
 obtain⟨X,HX⟩: ∃X,Hid (w1.alloc (.cells #[.int .i64 p,.int .i64 q] 26)=X):=⟨_,rfl⟩;rw [HX.out];have E0:Hid (C2 X w1.heap.size (.int .i64 p) (.int .i64 q)):=by show C2 _ _ _ _;rw [←HX.out];exact C2.new _ _ _ _
 have BX:Hid (Below w1.heap.size w1 X):=by show Below _ _ _;rw [←HX.out];exact(Below.refl _ _).alloc (Nat.le_refl _) _
 have KX:=hd (bchain K1.out BX.out);have RX:=hd (R1.out.below BX.out);obtain⟨a,HA⟩: ∃a,Hid (w1.heap.size=a):=⟨_,rfl⟩;rw [HA.out]at E0 ⊢;clear HX R1 K1 BX;refine(impl_Enter _ RX.out HSM.out (HG.out.below KX.out)).mono ?_;rintro e w2 ⟨he,hb⟩
 have E2:=hd (E0.out.below hb);have R2:=hd (RX.out.below hb);have K2:=hd (bchain KX.out hb);obtain⟨l2,⟨x0,x1⟩,_⟩:=E2.out;clear hb E0 RX KX;cases hen:enF (cofC L) (cofR L) (cofS L) n p q s with
 | none=>
  have HE:Hid (enF (cofC L) (cofR L) (cofS L) n p q s=none):=hen;rw [hen]at he;obtain rfl:e= .returned (.tuple #[.slice none 0 0,.bool false]):=he;clear hen;go_wp2_with fail
  refine(spec_Enter _ R2.out HSM.out).mono ?_;rintro e w3 ⟨he,hb⟩;rw [HE.out]at he;obtain rfl:e= .returned (.tuple #[.slice none 0 0,.bool false]):=he;have K3:=hd (bchain K2.out hb);clear hb;go_wp2_with fail
  refine(laws_sameCells (C:=cofC L) (R:=cofR L) (S:=cofS L) _ (row_nilE _ _ _ _) (row_nilE _ _ _ _)).mono ?_;rintro e w4 ⟨rfl,hb⟩;have K4:=hd (bchain K3.out hb);clear hb;go_wp2_with fail
  refine(laws_sameCells (C:=cofC L) (R:=cofR L) (S:=cofS L) _ (row_nilE _ _ _ _) (row_nilE _ _ _ _)).mono ?_;rintro e w5 ⟨rfl,hb⟩;have K5:=hd (bchain K4.out hb);clear hb;go_wp2_with fail
  go_ret;exact⟨rfl,K5.out⟩
 | some M=>
  have HE:Hid (enF (cofC L) (cofR L) (cofS L) n p q s=some M):=hen;obtain⟨t,hin,href,hok,hM⟩:=en_some HLn.out hen;have HIN:Hid (inF s=some t):=hin;have HRF:Hid (refOkB p q=true):=href;have HMM:Hid (EnM L M p q t):=hM;have HRS:Hid (∀i,i<n→refOkB (cofC L i) (cofR L i)=true):=(cl_rise hok).2.1
  have HMS:Hid (∀x∈M,x.s.size≤maxLen):=by
   have h9:=en_sz (p:=p) (q:=q) (s:=s) (n:=n) (C:=cofC L) (R:=cofR L) (S:=cofS L) (fun i hi=>cof_sz hsz i (by rw [HLn.out];exact hi));rw [hen]at h9;exact h9
  rw [hen]at he;obtain⟨A2,c2,m,rfl,hm,ho⟩:=he;have HMn:Hid (M.length=m):=hm;have Q2:Hid (ClRow w2 A2 m (cofC M) (cofR M) (cofS M)):=cl_of_list ho hm HMS.out;have hup:(m:Int)≤(n:Int)+1:=by have:=hM.up;rw [hm,HLn.out]at this;omega
  have hdn:(n:Int)≤(m:Int)+1:=by have:=hM.down;rw [hm,HLn.out]at this;omega
  have hm120:m≤121:=by have:=hM.up;rw [hm,HLn.out]at this;have:=(cl_rise hok).1;omega
  have hbb:(t.toList==t.toList)=true:=by simp
  clear hen hin href hM ho hm hsz hok;go_wp2_with fail
  refine(spec_Enter _ R2.out HSM.out).mono ?_;rintro e w3 ⟨he,hb⟩;rw [HE.out]at he;obtain⟨A3,c3,m',rfl,hm',ho'⟩:=he;obtain rfl:m=m':=by rw [←HMn.out,hm']
  have P3:Hid (ClRow w3 A3 m (cofC M) (cofR M) (cofS M)):=cl_of_list ho' hm' HMS.out;have Q3:=hd (Q2.out.below hb);have R3:=hd (R2.out.below hb);have E3:=hd (E2.out.below hb);have K3:=hd (bchain K2.out hb);clear hb ho' hm' Q2 R2 E2 l2 x0 x1;go_wp2_with fail
  refine(laws_sameCells _ Q3.out P3.out).mono ?_;rintro e w4 ⟨rfl,hb⟩;have Q4:=hd (Q3.out.below hb);have R4:=hd (R3.out.below hb);have E4:=hd (E3.out.below hb);have K4:=hd (bchain K3.out hb);clear hb Q3 R3 E3 P3
  go_wp2_with fail
  refine(impl_InputOf s _ HSM.out (HG.out.below K4.out)).mono ?_;rintro e w5 ⟨he,hb⟩;rw [HIN.out]at he;obtain rfl:e= .returned (.tuple #[.string t,.bool true]):=he;have Q5:=hd (Q4.out.below hb);have R5:=hd (R4.out.below hb);have E5:=hd (E4.out.below hb)
  have K5:=hd (bchain K4.out hb);obtain⟨l5,⟨x0,x1⟩,_⟩:=E5.out;clear hb Q4 R4 E4;go_wp2_with fail
  refine(impl_SourceAt p q _ Q5.out (HG.out.below K5.out) (ref_wf HRF.out).1 (ref_wf HRF.out).2).mono ?_;rintro e w6 ⟨rfl,hb⟩;have hat:srcO (cofC M) (cofR M) (cofS M) m p q=t:=by have h9:=HMM.out.at_;rw [HMn.out]at h9;exact h9
  rw [hat];have Q6:=hd (Q5.out.below hb);have R6:=hd (R5.out.below hb);have E6:=hd (E5.out.below hb);have K6:=hd (bchain K5.out hb);clear hb Q5 R5 E5 l5 x0 x1 hat;go_wp2_with fail
  refine(impl_SheetOk _ Q6.out (HG.out.below K6.out)).mono ?_;rintro e w7 ⟨rfl,hb⟩;have hso:clOkB (cofC M) (cofR M) (cofS M) m=true:=by have h9:=HMM.out.ok;rw [HMn.out]at h9;exact h9
  rw [hso];have Q7:=hd (Q6.out.below hb);have R7:=hd (R6.out.below hb);have E7:=hd (E6.out.below hb);have K7:=hd (bchain K6.out hb);clear hb Q6 R6 E6 hso;go_wp2_with fail
  go_loopw [12] (fun i wr=> ∃k:Nat,k≤n∧i= .int .i64 k∧Below w7.heap.size w7 wr) (fun i _=>n-(intOf i).toNat)
  case atStart=>exact⟨0,Nat.zero_le _,rfl,Below.refl _ _⟩
  case round=>
   obtain⟨k,hk,rfl,hbel⟩:=hrel;by_cases hlt:k<n
   ·obtain⟨bF,oF,rfl,hl,c0,c1,c2,_⟩:=R7.out.2 k hlt;obtain⟨la,⟨x0,x1⟩,_⟩:=E7.out.below hbel;rw [←hbel.cell (p:=⟨_,_,none⟩) hl]at c0 c1 c2;have hll:=Nat.lt_of_lt_of_le hl hbel.size;have HB:Hid (Below w7.heap.size w7 wr):=hbel;have HQ:=hd (Q7.out.below hbel);have HGR:=hd (HG.out.below (bchain K7.out hbel))
    have HRK:Hid (refOkB (cofC L k) (cofR L k)=true):=HRS.out k hlt
    have HSK:Hid (¬(cofC L k=p∧cofR L k=q)→srcO (cofC M) (cofR M) (cofS M) m (cofC L k) (cofR L k)=cofS L k):=fun hn=>by
     have h9:=HMM.out.rest k (by rw [HLn.out];exact hlt) hn;rw [HMn.out]at h9;exact h9
    clear hbel;obtain⟨cc,HCC⟩: ∃cc,Hid (cofC L k=cc):=⟨_,rfl⟩;obtain⟨rr,HRR⟩: ∃rr,Hid (cofR L k=rr):=⟨_,rfl⟩;obtain⟨ss,HSS⟩: ∃ss,Hid (cofS L k=ss):=⟨_,rfl⟩;rw [HCC.out]at c0 HRK HSK;rw [HRR.out]at c1 HRK HSK;rw [HSS.out]at c2 HSK
    have hbs:(ss.toList==ss.toList)=true:=by simp
    have h0:(0:Int)≤(k:Int):=by omega
    have h1:(k:Int)<(n:Int):=by omega
    by_cases hp1:cc=p
    ·subst hp1;by_cases hp2:rr=q
     ·subst hp2;go_wp2_with fail
      refine wp_region_held_drew (S:=(fun w'=>(∀bq oq,bq<wr.heap.size→w'.cell? ⟨bq,oq,none⟩=wr.cell? ⟨bq,oq,none⟩)∧wr.heap.size≤w'.heap.size∧Below wr.heap.size wr w')) (by kernel_rfl) (sc_of (by go_size) (by go_grown)) (fun hHeld=> ?_);refine tkA 0 ?_;refine tkB 1 ?_;refine tkA 2 ?_;refine tkB 3 ?_;refine tkA 4 ?_;refine tkB 5 ?_
      refine tkA 6 ?_;refine tkB 7 ?_;refine tnA 8 ?_;refine tnB 9 ?_;refine tnA 10 ?_;refine tnB 11 ?_;refine tnA 12 ?_
      refine tnB 13 ?_;refine tnA 14 ?_;refine tnB 15 ?_;refine tnA 16 ?_;refine tnB 17 ?_;refine tnA 18 ?_;refine tnB 19 ?_
      refine tnA 20 ?_;refine tkB 21 ?_;refine wpAnyH_done (by kernel_rfl) ?_ _;go_wp2_with fail
      go_roundw
      case rel=>exact⟨k+1,by omega,by go_num,bchain HB.out (by go_grown)⟩
      case measure=>simp [intOf];omega
     ·have hse:=HSK.out (fun e=>hp2 e.2);have hne:(rr==q)=false:=by simpa using hp2
      go_wp2_with fail
      refine wp_region_held_drew (S:=(fun w'=>(∀bq oq,bq<wr.heap.size→w'.cell? ⟨bq,oq,none⟩=wr.cell? ⟨bq,oq,none⟩)∧wr.heap.size≤w'.heap.size∧Below wr.heap.size wr w')) (by kernel_rfl) (sc_of (by go_size) (by go_grown)) (fun hHeld=> ?_);refine tkA 0 ?_;refine tkB 1 ?_;refine tkA 2 ?_;refine tkB 3 ?_;refine tkA 4 ?_;refine tkB 5 ?_
      refine tkA 6 ?_;refine tkB 7 ?_;refine tkA 8 ?_;refine tkB 9 ?_;refine tkA 10 ?_;refine tkB 11 ?_;refine tkA 12 ?_
      refine tkB 13 ?_;refine tkA 15 ?_;refine tkB 16 ?_;refine tkA 17 ?_;refine tkB 18 ?_;refine tkB 19 ?_;refine rqA 14 (fun Kq hKq=> ?_)
      go_simp
      (refine(impl_SourceAt cc rr _ (HQ.out.below (by go_grown)) (HGR.out.below (by go_grown)) (ref_wf HRK.out).1 (ref_wf HRK.out).2).mono ?_;rintro e wy ⟨rfl,hb⟩;rw [hse];obtain⟨hk1,hz1⟩:=bframe (B:=wr.heap.size) (X:=wr) (by go_grown) (by go_size) hb;have hCy:=fun b o h=>hk1.cell (p:=⟨b,o,none⟩) h;clear hb)
      refine hkB hKq (sc_of (by go_size) (by go_grown)) fun hHeld=> ?_;clear hKq Kq;refine tkA 20 ?_;refine tkB 21 ?_;refine wpAnyH_done (by kernel_rfl) ?_ _;go_wp2_with fail
      go_roundw
      case rel=>exact⟨k+1,by omega,by go_num,bchain HB.out (by go_grown)⟩
      case measure=>simp [intOf];omega
    ·have hse:=HSK.out (fun e=>hp1 e.1);have hne:(cc==p)=false:=by simpa using hp1
     go_wp2_with fail
     refine wp_region_held_drew (S:=(fun w'=>(∀bq oq,bq<wr.heap.size→w'.cell? ⟨bq,oq,none⟩=wr.cell? ⟨bq,oq,none⟩)∧wr.heap.size≤w'.heap.size∧Below wr.heap.size wr w')) (by kernel_rfl) (sc_of (by go_size) (by go_grown)) (fun hHeld=> ?_);refine tkA 0 ?_;refine tkB 1 ?_;refine tkA 2 ?_;refine tkB 3 ?_;refine tkA 4 ?_;refine tkB 5 ?_
     refine tkA 6 ?_;refine tkB 7 ?_;refine tkA 8 ?_;refine tkB 9 ?_;refine tkA 10 ?_;refine tkB 11 ?_;refine tkA 12 ?_
     refine tkB 13 ?_;refine tkA 15 ?_;refine tkB 16 ?_;refine tkA 17 ?_;refine tkB 18 ?_;refine tkB 19 ?_;refine rqA 14 (fun Kq hKq=> ?_)
     go_simp
     (refine(impl_SourceAt cc rr _ (HQ.out.below (by go_grown)) (HGR.out.below (by go_grown)) (ref_wf HRK.out).1 (ref_wf HRK.out).2).mono ?_;rintro e wy ⟨rfl,hb⟩;rw [hse];obtain⟨hk1,hz1⟩:=bframe (B:=wr.heap.size) (X:=wr) (by go_grown) (by go_size) hb;have hCy:=fun b o h=>hk1.cell (p:=⟨b,o,none⟩) h;clear hb)
     refine hkB hKq (sc_of (by go_size) (by go_grown)) fun hHeld=> ?_;clear hKq Kq;refine tkA 20 ?_;refine tkB 21 ?_;refine wpAnyH_done (by kernel_rfl) ?_ _;go_wp2_with fail
     go_roundw
     case rel=>exact⟨k+1,by omega,by go_num,bchain HB.out (by go_grown)⟩
     case measure=>simp [intOf];omega
   ·have h1: ¬(k:Int)<(n:Int):=by omega
    go_wp2_with fail
    go_ret;exact⟨rfl,bchain K7.out hbel⟩
end Go.Proofs.YthpmmfmanaefgaaGreatDoor
