import Derived.Test.YthjpfkpcemgefaaGreatDoorBase
import Derived.Deep.QuietTactic
import Derived.BigQuiet
import Derived.Deep.RegionHeld3
import Derived.RegionTactic
import Derived.Test.YthjpfkpcemgefaaGreatDoorGas
import Derived.Laws.BytesString
import Derived.Laws.OwnMore
import Derived.Laws.AppendOwn
import Derived.Test.YthjpfkpcemgefaaGreatDoorMn
set_option linter.unusedSimpArgs false
set_option linter.unusedVariables false
set_option maxHeartbeats 4000000
set_option maxRecDepth 100000
namespace Go.Proofs.YthjpfkpcemgefaaGreatDoor
open Go.RowKit
def Rd (W:World) (r:Nat) (A:Option Addr) (len cap:Nat):Prop:=
 len≤1048576∧(∀i,i<len→ ∃b o v,A=some ⟨b,o,none⟩∧b≠r∧W.cell? ⟨b,o+i,none⟩=some (.int .u8 v)∧0≤v∧v≤255)∧
 W.cell? ⟨r,0,none⟩=some (.slice A len cap)∧W.frozen? ⟨r,1,none⟩=false∧ ∃p:Nat,p≤len∧W.cell? ⟨r,1,none⟩=some (.int .i64 p)
def Upd (r:Nat) (W w':World):Prop:=
 (∀b o,b<W.heap.size→b≠r→w'.cell? ⟨b,o,none⟩=W.cell? ⟨b,o,none⟩)∧(∀b o,b<W.heap.size→b≠r→w'.frozen? ⟨b,o,none⟩=W.frozen? ⟨b,o,none⟩)∧W.heap.size≤w'.heap.size∧Below r W w'
theorem Upd.draws (r:Nat) (W:World) (n:Nat):Upd r W (W.drewN n):=⟨fun _ _ _ _=>rfl,fun _ _ _ _=>rfl,Nat.le_refl _,⟨rfl,rfl,rfl,Nat.le_refl _,fun _ _=>rfl⟩⟩
theorem Upd.trans {r:Nat} {W w1 w2:World} (h:Upd r W w1) (h':Upd r w1 w2):Upd r W w2:=
 ⟨fun b o hb hr=>(h'.1 b o (Nat.lt_of_lt_of_le hb h.2.2.1) hr).trans (h.1 b o hb hr),fun b o hb hr=>(h'.2.1 b o (Nat.lt_of_lt_of_le hb h.2.2.1) hr).trans (h.2.1 b o hb hr),
  Nat.le_trans h.2.2.1 h'.2.2.1,h.2.2.2.trans h'.2.2.2⟩
theorem Upd.of_below {r:Nat} {W w1:World} (hr:r≤W.heap.size) (h:Below W.heap.size W w1):Upd r W w1:=
 ⟨fun b o hb _=>h.cell (p:=⟨b,o,none⟩) hb,fun b o hb _=>h.frozen (p:=⟨b,o,none⟩) hb,h.size,h.mono hr⟩
theorem Upd.set {r o:Nat} {W:World} {v:Value}:Upd r W (W.setCell ⟨r,o,none⟩ v):=
 ⟨fun b o' _ hr=>World.cell?_setCell_other W ⟨r,o,none⟩ ⟨b,o',none⟩ v (fun e=>hr (congrArg Addr.block e).symm),
  fun b o' _ _=>by simp,by simp,(Below.refl r W).setCell (p:=⟨r,o,none⟩) (Nat.le_refl _) v⟩
theorem lt_of_cell {W:World} {b o:Nat} {v:Value} (h:W.cell? ⟨b,o,none⟩=some v):b<W.heap.size:=World.block_lt_of_cell? W ⟨b,o,none⟩ h
theorem Rd.lt {W:World} {r:Nat} {A:Option Addr} {len cap:Nat} (h:Rd W r A len cap):r<W.heap.size:=lt_of_cell h.2.2.1
theorem Rd.keep {W w1:World} {r:Nat} {A:Option Addr} {len cap:Nat} (h:Rd W r A len cap) (hc: ∀b o,b<W.heap.size→w1.cell? ⟨b,o,none⟩=W.cell? ⟨b,o,none⟩) (hf: ∀b o,b<W.heap.size→w1.frozen? ⟨b,o,none⟩=W.frozen? ⟨b,o,none⟩):Rd w1 r A len cap:=by
 obtain⟨h0,h1,h2,h3,p,hp,h4⟩:=h
 have hr:=lt_of_cell h2
 refine⟨h0,fun i hi=> ?_,(hc _ _ hr).trans h2,(hf _ _ hr).trans h3,p,hp,(hc _ _ hr).trans h4⟩
 obtain⟨b,o,v,e,hb,c,v0,v1⟩:=h1 i hi
 exact⟨b,o,v,e,hb,(hc _ _ (lt_of_cell c)).trans c,v0,v1⟩
theorem Rd.below {W w1:World} {r:Nat} {A:Option Addr} {len cap:Nat} (h:Rd W r A len cap) (hb:Below W.heap.size W w1):Rd w1 r A len cap:=
 h.keep (fun b o hl=>hb.cell (p:=⟨b,o,none⟩) hl) (fun b o hl=>hb.frozen (p:=⟨b,o,none⟩) hl)
theorem Rd.set {W:World} {r:Nat} {A:Option Addr} {len cap:Nat} (h:Rd W r A len cap) (q:Nat) (hq:q≤len):Rd (W.setCell ⟨r,1,none⟩ (.int .i64 q)) r A len cap:=by
 obtain⟨h0,h1,h2,h3,p,hp,h4⟩:=h
 refine⟨h0,fun i hi=> ?_,?_,by simpa using h3,q,hq,World.cell?_setCell_same _ _ _ h4⟩
 ·obtain⟨b,o,v,e,hb,c,v0,v1⟩:=h1 i hi
  exact⟨b,o,v,e,hb,(World.cell?_setCell_other W ⟨r,1,none⟩ ⟨b,o+i,none⟩ _ (fun e=>hb (congrArg Addr.block e).symm)).trans c,v0,v1⟩
 ·exact(World.cell?_setCell_other W ⟨r,1,none⟩ ⟨r,0,none⟩ _ (fun e=>by cases e)).trans h2
theorem rd_next (r:Nat) (A:Option Addr) (len cap:Nat) (W:World) (h:Rd W r A len cap):Calls Tryz.prog 68 #[.pointer (some ⟨r,0,none⟩)] W fun e w'=>
  ∃v,e= .returned (.int .i64 v)∧0≤v∧v≤255∧Rd w' r A len cap∧Upd r W w':=by
 have HH:Hid (Rd W r A len cap):=h
 obtain⟨h0,h1,h2,h3,p,hp,h4⟩:=h
 by_cases hl:p=len
 ·subst hl
  clear h1
  have hge:(p:Int)≤(p:Int):=Int.le_refl _
  go_enter Tryz.func68,Tryz.ntmps68
  go_wp2_with fail
  go_quiet (fail)
  go_wp2_with fail
  go_ret
  exact⟨0,rfl,by omega,by omega,HH.out.keep (fun _ _ _=>rfl) (fun _ _ _=>rfl),Upd.draws _ _ _⟩
 ·have hlt:p<len:=by omega
  obtain⟨b,o,v,rfl,hb,c,v0,v1⟩:=h1 p hlt
  clear h1
  have hlt':(p:Int)<(len:Int):=by omega
  have hp0:(0:Int)≤(p:Int):=by omega
  go_enter Tryz.func68,Tryz.ntmps68
  go_wp2_with fail
  go_quiet (fail)
  go_wp2_with fail
  go_quiet (fail)
  go_wp2_with fail
  go_ret
  have e:((p+1:Nat):Int)=(p:Int)+1:=by omega
  have hn:=HH.out.set (p+1) (by omega)
  rw [e]at hn
  exact⟨v,rfl,v0,v1,hn.keep (fun _ _ _=>rfl) (fun _ _ _=>rfl),(Upd.draws _ _ _).trans (Upd.set.trans (Upd.draws _ _ _))⟩
theorem rd_below (r:Nat) (A:Option Addr) (len cap:Nat) (n:Int) (W:World) (h:Rd W r A len cap) (h0:1≤n) (h1:n≤1048577):Calls Tryz.prog 31 #[.pointer (some ⟨r,0,none⟩),.int .i64 n] W fun e w'=>
  ∃v,e= .returned (.int .i64 v)∧0≤v∧v<n∧Rd w' r A len cap∧Upd r W w':=by
 have HH:Hid (Rd W r A len cap):=h
 clear h
 by_cases ha:n≤1
 ·go_enter Tryz.func31,Tryz.ntmps31
  go_wp2_with fail
  go_ret
  exact⟨0,rfl,by omega,by omega,HH.out,Upd.draws r W 0⟩
 by_cases hb:n≤256
 ·go_enter Tryz.func31,Tryz.ntmps31
  go_wp2_with fail
  refine(rd_next r A len cap _ HH.out).mono ?_
  rintro e w1 ⟨v,rfl,v0,v1,hr,hu⟩
  have HR:Hid (Rd w1 r A len cap):=hr
  have HU:Hid (Upd r W w1):=hu
  clear hr hu
  go_wp2_with fail
  go_ret
  exact⟨_,rfl,Int.emod_nonneg _ (by omega),Int.emod_lt_of_pos _ (by omega),HR.out,HU.out⟩
 ·go_enter Tryz.func31,Tryz.ntmps31
  go_wp2_with fail
  refine(rd_next r A len cap _ HH.out).mono ?_
  rintro e w1 ⟨v,rfl,v0,v1,hr,hu⟩
  have HR:Hid (Rd w1 r A len cap):=hr
  have HU:Hid (Upd r W w1):=hu
  clear hr hu
  go_wp2_with fail
  refine(rd_next r A len cap _ HR.out).mono ?_
  rintro e w2 ⟨v',rfl,v0',v1',hr,hu⟩
  have HR':Hid (Rd w2 r A len cap):=hr
  have HU':Hid (Upd r w1 w2):=hu
  clear hr hu
  go_wp2_with fail
  go_ret
  exact⟨_,rfl,Int.emod_nonneg _ (by omega),Int.emod_lt_of_pos _ (by omega),HR'.out,HU.out.trans HU'.out⟩
theorem rd_once (r:Nat) (A:Option Addr) (len cap:Nat) (n:Int) (W:World) (h:Rd W r A len cap) (h0:1≤n) (h1:n≤1048577):Calls Tryz.prog 36 #[.pointer (some ⟨r,0,none⟩),.int .i64 n] W fun e w'=>
  ∃b,e= .returned (.bool b)∧Rd w' r A len cap∧Upd r W w':=by
 have HH:Hid (Rd W r A len cap):=h
 clear h
 go_enter Tryz.func36,Tryz.ntmps36
 go_wp2_with fail
 refine(rd_below r A len cap n _ HH.out h0 h1).mono ?_
 rintro e w1 ⟨v,rfl,v0,v1,hr,hu⟩
 have HR:Hid (Rd w1 r A len cap):=hr
 have HU:Hid (Upd r W w1):=hu
 clear hr hu
 go_wp2_with fail
 go_ret
 exact⟨_,rfl,HR.out,HU.out⟩
theorem rd_word (r:Nat) (A:Option Addr) (len cap:Nat) (W:World) (h:Rd W r A len cap):Calls Tryz.prog 99 #[.pointer (some ⟨r,0,none⟩)] W fun e w'=>
  ∃v,e= .returned (.int .u64 v)∧0≤v∧v≤18446744073709551615∧Rd w' r A len cap∧Upd r W w':=by
 have HH:Hid (Rd W r A len cap):=h
 clear h
 go_enter Tryz.func99,Tryz.ntmps99
 go_wp2_with fail
 go_loopw [3,4] (fun x i wr=> ∃(k:Nat) (v:Int),k≤8∧x= .int .u64 v∧(Lit.int .u64 v).wf=true∧i= .int .i64 k∧Rd wr r A len cap∧Upd r W wr) (fun _ i _=>8-(intOf i).toNat)
 case atStart=>exact⟨0,0,by omega,rfl,by decide,rfl,HH.out,Upd.draws r W 0⟩
 case round=>
  obtain⟨k,v,hk,rfl,hv,rfl,hr,hu⟩:=hrel
  have HR:Hid (Rd wr r A len cap):=hr
  have HU:Hid (Upd r W wr):=hu
  have HV:Hid ((Lit.int .u64 v).wf=true):=hv
  clear hr hu hv
  by_cases hlt:k<8
  ·have hlt':(k:Int)<8:=by omega
   go_wp2_with fail
   refine(rd_next r A len cap _ HR.out).mono ?_
   rintro e w1 ⟨u,rfl,v0,v1,hr,hu⟩
   have HR':Hid (Rd w1 r A len cap):=hr
   have HU':Hid (Upd r wr w1):=hu
   clear hr hu
   go_wp2_with fail
   go_roundw
   case rel=>exact⟨k+1,_,by omega,rfl,wf_bits _ _ _ _,by go_num,HR'.out,HU.out.trans HU'.out⟩
   case measure=>simp [intOf];omega
  ·have hlt': ¬(k:Int)<8:=by omega
   go_wp2_with fail
   go_ret
   have hb:=bounds_u64 HV.out
   exact⟨v,rfl,hb.1,hb.2,HR.out,HU.out⟩
theorem ne_of_lt' {r n:Nat} (h:r<n): ¬n=r:=by omega
theorem rd_near (r:Nat) (A:Option Addr) (len cap:Nat) (l h:Int) (W:World) (hr:Rd W r A len cap) (h0:0≤l) (h1:l≤h) (h2:h≤1000):Calls Tryz.prog 73 #[.pointer (some ⟨r,0,none⟩),.int .i64 l,.int .i64 h] W fun e w'=>
  ∃v,e= .returned (.int .i64 v)∧Rd w' r A len cap∧Upd r W w':=by
 have HH:Hid (Rd W r A len cap):=hr
 clear hr
 go_enter Tryz.func73,Tryz.ntmps73
 go_wp2_with fail
 refine(rd_below r A len cap 8 _ HH.out (by omega) (by omega)).mono ?_
 rintro e w1 ⟨v,rfl,v0,v1,hr,hu⟩
 have HR:Hid (Rd w1 r A len cap):=hr
 have HU:Hid (Upd r W w1):=hu
 clear hr hu
 by_cases c0:v=0
 ·subst c0
  go_wp2_with fail
  go_ret
  exact⟨_,rfl,HR.out,HU.out⟩
 by_cases c1:v=1
 ·subst c1
  go_wp2_with fail
  go_ret
  exact⟨_,rfl,HR.out,HU.out⟩
 have q0:(v==0)=false:=by simpa using c0
 have q1:(v==1)=false:=by simpa using c1
 have hnl: ¬h<l:=by omega
 go_wp2_with fail
 refine(rd_word r A len cap _ HR.out).mono ?_
 rintro e w2 ⟨u,rfl,u0,u1,hr,hu⟩
 have HR':Hid (Rd w2 r A len cap):=hr
 have HU':Hid (Upd r w1 w2):=hu
 clear hr hu u1
 go_wp2_with fail
 all_goals
  go_ret
  exact⟨_,rfl,HR'.out,HU.out.trans HU'.out⟩
theorem rd_off (r:Nat) (A:Option Addr) (len cap:Nat) (l h:Int) (W:World) (hr:Rd W r A len cap) (h0:0≤l) (h1:l≤h) (h2:h≤1000):Calls Tryz.prog 37 #[.pointer (some ⟨r,0,none⟩),.int .i64 l,.int .i64 h] W fun e w'=>
  ∃v,e= .returned (.int .i64 v)∧Rd w' r A len cap∧Upd r W w':=by
 have HH:Hid (Rd W r A len cap):=hr
 clear hr
 go_enter Tryz.func37,Tryz.ntmps37
 go_wp2_with fail
 refine(rd_once r A len cap 24 _ HH.out (by omega) (by omega)).mono ?_
 rintro e w1 ⟨b,rfl,hr,hu⟩
 have HR:Hid (Rd w1 r A len cap):=hr
 have HU:Hid (Upd r W w1):=hu
 have hne:=ne_of_lt' hr.lt
 clear hr hu
 cases b
 ·go_wp2_with fail
  refine(rd_near r A len cap _ _ _ HR.out h0 h1 h2).mono ?_
  rintro e w2 ⟨u,rfl,hr,hu⟩
  have HR':Hid (Rd w2 r A len cap):=hr
  have HU':Hid (Upd r w1 w2):=hu
  clear hr hu
  go_wp2_with fail
  go_ret
  exact⟨_,rfl,HR'.out,HU.out.trans HU'.out⟩
 ·go_wp2_with fail
  refine(rd_below r A len cap 4 _ (HR.out.below (by go_grown)) (by omega) (by omega)).mono ?_
  rintro e w2 ⟨v,rfl,v0,v1,hr,hu⟩
  have HR':Hid (Rd w2 r A len cap):=hr
  have HU':Hid (Upd r W w2):=HU.out.trans ((Upd.of_below (Nat.le_of_lt HR.out.lt) (by go_grown)).trans hu)
  obtain⟨uc,uf,uz,ub⟩:=hu
  clear hr ub
  have hv:v=0∨v=1∨v=2∨v=3:=by omega
  rcases hv with rfl | rfl | rfl | rfl
  all_goals
   go_wp2_with fail
   go_ret
   exact⟨_,rfl,HR'.out,HU'.out⟩
theorem Rd.carry {w w1 w2:World} {r:Nat} {A:Option Addr} {len cap:Nat} (h:Rd w r A len cap) (h1:Rd w1 r A len cap) (hu:Upd r w w1) (hb:Below w.heap.size w1 w2):Rd w2 r A len cap∧Upd r w w2:=by
 have hc: ∀b o,b<w.heap.size→w2.cell? ⟨b,o,none⟩=w1.cell? ⟨b,o,none⟩:=fun b o hl=>hb.cell (p:=⟨b,o,none⟩) hl
 have hf: ∀b o,b<w.heap.size→w2.frozen? ⟨b,o,none⟩=w1.frozen? ⟨b,o,none⟩:=fun b o hl=>hb.frozen (p:=⟨b,o,none⟩) hl
 have hr:=h.lt
 obtain⟨h0,hby,_,_,_⟩:=h
 obtain⟨_,_,c0,f1,p,hp,c1⟩:=h1
 refine⟨⟨h0,fun i hi=> ?_,(hc _ _ hr).trans c0,(hf _ _ hr).trans f1,p,hp,(hc _ _ hr).trans c1⟩,
  ⟨fun b o hl hn=>(hc b o hl).trans (hu.1 b o hl hn),fun b o hl hn=>(hf b o hl).trans (hu.2.1 b o hl hn),Nat.le_trans hu.2.2.1 hb.size,hu.2.2.2.trans (hb.mono (Nat.le_of_lt hr))⟩⟩
 obtain⟨b,o,v,e,hn,c,v0,v1⟩:=hby i hi
 exact⟨b,o,v,e,hn,(hc _ _ (lt_of_cell c)).trans ((hu.1 _ _ (lt_of_cell c) hn).trans c),v0,v1⟩
def Cd (W:World) (A:Option Addr) (len:Nat):Prop:=len≤1048576∧ ∀i,i<len→ ∃b o v,A=some ⟨b,o,none⟩∧W.cell? ⟨b,o+i,none⟩=some (.int .u8 v)∧0≤v∧v≤255
theorem Cd.below {W w1:World} {A:Option Addr} {len:Nat} (h:Cd W A len) (hb:Below W.heap.size W w1):Cd w1 A len:=
 ⟨h.1,fun i hi=>by
  obtain⟨b,o,v,e,c,v0,v1⟩:=h.2 i hi
  exact⟨b,o,v,e,(hb.cell (p:=⟨b,o+i,none⟩) (lt_of_cell c)).trans c,v0,v1⟩⟩
theorem Cd.at {W:World} {A:Option Addr} {len:Nat} (h:Cd W A len):0<len→ ∀x,A=some x→x.block<W.heap.size:=fun hl x e=>by
 obtain⟨b,o,v,e',c,_⟩:=h.2 0 hl
 rw [e]at e'
 cases e'
 exact lt_of_cell c
theorem Cd.opened {W:World} {A:Option Addr} {len cap:Nat} (h:Cd W A len):Rd (W.alloc (.cells #[.slice A len cap,.int .i64 0] 60)) W.heap.size A len cap:=by
 refine⟨h.1,fun i hi=> ?_,by simp,by simp,0,by omega,by simp⟩
 obtain⟨b,o,v,e,c,v0,v1⟩:=h.2 i hi
 have hl:=lt_of_cell c
 exact⟨b,o,v,e,by omega,((((Below.refl _ _).alloc (Nat.le_refl _) _:Below W.heap.size W (W.alloc _))).cell (p:=⟨b,o+i,none⟩) hl).trans c,v0,v1⟩
theorem Cd.open {w W:World} {A:Option Addr} {len cap r:Nat} (h:Cd w A len) (hb:Below w.heap.size w W) (hr:r=W.heap.size):Rd (W.alloc (.cells #[.slice A len cap,.int .i64 0] 60)) r A len cap:=by
 subst hr
 exact(h.below hb).opened
theorem Rd.store {W:World} {r B b o:Nat} {A:Option Addr} {len cap:Nat} {v:Value} (h:Rd W r A len cap) (hA:0<len→ ∀x,A=some x→x.block<B) (hB:B≤b) (hb: ¬b=r):Rd (W.setCell ⟨b,o,none⟩ v) r A len cap:=by
 obtain⟨h0,h1,h2,h3,p,hp,h4⟩:=h
 refine⟨h0,fun i hi=> ?_,(World.cell?_setCell_other W ⟨b,o,none⟩ ⟨r,0,none⟩ v (fun e=>hb (congrArg Addr.block e))).trans h2,by simpa using h3,p,hp,(World.cell?_setCell_other W ⟨b,o,none⟩ ⟨r,1,none⟩ v (fun e=>hb (congrArg Addr.block e))).trans h4⟩
 obtain⟨b',o',v',e,hn,c,v0,v1⟩:=h1 i hi
 have hlt:=hA (by omega) _ e
 exact⟨b',o',v',e,hn,(World.cell?_setCell_other W ⟨b,o,none⟩ ⟨b',o'+i,none⟩ v (fun e=>by have:=congrArg Addr.block e;simp only at this hlt;omega)).trans c,v0,v1⟩
theorem spec_l1Open (A:Option Addr) (len cap:Nat) (w:World):Calls Tryz.prog 15 #[.slice A len cap] w fun e w'=>
  e= .returned (.pointer (some ⟨w.heap.size,0,none⟩))∧w.alloc (.cells #[.slice A len cap,.int .i64 0] 60)=w':=by
 go_enter Tryz.func15,Tryz.ntmps15
 go_wp2
 go_ret
 exact⟨rfl,rfl⟩
theorem laws_big (A:Option Addr) (len cap:Nat) (w:World):Calls Tryz.prog 5 #[.slice A len cap] w fun e w'=>
  e= .returned (.bool (decide ((1048576:Int)<(len:Int))))∧w'=w:=by
 go_enter Tryz.func5,Tryz.ntmps5
 go_wp2
 go_ret
 exact⟨rfl,rfl⟩
theorem rd_ref (r:Nat) (A:Option Addr) (len cap:Nat) (w:World) (hr:Rd w r A len cap):Calls Tryz.prog 65 #[.pointer (some ⟨r,0,none⟩)] w fun e w'=>
  ∃x y,e= .returned (.agg #[.int .i64 x,.int .i64 y])∧1≤x∧x≤3∧1≤y∧y≤4∧Rd w' r A len cap∧Upd r w w':=by
 have HH:Hid (Rd w r A len cap):=hr
 have hne:=ne_of_lt' hr.lt
 have HL:Hid (r≤w.heap.size):=Nat.le_of_lt hr.lt
 clear hr
 go_enter Tryz.func65,Tryz.ntmps65
 go_wp2_with fail
 refine(rd_below r A len cap 3 _ (HH.out.below (by go_grown)) (by omega) (by omega)).mono ?_
 rintro e w1 ⟨x,rfl,x0,x1,hr,hu⟩
 have HR1:Hid (Rd w1 r A len cap):=hr
 have HU1:Hid (Upd r w w1):=(Upd.of_below HL.out (by go_grown)).trans hu
 have hl1:w.heap.size<w1.heap.size:=Nat.lt_of_lt_of_le (by go_size) hu.2.2.1
 obtain⟨uc1,uf1,uz1,ub1⟩:=hu
 clear hr ub1
 go_wp2_with fail
 refine(rd_below r A len cap 4 _ HR1.out (by omega) (by omega)).mono ?_
 rintro e w2 ⟨y,rfl,y0,y1,hr,hu⟩
 have HR2:Hid (Rd w2 r A len cap):=hr
 have HU2:Hid (Upd r w w2):=HU1.out.trans hu
 have hl2:w.heap.size<w2.heap.size:=Nat.lt_of_lt_of_le (by go_size) hu.2.2.1
 obtain⟨uc2,uf2,uz2,ub2⟩:=hu
 clear hr ub2
 go_wp2_with fail
 refine bodyPost_ret (v:= .agg #[.int .i64 (1+x),.int .i64 (1+y)]) ?_ rfl ⟨_,_,rfl,by omega,by omega,by omega,by omega,HH.out.carry HR2.out HU2.out (by go_grown)⟩
 simp (maxDischargeDepth:=9) [results,Tryz.results65,go_sem, *]
def C4 (W:World) (b:Nat) (v0 v1 v2 v3:Value):Prop:=b<W.heap.size∧(W.cell? ⟨b,0,none⟩=some v0∧W.cell? ⟨b,1,none⟩=some v1∧W.cell? ⟨b,2,none⟩=some v2∧W.cell? ⟨b,3,none⟩=some v3)∧
 (W.frozen? ⟨b,0,none⟩=false∧W.frozen? ⟨b,1,none⟩=false∧W.frozen? ⟨b,2,none⟩=false∧W.frozen? ⟨b,3,none⟩=false)
theorem C4.upd {W w1:World} {r b:Nat} {v0 v1 v2 v3:Value} (h:C4 W b v0 v1 v2 v3) (hu:Upd r W w1) (hn:b≠r):C4 w1 b v0 v1 v2 v3:=by
 obtain⟨hl,⟨c0,c1,c2,c3⟩,f0,f1,f2,f3⟩:=h
 exact⟨Nat.lt_of_lt_of_le hl hu.2.2.1,⟨(hu.1 b 0 hl hn).trans c0,(hu.1 b 1 hl hn).trans c1,(hu.1 b 2 hl hn).trans c2,(hu.1 b 3 hl hn).trans c3⟩,(hu.2.1 b 0 hl hn).trans f0,(hu.2.1 b 1 hl hn).trans f1,(hu.2.1 b 2 hl hn).trans f2,(hu.2.1 b 3 hl hn).trans f3⟩
theorem C4.below {W w1:World} {b:Nat} {v0 v1 v2 v3:Value} (h:C4 W b v0 v1 v2 v3) (hb:Below W.heap.size W w1):C4 w1 b v0 v1 v2 v3:=by
 obtain⟨hl,⟨c0,c1,c2,c3⟩,f0,f1,f2,f3⟩:=h
 exact⟨Nat.lt_of_lt_of_le hl hb.size,⟨(hb.cell (p:=⟨b,0,none⟩) hl).trans c0,(hb.cell (p:=⟨b,1,none⟩) hl).trans c1,(hb.cell (p:=⟨b,2,none⟩) hl).trans c2,(hb.cell (p:=⟨b,3,none⟩) hl).trans c3⟩,(hb.frozen (p:=⟨b,0,none⟩) hl).trans f0,(hb.frozen (p:=⟨b,1,none⟩) hl).trans f1,(hb.frozen (p:=⟨b,2,none⟩) hl).trans f2,(hb.frozen (p:=⟨b,3,none⟩) hl).trans f3⟩
theorem C4.new (W:World) (v0 v1 v2 v3:Value) (t:TypeId):C4 (W.alloc (.cells #[v0,v1,v2,v3] t)) W.heap.size v0 v1 v2 v3:=by
 refine⟨by simp,⟨by simp,by simp,by simp,by simp⟩,by simp,by simp,by simp,by simp⟩
theorem rd_place (r:Nat) (A:Option Addr) (len cap:Nat) (w:World) (hr:Rd w r A len cap):Calls Tryz.prog 38 #[.pointer (some ⟨r,0,none⟩)] w fun e w'=>
  ∃a b x y,e= .returned (.agg #[.int .i64 a,.int .i64 b,.bool x,.bool y])∧Rd w' r A len cap∧Upd r w w':=by
 have HH:Hid (Rd w r A len cap):=hr
 have HL:Hid (r<w.heap.size):=hr.lt
 clear hr
 have C0:Hid (C4 (w.alloc (.cells #[.int .i64 0,.int .i64 0,.bool false,.bool false] 41)) w.heap.size (.int .i64 0) (.int .i64 0) (.bool false) (.bool false)):=C4.new _ _ _ _ _ _
 go_enter Tryz.func38,Tryz.ntmps38
 go_wp2_with fail
 refine(rd_ref r A len cap _ (HH.out.below (by go_grown))).mono ?_
 rintro e w1 ⟨x,y,rfl,x0,x1,y0,y1,hr,hu⟩
 have HR1:Hid (Rd w1 r A len cap):=hr
 have HU1:Hid (Upd r w w1):=(Upd.of_below (Nat.le_of_lt HL.out) (by go_grown)).trans hu
 have C1:Hid (C4 w1 w.heap.size (.int .i64 0) (.int .i64 0) (.bool false) (.bool false)):=C0.out.upd hu (by have:=HL.out;omega)
 clear hr hu C0
 go_wp2_with fail
 refine(rd_once r A len cap 4 _ HR1.out (by omega) (by omega)).mono ?_
 rintro e w2 ⟨p,rfl,hr,hu⟩
 have HR2:Hid (Rd w2 r A len cap):=hr
 have HU2:Hid (Upd r w w2):=HU1.out.trans hu
 have C2:Hid (C4 w2 w.heap.size (.int .i64 0) (.int .i64 0) (.bool false) (.bool false)):=C1.out.upd hu (by have:=HL.out;omega)
 clear hr hu C1 HR1 HU1
 go_wp2_with fail
 refine(rd_once r A len cap 4 _ HR2.out (by omega) (by omega)).mono ?_
 rintro e w3 ⟨q,rfl,hr,hu⟩
 have HR3:Hid (Rd w3 r A len cap):=hr
 have HU3:Hid (Upd r w w3):=HU2.out.trans hu
 have C3:Hid (C4 w3 w.heap.size (.int .i64 0) (.int .i64 0) (.bool false) (.bool false)):=C2.out.upd hu (by have:=HL.out;omega)
 have HS3:Hid (w.heap.size<w3.heap.size):=C3.out.1
 have D3:Hid (C4 (w3.alloc (.cells #[.int .i64 x,.int .i64 y,.bool p,.bool q] 41)) w3.heap.size (.int .i64 x) (.int .i64 y) (.bool p) (.bool q)):=C4.new _ _ _ _ _ _
 clear hr hu C2 HR2 HU2
 go_wp2_with fail
 refine(rd_once r A len cap 20 _ (HR3.out.below (by go_grown)) (by omega) (by omega)).mono ?_
 rintro e w4 ⟨t,rfl,hr,hu⟩
 have HR4:Hid (Rd w4 r A len cap):=hr
 have HU4:Hid (Upd r w w4):=HU3.out.trans ((Upd.of_below (by have:=HL.out;have:=HS3.out;omega) (by go_grown)).trans hu)
 have C4':Hid (C4 w4 w.heap.size (.int .i64 0) (.int .i64 0) (.bool false) (.bool false)):=(C3.out.below (by go_grown)).upd hu (by have:=HL.out;omega)
 have D4:Hid (C4 w4 w3.heap.size (.int .i64 x) (.int .i64 y) (.bool p) (.bool q)):=D3.out.upd hu (by have:=HL.out;have:=HS3.out;omega)
 clear hr hu C3 D3 HR3 HU3
 cases t
 ·obtain⟨hl0,⟨c0,c1,c2,c3⟩,f0,f1,f2,f3⟩:=C4'.out
  obtain⟨hl3,⟨d0,d1,d2,d3⟩,g0,g1,g2,g3⟩:=D4.out
  have hs3:=HS3.out
  go_wp2_with fail
  refine bodyPost_ret (v:= .agg #[.int .i64 x,.int .i64 y,.bool p,.bool q]) ?_ rfl ⟨_,_,_,_,rfl,HH.out.carry HR4.out HU4.out (by go_grown)⟩
  simp (maxDischargeDepth:=9) [results,Tryz.results38,go_sem, *]
 ·go_wp2_with fail
  refine(rd_off r A len cap 1 52 _ HR4.out (by omega) (by omega) (by omega)).mono ?_
  rintro e w5 ⟨x',rfl,hr,hu⟩
  have HR5:Hid (Rd w5 r A len cap):=hr
  have HU5:Hid (Upd r w w5):=HU4.out.trans hu
  have C5:Hid (C4 w5 w.heap.size (.int .i64 0) (.int .i64 0) (.bool false) (.bool false)):=C4'.out.upd hu (by have:=HL.out;omega)
  have D5:Hid (C4 w5 w3.heap.size (.int .i64 x) (.int .i64 y) (.bool p) (.bool q)):=D4.out.upd hu (by have:=HL.out;have:=HS3.out;omega)
  clear hr hu C4' D4 HR4 HU4
  go_wp2_with fail
  refine(rd_off r A len cap 1 99 _ HR5.out (by omega) (by omega) (by omega)).mono ?_
  rintro e w6 ⟨y',rfl,hr,hu⟩
  have HR6:Hid (Rd w6 r A len cap):=hr
  have HU6:Hid (Upd r w w6):=HU5.out.trans hu
  have C6:Hid (C4 w6 w.heap.size (.int .i64 0) (.int .i64 0) (.bool false) (.bool false)):=C5.out.upd hu (by have:=HL.out;omega)
  have D6:Hid (C4 w6 w3.heap.size (.int .i64 x) (.int .i64 y) (.bool p) (.bool q)):=D5.out.upd hu (by have:=HL.out;have:=HS3.out;omega)
  clear hr hu C5 D5 HR5 HU5
  obtain⟨hl0,⟨c0,c1,c2,c3⟩,f0,f1,f2,f3⟩:=C6.out
  obtain⟨hl3,⟨d0,d1,d2,d3⟩,g0,g1,g2,g3⟩:=D6.out
  have hs3:=HS3.out
  have he: ¬w3.heap.size=w.heap.size:=by omega
  have he': ¬w.heap.size=w3.heap.size:=by omega
  ·go_wp2_with fail
   refine bodyPost_ret (v:= .agg #[.int .i64 x',.int .i64 y',.bool p,.bool q]) ?_ rfl ⟨_,_,_,_,rfl,HH.out.carry HR6.out HU6.out (by go_grown)⟩
   simp (maxDischargeDepth:=9) [results,Tryz.results38,go_sem, *]
def UpdG (r:Nat) (W w':World):Prop:=Upd r W w'∧W.grownBy w' (some r)
theorem grown_trans' {a b c:World} {row:Option Nat} (h:a.grownBy b row) (h':b.grownBy c row):a.grownBy c row:=
 ⟨h'.os.trans h.os,h'.tape.trans h.tape,h'.output.trans h.output,Nat.le_trans h.size h'.size,fun k hk hr=>(h'.block k (Nat.lt_of_lt_of_le hk h.size) hr).trans (h.block k hk hr)⟩
theorem UpdG.draws (r:Nat) (W:World) (n:Nat):UpdG r W (W.drewN n):=⟨Upd.draws r W n,⟨rfl,rfl,rfl,Nat.le_refl _,fun _ _ _=>rfl⟩⟩
theorem UpdG.trans {r:Nat} {W w1 w2:World} (h:UpdG r W w1) (h':UpdG r w1 w2):UpdG r W w2:=⟨h.1.trans h'.1,grown_trans' h.2 h'.2⟩
theorem UpdG.set {r o:Nat} {W:World} {v:Value}:UpdG r W (W.setCell ⟨r,o,none⟩ v):=
 ⟨Upd.set,⟨rfl,rfl,rfl,by simp,fun k _ hk=>Below.heap_setCell W ⟨r,o,none⟩ v k (fun e=>hk (by rw [e]))⟩⟩
theorem UpdG.of_below {r:Nat} {W w1:World} (hr:r≤W.heap.size) (h:Below W.heap.size W w1):UpdG r W w1:=
 ⟨Upd.of_below hr h,⟨h.os,h.tape,h.output,h.size,fun k hk _=>h.block k hk⟩⟩
theorem rd_nextG (r:Nat) (A:Option Addr) (len cap:Nat) (W:World) (h:Rd W r A len cap):Calls Tryz.prog 68 #[.pointer (some ⟨r,0,none⟩)] W fun e w'=>
  ∃v,e= .returned (.int .i64 v)∧0≤v∧v≤255∧Rd w' r A len cap∧UpdG r W w':=by
 have HH:Hid (Rd W r A len cap):=h
 obtain⟨h0,h1,h2,h3,p,hp,h4⟩:=h
 by_cases hl:p=len
 ·subst hl
  clear h1
  have hge:(p:Int)≤(p:Int):=Int.le_refl _
  go_enter Tryz.func68,Tryz.ntmps68
  go_wp2_with fail
  go_quiet (fail)
  go_wp2_with fail
  go_ret
  exact⟨0,rfl,by omega,by omega,HH.out.keep (fun _ _ _=>rfl) (fun _ _ _=>rfl),UpdG.draws _ _ _⟩
 ·have hlt:p<len:=by omega
  obtain⟨b,o,v,rfl,hb,c,v0,v1⟩:=h1 p hlt
  clear h1
  have hlt':(p:Int)<(len:Int):=by omega
  have hp0:(0:Int)≤(p:Int):=by omega
  go_enter Tryz.func68,Tryz.ntmps68
  go_wp2_with fail
  go_quiet (fail)
  go_wp2_with fail
  go_quiet (fail)
  go_wp2_with fail
  go_ret
  have e:((p+1:Nat):Int)=(p:Int)+1:=by omega
  have hn:=HH.out.set (p+1) (by omega)
  rw [e]at hn
  exact⟨v,rfl,v0,v1,hn.keep (fun _ _ _=>rfl) (fun _ _ _=>rfl),(UpdG.draws _ _ _).trans (UpdG.set.trans (UpdG.draws _ _ _))⟩
theorem rd_belowG (r:Nat) (A:Option Addr) (len cap:Nat) (n:Int) (W:World) (h:Rd W r A len cap) (h0:1≤n) (h1:n≤1048577):Calls Tryz.prog 31 #[.pointer (some ⟨r,0,none⟩),.int .i64 n] W fun e w'=>
  ∃v,e= .returned (.int .i64 v)∧0≤v∧v<n∧Rd w' r A len cap∧UpdG r W w':=by
 have HH:Hid (Rd W r A len cap):=h
 clear h
 by_cases ha:n≤1
 ·go_enter Tryz.func31,Tryz.ntmps31
  go_wp2_with fail
  go_ret
  exact⟨0,rfl,by omega,by omega,HH.out,UpdG.draws r W 0⟩
 by_cases hb:n≤256
 ·go_enter Tryz.func31,Tryz.ntmps31
  go_wp2_with fail
  refine(rd_nextG r A len cap _ HH.out).mono ?_
  rintro e w1 ⟨v,rfl,v0,v1,hr,hu⟩
  have HR:Hid (Rd w1 r A len cap):=hr
  have HU:Hid (UpdG r W w1):=hu
  clear hr hu
  go_wp2_with fail
  go_ret
  exact⟨_,rfl,Int.emod_nonneg _ (by omega),Int.emod_lt_of_pos _ (by omega),HR.out,HU.out⟩
 ·go_enter Tryz.func31,Tryz.ntmps31
  go_wp2_with fail
  refine(rd_nextG r A len cap _ HH.out).mono ?_
  rintro e w1 ⟨v,rfl,v0,v1,hr,hu⟩
  have HR:Hid (Rd w1 r A len cap):=hr
  have HU:Hid (UpdG r W w1):=hu
  clear hr hu
  go_wp2_with fail
  refine(rd_nextG r A len cap _ HR.out).mono ?_
  rintro e w2 ⟨v',rfl,v0',v1',hr,hu⟩
  have HR':Hid (Rd w2 r A len cap):=hr
  have HU':Hid (UpdG r w1 w2):=hu
  clear hr hu
  go_wp2_with fail
  go_ret
  exact⟨_,rfl,Int.emod_nonneg _ (by omega),Int.emod_lt_of_pos _ (by omega),HR'.out,HU.out.trans HU'.out⟩
theorem infoU8:(Tryz.prog.info? 5).map (fun i=>(i.zero,i.size,i.bytes))=some (some (.int .u8 0),1,1):=by kernel_rfl
def Bys (xs:List Value):Prop:= ∃l:List Int,xs=l.map (Value.int .u8)
theorem push_size: ∀(l:List Int) (r:ByteArray),(l.foldl (fun r n=>r.push (UInt8.ofNat n.toNat)) r).size=r.size+l.length
 | [],r=>rfl
 | n::l,r=>by rw [List.foldl_cons,push_size l,ByteArray.size_push,List.length_cons];omega
theorem conv_row {W:World} {B k:Nat} {v:Value} {xs:List Value} (h:W.ownsRow B 5 1 v k xs) (hb:Bys xs): ∃s:ByteArray,s.size=k∧(convert 22 9 v).run Tryz.prog W= .ok (.string s) W:=by
 obtain⟨l,rfl⟩:=hb
 have hl:l.length=k:=by have:=h.1;simpa using this
 rcases h.2 with⟨rfl,rfl⟩ | ⟨g,cap,cur,rfl,_⟩
 ·refine⟨⟨#[]⟩,rfl,?_⟩
  rw [run_convert_bytes_string W 22 9 5 none 0 0 Tryz.underlying22 Tryz.underlying5 Tryz.underlying9]
  rfl
 ·rw [run_convert_bytes_string W 22 9 5 (some ⟨g,0,none⟩) k cap Tryz.underlying22 Tryz.underlying5 Tryz.underlying9]
  have hc:=run_loadCells_list (P:=Tryz.prog) W ⟨g,0,none⟩ (l.map (Value.int .u8)) (fun j x hj=>h.cells (g:=g) rfl j x hj)
  rw [run_bytesToString W ⟨g,0,none⟩ k cap l (by simpa [hl]using hc)]
  exact⟨_,by rw [push_size];rw [hl];exact Nat.zero_add _,rfl⟩
theorem app_byte {ops:Array Oper} {rest:List Oper} {o:Oper} {a:Act} {Q:Exit→Act→World→Prop} (w:World) (hgd:o.guard=none) (s x:Operand)
  (ho:o.op= .call {callee:= .builtin .append,args:= #[s,x],argTypes:= #[22,22]}) (v:Value) (hs:a.eval s=v) (base:Nat) (hb:base≤w.heap.size) (k:Nat) (ys:List Value) (hown:w.ownsRow base 5 1 v k ys)
  (z:Int) (g:Nat) (hx:a.eval x= .slice (some ⟨g,0,none⟩) 1 1) (hc:w.cell? ⟨g,0,none⟩=some (.int .u8 z)) (hk:k≤60)
  (h: ∀v' w',w'.ownsRow base 5 1 v' (k+1) (ys++ [.int .u8 z])→w.grownBy w' v.ownBlock→wpList Tryz.prog ops Q rest (a.put o.dst v') w'):wpList Tryz.prog ops Q (o::rest) a w:=by
 obtain⟨i0,hi0,hz0,hz1,hz2⟩:=info_parts infoU8
 refine wpList_append_own w hgd s x 22 ho base 5 i0 (.int .u8 0) 1 1 Tryz.underlying22 hi0 hz0 hz1 hz2 rfl (by decide) v k ys hs hown ⟨g,0,none⟩ 1 1 [.int .u8 z] hx rfl ?_ ?_ ?_ ?_ hb ?_
 ·intro j u hj
  match j,hj with
  | 0,hj=>simp at hj;simpa [Addr.add,←hj]using hc
 ·intro u hu
  simp only [List.mem_singleton]at hu
  subst hu
  rfl
 ·unfold maxLen;omega
 ·omega
 ·intro v' w' ho' hg' _
  exact h v' w' ho' hg'
theorem own_empty8 {W:World} {B g:Nat} {e:TypeId} {size:Nat} (hB:B≤W.heap.size) (hg:g=W.heap.size):(W.alloc (.cells #[] e)).ownsRow B e size (.slice (some ⟨g,0,none⟩) 0 0) 0 []:=by
 subst hg
 exact World.ownsRow_made W #[] 0 hB (Nat.zero_le _) (by simp)
theorem own_below8 {W w':World} {B:Nat} {e:TypeId} {size n:Nat} {v:Value} {xs:List Value} (h:W.ownsRow B e size v n xs) (hb:Below W.heap.size W w'):w'.ownsRow B e size v n xs:=by
 refine⟨h.1,?_⟩
 rcases h.2 with hn | ⟨g,cap,cur,rfl,hB,hgg,rest⟩
 ·exact .inl hn
 ·exact .inr ⟨g,cap,cur,rfl,hB,by rw [hb.block g (Array.getElem?_eq_some_iff.1 hgg).1];exact hgg,rest⟩
theorem own_updG {W w1:World} {r B k:Nat} {e:TypeId} {v:Value} {xs:List Value} (h:W.ownsRow B e 1 v k xs) (hu:UpdG r W w1) (hr:r<B):w1.ownsRow B e 1 v k xs:=by
 refine h.kept hu.2 ?_
 cases hv:v.ownBlock with
 | none=>exact Or.inl rfl
 | some g=>
  right
  intro e9
  cases e9
  have:=(h.lt r hv).1
  omega
theorem rd_bytes (r:Nat) (A:Option Addr) (len cap:Nat) (w:World) (hr:Rd w r A len cap):Calls Tryz.prog 69 #[.pointer (some ⟨r,0,none⟩),.int .i64 2] w fun e w'=>
  ∃s:ByteArray,e= .returned (.string s)∧s.size≤2∧Rd w' r A len cap∧Upd r w w':=by
 have HH:Hid (Rd w r A len cap):=hr
 have HL:Hid (r<w.heap.size):=hr.lt
 clear hr
 go_enter Tryz.func69,Tryz.ntmps69
 have HO0:Hid ((w.alloc (.cells #[] 5)).ownsRow w.heap.size 5 1 (.slice (some ⟨w.heap.size,0,none⟩) 0 0) 0 []):=own_empty8 (Nat.le_refl _) rfl
 go_wp2_with fail
 refine(rd_belowG r A len cap 3 _ (HH.out.below (by go_grown)) (by omega) (by omega)).mono ?_
 rintro e w1 ⟨v,rfl,v0,v1,hr,hu⟩
 have HR1:Hid (Rd w1 r A len cap):=hr
 have HU1:Hid (UpdG r w w1):=(UpdG.of_below (Nat.le_of_lt HL.out) (by go_grown)).trans hu
 have HO1:Hid (w1.ownsRow w.heap.size 5 1 (.slice (some ⟨w.heap.size,0,none⟩) 0 0) 0 []):=own_updG HO0.out hu HL.out
 clear hr hu HO0
 obtain⟨n,rfl⟩: ∃n:Nat,v=(n:Int):=⟨v.toNat,by omega⟩
 go_wp2_with fail
 go_loopw [5,6] (fun o i wr=> ∃(t k:Nat) (xs:List Value),i= .int .i64 t∧t+k≤2∧wr.ownsRow w.heap.size 5 1 o k xs∧Bys xs∧Rd wr r A len cap∧UpdG r w wr) (fun _ i _=>(intOf i).toNat)
 case atStart=>exact⟨n,0,[],rfl,by omega,HO1.out,⟨[],rfl⟩,HR1.out,HU1.out⟩
 case round=>
  clear HR1 HU1 HO1
  obtain⟨t,k,xs,rfl,htk,hown,hby,hr,hu⟩:=hrel
  have HO:Hid (wr.ownsRow w.heap.size 5 1 u5 k xs):=hown
  have HY:Hid (Bys xs):=hby
  have HR:Hid (Rd wr r A len cap):=hr
  have HU:Hid (UpdG r w wr):=hu
  have HSZ:Hid (w.heap.size≤wr.heap.size):=hu.1.2.2.1
  clear hown hby hr hu
  by_cases h0:(t:Int)≤0
  ·have h0': ¬(0:Int)<(t:Int):=by omega
   obtain⟨s,hs,hcv⟩:=conv_row HO.out HY.out
   have HS:Hid (s.size≤2):=(by omega:s.size≤2)
   clear hs
   go_wp2_with fail
   go_ret
   exact⟨s,rfl,HS.out,HR.out,HU.out.1⟩
  ·have h0':(0:Int)<(t:Int):=by omega
   go_wp2_with fail
   refine(rd_belowG r A len cap 256 _ HR.out (by omega) (by omega)).mono ?_
   rintro e w2 ⟨z,rfl,z0,z1,hr,hu⟩
   have HR2:Hid (Rd w2 r A len cap):=hr
   have HU2:Hid (UpdG r w w2):=HU.out.trans hu
   have HO2:Hid (w2.ownsRow w.heap.size 5 1 u5 k xs):=own_updG HO.out hu HL.out
   have HS2:Hid (w.heap.size≤w2.heap.size):=Nat.le_trans HSZ.out hu.1.2.2.1
   clear hr hu HO HR HU
   go_wp2_with (at_builtin;refine app_byte _ rfl _ _ rfl u5 rfl w.heap.size ?hb k xs ?hw z _ rfl ?hc (by omega) ?_)
   case hb=>have:=HS2.out;simp;omega
   case hw=>exact own_below8 HO2.out (by go_grown)
   case hc=>simp
   intro v3 w3 hown3 hgrow3
   have HB3:Hid (Below w.heap.size w2 w3):=Below.grown (Below.mono (by go_grown:Below w2.heap.size w2 (w2.alloc (.cells #[.int .u8 z] 5))) HS2.out) hgrow3 (by have:=HS2.out;simp;omega) (fun q hq=>(HO2.out.lt q hq).1)
   have HO3:Hid (w3.ownsRow w.heap.size 5 1 v3 (k+1) (xs++ [.int .u8 z])):=hown3
   have HY3:Hid (Bys (xs++ [.int .u8 z])):=by
    obtain⟨l,hl⟩:=HY.out
    exact⟨l++ [z],by rw [hl];simp⟩
   have HR3:Hid (Rd w3 r A len cap):=(HH.out.carry HR2.out HU2.out.1 HB3.out).1
   have HU3:Hid (UpdG r w w3):=⟨(HH.out.carry HR2.out HU2.out.1 HB3.out).2,⟨HB3.out.os.trans HU2.out.2.os,HB3.out.tape.trans HU2.out.2.tape,HB3.out.output.trans HU2.out.2.output,Nat.le_trans HU2.out.2.size HB3.out.size,fun q hq hn=>(HB3.out.block q hq).trans (HU2.out.2.block q hq hn)⟩⟩
   clear hown3 hgrow3 HO2 HR2 HU2 HB3
   go_wp2_with fail
   go_roundw
   case rel=>exact⟨t-1,k+1,_,by congr 1;omega,by omega,HO3.out,HY3.out,HR3.out,HU3.out⟩
   case measure=>simp [intOf];omega
def tab6 (n:Nat):ByteArray:=match n with
 | 0=>⟨#[65]⟩
 | 1=>⟨#[49]⟩
 | 2=>⟨#[40]⟩
 | 3=>⟨#[44]⟩
 | 4=>⟨#[34]⟩
 | _=>⟨#[32]⟩
theorem tab6_size (n:Nat):(tab6 n).size=1:=by unfold tab6;split<;>rfl
theorem ext_size (s:ByteArray) (a b:Nat):(s.extract a b).size≤s.size:=by rw [ByteArray.size_extract];omega
theorem add_run (x y:ByteArray) (h:x.size+y.size≤1000000): ∀W,(Op.stringOp .add x y).run Tryz.prog W= .ok (.string (x++y)) W:=by
 intro W
 have h': ¬9223372036854775807<x.size+y.size:=by omega
 simp [Op.stringOp,go_sem,h']
 omega
theorem rd_hurt (r:Nat) (A:Option Addr) (len cap:Nat) (s:ByteArray) (w:World) (hr:Rd w r A len cap) (hs:s.size≤1000):Calls Tryz.prog 32 #[.pointer (some ⟨r,0,none⟩),.string s] w fun e w'=>
  ∃t:ByteArray,e= .returned (.string t)∧t.size≤s.size+2∧Rd w' r A len cap∧Upd r w w':=by
 have HH:Hid (Rd w r A len cap):=hr
 have HL:Hid (r<w.heap.size):=hr.lt
 clear hr
 go_enter Tryz.func32,Tryz.ntmps32
 go_wp2_with fail
 refine(rd_below r A len cap 6 _ HH.out (by omega) (by omega)).mono ?_
 rintro e w1 ⟨v,rfl,v0,v1,hr,hu⟩
 have HR1:Hid (Rd w1 r A len cap):=hr
 have HU1:Hid (Upd r w w1):=hu
 clear hr hu
 by_cases h0:v=0
 ·subst h0
  go_wp2_with fail
  refine(rd_bytes r A len cap _ HR1.out).mono ?_
  rintro e w2 ⟨t,rfl,ht,hr,hu⟩
  have HR2:Hid (Rd w2 r A len cap):=hr
  have HU2:Hid (Upd r w w2):=HU1.out.trans hu
  have hst: ¬9223372036854775807<s.size+t.size:=by omega
  clear hr hu
  go_wp2_with fail
  go_ret
  exact⟨_,rfl,by rw [ByteArray.size_append];omega,HR2.out,HU2.out⟩
 have n0:(v==0)=false:=by simpa using h0
 by_cases h1:v=1
 ·subst h1
  go_wp2_with fail
  refine(rd_below r A len cap ((s.size:Int)+1) _ HR1.out (by omega) (by omega)).mono ?_
  rintro e w2 ⟨u,rfl,u0,u1,hr,hu⟩
  have HR2:Hid (Rd w2 r A len cap):=hr
  have HU2:Hid (Upd r w w2):=HU1.out.trans hu
  clear hr hu
  have u2:u≤(s.size:Int):=by omega
  go_wp2_with fail
  go_ret
  exact⟨_,rfl,Nat.le_trans (ext_size _ _ _) (by omega),HR2.out,HU2.out⟩
 have n1:(v==1)=false:=by simpa using h1
 by_cases h2:v=2
 ·subst h2
  by_cases hz:s.size=0
  ·have hz': ¬(0:Int)<(s.size:Int):=by omega
   go_wp2_with fail
   go_ret
   exact⟨s,rfl,by omega,HR1.out,HU1.out⟩
  ·have hz':(0:Int)<(s.size:Int):=by omega
   go_wp2_with fail
   refine(rd_below r A len cap (s.size:Int) _ HR1.out (by omega) (by omega)).mono ?_
   rintro e w2 ⟨u,rfl,u0,u1,hr,hu⟩
   have HR2:Hid (Rd w2 r A len cap):=hr
   have HU2:Hid (Upd r w w2):=HU1.out.trans hu
   clear hr hu
   obtain⟨i,rfl⟩: ∃i:Nat,u=(i:Int):=⟨u.toNat,by omega⟩
   have i1:(i:Int)≤(s.size:Int):=by omega
   have i2:(0:Int)≤(i:Int)+1:=by omega
   have i3:(i:Int)+1≤(s.size:Int):=by omega
   have hadd1: ∀n W,(Op.stringOp .add (s.extract 0 i) (tab6 n)).run Tryz.prog W= .ok (.string (s.extract 0 i++tab6 n)) W:=fun n=>add_run _ _ (by have:=ext_size s 0 i;have:=tab6_size n;omega)
   have hadd2: ∀n W,(Op.stringOp .add (s.extract 0 i++tab6 n) (s.extract (i+1) s.size)).run Tryz.prog W= .ok (.string (s.extract 0 i++tab6 n++s.extract (i+1) s.size)) W:=fun n=>add_run _ _ (by have:=ext_size s 0 i;have:=tab6_size n;have:=ext_size s (i+1) s.size;rw [ByteArray.size_append];omega)
   have HFS:Hid (∀n,(s.extract 0 i++tab6 n++s.extract (i+1) s.size).size≤s.size+2):=fun n=>by
    have:=tab6_size n
    rw [ByteArray.size_append,ByteArray.size_append,ByteArray.size_extract,ByteArray.size_extract]
    omega
   have hwr:IntKind.i64.wrap ((i:Int)+1)=(i:Int)+1:=by rw [IntKind.wrap_i64];omega
   have hto:((i:Int)+1).toNat=i+1:=by omega
   have hw2:w.heap.size≤w2.heap.size:=HU2.out.2.2.1
   have hrw:=HL.out
   have nr: ¬w2.heap.size=r:=by omega
   have htab: ∀n,n<6→ ∀W:World,(W.alloc (.cells #[.string ⟨#[65]⟩,.string ⟨#[49]⟩,.string ⟨#[40]⟩,.string ⟨#[44]⟩,.string ⟨#[34]⟩,.string ⟨#[32]⟩] 9)).cell? ⟨W.heap.size,n,none⟩=some (.string (tab6 n)):=fun n hn W=>by
    have hn':n=0∨n=1∨n=2∨n=3∨n=4∨n=5:=by omega
    rcases hn' with rfl | rfl | rfl | rfl | rfl | rfl<;>simp [tab6]
   go_wp2_with fail
   refine wp_region_held_drew (S:=fun _=>True) (by kernel_rfl) trivial (fun hHeld=> ?_)
   refine tkA 0 ?_
   refine tkB 1 ?_
   refine tkA 2 ?_
   refine tkB 4 ?_
   refine tkA 9 ?_
   refine tkB 10 ?_
   refine tkA 11 ?_
   refine tkB 12 ?_
   refine rqB 3 5 (fun Kq hKq=> ?_) (fun Kq hKq=> ?_)
   ·go_simp
    refine hKq.out _ _ trivial (fun hHeld=> ?_)
    clear hKq Kq
    try simp only [Act.put,List.getElem_toArray,List.getElem_cons_zero,List.getElem_cons_succ,List.setIfInBounds_toArray,List.set_cons_zero,List.set_cons_succ]
    refine rqA 5 (fun Kq hKq=> ?_)
    go_simp
    refine(rd_below r A len cap 6 _ (HR2.out.below (by go_grown)) (by omega) (by omega)).mono ?_;rintro e w3 ⟨q,rfl,q0,q1,hr,hu⟩;obtain⟨nq,rfl⟩: ∃n:Nat,q=(n:Int):=⟨q.toNat,by omega⟩;have hq6:nq<6:=(by omega);have hq7:(nq:Int)<6:=(by omega);have hq8:(0:Int)≤(nq:Int):=(by omega);have ht7:=htab nq hq6;have HR3:Hid (Rd w3 r A len cap):=hr;have HU3:Hid (Upd r w w3):=HU2.out.trans ((Upd.of_below (by omega) (by go_grown)).trans hu);obtain⟨uc,uf,uz,ub⟩:=hu;(try simp only [World.size_drew]at uc uf uz);clear hr ub
    refine hKq.out _ _ trivial (fun hHeld=> ?_)
    clear hKq Kq
    try simp only [Act.put,List.getElem_toArray,List.getElem_cons_zero,List.getElem_cons_succ,List.setIfInBounds_toArray,List.set_cons_zero,List.set_cons_succ]
    refine tkB 6 ?_
    refine rqA 7 (fun Kq hKq=> ?_)
    go_simp
    refine hKq.out _ _ trivial (fun hHeld=> ?_)
    clear hKq Kq
    try simp only [Act.put,List.getElem_toArray,List.getElem_cons_zero,List.getElem_cons_succ,List.setIfInBounds_toArray,List.set_cons_zero,List.set_cons_succ]
    refine tkA 8 ?_
    refine tkB 13 ?_
    refine tkB 14 ?_
    refine wpAnyH_done (by kernel_rfl) ?_ _
    go_wp2_with fail
    go_ret
    exact⟨_,rfl,HFS.out nq,HR3.out,HU3.out⟩
   ·go_simp
    refine(rd_below r A len cap 6 _ (HR2.out.below (by go_grown)) (by omega) (by omega)).mono ?_;rintro e w3 ⟨q,rfl,q0,q1,hr,hu⟩;obtain⟨nq,rfl⟩: ∃n:Nat,q=(n:Int):=⟨q.toNat,by omega⟩;have hq6:nq<6:=(by omega);have hq7:(nq:Int)<6:=(by omega);have hq8:(0:Int)≤(nq:Int):=(by omega);have ht7:=htab nq hq6;have HR3:Hid (Rd w3 r A len cap):=hr;have HU3:Hid (Upd r w w3):=HU2.out.trans ((Upd.of_below (by omega) (by go_grown)).trans hu);obtain⟨uc,uf,uz,ub⟩:=hu;(try simp only [World.size_drew]at uc uf uz);clear hr ub
    refine hKq.out _ _ trivial (fun hHeld=> ?_)
    clear hKq Kq
    try simp only [Act.put,List.getElem_toArray,List.getElem_cons_zero,List.getElem_cons_succ,List.setIfInBounds_toArray,List.set_cons_zero,List.set_cons_succ]
    refine rqA 3 (fun Kq hKq=> ?_)
    go_simp
    refine hKq.out _ _ trivial (fun hHeld=> ?_)
    clear hKq Kq
    try simp only [Act.put,List.getElem_toArray,List.getElem_cons_zero,List.getElem_cons_succ,List.setIfInBounds_toArray,List.set_cons_zero,List.set_cons_succ]
    refine tkB 6 ?_
    refine rqA 7 (fun Kq hKq=> ?_)
    go_simp
    refine hKq.out _ _ trivial (fun hHeld=> ?_)
    clear hKq Kq
    try simp only [Act.put,List.getElem_toArray,List.getElem_cons_zero,List.getElem_cons_succ,List.setIfInBounds_toArray,List.set_cons_zero,List.set_cons_succ]
    refine tkA 8 ?_
    refine tkB 13 ?_
    refine tkB 14 ?_
    refine wpAnyH_done (by kernel_rfl) ?_ _
    go_wp2_with fail
    go_ret
    exact⟨_,rfl,HFS.out nq,HR3.out.below (by go_grown),HU3.out.trans (Upd.of_below (Nat.le_of_lt HR3.out.lt) (by go_grown))⟩
 have n2:(v==2)=false:=by simpa using h2
 go_wp2_with fail
 go_ret
 exact⟨s,rfl,by omega,HR1.out,HU1.out⟩
end Go.Proofs.YthjpfkpcemgefaaGreatDoor
