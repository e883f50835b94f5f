import Derived.Test.YtbdhinckiccniaaGreatDoorBase
import Derived.Deep.QuietTactic
import Derived.BigQuiet
import Derived.Deep.RegionHeld3
import Derived.RegionTactic
import Derived.Test.YtbdhinckiccniaaGreatDoorGas
import Derived.Laws.BytesString
import Derived.Laws.OwnMore
import Derived.Laws.AppendOwn
set_option linter.unusedSimpArgs false
set_option linter.unusedVariables false
set_option maxHeartbeats 2000000
namespace Go.Proofs.YtbdhinckiccniaaGreatDoor
open Go.RowKit
def Rd (W:World) (r:Nat) (A:Option Addr) (len cap:Nat):Prop:=
 len≤1048576∧(∀i,i<len→ ∃b o v,A=some ⟨b,o,none⟩∧b≠r∧W.cell? ⟨b,o+i,none⟩=some (.int .u8 v)∧0≤v∧v≤255)∧
 W.cell? ⟨r,0,none⟩=some (.slice A len cap)∧W.frozen? ⟨r,1,none⟩=false∧ ∃p:Nat,p≤len∧W.cell? ⟨r,1,none⟩=some (.int .i64 p)
def Upd (r:Nat) (W w':World):Prop:=
 (∀b o,b<W.heap.size→b≠r→w'.cell? ⟨b,o,none⟩=W.cell? ⟨b,o,none⟩)∧(∀b o,b<W.heap.size→b≠r→w'.frozen? ⟨b,o,none⟩=W.frozen? ⟨b,o,none⟩)∧W.heap.size≤w'.heap.size∧Below r W w'∧ ∀b,b<W.heap.size→b≠r→w'.heap[b]? =W.heap[b]?
theorem Upd.draws (r:Nat) (W:World) (n:Nat):Upd r W (W.drewN n):=⟨fun _ _ _ _=>rfl,fun _ _ _ _=>rfl,Nat.le_refl _,⟨rfl,rfl,rfl,Nat.le_refl _,fun _ _=>rfl⟩,fun _ _ _=>rfl⟩
theorem Upd.trans {r:Nat} {W w1 w2:World} (h:Upd r W w1) (h':Upd r w1 w2):Upd r W w2:=
 ⟨fun b o hb hr=>(h'.1 b o (Nat.lt_of_lt_of_le hb h.2.2.1) hr).trans (h.1 b o hb hr),fun b o hb hr=>(h'.2.1 b o (Nat.lt_of_lt_of_le hb h.2.2.1) hr).trans (h.2.1 b o hb hr),
  Nat.le_trans h.2.2.1 h'.2.2.1,h.2.2.2.1.trans h'.2.2.2.1,fun b hb hr=>(h'.2.2.2.2 b (Nat.lt_of_lt_of_le hb h.2.2.1) hr).trans (h.2.2.2.2 b hb hr)⟩
theorem Upd.of_below {r:Nat} {W w1:World} (hr:r≤W.heap.size) (h:Below W.heap.size W w1):Upd r W w1:=
 ⟨fun b o hb _=>h.cell (p:=⟨b,o,none⟩) hb,fun b o hb _=>h.frozen (p:=⟨b,o,none⟩) hb,h.size,h.mono hr,fun b hb _=>h.block b hb⟩
theorem Upd.set {r o:Nat} {W:World} {v:Value}:Upd r W (W.setCell ⟨r,o,none⟩ v):=
 ⟨fun b o' _ hr=>World.cell?_setCell_other W ⟨r,o,none⟩ ⟨b,o',none⟩ v (fun e=>hr (congrArg Addr.block e).symm),
  fun b o' _ _=>by simp,by simp,(Below.refl r W).setCell (p:=⟨r,o,none⟩) (Nat.le_refl _) v,fun b _ hr=>Below.heap_setCell W ⟨r,o,none⟩ v b hr⟩
theorem Zp {W:World} {b o:Nat} {v:Value} (h:W.cell? ⟨b,o,none⟩=some v):b<W.heap.size:=World.block_lt_of_cell? W ⟨b,o,none⟩ h
theorem Rd.lt {W:World} {r:Nat} {A:Option Addr} {len cap:Nat} (h:Rd W r A len cap):r<W.heap.size:=Zp h.2.2.1
theorem Rd.keep {W w1:World} {r:Nat} {A:Option Addr} {len cap:Nat} (h:Rd W r A len cap) (hc: ∀b o,b<W.heap.size→w1.cell? ⟨b,o,none⟩=W.cell? ⟨b,o,none⟩) (hf: ∀b o,b<W.heap.size→w1.frozen? ⟨b,o,none⟩=W.frozen? ⟨b,o,none⟩):Rd w1 r A len cap:=by
 obtain⟨h0,h1,h2,h3,p,hp,h4⟩:=h;have hr:=Zp h2;refine⟨h0,fun i hi=> ?_,(hc _ _ hr).trans h2,(hf _ _ hr).trans h3,p,hp,(hc _ _ hr).trans h4⟩;obtain⟨b,o,v,e,hb,c,v0,v1⟩:=h1 i hi;exact⟨b,o,v,e,hb,(hc _ _ (Zp c)).trans c,v0,v1⟩
theorem Rd.below {W w1:World} {r:Nat} {A:Option Addr} {len cap:Nat} (h:Rd W r A len cap) (hb:Below W.heap.size W w1):Rd w1 r A len cap:=
 h.keep (fun b o hl=>hb.cell (p:=⟨b,o,none⟩) hl) (fun b o hl=>hb.frozen (p:=⟨b,o,none⟩) hl)
theorem Rd.set {W:World} {r:Nat} {A:Option Addr} {len cap:Nat} (h:Rd W r A len cap) (q:Nat) (hq:q≤len):Rd (W.setCell ⟨r,1,none⟩ (.int .i64 q)) r A len cap:=by
 obtain⟨h0,h1,h2,h3,p,hp,h4⟩:=h;refine⟨h0,fun i hi=> ?_,?_,by simpa using h3,q,hq,World.cell?_setCell_same _ _ _ h4⟩
 ·obtain⟨b,o,v,e,hb,c,v0,v1⟩:=h1 i hi;exact⟨b,o,v,e,hb,(World.cell?_setCell_other W ⟨r,1,none⟩ ⟨b,o+i,none⟩ _ (fun e=>hb (congrArg Addr.block e).symm)).trans c,v0,v1⟩
 ·exact(World.cell?_setCell_other W ⟨r,1,none⟩ ⟨r,0,none⟩ _ (fun e=>by cases e)).trans h2
theorem Mm (r:Nat) (A:Option Addr) (len cap:Nat) (W:World) (h:Rd W r A len cap):Calls Tryz.prog 91 #[.pointer (some ⟨r,0,none⟩)] W fun e w'=>
  ∃v,e= .returned (.int .i64 v)∧0≤v∧v≤255∧Rd w' r A len cap∧Upd r W w':=by
 have HH:Hid (Rd W r A len cap):=h;obtain⟨h0,h1,h2,h3,p,hp,h4⟩:=h;by_cases hl:p=len
 ·subst hl;clear h1;have hge:(p:Int)≤(p:Int):=Int.le_refl _;go_enter Tryz.func91,Tryz.ntmps91;go_wp2_with fail
  go_quiet (fail)
  go_wp2_with fail
  go_ret;exact⟨0,rfl,by omega,by omega,HH.out.keep (fun _ _ _=>rfl) (fun _ _ _=>rfl),Upd.draws _ _ _⟩
 ·have hlt:p<len:=by omega
  obtain⟨b,o,v,rfl,hb,c,v0,v1⟩:=h1 p hlt;clear h1;have hlt':(p:Int)<(len:Int):=by omega
  have hp0:(0:Int)≤(p:Int):=by omega
  go_enter Tryz.func91,Tryz.ntmps91;go_wp2_with fail
  go_quiet (fail)
  go_wp2_with fail
  go_quiet (fail)
  go_wp2_with fail
  go_ret;have e:((p+1:Nat):Int)=(p:Int)+1:=by omega
  have hn:=HH.out.set (p+1) (by omega);rw [e]at hn;exact⟨v,rfl,v0,v1,hn.keep (fun _ _ _=>rfl) (fun _ _ _=>rfl),(Upd.draws _ _ _).trans (Upd.set.trans (Upd.draws _ _ _))⟩
theorem Qy (r:Nat) (A:Option Addr) (len cap:Nat) (n:Int) (W:World) (h:Rd W r A len cap) (h0:1≤n) (h1:n≤1048577):Calls Tryz.prog 43 #[.pointer (some ⟨r,0,none⟩),.int .i64 n] W fun e w'=>
  ∃v,e= .returned (.int .i64 v)∧0≤v∧v<n∧Rd w' r A len cap∧Upd r W w':=by
 have HH:Hid (Rd W r A len cap):=h;clear h;by_cases ha:n≤1
 ·go_enter Tryz.func43,Tryz.ntmps43;go_wp2_with fail
  go_ret;exact⟨0,rfl,by omega,by omega,HH.out,Upd.draws r W 0⟩
 by_cases hb:n≤256
 ·go_enter Tryz.func43,Tryz.ntmps43;go_wp2_with fail
  refine(Mm r A len cap _ HH.out).mono ?_;rintro e w1 ⟨v,rfl,v0,v1,hr,hu⟩;have HR:Hid (Rd w1 r A len cap):=hr;have HU:Hid (Upd r W w1):=hu;clear hr hu;go_wp2_with fail
  go_ret;exact⟨_,rfl,Int.emod_nonneg _ (by omega),Int.emod_lt_of_pos _ (by omega),HR.out,HU.out⟩
 ·go_enter Tryz.func43,Tryz.ntmps43;go_wp2_with fail
  refine(Mm r A len cap _ HH.out).mono ?_;rintro e w1 ⟨v,rfl,v0,v1,hr,hu⟩;have HR:Hid (Rd w1 r A len cap):=hr;have HU:Hid (Upd r W w1):=hu;clear hr hu;go_wp2_with fail
  refine(Mm r A len cap _ HR.out).mono ?_;rintro e w2 ⟨v',rfl,v0',v1',hr,hu⟩;have HR':Hid (Rd w2 r A len cap):=hr;have HU':Hid (Upd r w1 w2):=hu;clear hr hu;go_wp2_with fail
  go_ret;exact⟨_,rfl,Int.emod_nonneg _ (by omega),Int.emod_lt_of_pos _ (by omega),HR'.out,HU.out.trans HU'.out⟩
theorem XF (r:Nat) (A:Option Addr) (len cap:Nat) (n:Int) (W:World) (h:Rd W r A len cap) (h0:1≤n) (h1:n≤1048577):Calls Tryz.prog 47 #[.pointer (some ⟨r,0,none⟩),.int .i64 n] W fun e w'=>
  ∃b,e= .returned (.bool b)∧Rd w' r A len cap∧Upd r W w':=by
 have HH:Hid (Rd W r A len cap):=h;clear h;go_enter Tryz.func47,Tryz.ntmps47;go_wp2_with fail
 refine(Qy r A len cap n _ HH.out h0 h1).mono ?_;rintro e w1 ⟨v,rfl,v0,v1,hr,hu⟩;have HR:Hid (Rd w1 r A len cap):=hr;have HU:Hid (Upd r W w1):=hu;clear hr hu;go_wp2_with fail
 go_ret;exact⟨_,rfl,HR.out,HU.out⟩
theorem Qo0 (r:Nat) (A:Option Addr) (len cap:Nat) (W:World) (h:Rd W r A len cap):Calls Tryz.prog 149 #[.pointer (some ⟨r,0,none⟩)] W fun e w'=>
  ∃v,e= .returned (.int .u64 v)∧0≤v∧v≤18446744073709551615∧Rd w' r A len cap∧Upd r W w':=by
 have HH:Hid (Rd W r A len cap):=h;clear h;go_enter Tryz.func149,Tryz.ntmps149;go_wp2_with fail
 go_loopw [3,4] (fun x i wr=> ∃(k:Nat) (v:Int),k≤8∧x= .int .u64 v∧(Lit.int .u64 v).wf=true∧i= .int .i64 k∧Rd wr r A len cap∧Upd r W wr) (fun _ i _=>8-(intOf i).toNat)
 case atStart=>exact⟨0,0,by omega,rfl,by decide,rfl,HH.out,Upd.draws r W 0⟩
 case round=>
  obtain⟨k,v,hk,rfl,hv,rfl,hr,hu⟩:=hrel;have HR:Hid (Rd wr r A len cap):=hr;have HU:Hid (Upd r W wr):=hu;have HV:Hid ((Lit.int .u64 v).wf=true):=hv;clear hr hu hv;by_cases hlt:k<8
  ·have hlt':(k:Int)<8:=by omega
   go_wp2_with fail
   refine(Mm r A len cap _ HR.out).mono ?_;rintro e w1 ⟨u,rfl,v0,v1,hr,hu⟩;have HR':Hid (Rd w1 r A len cap):=hr;have HU':Hid (Upd r wr w1):=hu;clear hr hu;go_wp2_with fail
   go_roundw
   case rel=>exact⟨k+1,_,by omega,rfl,wf_bits _ _ _ _,by go_num,HR'.out,HU.out.trans HU'.out⟩
   case measure=>simp [intOf];omega
  ·have hlt': ¬(k:Int)<8:=by omega
   go_wp2_with fail
   go_ret;have hb:=bounds_u64 HV.out;exact⟨v,rfl,hb.1,hb.2,HR.out,HU.out⟩
theorem XT {r n:Nat} (h:r<n): ¬n=r:=by omega
theorem Qo2 (r:Nat) (A:Option Addr) (len cap:Nat) (l h:Int) (W:World) (hr:Rd W r A len cap) (h0:0≤l) (h1:l≤h) (h2:h≤1000):Calls Tryz.prog 94 #[.pointer (some ⟨r,0,none⟩),.int .i64 l,.int .i64 h] W fun e w'=>
  ∃v,e= .returned (.int .i64 v)∧Rd w' r A len cap∧Upd r W w':=by
 have HH:Hid (Rd W r A len cap):=hr;clear hr;go_enter Tryz.func94,Tryz.ntmps94;go_wp2_with fail
 refine(Qy r A len cap 8 _ HH.out (by omega) (by omega)).mono ?_;rintro e w1 ⟨v,rfl,v0,v1,hr,hu⟩;have HR:Hid (Rd w1 r A len cap):=hr;have HU:Hid (Upd r W w1):=hu;clear hr hu;by_cases c0:v=0
 ·subst c0;go_wp2_with fail
  go_ret;exact⟨_,rfl,HR.out,HU.out⟩
 by_cases c1:v=1
 ·subst c1;go_wp2_with fail
  go_ret;exact⟨_,rfl,HR.out,HU.out⟩
 have q0:(v==0)=false:=by simpa using c0
 have q1:(v==1)=false:=by simpa using c1
 have hnl: ¬h<l:=by omega
 go_wp2_with fail
 refine(Qo0 r A len cap _ HR.out).mono ?_;rintro e w2 ⟨u,rfl,u0,u1,hr,hu⟩;have HR':Hid (Rd w2 r A len cap):=hr;have HU':Hid (Upd r w1 w2):=hu;clear hr hu u1;go_wp2_with fail
 all_goals
  go_ret;exact⟨_,rfl,HR'.out,HU.out.trans HU'.out⟩
theorem Qsf (r:Nat) (A:Option Addr) (len cap:Nat) (l h:Int) (W:World) (hr:Rd W r A len cap) (h0:0≤l) (h1:l≤h) (h2:h≤1000):Calls Tryz.prog 48 #[.pointer (some ⟨r,0,none⟩),.int .i64 l,.int .i64 h] W fun e w'=>
  ∃v,e= .returned (.int .i64 v)∧Rd w' r A len cap∧Upd r W w':=by
 have HH:Hid (Rd W r A len cap):=hr;clear hr;go_enter Tryz.func48,Tryz.ntmps48;go_wp2_with fail
 refine(XF r A len cap 24 _ HH.out (by omega) (by omega)).mono ?_;rintro e w1 ⟨b,rfl,hr,hu⟩;have HR:Hid (Rd w1 r A len cap):=hr;have HU:Hid (Upd r W w1):=hu;have hne:=XT hr.lt;clear hr hu;cases b
 ·go_wp2_with fail
  refine(Qo2 r A len cap _ _ _ HR.out h0 h1 h2).mono ?_;rintro e w2 ⟨u,rfl,hr,hu⟩;have HR':Hid (Rd w2 r A len cap):=hr;have HU':Hid (Upd r w1 w2):=hu;clear hr hu;go_wp2_with fail
  go_ret;exact⟨_,rfl,HR'.out,HU.out.trans HU'.out⟩
 ·go_wp2_with fail
  refine(Qy r A len cap 4 _ (HR.out.below (by go_grown)) (by omega) (by omega)).mono ?_;rintro e w2 ⟨v,rfl,v0,v1,hr,hu⟩;have HR':Hid (Rd w2 r A len cap):=hr;have HU':Hid (Upd r W w2):=HU.out.trans ((Upd.of_below (Nat.le_of_lt HR.out.lt) (by go_grown)).trans hu);obtain⟨uc,uf,uz,ub⟩:=hu;clear hr ub;have hv:v=0∨v=1∨v=2∨v=3:=by omega
  rcases hv with rfl | rfl | rfl | rfl
  all_goals
   go_wp2_with fail
   go_ret;exact⟨_,rfl,HR'.out,HU'.out⟩
theorem Rd.carry {w w1 w2:World} {r:Nat} {A:Option Addr} {len cap:Nat} (h:Rd w r A len cap) (h1:Rd w1 r A len cap) (hu:Upd r w w1) (hb:Below w.heap.size w1 w2):Rd w2 r A len cap∧Upd r w w2:=by
 have hc: ∀b o,b<w.heap.size→w2.cell? ⟨b,o,none⟩=w1.cell? ⟨b,o,none⟩:=fun b o hl=>hb.cell (p:=⟨b,o,none⟩) hl;have hf: ∀b o,b<w.heap.size→w2.frozen? ⟨b,o,none⟩=w1.frozen? ⟨b,o,none⟩:=fun b o hl=>hb.frozen (p:=⟨b,o,none⟩) hl;have hr:=h.lt;obtain⟨h0,hby,_,_,_⟩:=h;obtain⟨_,_,c0,f1,p,hp,c1⟩:=h1
 refine⟨⟨h0,fun i hi=> ?_,(hc _ _ hr).trans c0,(hf _ _ hr).trans f1,p,hp,(hc _ _ hr).trans c1⟩,
  ⟨fun b o hl hn=>(hc b o hl).trans (hu.1 b o hl hn),fun b o hl hn=>(hf b o hl).trans (hu.2.1 b o hl hn),Nat.le_trans hu.2.2.1 hb.size,hu.2.2.2.1.trans (hb.mono (Nat.le_of_lt hr)),fun b hl hn=>(hb.block b hl).trans (hu.2.2.2.2 b hl hn)⟩⟩
 obtain⟨b,o,v,e,hn,c,v0,v1⟩:=hby i hi;exact⟨b,o,v,e,hn,(hc _ _ (Zp c)).trans ((hu.1 _ _ (Zp c) hn).trans c),v0,v1⟩
def Cd (W:World) (A:Option Addr) (len:Nat):Prop:=len≤1048576∧ ∀i,i<len→ ∃b o v,A=some ⟨b,o,none⟩∧W.cell? ⟨b,o+i,none⟩=some (.int .u8 v)∧0≤v∧v≤255
theorem Cd.below {W w1:World} {A:Option Addr} {len:Nat} (h:Cd W A len) (hb:Below W.heap.size W w1):Cd w1 A len:=
 ⟨h.1,fun i hi=>by
  obtain⟨b,o,v,e,c,v0,v1⟩:=h.2 i hi
  exact⟨b,o,v,e,(hb.cell (p:=⟨b,o+i,none⟩) (Zp c)).trans c,v0,v1⟩⟩
theorem Cd.at {W:World} {A:Option Addr} {len:Nat} (h:Cd W A len):0<len→ ∀x,A=some x→x.block<W.heap.size:=fun hl x e=>by
 obtain⟨b,o,v,e',c,_⟩:=h.2 0 hl;rw [e]at e';cases e'
 exact Zp c
theorem Cd.opened {W:World} {A:Option Addr} {len cap:Nat} (h:Cd W A len):Rd (W.alloc (.cells #[.slice A len cap,.int .i64 0] 88)) W.heap.size A len cap:=by
 refine⟨h.1,fun i hi=> ?_,by simp,by simp,0,by omega,by simp⟩;obtain⟨b,o,v,e,c,v0,v1⟩:=h.2 i hi;have hl:=Zp c;exact⟨b,o,v,e,by omega,((((Below.refl _ _).alloc (Nat.le_refl _) _:Below W.heap.size W (W.alloc _))).cell (p:=⟨b,o+i,none⟩) hl).trans c,v0,v1⟩
theorem Cd.open {w W:World} {A:Option Addr} {len cap r:Nat} (h:Cd w A len) (hb:Below w.heap.size w W) (hr:r=W.heap.size):Rd (W.alloc (.cells #[.slice A len cap,.int .i64 0] 88)) r A len cap:=by
 subst hr;exact(h.below hb).opened
theorem Rd.store {W:World} {r B b o:Nat} {A:Option Addr} {len cap:Nat} {v:Value} (h:Rd W r A len cap) (hA:0<len→ ∀x,A=some x→x.block<B) (hB:B≤b) (hb: ¬b=r):Rd (W.setCell ⟨b,o,none⟩ v) r A len cap:=by
 obtain⟨h0,h1,h2,h3,p,hp,h4⟩:=h;refine⟨h0,fun i hi=> ?_,(World.cell?_setCell_other W ⟨b,o,none⟩ ⟨r,0,none⟩ v (fun e=>hb (congrArg Addr.block e))).trans h2,by simpa using h3,p,hp,(World.cell?_setCell_other W ⟨b,o,none⟩ ⟨r,1,none⟩ v (fun e=>hb (congrArg Addr.block e))).trans h4⟩;obtain⟨b',o',v',e,hn,c,v0,v1⟩:=h1 i hi;have hlt:=hA (by omega) _ e;exact⟨b',o',v',e,hn,(World.cell?_setCell_other W ⟨b,o,none⟩ ⟨b',o'+i,none⟩ v (fun e=>by have:=congrArg Addr.block e;simp only at this hlt;omega)).trans c,v0,v1⟩
theorem GQ (A:Option Addr) (len cap:Nat) (w:World):Calls Tryz.prog 18 #[.slice A len cap] w fun e w'=>
  e= .returned (.pointer (some ⟨w.heap.size,0,none⟩))∧w.alloc (.cells #[.slice A len cap,.int .i64 0] 88)=w':=by
 go_enter Tryz.func18,Tryz.ntmps18;go_wp2
 go_ret;exact⟨rfl,rfl⟩
theorem Qb7 (A:Option Addr) (len cap:Nat) (w:World):Calls Tryz.prog 5 #[.slice A len cap] w fun e w'=>
  e= .returned (.bool (decide ((1048576:Int)<(len:Int))))∧w'=w:=by
 go_enter Tryz.func5,Tryz.ntmps5;go_wp2
 go_ret;exact⟨rfl,rfl⟩
theorem Ux (r:Nat) (A:Option Addr) (len cap:Nat) (w:World) (hr:Rd w r A len cap):Calls Tryz.prog 45 #[.pointer (some ⟨r,0,none⟩)] w fun e w'=>
  ∃x y,e= .returned (.agg #[.int .i64 x,.int .i64 y])∧1≤x∧x≤3∧1≤y∧y≤4∧Rd w' r A len cap∧Upd r w w':=by
 have HH:Hid (Rd w r A len cap):=hr;have hne:=XT hr.lt;have HL:Hid (r≤w.heap.size):=Nat.le_of_lt hr.lt;clear hr;go_enter Tryz.func45,Tryz.ntmps45;go_wp2_with fail
 refine(Qy r A len cap 3 _ (HH.out.below (by go_grown)) (by omega) (by omega)).mono ?_;rintro e w1 ⟨x,rfl,x0,x1,hr,hu⟩;have HR1:Hid (Rd w1 r A len cap):=hr;have HU1:Hid (Upd r w w1):=(Upd.of_below HL.out (by go_grown)).trans hu;have hl1:w.heap.size<w1.heap.size:=Nat.lt_of_lt_of_le (by go_size) hu.2.2.1;obtain⟨uc1,uf1,uz1,ub1⟩:=hu;clear hr ub1
 go_wp2_with fail
 refine(Qy r A len cap 4 _ HR1.out (by omega) (by omega)).mono ?_;rintro e w2 ⟨y,rfl,y0,y1,hr,hu⟩;have HR2:Hid (Rd w2 r A len cap):=hr;have HU2:Hid (Upd r w w2):=HU1.out.trans hu;have hl2:w.heap.size<w2.heap.size:=Nat.lt_of_lt_of_le (by go_size) hu.2.2.1;obtain⟨uc2,uf2,uz2,ub2⟩:=hu;clear hr ub2
 go_wp2_with fail
 refine bodyPost_ret (v:= .agg #[.int .i64 (1+x),.int .i64 (1+y)]) ?_ rfl ⟨_,_,rfl,by omega,by omega,by omega,by omega,HH.out.carry HR2.out HU2.out (by go_grown)⟩;simp (maxDischargeDepth:=9) [results,Tryz.results45,go_sem, *]
def C4 (W:World) (b:Nat) (v0 v1 v2 v3:Value):Prop:=b<W.heap.size∧(W.cell? ⟨b,0,none⟩=some v0∧W.cell? ⟨b,1,none⟩=some v1∧W.cell? ⟨b,2,none⟩=some v2∧W.cell? ⟨b,3,none⟩=some v3)∧
 (W.frozen? ⟨b,0,none⟩=false∧W.frozen? ⟨b,1,none⟩=false∧W.frozen? ⟨b,2,none⟩=false∧W.frozen? ⟨b,3,none⟩=false)
theorem C4.upd {W w1:World} {r b:Nat} {v0 v1 v2 v3:Value} (h:C4 W b v0 v1 v2 v3) (hu:Upd r W w1) (hn:b≠r):C4 w1 b v0 v1 v2 v3:=by
 obtain⟨hl,⟨c0,c1,c2,c3⟩,f0,f1,f2,f3⟩:=h;exact⟨Nat.lt_of_lt_of_le hl hu.2.2.1,⟨(hu.1 b 0 hl hn).trans c0,(hu.1 b 1 hl hn).trans c1,(hu.1 b 2 hl hn).trans c2,(hu.1 b 3 hl hn).trans c3⟩,(hu.2.1 b 0 hl hn).trans f0,(hu.2.1 b 1 hl hn).trans f1,(hu.2.1 b 2 hl hn).trans f2,(hu.2.1 b 3 hl hn).trans f3⟩
theorem C4.below {W w1:World} {b:Nat} {v0 v1 v2 v3:Value} (h:C4 W b v0 v1 v2 v3) (hb:Below W.heap.size W w1):C4 w1 b v0 v1 v2 v3:=by
 obtain⟨hl,⟨c0,c1,c2,c3⟩,f0,f1,f2,f3⟩:=h;exact⟨Nat.lt_of_lt_of_le hl hb.size,⟨(hb.cell (p:=⟨b,0,none⟩) hl).trans c0,(hb.cell (p:=⟨b,1,none⟩) hl).trans c1,(hb.cell (p:=⟨b,2,none⟩) hl).trans c2,(hb.cell (p:=⟨b,3,none⟩) hl).trans c3⟩,(hb.frozen (p:=⟨b,0,none⟩) hl).trans f0,(hb.frozen (p:=⟨b,1,none⟩) hl).trans f1,(hb.frozen (p:=⟨b,2,none⟩) hl).trans f2,(hb.frozen (p:=⟨b,3,none⟩) hl).trans f3⟩
theorem C4.new (W:World) (v0 v1 v2 v3:Value) (t:TypeId):C4 (W.alloc (.cells #[v0,v1,v2,v3] t)) W.heap.size v0 v1 v2 v3:=by
 refine⟨by simp,⟨by simp,by simp,by simp,by simp⟩,by simp,by simp,by simp,by simp⟩
def UpdG (r:Nat) (W w':World):Prop:=Upd r W w'∧W.grownBy w' (some r)
theorem BK {a b c:World} {row:Option Nat} (h:a.grownBy b row) (h':b.grownBy c row):a.grownBy c row:=
 ⟨h'.os.trans h.os,h'.tape.trans h.tape,h'.output.trans h.output,Nat.le_trans h.size h'.size,fun k hk hr=>(h'.block k (Nat.lt_of_lt_of_le hk h.size) hr).trans (h.block k hk hr)⟩
theorem UpdG.draws (r:Nat) (W:World) (n:Nat):UpdG r W (W.drewN n):=⟨Upd.draws r W n,⟨rfl,rfl,rfl,Nat.le_refl _,fun _ _ _=>rfl⟩⟩
theorem UpdG.trans {r:Nat} {W w1 w2:World} (h:UpdG r W w1) (h':UpdG r w1 w2):UpdG r W w2:=⟨h.1.trans h'.1,BK h.2 h'.2⟩
theorem UpdG.set {r o:Nat} {W:World} {v:Value}:UpdG r W (W.setCell ⟨r,o,none⟩ v):=
 ⟨Upd.set,⟨rfl,rfl,rfl,by simp,fun k _ hk=>Below.heap_setCell W ⟨r,o,none⟩ v k (fun e=>hk (by rw [e]))⟩⟩
theorem UpdG.of_below {r:Nat} {W w1:World} (hr:r≤W.heap.size) (h:Below W.heap.size W w1):UpdG r W w1:=
 ⟨Upd.of_below hr h,⟨h.os,h.tape,h.output,h.size,fun k hk _=>h.block k hk⟩⟩
theorem Qg3 (x y:ByteArray) (h:x.size+y.size≤1000000): ∀W,(Op.stringOp .add x y).run Tryz.prog W= .ok (.string (x++y)) W:=by
 intro W;have h': ¬9223372036854775807<x.size+y.size:=by omega
 simp [Op.stringOp,go_sem,h'];omega
end Go.Proofs.YtbdhinckiccniaaGreatDoor
