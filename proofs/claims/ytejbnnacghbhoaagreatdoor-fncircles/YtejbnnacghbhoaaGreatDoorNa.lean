import Derived.Test.YtejbnnacghbhoaaGreatDoorMn
import Derived.Test.YtejbnnacghbhoaaGreatDoorGzx
import Derived.Test.YtejbnnacghbhoaaGreatDoorGze
set_option linter.unusedSimpArgs false
set_option linter.unusedVariables false
set_option maxHeartbeats 8000000
set_option maxRecDepth 100000
namespace Go.Proofs.YtejbnnacghbhoaaGreatDoor
open Go.RowKit
def C2 (W:World) (b:Nat) (v0 v1:Value):Prop:=b<W.heap.size∧(W.cell? ⟨b,0,none⟩=some v0∧W.cell? ⟨b,1,none⟩=some v1)∧W.frozen? ⟨b,0,none⟩=false∧W.frozen? ⟨b,1,none⟩=false
theorem C2.upd {W w1:World} {r b:Nat} {v0 v1:Value} (h:C2 W b v0 v1) (hu:Upd r W w1) (hn:b≠r):C2 w1 b v0 v1:=by
 obtain⟨hl,⟨c0,c1⟩,f0,f1⟩:=h;exact⟨Nat.lt_of_lt_of_le hl hu.2.2.1,⟨(hu.1 b 0 hl hn).trans c0,(hu.1 b 1 hl hn).trans c1⟩,(hu.2.1 b 0 hl hn).trans f0,(hu.2.1 b 1 hl hn).trans f1⟩
theorem C2.below {W w1:World} {b:Nat} {v0 v1:Value} (h:C2 W b v0 v1) (hb:Below W.heap.size W w1):C2 w1 b v0 v1:=by
 obtain⟨hl,⟨c0,c1⟩,f0,f1⟩:=h;exact⟨Nat.lt_of_lt_of_le hl hb.size,⟨(hb.cell (p:=⟨b,0,none⟩) hl).trans c0,(hb.cell (p:=⟨b,1,none⟩) hl).trans c1⟩,(hb.frozen (p:=⟨b,0,none⟩) hl).trans f0,(hb.frozen (p:=⟨b,1,none⟩) hl).trans f1⟩
theorem C2.new (W:World) (v0 v1:Value) (t:TypeId):C2 (W.alloc (.cells #[v0,v1] t)) W.heap.size v0 v1:=by
 refine⟨by simp,⟨by simp,by simp⟩,by simp,by simp⟩
theorem ShD.cell {w W:World} {r len cap g o:Nat} {A:Option Addr} {v u:Value} {L:List CL} (h:ShD w W r A len cap v L) (h0:Rd w r A len cap) (hg:w.heap.size≤g) (hv: ∀k,v.ownBlock=some k→k≠g):ShD w (W.setCell ⟨g,o,none⟩ u) r A len cap v L:=by
 have gb:W.grownBy (W.setCell ⟨g,o,none⟩ u) (some g):=⟨rfl,rfl,rfl,by simp,fun k _ hk=>Below.heap_setCell W ⟨g,o,none⟩ u k (fun e=>hk (by rw [e]))⟩;have hl:=h0.lt;have hu:=h.upd.app gb (fun k e=>by cases e;exact hg) hl;refine⟨h.own.kept gb ?_,h.lim,h.sz,h0.app h.rd hu (gb.block r (Nat.lt_of_lt_of_le hl h.upd.2.2.1) (fun e=>by cases e;omega)),hu⟩;cases hq:v.ownBlock with
 | none=>exact Or.inl rfl
 | some k=>
  right
  intro e;cases e
  exact hv _ hq rfl
theorem spec_l1OpenC (A:Option Addr) (len cap:Nat) (w:World):Calls Tryz.prog 32 #[.slice A len cap] w fun e w'=>
  e= .returned (.pointer (some ⟨w.heap.size,0,none⟩))∧w.alloc (.cells #[.slice A len cap,.int .i64 0] 102)=w':=by
 go_enter Tryz.func32,Tryz.ntmps32;go_wp2
 go_ret;exact⟨rfl,rfl⟩
theorem draw_inCircle (H1:FtX 1 69) (H2:FtX 2 228) (A:Option Addr) (len cap:Nat) (w:World) (h:Cd w A len):Calls Tryz.prog 8 #[.slice A len cap] w fun e w'=>
  ∃(L:List CL) (B:Option Addr) (c:Nat) (p q:Int),e= .returned (.tuple #[.slice B L.length c,.agg #[.int .i64 p,.int .i64 q]])∧ClRow w' B L.length (Qf8 L) (Qf7 L) (Qac L)∧L.length≤121∧((1≤p∧p≤99∧1≤q∧q≤99)∨ ∃i,i<L.length∧p=Qf8 L i∧q=Qf7 L i)∧Below w.heap.size w w':=by
 have HH:Hid (Cd w A len):=h;clear h;go_enter Tryz.func8,Tryz.ntmps8;go_wp2_with fail
 obtain⟨X,HX⟩: ∃X,Hid (w.alloc (.cells #[.int .i64 0,.int .i64 0] 26)=X):=⟨_,rfl⟩;rw [HX.out];have zX:Hid (w.heap.size<X.heap.size):=by show _<_;rw [←HX.out];simp
 have C0:Hid (C2 X w.heap.size (.int .i64 0) (.int .i64 0)):=by show C2 _ _ _ _;rw [←HX.out];exact C2.new _ _ _ _
 have BX:Hid (Below w.heap.size w X):=by show Below _ _ _;rw [←HX.out];exact(Below.refl _ _).alloc (Nat.le_refl _) _
 clear HX;refine(spec_l1OpenC A len cap _).mono ?_;rintro e w1 ⟨rfl,hw1⟩;have HR1:Hid (Rd w1 X.heap.size A len cap):=by show Rd _ _ _ _ _;rw [←hw1];exact HH.out.open BX.out rfl
 have B1:Hid (Below X.heap.size X w1):=by show Below _ _ _;rw [←hw1];exact(Below.refl _ _).alloc (Nat.le_refl _) _
 have HLT:Hid (X.heap.size<w1.heap.size):=HR1.out.lt;have C1:=hd (C0.out.below B1.out);have BW:Hid (Below w.heap.size w w1):=BX.out.trans (B1.out.mono (Nat.le_of_lt zX.out));clear hw1 C0 BX B1;go_wp2_with fail
 refine(Qq8 H1 H2 X.heap.size A len cap 10 _ HR1.out (by omega) (by omega)).mono ?_;rintro e w2 ⟨L,B,c,rfl,hsh⟩;obtain⟨n,HLn⟩: ∃n,Hid (L.length=n):=⟨_,rfl⟩;rw [HLn.out]at hsh ⊢;have HS2:Hid (ShD w1 w2 X.heap.size A len cap (.slice B n c) L):=hsh;have D2:Hid (C2 w2 w.heap.size (.int .i64 0) (.int .i64 0)):=C1.out.upd hsh.upd (by have:=zX.out;omega);have h121:n≤121:=by have:=hsh.lim;have:=HLn.out;omega
 clear hsh C1
 have fin: ∀(y:World) (p q:Int),ShD w1 y X.heap.size A len cap (.slice B n c) L→ClRow ((y.setCell ⟨w.heap.size,0,none⟩ (.int .i64 p)).setCell ⟨w.heap.size,1,none⟩ (.int .i64 q)) B n (Qf8 L) (Qf7 L) (Qac L)∧Below w.heap.size w ((y.setCell ⟨w.heap.size,0,none⟩ (.int .i64 p)).setCell ⟨w.heap.size,1,none⟩ (.int .i64 q)):=fun y p q hy=>by
  have g0:w.heap.size<w1.heap.size:=by have:=HLT.out;have:=zX.out;omega
  refine⟨?_,?_⟩
  ·have h9:=hy.own;rw [HLn.out]at h9;exact Qbt (ownsRow_setCell_below (ownsRow_setCell_below h9 (by exact g0) _) (by exact g0) _) HLn.out hy.sz
  ·have g1:w.heap.size≤w.heap.size:=Nat.le_refl _;exact((BW.out.trans (hy.upd.2.2.2.1.mono (by have:=zX.out;omega))).setCell (by exact g1) _).setCell (by exact g1) _
 have HFIN:Hid (_):=fin;clear fin;by_cases h0:n=0
 case pos=>
  subst h0;go_wp2_with fail
  refine(GM X.heap.size A len cap _ HS2.out.rd).mono ?_;rintro e w3 ⟨p,q,rfl,a1,a2,a3,a4,hr,hu⟩;have HS3:Hid (ShD w1 w3 X.heap.size A len cap (.slice B 0 c) L):=HS2.out.keep HLT.out hu hr;have D3:Hid (C2 w3 w.heap.size (.int .i64 0) (.int .i64 0)):=D2.out.upd hu (by have:=zX.out;omega);clear hr hu D2 HS2;obtain⟨l0,⟨z0,z1⟩,zf0,zf1⟩:=D3.out;obtain⟨f1,f2⟩:=HFIN.out w3 p q HS3.out
  go_wp2_with fail
  refine bodyPost_ret (v:= .tuple #[.slice B 0 c,.agg #[.int .i64 p,.int .i64 q]]) ?_ rfl ⟨L,B,c,p,q,by rw [HLn.out],by rw [HLn.out];exact f1,by rw [HLn.out];omega,.inl (by omega),f2⟩;simp (maxDischargeDepth:=9) [results,Tryz.results8,go_sem, *]
 have hpos:(0:Int)<(n:Int):=by omega
 have hposn:0<n:=by omega
 go_wp2_with fail
 refine(XA X.heap.size A len cap 4 w2 HS2.out.rd (by omega) (by omega)).mono ?_;rintro e w3 ⟨b,rfl,hr,hu⟩;have HS3:Hid (ShD w1 w3 X.heap.size A len cap (.slice B n c) L):=HS2.out.keep HLT.out hu hr;have D3:Hid (C2 w3 w.heap.size (.int .i64 0) (.int .i64 0)):=D2.out.upd hu (by have:=zX.out;omega);clear hr hu D2 HS2;cases b
 ·have HX9:Hid (X.heap.size<w3.heap.size):=Nat.lt_of_lt_of_le HLT.out HS3.out.upd.2.2.1;go_upto_region 4 with fail
  go_region_with (first
   | (go_at_call 35;refine(QB X.heap.size A len cap (n:Int) _ (HS3.out.rd.below (by go_grown)) (by omega) (by omega)).mono ?_;rintro e y ⟨v,rfl,hv0,hv1,hr,hu⟩;obtain⟨i,rfl⟩: ∃i:Nat,v=(i:Int):=⟨v.toNat,by omega⟩;have hi:i<n:=(by omega);have JY:Hid (ShD w1 y X.heap.size A len cap (.slice B n c) L):=(HS3.out.below HLT.out (by go_grown)).keep HLT.out hu hr;have CY:Hid (C2 y w.heap.size (.int .i64 0) (.int .i64 0)):=(D3.out.below (by go_grown)).upd hu (by have:=zX.out;omega);clear hr hu;have hcl:=Qbt (by have h9:=JY.out.own;rw [HLn.out]at h9;exact h9) HLn.out JY.out.sz;obtain⟨gb,go9,rfl,hgl,k0,k1,k2,_⟩:=hcl.2 i hi;obtain⟨l0,⟨z0,z1⟩,zf0,zf1⟩:=CY.out;clear hcl))
  all_goals
   obtain⟨f1,f2⟩:=HFIN.out y (Qf8 L i) (Qf7 L i) JY.out;go_wp2_with fail
   refine bodyPost_ret (v:= .tuple #[.slice (some ⟨gb,go9,none⟩) n c,.agg #[.int .i64 (Qf8 L i),.int .i64 (Qf7 L i)]]) ?_ rfl ⟨L,_,c,_,_,by rw [HLn.out],by rw [HLn.out];exact f1,by rw [HLn.out];omega,.inr ⟨i,by rw [HLn.out];exact hi,rfl,rfl⟩,f2⟩;simp (maxDischargeDepth:=9) [results,Tryz.results8,go_sem, *]
 ·go_wp2_with fail
  refine(GM X.heap.size A len cap _ HS3.out.rd).mono ?_;rintro e w4 ⟨p,q,rfl,a1,a2,a3,a4,hr,hu⟩;have HS4:Hid (ShD w1 w4 X.heap.size A len cap (.slice B n c) L):=HS3.out.keep HLT.out hu hr;have D4:Hid (C2 w4 w.heap.size (.int .i64 0) (.int .i64 0)):=D3.out.upd hu (by have:=zX.out;omega);clear hr hu D3 HS3;obtain⟨l0,⟨z0,z1⟩,zf0,zf1⟩:=D4.out;obtain⟨f1,f2⟩:=HFIN.out w4 p q HS4.out
  go_wp2_with fail
  refine bodyPost_ret (v:= .tuple #[.slice B n c,.agg #[.int .i64 p,.int .i64 q]]) ?_ rfl ⟨L,B,c,p,q,by rw [HLn.out],by rw [HLn.out];exact f1,by rw [HLn.out];omega,.inl (by omega),f2⟩;simp (maxDischargeDepth:=9) [results,Tryz.results8,go_sem, *]
end Go.Proofs.YtejbnnacghbhoaaGreatDoor
