import Derived.Test.YtbdhinckiccniaaGreatDoorProg
import Derived.KernelRfl
import Derived.WalkKit
import Derived.ProofKit
import Derived.OpenShut
import Derived.ShutString
import Derived.ChangeOld
import Derived.Below
import Derived.Handy
import Derived.WalkLawsBesides
import Derived.Lib.SmallJoins
set_option linter.unusedSimpArgs false
set_option linter.unusedVariables false
namespace Go.Proofs.YtbdhinckiccniaaGreatDoor
open Go.RowKit
theorem Qb {a b:Bool} (h:a=b):Ending.returned (.bool a)= .returned (.bool b):=by rw [h]
theorem QY {k:IntKind} {a b:Int} (h:a=b):Ending.returned (.int k a)= .returned (.int k b):=by rw [h]
theorem Qr {a b:ByteArray} (h:a=b):Ending.returned (.string a)= .returned (.string b):=by rw [h]
theorem Qp3:laidOutB Tryz.prog=true:=by kernel_rfl
theorem ownK:ownKnob Tryz.prog.godebug=none:=by kernel_rfl
theorem Qad {w W w1:World} (n:Nat) (h0:Below w.heap.size w W) (hW:w.heap.size+n≤W.heap.size) (hb:Below W.heap.size W w1):
  (∀b o,b<w.heap.size+n→w1.cell? ⟨b,o,none⟩=W.cell? ⟨b,o,none⟩)∧(∀b o,b<w.heap.size+n→w1.frozen? ⟨b,o,none⟩=W.frozen? ⟨b,o,none⟩)∧
   w.heap.size+n≤w1.heap.size∧Below w.heap.size w w1:=
 ⟨fun b o h=>hb.cell (p:=⟨b,o,none⟩) (Nat.lt_of_lt_of_le h hW),fun b o h=>hb.frozen (p:=⟨b,o,none⟩) (Nat.lt_of_lt_of_le h hW),Nat.le_trans hW hb.size,
  h0.trans (hb.mono (Nat.le_trans (Nat.le_add_right _ _) hW))⟩
theorem bk1 {w W w1:World} (h0:Below w.heap.size w W) (hW:w.heap.size+1≤W.heap.size) (hb:Below W.heap.size W w1):
  (∀b o,b<w.heap.size+1→w1.cell? ⟨b,o,none⟩=W.cell? ⟨b,o,none⟩)∧(∀b o,b<w.heap.size+1→w1.frozen? ⟨b,o,none⟩=W.frozen? ⟨b,o,none⟩)∧
   (∀b o,b<W.heap.size→w1.cell? ⟨b,o,none⟩=W.cell? ⟨b,o,none⟩)∧(∀b o,b<W.heap.size→w1.frozen? ⟨b,o,none⟩=W.frozen? ⟨b,o,none⟩)∧
   w.heap.size+1≤w1.heap.size∧Below w.heap.size w w1∧w.heap.size<w1.heap.size:=by
 obtain⟨hc,hf,hz,hk⟩:=Qad 1 h0 hW hb;exact⟨hc,hf,fun b o h=>hb.cell (p:=⟨b,o,none⟩) h,fun b o h=>hb.frozen (p:=⟨b,o,none⟩) h,hz,hk,by omega⟩
theorem bk2 {w W w1:World} (h0:Below w.heap.size w W) (hW:w.heap.size+2≤W.heap.size) (hb:Below W.heap.size W w1):
  (∀b o,b<w.heap.size+2→w1.cell? ⟨b,o,none⟩=W.cell? ⟨b,o,none⟩)∧(∀b o,b<w.heap.size+2→w1.frozen? ⟨b,o,none⟩=W.frozen? ⟨b,o,none⟩)∧
   (∀b o,b<W.heap.size→w1.cell? ⟨b,o,none⟩=W.cell? ⟨b,o,none⟩)∧(∀b o,b<W.heap.size→w1.frozen? ⟨b,o,none⟩=W.frozen? ⟨b,o,none⟩)∧
   w.heap.size+2≤w1.heap.size∧Below w.heap.size w w1∧w.heap.size<w1.heap.size∧w.heap.size+1<w1.heap.size:=by
 obtain⟨hc,hf,hz,hk⟩:=Qad 2 h0 hW hb;exact⟨hc,hf,fun b o h=>hb.cell (p:=⟨b,o,none⟩) h,fun b o h=>hb.frozen (p:=⟨b,o,none⟩) h,hz,hk,by omega,by omega⟩
theorem bk3 {w W w1:World} (h0:Below w.heap.size w W) (hW:w.heap.size+3≤W.heap.size) (hb:Below W.heap.size W w1):
  (∀b o,b<w.heap.size+3→w1.cell? ⟨b,o,none⟩=W.cell? ⟨b,o,none⟩)∧(∀b o,b<w.heap.size+3→w1.frozen? ⟨b,o,none⟩=W.frozen? ⟨b,o,none⟩)∧
   (∀b o,b<W.heap.size→w1.cell? ⟨b,o,none⟩=W.cell? ⟨b,o,none⟩)∧(∀b o,b<W.heap.size→w1.frozen? ⟨b,o,none⟩=W.frozen? ⟨b,o,none⟩)∧
   w.heap.size+3≤w1.heap.size∧Below w.heap.size w w1∧w.heap.size<w1.heap.size∧w.heap.size+1<w1.heap.size∧w.heap.size+1+1<w1.heap.size:=by
 obtain⟨hc,hf,hz,hk⟩:=Qad 3 h0 hW hb;exact⟨hc,hf,fun b o h=>hb.cell (p:=⟨b,o,none⟩) h,fun b o h=>hb.frozen (p:=⟨b,o,none⟩) h,hz,hk,by omega,by omega,by omega⟩
theorem bk4 {w W w1:World} (h0:Below w.heap.size w W) (hW:w.heap.size+4≤W.heap.size) (hb:Below W.heap.size W w1):
  (∀b o,b<w.heap.size+4→w1.cell? ⟨b,o,none⟩=W.cell? ⟨b,o,none⟩)∧(∀b o,b<w.heap.size+4→w1.frozen? ⟨b,o,none⟩=W.frozen? ⟨b,o,none⟩)∧
   (∀b o,b<W.heap.size→w1.cell? ⟨b,o,none⟩=W.cell? ⟨b,o,none⟩)∧(∀b o,b<W.heap.size→w1.frozen? ⟨b,o,none⟩=W.frozen? ⟨b,o,none⟩)∧
   w.heap.size+4≤w1.heap.size∧Below w.heap.size w w1∧w.heap.size<w1.heap.size∧w.heap.size+1<w1.heap.size∧w.heap.size+1+1<w1.heap.size∧w.heap.size+1+1+1<w1.heap.size:=by
 obtain⟨hc,hf,hz,hk⟩:=Qad 4 h0 hW hb;exact⟨hc,hf,fun b o h=>hb.cell (p:=⟨b,o,none⟩) h,fun b o h=>hb.frozen (p:=⟨b,o,none⟩) h,hz,hk,by omega,by omega,by omega,by omega⟩
theorem bk5 {w W w1:World} (h0:Below w.heap.size w W) (hW:w.heap.size+5≤W.heap.size) (hb:Below W.heap.size W w1):
  (∀b o,b<w.heap.size+5→w1.cell? ⟨b,o,none⟩=W.cell? ⟨b,o,none⟩)∧(∀b o,b<w.heap.size+5→w1.frozen? ⟨b,o,none⟩=W.frozen? ⟨b,o,none⟩)∧
   (∀b o,b<W.heap.size→w1.cell? ⟨b,o,none⟩=W.cell? ⟨b,o,none⟩)∧(∀b o,b<W.heap.size→w1.frozen? ⟨b,o,none⟩=W.frozen? ⟨b,o,none⟩)∧
   w.heap.size+5≤w1.heap.size∧Below w.heap.size w w1∧w.heap.size<w1.heap.size∧w.heap.size+1<w1.heap.size∧w.heap.size+1+1<w1.heap.size∧w.heap.size+1+1+1<w1.heap.size∧w.heap.size+1+1+1+1<w1.heap.size:=by
 obtain⟨hc,hf,hz,hk⟩:=Qad 5 h0 hW hb;exact⟨hc,hf,fun b o h=>hb.cell (p:=⟨b,o,none⟩) h,fun b o h=>hb.frozen (p:=⟨b,o,none⟩) h,hz,hk,by omega,by omega,by omega,by omega,by omega⟩
theorem bk6 {w W w1:World} (h0:Below w.heap.size w W) (hW:w.heap.size+6≤W.heap.size) (hb:Below W.heap.size W w1):
  (∀b o,b<w.heap.size+6→w1.cell? ⟨b,o,none⟩=W.cell? ⟨b,o,none⟩)∧(∀b o,b<w.heap.size+6→w1.frozen? ⟨b,o,none⟩=W.frozen? ⟨b,o,none⟩)∧
   (∀b o,b<W.heap.size→w1.cell? ⟨b,o,none⟩=W.cell? ⟨b,o,none⟩)∧(∀b o,b<W.heap.size→w1.frozen? ⟨b,o,none⟩=W.frozen? ⟨b,o,none⟩)∧
   w.heap.size+6≤w1.heap.size∧Below w.heap.size w w1∧w.heap.size<w1.heap.size∧w.heap.size+1<w1.heap.size∧w.heap.size+1+1<w1.heap.size∧w.heap.size+1+1+1<w1.heap.size∧w.heap.size+1+1+1+1<w1.heap.size∧w.heap.size+1+1+1+1+1<w1.heap.size:=by
 obtain⟨hc,hf,hz,hk⟩:=Qad 6 h0 hW hb;exact⟨hc,hf,fun b o h=>hb.cell (p:=⟨b,o,none⟩) h,fun b o h=>hb.frozen (p:=⟨b,o,none⟩) h,hz,hk,by omega,by omega,by omega,by omega,by omega,by omega⟩
theorem kp {W w1:World} (hb:Below W.heap.size W w1):
  (∀b o,b<W.heap.size→w1.cell? ⟨b,o,none⟩=W.cell? ⟨b,o,none⟩)∧(∀b o,b<W.heap.size→w1.frozen? ⟨b,o,none⟩=W.frozen? ⟨b,o,none⟩)∧
   (∀x,x<W.heap.size→x<w1.heap.size)∧(∀x,x≤W.heap.size→x≤w1.heap.size):=
 ⟨fun b o h=>hb.cell (p:=⟨b,o,none⟩) h,fun b o h=>hb.frozen (p:=⟨b,o,none⟩) h,fun _ h=>Nat.lt_of_lt_of_le h hb.size,fun _ h=>Nat.le_trans h hb.size⟩
theorem Qc {w W w1:World} (h0:Below w.heap.size w W) (hb:Below W.heap.size W w1):Below w.heap.size w w1:=h0.trans (hb.mono h0.size)
def SC (B:Nat) (X w':World):Prop:=(∀b o,b<B→w'.cell? ⟨b,o,none⟩=X.cell? ⟨b,o,none⟩)∧B≤w'.heap.size∧Below B X w'
theorem SC.size {B:Nat} {X W:World} (h:SC B X W):B≤W.heap.size:=h.2.1
theorem SC.below {B:Nat} {X W:World} (h:SC B X W):Below B X W:=h.2.2
theorem Qp {B:Nat} {X W:World} (hs:B≤X.heap.size) (h:Below B X W):SC B X W:=⟨fun b o hb=>h.cell (p:=⟨b,o,none⟩) hb,Nat.le_trans hs h.size,h⟩
theorem Qvn {B:Nat} {X:World} (hs:B≤X.heap.size):SC B X X.drew:=⟨fun _ _ _=>rfl,hs,(Below.refl _ _).drew⟩
theorem Qoi {B:Nat} {X W w1:World} (hb:Below W.heap.size W w1) (h:SC B X W):SC B X w1:=
 ⟨fun b o hl=>(hb.cell (p:=⟨b,o,none⟩) (Nat.lt_of_lt_of_le hl h.2.1)).trans (h.1 b o hl),Nat.le_trans h.2.1 hb.size,h.2.2.trans (hb.mono h.2.1)⟩
theorem Qt7 {B:Nat} {X W:World} {o:Obj} (h:SC B X W):SC B X (W.alloc o):=
 Qoi ((Below.refl _ _).alloc (Nat.le_refl _) o) h
theorem sc_set {B:Nat} {X W:World} {p:Addr} {v:Value} (hp:B≤p.block) (h:SC B X W):SC B X (W.setCell p v):=by
 have hb:Below B X (W.setCell p v):=h.2.2.setCell hp v;exact⟨fun b o hl=>(World.cell?_setCell_other W p ⟨b,o,none⟩ v (fun e=>by have e':=congrArg Addr.block e;simp only at e';omega)).trans (h.1 b o hl),by simpa using h.2.1,hb⟩
theorem Qg {B:Nat} {X W w1:World} (h0:Below B X W) (hB:B≤W.heap.size) (hb:Below W.heap.size W w1):Below B X w1∧B≤w1.heap.size:=⟨h0.trans (hb.mono hB),Nat.le_trans hB hb.size⟩
theorem cutLt {p:Prop} {x m n:Nat} (h:x<m) (hb:m≤n) (k:x<n→p):p:=k (Nat.lt_of_lt_of_le h hb)
theorem ZT {n:Nat} {w X w':World} (h0:Below w.heap.size w X) (h:Below (w.heap.size+n) X w'):Below w.heap.size w w':=h0.trans (h.mono (Nat.le_add_right _ _))
end Go.Proofs.YtbdhinckiccniaaGreatDoor
