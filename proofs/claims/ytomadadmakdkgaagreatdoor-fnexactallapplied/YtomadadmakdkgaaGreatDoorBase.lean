import Derived.Test.YtomadadmakdkgaaGreatDoorProg
import Derived.KernelRfl
import Derived.WalkKit
import Derived.ProofKit
import Derived.OpenShut
import Derived.ShutString
import Derived.ChangeOld
import Derived.Below
import Derived.Handy
import Derived.WalkLawsBesides
import Derived.Lib.SmallJoins
open Go.RowKit renaming Below → d
open Nat renaming lt_of_lt_of_le → f, le_trans → g, le_add_right → l
open Go renaming World → i
open Go.Ending renaming returned → j, returned → r
open Go.Value renaming string → s, bool → u
set_option linter.unusedSimpArgs false
set_option linter.unusedVariables false
namespace Go.Proofs.YtomadadmakdkgaaGreatDoor
open Go.RowKit
variable {w W w1 X:i}
theorem Qc{a b:Bool}(h:a=b):j (u a)= r (u b):=by rw[h]
theorem Zn{k:IntKind}{a b:Int}(h:a=b):j (.int k a)= r (.int k b):=by rw[h]
theorem QC{a b:ByteArray}(h:a=b):j (s a)= r (s b):=by rw[h]
theorem Qq7:laidOutB Tryz.prog=true:=by kernel_rfl
theorem ownK:ownKnob Tryz.prog.godebug=none:=by kernel_rfl
theorem Qbj(n:Nat)(h0:d w.heap.size w W)(hW:w.heap.size+n<=W.heap.size)(hb:d W.heap.size W w1):
  (∀b o,b<w.heap.size+n->w1.cell? ⟨b,o,none⟩=W.cell? ⟨b,o,none⟩)/\(∀b o,b<w.heap.size+n->w1.frozen? ⟨b,o,none⟩=W.frozen? ⟨b,o,none⟩)/\
   w.heap.size+n<=w1.heap.size/\d w.heap.size w w1:=
 ⟨fun b o h=>hb.cell (p:=⟨b,o,none⟩) (f h hW),fun b o h=>hb.frozen (p:=⟨b,o,none⟩) (f h hW),g hW hb.size,
  h0.trans (hb.mono (g (l _ _) hW))⟩
theorem bk1(hb:d W.heap.size W w1)(h0:d w.heap.size w W:=by go_grown)(hW:w.heap.size+1<=W.heap.size:=by go_size):
  (∀b o,b<w.heap.size+1->w1.cell? ⟨b,o,none⟩=W.cell? ⟨b,o,none⟩)/\(∀b o,b<w.heap.size+1->w1.frozen? ⟨b,o,none⟩=W.frozen? ⟨b,o,none⟩)/\
   (∀b o,b<W.heap.size->w1.cell? ⟨b,o,none⟩=W.cell? ⟨b,o,none⟩)/\(∀b o,b<W.heap.size->w1.frozen? ⟨b,o,none⟩=W.frozen? ⟨b,o,none⟩)/\
   w.heap.size+1<=w1.heap.size/\d w.heap.size w w1/\w.heap.size<w1.heap.size:=by
 obtain⟨hc,hf,hz,hk⟩:=Qbj 1 h0 hW hb;exact⟨hc,hf,fun b o h=>hb.cell (p:=⟨b,o,none⟩) h,fun b o h=>hb.frozen (p:=⟨b,o,none⟩) h,hz,hk,by omega⟩
theorem bk2(hb:d W.heap.size W w1)(h0:d w.heap.size w W:=by go_grown)(hW:w.heap.size+2<=W.heap.size:=by go_size):
  (∀b o,b<w.heap.size+2->w1.cell? ⟨b,o,none⟩=W.cell? ⟨b,o,none⟩)/\(∀b o,b<w.heap.size+2->w1.frozen? ⟨b,o,none⟩=W.frozen? ⟨b,o,none⟩)/\
   (∀b o,b<W.heap.size->w1.cell? ⟨b,o,none⟩=W.cell? ⟨b,o,none⟩)/\(∀b o,b<W.heap.size->w1.frozen? ⟨b,o,none⟩=W.frozen? ⟨b,o,none⟩)/\
   w.heap.size+2<=w1.heap.size/\d w.heap.size w w1/\w.heap.size<w1.heap.size/\w.heap.size+1<w1.heap.size:=by
 obtain⟨hc,hf,hz,hk⟩:=Qbj 2 h0 hW hb;exact⟨hc,hf,fun b o h=>hb.cell (p:=⟨b,o,none⟩) h,fun b o h=>hb.frozen (p:=⟨b,o,none⟩) h,hz,hk,by omega,by omega⟩
theorem bk3(hb:d W.heap.size W w1)(h0:d w.heap.size w W:=by go_grown)(hW:w.heap.size+3<=W.heap.size:=by go_size):
  (∀b o,b<w.heap.size+3->w1.cell? ⟨b,o,none⟩=W.cell? ⟨b,o,none⟩)/\(∀b o,b<w.heap.size+3->w1.frozen? ⟨b,o,none⟩=W.frozen? ⟨b,o,none⟩)/\
   (∀b o,b<W.heap.size->w1.cell? ⟨b,o,none⟩=W.cell? ⟨b,o,none⟩)/\(∀b o,b<W.heap.size->w1.frozen? ⟨b,o,none⟩=W.frozen? ⟨b,o,none⟩)/\
   w.heap.size+3<=w1.heap.size/\d w.heap.size w w1/\w.heap.size<w1.heap.size/\w.heap.size+1<w1.heap.size/\w.heap.size+1+1<w1.heap.size:=by
 obtain⟨hc,hf,hz,hk⟩:=Qbj 3 h0 hW hb;exact⟨hc,hf,fun b o h=>hb.cell (p:=⟨b,o,none⟩) h,fun b o h=>hb.frozen (p:=⟨b,o,none⟩) h,hz,hk,by omega,by omega,by omega⟩
theorem kp(hb:d W.heap.size W w1):
  (∀b o,b<W.heap.size->w1.cell? ⟨b,o,none⟩=W.cell? ⟨b,o,none⟩)/\(∀b o,b<W.heap.size->w1.frozen? ⟨b,o,none⟩=W.frozen? ⟨b,o,none⟩)/\
   (∀x,x<W.heap.size->x<w1.heap.size)/\(∀x,x<=W.heap.size->x<=w1.heap.size):=
 ⟨fun b o h=>hb.cell (p:=⟨b,o,none⟩) h,fun b o h=>hb.frozen (p:=⟨b,o,none⟩) h,fun _ h=>f h hb.size,fun _ h=>g h hb.size⟩
theorem Qb(h0:d w.heap.size w W)(hb:d W.heap.size W w1):d w.heap.size w w1:=h0.trans (hb.mono h0.size)
def SC(B:Nat)(X w':i):Prop:=(∀b o,b<B->w'.cell? ⟨b,o,none⟩=X.cell? ⟨b,o,none⟩)/\B<=w'.heap.size/\d B X w'
theorem QE{B:Nat}(hs:B<=X.heap.size)(h:d B X W):SC B X W:=⟨fun b o hb=>h.cell (p:=⟨b,o,none⟩) hb,g hs h.size,h⟩
theorem Qk{B:Nat}(h0:d B X W)(hB:B<=W.heap.size)(hb:d W.heap.size W w1):d B X w1/\B<=w1.heap.size:=⟨h0.trans (hb.mono hB),g hB hb.size⟩
theorem Qs0{p:Prop}{x m n:Nat}(h:x<m)(hb:m<=n)(k:x<n->p):p:=k (f h hb)
theorem Yz{n:Nat}{w':i}(h0:d w.heap.size w X)(h:d (w.heap.size+n) X w'):d w.heap.size w w':=h0.trans (h.mono (l _ _))
theorem nG{c:Prop}[h:Decidable c](n:¬c){α:Sort _}{t e:α}:ite c t e=e:=if_neg n
theorem pS{c:Prop}[h:Decidable c](n:c){α:Sort _}{t e:α}:ite c t e=t:=if_pos n
end Go.Proofs.YtomadadmakdkgaaGreatDoor
