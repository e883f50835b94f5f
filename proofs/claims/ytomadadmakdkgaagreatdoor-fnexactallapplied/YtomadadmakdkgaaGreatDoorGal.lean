import Derived.Test.YtomadadmakdkgaaGreatDoorGaj
import Derived.Test.YtomadadmakdkgaaGreatDoorGak
import Derived.Deep.AppendLies
import Derived.Deep.RegionHeld3
import Derived.Test.YtomadadmakdkgaaGreatDoorMn
open Go.Proofs.Tryz
open Go.Value renaming int → a, bool → d, slice → f, string → l, agg → O
open Go.IntKind renaming i64 → c
open Go.Obj renaming cells → y
open List renaming getElem?_append_right → z, getD_eq_getElem?_getD → C, getElem?_append_left → D
open Bool renaming not_false → E, or_true → H, and_false → L, false_and → M
open Go.RowKit renaming ownsRow_setCell_below → I
open Go.RowKit.Below renaming refl → J
open Or renaming inl → K
open Go.Ending renaming returned → N
set_option linter.unusedSimpArgs false
set_option linter.unusedVariables false
set_option maxHeartbeats 8000000
set_option maxRecDepth 100000
namespace Go.Proofs.YtomadadmakdkgaaGreatDoor
open Go.RowKit
variable {W W':World} {B B' n k r:Nat} {s:ByteArray} {v v':Value} {ys:List Value} {x:FN} {Z:Nat->Prop} {out:List FN}
theorem YX{e e':TypeId}{s s' n':Nat}{xs xs':List Value}(h:W.ownsRow B e s v n xs)(h':W.ownsRow B' e' s' v' n' xs')(hne:e≠e'):v.ownBlock=none\/v.ownBlock≠v'.ownBlock:=by
 rcases h.2 with⟨rfl,_⟩ | ⟨g,cap,cur,rfl,_,hg,_⟩
 ·exact K rfl
 ·right
  rcases h'.2 with⟨rfl,_⟩ | ⟨g',cap',cur',rfl,_,hg',_⟩
  ·intro e;cases e
  ·intro e9;cases e9
   rw[hg]at hg';cases hg'
   exact hne rfl
theorem Bq{W3:World}{G:Nat->FN}{KB:Option Addr}{kb:Nat}(hx:G k=x)(hW:W.ownsRow B 177 14 v k ys)(hp:FnPart W B ys G k)
  (hk:W.ownsRow B 2 1 (f KB x.kids.length kb) x.kids.length (x.kids.map (Value.int .i64))) (hg:W.grownBy W3 v.ownBlock):FnPart W3 B (ys++Qx x KB kb) G (k+1):=by
 subst hx;have hl:=hW.1;intro i hi;by_cases e:i=k
 ·subst e;exact⟨KB,kb,fun j hj=>by rw[z (by omega),show i*14+j-ys.length=j by omega],hk.kept hg (YX hk hW (by decide))⟩
 ·obtain⟨KA,kc,h1,h2⟩:=hp i (by omega);exact⟨KA,kc,fun j hj=>by rw[D (by omega)];exact h1 j hj,h2.kept hg (YX h2 hW (by decide))⟩
theorem YF{F:Nat->FN}(h:W.ownsRow B 177 14 v n ys)(hp:FnPart W B' ys F n)(hs: ∀i,i<n->(F i).cs.size<=maxLen): ∃A cap,v= f A n cap/\FnRow W A n F:=by
 rcases h.2 with⟨rfl,rfl⟩ | ⟨g,cap,cur,rfl,_⟩
 ·exact⟨none,0,rfl,Nat.zero_le _,fun i hi=>by omega⟩
 ·exact⟨_,cap,rfl,Qjf h hp hs⟩
def ndR(x:FN)(KA:Option Addr)(kc:Nat):Value:= O #[a c x.k,a c x.o,a c x.ck,a c x.cn,l x.cs,a c x.ac,a c x.ar,d x.af,d x.ag,a c x.bc,a c x.br,d x.bf,d x.bg,f KA x.kids.length kc]
def dFN:FN:=⟨0,0,0,0,⟨#[]⟩,0,0,false,false,0,0,false,false,[]⟩
def ouF(out:List FN)(i:Nat):FN:=out.getD i dFN
def kbR(ys:List Value)(i:Nat):Option Nat:=(ys[i*14+13]?).bind Value.ownBlock
structure RdS (Z:Nat->Prop) (W:World) (r:Nat) (s:ByteArray) (k:Nat) (bad:Bool) (v:Value) (B:Nat) (out:List FN):Prop where
 rs:Rs W r s k bad v
 rb:r<B
 bw:B<=W.heap.size
 zl: ∀b,Z b->b<W.heap.size
 own: ∃ys,W.ownsRow B 177 14 v out.length ys/\FnPart W B ys (ouF out) out.length/\ ∀i,i<out.length-> ∀b,kbR ys i=some b-> ¬Z b
def Fr(r:Nat)(v:Value)(W W':World):Prop:=W'.os=W.os/\W'.tape=W.tape/\W'.output=W.output/\W.heap.size<=W'.heap.size/\ ∀q,q<W.heap.size->q≠r->v.ownBlock≠some q->W'.heap[q]? =W.heap[q]?
def NB(W:World)(v v':Value):Prop:= ∀q,v'.ownBlock=some q->v.ownBlock=some q\/W.heap.size<=q
theorem Fr.refl(r:Nat)(v:Value)(W:World):Fr r v W W:=⟨rfl,rfl,rfl,Nat.le_refl _,fun _ _ _ _=>rfl⟩
theorem NB.refl(W:World)(v:Value):NB W v v:=fun q h=>K h
theorem NB.trans{v'':Value}(h:NB W v v')(hs:W.heap.size<=W'.heap.size)(h':NB W' v' v''):NB W v v'':=fun q hq=>by
 rcases h' q hq with e | e
 ·exact h q e
 ·exact Or.inr (Nat.le_trans hs e)
theorem Fr.trans{W'':World}(h:Fr r v W W')(hn:NB W v v')(h':Fr r v' W' W''):Fr r v W W'':=by
 obtain⟨a1,a2,a3,a4,a5⟩:=h;obtain⟨b1,b2,b3,b4,b5⟩:=h';refine⟨b1.trans a1,b2.trans a2,b3.trans a3,Nat.le_trans a4 b4,fun q hq hr hv=> ?_⟩
 rw[b5 q (Nat.lt_of_lt_of_le hq a4) hr (fun e=>by
  rcases hn q e with h1 | h1
  ·exact hv h1
  ·omega)]
 exact a5 q hq hr hv
theorem Fr.gb(h:W.grownBy W' (some r)):Fr r v W W':=⟨h.os,h.tape,h.output,h.size,fun q hq hr _=>h.block q hq (fun e=>hr (by cases e;rfl))⟩
theorem Fr.bel(h:Below W.heap.size W W'):Fr r v W W':=⟨h.os,h.tape,h.output,h.size,fun q hq _ _=>h.block q hq⟩
theorem RdS.gb{k':Nat}{bad bad':Bool}(h:RdS Z W r s k bad v B out)(hr:Rs W' r s k' bad' v)(hg:W.grownBy W' (some r)):RdS Z W' r s k' bad' v B out:=by
 obtain⟨ys,ho,hp,h0⟩:=h.own;have hb:=h.rb;refine⟨hr,h.rb,Nat.le_trans h.bw hg.size,fun b hz=>Nat.lt_of_lt_of_le (h.zl b hz) hg.size,ys,ho.kept hg ?_,fun i hi=> ?_,h0⟩
 ·cases hv:v.ownBlock with
  | none=>exact K rfl
  | some q=>right;intro e;cases e;have:=(ho.lt _ hv).1;omega
 ·obtain⟨KA,kc,h1,h2⟩:=hp i hi;refine⟨KA,kc,h1,h2.kept hg ?_⟩;cases hv:(Value.slice KA (ouF out i).kids.length kc).ownBlock with
  | none=>exact K rfl
  | some q=>right;intro e;cases e;have:=(h2.lt _ hv).1;omega
theorem RdS.bel{bad:Bool}(h:RdS Z W r s k bad v B out)(hb:Below W.heap.size W W'):RdS Z W' r s k bad v B out:=by
 obtain⟨ys,ho,hp,h0⟩:=h.own;exact⟨h.rs.below hb,h.rb,Nat.le_trans h.bw hb.size,fun b hz=>Nat.lt_of_lt_of_le (h.zl b hz) hb.size,ys,Qd ho hb,hp.below hb,h0⟩
theorem Dw{m:Nat}{u:Value}{xs zs:List Value}(h:W.ownsRow B' 2 1 u m zs)(hr:r<B')(hv:W.ownsRow B 177 14 v n xs)(hf:Fr r v W W'):W'.ownsRow B' 2 1 u m zs:=by
 rcases h.2 with⟨rfl,rfl⟩ | ⟨g,cap,cur,rfl,hB,hg,h1,h2,h3⟩
 ·exact⟨h.1,K ⟨rfl,rfl⟩⟩
 ·have hl:g<W.heap.size:=(Array.getElem?_eq_some_iff.1 hg).1
  have h0:v.ownBlock≠some g:=by
   intro e;rcases YX h hv (by decide)with h9 | h9
   ·cases h9
   ·exact h9 e.symm
  exact⟨h.1,Or.inr ⟨g,cap,cur,rfl,hB,by rw[hf.2.2.2.2 g hl (by omega) h0];exact hg,h1,h2,h3⟩⟩
theorem Qgl{i:Nat}(h:i<out.length):ouF (out++ [x]) i=ouF out i:=by
 unfold ouF;rw[C,C,D h]
theorem Qgk:ouF (out++ [x]) out.length=x:=by
 unfold ouF;rw[C,z (Nat.le_refl _)];simp
theorem RdS.grow{W1 w3:World}{bad:Bool}{KB:Option Addr}{kb gg gcap:Nat}(h:RdS Z W r s k bad v B out)(hy:W.ownsRow B 177 14 v out.length ys)(hp:FnPart W B ys (ouF out) out.length)(hav: ∀i,i<out.length-> ∀b,kbR ys i=some b-> ¬Z b)(hkz: ∀b,(Value.slice KB x.kids.length kb).ownBlock=some b-> ¬Z b)
  (hb1:Below W.heap.size W W1) (hk:W.ownsRow B 2 1 (f KB x.kids.length kb) x.kids.length (x.kids.map (Value.int .i64))) (hg:W1.grownBy w3 v.ownBlock)
  (ho:w3.ownsRow B 177 14 (f (some ⟨gg,0,none⟩) (out.length+1) gcap) (out.length+1) (ys++Qx x KB kb)):
  RdS Z (w3.setCell ⟨r,3,none⟩ (f (some ⟨gg,0,none⟩) (out.length+1) gcap)) r s k bad (f (some ⟨gg,0,none⟩) (out.length+1) gcap) B (out++ [x]):=by
 have h7:=h.rb;have h8:=h.rs.lt;have H0:v.ownBlock≠some r:=fun e=>by have:=(hy.lt r e).1;omega
 have h6:w3.heap[r]? =W.heap[r]?:=(hg.block r (Nat.lt_of_lt_of_le h8 hb1.size) (fun e=>H0 e.symm)).trans (hb1.block r h8);have h4: ∀o,w3.cell? ⟨r,o,none⟩=W.cell? ⟨r,o,none⟩:=fun o=>by unfold World.cell?;simp only[h6]
 have h5: ∀o,w3.frozen? ⟨r,o,none⟩=W.frozen? ⟨r,o,none⟩:=fun o=>by unfold World.frozen?;simp only[h6]
 obtain⟨h0,⟨c0,c1,c2,c3⟩,f1,f2,f3⟩:=h.rs;refine⟨⟨h0,⟨?_,?_,?_,?_⟩,?_,?_,?_⟩,h7,?_,fun b hz=> ?_,?_⟩
 ·exact(World.cell?_setCell_other _ ⟨r,3,none⟩ ⟨r,0,none⟩ _ (fun e=>by cases e)).trans ((h4 0).trans c0)
 ·exact(World.cell?_setCell_other _ ⟨r,3,none⟩ ⟨r,1,none⟩ _ (fun e=>by cases e)).trans ((h4 1).trans c1)
 ·exact(World.cell?_setCell_other _ ⟨r,3,none⟩ ⟨r,2,none⟩ _ (fun e=>by cases e)).trans ((h4 2).trans c2)
 ·exact World.cell?_setCell_same _ _ _ ((h4 3).trans c3)
 ·exact(World.frozen?_setCell _ _ _ _).trans ((h5 1).trans f1)
 ·exact(World.frozen?_setCell _ _ _ _).trans ((h5 2).trans f2)
 ·exact(World.frozen?_setCell _ _ _ _).trans ((h5 3).trans f3)
 ·have h1:=h.bw;have h2:=hb1.size;have h3:=hg.size;simp;omega
 ·have h1:=h.zl b hz;have h2:=hb1.size;have h3:=hg.size;simp;omega
 ·rw[List.length_append];refine⟨ys++Qx x KB kb,I ho h7 _,fun i hi=> ?_,fun i hi b hb=> ?_⟩;rotate_left
  ·have hl:=hy.1;simp only[List.length_cons,List.length_nil]at hi;unfold kbR at hb;by_cases e:i<out.length
   ·rw[D (by omega)]at hb;exact hav i e b hb
   ·obtain rfl:i=out.length:=by omega
    rw[z (by omega),show out.length*14+13-ys.length=13 by omega]at hb;exact hkz b hb
  have h9:FnPart W1 B ys (ouF (out++ [x])) out.length:=fun i hi=>by
   obtain⟨KA,kc,h1,h2⟩:=hp i hi;rw[Qgl hi];exact⟨KA,kc,h1,Qd h2 hb1⟩
  obtain⟨KA,kc,h1,h2⟩:=Bq (G:=ouF (out++ [x])) Qgk (Qd hy hb1) h9 (Qd hk hb1) hg i hi;exact⟨KA,kc,h1,I h2 h7 _⟩
theorem RdS.bad{b:Bool}(h:RdS Z W r s k b v B out):RdS Z (W.setCell ⟨r,2,none⟩ (d true)) r s k true v B out:=by
 obtain⟨h0,⟨c0,c1,c2,c3⟩,f1,f2,f3⟩:=h.rs;refine h.gb ⟨h0,⟨?_,?_,?_,?_⟩,?_,?_,?_⟩ (Ze _ _ _ _)
 ·exact(World.cell?_setCell_other _ ⟨r,2,none⟩ ⟨r,0,none⟩ _ (fun e=>by cases e)).trans c0
 ·exact(World.cell?_setCell_other _ ⟨r,2,none⟩ ⟨r,1,none⟩ _ (fun e=>by cases e)).trans c1
 ·exact World.cell?_setCell_same _ _ _ c2
 ·exact(World.cell?_setCell_other _ ⟨r,2,none⟩ ⟨r,3,none⟩ _ (fun e=>by cases e)).trans c3
 ·exact(World.frozen?_setCell _ _ _ _).trans f1
 ·exact(World.frozen?_setCell _ _ _ _).trans f2
 ·exact(World.frozen?_setCell _ _ _ _).trans f3
theorem VH(x:FN)(KB:Option Addr)(kb r:Nat)(s:ByteArray)(k:Nat)(bad:Bool)(v:Value)(B:Nat)(out:List FN)(W:World)(h:RdS Z W r s k bad v B out)
  (hkk:W.ownsRow B 2 1 (f KB x.kids.length kb) x.kids.length (x.kids.map (Value.int .i64))) (hkz: ∀b,(Value.slice KB x.kids.length kb).ownBlock=some b-> ¬Z b) (hcs:x.cs.size<=maxLen) (hl:out.length<=30000):
  Calls prog 166 #[.pointer (some ⟨r,0,none⟩),ndR x KB kb] W fun e w'=>
   ∃v',e= N (a c out.length)/\RdS Z w' r s k (bad || !(decide (out.length+1<=60)&&Qp x)) v' B (out++ [x])/\NB W v v'/\Fr r v W w':=by
 have HS:Hid (RdS Z W r s k bad v B out):=h;have HK:Hid (W.ownsRow B 2 1 (f KB x.kids.length kb) x.kids.length (x.kids.map (Value.int .i64))):=hkk;have H3:Hid (x.cs.size<=maxLen):=hcs;have g8:r<W.heap.size:=h.rs.lt;obtain⟨ys,ho,hp,g9⟩:=h.own;have HY:Hid (W.ownsRow B 177 14 v out.length ys/\FnPart W B ys (ouF out) out.length/\ ∀i,i<out.length-> ∀b,kbR ys i=some b-> ¬Z b):=⟨ho,hp,g9⟩;have G7:Hid (∀b,(Value.slice KB x.kids.length kb).ownBlock=some b-> ¬Z b):=hkz
 obtain⟨_,⟨c0,c1,c2,c3⟩,f1,f2,f3⟩:=h.rs;have hrb:=h.rb;have X5:Hid (B<=W.heap.size):=h.bw;clear h hkk hcs ho hp g9 hkz;obtain⟨i0,hi,g6,g5,g4⟩:=info_parts MQ;have h7:Hid (Below W.heap.size W ((W.alloc (y #[a c x.k,a c x.o,a c x.ck,a c x.cn,l x.cs,a c x.ac,a c x.ar,d x.af,d x.ag,a c x.bc,a c x.br,d x.bf,d x.bg,f KB x.kids.length kb] 177)).drew.alloc (y #[a c x.k,a c x.o,a c x.ck,a c x.cn,l x.cs,a c x.ac,a c x.ar,d x.af,d x.ag,a c x.bc,a c x.br,d x.bf,d x.bg,f KB x.kids.length kb] 177))):=by show Below _ _ _;go_grown
 have G2:=hd (Qd HY.out.1 h7.out);have G9:Hid (B<=((W.alloc (y #[a c x.k,a c x.o,a c x.ck,a c x.cn,l x.cs,a c x.ac,a c x.ar,d x.af,d x.ag,a c x.bc,a c x.br,d x.bf,d x.bg,f KB x.kids.length kb] 177)).drew.alloc (y #[a c x.k,a c x.o,a c x.ck,a c x.cn,l x.cs,a c x.ac,a c x.ar,d x.af,d x.ag,a c x.bc,a c x.br,d x.bf,d x.bg,f KB x.kids.length kb] 177)).heap.size):=Nat.le_trans X5.out h7.out.size;have g7:(W.alloc (y #[a c x.k,a c x.o,a c x.ck,a c x.cn,l x.cs,a c x.ac,a c x.ar,d x.af,d x.ag,a c x.bc,a c x.br,d x.bf,d x.bg,f KB x.kids.length kb] 177)).drew.heap.size=W.heap.size+1:=by simp
 have G3:Hid (∀(j:Nat) u,(Qx x KB kb)[j]? =some u->((W.alloc (y #[a c x.k,a c x.o,a c x.ck,a c x.cn,l x.cs,a c x.ac,a c x.ar,d x.af,d x.ag,a c x.bc,a c x.br,d x.bf,d x.bg,f KB x.kids.length kb] 177)).drew.alloc (y #[a c x.k,a c x.o,a c x.ck,a c x.cn,l x.cs,a c x.ac,a c x.ar,d x.af,d x.ag,a c x.bc,a c x.br,d x.bf,d x.bg,f KB x.kids.length kb] 177)).cell? (Addr.add ⟨W.heap.size+1,0,none⟩ j)=some u):=by
  have h9:=World.news_of_block (cs:= #[a c x.k,a c x.o,a c x.ck,a c x.cn,l x.cs,a c x.ac,a c x.ar,d x.af,d x.ag,a c x.bc,a c x.br,d x.bf,d x.bg,f KB x.kids.length kb]) (t:=177) (fr:=(0,0)) (heap_alloc_new (W.alloc (y #[a c x.k,a c x.o,a c x.ck,a c x.cn,l x.cs,a c x.ac,a c x.ar,d x.af,d x.ag,a c x.bc,a c x.br,d x.bf,d x.bg,f KB x.kids.length kb] 177)).drew _);rw[g7]at h9;exact h9
 clear g7
 have G1:Hid (∀u∈Qx x KB kb,u.oneCell'=true):=by
  show∀u∈Qx x KB kb,u.oneCell'=true;intro u hu;simp only[Qx,List.mem_cons,List.not_mem_nil,or_false]at hu;rcases hu with rfl | rfl | rfl | rfl | rfl | rfl | rfl | rfl | rfl | rfl | rfl | rfl | rfl | rfl<;>rfl
 have G4:Hid (v.ownBlock≠some r/\v.ownBlock≠some W.heap.size):=⟨fun e=>by have:=(HY.out.1.lt r e).1;omega,fun e=>by have:=(HY.out.1.lt _ e).2;omega⟩
 have x0:Hid (∀w3,((W.alloc (y #[a c x.k,a c x.o,a c x.ck,a c x.cn,l x.cs,a c x.ac,a c x.ar,d x.af,d x.ag,a c x.bc,a c x.br,d x.bf,d x.bg,f KB x.kids.length kb] 177)).drew.alloc (y #[a c x.k,a c x.o,a c x.ck,a c x.cn,l x.cs,a c x.ac,a c x.ar,d x.af,d x.ag,a c x.bc,a c x.br,d x.bf,d x.bg,f KB x.kids.length kb] 177)).grownBy w3 v.ownBlock-> ∀o,w3.cell? ⟨W.heap.size,o,none⟩=(W.alloc (y #[a c x.k,a c x.o,a c x.ck,a c x.cn,l x.cs,a c x.ac,a c x.ar,d x.af,d x.ag,a c x.bc,a c x.br,d x.bf,d x.bg,f KB x.kids.length kb] 177)).cell? ⟨W.heap.size,o,none⟩):=fun w3 hg o=>by
  have hb:=hg.block W.heap.size (by simp;omega) (fun e=>G4.out.2 e.symm);have e1:w3.cell? ⟨W.heap.size,o,none⟩=((W.alloc (y #[a c x.k,a c x.o,a c x.ck,a c x.cn,l x.cs,a c x.ac,a c x.ar,d x.af,d x.ag,a c x.bc,a c x.br,d x.bf,d x.bg,f KB x.kids.length kb] 177)).drew.alloc (y #[a c x.k,a c x.o,a c x.ck,a c x.cn,l x.cs,a c x.ac,a c x.ar,d x.af,d x.ag,a c x.bc,a c x.br,d x.bf,d x.bg,f KB x.kids.length kb] 177)).cell? ⟨W.heap.size,o,none⟩:=by unfold World.cell?;simp only[hb]
  rw[e1];exact(((J _ _).alloc (Nat.le_refl _) _).cell (p:=⟨W.heap.size,o,none⟩) (by simp))
 have x1:Hid (∀w3,((W.alloc (y #[a c x.k,a c x.o,a c x.ck,a c x.cn,l x.cs,a c x.ac,a c x.ar,d x.af,d x.ag,a c x.bc,a c x.br,d x.bf,d x.bg,f KB x.kids.length kb] 177)).drew.alloc (y #[a c x.k,a c x.o,a c x.ck,a c x.cn,l x.cs,a c x.ac,a c x.ar,d x.af,d x.ag,a c x.bc,a c x.br,d x.bf,d x.bg,f KB x.kids.length kb] 177)).grownBy w3 v.ownBlock->w3.heap[r]? =W.heap[r]?):=fun w3 hg=>(hg.block r (Nat.lt_of_lt_of_le g8 h7.out.size) (fun e=>G4.out.1 e.symm)).trans (h7.out.block r g8)
 have G0:Hid (∀w3,((W.alloc (y #[a c x.k,a c x.o,a c x.ck,a c x.cn,l x.cs,a c x.ac,a c x.ar,d x.af,d x.ag,a c x.bc,a c x.br,d x.bf,d x.bg,f KB x.kids.length kb] 177)).drew.alloc (y #[a c x.k,a c x.o,a c x.ck,a c x.cn,l x.cs,a c x.ac,a c x.ar,d x.af,d x.ag,a c x.bc,a c x.br,d x.bf,d x.bg,f KB x.kids.length kb] 177)).grownBy w3 v.ownBlock->w3.cell? ⟨r,3,none⟩=some v):=fun w3 hg=>by
  have hb:=x1.out w3 hg;have e1:w3.cell? ⟨r,3,none⟩=W.cell? ⟨r,3,none⟩:=by unfold World.cell?;simp only[hb]
  exact e1.trans c3
 have G8:Hid (∀w3,((W.alloc (y #[a c x.k,a c x.o,a c x.ck,a c x.cn,l x.cs,a c x.ac,a c x.ar,d x.af,d x.ag,a c x.bc,a c x.br,d x.bf,d x.bg,f KB x.kids.length kb] 177)).drew.alloc (y #[a c x.k,a c x.o,a c x.ck,a c x.cn,l x.cs,a c x.ac,a c x.ar,d x.af,d x.ag,a c x.bc,a c x.br,d x.bf,d x.bg,f KB x.kids.length kb] 177)).grownBy w3 v.ownBlock->w3.frozen? ⟨r,3,none⟩=false):=fun w3 hg=>by
  have hb:=x1.out w3 hg;have e1:w3.frozen? ⟨r,3,none⟩=W.frozen? ⟨r,3,none⟩:=by unfold World.frozen?;simp only[hb]
  exact e1.trans f3
 have G6:Hid (∀(w3:World) (u:Value),((W.alloc (y #[a c x.k,a c x.o,a c x.ck,a c x.cn,l x.cs,a c x.ac,a c x.ar,d x.af,d x.ag,a c x.bc,a c x.br,d x.bf,d x.bg,f KB x.kids.length kb] 177)).drew.alloc (y #[a c x.k,a c x.o,a c x.ck,a c x.cn,l x.cs,a c x.ac,a c x.ar,d x.af,d x.ag,a c x.bc,a c x.br,d x.bf,d x.bg,f KB x.kids.length kb] 177)).grownBy w3 v.ownBlock->Fr r v W (w3.setCell ⟨r,3,none⟩ u)):=fun w3 u hg=>by
  have f1:Fr r v W ((W.alloc (y #[a c x.k,a c x.o,a c x.ck,a c x.cn,l x.cs,a c x.ac,a c x.ar,d x.af,d x.ag,a c x.bc,a c x.br,d x.bf,d x.bg,f KB x.kids.length kb] 177)).drew.alloc (y #[a c x.k,a c x.o,a c x.ck,a c x.cn,l x.cs,a c x.ac,a c x.ar,d x.af,d x.ag,a c x.bc,a c x.br,d x.bf,d x.bg,f KB x.kids.length kb] 177)):=Fr.bel h7.out;have f2:Fr r v ((W.alloc (y #[a c x.k,a c x.o,a c x.ck,a c x.cn,l x.cs,a c x.ac,a c x.ar,d x.af,d x.ag,a c x.bc,a c x.br,d x.bf,d x.bg,f KB x.kids.length kb] 177)).drew.alloc (y #[a c x.k,a c x.o,a c x.ck,a c x.cn,l x.cs,a c x.ac,a c x.ar,d x.af,d x.ag,a c x.bc,a c x.br,d x.bf,d x.bg,f KB x.kids.length kb] 177)) w3:=⟨hg.os,hg.tape,hg.output,hg.size,fun q hq _ hv=>hg.block q hq (fun e=>hv e.symm)⟩;exact(f1.trans (NB.refl _ _) f2).trans (NB.refl _ _) (Fr.gb (Ze _ _ _ _))
 have G5:Hid (∀gg gcap,v.ownBlock=some gg\/gg=W.heap.size+2->NB W v (f (some ⟨gg,0,none⟩) (out.length+1) gcap)):=fun gg gcap ha q hq=>by
  have x3:some gg=some q:=hq;cases x3
  rcases ha with e | e
  ·exact K e
  ·exact Or.inr (by omega)
 unfold ndR;go_enter func166,ntmps166;go_wp2_with fail
 refine wp_region_held_drew (S:=(fun w'=> ∀o,w'.cell? ⟨W.heap.size,o,none⟩=(W.alloc (y #[a c x.k,a c x.o,a c x.ck,a c x.cn,l x.cs,a c x.ac,a c x.ar,d x.af,d x.ag,a c x.bc,a c x.br,d x.bf,d x.bg,f KB x.kids.length kb] 177)).cell? ⟨W.heap.size,o,none⟩)) (by kernel_rfl) (fun _=>rfl) (fun hHeld=> ?_);refine tkA 0 ?_;refine tkB 1 ?_;refine tkA 2 ?_;refine tkB 3 ?_;refine tkB 5 ?_;refine rqB 4 6 (fun Kq hKq=> ?_) (fun Kq hKq=> ?_)
 ·go_simp;refine hkB hKq (fun _=>rfl) fun hHeld=> ?_;clear hKq Kq;refine rqA 6 (fun Kq hKq=> ?_);go_simp;refine hkB hKq (fun o=>(((J _ _).alloc (Nat.le_refl _) _).cell (p:=⟨W.heap.size,o,none⟩) (by simp))) fun hHeld=> ?_;clear hKq Kq
  refine rqA 7 (fun Kq hKq=> ?_);refine step_append_lies _ (by rfl) _ _ _ (by rfl) B 177 i0 _ 14 120 underlying129 hi g6 g5 g4 rfl (by omega) v out.length ys (by rfl) G2.out ⟨W.heap.size+1,0,none⟩ 1 1 (Qx x KB kb) (by rfl) (by rfl) G3.out G1.out (by omega) (by unfold maxLen;omega) (by omega) G9.out (W.heap.size+2) (by simp) ?_;intro gg gcap w3 hown3 hgrow hat hlt3;have H1:Hid (((W.alloc (y #[a c x.k,a c x.o,a c x.ck,a c x.cn,l x.cs,a c x.ac,a c x.ar,d x.af,d x.ag,a c x.bc,a c x.br,d x.bf,d x.bg,f KB x.kids.length kb] 177)).drew.alloc (y #[a c x.k,a c x.o,a c x.ck,a c x.cn,l x.cs,a c x.ac,a c x.ar,d x.af,d x.ag,a c x.bc,a c x.br,d x.bf,d x.bg,f KB x.kids.length kb] 177)).grownBy w3 v.ownBlock):=hgrow;have H2:Hid (v.ownBlock=some gg\/gg=W.heap.size+2):=hat;have h2:Hid (RdS Z (w3.setCell ⟨r,3,none⟩ (f (some ⟨gg,0,none⟩) (out.length+1) gcap)) r s k bad (f (some ⟨gg,0,none⟩) (out.length+1) gcap) B (out++ [x])):=HS.out.grow HY.out.1 HY.out.2.1 HY.out.2.2 G7.out h7.out HK.out hgrow hown3;have h4: ∀o,w3.cell? ⟨W.heap.size,o,none⟩=(W.alloc (y #[a c x.k,a c x.o,a c x.ck,a c x.cn,l x.cs,a c x.ac,a c x.ar,d x.af,d x.ag,a c x.bc,a c x.br,d x.bf,d x.bg,f KB x.kids.length kb] 177)).cell? ⟨W.heap.size,o,none⟩:=x0.out w3 hgrow
  have e3:w3.cell? ⟨r,3,none⟩=some v:=G0.out w3 hgrow;have g3:w3.frozen? ⟨r,3,none⟩=false:=G8.out w3 hgrow;clear hown3 hgrow hat hlt3;refine hkB hKq (h4) fun hHeld=> ?_;clear hKq Kq;refine tkA 8 ?_;refine tkB 9 ?_
  refine rqA 10 (fun Kq hKq=> ?_);go_simp;refine hkB hKq (fun o=>(World.cell?_setCell_far _ _ _ _ (by simp only;omega)).trans (h4 o)) fun hHeld=> ?_;clear hKq Kq;refine wpAnyH_done (by kernel_rfl) ?_ _;have h5:Hid (Fr r v W (w3.setCell ⟨r,3,none⟩ (f (some ⟨gg,0,none⟩) (out.length+1) gcap))):=G6.out w3 _ H1.out;have h1:Hid (NB W v (f (some ⟨gg,0,none⟩) (out.length+1) gcap)):=G5.out gg gcap H2.out
  have h0: ∀o,(w3.setCell ⟨r,3,none⟩ (f (some ⟨gg,0,none⟩) (out.length+1) gcap)).cell? ⟨W.heap.size,o,none⟩=(W.alloc (y #[a c x.k,a c x.o,a c x.ck,a c x.cn,l x.cs,a c x.ac,a c x.ar,d x.af,d x.ag,a c x.bc,a c x.br,d x.bf,d x.bg,f KB x.kids.length kb] 177)).cell? ⟨W.heap.size,o,none⟩:=fun o=>(World.cell?_setCell_far _ _ _ _ (by simp only;omega)).trans (h4 o);have H9:(w3.setCell ⟨r,3,none⟩ (f (some ⟨gg,0,none⟩) (out.length+1) gcap)).cell? ⟨W.heap.size,0,none⟩=some (a c x.k):=(h0 0).trans (by simp);have X4:(w3.setCell ⟨r,3,none⟩ (f (some ⟨gg,0,none⟩) (out.length+1) gcap)).cell? ⟨W.heap.size,1,none⟩=some (a c x.o):=(h0 1).trans (by simp);have X3:(w3.setCell ⟨r,3,none⟩ (f (some ⟨gg,0,none⟩) (out.length+1) gcap)).cell? ⟨W.heap.size,2,none⟩=some (a c x.ck):=(h0 2).trans (by simp);have X2:(w3.setCell ⟨r,3,none⟩ (f (some ⟨gg,0,none⟩) (out.length+1) gcap)).cell? ⟨W.heap.size,3,none⟩=some (a c x.cn):=(h0 3).trans (by simp);have X1:(w3.setCell ⟨r,3,none⟩ (f (some ⟨gg,0,none⟩) (out.length+1) gcap)).cell? ⟨W.heap.size,4,none⟩=some (l x.cs):=(h0 4).trans (by simp);have X0:(w3.setCell ⟨r,3,none⟩ (f (some ⟨gg,0,none⟩) (out.length+1) gcap)).cell? ⟨W.heap.size,5,none⟩=some (a c x.ac):=(h0 5).trans (by simp)
  have x8:(w3.setCell ⟨r,3,none⟩ (f (some ⟨gg,0,none⟩) (out.length+1) gcap)).cell? ⟨W.heap.size,6,none⟩=some (a c x.ar):=(h0 6).trans (by simp);have x7:(w3.setCell ⟨r,3,none⟩ (f (some ⟨gg,0,none⟩) (out.length+1) gcap)).cell? ⟨W.heap.size,7,none⟩=some (d x.af):=(h0 7).trans (by simp);have x6:(w3.setCell ⟨r,3,none⟩ (f (some ⟨gg,0,none⟩) (out.length+1) gcap)).cell? ⟨W.heap.size,8,none⟩=some (d x.ag):=(h0 8).trans (by simp);have x5:(w3.setCell ⟨r,3,none⟩ (f (some ⟨gg,0,none⟩) (out.length+1) gcap)).cell? ⟨W.heap.size,9,none⟩=some (a c x.bc):=(h0 9).trans (by simp);have H8:(w3.setCell ⟨r,3,none⟩ (f (some ⟨gg,0,none⟩) (out.length+1) gcap)).cell? ⟨W.heap.size,10,none⟩=some (a c x.br):=(h0 10).trans (by simp);have H7:(w3.setCell ⟨r,3,none⟩ (f (some ⟨gg,0,none⟩) (out.length+1) gcap)).cell? ⟨W.heap.size,11,none⟩=some (d x.bf):=(h0 11).trans (by simp);have H6:(w3.setCell ⟨r,3,none⟩ (f (some ⟨gg,0,none⟩) (out.length+1) gcap)).cell? ⟨W.heap.size,12,none⟩=some (d x.bg):=(h0 12).trans (by simp)
  have H5:(w3.setCell ⟨r,3,none⟩ (f (some ⟨gg,0,none⟩) (out.length+1) gcap)).cell? ⟨W.heap.size,13,none⟩=some (f KB x.kids.length kb):=(h0 13).trans (by simp);clear h4 h0 e3 g3 H1 H2;generalize (w3.setCell ⟨r,3,none⟩ (f (some ⟨gg,0,none⟩) (out.length+1) gcap))=Wf at*
  have g0:Hid (W.heap.size<Wf.heap.size):=World.block_lt_of_cell? Wf ⟨W.heap.size,0,none⟩ H9;have x4:=g0.out;obtain⟨_,⟨d0,d1,d2,d3⟩,g1,g2,g3⟩:=h2.out.rs;have x2:r<Wf.heap.size:=h2.out.rs.lt;by_cases H0:out.length+1<=60
  ·have h8: ¬(60:Int)<(out.length:Int)+1:=by omega
   have H4:decide ((60:Int)<(out.length:Int)+1)=false:=by simpa using h8
   cases hx:Qp x
   ·have HX:Hid (Qp x=false):=hx;clear hx;go_wp2_with (go_at_call 139;refine(QM x _ H3.out).mono ?_;rintro e w4 ⟨rfl,hb⟩;rw[HX.out];have h3:Hid (RdS Z w4 r s k bad (f (some ⟨gg,0,none⟩) (out.length+1) gcap) B (out++ [x])):=h2.out.bel hb;have h6:Hid (Fr r v W w4):=h5.out.trans h1.out (Fr.bel hb);obtain⟨_,⟨k0,k1,k2,k3⟩,m1,m2,m3⟩:=h3.out.rs;clear hb)
    go_ret;exact⟨_,Zn (by omega),by rw[HX.out,L,E,H];exact h3.out.bad,h1.out,h6.out.trans h1.out (Fr.gb (Ze _ _ _ _))⟩
   ·have HX:Hid (Qp x=true):=hx;clear hx;go_wp2_with (go_at_call 139;refine(QM x _ H3.out).mono ?_;rintro e w4 ⟨rfl,hb⟩;rw[HX.out];have h3:Hid (RdS Z w4 r s k bad (f (some ⟨gg,0,none⟩) (out.length+1) gcap) B (out++ [x])):=h2.out.bel hb;have h6:Hid (Fr r v W w4):=h5.out.trans h1.out (Fr.bel hb);obtain⟨_,⟨k0,k1,k2,k3⟩,m1,m2,m3⟩:=h3.out.rs;clear hb)
    go_ret;exact⟨_,Zn (by omega),by rw[HX.out,decide_eq_true H0,Bool.and_true,Bool.not_true,Bool.or_false];exact h3.out,h1.out,h6.out⟩
  ·have h8:(60:Int)<(out.length:Int)+1:=by omega
   go_wp2_with fail
   go_ret;exact⟨_,Zn (by omega),by rw[decide_eq_false H0,M,E,H];exact h2.out.bad,h1.out,h5.out.trans h1.out (Fr.gb (Ze _ _ _ _))⟩
 ·go_simp;refine hkB hKq (fun o=>(((J _ _).alloc (Nat.le_refl _) _).cell (p:=⟨W.heap.size,o,none⟩) (by simp))) fun hHeld=> ?_;clear hKq Kq;refine rqA 4 (fun Kq hKq=> ?_);go_simp;refine hkB hKq (fun o=>(((J _ _).alloc (Nat.le_refl _) _).cell (p:=⟨W.heap.size,o,none⟩) (by simp))) fun hHeld=> ?_;clear hKq Kq
  refine rqA 7 (fun Kq hKq=> ?_);refine step_append_lies _ (by rfl) _ _ _ (by rfl) B 177 i0 _ 14 120 underlying129 hi g6 g5 g4 rfl (by omega) v out.length ys (by rfl) G2.out ⟨W.heap.size+1,0,none⟩ 1 1 (Qx x KB kb) (by rfl) (by rfl) G3.out G1.out (by omega) (by unfold maxLen;omega) (by omega) G9.out (W.heap.size+2) (by simp) ?_;intro gg gcap w3 hown3 hgrow hat hlt3;have H1:Hid (((W.alloc (y #[a c x.k,a c x.o,a c x.ck,a c x.cn,l x.cs,a c x.ac,a c x.ar,d x.af,d x.ag,a c x.bc,a c x.br,d x.bf,d x.bg,f KB x.kids.length kb] 177)).drew.alloc (y #[a c x.k,a c x.o,a c x.ck,a c x.cn,l x.cs,a c x.ac,a c x.ar,d x.af,d x.ag,a c x.bc,a c x.br,d x.bf,d x.bg,f KB x.kids.length kb] 177)).grownBy w3 v.ownBlock):=hgrow;have H2:Hid (v.ownBlock=some gg\/gg=W.heap.size+2):=hat;have h2:Hid (RdS Z (w3.setCell ⟨r,3,none⟩ (f (some ⟨gg,0,none⟩) (out.length+1) gcap)) r s k bad (f (some ⟨gg,0,none⟩) (out.length+1) gcap) B (out++ [x])):=HS.out.grow HY.out.1 HY.out.2.1 HY.out.2.2 G7.out h7.out HK.out hgrow hown3;have h4: ∀o,w3.cell? ⟨W.heap.size,o,none⟩=(W.alloc (y #[a c x.k,a c x.o,a c x.ck,a c x.cn,l x.cs,a c x.ac,a c x.ar,d x.af,d x.ag,a c x.bc,a c x.br,d x.bf,d x.bg,f KB x.kids.length kb] 177)).cell? ⟨W.heap.size,o,none⟩:=x0.out w3 hgrow
  have e3:w3.cell? ⟨r,3,none⟩=some v:=G0.out w3 hgrow;have g3:w3.frozen? ⟨r,3,none⟩=false:=G8.out w3 hgrow;clear hown3 hgrow hat hlt3;refine hkB hKq (h4) fun hHeld=> ?_;clear hKq Kq;refine tkA 8 ?_;refine tkB 9 ?_
  refine rqA 10 (fun Kq hKq=> ?_);go_simp;refine hkB hKq (fun o=>(World.cell?_setCell_far _ _ _ _ (by simp only;omega)).trans (h4 o)) fun hHeld=> ?_;clear hKq Kq;refine wpAnyH_done (by kernel_rfl) ?_ _;have h5:Hid (Fr r v W (w3.setCell ⟨r,3,none⟩ (f (some ⟨gg,0,none⟩) (out.length+1) gcap))):=G6.out w3 _ H1.out;have h1:Hid (NB W v (f (some ⟨gg,0,none⟩) (out.length+1) gcap)):=G5.out gg gcap H2.out
  have h0: ∀o,(w3.setCell ⟨r,3,none⟩ (f (some ⟨gg,0,none⟩) (out.length+1) gcap)).cell? ⟨W.heap.size,o,none⟩=(W.alloc (y #[a c x.k,a c x.o,a c x.ck,a c x.cn,l x.cs,a c x.ac,a c x.ar,d x.af,d x.ag,a c x.bc,a c x.br,d x.bf,d x.bg,f KB x.kids.length kb] 177)).cell? ⟨W.heap.size,o,none⟩:=fun o=>(World.cell?_setCell_far _ _ _ _ (by simp only;omega)).trans (h4 o);have H9:(w3.setCell ⟨r,3,none⟩ (f (some ⟨gg,0,none⟩) (out.length+1) gcap)).cell? ⟨W.heap.size,0,none⟩=some (a c x.k):=(h0 0).trans (by simp);have X4:(w3.setCell ⟨r,3,none⟩ (f (some ⟨gg,0,none⟩) (out.length+1) gcap)).cell? ⟨W.heap.size,1,none⟩=some (a c x.o):=(h0 1).trans (by simp);have X3:(w3.setCell ⟨r,3,none⟩ (f (some ⟨gg,0,none⟩) (out.length+1) gcap)).cell? ⟨W.heap.size,2,none⟩=some (a c x.ck):=(h0 2).trans (by simp);have X2:(w3.setCell ⟨r,3,none⟩ (f (some ⟨gg,0,none⟩) (out.length+1) gcap)).cell? ⟨W.heap.size,3,none⟩=some (a c x.cn):=(h0 3).trans (by simp);have X1:(w3.setCell ⟨r,3,none⟩ (f (some ⟨gg,0,none⟩) (out.length+1) gcap)).cell? ⟨W.heap.size,4,none⟩=some (l x.cs):=(h0 4).trans (by simp);have X0:(w3.setCell ⟨r,3,none⟩ (f (some ⟨gg,0,none⟩) (out.length+1) gcap)).cell? ⟨W.heap.size,5,none⟩=some (a c x.ac):=(h0 5).trans (by simp)
  have x8:(w3.setCell ⟨r,3,none⟩ (f (some ⟨gg,0,none⟩) (out.length+1) gcap)).cell? ⟨W.heap.size,6,none⟩=some (a c x.ar):=(h0 6).trans (by simp);have x7:(w3.setCell ⟨r,3,none⟩ (f (some ⟨gg,0,none⟩) (out.length+1) gcap)).cell? ⟨W.heap.size,7,none⟩=some (d x.af):=(h0 7).trans (by simp);have x6:(w3.setCell ⟨r,3,none⟩ (f (some ⟨gg,0,none⟩) (out.length+1) gcap)).cell? ⟨W.heap.size,8,none⟩=some (d x.ag):=(h0 8).trans (by simp);have x5:(w3.setCell ⟨r,3,none⟩ (f (some ⟨gg,0,none⟩) (out.length+1) gcap)).cell? ⟨W.heap.size,9,none⟩=some (a c x.bc):=(h0 9).trans (by simp);have H8:(w3.setCell ⟨r,3,none⟩ (f (some ⟨gg,0,none⟩) (out.length+1) gcap)).cell? ⟨W.heap.size,10,none⟩=some (a c x.br):=(h0 10).trans (by simp);have H7:(w3.setCell ⟨r,3,none⟩ (f (some ⟨gg,0,none⟩) (out.length+1) gcap)).cell? ⟨W.heap.size,11,none⟩=some (d x.bf):=(h0 11).trans (by simp);have H6:(w3.setCell ⟨r,3,none⟩ (f (some ⟨gg,0,none⟩) (out.length+1) gcap)).cell? ⟨W.heap.size,12,none⟩=some (d x.bg):=(h0 12).trans (by simp)
  have H5:(w3.setCell ⟨r,3,none⟩ (f (some ⟨gg,0,none⟩) (out.length+1) gcap)).cell? ⟨W.heap.size,13,none⟩=some (f KB x.kids.length kb):=(h0 13).trans (by simp);clear h4 h0 e3 g3 H1 H2;generalize (w3.setCell ⟨r,3,none⟩ (f (some ⟨gg,0,none⟩) (out.length+1) gcap))=Wf at*
  have g0:Hid (W.heap.size<Wf.heap.size):=World.block_lt_of_cell? Wf ⟨W.heap.size,0,none⟩ H9;have x4:=g0.out;obtain⟨_,⟨d0,d1,d2,d3⟩,g1,g2,g3⟩:=h2.out.rs;have x2:r<Wf.heap.size:=h2.out.rs.lt;by_cases H0:out.length+1<=60
  ·have h8: ¬(60:Int)<(out.length:Int)+1:=by omega
   have H4:decide ((60:Int)<(out.length:Int)+1)=false:=by simpa using h8
   cases hx:Qp x
   ·have HX:Hid (Qp x=false):=hx;clear hx;go_wp2_with (go_at_call 139;refine(QM x _ H3.out).mono ?_;rintro e w4 ⟨rfl,hb⟩;rw[HX.out];have h3:Hid (RdS Z w4 r s k bad (f (some ⟨gg,0,none⟩) (out.length+1) gcap) B (out++ [x])):=h2.out.bel hb;have h6:Hid (Fr r v W w4):=h5.out.trans h1.out (Fr.bel hb);obtain⟨_,⟨k0,k1,k2,k3⟩,m1,m2,m3⟩:=h3.out.rs;clear hb)
    go_ret;exact⟨_,Zn (by omega),by rw[HX.out,L,E,H];exact h3.out.bad,h1.out,h6.out.trans h1.out (Fr.gb (Ze _ _ _ _))⟩
   ·have HX:Hid (Qp x=true):=hx;clear hx;go_wp2_with (go_at_call 139;refine(QM x _ H3.out).mono ?_;rintro e w4 ⟨rfl,hb⟩;rw[HX.out];have h3:Hid (RdS Z w4 r s k bad (f (some ⟨gg,0,none⟩) (out.length+1) gcap) B (out++ [x])):=h2.out.bel hb;have h6:Hid (Fr r v W w4):=h5.out.trans h1.out (Fr.bel hb);obtain⟨_,⟨k0,k1,k2,k3⟩,m1,m2,m3⟩:=h3.out.rs;clear hb)
    go_ret;exact⟨_,Zn (by omega),by rw[HX.out,decide_eq_true H0,Bool.and_true,Bool.not_true,Bool.or_false];exact h3.out,h1.out,h6.out⟩
  ·have h8:(60:Int)<(out.length:Int)+1:=by omega
   go_wp2_with fail
   go_ret;exact⟨_,Zn (by omega),by rw[decide_eq_false H0,M,E,H];exact h2.out.bad,h1.out,h5.out.trans h1.out (Fr.gb (Ze _ _ _ _))⟩
end Go.Proofs.YtomadadmakdkgaaGreatDoor
