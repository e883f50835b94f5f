import Derived.Test.YtomadadmakdkgaaGreatDoorGat
import Derived.Test.YtomadadmakdkgaaGreatDoorGan
import Derived.Test.YtomadadmakdkgaaGreatDoorGap
import Derived.Test.YtomadadmakdkgaaGreatDoorMn
open Go.Proofs.Tryz
open Go.Value renaming int → a, bool → l, slice → s, string → D
open Go.IntKind renaming i64 → d, wrap_i64 → O
open Go.Obj renaming cells → E
open Or renaming inl → F, inr → L
open Go renaming Addr → H
open List renaming getElem?_append_right → I, getElem?_append_left → J, length_cons → N, length_nil → Q
open Go.RowKit renaming ownsRow_setCell_below → K
open Go.Ending renaming returned → M
set_option linter.unusedSimpArgs false
set_option linter.unusedVariables false
set_option maxHeartbeats 8000000
set_option maxRecDepth 100000
namespace Go.Proofs.YtomadadmakdkgaaGreatDoor
open Go.RowKit
variable {W W' w1 w2 wr:World} {A:Option H} {ps:List (List UInt8)} {r cap k gcap n k2:Nat} {v v1:Value} {out:List FN}
theorem FTL.below(h:FTL W)(hb:Below W.heap.size W W'):FTL W':=by
 obtain⟨g,f,h0⟩:=h;have hl:1<W.heap.size:=World.block_lt_of_cell? W ⟨1,0*3+1,none⟩ (h0 0 (by omega)).1;exact⟨g,f,fun m hm=>⟨(hb.cell (p:=⟨1,_,none⟩) hl).trans (h0 m hm).1,(hb.cell (p:=⟨1,_,none⟩) hl).trans (h0 m hm).2⟩⟩
structure GI (W:World):Prop where
 gt:GT W
 fl:FTL W
 vs:Vars W
theorem GI.below(h:GI W)(hb:Below W.heap.size W W'):GI W':=⟨h.gt.below hb,h.fl.below hb,h.vs.below hb⟩
theorem PcRow.below(h:PcRow W A ps)(hb:Below W.heap.size W W'):PcRow W' A ps:=
 ⟨h.1,fun i hi=>by
  obtain⟨b,o,e,hl,hc⟩:=h.2 i hi
  exact⟨b,o,e,Nat.lt_of_lt_of_le hl hb.size,(hb.cell (p:=⟨b,_,none⟩) hl).trans hc⟩⟩
theorem Ri.lt(h:Ri W r A cap ps k v):r<W.heap.size:=World.block_lt_of_cell? W ⟨r,0,none⟩ h.2.1.1
theorem Ri.blk(h:Ri W r A cap ps k v)(hb:W'.heap[r]? =W.heap[r]?):Ri W' r A cap ps k v:=by
 have h1: ∀o,W'.cell? ⟨r,o,none⟩=W.cell? ⟨r,o,none⟩:=fun o=>by unfold World.cell?;simp only[hb]
 have h2: ∀o,W'.frozen? ⟨r,o,none⟩=W.frozen? ⟨r,o,none⟩:=fun o=>by unfold World.frozen?;simp only[hb]
 obtain⟨h0,⟨c0,c1,c2⟩,f1,f2⟩:=h;exact⟨h0,⟨(h1 _).trans c0,(h1 _).trans c1,(h1 _).trans c2⟩,(h2 _).trans f1,(h2 _).trans f2⟩
theorem Ri.at1(h:Ri W r A cap ps k v)(j:Nat)(hj:j<=ps.length)(z:Int)(hz:z=(j:Int)):Ri (W.setCell ⟨r,1,none⟩ (a d z)) r A cap ps j v:=by
 subst hz;obtain⟨h0,⟨c0,c1,c2⟩,f1,f2⟩:=h;refine⟨hj,⟨?_,?_,?_⟩,?_,?_⟩
 ·exact(World.cell?_setCell_other _ ⟨r,1,none⟩ ⟨r,0,none⟩ _ (fun e=>by cases e)).trans c0
 ·exact World.cell?_setCell_same _ _ _ c1
 ·exact(World.cell?_setCell_other _ ⟨r,1,none⟩ ⟨r,2,none⟩ _ (fun e=>by cases e)).trans c2
 ·exact(World.frozen?_setCell _ _ _ _).trans f1
 ·exact(World.frozen?_setCell _ _ _ _).trans f2
theorem Ri.at2(h:Ri W r A cap ps k v)(u:Value):Ri (W.setCell ⟨r,2,none⟩ u) r A cap ps k u:=by
 obtain⟨h0,⟨c0,c1,c2⟩,f1,f2⟩:=h;refine⟨h0,⟨?_,?_,?_⟩,?_,?_⟩
 ·exact(World.cell?_setCell_other _ ⟨r,2,none⟩ ⟨r,0,none⟩ _ (fun e=>by cases e)).trans c0
 ·exact(World.cell?_setCell_other _ ⟨r,2,none⟩ ⟨r,1,none⟩ _ (fun e=>by cases e)).trans c1
 ·exact World.cell?_setCell_same _ _ _ c2
 ·exact(World.frozen?_setCell _ _ _ _).trans f1
 ·exact(World.frozen?_setCell _ _ _ _).trans f2
def smF(x:FN):Prop:=x.cs.size<=2000/\x.kids.length<=2000
def KDR(ys:List Value)(n:Nat):Prop:= ∀i j,i<n->j<n->i≠j-> ∀b,kbR ys i=some b->kbR ys j≠some b
structure RdI (W0:World) (Z:Nat->Prop) (W:World) (r:Nat) (A:Option H) (cap:Nat) (ps:List (List UInt8)) (k:Nat) (v:Value) (B:Nat) (out:List FN):Prop where
 ri:Ri W r A cap ps k v
 pc:PcRow W0 A ps
 gi:GI W0
 anc:Below W0.heap.size W0 W
 ar:W0.heap.size<=r
 rb:r<B
 bw:B<=W.heap.size
 zl: ∀b,Z b->b<W.heap.size
 sm: ∀x∈out,smF x
 own: ∃ys,W.ownsRow B 177 14 v out.length ys/\FnPart W B ys (ouF out) out.length/\KDR ys out.length/\ ∀i,i<out.length-> ∀b,kbR ys i=some b-> ¬Z b
section
variable {W0:World} {Z:Nat->Prop} {r:Nat} {A:Option H} {cap:Nat} {ps:List (List UInt8)} {B:Nat}
theorem RdI.pcr(h:RdI W0 Z W r A cap ps k v B out):PcRow W A ps:=h.pc.below h.anc
theorem RdI.gir(h:RdI W0 Z W r A cap ps k v B out):GI W:=h.gi.below h.anc
theorem RdI.gb{k':Nat}(h:RdI W0 Z W r A cap ps k v B out)(hr:Ri W' r A cap ps k' v)(hg:W.grownBy W' (some r)):RdI W0 Z W' r A cap ps k' v B out:=by
 obtain⟨ys,ho,hp,h0,h3⟩:=h.own;have hb:=h.rb;have ha:=h.ar;refine⟨hr,h.pc,h.gi,h.anc.trans ⟨hg.os,hg.tape,hg.output,hg.size,fun q hq=>hg.block q (Nat.lt_of_lt_of_le hq h.anc.size) (fun e=>by cases e;omega)⟩,h.ar,h.rb,Nat.le_trans h.bw hg.size,fun b hz=>Nat.lt_of_lt_of_le (h.zl b hz) hg.size,h.sm,ys,ho.kept hg ?_,fun i hi=> ?_,h0,h3⟩
 ·cases hv:v.ownBlock with
  | none=>exact F rfl
  | some q=>right;intro e;cases e;have:=(ho.lt _ hv).1;omega
 ·obtain⟨KA,kc,h1,h2⟩:=hp i hi;refine⟨KA,kc,h1,h2.kept hg ?_⟩;cases hv:(Value.slice KA (ouF out i).kids.length kc).ownBlock with
  | none=>exact F rfl
  | some q=>right;intro e;cases e;have:=(h2.lt _ hv).1;omega
theorem RdI.bel(h:RdI W0 Z W r A cap ps k v B out)(hb:Below W.heap.size W W'):RdI W0 Z W' r A cap ps k v B out:=by
 obtain⟨ys,ho,hp,h0,h1⟩:=h.own;exact⟨h.ri.blk (hb.block r h.ri.lt),h.pc,h.gi,Qb h.anc hb,h.ar,h.rb,Nat.le_trans h.bw hb.size,fun b hz=>Nat.lt_of_lt_of_le (h.zl b hz) hb.size,h.sm,ys,Qd ho hb,hp.below hb,h0,h1⟩
theorem RdI.grow{W1 w3:World}{x:FN}{KB:Option H}{kb gg:Nat}{ys:List Value}(h:RdI W0 (ZK Z (s KB x.kids.length kb)) W r A cap ps k v B out)(hy:W.ownsRow B 177 14 v out.length ys)(hp:FnPart W B ys (ouF out) out.length)(hkd:KDR ys out.length)(hav: ∀i,i<out.length-> ∀b,kbR ys i=some b-> ¬ZK Z (s KB x.kids.length kb) b)(hkz: ∀b,(Value.slice KB x.kids.length kb).ownBlock=some b-> ¬Z b)(hsm:smF x)
  (hb1:Below W.heap.size W W1) (hk:W.ownsRow B 2 1 (s KB x.kids.length kb) x.kids.length (x.kids.map (Value.int .i64))) (hg:W1.grownBy w3 v.ownBlock)
  (ho:w3.ownsRow B 177 14 (s (some ⟨gg,0,none⟩) (out.length+1) gcap) (out.length+1) (ys++Qx x KB kb)):
  RdI W0 Z (w3.setCell ⟨r,2,none⟩ (s (some ⟨gg,0,none⟩) (out.length+1) gcap)) r A cap ps k (s (some ⟨gg,0,none⟩) (out.length+1) gcap) B (out++ [x]):=by
 have h6:=h.rb;have H3:=h.ar;have H0:=h.ri.lt;have h7:v.ownBlock≠some r:=fun e=>by have:=(hy.lt r e).1;omega
 have h8:w3.heap[r]? =W.heap[r]?:=(hg.block r (Nat.lt_of_lt_of_le H0 hb1.size) (fun e=>h7 e.symm)).trans (hb1.block r H0);have h5:Below W0.heap.size W0 w3:=(Qb h.anc hb1).trans ⟨hg.os,hg.tape,hg.output,hg.size,fun q hq=>hg.block q (Nat.lt_of_lt_of_le hq (Qb h.anc hb1).size) (fun e=>by have:=(hy.lt q e.symm).1;omega)⟩
 have H1: ∀u,Below W0.heap.size w3 (w3.setCell ⟨r,2,none⟩ u):=fun u=>by
  have g:=Ze w3 r 2 u;exact⟨g.os,g.tape,g.output,g.size,fun q hq=>g.block q (Nat.lt_of_lt_of_le hq h5.size) (fun e=>by cases e;omega)⟩
 refine⟨(h.ri.blk h8).at2 _,h.pc,h.gi,h5.trans (H1 _),H3,h6,?_,fun b hz=> ?_,fun y hy=> ?_,?_⟩
 ·have h1:=h.bw;have h2:=hb1.size;have h3:=hg.size;simp;omega
 ·have h1:=h.zl b (F hz);have h2:=hb1.size;have h3:=hg.size;simp;omega
 ·rcases List.mem_append.1 hy with h9 | h9
  ·exact h.sm y h9
  ·rw[List.mem_singleton.1 h9];exact hsm
 ·rw[List.length_append];refine⟨ys++Qx x KB kb,K ho h6 _,fun i hi=> ?_,?_,fun i hi b hb=> ?_⟩;rotate_left
  ·have hl:=hy.1
   have h0: ∀i,i<out.length->kbR (ys++Qx x KB kb) i=kbR ys i:=fun i hi=>by
    unfold kbR;rw[J (by omega)]
   have h4:kbR (ys++Qx x KB kb) out.length=(Value.slice KB x.kids.length kb).ownBlock:=by
    unfold kbR;rw[I (by omega),show out.length*14+13-ys.length=13 by omega];rfl
   intro i j hi hj h7 b hb1 hb2;simp only[N,Q]at hi hj;by_cases ei:i<out.length
   ·rw[h0 i ei]at hb1;by_cases ej:j<out.length
    ·rw[h0 j ej]at hb2;exact hkd i j ei ej h7 b hb1 hb2
    ·obtain rfl:j=out.length:=by omega
     rw[h4]at hb2;exact hav i ei b hb1 (L hb2)
   ·obtain rfl:i=out.length:=by omega
    have ej:j<out.length:=by omega
    rw[h4]at hb1;rw[h0 j ej]at hb2;exact hav j ej b hb2 (L hb1)
  ·have hl:=hy.1;simp only[N,Q]at hi;unfold kbR at hb;by_cases e:i<out.length
   ·rw[J (by omega)]at hb;exact fun hz=>hav i e b hb (F hz)
   ·obtain rfl:i=out.length:=by omega
    rw[I (by omega),show out.length*14+13-ys.length=13 by omega]at hb;exact hkz b hb
  have H2:FnPart W1 B ys (ouF (out++ [x])) out.length:=fun i hi=>by
   obtain⟨KA,kc,h1,h2⟩:=hp i hi;rw[Qgl hi];exact⟨KA,kc,h1,Qd h2 hb1⟩
  obtain⟨KA,kc,h1,h2⟩:=Bq (G:=ouF (out++ [x])) Qgk (Qd hy hb1) H2 (Qd hk hb1) hg i hi;exact⟨KA,kc,h1,K h2 h6 _⟩
theorem RdI.weak{Z':Nat->Prop}(h:RdI W0 Z' W r A cap ps k v B out)(hz: ∀b,Z b->Z' b):RdI W0 Z W r A cap ps k v B out:=by
 obtain⟨ys,ho,hp,h0,h1⟩:=h.own;exact⟨h.ri,h.pc,h.gi,h.anc,h.ar,h.rb,h.bw,fun b hb=>h.zl b (hz b hb),h.sm,ys,ho,hp,h0,fun i hi b hb hzb=>h1 i hi b hb (hz b hzb)⟩
theorem RdI.new{g:Nat}(h:RdI W0 Z W r A cap ps k v B out)(hb:Below W.heap.size W W')(hg:W.heap.size<=g)(hl:g<W'.heap.size):RdI W0 (ZK Z (s (some ⟨g,0,none⟩) n gcap)) W' r A cap ps k v B out:=by
 obtain⟨ys,ho,hp,h0,h1⟩:=h.own;have h':=h.bel hb;refine⟨h'.ri,h'.pc,h'.gi,h'.anc,h'.ar,h'.rb,h'.bw,fun b hb=> ?_,h.sm,ys,Qd ho hb,hp.below hb,h0,fun i hi b hb2 hzb=> ?_⟩
 ·rcases hb with hb | hb
  ·exact h'.zl b hb
  ·cases hb;exact hl
 ·rcases hzb with hz | hz
  ·exact h1 i hi b hb2 hz
  ·cases hz
   have:g<W.heap.size:=Qbb hp hi hb2;omega
theorem RdI.kids{w3:World}{C gg n' cap':Nat}{kv:Value}{xs:List Value}(h:RdI W0 (ZK Z kv) W r A cap ps k v B out)(hk:W.ownsRow C 2 1 kv n xs)(hC:r<C)(hg:W.grownBy w3 kv.ownBlock)(hat:kv.ownBlock=some gg\/gg=W.heap.size)(hlt:gg<w3.heap.size):
  RdI W0 (ZK Z (s (some ⟨gg,0,none⟩) n' cap')) w3 r A cap ps k v B out:=by
 obtain⟨ys,ho,hp,h7,h3⟩:=h.own;have h5:=h.ri.lt;have har:=h.ar;have h6:kv.ownBlock≠some r:=fun e=>by have:=(hk.lt r e).1;omega
 have h0:w3.heap[r]? =W.heap[r]?:=hg.block r h5 (fun e=>h6 e.symm);have h4:Below W0.heap.size W0 w3:=h.anc.trans ⟨hg.os,hg.tape,hg.output,hg.size,fun q hq=>hg.block q (Nat.lt_of_lt_of_le hq h.anc.size) (fun e=>by have:=(hk.lt q e.symm).1;omega)⟩;refine⟨h.ri.blk h0,h.pc,h.gi,h4,h.ar,h.rb,Nat.le_trans h.bw hg.size,fun b hb=> ?_,h.sm,ys,?_,?_,h7,fun i hi b hb hzb=> ?_⟩
 ·rcases hb with hb | hb
  ·exact Nat.lt_of_lt_of_le (h.zl b (F hb)) hg.size
  ·cases hb;exact hlt
 ·exact ho.kept hg (YX ho hk (by decide))
 ·intro i hi;obtain⟨KA,kc,h1,h2⟩:=hp i hi;refine⟨KA,kc,h1,h2.kept hg ?_⟩;cases hq:(Value.slice KA (ouF out i).kids.length kc).ownBlock with
  | none=>exact F rfl
  | some b=>
   right
   intro e;exact h3 i hi b (by rw[OM (W:=W) (B:=B) h1];exact hq) (L e.symm)
 ·rcases hzb with hz | hz
  ·exact h3 i hi b hb (F hz)
  ·cases hz
   rcases hat with e | e
   ·exact h3 i hi gg hb (L e)
   ·have:gg<W.heap.size:=Qbb hp hi hb;omega
end
structure SI (W0:World) (Z:Nat->Prop) (W:World) (v:Value) (r:Nat) (A:Option H) (cap:Nat) (ps:List (List UInt8)) (B:Nat) (wr:World) (k:Nat) (v1:Value) (out:List FN):Prop where
 st:RdI W0 Z wr r A cap ps k v1 B out
 nb:NB W v v1
 fr:Fr r v W wr
section
variable {W0:World} {Z:Nat->Prop} {W:World} {v:Value} {r:Nat} {A:Option H} {cap:Nat} {ps:List (List UInt8)} {B:Nat}
theorem SI.start(h:RdI W0 Z W r A cap ps k v B out):SI W0 Z W v r A cap ps B W k v out:=⟨h,NB.refl _ _,Fr.refl _ _ _⟩
theorem SI.step{v2:Value}{out2:List FN}(h:SI W0 Z W v r A cap ps B w1 k v1 out)(h2:RdI W0 Z w2 r A cap ps k2 v2 B out2)(hn:NB w1 v1 v2)(hf:Fr r v1 w1 w2):SI W0 Z W v r A cap ps B w2 k2 v2 out2:=
 ⟨h2,h.nb.trans h.fr.2.2.2.1 hn,h.fr.trans h.nb hf⟩
theorem SI.on{v2:Value}{out2:List FN}(h:SI W0 Z W v r A cap ps B w1 k v1 out)(h2:SI W0 Z w1 v1 r A cap ps B w2 k2 v2 out2):SI W0 Z W v r A cap ps B w2 k2 v2 out2:=h.step h2.st h2.nb h2.fr
theorem SI.gb(h:SI W0 Z W v r A cap ps B w1 k v1 out)(hr:Ri w2 r A cap ps k2 v1)(hg:w1.grownBy w2 (some r)):SI W0 Z W v r A cap ps B w2 k2 v1 out:=
 h.step (h.st.gb hr hg) (NB.refl _ _) (Fr.gb hg)
theorem SI.bel(h:SI W0 Z W v r A cap ps B w1 k v1 out)(hb:Below w1.heap.size w1 w2):SI W0 Z W v r A cap ps B w2 k v1 out:=
 h.step (h.st.bel hb) (NB.refl _ _) (Fr.bel hb)
theorem SI.draws(h:SI W0 Z W v r A cap ps B w1 k v1 out)(n:Nat):SI W0 Z W v r A cap ps B (w1.drewN n) k v1 out:=h.gb (k2:=k) h.st.ri (Qv _ _ n)
theorem SI.weak{Z':Nat->Prop}(h:SI W0 Z' W v r A cap ps B w1 k v1 out)(hz: ∀b,Z b->Z' b):SI W0 Z W v r A cap ps B w1 k v1 out:=⟨h.st.weak hz,h.nb,h.fr⟩
theorem SI.new{g:Nat}(h:SI W0 Z W v r A cap ps B w1 k v1 out)(hb:Below w1.heap.size w1 w2)(hg:w1.heap.size<=g)(hl:g<w2.heap.size):SI W0 (ZK Z (s (some ⟨g,0,none⟩) n gcap)) W v r A cap ps B w2 k v1 out:=
 ⟨h.st.new hb hg hl,h.nb,h.fr.trans h.nb (Fr.bel hb)⟩
theorem SI.nil(h:SI W0 Z W v r A cap ps B w1 k v1 out):SI W0 (ZK Z (s none n gcap)) W v r A cap ps B w1 k v1 out:=
 h.weak (fun b hb=>by
  rcases hb with hb | hb
  ·exact hb
  ·cases hb)
theorem ZF(h:ZJ ps k≠ []):k<ps.length:=by
 rcases Nat.lt_or_ge k ps.length with h9 | h9
 ·exact h9
 ·exact absurd (Qcq h9) h
theorem Kp{m:Nat}(h:SI W0 Z W v r A cap ps B wr k v1 out)(hm:m<=1):
  Calls prog 218 #[.pointer (some ⟨r,0,none⟩),a d (m:Int)] wr fun e w'=>e= M (D (bs (ZJ ps (k+m))))/\SI W0 Z W v r A cap ps B w' k v1 out:=
 (Qck r A cap ps k m v1 wr h.st.ri h.st.pcr hm).mono fun e w'=>by
  rintro⟨rfl,n,rfl⟩;exact⟨rfl,h.draws n⟩
theorem UF(h:SI W0 Z W v r A cap ps B wr k v1 out):
  Calls prog 244 #[.pointer (some ⟨r,0,none⟩)] wr fun e w'=>
   (ZJ ps k= []/\e= .panicked noF/\Fr r v W w')\/(ZJ ps k≠ []/\e= M (D (bs (ZJ ps k)))/\SI W0 Z W v r A cap ps B w' (k+1) v1 out):=
 (EW r A cap ps k v1 wr h.st.ri h.st.pcr).mono fun e w'=>by
  rintro(⟨h1,rfl,n,rfl⟩ | ⟨h1,rfl,n,rfl⟩)
  ·exact F ⟨h1,rfl,(h.draws n).fr⟩
  ·exact L ⟨h1,rfl,(h.draws n).gb ((h.draws n).st.ri.at1 (k+1) (ZF h1) _ (by omega)) (Ze _ _ _ _)⟩
theorem Ma(c:UInt8)(h:SI W0 Z W v r A cap ps B wr k v1 out):
  Calls prog 280 #[.pointer (some ⟨r,0,none⟩),D (bs [c])] wr fun e w'=>
   (ZJ ps k= [c]/\(∃x,e= M x)/\SI W0 Z W v r A cap ps B w' (k+1) v1 out)\/(ZJ ps k≠ [c]/\e= .panicked noF/\Fr r v W w'):=
 (Br c r A cap ps k v1 wr h.st.ri h.st.pcr).mono fun e w'=>by
  rintro(⟨h1,hx,n,rfl⟩ | ⟨h1,rfl,hg⟩)
  ·exact F ⟨h1,hx,(h.draws n).gb ((h.draws n).st.ri.at1 (k+1) (ZF (by rw[h1];simp)) _ (by omega)) (Ze _ _ _ _)⟩
  ·exact L ⟨h1,rfl,h.fr.trans h.nb (Fr.gb hg)⟩
end
theorem Qtz{W0:World}{Z:Nat->Prop}(x:FN)(KB:Option H)(kb r:Nat)(A:Option H)(cap:Nat)(ps:List (List UInt8))(k:Nat)(v:Value)(B:Nat)(out:List FN)(W:World)(h:RdI W0 (ZK Z (s KB x.kids.length kb)) W r A cap ps k v B out)
  (hkk:W.ownsRow B 2 1 (s KB x.kids.length kb) x.kids.length (x.kids.map (Value.int .i64))) (hkz: ∀b,(Value.slice KB x.kids.length kb).ownBlock=some b-> ¬Z b) (hcs:smF x) (hl:out.length<=30000):
  Calls prog 245 #[.pointer (some ⟨r,0,none⟩),ndR x KB kb] W fun e w'=>
   ∃v',e= M (a d out.length)/\RdI W0 Z w' r A cap ps k v' B (out++ [x])/\NB W v v'/\Fr r v W w':=by
 have HS:Hid (RdI W0 (ZK Z (s KB x.kids.length kb)) W r A cap ps k v B out):=h;have HK:Hid (W.ownsRow B 2 1 (s KB x.kids.length kb) x.kids.length (x.kids.map (Value.int .i64))):=hkk;have g8:Hid (smF x):=hcs;have H3:r<W.heap.size:=h.ri.lt;obtain⟨ys,ho,hp,H4,H5⟩:=h.own;have HY:Hid (W.ownsRow B 177 14 v out.length ys/\FnPart W B ys (ouF out) out.length/\KDR ys out.length/\ ∀i,i<out.length-> ∀b,kbR ys i=some b-> ¬ZK Z (s KB x.kids.length kb) b):=⟨ho,hp,H4,H5⟩;have g6:Hid (∀b,(Value.slice KB x.kids.length kb).ownBlock=some b-> ¬Z b):=hkz
 obtain⟨_,⟨c0,c1,c2⟩,f1,f2⟩:=h.ri;have hrb:=h.rb;have G5:Hid (B<=W.heap.size):=h.bw;clear h hkk hcs ho hp H4 H5 hkz;obtain⟨i0,hi,H1,H0,h8⟩:=info_parts MQ;have h3:Hid (Below W.heap.size W ((W.alloc (E #[a d x.k,a d x.o,a d x.ck,a d x.cn,D x.cs,a d x.ac,a d x.ar,l x.af,l x.ag,a d x.bc,a d x.br,l x.bf,l x.bg,s KB x.kids.length kb] 177)).drew.alloc (E #[a d x.k,a d x.o,a d x.ck,a d x.cn,D x.cs,a d x.ac,a d x.ar,l x.af,l x.ag,a d x.bc,a d x.br,l x.bf,l x.bg,s KB x.kids.length kb] 177))):=by show Below _ _ _;go_grown
 have H8:=hd (Qd HY.out.1 h3.out);have g9:Hid (B<=((W.alloc (E #[a d x.k,a d x.o,a d x.ck,a d x.cn,D x.cs,a d x.ac,a d x.ar,l x.af,l x.ag,a d x.bc,a d x.br,l x.bf,l x.bg,s KB x.kids.length kb] 177)).drew.alloc (E #[a d x.k,a d x.o,a d x.ck,a d x.cn,D x.cs,a d x.ac,a d x.ar,l x.af,l x.ag,a d x.bc,a d x.br,l x.bf,l x.bg,s KB x.kids.length kb] 177)).heap.size):=Nat.le_trans G5.out h3.out.size;have H2:(W.alloc (E #[a d x.k,a d x.o,a d x.ck,a d x.cn,D x.cs,a d x.ac,a d x.ar,l x.af,l x.ag,a d x.bc,a d x.br,l x.bf,l x.bg,s KB x.kids.length kb] 177)).drew.heap.size=W.heap.size+1:=by simp
 have H9:Hid (∀(j:Nat) u,(Qx x KB kb)[j]? =some u->((W.alloc (E #[a d x.k,a d x.o,a d x.ck,a d x.cn,D x.cs,a d x.ac,a d x.ar,l x.af,l x.ag,a d x.bc,a d x.br,l x.bf,l x.bg,s KB x.kids.length kb] 177)).drew.alloc (E #[a d x.k,a d x.o,a d x.ck,a d x.cn,D x.cs,a d x.ac,a d x.ar,l x.af,l x.ag,a d x.bc,a d x.br,l x.bf,l x.bg,s KB x.kids.length kb] 177)).cell? (Addr.add ⟨W.heap.size+1,0,none⟩ j)=some u):=by
  have h9:=World.news_of_block (cs:= #[a d x.k,a d x.o,a d x.ck,a d x.cn,D x.cs,a d x.ac,a d x.ar,l x.af,l x.ag,a d x.bc,a d x.br,l x.bf,l x.bg,s KB x.kids.length kb]) (t:=177) (fr:=(0,0)) (heap_alloc_new (W.alloc (E #[a d x.k,a d x.o,a d x.ck,a d x.cn,D x.cs,a d x.ac,a d x.ar,l x.af,l x.ag,a d x.bc,a d x.br,l x.bf,l x.bg,s KB x.kids.length kb] 177)).drew _);rw[H2]at h9;exact h9
 clear H2
 have H7:Hid (∀u∈Qx x KB kb,u.oneCell'=true):=by
  show∀u∈Qx x KB kb,u.oneCell'=true;intro u hu;simp only[Qx,List.mem_cons,List.not_mem_nil,or_false]at hu;rcases hu with rfl | rfl | rfl | rfl | rfl | rfl | rfl | rfl | rfl | rfl | rfl | rfl | rfl | rfl<;>rfl
 have g0:Hid (v.ownBlock≠some r/\v.ownBlock≠some W.heap.size):=⟨fun e=>by have:=(HY.out.1.lt r e).1;omega,fun e=>by have:=(HY.out.1.lt _ e).2;omega⟩
 have G0:Hid (∀w3,((W.alloc (E #[a d x.k,a d x.o,a d x.ck,a d x.cn,D x.cs,a d x.ac,a d x.ar,l x.af,l x.ag,a d x.bc,a d x.br,l x.bf,l x.bg,s KB x.kids.length kb] 177)).drew.alloc (E #[a d x.k,a d x.o,a d x.ck,a d x.cn,D x.cs,a d x.ac,a d x.ar,l x.af,l x.ag,a d x.bc,a d x.br,l x.bf,l x.bg,s KB x.kids.length kb] 177)).grownBy w3 v.ownBlock-> ∀o,w3.cell? ⟨W.heap.size,o,none⟩=(W.alloc (E #[a d x.k,a d x.o,a d x.ck,a d x.cn,D x.cs,a d x.ac,a d x.ar,l x.af,l x.ag,a d x.bc,a d x.br,l x.bf,l x.bg,s KB x.kids.length kb] 177)).cell? ⟨W.heap.size,o,none⟩):=fun w3 hg o=>by
  have hb:=hg.block W.heap.size (by simp;omega) (fun e=>g0.out.2 e.symm);have e1:w3.cell? ⟨W.heap.size,o,none⟩=((W.alloc (E #[a d x.k,a d x.o,a d x.ck,a d x.cn,D x.cs,a d x.ac,a d x.ar,l x.af,l x.ag,a d x.bc,a d x.br,l x.bf,l x.bg,s KB x.kids.length kb] 177)).drew.alloc (E #[a d x.k,a d x.o,a d x.ck,a d x.cn,D x.cs,a d x.ac,a d x.ar,l x.af,l x.ag,a d x.bc,a d x.br,l x.bf,l x.bg,s KB x.kids.length kb] 177)).cell? ⟨W.heap.size,o,none⟩:=by unfold World.cell?;simp only[hb]
  rw[e1];exact(((Below.refl _ _).alloc (Nat.le_refl _) _).cell (p:=⟨W.heap.size,o,none⟩) (by simp))
 have G1:Hid (∀w3,((W.alloc (E #[a d x.k,a d x.o,a d x.ck,a d x.cn,D x.cs,a d x.ac,a d x.ar,l x.af,l x.ag,a d x.bc,a d x.br,l x.bf,l x.bg,s KB x.kids.length kb] 177)).drew.alloc (E #[a d x.k,a d x.o,a d x.ck,a d x.cn,D x.cs,a d x.ac,a d x.ar,l x.af,l x.ag,a d x.bc,a d x.br,l x.bf,l x.bg,s KB x.kids.length kb] 177)).grownBy w3 v.ownBlock->w3.heap[r]? =W.heap[r]?):=fun w3 hg=>(hg.block r (Nat.lt_of_lt_of_le H3 h3.out.size) (fun e=>g0.out.1 e.symm)).trans (h3.out.block r H3)
 have H6:Hid (∀w3,((W.alloc (E #[a d x.k,a d x.o,a d x.ck,a d x.cn,D x.cs,a d x.ac,a d x.ar,l x.af,l x.ag,a d x.bc,a d x.br,l x.bf,l x.bg,s KB x.kids.length kb] 177)).drew.alloc (E #[a d x.k,a d x.o,a d x.ck,a d x.cn,D x.cs,a d x.ac,a d x.ar,l x.af,l x.ag,a d x.bc,a d x.br,l x.bf,l x.bg,s KB x.kids.length kb] 177)).grownBy w3 v.ownBlock->w3.cell? ⟨r,2,none⟩=some v):=fun w3 hg=>by
  have hb:=G1.out w3 hg;have e1:w3.cell? ⟨r,2,none⟩=W.cell? ⟨r,2,none⟩:=by unfold World.cell?;simp only[hb]
  exact e1.trans c2
 have g7:Hid (∀w3,((W.alloc (E #[a d x.k,a d x.o,a d x.ck,a d x.cn,D x.cs,a d x.ac,a d x.ar,l x.af,l x.ag,a d x.bc,a d x.br,l x.bf,l x.bg,s KB x.kids.length kb] 177)).drew.alloc (E #[a d x.k,a d x.o,a d x.ck,a d x.cn,D x.cs,a d x.ac,a d x.ar,l x.af,l x.ag,a d x.bc,a d x.br,l x.bf,l x.bg,s KB x.kids.length kb] 177)).grownBy w3 v.ownBlock->w3.frozen? ⟨r,2,none⟩=false):=fun w3 hg=>by
  have hb:=G1.out w3 hg;have e1:w3.frozen? ⟨r,2,none⟩=W.frozen? ⟨r,2,none⟩:=by unfold World.frozen?;simp only[hb]
  exact e1.trans f2
 have g5:Hid (∀(w3:World) (u:Value),((W.alloc (E #[a d x.k,a d x.o,a d x.ck,a d x.cn,D x.cs,a d x.ac,a d x.ar,l x.af,l x.ag,a d x.bc,a d x.br,l x.bf,l x.bg,s KB x.kids.length kb] 177)).drew.alloc (E #[a d x.k,a d x.o,a d x.ck,a d x.cn,D x.cs,a d x.ac,a d x.ar,l x.af,l x.ag,a d x.bc,a d x.br,l x.bf,l x.bg,s KB x.kids.length kb] 177)).grownBy w3 v.ownBlock->Fr r v W (w3.setCell ⟨r,2,none⟩ u)):=fun w3 u hg=>by
  have f1:Fr r v W ((W.alloc (E #[a d x.k,a d x.o,a d x.ck,a d x.cn,D x.cs,a d x.ac,a d x.ar,l x.af,l x.ag,a d x.bc,a d x.br,l x.bf,l x.bg,s KB x.kids.length kb] 177)).drew.alloc (E #[a d x.k,a d x.o,a d x.ck,a d x.cn,D x.cs,a d x.ac,a d x.ar,l x.af,l x.ag,a d x.bc,a d x.br,l x.bf,l x.bg,s KB x.kids.length kb] 177)):=Fr.bel h3.out;have f2:Fr r v ((W.alloc (E #[a d x.k,a d x.o,a d x.ck,a d x.cn,D x.cs,a d x.ac,a d x.ar,l x.af,l x.ag,a d x.bc,a d x.br,l x.bf,l x.bg,s KB x.kids.length kb] 177)).drew.alloc (E #[a d x.k,a d x.o,a d x.ck,a d x.cn,D x.cs,a d x.ac,a d x.ar,l x.af,l x.ag,a d x.bc,a d x.br,l x.bf,l x.bg,s KB x.kids.length kb] 177)) w3:=⟨hg.os,hg.tape,hg.output,hg.size,fun q hq _ hv=>hg.block q hq (fun e=>hv e.symm)⟩;exact(f1.trans (NB.refl _ _) f2).trans (NB.refl _ _) (Fr.gb (Ze _ _ _ _))
 have g4:Hid (∀gg gcap,v.ownBlock=some gg\/gg=W.heap.size+2->NB W v (s (some ⟨gg,0,none⟩) (out.length+1) gcap)):=fun gg gcap ha q hq=>by
  have G4:some gg=some q:=hq;cases G4
  rcases ha with e | e
  ·exact F e
  ·exact L (by omega)
 unfold ndR;go_enter func245,ntmps245;go_wp2_with fail
 refine wp_region_held_drew (S:=(fun w'=> ∀o,w'.cell? ⟨W.heap.size,o,none⟩=(W.alloc (E #[a d x.k,a d x.o,a d x.ck,a d x.cn,D x.cs,a d x.ac,a d x.ar,l x.af,l x.ag,a d x.bc,a d x.br,l x.bf,l x.bg,s KB x.kids.length kb] 177)).cell? ⟨W.heap.size,o,none⟩)) (by kernel_rfl) (fun _=>rfl) (fun hHeld=> ?_);refine tkA 0 ?_;refine tkB 1 ?_;refine tkA 2 ?_;refine tkB 3 ?_;refine tkB 5 ?_;refine rqB 4 6 (fun Kq hKq=> ?_) (fun Kq hKq=> ?_)
 ·go_simp;refine hkB hKq (fun _=>rfl) fun hHeld=> ?_;clear hKq Kq;refine rqA 6 (fun Kq hKq=> ?_);go_simp;refine hkB hKq (fun o=>(((Below.refl _ _).alloc (Nat.le_refl _) _).cell (p:=⟨W.heap.size,o,none⟩) (by simp))) fun hHeld=> ?_;clear hKq Kq
  refine rqA 7 (fun Kq hKq=> ?_);refine step_append_lies _ (by rfl) _ _ _ (by rfl) B 177 i0 _ 14 120 underlying129 hi H1 H0 h8 rfl (by omega) v out.length ys (by rfl) H8.out ⟨W.heap.size+1,0,none⟩ 1 1 (Qx x KB kb) (by rfl) (by rfl) H9.out H7.out (by omega) (by unfold maxLen;omega) (by omega) g9.out (W.heap.size+2) (by simp) ?_;intro gg gcap w3 hown3 hgrow hat hlt3;have h4:Hid (((W.alloc (E #[a d x.k,a d x.o,a d x.ck,a d x.cn,D x.cs,a d x.ac,a d x.ar,l x.af,l x.ag,a d x.bc,a d x.br,l x.bf,l x.bg,s KB x.kids.length kb] 177)).drew.alloc (E #[a d x.k,a d x.o,a d x.ck,a d x.cn,D x.cs,a d x.ac,a d x.ar,l x.af,l x.ag,a d x.bc,a d x.br,l x.bf,l x.bg,s KB x.kids.length kb] 177)).grownBy w3 v.ownBlock):=hgrow;have h5:Hid (v.ownBlock=some gg\/gg=W.heap.size+2):=hat;have h2:Hid (RdI W0 Z (w3.setCell ⟨r,2,none⟩ (s (some ⟨gg,0,none⟩) (out.length+1) gcap)) r A cap ps k (s (some ⟨gg,0,none⟩) (out.length+1) gcap) B (out++ [x])):=HS.out.grow HY.out.1 HY.out.2.1 HY.out.2.2.1 HY.out.2.2.2 g6.out g8.out h3.out HK.out hgrow hown3;have h0: ∀o,w3.cell? ⟨W.heap.size,o,none⟩=(W.alloc (E #[a d x.k,a d x.o,a d x.ck,a d x.cn,D x.cs,a d x.ac,a d x.ar,l x.af,l x.ag,a d x.bc,a d x.br,l x.bf,l x.bg,s KB x.kids.length kb] 177)).cell? ⟨W.heap.size,o,none⟩:=G0.out w3 hgrow
  have e3:w3.cell? ⟨r,2,none⟩=some v:=H6.out w3 hgrow;have g3:w3.frozen? ⟨r,2,none⟩=false:=g7.out w3 hgrow;clear hown3 hgrow hat hlt3;refine hkB hKq (h0) fun hHeld=> ?_;clear hKq Kq;refine tkA 8 ?_;refine tkB 9 ?_
  refine rqA 10 (fun Kq hKq=> ?_);go_simp;refine hkB hKq (fun o=>(World.cell?_setCell_far _ _ _ _ (by simp only;omega)).trans (h0 o)) fun hHeld=> ?_;clear hKq Kq;refine wpAnyH_done (by kernel_rfl) ?_ _;have h7:Hid (Fr r v W (w3.setCell ⟨r,2,none⟩ (s (some ⟨gg,0,none⟩) (out.length+1) gcap))):=g5.out w3 _ h4.out;have h6:Hid (NB W v (s (some ⟨gg,0,none⟩) (out.length+1) gcap)):=g4.out gg gcap h5.out
  have h1: ∀o,(w3.setCell ⟨r,2,none⟩ (s (some ⟨gg,0,none⟩) (out.length+1) gcap)).cell? ⟨W.heap.size,o,none⟩=(W.alloc (E #[a d x.k,a d x.o,a d x.ck,a d x.cn,D x.cs,a d x.ac,a d x.ar,l x.af,l x.ag,a d x.bc,a d x.br,l x.bf,l x.bg,s KB x.kids.length kb] 177)).cell? ⟨W.heap.size,o,none⟩:=fun o=>(World.cell?_setCell_far _ _ _ _ (by simp only;omega)).trans (h0 o);clear h0 h1 e3 g3 h4 h5;generalize (w3.setCell ⟨r,2,none⟩ (s (some ⟨gg,0,none⟩) (out.length+1) gcap))=Wf at*
  obtain⟨_,⟨d0,d1,d2⟩,g1,g2⟩:=h2.out.ri;have G3:r<Wf.heap.size:=h2.out.ri.lt;have G2:IntKind.i64.wrap ((out.length:Int)+1-1)=(out.length:Int):=by rw[O];omega
  go_wp2_with fail
  go_ret;exact⟨_,Zn (by omega),h2.out,h6.out,h7.out⟩
 ·go_simp;refine hkB hKq (fun o=>(((Below.refl _ _).alloc (Nat.le_refl _) _).cell (p:=⟨W.heap.size,o,none⟩) (by simp))) fun hHeld=> ?_;clear hKq Kq;refine rqA 4 (fun Kq hKq=> ?_);go_simp;refine hkB hKq (fun o=>(((Below.refl _ _).alloc (Nat.le_refl _) _).cell (p:=⟨W.heap.size,o,none⟩) (by simp))) fun hHeld=> ?_;clear hKq Kq
  refine rqA 7 (fun Kq hKq=> ?_);refine step_append_lies _ (by rfl) _ _ _ (by rfl) B 177 i0 _ 14 120 underlying129 hi H1 H0 h8 rfl (by omega) v out.length ys (by rfl) H8.out ⟨W.heap.size+1,0,none⟩ 1 1 (Qx x KB kb) (by rfl) (by rfl) H9.out H7.out (by omega) (by unfold maxLen;omega) (by omega) g9.out (W.heap.size+2) (by simp) ?_;intro gg gcap w3 hown3 hgrow hat hlt3;have h4:Hid (((W.alloc (E #[a d x.k,a d x.o,a d x.ck,a d x.cn,D x.cs,a d x.ac,a d x.ar,l x.af,l x.ag,a d x.bc,a d x.br,l x.bf,l x.bg,s KB x.kids.length kb] 177)).drew.alloc (E #[a d x.k,a d x.o,a d x.ck,a d x.cn,D x.cs,a d x.ac,a d x.ar,l x.af,l x.ag,a d x.bc,a d x.br,l x.bf,l x.bg,s KB x.kids.length kb] 177)).grownBy w3 v.ownBlock):=hgrow;have h5:Hid (v.ownBlock=some gg\/gg=W.heap.size+2):=hat;have h2:Hid (RdI W0 Z (w3.setCell ⟨r,2,none⟩ (s (some ⟨gg,0,none⟩) (out.length+1) gcap)) r A cap ps k (s (some ⟨gg,0,none⟩) (out.length+1) gcap) B (out++ [x])):=HS.out.grow HY.out.1 HY.out.2.1 HY.out.2.2.1 HY.out.2.2.2 g6.out g8.out h3.out HK.out hgrow hown3;have h0: ∀o,w3.cell? ⟨W.heap.size,o,none⟩=(W.alloc (E #[a d x.k,a d x.o,a d x.ck,a d x.cn,D x.cs,a d x.ac,a d x.ar,l x.af,l x.ag,a d x.bc,a d x.br,l x.bf,l x.bg,s KB x.kids.length kb] 177)).cell? ⟨W.heap.size,o,none⟩:=G0.out w3 hgrow
  have e3:w3.cell? ⟨r,2,none⟩=some v:=H6.out w3 hgrow;have g3:w3.frozen? ⟨r,2,none⟩=false:=g7.out w3 hgrow;clear hown3 hgrow hat hlt3;refine hkB hKq (h0) fun hHeld=> ?_;clear hKq Kq;refine tkA 8 ?_;refine tkB 9 ?_
  refine rqA 10 (fun Kq hKq=> ?_);go_simp;refine hkB hKq (fun o=>(World.cell?_setCell_far _ _ _ _ (by simp only;omega)).trans (h0 o)) fun hHeld=> ?_;clear hKq Kq;refine wpAnyH_done (by kernel_rfl) ?_ _;have h7:Hid (Fr r v W (w3.setCell ⟨r,2,none⟩ (s (some ⟨gg,0,none⟩) (out.length+1) gcap))):=g5.out w3 _ h4.out;have h6:Hid (NB W v (s (some ⟨gg,0,none⟩) (out.length+1) gcap)):=g4.out gg gcap h5.out
  have h1: ∀o,(w3.setCell ⟨r,2,none⟩ (s (some ⟨gg,0,none⟩) (out.length+1) gcap)).cell? ⟨W.heap.size,o,none⟩=(W.alloc (E #[a d x.k,a d x.o,a d x.ck,a d x.cn,D x.cs,a d x.ac,a d x.ar,l x.af,l x.ag,a d x.bc,a d x.br,l x.bf,l x.bg,s KB x.kids.length kb] 177)).cell? ⟨W.heap.size,o,none⟩:=fun o=>(World.cell?_setCell_far _ _ _ _ (by simp only;omega)).trans (h0 o);clear h0 h1 e3 g3 h4 h5;generalize (w3.setCell ⟨r,2,none⟩ (s (some ⟨gg,0,none⟩) (out.length+1) gcap))=Wf at*
  obtain⟨_,⟨d0,d1,d2⟩,g1,g2⟩:=h2.out.ri;have G3:r<Wf.heap.size:=h2.out.ri.lt;have G2:IntKind.i64.wrap ((out.length:Int)+1-1)=(out.length:Int):=by rw[O];omega
  go_wp2_with fail
  go_ret;exact⟨_,Zn (by omega),h2.out,h6.out,h7.out⟩
theorem GU{W0:World}{Z:Nat->Prop}{B:Nat}(x:FN)(KB:Option H)(kb:Nat)(h:SI W0 (ZK Z (s KB x.kids.length kb)) W v r A cap ps B wr k v1 out)
  (hkk:wr.ownsRow B 2 1 (s KB x.kids.length kb) x.kids.length (x.kids.map (Value.int .i64))) (hkz: ∀b,(Value.slice KB x.kids.length kb).ownBlock=some b-> ¬Z b) (hcs:smF x) (hl:out.length<=30000):
  Calls prog 245 #[.pointer (some ⟨r,0,none⟩),ndR x KB kb] wr fun e w'=>e= M (a d out.length)/\ ∃v',SI W0 Z W v r A cap ps B w' k v' (out++ [x]):=
 (Qtz x KB kb r A cap ps k v1 B out wr h.st hkk hkz hcs hl).mono fun e w'=>by
  rintro⟨v',rfl,h1,h2,h3⟩;exact⟨rfl,v',(h.weak (fun b hb=>F hb)).step h1 h2 h3⟩
end Go.Proofs.YtomadadmakdkgaaGreatDoor
