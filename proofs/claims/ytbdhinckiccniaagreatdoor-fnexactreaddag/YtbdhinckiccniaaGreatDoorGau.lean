import Derived.Test.YtbdhinckiccniaaGreatDoorGat
import Derived.Test.YtbdhinckiccniaaGreatDoorGan
import Derived.Test.YtbdhinckiccniaaGreatDoorGap
import Derived.Test.YtbdhinckiccniaaGreatDoorMn
set_option linter.unusedSimpArgs false
set_option linter.unusedVariables false
set_option maxHeartbeats 8000000
set_option maxRecDepth 100000
namespace Go.Proofs.YtbdhinckiccniaaGreatDoor
open Go.RowKit
theorem FTL.below {W W':World} (h:FTL W) (hb:Below W.heap.size W W'):FTL W':=by
 obtain⟨g,f,hgf⟩:=h;have hl:2<W.heap.size:=World.block_lt_of_cell? W ⟨2,0*3+1,none⟩ (hgf 0 (by omega)).1;exact⟨g,f,fun m hm=>⟨(hb.cell (p:=⟨2,_,none⟩) hl).trans (hgf m hm).1,(hb.cell (p:=⟨2,_,none⟩) hl).trans (hgf m hm).2⟩⟩
structure GI (W:World):Prop where
 gt:GT W
 fl:FTL W
 vs:Vars W
theorem GI.below {W W':World} (h:GI W) (hb:Below W.heap.size W W'):GI W':=⟨h.gt.below hb,h.fl.below hb,h.vs.below hb⟩
theorem PcRow.below {W W':World} {A:Option Addr} {ps:List (List UInt8)} (h:PcRow W A ps) (hb:Below W.heap.size W W'):PcRow W' A ps:=
 ⟨h.1,fun i hi=>by
  obtain⟨b,o,e,hl,hc⟩:=h.2 i hi
  exact⟨b,o,e,Nat.lt_of_lt_of_le hl hb.size,(hb.cell (p:=⟨b,_,none⟩) hl).trans hc⟩⟩
theorem Ri.lt {W:World} {r:Nat} {A:Option Addr} {cap:Nat} {ps:List (List UInt8)} {k:Nat} {v:Value} (h:Ri W r A cap ps k v):r<W.heap.size:=World.block_lt_of_cell? W ⟨r,0,none⟩ h.2.1.1
theorem Ri.blk {W W':World} {r:Nat} {A:Option Addr} {cap:Nat} {ps:List (List UInt8)} {k:Nat} {v:Value} (h:Ri W r A cap ps k v) (hb:W'.heap[r]? =W.heap[r]?):Ri W' r A cap ps k v:=by
 have cellr: ∀o,W'.cell? ⟨r,o,none⟩=W.cell? ⟨r,o,none⟩:=fun o=>by unfold World.cell?;simp only [hb]
 have frzr: ∀o,W'.frozen? ⟨r,o,none⟩=W.frozen? ⟨r,o,none⟩:=fun o=>by unfold World.frozen?;simp only [hb]
 obtain⟨h0,⟨c0,c1,c2⟩,f1,f2⟩:=h;exact⟨h0,⟨(cellr _).trans c0,(cellr _).trans c1,(cellr _).trans c2⟩,(frzr _).trans f1,(frzr _).trans f2⟩
theorem Ri.at1 {W:World} {r:Nat} {A:Option Addr} {cap:Nat} {ps:List (List UInt8)} {k:Nat} {v:Value} (h:Ri W r A cap ps k v) (j:Nat) (hj:j≤ps.length) (z:Int) (hz:z=(j:Int)):Ri (W.setCell ⟨r,1,none⟩ (.int .i64 z)) r A cap ps j v:=by
 subst hz;obtain⟨h0,⟨c0,c1,c2⟩,f1,f2⟩:=h;refine⟨hj,⟨?_,?_,?_⟩,?_,?_⟩
 ·exact(World.cell?_setCell_other _ ⟨r,1,none⟩ ⟨r,0,none⟩ _ (fun e=>by cases e)).trans c0
 ·exact World.cell?_setCell_same _ _ _ c1
 ·exact(World.cell?_setCell_other _ ⟨r,1,none⟩ ⟨r,2,none⟩ _ (fun e=>by cases e)).trans c2
 ·exact(World.frozen?_setCell _ _ _ _).trans f1
 ·exact(World.frozen?_setCell _ _ _ _).trans f2
theorem Ri.at2 {W:World} {r:Nat} {A:Option Addr} {cap:Nat} {ps:List (List UInt8)} {k:Nat} {v:Value} (h:Ri W r A cap ps k v) (u:Value):Ri (W.setCell ⟨r,2,none⟩ u) r A cap ps k u:=by
 obtain⟨h0,⟨c0,c1,c2⟩,f1,f2⟩:=h;refine⟨h0,⟨?_,?_,?_⟩,?_,?_⟩
 ·exact(World.cell?_setCell_other _ ⟨r,2,none⟩ ⟨r,0,none⟩ _ (fun e=>by cases e)).trans c0
 ·exact(World.cell?_setCell_other _ ⟨r,2,none⟩ ⟨r,1,none⟩ _ (fun e=>by cases e)).trans c1
 ·exact World.cell?_setCell_same _ _ _ c2
 ·exact(World.frozen?_setCell _ _ _ _).trans f1
 ·exact(World.frozen?_setCell _ _ _ _).trans f2
def smF (x:FN):Prop:=x.cs.size≤2000∧x.kids.length≤2000
def KDR (ys:List Value) (n:Nat):Prop:= ∀i j,i<n→j<n→i≠j→ ∀b,kbR ys i=some b→kbR ys j≠some b
structure RdI (W0:World) (Z:Nat→Prop) (W:World) (r:Nat) (A:Option Addr) (cap:Nat) (ps:List (List UInt8)) (k:Nat) (v:Value) (B:Nat) (out:List FN):Prop where
 ri:Ri W r A cap ps k v
 pc:PcRow W0 A ps
 gi:GI W0
 anc:Below W0.heap.size W0 W
 ar:W0.heap.size≤r
 rb:r<B
 bw:B≤W.heap.size
 zl: ∀b,Z b→b<W.heap.size
 sm: ∀x∈out,smF x
 own: ∃ys,W.ownsRow B 201 14 v out.length ys∧FnPart W B ys (ouF out) out.length∧KDR ys out.length∧ ∀i,i<out.length→ ∀b,kbR ys i=some b→ ¬Z b
section
variable {W0:World} {Z:Nat→Prop} {r:Nat} {A:Option Addr} {cap:Nat} {ps:List (List UInt8)} {B:Nat}
theorem RdI.pcr {W:World} {k:Nat} {v:Value} {out:List FN} (h:RdI W0 Z W r A cap ps k v B out):PcRow W A ps:=h.pc.below h.anc
theorem RdI.gir {W:World} {k:Nat} {v:Value} {out:List FN} (h:RdI W0 Z W r A cap ps k v B out):GI W:=h.gi.below h.anc
theorem RdI.gb {W W':World} {k k':Nat} {v:Value} {out:List FN} (h:RdI W0 Z W r A cap ps k v B out) (hr:Ri W' r A cap ps k' v) (hg:W.grownBy W' (some r)):RdI W0 Z W' r A cap ps k' v B out:=by
 obtain⟨ys,ho,hp,hkd,hav⟩:=h.own;have hb:=h.rb;have ha:=h.ar;refine⟨hr,h.pc,h.gi,h.anc.trans ⟨hg.os,hg.tape,hg.output,hg.size,fun q hq=>hg.block q (Nat.lt_of_lt_of_le hq h.anc.size) (fun e=>by cases e;omega)⟩,h.ar,h.rb,Nat.le_trans h.bw hg.size,fun b hz=>Nat.lt_of_lt_of_le (h.zl b hz) hg.size,h.sm,ys,ho.kept hg ?_,fun i hi=> ?_,hkd,hav⟩
 ·cases hv:v.ownBlock with
  | none=>exact Or.inl rfl
  | some q=>right;intro e;cases e;have:=(ho.lt _ hv).1;omega
 ·obtain⟨KA,kc,h1,h2⟩:=hp i hi;refine⟨KA,kc,h1,h2.kept hg ?_⟩;cases hv:(Value.slice KA (ouF out i).kids.length kc).ownBlock with
  | none=>exact Or.inl rfl
  | some q=>right;intro e;cases e;have:=(h2.lt _ hv).1;omega
theorem RdI.bel {W W':World} {k:Nat} {v:Value} {out:List FN} (h:RdI W0 Z W r A cap ps k v B out) (hb:Below W.heap.size W W'):RdI W0 Z W' r A cap ps k v B out:=by
 obtain⟨ys,ho,hp,hkd,hav⟩:=h.own;exact⟨h.ri.blk (hb.block r h.ri.lt),h.pc,h.gi,Qc h.anc hb,h.ar,h.rb,Nat.le_trans h.bw hb.size,fun b hz=>Nat.lt_of_lt_of_le (h.zl b hz) hb.size,h.sm,ys,Qf ho hb,hp.below hb,hkd,hav⟩
theorem RdI.grow {W W1 w3:World} {k:Nat} {v:Value} {out:List FN} {x:FN} {KB:Option Addr} {kb gg gcap:Nat} {ys:List Value} (h:RdI W0 (ZK Z (.slice KB x.kids.length kb)) W r A cap ps k v B out) (hy:W.ownsRow B 201 14 v out.length ys) (hp:FnPart W B ys (ouF out) out.length) (hkd:KDR ys out.length) (hav: ∀i,i<out.length→ ∀b,kbR ys i=some b→ ¬ZK Z (.slice KB x.kids.length kb) b) (hkz: ∀b,(Value.slice KB x.kids.length kb).ownBlock=some b→ ¬Z b) (hsm:smF x)
  (hb1:Below W.heap.size W W1) (hk:W.ownsRow B 2 1 (.slice KB x.kids.length kb) x.kids.length (x.kids.map (Value.int .i64))) (hg:W1.grownBy w3 v.ownBlock)
  (ho:w3.ownsRow B 201 14 (.slice (some ⟨gg,0,none⟩) (out.length+1) gcap) (out.length+1) (ys++Yn x KB kb)):
  RdI W0 Z (w3.setCell ⟨r,2,none⟩ (.slice (some ⟨gg,0,none⟩) (out.length+1) gcap)) r A cap ps k (.slice (some ⟨gg,0,none⟩) (out.length+1) gcap) B (out++ [x]):=by
 have hrb:=h.rb;have har:=h.ar;have hrl:=h.ri.lt;have hne:v.ownBlock≠some r:=fun e=>by have:=(hy.lt r e).1;omega
 have hblk:w3.heap[r]? =W.heap[r]?:=(hg.block r (Nat.lt_of_lt_of_le hrl hb1.size) (fun e=>hne e.symm)).trans (hb1.block r hrl);have hanc:Below W0.heap.size W0 w3:=(Qc h.anc hb1).trans ⟨hg.os,hg.tape,hg.output,hg.size,fun q hq=>hg.block q (Nat.lt_of_lt_of_le hq (Qc h.anc hb1).size) (fun e=>by have:=(hy.lt q e.symm).1;omega)⟩
 have hst: ∀u,Below W0.heap.size w3 (w3.setCell ⟨r,2,none⟩ u):=fun u=>by
  have g:=QQ w3 r 2 u;exact⟨g.os,g.tape,g.output,g.size,fun q hq=>g.block q (Nat.lt_of_lt_of_le hq hanc.size) (fun e=>by cases e;omega)⟩
 refine⟨(h.ri.blk hblk).at2 _,h.pc,h.gi,hanc.trans (hst _),har,hrb,?_,fun b hz=> ?_,fun y hy=> ?_,?_⟩
 ·have h1:=h.bw;have h2:=hb1.size;have h3:=hg.size;simp;omega
 ·have h1:=h.zl b (Or.inl hz);have h2:=hb1.size;have h3:=hg.size;simp;omega
 ·rcases List.mem_append.1 hy with h9 | h9
  ·exact h.sm y h9
  ·rw [List.mem_singleton.1 h9];exact hsm
 ·rw [List.length_append];refine⟨ys++Yn x KB kb,ownsRow_setCell_below ho hrb _,fun i hi=> ?_,?_,fun i hi b hb=> ?_⟩;rotate_left
  ·have hl:=hy.1
   have kold: ∀i,i<out.length→kbR (ys++Yn x KB kb) i=kbR ys i:=fun i hi=>by
    unfold kbR;rw [List.getElem?_append_left (by omega)]
   have knew:kbR (ys++Yn x KB kb) out.length=(Value.slice KB x.kids.length kb).ownBlock:=by
    unfold kbR;rw [List.getElem?_append_right (by omega),show out.length*14+13-ys.length=13 by omega];rfl
   intro i j hi hj hne b hb1 hb2;simp only [List.length_cons,List.length_nil]at hi hj;by_cases ei:i<out.length
   ·rw [kold i ei]at hb1;by_cases ej:j<out.length
    ·rw [kold j ej]at hb2;exact hkd i j ei ej hne b hb1 hb2
    ·obtain rfl:j=out.length:=by omega
     rw [knew]at hb2;exact hav i ei b hb1 (Or.inr hb2)
   ·obtain rfl:i=out.length:=by omega
    have ej:j<out.length:=by omega
    rw [knew]at hb1;rw [kold j ej]at hb2;exact hav j ej b hb2 (Or.inr hb1)
  ·have hl:=hy.1;simp only [List.length_cons,List.length_nil]at hi;unfold kbR at hb;by_cases e:i<out.length
   ·rw [List.getElem?_append_left (by omega)]at hb;exact fun hz=>hav i e b hb (Or.inl hz)
   ·obtain rfl:i=out.length:=by omega
    rw [List.getElem?_append_right (by omega),show out.length*14+13-ys.length=13 by omega]at hb;exact hkz b hb
  have hp1:FnPart W1 B ys (ouF (out++ [x])) out.length:=fun i hi=>by
   obtain⟨KA,kc,h1,h2⟩:=hp i hi;rw [Qf0 hi];exact⟨KA,kc,h1,Qf h2 hb1⟩
  obtain⟨KA,kc,h1,h2⟩:=Dh (G:=ouF (out++ [x])) Qfz (Qf hy hb1) hp1 (Qf hk hb1) hg i hi;exact⟨KA,kc,h1,ownsRow_setCell_below h2 hrb _⟩
theorem RdI.weak {Z':Nat→Prop} {W:World} {k:Nat} {v:Value} {out:List FN} (h:RdI W0 Z' W r A cap ps k v B out) (hz: ∀b,Z b→Z' b):RdI W0 Z W r A cap ps k v B out:=by
 obtain⟨ys,ho,hp,hkd,hav⟩:=h.own;exact⟨h.ri,h.pc,h.gi,h.anc,h.ar,h.rb,h.bw,fun b hb=>h.zl b (hz b hb),h.sm,ys,ho,hp,hkd,fun i hi b hb hzb=>hav i hi b hb (hz b hzb)⟩
theorem RdI.new {W W':World} {k:Nat} {v:Value} {out:List FN} {g n gcap:Nat} (h:RdI W0 Z W r A cap ps k v B out) (hb:Below W.heap.size W W') (hg:W.heap.size≤g) (hl:g<W'.heap.size):RdI W0 (ZK Z (.slice (some ⟨g,0,none⟩) n gcap)) W' r A cap ps k v B out:=by
 obtain⟨ys,ho,hp,hkd,hav⟩:=h.own;have h':=h.bel hb;refine⟨h'.ri,h'.pc,h'.gi,h'.anc,h'.ar,h'.rb,h'.bw,fun b hb=> ?_,h.sm,ys,Qf ho hb,hp.below hb,hkd,fun i hi b hb2 hzb=> ?_⟩
 ·rcases hb with hb | hb
  ·exact h'.zl b hb
  ·cases hb;exact hl
 ·rcases hzb with hz | hz
  ·exact hav i hi b hb2 hz
  ·cases hz
   have:g<W.heap.size:=EZ hp hi hb2;omega
theorem RdI.kids {W w3:World} {k:Nat} {v:Value} {out:List FN} {C n gg n' cap':Nat} {kv:Value} {xs:List Value} (h:RdI W0 (ZK Z kv) W r A cap ps k v B out) (hk:W.ownsRow C 2 1 kv n xs) (hC:r<C) (hg:W.grownBy w3 kv.ownBlock) (hat:kv.ownBlock=some gg∨gg=W.heap.size) (hlt:gg<w3.heap.size):
  RdI W0 (ZK Z (.slice (some ⟨gg,0,none⟩) n' cap')) w3 r A cap ps k v B out:=by
 obtain⟨ys,ho,hp,hkd,hav⟩:=h.own;have hrl:=h.ri.lt;have har:=h.ar;have hne:kv.ownBlock≠some r:=fun e=>by have:=(hk.lt r e).1;omega
 have hblk:w3.heap[r]? =W.heap[r]?:=hg.block r hrl (fun e=>hne e.symm);have hanc:Below W0.heap.size W0 w3:=h.anc.trans ⟨hg.os,hg.tape,hg.output,hg.size,fun q hq=>hg.block q (Nat.lt_of_lt_of_le hq h.anc.size) (fun e=>by have:=(hk.lt q e.symm).1;omega)⟩;refine⟨h.ri.blk hblk,h.pc,h.gi,hanc,h.ar,h.rb,Nat.le_trans h.bw hg.size,fun b hb=> ?_,h.sm,ys,?_,?_,hkd,fun i hi b hb hzb=> ?_⟩
 ·rcases hb with hb | hb
  ·exact Nat.lt_of_lt_of_le (h.zl b (Or.inl hb)) hg.size
  ·cases hb;exact hlt
 ·exact ho.kept hg (Yq ho hk (by decide))
 ·intro i hi;obtain⟨KA,kc,h1,h2⟩:=hp i hi;refine⟨KA,kc,h1,h2.kept hg ?_⟩;cases hq:(Value.slice KA (ouF out i).kids.length kc).ownBlock with
  | none=>exact Or.inl rfl
  | some b=>
   right
   intro e;exact hav i hi b (by rw [Nk (W:=W) (B:=B) h1];exact hq) (Or.inr e.symm)
 ·rcases hzb with hz | hz
  ·exact hav i hi b hb (Or.inl hz)
  ·cases hz
   rcases hat with e | e
   ·exact hav i hi gg hb (Or.inr e)
   ·have:gg<W.heap.size:=EZ hp hi hb;omega
end
structure SI (W0:World) (Z:Nat→Prop) (W:World) (v:Value) (r:Nat) (A:Option Addr) (cap:Nat) (ps:List (List UInt8)) (B:Nat) (wr:World) (k:Nat) (v1:Value) (out:List FN):Prop where
 st:RdI W0 Z wr r A cap ps k v1 B out
 nb:NB W v v1
 fr:Fr r v W wr
section
variable {W0:World} {Z:Nat→Prop} {W:World} {v:Value} {r:Nat} {A:Option Addr} {cap:Nat} {ps:List (List UInt8)} {B:Nat}
theorem SI.start {k:Nat} {out:List FN} (h:RdI W0 Z W r A cap ps k v B out):SI W0 Z W v r A cap ps B W k v out:=⟨h,NB.refl _ _,Fr.refl _ _ _⟩
theorem SI.step {w1 w2:World} {v1 v2:Value} {k k2:Nat} {out out2:List FN} (h:SI W0 Z W v r A cap ps B w1 k v1 out) (h2:RdI W0 Z w2 r A cap ps k2 v2 B out2) (hn:NB w1 v1 v2) (hf:Fr r v1 w1 w2):SI W0 Z W v r A cap ps B w2 k2 v2 out2:=
 ⟨h2,h.nb.trans h.fr.2.2.2.1 hn,h.fr.trans h.nb hf⟩
theorem SI.on {w1 w2:World} {v1 v2:Value} {k k2:Nat} {out out2:List FN} (h:SI W0 Z W v r A cap ps B w1 k v1 out) (h2:SI W0 Z w1 v1 r A cap ps B w2 k2 v2 out2):SI W0 Z W v r A cap ps B w2 k2 v2 out2:=h.step h2.st h2.nb h2.fr
theorem SI.gb {w1 w2:World} {v1:Value} {k k2:Nat} {out:List FN} (h:SI W0 Z W v r A cap ps B w1 k v1 out) (hr:Ri w2 r A cap ps k2 v1) (hg:w1.grownBy w2 (some r)):SI W0 Z W v r A cap ps B w2 k2 v1 out:=
 h.step (h.st.gb hr hg) (NB.refl _ _) (Fr.gb hg)
theorem SI.bel {w1 w2:World} {v1:Value} {k:Nat} {out:List FN} (h:SI W0 Z W v r A cap ps B w1 k v1 out) (hb:Below w1.heap.size w1 w2):SI W0 Z W v r A cap ps B w2 k v1 out:=
 h.step (h.st.bel hb) (NB.refl _ _) (Fr.bel hb)
theorem SI.draws {w1:World} {v1:Value} {k:Nat} {out:List FN} (h:SI W0 Z W v r A cap ps B w1 k v1 out) (n:Nat):SI W0 Z W v r A cap ps B (w1.drewN n) k v1 out:=h.gb (k2:=k) h.st.ri (Qq _ _ n)
theorem SI.weak {Z':Nat→Prop} {w1:World} {v1:Value} {k:Nat} {out:List FN} (h:SI W0 Z' W v r A cap ps B w1 k v1 out) (hz: ∀b,Z b→Z' b):SI W0 Z W v r A cap ps B w1 k v1 out:=⟨h.st.weak hz,h.nb,h.fr⟩
theorem SI.new {w1 w2:World} {v1:Value} {k g n gcap:Nat} {out:List FN} (h:SI W0 Z W v r A cap ps B w1 k v1 out) (hb:Below w1.heap.size w1 w2) (hg:w1.heap.size≤g) (hl:g<w2.heap.size):SI W0 (ZK Z (.slice (some ⟨g,0,none⟩) n gcap)) W v r A cap ps B w2 k v1 out:=
 ⟨h.st.new hb hg hl,h.nb,h.fr.trans h.nb (Fr.bel hb)⟩
theorem SI.nil {w1:World} {v1:Value} {k n gcap:Nat} {out:List FN} (h:SI W0 Z W v r A cap ps B w1 k v1 out):SI W0 (ZK Z (.slice none n gcap)) W v r A cap ps B w1 k v1 out:=
 h.weak (fun b hb=>by
  rcases hb with hb | hb
  ·exact hb
  ·cases hb)
theorem Zj {k:Nat} (h:Zl ps k≠ []):k<ps.length:=by
 rcases Nat.lt_or_ge k ps.length with h9 | h9
 ·exact h9
 ·exact absurd (Qbz h9) h
theorem Va {wr:World} {v1:Value} {k m:Nat} {out:List FN} (h:SI W0 Z W v r A cap ps B wr k v1 out) (hm:m≤1):
  Calls Tryz.prog 288 #[.pointer (some ⟨r,0,none⟩),.int .i64 (m:Int)] wr fun e w'=>e= .returned (.string (bs (Zl ps (k+m))))∧SI W0 Z W v r A cap ps B w' k v1 out:=
 (Qbp r A cap ps k m v1 wr h.st.ri h.st.pcr hm).mono fun e w'=>by
  rintro⟨rfl,n,rfl⟩;exact⟨rfl,h.draws n⟩
theorem Gg {wr:World} {v1:Value} {k:Nat} {out:List FN} (h:SI W0 Z W v r A cap ps B wr k v1 out):
  Calls Tryz.prog 306 #[.pointer (some ⟨r,0,none⟩)] wr fun e w'=>
   (Zl ps k= []∧e= .panicked noF∧Fr r v W w')∨(Zl ps k≠ []∧e= .returned (.string (bs (Zl ps k)))∧SI W0 Z W v r A cap ps B w' (k+1) v1 out):=
 (Ee r A cap ps k v1 wr h.st.ri h.st.pcr).mono fun e w'=>by
  rintro(⟨h1,rfl,n,rfl⟩ | ⟨h1,rfl,n,rfl⟩)
  ·exact Or.inl ⟨h1,rfl,(h.draws n).fr⟩
  ·exact Or.inr ⟨h1,rfl,(h.draws n).gb ((h.draws n).st.ri.at1 (k+1) (Zj h1) _ (by omega)) (QQ _ _ _ _)⟩
theorem GE (c:UInt8) {wr:World} {v1:Value} {k:Nat} {out:List FN} (h:SI W0 Z W v r A cap ps B wr k v1 out):
  Calls Tryz.prog 324 #[.pointer (some ⟨r,0,none⟩),.string (bs [c])] wr fun e w'=>
   (Zl ps k= [c]∧(∃x,e= .returned x)∧SI W0 Z W v r A cap ps B w' (k+1) v1 out)∨(Zl ps k≠ [c]∧e= .panicked noF∧Fr r v W w'):=
 (Di c r A cap ps k v1 wr h.st.ri h.st.pcr).mono fun e w'=>by
  rintro(⟨h1,hx,n,rfl⟩ | ⟨h1,rfl,hg⟩)
  ·exact Or.inl ⟨h1,hx,(h.draws n).gb ((h.draws n).st.ri.at1 (k+1) (Zj (by rw [h1];simp)) _ (by omega)) (QQ _ _ _ _)⟩
  ·exact Or.inr ⟨h1,rfl,h.fr.trans h.nb (Fr.gb hg)⟩
end
theorem Qsc {W0:World} {Z:Nat→Prop} (x:FN) (KB:Option Addr) (kb r:Nat) (A:Option Addr) (cap:Nat) (ps:List (List UInt8)) (k:Nat) (v:Value) (B:Nat) (out:List FN) (W:World) (h:RdI W0 (ZK Z (.slice KB x.kids.length kb)) W r A cap ps k v B out)
  (hkk:W.ownsRow B 2 1 (.slice KB x.kids.length kb) x.kids.length (x.kids.map (Value.int .i64))) (hkz: ∀b,(Value.slice KB x.kids.length kb).ownBlock=some b→ ¬Z b) (hcs:smF x) (hl:out.length≤30000):
  Calls Tryz.prog 307 #[.pointer (some ⟨r,0,none⟩),ndR x KB kb] W fun e w'=>
   ∃v',e= .returned (.int .i64 out.length)∧RdI W0 Z w' r A cap ps k v' B (out++ [x])∧NB W v v'∧Fr r v W w':=by
 have HS:Hid (RdI W0 (ZK Z (.slice KB x.kids.length kb)) W r A cap ps k v B out):=h;have HK:Hid (W.ownsRow B 2 1 (.slice KB x.kids.length kb) x.kids.length (x.kids.map (Value.int .i64))):=hkk;have HCS:Hid (smF x):=hcs;have hrl:r<W.heap.size:=h.ri.lt;obtain⟨ys,ho,hp,hkd,hav⟩:=h.own;have HY:Hid (W.ownsRow B 201 14 v out.length ys∧FnPart W B ys (ouF out) out.length∧KDR ys out.length∧ ∀i,i<out.length→ ∀b,kbR ys i=some b→ ¬ZK Z (.slice KB x.kids.length kb) b):=⟨ho,hp,hkd,hav⟩;have HKZ:Hid (∀b,(Value.slice KB x.kids.length kb).ownBlock=some b→ ¬Z b):=hkz
 obtain⟨_,⟨c0,c1,c2⟩,f1,f2⟩:=h.ri;have hrb:=h.rb;have HBW:Hid (B≤W.heap.size):=h.bw;clear h hkk hcs ho hp hkd hav hkz;obtain⟨i0,hi,iz0,iz1,iz2⟩:=info_parts Qmy;have HB1:Hid (Below W.heap.size W ((W.alloc (.cells #[.int .i64 x.k,.int .i64 x.o,.int .i64 x.ck,.int .i64 x.cn,.string x.cs,.int .i64 x.ac,.int .i64 x.ar,.bool x.af,.bool x.ag,.int .i64 x.bc,.int .i64 x.br,.bool x.bf,.bool x.bg,.slice KB x.kids.length kb] 201)).drew.alloc (.cells #[.int .i64 x.k,.int .i64 x.o,.int .i64 x.ck,.int .i64 x.cn,.string x.cs,.int .i64 x.ac,.int .i64 x.ar,.bool x.af,.bool x.ag,.int .i64 x.bc,.int .i64 x.br,.bool x.bf,.bool x.bg,.slice KB x.kids.length kb] 201))):=by show Below _ _ _;go_grown
 have HOA:=hd (Qf HY.out.1 HB1.out);have HBZ:Hid (B≤((W.alloc (.cells #[.int .i64 x.k,.int .i64 x.o,.int .i64 x.ck,.int .i64 x.cn,.string x.cs,.int .i64 x.ac,.int .i64 x.ar,.bool x.af,.bool x.ag,.int .i64 x.bc,.int .i64 x.br,.bool x.bf,.bool x.bg,.slice KB x.kids.length kb] 201)).drew.alloc (.cells #[.int .i64 x.k,.int .i64 x.o,.int .i64 x.ck,.int .i64 x.cn,.string x.cs,.int .i64 x.ac,.int .i64 x.ar,.bool x.af,.bool x.ag,.int .i64 x.bc,.int .i64 x.br,.bool x.bf,.bool x.bg,.slice KB x.kids.length kb] 201)).heap.size):=Nat.le_trans HBW.out HB1.out.size;have hz1:(W.alloc (.cells #[.int .i64 x.k,.int .i64 x.o,.int .i64 x.ck,.int .i64 x.cn,.string x.cs,.int .i64 x.ac,.int .i64 x.ar,.bool x.af,.bool x.ag,.int .i64 x.bc,.int .i64 x.br,.bool x.bf,.bool x.bg,.slice KB x.kids.length kb] 201)).drew.heap.size=W.heap.size+1:=by simp
 have HNW:Hid (∀(j:Nat) u,(Yn x KB kb)[j]? =some u→((W.alloc (.cells #[.int .i64 x.k,.int .i64 x.o,.int .i64 x.ck,.int .i64 x.cn,.string x.cs,.int .i64 x.ac,.int .i64 x.ar,.bool x.af,.bool x.ag,.int .i64 x.bc,.int .i64 x.br,.bool x.bf,.bool x.bg,.slice KB x.kids.length kb] 201)).drew.alloc (.cells #[.int .i64 x.k,.int .i64 x.o,.int .i64 x.ck,.int .i64 x.cn,.string x.cs,.int .i64 x.ac,.int .i64 x.ar,.bool x.af,.bool x.ag,.int .i64 x.bc,.int .i64 x.br,.bool x.bf,.bool x.bg,.slice KB x.kids.length kb] 201)).cell? (Addr.add ⟨W.heap.size+1,0,none⟩ j)=some u):=by
  have h9:=World.news_of_block (cs:= #[.int .i64 x.k,.int .i64 x.o,.int .i64 x.ck,.int .i64 x.cn,.string x.cs,.int .i64 x.ac,.int .i64 x.ar,.bool x.af,.bool x.ag,.int .i64 x.bc,.int .i64 x.br,.bool x.bf,.bool x.bg,.slice KB x.kids.length kb]) (t:=201) (fr:=(0,0)) (heap_alloc_new (W.alloc (.cells #[.int .i64 x.k,.int .i64 x.o,.int .i64 x.ck,.int .i64 x.cn,.string x.cs,.int .i64 x.ac,.int .i64 x.ar,.bool x.af,.bool x.ag,.int .i64 x.bc,.int .i64 x.br,.bool x.bf,.bool x.bg,.slice KB x.kids.length kb] 201)).drew _);rw [hz1]at h9;exact h9
 clear hz1
 have HON:Hid (∀u∈Yn x KB kb,u.oneCell'=true):=by
  show∀u∈Yn x KB kb,u.oneCell'=true;intro u hu;simp only [Yn,List.mem_cons,List.not_mem_nil,or_false]at hu;rcases hu with rfl | rfl | rfl | rfl | rfl | rfl | rfl | rfl | rfl | rfl | rfl | rfl | rfl | rfl<;>rfl
 have HNE:Hid (v.ownBlock≠some r∧v.ownBlock≠some W.heap.size):=⟨fun e=>by have:=(HY.out.1.lt r e).1;omega,fun e=>by have:=(HY.out.1.lt _ e).2;omega⟩
 have HBX:Hid (∀w3,((W.alloc (.cells #[.int .i64 x.k,.int .i64 x.o,.int .i64 x.ck,.int .i64 x.cn,.string x.cs,.int .i64 x.ac,.int .i64 x.ar,.bool x.af,.bool x.ag,.int .i64 x.bc,.int .i64 x.br,.bool x.bf,.bool x.bg,.slice KB x.kids.length kb] 201)).drew.alloc (.cells #[.int .i64 x.k,.int .i64 x.o,.int .i64 x.ck,.int .i64 x.cn,.string x.cs,.int .i64 x.ac,.int .i64 x.ar,.bool x.af,.bool x.ag,.int .i64 x.bc,.int .i64 x.br,.bool x.bf,.bool x.bg,.slice KB x.kids.length kb] 201)).grownBy w3 v.ownBlock→ ∀o,w3.cell? ⟨W.heap.size,o,none⟩=(W.alloc (.cells #[.int .i64 x.k,.int .i64 x.o,.int .i64 x.ck,.int .i64 x.cn,.string x.cs,.int .i64 x.ac,.int .i64 x.ar,.bool x.af,.bool x.ag,.int .i64 x.bc,.int .i64 x.br,.bool x.bf,.bool x.bg,.slice KB x.kids.length kb] 201)).cell? ⟨W.heap.size,o,none⟩):=fun w3 hg o=>by
  have hb:=hg.block W.heap.size (by simp;omega) (fun e=>HNE.out.2 e.symm);have e1:w3.cell? ⟨W.heap.size,o,none⟩=((W.alloc (.cells #[.int .i64 x.k,.int .i64 x.o,.int .i64 x.ck,.int .i64 x.cn,.string x.cs,.int .i64 x.ac,.int .i64 x.ar,.bool x.af,.bool x.ag,.int .i64 x.bc,.int .i64 x.br,.bool x.bf,.bool x.bg,.slice KB x.kids.length kb] 201)).drew.alloc (.cells #[.int .i64 x.k,.int .i64 x.o,.int .i64 x.ck,.int .i64 x.cn,.string x.cs,.int .i64 x.ac,.int .i64 x.ar,.bool x.af,.bool x.ag,.int .i64 x.bc,.int .i64 x.br,.bool x.bf,.bool x.bg,.slice KB x.kids.length kb] 201)).cell? ⟨W.heap.size,o,none⟩:=by unfold World.cell?;simp only [hb]
  rw [e1];exact(((Below.refl _ _).alloc (Nat.le_refl _) _).cell (p:=⟨W.heap.size,o,none⟩) (by simp))
 have HBR:Hid (∀w3,((W.alloc (.cells #[.int .i64 x.k,.int .i64 x.o,.int .i64 x.ck,.int .i64 x.cn,.string x.cs,.int .i64 x.ac,.int .i64 x.ar,.bool x.af,.bool x.ag,.int .i64 x.bc,.int .i64 x.br,.bool x.bf,.bool x.bg,.slice KB x.kids.length kb] 201)).drew.alloc (.cells #[.int .i64 x.k,.int .i64 x.o,.int .i64 x.ck,.int .i64 x.cn,.string x.cs,.int .i64 x.ac,.int .i64 x.ar,.bool x.af,.bool x.ag,.int .i64 x.bc,.int .i64 x.br,.bool x.bf,.bool x.bg,.slice KB x.kids.length kb] 201)).grownBy w3 v.ownBlock→w3.heap[r]? =W.heap[r]?):=fun w3 hg=>(hg.block r (Nat.lt_of_lt_of_le hrl HB1.out.size) (fun e=>HNE.out.1 e.symm)).trans (HB1.out.block r hrl)
 have HR3:Hid (∀w3,((W.alloc (.cells #[.int .i64 x.k,.int .i64 x.o,.int .i64 x.ck,.int .i64 x.cn,.string x.cs,.int .i64 x.ac,.int .i64 x.ar,.bool x.af,.bool x.ag,.int .i64 x.bc,.int .i64 x.br,.bool x.bf,.bool x.bg,.slice KB x.kids.length kb] 201)).drew.alloc (.cells #[.int .i64 x.k,.int .i64 x.o,.int .i64 x.ck,.int .i64 x.cn,.string x.cs,.int .i64 x.ac,.int .i64 x.ar,.bool x.af,.bool x.ag,.int .i64 x.bc,.int .i64 x.br,.bool x.bf,.bool x.bg,.slice KB x.kids.length kb] 201)).grownBy w3 v.ownBlock→w3.cell? ⟨r,2,none⟩=some v):=fun w3 hg=>by
  have hb:=HBR.out w3 hg;have e1:w3.cell? ⟨r,2,none⟩=W.cell? ⟨r,2,none⟩:=by unfold World.cell?;simp only [hb]
  exact e1.trans c2
 have HF3:Hid (∀w3,((W.alloc (.cells #[.int .i64 x.k,.int .i64 x.o,.int .i64 x.ck,.int .i64 x.cn,.string x.cs,.int .i64 x.ac,.int .i64 x.ar,.bool x.af,.bool x.ag,.int .i64 x.bc,.int .i64 x.br,.bool x.bf,.bool x.bg,.slice KB x.kids.length kb] 201)).drew.alloc (.cells #[.int .i64 x.k,.int .i64 x.o,.int .i64 x.ck,.int .i64 x.cn,.string x.cs,.int .i64 x.ac,.int .i64 x.ar,.bool x.af,.bool x.ag,.int .i64 x.bc,.int .i64 x.br,.bool x.bf,.bool x.bg,.slice KB x.kids.length kb] 201)).grownBy w3 v.ownBlock→w3.frozen? ⟨r,2,none⟩=false):=fun w3 hg=>by
  have hb:=HBR.out w3 hg;have e1:w3.frozen? ⟨r,2,none⟩=W.frozen? ⟨r,2,none⟩:=by unfold World.frozen?;simp only [hb]
  exact e1.trans f2
 have HMF:Hid (∀(w3:World) (u:Value),((W.alloc (.cells #[.int .i64 x.k,.int .i64 x.o,.int .i64 x.ck,.int .i64 x.cn,.string x.cs,.int .i64 x.ac,.int .i64 x.ar,.bool x.af,.bool x.ag,.int .i64 x.bc,.int .i64 x.br,.bool x.bf,.bool x.bg,.slice KB x.kids.length kb] 201)).drew.alloc (.cells #[.int .i64 x.k,.int .i64 x.o,.int .i64 x.ck,.int .i64 x.cn,.string x.cs,.int .i64 x.ac,.int .i64 x.ar,.bool x.af,.bool x.ag,.int .i64 x.bc,.int .i64 x.br,.bool x.bf,.bool x.bg,.slice KB x.kids.length kb] 201)).grownBy w3 v.ownBlock→Fr r v W (w3.setCell ⟨r,2,none⟩ u)):=fun w3 u hg=>by
  have f1:Fr r v W ((W.alloc (.cells #[.int .i64 x.k,.int .i64 x.o,.int .i64 x.ck,.int .i64 x.cn,.string x.cs,.int .i64 x.ac,.int .i64 x.ar,.bool x.af,.bool x.ag,.int .i64 x.bc,.int .i64 x.br,.bool x.bf,.bool x.bg,.slice KB x.kids.length kb] 201)).drew.alloc (.cells #[.int .i64 x.k,.int .i64 x.o,.int .i64 x.ck,.int .i64 x.cn,.string x.cs,.int .i64 x.ac,.int .i64 x.ar,.bool x.af,.bool x.ag,.int .i64 x.bc,.int .i64 x.br,.bool x.bf,.bool x.bg,.slice KB x.kids.length kb] 201)):=Fr.bel HB1.out;have f2:Fr r v ((W.alloc (.cells #[.int .i64 x.k,.int .i64 x.o,.int .i64 x.ck,.int .i64 x.cn,.string x.cs,.int .i64 x.ac,.int .i64 x.ar,.bool x.af,.bool x.ag,.int .i64 x.bc,.int .i64 x.br,.bool x.bf,.bool x.bg,.slice KB x.kids.length kb] 201)).drew.alloc (.cells #[.int .i64 x.k,.int .i64 x.o,.int .i64 x.ck,.int .i64 x.cn,.string x.cs,.int .i64 x.ac,.int .i64 x.ar,.bool x.af,.bool x.ag,.int .i64 x.bc,.int .i64 x.br,.bool x.bf,.bool x.bg,.slice KB x.kids.length kb] 201)) w3:=⟨hg.os,hg.tape,hg.output,hg.size,fun q hq _ hv=>hg.block q hq (fun e=>hv e.symm)⟩;exact(f1.trans (NB.refl _ _) f2).trans (NB.refl _ _) (Fr.gb (QQ _ _ _ _))
 have HMN:Hid (∀gg gcap,v.ownBlock=some gg∨gg=W.heap.size+2→NB W v (.slice (some ⟨gg,0,none⟩) (out.length+1) gcap)):=fun gg gcap ha q hq=>by
  have hq2:some gg=some q:=hq;cases hq2
  rcases ha with e | e
  ·exact Or.inl e
  ·exact Or.inr (by omega)
 unfold ndR;go_enter Tryz.func307,Tryz.ntmps307;go_wp2_with fail
 refine wp_region_held_drew (S:=(fun w'=> ∀o,w'.cell? ⟨W.heap.size,o,none⟩=(W.alloc (.cells #[.int .i64 x.k,.int .i64 x.o,.int .i64 x.ck,.int .i64 x.cn,.string x.cs,.int .i64 x.ac,.int .i64 x.ar,.bool x.af,.bool x.ag,.int .i64 x.bc,.int .i64 x.br,.bool x.bf,.bool x.bg,.slice KB x.kids.length kb] 201)).cell? ⟨W.heap.size,o,none⟩)) (by kernel_rfl) (fun _=>rfl) (fun hHeld=> ?_);refine tkA 0 ?_;refine tkB 1 ?_;refine tkA 2 ?_;refine tkB 3 ?_;refine tkB 5 ?_;refine rqB 4 6 (fun Kq hKq=> ?_) (fun Kq hKq=> ?_)
 ·go_simp;refine hkB hKq (fun _=>rfl) fun hHeld=> ?_;clear hKq Kq;refine rqA 6 (fun Kq hKq=> ?_);go_simp;refine hkB hKq (fun o=>(((Below.refl _ _).alloc (Nat.le_refl _) _).cell (p:=⟨W.heap.size,o,none⟩) (by simp))) fun hHeld=> ?_;clear hKq Kq
  refine rqA 7 (fun Kq hKq=> ?_);refine step_append_lies _ (by rfl) _ _ _ (by rfl) B 201 i0 _ 14 120 Tryz.underlying141 hi iz0 iz1 iz2 rfl (by omega) v out.length ys (by rfl) HOA.out ⟨W.heap.size+1,0,none⟩ 1 1 (Yn x KB kb) (by rfl) (by rfl) HNW.out HON.out (by omega) (by unfold maxLen;omega) (by omega) HBZ.out (W.heap.size+2) (by simp) ?_;intro gg gcap w3 hown3 hgrow hat hlt3;have HG3:Hid (((W.alloc (.cells #[.int .i64 x.k,.int .i64 x.o,.int .i64 x.ck,.int .i64 x.cn,.string x.cs,.int .i64 x.ac,.int .i64 x.ar,.bool x.af,.bool x.ag,.int .i64 x.bc,.int .i64 x.br,.bool x.bf,.bool x.bg,.slice KB x.kids.length kb] 201)).drew.alloc (.cells #[.int .i64 x.k,.int .i64 x.o,.int .i64 x.ck,.int .i64 x.cn,.string x.cs,.int .i64 x.ac,.int .i64 x.ar,.bool x.af,.bool x.ag,.int .i64 x.bc,.int .i64 x.br,.bool x.bf,.bool x.bg,.slice KB x.kids.length kb] 201)).grownBy w3 v.ownBlock):=hgrow;have HAT:Hid (v.ownBlock=some gg∨gg=W.heap.size+2):=hat;have HST:Hid (RdI W0 Z (w3.setCell ⟨r,2,none⟩ (.slice (some ⟨gg,0,none⟩) (out.length+1) gcap)) r A cap ps k (.slice (some ⟨gg,0,none⟩) (out.length+1) gcap) B (out++ [x])):=HS.out.grow HY.out.1 HY.out.2.1 HY.out.2.2.1 HY.out.2.2.2 HKZ.out HCS.out HB1.out HK.out hgrow hown3;have hbx: ∀o,w3.cell? ⟨W.heap.size,o,none⟩=(W.alloc (.cells #[.int .i64 x.k,.int .i64 x.o,.int .i64 x.ck,.int .i64 x.cn,.string x.cs,.int .i64 x.ac,.int .i64 x.ar,.bool x.af,.bool x.ag,.int .i64 x.bc,.int .i64 x.br,.bool x.bf,.bool x.bg,.slice KB x.kids.length kb] 201)).cell? ⟨W.heap.size,o,none⟩:=HBX.out w3 hgrow
  have e3:w3.cell? ⟨r,2,none⟩=some v:=HR3.out w3 hgrow;have g3:w3.frozen? ⟨r,2,none⟩=false:=HF3.out w3 hgrow;clear hown3 hgrow hat hlt3;refine hkB hKq (hbx) fun hHeld=> ?_;clear hKq Kq;refine tkA 8 ?_;refine tkB 9 ?_
  refine rqA 10 (fun Kq hKq=> ?_);go_simp;refine hkB hKq (fun o=>(World.cell?_setCell_far _ _ _ _ (by simp only;omega)).trans (hbx o)) fun hHeld=> ?_;clear hKq Kq;refine wpAnyH_done (by kernel_rfl) ?_ _;have HFR:Hid (Fr r v W (w3.setCell ⟨r,2,none⟩ (.slice (some ⟨gg,0,none⟩) (out.length+1) gcap))):=HMF.out w3 _ HG3.out;have HNB:Hid (NB W v (.slice (some ⟨gg,0,none⟩) (out.length+1) gcap)):=HMN.out gg gcap HAT.out
  have hbx2: ∀o,(w3.setCell ⟨r,2,none⟩ (.slice (some ⟨gg,0,none⟩) (out.length+1) gcap)).cell? ⟨W.heap.size,o,none⟩=(W.alloc (.cells #[.int .i64 x.k,.int .i64 x.o,.int .i64 x.ck,.int .i64 x.cn,.string x.cs,.int .i64 x.ac,.int .i64 x.ar,.bool x.af,.bool x.ag,.int .i64 x.bc,.int .i64 x.br,.bool x.bf,.bool x.bg,.slice KB x.kids.length kb] 201)).cell? ⟨W.heap.size,o,none⟩:=fun o=>(World.cell?_setCell_far _ _ _ _ (by simp only;omega)).trans (hbx o);clear hbx hbx2 e3 g3 HG3 HAT;generalize (w3.setCell ⟨r,2,none⟩ (.slice (some ⟨gg,0,none⟩) (out.length+1) gcap))=Wf at*
  obtain⟨_,⟨d0,d1,d2⟩,g1,g2⟩:=HST.out.ri;have hrf:r<Wf.heap.size:=HST.out.ri.lt;have hwp:IntKind.i64.wrap ((out.length:Int)+1-1)=(out.length:Int):=by rw [IntKind.wrap_i64];omega
  go_wp2_with fail
  go_ret;exact⟨_,QY (by omega),HST.out,HNB.out,HFR.out⟩
 ·go_simp;refine hkB hKq (fun o=>(((Below.refl _ _).alloc (Nat.le_refl _) _).cell (p:=⟨W.heap.size,o,none⟩) (by simp))) fun hHeld=> ?_;clear hKq Kq;refine rqA 4 (fun Kq hKq=> ?_);go_simp;refine hkB hKq (fun o=>(((Below.refl _ _).alloc (Nat.le_refl _) _).cell (p:=⟨W.heap.size,o,none⟩) (by simp))) fun hHeld=> ?_;clear hKq Kq
  refine rqA 7 (fun Kq hKq=> ?_);refine step_append_lies _ (by rfl) _ _ _ (by rfl) B 201 i0 _ 14 120 Tryz.underlying141 hi iz0 iz1 iz2 rfl (by omega) v out.length ys (by rfl) HOA.out ⟨W.heap.size+1,0,none⟩ 1 1 (Yn x KB kb) (by rfl) (by rfl) HNW.out HON.out (by omega) (by unfold maxLen;omega) (by omega) HBZ.out (W.heap.size+2) (by simp) ?_;intro gg gcap w3 hown3 hgrow hat hlt3;have HG3:Hid (((W.alloc (.cells #[.int .i64 x.k,.int .i64 x.o,.int .i64 x.ck,.int .i64 x.cn,.string x.cs,.int .i64 x.ac,.int .i64 x.ar,.bool x.af,.bool x.ag,.int .i64 x.bc,.int .i64 x.br,.bool x.bf,.bool x.bg,.slice KB x.kids.length kb] 201)).drew.alloc (.cells #[.int .i64 x.k,.int .i64 x.o,.int .i64 x.ck,.int .i64 x.cn,.string x.cs,.int .i64 x.ac,.int .i64 x.ar,.bool x.af,.bool x.ag,.int .i64 x.bc,.int .i64 x.br,.bool x.bf,.bool x.bg,.slice KB x.kids.length kb] 201)).grownBy w3 v.ownBlock):=hgrow;have HAT:Hid (v.ownBlock=some gg∨gg=W.heap.size+2):=hat;have HST:Hid (RdI W0 Z (w3.setCell ⟨r,2,none⟩ (.slice (some ⟨gg,0,none⟩) (out.length+1) gcap)) r A cap ps k (.slice (some ⟨gg,0,none⟩) (out.length+1) gcap) B (out++ [x])):=HS.out.grow HY.out.1 HY.out.2.1 HY.out.2.2.1 HY.out.2.2.2 HKZ.out HCS.out HB1.out HK.out hgrow hown3;have hbx: ∀o,w3.cell? ⟨W.heap.size,o,none⟩=(W.alloc (.cells #[.int .i64 x.k,.int .i64 x.o,.int .i64 x.ck,.int .i64 x.cn,.string x.cs,.int .i64 x.ac,.int .i64 x.ar,.bool x.af,.bool x.ag,.int .i64 x.bc,.int .i64 x.br,.bool x.bf,.bool x.bg,.slice KB x.kids.length kb] 201)).cell? ⟨W.heap.size,o,none⟩:=HBX.out w3 hgrow
  have e3:w3.cell? ⟨r,2,none⟩=some v:=HR3.out w3 hgrow;have g3:w3.frozen? ⟨r,2,none⟩=false:=HF3.out w3 hgrow;clear hown3 hgrow hat hlt3;refine hkB hKq (hbx) fun hHeld=> ?_;clear hKq Kq;refine tkA 8 ?_;refine tkB 9 ?_
  refine rqA 10 (fun Kq hKq=> ?_);go_simp;refine hkB hKq (fun o=>(World.cell?_setCell_far _ _ _ _ (by simp only;omega)).trans (hbx o)) fun hHeld=> ?_;clear hKq Kq;refine wpAnyH_done (by kernel_rfl) ?_ _;have HFR:Hid (Fr r v W (w3.setCell ⟨r,2,none⟩ (.slice (some ⟨gg,0,none⟩) (out.length+1) gcap))):=HMF.out w3 _ HG3.out;have HNB:Hid (NB W v (.slice (some ⟨gg,0,none⟩) (out.length+1) gcap)):=HMN.out gg gcap HAT.out
  have hbx2: ∀o,(w3.setCell ⟨r,2,none⟩ (.slice (some ⟨gg,0,none⟩) (out.length+1) gcap)).cell? ⟨W.heap.size,o,none⟩=(W.alloc (.cells #[.int .i64 x.k,.int .i64 x.o,.int .i64 x.ck,.int .i64 x.cn,.string x.cs,.int .i64 x.ac,.int .i64 x.ar,.bool x.af,.bool x.ag,.int .i64 x.bc,.int .i64 x.br,.bool x.bf,.bool x.bg,.slice KB x.kids.length kb] 201)).cell? ⟨W.heap.size,o,none⟩:=fun o=>(World.cell?_setCell_far _ _ _ _ (by simp only;omega)).trans (hbx o);clear hbx hbx2 e3 g3 HG3 HAT;generalize (w3.setCell ⟨r,2,none⟩ (.slice (some ⟨gg,0,none⟩) (out.length+1) gcap))=Wf at*
  obtain⟨_,⟨d0,d1,d2⟩,g1,g2⟩:=HST.out.ri;have hrf:r<Wf.heap.size:=HST.out.ri.lt;have hwp:IntKind.i64.wrap ((out.length:Int)+1-1)=(out.length:Int):=by rw [IntKind.wrap_i64];omega
  go_wp2_with fail
  go_ret;exact⟨_,QY (by omega),HST.out,HNB.out,HFR.out⟩
theorem Hd {W0:World} {Z:Nat→Prop} {W:World} {v:Value} {r:Nat} {A:Option Addr} {cap:Nat} {ps:List (List UInt8)} {B:Nat} (x:FN) (KB:Option Addr) (kb:Nat) {wr:World} {v1:Value} {k:Nat} {out:List FN} (h:SI W0 (ZK Z (.slice KB x.kids.length kb)) W v r A cap ps B wr k v1 out)
  (hkk:wr.ownsRow B 2 1 (.slice KB x.kids.length kb) x.kids.length (x.kids.map (Value.int .i64))) (hkz: ∀b,(Value.slice KB x.kids.length kb).ownBlock=some b→ ¬Z b) (hcs:smF x) (hl:out.length≤30000):
  Calls Tryz.prog 307 #[.pointer (some ⟨r,0,none⟩),ndR x KB kb] wr fun e w'=>e= .returned (.int .i64 out.length)∧ ∃v',SI W0 Z W v r A cap ps B w' k v' (out++ [x]):=
 (Qsc x KB kb r A cap ps k v1 B out wr h.st hkk hkz hcs hl).mono fun e w'=>by
  rintro⟨v',rfl,h1,h2,h3⟩;exact⟨rfl,v',(h.weak (fun b hb=>Or.inl hb)).step h1 h2 h3⟩
end Go.Proofs.YtbdhinckiccniaaGreatDoor
