import Derived.Test.YtbdhinckiccniaaGreatDoorGaj
import Derived.Test.YtbdhinckiccniaaGreatDoorGak
import Derived.Deep.AppendLies
import Derived.Deep.RegionHeld3
import Derived.Test.YtbdhinckiccniaaGreatDoorMn
set_option linter.unusedSimpArgs false
set_option linter.unusedVariables false
set_option maxHeartbeats 8000000
set_option maxRecDepth 100000
namespace Go.Proofs.YtbdhinckiccniaaGreatDoor
open Go.RowKit
theorem Yq {W:World} {B B':Nat} {e e':TypeId} {s s' n n':Nat} {v v':Value} {xs xs':List Value} (h:W.ownsRow B e s v n xs) (h':W.ownsRow B' e' s' v' n' xs') (hne:e≠e'):v.ownBlock=none∨v.ownBlock≠v'.ownBlock:=by
 rcases h.2 with⟨rfl,_⟩ | ⟨g,cap,cur,rfl,_,hg,_⟩
 ·exact Or.inl rfl
 ·right
  rcases h'.2 with⟨rfl,_⟩ | ⟨g',cap',cur',rfl,_,hg',_⟩
  ·intro e;cases e
  ·intro e9;cases e9
   rw [hg]at hg';cases hg'
   exact hne rfl
theorem Dh {W W3:World} {B k:Nat} {v:Value} {ys:List Value} {G:Nat→FN} {x:FN} {KB:Option Addr} {kb:Nat} (hx:G k=x) (hW:W.ownsRow B 201 14 v k ys) (hp:FnPart W B ys G k)
  (hk:W.ownsRow B 2 1 (.slice KB x.kids.length kb) x.kids.length (x.kids.map (Value.int .i64))) (hg:W.grownBy W3 v.ownBlock):FnPart W3 B (ys++Yn x KB kb) G (k+1):=by
 subst hx;have hl:=hW.1;intro i hi;by_cases e:i=k
 ·subst e;exact⟨KB,kb,fun j hj=>by rw [List.getElem?_append_right (by omega),show i*14+j-ys.length=j by omega],hk.kept hg (Yq hk hW (by decide))⟩
 ·obtain⟨KA,kc,h1,h2⟩:=hp i (by omega);exact⟨KA,kc,fun j hj=>by rw [List.getElem?_append_left (by omega)];exact h1 j hj,h2.kept hg (Yq h2 hW (by decide))⟩
theorem Ju {W:World} {B n:Nat} {v:Value} {ys:List Value} {F:Nat→FN} (h:W.ownsRow B 201 14 v n ys) {B':Nat} (hp:FnPart W B' ys F n) (hs: ∀i,i<n→(F i).cs.size≤maxLen): ∃A cap,v= .slice A n cap∧FnRow W A n F:=by
 rcases h.2 with⟨rfl,rfl⟩ | ⟨g,cap,cur,rfl,_⟩
 ·exact⟨none,0,rfl,Nat.zero_le _,fun i hi=>by omega⟩
 ·exact⟨_,cap,rfl,Qik h hp hs⟩
def ndR (x:FN) (KA:Option Addr) (kc:Nat):Value:= .agg #[.int .i64 x.k,.int .i64 x.o,.int .i64 x.ck,.int .i64 x.cn,.string x.cs,.int .i64 x.ac,.int .i64 x.ar,.bool x.af,.bool x.ag,.int .i64 x.bc,.int .i64 x.br,.bool x.bf,.bool x.bg,.slice KA x.kids.length kc]
def dFN:FN:=⟨0,0,0,0,⟨#[]⟩,0,0,false,false,0,0,false,false,[]⟩
def ouF (out:List FN) (i:Nat):FN:=out.getD i dFN
def kbR (ys:List Value) (i:Nat):Option Nat:=(ys[i*14+13]?).bind Value.ownBlock
structure RdS (Z:Nat→Prop) (W:World) (r:Nat) (s:ByteArray) (k:Nat) (bad:Bool) (v:Value) (B:Nat) (out:List FN):Prop where
 rs:Rs W r s k bad v
 rb:r<B
 bw:B≤W.heap.size
 zl: ∀b,Z b→b<W.heap.size
 own: ∃ys,W.ownsRow B 201 14 v out.length ys∧FnPart W B ys (ouF out) out.length∧ ∀i,i<out.length→ ∀b,kbR ys i=some b→ ¬Z b
def Fr (r:Nat) (v:Value) (W W':World):Prop:=W'.os=W.os∧W'.tape=W.tape∧W'.output=W.output∧W.heap.size≤W'.heap.size∧ ∀q,q<W.heap.size→q≠r→v.ownBlock≠some q→W'.heap[q]? =W.heap[q]?
def NB (W:World) (v v':Value):Prop:= ∀q,v'.ownBlock=some q→v.ownBlock=some q∨W.heap.size≤q
theorem Fr.refl (r:Nat) (v:Value) (W:World):Fr r v W W:=⟨rfl,rfl,rfl,Nat.le_refl _,fun _ _ _ _=>rfl⟩
theorem NB.refl (W:World) (v:Value):NB W v v:=fun q h=>Or.inl h
theorem NB.trans {W W':World} {v v' v'':Value} (h:NB W v v') (hs:W.heap.size≤W'.heap.size) (h':NB W' v' v''):NB W v v'':=fun q hq=>by
 rcases h' q hq with e | e
 ·exact h q e
 ·exact Or.inr (Nat.le_trans hs e)
theorem Fr.trans {r:Nat} {v v':Value} {W W' W'':World} (h:Fr r v W W') (hn:NB W v v') (h':Fr r v' W' W''):Fr r v W W'':=by
 obtain⟨a1,a2,a3,a4,a5⟩:=h;obtain⟨b1,b2,b3,b4,b5⟩:=h';refine⟨b1.trans a1,b2.trans a2,b3.trans a3,Nat.le_trans a4 b4,fun q hq hr hv=> ?_⟩
 rw [b5 q (Nat.lt_of_lt_of_le hq a4) hr (fun e=>by
  rcases hn q e with h1 | h1
  ·exact hv h1
  ·omega)]
 exact a5 q hq hr hv
theorem Fr.gb {r:Nat} {v:Value} {W W':World} (h:W.grownBy W' (some r)):Fr r v W W':=⟨h.os,h.tape,h.output,h.size,fun q hq hr _=>h.block q hq (fun e=>hr (by cases e;rfl))⟩
theorem Fr.bel {r:Nat} {v:Value} {W W':World} (h:Below W.heap.size W W'):Fr r v W W':=⟨h.os,h.tape,h.output,h.size,fun q hq _ _=>h.block q hq⟩
theorem RdS.gb {Z:Nat→Prop} {W W':World} {r:Nat} {s:ByteArray} {k k':Nat} {bad bad':Bool} {v:Value} {B:Nat} {out:List FN} (h:RdS Z W r s k bad v B out) (hr:Rs W' r s k' bad' v) (hg:W.grownBy W' (some r)):RdS Z W' r s k' bad' v B out:=by
 obtain⟨ys,ho,hp,hav⟩:=h.own;have hb:=h.rb;refine⟨hr,h.rb,Nat.le_trans h.bw hg.size,fun b hz=>Nat.lt_of_lt_of_le (h.zl b hz) hg.size,ys,ho.kept hg ?_,fun i hi=> ?_,hav⟩
 ·cases hv:v.ownBlock with
  | none=>exact Or.inl rfl
  | some q=>right;intro e;cases e;have:=(ho.lt _ hv).1;omega
 ·obtain⟨KA,kc,h1,h2⟩:=hp i hi;refine⟨KA,kc,h1,h2.kept hg ?_⟩;cases hv:(Value.slice KA (ouF out i).kids.length kc).ownBlock with
  | none=>exact Or.inl rfl
  | some q=>right;intro e;cases e;have:=(h2.lt _ hv).1;omega
theorem RdS.bel {Z:Nat→Prop} {W W':World} {r:Nat} {s:ByteArray} {k:Nat} {bad:Bool} {v:Value} {B:Nat} {out:List FN} (h:RdS Z W r s k bad v B out) (hb:Below W.heap.size W W'):RdS Z W' r s k bad v B out:=by
 obtain⟨ys,ho,hp,hav⟩:=h.own;exact⟨h.rs.below hb,h.rb,Nat.le_trans h.bw hb.size,fun b hz=>Nat.lt_of_lt_of_le (h.zl b hz) hb.size,ys,Qf ho hb,hp.below hb,hav⟩
theorem NW {W W':World} {r B B' n m:Nat} {v u:Value} {xs zs:List Value} (h:W.ownsRow B' 2 1 u m zs) (hr:r<B') (hv:W.ownsRow B 201 14 v n xs) (hf:Fr r v W W'):W'.ownsRow B' 2 1 u m zs:=by
 rcases h.2 with⟨rfl,rfl⟩ | ⟨g,cap,cur,rfl,hB,hg,h1,h2,h3⟩
 ·exact⟨h.1,Or.inl ⟨rfl,rfl⟩⟩
 ·have hl:g<W.heap.size:=(Array.getElem?_eq_some_iff.1 hg).1
  have hne:v.ownBlock≠some g:=by
   intro e;rcases Yq h hv (by decide)with h9 | h9
   ·cases h9
   ·exact h9 e.symm
  exact⟨h.1,Or.inr ⟨g,cap,cur,rfl,hB,by rw [hf.2.2.2.2 g hl (by omega) hne];exact hg,h1,h2,h3⟩⟩
theorem Qf0 {out:List FN} {x:FN} {i:Nat} (h:i<out.length):ouF (out++ [x]) i=ouF out i:=by
 unfold ouF;rw [List.getD_eq_getElem?_getD,List.getD_eq_getElem?_getD,List.getElem?_append_left h]
theorem Qfz {out:List FN} {x:FN}:ouF (out++ [x]) out.length=x:=by
 unfold ouF;rw [List.getD_eq_getElem?_getD,List.getElem?_append_right (Nat.le_refl _)];simp
theorem RdS.grow {Z:Nat→Prop} {W W1 w3:World} {r:Nat} {s:ByteArray} {k:Nat} {bad:Bool} {v:Value} {B:Nat} {out:List FN} {x:FN} {KB:Option Addr} {kb gg gcap:Nat} {ys:List Value} (h:RdS Z W r s k bad v B out) (hy:W.ownsRow B 201 14 v out.length ys) (hp:FnPart W B ys (ouF out) out.length) (hav: ∀i,i<out.length→ ∀b,kbR ys i=some b→ ¬Z b) (hkz: ∀b,(Value.slice KB x.kids.length kb).ownBlock=some b→ ¬Z b)
  (hb1:Below W.heap.size W W1) (hk:W.ownsRow B 2 1 (.slice KB x.kids.length kb) x.kids.length (x.kids.map (Value.int .i64))) (hg:W1.grownBy w3 v.ownBlock)
  (ho:w3.ownsRow B 201 14 (.slice (some ⟨gg,0,none⟩) (out.length+1) gcap) (out.length+1) (ys++Yn x KB kb)):
  RdS Z (w3.setCell ⟨r,3,none⟩ (.slice (some ⟨gg,0,none⟩) (out.length+1) gcap)) r s k bad (.slice (some ⟨gg,0,none⟩) (out.length+1) gcap) B (out++ [x]):=by
 have hrb:=h.rb;have hrl:=h.rs.lt;have hne:v.ownBlock≠some r:=fun e=>by have:=(hy.lt r e).1;omega
 have hblk:w3.heap[r]? =W.heap[r]?:=(hg.block r (Nat.lt_of_lt_of_le hrl hb1.size) (fun e=>hne e.symm)).trans (hb1.block r hrl);have cellr: ∀o,w3.cell? ⟨r,o,none⟩=W.cell? ⟨r,o,none⟩:=fun o=>by unfold World.cell?;simp only [hblk]
 have frzr: ∀o,w3.frozen? ⟨r,o,none⟩=W.frozen? ⟨r,o,none⟩:=fun o=>by unfold World.frozen?;simp only [hblk]
 obtain⟨h0,⟨c0,c1,c2,c3⟩,f1,f2,f3⟩:=h.rs;refine⟨⟨h0,⟨?_,?_,?_,?_⟩,?_,?_,?_⟩,hrb,?_,fun b hz=> ?_,?_⟩
 ·exact(World.cell?_setCell_other _ ⟨r,3,none⟩ ⟨r,0,none⟩ _ (fun e=>by cases e)).trans ((cellr 0).trans c0)
 ·exact(World.cell?_setCell_other _ ⟨r,3,none⟩ ⟨r,1,none⟩ _ (fun e=>by cases e)).trans ((cellr 1).trans c1)
 ·exact(World.cell?_setCell_other _ ⟨r,3,none⟩ ⟨r,2,none⟩ _ (fun e=>by cases e)).trans ((cellr 2).trans c2)
 ·exact World.cell?_setCell_same _ _ _ ((cellr 3).trans c3)
 ·exact(World.frozen?_setCell _ _ _ _).trans ((frzr 1).trans f1)
 ·exact(World.frozen?_setCell _ _ _ _).trans ((frzr 2).trans f2)
 ·exact(World.frozen?_setCell _ _ _ _).trans ((frzr 3).trans f3)
 ·have h1:=h.bw;have h2:=hb1.size;have h3:=hg.size;simp;omega
 ·have h1:=h.zl b hz;have h2:=hb1.size;have h3:=hg.size;simp;omega
 ·rw [List.length_append];refine⟨ys++Yn x KB kb,ownsRow_setCell_below ho hrb _,fun i hi=> ?_,fun i hi b hb=> ?_⟩;rotate_left
  ·have hl:=hy.1;simp only [List.length_cons,List.length_nil]at hi;unfold kbR at hb;by_cases e:i<out.length
   ·rw [List.getElem?_append_left (by omega)]at hb;exact hav i e b hb
   ·obtain rfl:i=out.length:=by omega
    rw [List.getElem?_append_right (by omega),show out.length*14+13-ys.length=13 by omega]at hb;exact hkz b hb
  have hp1:FnPart W1 B ys (ouF (out++ [x])) out.length:=fun i hi=>by
   obtain⟨KA,kc,h1,h2⟩:=hp i hi;rw [Qf0 hi];exact⟨KA,kc,h1,Qf h2 hb1⟩
  obtain⟨KA,kc,h1,h2⟩:=Dh (G:=ouF (out++ [x])) Qfz (Qf hy hb1) hp1 (Qf hk hb1) hg i hi;exact⟨KA,kc,h1,ownsRow_setCell_below h2 hrb _⟩
theorem RdS.bad {Z:Nat→Prop} {W:World} {r:Nat} {s:ByteArray} {k:Nat} {b:Bool} {v:Value} {B:Nat} {out:List FN} (h:RdS Z W r s k b v B out):RdS Z (W.setCell ⟨r,2,none⟩ (.bool true)) r s k true v B out:=by
 obtain⟨h0,⟨c0,c1,c2,c3⟩,f1,f2,f3⟩:=h.rs;refine h.gb ⟨h0,⟨?_,?_,?_,?_⟩,?_,?_,?_⟩ (QQ _ _ _ _)
 ·exact(World.cell?_setCell_other _ ⟨r,2,none⟩ ⟨r,0,none⟩ _ (fun e=>by cases e)).trans c0
 ·exact(World.cell?_setCell_other _ ⟨r,2,none⟩ ⟨r,1,none⟩ _ (fun e=>by cases e)).trans c1
 ·exact World.cell?_setCell_same _ _ _ c2
 ·exact(World.cell?_setCell_other _ ⟨r,2,none⟩ ⟨r,3,none⟩ _ (fun e=>by cases e)).trans c3
 ·exact(World.frozen?_setCell _ _ _ _).trans f1
 ·exact(World.frozen?_setCell _ _ _ _).trans f2
 ·exact(World.frozen?_setCell _ _ _ _).trans f3
theorem JG {Z:Nat→Prop} (x:FN) (KB:Option Addr) (kb r:Nat) (s:ByteArray) (k:Nat) (bad:Bool) (v:Value) (B:Nat) (out:List FN) (W:World) (h:RdS Z W r s k bad v B out)
  (hkk:W.ownsRow B 2 1 (.slice KB x.kids.length kb) x.kids.length (x.kids.map (Value.int .i64))) (hkz: ∀b,(Value.slice KB x.kids.length kb).ownBlock=some b→ ¬Z b) (hcs:x.cs.size≤maxLen) (hl:out.length≤30000):
  Calls Tryz.prog 217 #[.pointer (some ⟨r,0,none⟩),ndR x KB kb] W fun e w'=>
   ∃v',e= .returned (.int .i64 out.length)∧RdS Z w' r s k (bad || !(decide (out.length+1≤60)&&QN x)) v' B (out++ [x])∧NB W v v'∧Fr r v W w':=by
 have HS:Hid (RdS Z W r s k bad v B out):=h;have HK:Hid (W.ownsRow B 2 1 (.slice KB x.kids.length kb) x.kids.length (x.kids.map (Value.int .i64))):=hkk;have HCS:Hid (x.cs.size≤maxLen):=hcs;have hrl:r<W.heap.size:=h.rs.lt;obtain⟨ys,ho,hp,hav⟩:=h.own;have HY:Hid (W.ownsRow B 201 14 v out.length ys∧FnPart W B ys (ouF out) out.length∧ ∀i,i<out.length→ ∀b,kbR ys i=some b→ ¬Z b):=⟨ho,hp,hav⟩;have HKZ:Hid (∀b,(Value.slice KB x.kids.length kb).ownBlock=some b→ ¬Z b):=hkz
 obtain⟨_,⟨c0,c1,c2,c3⟩,f1,f2,f3⟩:=h.rs;have hrb:=h.rb;have HBW:Hid (B≤W.heap.size):=h.bw;clear h hkk hcs ho hp hav hkz;obtain⟨i0,hi,iz0,iz1,iz2⟩:=info_parts Qmy;have HB1:Hid (Below W.heap.size W ((W.alloc (.cells #[.int .i64 x.k,.int .i64 x.o,.int .i64 x.ck,.int .i64 x.cn,.string x.cs,.int .i64 x.ac,.int .i64 x.ar,.bool x.af,.bool x.ag,.int .i64 x.bc,.int .i64 x.br,.bool x.bf,.bool x.bg,.slice KB x.kids.length kb] 201)).drew.alloc (.cells #[.int .i64 x.k,.int .i64 x.o,.int .i64 x.ck,.int .i64 x.cn,.string x.cs,.int .i64 x.ac,.int .i64 x.ar,.bool x.af,.bool x.ag,.int .i64 x.bc,.int .i64 x.br,.bool x.bf,.bool x.bg,.slice KB x.kids.length kb] 201))):=by show Below _ _ _;go_grown
 have HOA:=hd (Qf HY.out.1 HB1.out);have HBZ:Hid (B≤((W.alloc (.cells #[.int .i64 x.k,.int .i64 x.o,.int .i64 x.ck,.int .i64 x.cn,.string x.cs,.int .i64 x.ac,.int .i64 x.ar,.bool x.af,.bool x.ag,.int .i64 x.bc,.int .i64 x.br,.bool x.bf,.bool x.bg,.slice KB x.kids.length kb] 201)).drew.alloc (.cells #[.int .i64 x.k,.int .i64 x.o,.int .i64 x.ck,.int .i64 x.cn,.string x.cs,.int .i64 x.ac,.int .i64 x.ar,.bool x.af,.bool x.ag,.int .i64 x.bc,.int .i64 x.br,.bool x.bf,.bool x.bg,.slice KB x.kids.length kb] 201)).heap.size):=Nat.le_trans HBW.out HB1.out.size;have hz1:(W.alloc (.cells #[.int .i64 x.k,.int .i64 x.o,.int .i64 x.ck,.int .i64 x.cn,.string x.cs,.int .i64 x.ac,.int .i64 x.ar,.bool x.af,.bool x.ag,.int .i64 x.bc,.int .i64 x.br,.bool x.bf,.bool x.bg,.slice KB x.kids.length kb] 201)).drew.heap.size=W.heap.size+1:=by simp
 have HNW:Hid (∀(j:Nat) u,(Yn x KB kb)[j]? =some u→((W.alloc (.cells #[.int .i64 x.k,.int .i64 x.o,.int .i64 x.ck,.int .i64 x.cn,.string x.cs,.int .i64 x.ac,.int .i64 x.ar,.bool x.af,.bool x.ag,.int .i64 x.bc,.int .i64 x.br,.bool x.bf,.bool x.bg,.slice KB x.kids.length kb] 201)).drew.alloc (.cells #[.int .i64 x.k,.int .i64 x.o,.int .i64 x.ck,.int .i64 x.cn,.string x.cs,.int .i64 x.ac,.int .i64 x.ar,.bool x.af,.bool x.ag,.int .i64 x.bc,.int .i64 x.br,.bool x.bf,.bool x.bg,.slice KB x.kids.length kb] 201)).cell? (Addr.add ⟨W.heap.size+1,0,none⟩ j)=some u):=by
  have h9:=World.news_of_block (cs:= #[.int .i64 x.k,.int .i64 x.o,.int .i64 x.ck,.int .i64 x.cn,.string x.cs,.int .i64 x.ac,.int .i64 x.ar,.bool x.af,.bool x.ag,.int .i64 x.bc,.int .i64 x.br,.bool x.bf,.bool x.bg,.slice KB x.kids.length kb]) (t:=201) (fr:=(0,0)) (heap_alloc_new (W.alloc (.cells #[.int .i64 x.k,.int .i64 x.o,.int .i64 x.ck,.int .i64 x.cn,.string x.cs,.int .i64 x.ac,.int .i64 x.ar,.bool x.af,.bool x.ag,.int .i64 x.bc,.int .i64 x.br,.bool x.bf,.bool x.bg,.slice KB x.kids.length kb] 201)).drew _);rw [hz1]at h9;exact h9
 clear hz1
 have HON:Hid (∀u∈Yn x KB kb,u.oneCell'=true):=by
  show∀u∈Yn x KB kb,u.oneCell'=true;intro u hu;simp only [Yn,List.mem_cons,List.not_mem_nil,or_false]at hu;rcases hu with rfl | rfl | rfl | rfl | rfl | rfl | rfl | rfl | rfl | rfl | rfl | rfl | rfl | rfl<;>rfl
 have HNE:Hid (v.ownBlock≠some r∧v.ownBlock≠some W.heap.size):=⟨fun e=>by have:=(HY.out.1.lt r e).1;omega,fun e=>by have:=(HY.out.1.lt _ e).2;omega⟩
 have HBX:Hid (∀w3,((W.alloc (.cells #[.int .i64 x.k,.int .i64 x.o,.int .i64 x.ck,.int .i64 x.cn,.string x.cs,.int .i64 x.ac,.int .i64 x.ar,.bool x.af,.bool x.ag,.int .i64 x.bc,.int .i64 x.br,.bool x.bf,.bool x.bg,.slice KB x.kids.length kb] 201)).drew.alloc (.cells #[.int .i64 x.k,.int .i64 x.o,.int .i64 x.ck,.int .i64 x.cn,.string x.cs,.int .i64 x.ac,.int .i64 x.ar,.bool x.af,.bool x.ag,.int .i64 x.bc,.int .i64 x.br,.bool x.bf,.bool x.bg,.slice KB x.kids.length kb] 201)).grownBy w3 v.ownBlock→ ∀o,w3.cell? ⟨W.heap.size,o,none⟩=(W.alloc (.cells #[.int .i64 x.k,.int .i64 x.o,.int .i64 x.ck,.int .i64 x.cn,.string x.cs,.int .i64 x.ac,.int .i64 x.ar,.bool x.af,.bool x.ag,.int .i64 x.bc,.int .i64 x.br,.bool x.bf,.bool x.bg,.slice KB x.kids.length kb] 201)).cell? ⟨W.heap.size,o,none⟩):=fun w3 hg o=>by
  have hb:=hg.block W.heap.size (by simp;omega) (fun e=>HNE.out.2 e.symm);have e1:w3.cell? ⟨W.heap.size,o,none⟩=((W.alloc (.cells #[.int .i64 x.k,.int .i64 x.o,.int .i64 x.ck,.int .i64 x.cn,.string x.cs,.int .i64 x.ac,.int .i64 x.ar,.bool x.af,.bool x.ag,.int .i64 x.bc,.int .i64 x.br,.bool x.bf,.bool x.bg,.slice KB x.kids.length kb] 201)).drew.alloc (.cells #[.int .i64 x.k,.int .i64 x.o,.int .i64 x.ck,.int .i64 x.cn,.string x.cs,.int .i64 x.ac,.int .i64 x.ar,.bool x.af,.bool x.ag,.int .i64 x.bc,.int .i64 x.br,.bool x.bf,.bool x.bg,.slice KB x.kids.length kb] 201)).cell? ⟨W.heap.size,o,none⟩:=by unfold World.cell?;simp only [hb]
  rw [e1];exact(((Below.refl _ _).alloc (Nat.le_refl _) _).cell (p:=⟨W.heap.size,o,none⟩) (by simp))
 have HBR:Hid (∀w3,((W.alloc (.cells #[.int .i64 x.k,.int .i64 x.o,.int .i64 x.ck,.int .i64 x.cn,.string x.cs,.int .i64 x.ac,.int .i64 x.ar,.bool x.af,.bool x.ag,.int .i64 x.bc,.int .i64 x.br,.bool x.bf,.bool x.bg,.slice KB x.kids.length kb] 201)).drew.alloc (.cells #[.int .i64 x.k,.int .i64 x.o,.int .i64 x.ck,.int .i64 x.cn,.string x.cs,.int .i64 x.ac,.int .i64 x.ar,.bool x.af,.bool x.ag,.int .i64 x.bc,.int .i64 x.br,.bool x.bf,.bool x.bg,.slice KB x.kids.length kb] 201)).grownBy w3 v.ownBlock→w3.heap[r]? =W.heap[r]?):=fun w3 hg=>(hg.block r (Nat.lt_of_lt_of_le hrl HB1.out.size) (fun e=>HNE.out.1 e.symm)).trans (HB1.out.block r hrl)
 have HR3:Hid (∀w3,((W.alloc (.cells #[.int .i64 x.k,.int .i64 x.o,.int .i64 x.ck,.int .i64 x.cn,.string x.cs,.int .i64 x.ac,.int .i64 x.ar,.bool x.af,.bool x.ag,.int .i64 x.bc,.int .i64 x.br,.bool x.bf,.bool x.bg,.slice KB x.kids.length kb] 201)).drew.alloc (.cells #[.int .i64 x.k,.int .i64 x.o,.int .i64 x.ck,.int .i64 x.cn,.string x.cs,.int .i64 x.ac,.int .i64 x.ar,.bool x.af,.bool x.ag,.int .i64 x.bc,.int .i64 x.br,.bool x.bf,.bool x.bg,.slice KB x.kids.length kb] 201)).grownBy w3 v.ownBlock→w3.cell? ⟨r,3,none⟩=some v):=fun w3 hg=>by
  have hb:=HBR.out w3 hg;have e1:w3.cell? ⟨r,3,none⟩=W.cell? ⟨r,3,none⟩:=by unfold World.cell?;simp only [hb]
  exact e1.trans c3
 have HF3:Hid (∀w3,((W.alloc (.cells #[.int .i64 x.k,.int .i64 x.o,.int .i64 x.ck,.int .i64 x.cn,.string x.cs,.int .i64 x.ac,.int .i64 x.ar,.bool x.af,.bool x.ag,.int .i64 x.bc,.int .i64 x.br,.bool x.bf,.bool x.bg,.slice KB x.kids.length kb] 201)).drew.alloc (.cells #[.int .i64 x.k,.int .i64 x.o,.int .i64 x.ck,.int .i64 x.cn,.string x.cs,.int .i64 x.ac,.int .i64 x.ar,.bool x.af,.bool x.ag,.int .i64 x.bc,.int .i64 x.br,.bool x.bf,.bool x.bg,.slice KB x.kids.length kb] 201)).grownBy w3 v.ownBlock→w3.frozen? ⟨r,3,none⟩=false):=fun w3 hg=>by
  have hb:=HBR.out w3 hg;have e1:w3.frozen? ⟨r,3,none⟩=W.frozen? ⟨r,3,none⟩:=by unfold World.frozen?;simp only [hb]
  exact e1.trans f3
 have HMF:Hid (∀(w3:World) (u:Value),((W.alloc (.cells #[.int .i64 x.k,.int .i64 x.o,.int .i64 x.ck,.int .i64 x.cn,.string x.cs,.int .i64 x.ac,.int .i64 x.ar,.bool x.af,.bool x.ag,.int .i64 x.bc,.int .i64 x.br,.bool x.bf,.bool x.bg,.slice KB x.kids.length kb] 201)).drew.alloc (.cells #[.int .i64 x.k,.int .i64 x.o,.int .i64 x.ck,.int .i64 x.cn,.string x.cs,.int .i64 x.ac,.int .i64 x.ar,.bool x.af,.bool x.ag,.int .i64 x.bc,.int .i64 x.br,.bool x.bf,.bool x.bg,.slice KB x.kids.length kb] 201)).grownBy w3 v.ownBlock→Fr r v W (w3.setCell ⟨r,3,none⟩ u)):=fun w3 u hg=>by
  have f1:Fr r v W ((W.alloc (.cells #[.int .i64 x.k,.int .i64 x.o,.int .i64 x.ck,.int .i64 x.cn,.string x.cs,.int .i64 x.ac,.int .i64 x.ar,.bool x.af,.bool x.ag,.int .i64 x.bc,.int .i64 x.br,.bool x.bf,.bool x.bg,.slice KB x.kids.length kb] 201)).drew.alloc (.cells #[.int .i64 x.k,.int .i64 x.o,.int .i64 x.ck,.int .i64 x.cn,.string x.cs,.int .i64 x.ac,.int .i64 x.ar,.bool x.af,.bool x.ag,.int .i64 x.bc,.int .i64 x.br,.bool x.bf,.bool x.bg,.slice KB x.kids.length kb] 201)):=Fr.bel HB1.out;have f2:Fr r v ((W.alloc (.cells #[.int .i64 x.k,.int .i64 x.o,.int .i64 x.ck,.int .i64 x.cn,.string x.cs,.int .i64 x.ac,.int .i64 x.ar,.bool x.af,.bool x.ag,.int .i64 x.bc,.int .i64 x.br,.bool x.bf,.bool x.bg,.slice KB x.kids.length kb] 201)).drew.alloc (.cells #[.int .i64 x.k,.int .i64 x.o,.int .i64 x.ck,.int .i64 x.cn,.string x.cs,.int .i64 x.ac,.int .i64 x.ar,.bool x.af,.bool x.ag,.int .i64 x.bc,.int .i64 x.br,.bool x.bf,.bool x.bg,.slice KB x.kids.length kb] 201)) w3:=⟨hg.os,hg.tape,hg.output,hg.size,fun q hq _ hv=>hg.block q hq (fun e=>hv e.symm)⟩;exact(f1.trans (NB.refl _ _) f2).trans (NB.refl _ _) (Fr.gb (QQ _ _ _ _))
 have HMN:Hid (∀gg gcap,v.ownBlock=some gg∨gg=W.heap.size+2→NB W v (.slice (some ⟨gg,0,none⟩) (out.length+1) gcap)):=fun gg gcap ha q hq=>by
  have hq2:some gg=some q:=hq;cases hq2
  rcases ha with e | e
  ·exact Or.inl e
  ·exact Or.inr (by omega)
 unfold ndR;go_enter Tryz.func217,Tryz.ntmps217;go_wp2_with fail
 refine wp_region_held_drew (S:=(fun w'=> ∀o,w'.cell? ⟨W.heap.size,o,none⟩=(W.alloc (.cells #[.int .i64 x.k,.int .i64 x.o,.int .i64 x.ck,.int .i64 x.cn,.string x.cs,.int .i64 x.ac,.int .i64 x.ar,.bool x.af,.bool x.ag,.int .i64 x.bc,.int .i64 x.br,.bool x.bf,.bool x.bg,.slice KB x.kids.length kb] 201)).cell? ⟨W.heap.size,o,none⟩)) (by kernel_rfl) (fun _=>rfl) (fun hHeld=> ?_);refine tkA 0 ?_;refine tkB 1 ?_;refine tkA 2 ?_;refine tkB 3 ?_;refine tkB 5 ?_;refine rqB 4 6 (fun Kq hKq=> ?_) (fun Kq hKq=> ?_)
 ·go_simp;refine hkB hKq (fun _=>rfl) fun hHeld=> ?_;clear hKq Kq;refine rqA 6 (fun Kq hKq=> ?_);go_simp;refine hkB hKq (fun o=>(((Below.refl _ _).alloc (Nat.le_refl _) _).cell (p:=⟨W.heap.size,o,none⟩) (by simp))) fun hHeld=> ?_;clear hKq Kq
  refine rqA 7 (fun Kq hKq=> ?_);refine step_append_lies _ (by rfl) _ _ _ (by rfl) B 201 i0 _ 14 120 Tryz.underlying141 hi iz0 iz1 iz2 rfl (by omega) v out.length ys (by rfl) HOA.out ⟨W.heap.size+1,0,none⟩ 1 1 (Yn x KB kb) (by rfl) (by rfl) HNW.out HON.out (by omega) (by unfold maxLen;omega) (by omega) HBZ.out (W.heap.size+2) (by simp) ?_;intro gg gcap w3 hown3 hgrow hat hlt3;have HG3:Hid (((W.alloc (.cells #[.int .i64 x.k,.int .i64 x.o,.int .i64 x.ck,.int .i64 x.cn,.string x.cs,.int .i64 x.ac,.int .i64 x.ar,.bool x.af,.bool x.ag,.int .i64 x.bc,.int .i64 x.br,.bool x.bf,.bool x.bg,.slice KB x.kids.length kb] 201)).drew.alloc (.cells #[.int .i64 x.k,.int .i64 x.o,.int .i64 x.ck,.int .i64 x.cn,.string x.cs,.int .i64 x.ac,.int .i64 x.ar,.bool x.af,.bool x.ag,.int .i64 x.bc,.int .i64 x.br,.bool x.bf,.bool x.bg,.slice KB x.kids.length kb] 201)).grownBy w3 v.ownBlock):=hgrow;have HAT:Hid (v.ownBlock=some gg∨gg=W.heap.size+2):=hat;have HST:Hid (RdS Z (w3.setCell ⟨r,3,none⟩ (.slice (some ⟨gg,0,none⟩) (out.length+1) gcap)) r s k bad (.slice (some ⟨gg,0,none⟩) (out.length+1) gcap) B (out++ [x])):=HS.out.grow HY.out.1 HY.out.2.1 HY.out.2.2 HKZ.out HB1.out HK.out hgrow hown3;have hbx: ∀o,w3.cell? ⟨W.heap.size,o,none⟩=(W.alloc (.cells #[.int .i64 x.k,.int .i64 x.o,.int .i64 x.ck,.int .i64 x.cn,.string x.cs,.int .i64 x.ac,.int .i64 x.ar,.bool x.af,.bool x.ag,.int .i64 x.bc,.int .i64 x.br,.bool x.bf,.bool x.bg,.slice KB x.kids.length kb] 201)).cell? ⟨W.heap.size,o,none⟩:=HBX.out w3 hgrow
  have e3:w3.cell? ⟨r,3,none⟩=some v:=HR3.out w3 hgrow;have g3:w3.frozen? ⟨r,3,none⟩=false:=HF3.out w3 hgrow;clear hown3 hgrow hat hlt3;refine hkB hKq (hbx) fun hHeld=> ?_;clear hKq Kq;refine tkA 8 ?_;refine tkB 9 ?_
  refine rqA 10 (fun Kq hKq=> ?_);go_simp;refine hkB hKq (fun o=>(World.cell?_setCell_far _ _ _ _ (by simp only;omega)).trans (hbx o)) fun hHeld=> ?_;clear hKq Kq;refine wpAnyH_done (by kernel_rfl) ?_ _;have HFR:Hid (Fr r v W (w3.setCell ⟨r,3,none⟩ (.slice (some ⟨gg,0,none⟩) (out.length+1) gcap))):=HMF.out w3 _ HG3.out;have HNB:Hid (NB W v (.slice (some ⟨gg,0,none⟩) (out.length+1) gcap)):=HMN.out gg gcap HAT.out
  have hbx2: ∀o,(w3.setCell ⟨r,3,none⟩ (.slice (some ⟨gg,0,none⟩) (out.length+1) gcap)).cell? ⟨W.heap.size,o,none⟩=(W.alloc (.cells #[.int .i64 x.k,.int .i64 x.o,.int .i64 x.ck,.int .i64 x.cn,.string x.cs,.int .i64 x.ac,.int .i64 x.ar,.bool x.af,.bool x.ag,.int .i64 x.bc,.int .i64 x.br,.bool x.bf,.bool x.bg,.slice KB x.kids.length kb] 201)).cell? ⟨W.heap.size,o,none⟩:=fun o=>(World.cell?_setCell_far _ _ _ _ (by simp only;omega)).trans (hbx o);have bx0:(w3.setCell ⟨r,3,none⟩ (.slice (some ⟨gg,0,none⟩) (out.length+1) gcap)).cell? ⟨W.heap.size,0,none⟩=some (.int .i64 x.k):=(hbx2 0).trans (by simp);have bx1:(w3.setCell ⟨r,3,none⟩ (.slice (some ⟨gg,0,none⟩) (out.length+1) gcap)).cell? ⟨W.heap.size,1,none⟩=some (.int .i64 x.o):=(hbx2 1).trans (by simp);have bx2:(w3.setCell ⟨r,3,none⟩ (.slice (some ⟨gg,0,none⟩) (out.length+1) gcap)).cell? ⟨W.heap.size,2,none⟩=some (.int .i64 x.ck):=(hbx2 2).trans (by simp);have bx3:(w3.setCell ⟨r,3,none⟩ (.slice (some ⟨gg,0,none⟩) (out.length+1) gcap)).cell? ⟨W.heap.size,3,none⟩=some (.int .i64 x.cn):=(hbx2 3).trans (by simp);have bx4:(w3.setCell ⟨r,3,none⟩ (.slice (some ⟨gg,0,none⟩) (out.length+1) gcap)).cell? ⟨W.heap.size,4,none⟩=some (.string x.cs):=(hbx2 4).trans (by simp);have bx5:(w3.setCell ⟨r,3,none⟩ (.slice (some ⟨gg,0,none⟩) (out.length+1) gcap)).cell? ⟨W.heap.size,5,none⟩=some (.int .i64 x.ac):=(hbx2 5).trans (by simp)
  have bx6:(w3.setCell ⟨r,3,none⟩ (.slice (some ⟨gg,0,none⟩) (out.length+1) gcap)).cell? ⟨W.heap.size,6,none⟩=some (.int .i64 x.ar):=(hbx2 6).trans (by simp);have bx7:(w3.setCell ⟨r,3,none⟩ (.slice (some ⟨gg,0,none⟩) (out.length+1) gcap)).cell? ⟨W.heap.size,7,none⟩=some (.bool x.af):=(hbx2 7).trans (by simp);have bx8:(w3.setCell ⟨r,3,none⟩ (.slice (some ⟨gg,0,none⟩) (out.length+1) gcap)).cell? ⟨W.heap.size,8,none⟩=some (.bool x.ag):=(hbx2 8).trans (by simp);have bx9:(w3.setCell ⟨r,3,none⟩ (.slice (some ⟨gg,0,none⟩) (out.length+1) gcap)).cell? ⟨W.heap.size,9,none⟩=some (.int .i64 x.bc):=(hbx2 9).trans (by simp);have bx10:(w3.setCell ⟨r,3,none⟩ (.slice (some ⟨gg,0,none⟩) (out.length+1) gcap)).cell? ⟨W.heap.size,10,none⟩=some (.int .i64 x.br):=(hbx2 10).trans (by simp);have bx11:(w3.setCell ⟨r,3,none⟩ (.slice (some ⟨gg,0,none⟩) (out.length+1) gcap)).cell? ⟨W.heap.size,11,none⟩=some (.bool x.bf):=(hbx2 11).trans (by simp);have bx12:(w3.setCell ⟨r,3,none⟩ (.slice (some ⟨gg,0,none⟩) (out.length+1) gcap)).cell? ⟨W.heap.size,12,none⟩=some (.bool x.bg):=(hbx2 12).trans (by simp)
  have bx13:(w3.setCell ⟨r,3,none⟩ (.slice (some ⟨gg,0,none⟩) (out.length+1) gcap)).cell? ⟨W.heap.size,13,none⟩=some (.slice KB x.kids.length kb):=(hbx2 13).trans (by simp);clear hbx hbx2 e3 g3 HG3 HAT;generalize (w3.setCell ⟨r,3,none⟩ (.slice (some ⟨gg,0,none⟩) (out.length+1) gcap))=Wf at*
  have HL9:Hid (W.heap.size<Wf.heap.size):=World.block_lt_of_cell? Wf ⟨W.heap.size,0,none⟩ bx0;have hl9:=HL9.out;obtain⟨_,⟨d0,d1,d2,d3⟩,g1,g2,g3⟩:=HST.out.rs;have hrf:r<Wf.heap.size:=HST.out.rs.lt;by_cases h60:out.length+1≤60
  ·have q60: ¬(60:Int)<(out.length:Int)+1:=by omega
   have q60':decide ((60:Int)<(out.length:Int)+1)=false:=by simpa using q60
   cases hx:QN x
   ·have HX:Hid (QN x=false):=hx;clear hx;go_wp2_with (go_at_call 174;refine(XQ x _ HCS.out).mono ?_;rintro e w4 ⟨rfl,hb⟩;rw [HX.out];have HS4:Hid (RdS Z w4 r s k bad (.slice (some ⟨gg,0,none⟩) (out.length+1) gcap) B (out++ [x])):=HST.out.bel hb;have HF4:Hid (Fr r v W w4):=HFR.out.trans HNB.out (Fr.bel hb);obtain⟨_,⟨k0,k1,k2,k3⟩,m1,m2,m3⟩:=HS4.out.rs;clear hb)
    go_ret;exact⟨_,QY (by omega),by rw [HX.out,Bool.and_false,Bool.not_false,Bool.or_true];exact HS4.out.bad,HNB.out,HF4.out.trans HNB.out (Fr.gb (QQ _ _ _ _))⟩
   ·have HX:Hid (QN x=true):=hx;clear hx;go_wp2_with (go_at_call 174;refine(XQ x _ HCS.out).mono ?_;rintro e w4 ⟨rfl,hb⟩;rw [HX.out];have HS4:Hid (RdS Z w4 r s k bad (.slice (some ⟨gg,0,none⟩) (out.length+1) gcap) B (out++ [x])):=HST.out.bel hb;have HF4:Hid (Fr r v W w4):=HFR.out.trans HNB.out (Fr.bel hb);obtain⟨_,⟨k0,k1,k2,k3⟩,m1,m2,m3⟩:=HS4.out.rs;clear hb)
    go_ret;exact⟨_,QY (by omega),by rw [HX.out,decide_eq_true h60,Bool.and_true,Bool.not_true,Bool.or_false];exact HS4.out,HNB.out,HF4.out⟩
  ·have q60:(60:Int)<(out.length:Int)+1:=by omega
   go_wp2_with fail
   go_ret;exact⟨_,QY (by omega),by rw [decide_eq_false h60,Bool.false_and,Bool.not_false,Bool.or_true];exact HST.out.bad,HNB.out,HFR.out.trans HNB.out (Fr.gb (QQ _ _ _ _))⟩
 ·go_simp;refine hkB hKq (fun o=>(((Below.refl _ _).alloc (Nat.le_refl _) _).cell (p:=⟨W.heap.size,o,none⟩) (by simp))) fun hHeld=> ?_;clear hKq Kq;refine rqA 4 (fun Kq hKq=> ?_);go_simp;refine hkB hKq (fun o=>(((Below.refl _ _).alloc (Nat.le_refl _) _).cell (p:=⟨W.heap.size,o,none⟩) (by simp))) fun hHeld=> ?_;clear hKq Kq
  refine rqA 7 (fun Kq hKq=> ?_);refine step_append_lies _ (by rfl) _ _ _ (by rfl) B 201 i0 _ 14 120 Tryz.underlying141 hi iz0 iz1 iz2 rfl (by omega) v out.length ys (by rfl) HOA.out ⟨W.heap.size+1,0,none⟩ 1 1 (Yn x KB kb) (by rfl) (by rfl) HNW.out HON.out (by omega) (by unfold maxLen;omega) (by omega) HBZ.out (W.heap.size+2) (by simp) ?_;intro gg gcap w3 hown3 hgrow hat hlt3;have HG3:Hid (((W.alloc (.cells #[.int .i64 x.k,.int .i64 x.o,.int .i64 x.ck,.int .i64 x.cn,.string x.cs,.int .i64 x.ac,.int .i64 x.ar,.bool x.af,.bool x.ag,.int .i64 x.bc,.int .i64 x.br,.bool x.bf,.bool x.bg,.slice KB x.kids.length kb] 201)).drew.alloc (.cells #[.int .i64 x.k,.int .i64 x.o,.int .i64 x.ck,.int .i64 x.cn,.string x.cs,.int .i64 x.ac,.int .i64 x.ar,.bool x.af,.bool x.ag,.int .i64 x.bc,.int .i64 x.br,.bool x.bf,.bool x.bg,.slice KB x.kids.length kb] 201)).grownBy w3 v.ownBlock):=hgrow;have HAT:Hid (v.ownBlock=some gg∨gg=W.heap.size+2):=hat;have HST:Hid (RdS Z (w3.setCell ⟨r,3,none⟩ (.slice (some ⟨gg,0,none⟩) (out.length+1) gcap)) r s k bad (.slice (some ⟨gg,0,none⟩) (out.length+1) gcap) B (out++ [x])):=HS.out.grow HY.out.1 HY.out.2.1 HY.out.2.2 HKZ.out HB1.out HK.out hgrow hown3;have hbx: ∀o,w3.cell? ⟨W.heap.size,o,none⟩=(W.alloc (.cells #[.int .i64 x.k,.int .i64 x.o,.int .i64 x.ck,.int .i64 x.cn,.string x.cs,.int .i64 x.ac,.int .i64 x.ar,.bool x.af,.bool x.ag,.int .i64 x.bc,.int .i64 x.br,.bool x.bf,.bool x.bg,.slice KB x.kids.length kb] 201)).cell? ⟨W.heap.size,o,none⟩:=HBX.out w3 hgrow
  have e3:w3.cell? ⟨r,3,none⟩=some v:=HR3.out w3 hgrow;have g3:w3.frozen? ⟨r,3,none⟩=false:=HF3.out w3 hgrow;clear hown3 hgrow hat hlt3;refine hkB hKq (hbx) fun hHeld=> ?_;clear hKq Kq;refine tkA 8 ?_;refine tkB 9 ?_
  refine rqA 10 (fun Kq hKq=> ?_);go_simp;refine hkB hKq (fun o=>(World.cell?_setCell_far _ _ _ _ (by simp only;omega)).trans (hbx o)) fun hHeld=> ?_;clear hKq Kq;refine wpAnyH_done (by kernel_rfl) ?_ _;have HFR:Hid (Fr r v W (w3.setCell ⟨r,3,none⟩ (.slice (some ⟨gg,0,none⟩) (out.length+1) gcap))):=HMF.out w3 _ HG3.out;have HNB:Hid (NB W v (.slice (some ⟨gg,0,none⟩) (out.length+1) gcap)):=HMN.out gg gcap HAT.out
  have hbx2: ∀o,(w3.setCell ⟨r,3,none⟩ (.slice (some ⟨gg,0,none⟩) (out.length+1) gcap)).cell? ⟨W.heap.size,o,none⟩=(W.alloc (.cells #[.int .i64 x.k,.int .i64 x.o,.int .i64 x.ck,.int .i64 x.cn,.string x.cs,.int .i64 x.ac,.int .i64 x.ar,.bool x.af,.bool x.ag,.int .i64 x.bc,.int .i64 x.br,.bool x.bf,.bool x.bg,.slice KB x.kids.length kb] 201)).cell? ⟨W.heap.size,o,none⟩:=fun o=>(World.cell?_setCell_far _ _ _ _ (by simp only;omega)).trans (hbx o);have bx0:(w3.setCell ⟨r,3,none⟩ (.slice (some ⟨gg,0,none⟩) (out.length+1) gcap)).cell? ⟨W.heap.size,0,none⟩=some (.int .i64 x.k):=(hbx2 0).trans (by simp);have bx1:(w3.setCell ⟨r,3,none⟩ (.slice (some ⟨gg,0,none⟩) (out.length+1) gcap)).cell? ⟨W.heap.size,1,none⟩=some (.int .i64 x.o):=(hbx2 1).trans (by simp);have bx2:(w3.setCell ⟨r,3,none⟩ (.slice (some ⟨gg,0,none⟩) (out.length+1) gcap)).cell? ⟨W.heap.size,2,none⟩=some (.int .i64 x.ck):=(hbx2 2).trans (by simp);have bx3:(w3.setCell ⟨r,3,none⟩ (.slice (some ⟨gg,0,none⟩) (out.length+1) gcap)).cell? ⟨W.heap.size,3,none⟩=some (.int .i64 x.cn):=(hbx2 3).trans (by simp);have bx4:(w3.setCell ⟨r,3,none⟩ (.slice (some ⟨gg,0,none⟩) (out.length+1) gcap)).cell? ⟨W.heap.size,4,none⟩=some (.string x.cs):=(hbx2 4).trans (by simp);have bx5:(w3.setCell ⟨r,3,none⟩ (.slice (some ⟨gg,0,none⟩) (out.length+1) gcap)).cell? ⟨W.heap.size,5,none⟩=some (.int .i64 x.ac):=(hbx2 5).trans (by simp)
  have bx6:(w3.setCell ⟨r,3,none⟩ (.slice (some ⟨gg,0,none⟩) (out.length+1) gcap)).cell? ⟨W.heap.size,6,none⟩=some (.int .i64 x.ar):=(hbx2 6).trans (by simp);have bx7:(w3.setCell ⟨r,3,none⟩ (.slice (some ⟨gg,0,none⟩) (out.length+1) gcap)).cell? ⟨W.heap.size,7,none⟩=some (.bool x.af):=(hbx2 7).trans (by simp);have bx8:(w3.setCell ⟨r,3,none⟩ (.slice (some ⟨gg,0,none⟩) (out.length+1) gcap)).cell? ⟨W.heap.size,8,none⟩=some (.bool x.ag):=(hbx2 8).trans (by simp);have bx9:(w3.setCell ⟨r,3,none⟩ (.slice (some ⟨gg,0,none⟩) (out.length+1) gcap)).cell? ⟨W.heap.size,9,none⟩=some (.int .i64 x.bc):=(hbx2 9).trans (by simp);have bx10:(w3.setCell ⟨r,3,none⟩ (.slice (some ⟨gg,0,none⟩) (out.length+1) gcap)).cell? ⟨W.heap.size,10,none⟩=some (.int .i64 x.br):=(hbx2 10).trans (by simp);have bx11:(w3.setCell ⟨r,3,none⟩ (.slice (some ⟨gg,0,none⟩) (out.length+1) gcap)).cell? ⟨W.heap.size,11,none⟩=some (.bool x.bf):=(hbx2 11).trans (by simp);have bx12:(w3.setCell ⟨r,3,none⟩ (.slice (some ⟨gg,0,none⟩) (out.length+1) gcap)).cell? ⟨W.heap.size,12,none⟩=some (.bool x.bg):=(hbx2 12).trans (by simp)
  have bx13:(w3.setCell ⟨r,3,none⟩ (.slice (some ⟨gg,0,none⟩) (out.length+1) gcap)).cell? ⟨W.heap.size,13,none⟩=some (.slice KB x.kids.length kb):=(hbx2 13).trans (by simp);clear hbx hbx2 e3 g3 HG3 HAT;generalize (w3.setCell ⟨r,3,none⟩ (.slice (some ⟨gg,0,none⟩) (out.length+1) gcap))=Wf at*
  have HL9:Hid (W.heap.size<Wf.heap.size):=World.block_lt_of_cell? Wf ⟨W.heap.size,0,none⟩ bx0;have hl9:=HL9.out;obtain⟨_,⟨d0,d1,d2,d3⟩,g1,g2,g3⟩:=HST.out.rs;have hrf:r<Wf.heap.size:=HST.out.rs.lt;by_cases h60:out.length+1≤60
  ·have q60: ¬(60:Int)<(out.length:Int)+1:=by omega
   have q60':decide ((60:Int)<(out.length:Int)+1)=false:=by simpa using q60
   cases hx:QN x
   ·have HX:Hid (QN x=false):=hx;clear hx;go_wp2_with (go_at_call 174;refine(XQ x _ HCS.out).mono ?_;rintro e w4 ⟨rfl,hb⟩;rw [HX.out];have HS4:Hid (RdS Z w4 r s k bad (.slice (some ⟨gg,0,none⟩) (out.length+1) gcap) B (out++ [x])):=HST.out.bel hb;have HF4:Hid (Fr r v W w4):=HFR.out.trans HNB.out (Fr.bel hb);obtain⟨_,⟨k0,k1,k2,k3⟩,m1,m2,m3⟩:=HS4.out.rs;clear hb)
    go_ret;exact⟨_,QY (by omega),by rw [HX.out,Bool.and_false,Bool.not_false,Bool.or_true];exact HS4.out.bad,HNB.out,HF4.out.trans HNB.out (Fr.gb (QQ _ _ _ _))⟩
   ·have HX:Hid (QN x=true):=hx;clear hx;go_wp2_with (go_at_call 174;refine(XQ x _ HCS.out).mono ?_;rintro e w4 ⟨rfl,hb⟩;rw [HX.out];have HS4:Hid (RdS Z w4 r s k bad (.slice (some ⟨gg,0,none⟩) (out.length+1) gcap) B (out++ [x])):=HST.out.bel hb;have HF4:Hid (Fr r v W w4):=HFR.out.trans HNB.out (Fr.bel hb);obtain⟨_,⟨k0,k1,k2,k3⟩,m1,m2,m3⟩:=HS4.out.rs;clear hb)
    go_ret;exact⟨_,QY (by omega),by rw [HX.out,decide_eq_true h60,Bool.and_true,Bool.not_true,Bool.or_false];exact HS4.out,HNB.out,HF4.out⟩
  ·have q60:(60:Int)<(out.length:Int)+1:=by omega
   go_wp2_with fail
   go_ret;exact⟨_,QY (by omega),by rw [decide_eq_false h60,Bool.false_and,Bool.not_false,Bool.or_true];exact HST.out.bad,HNB.out,HFR.out.trans HNB.out (Fr.gb (QQ _ _ _ _))⟩
end Go.Proofs.YtbdhinckiccniaaGreatDoor
