import Derived.Test.YtonhcgkagdpdlaaGreatDoorGmg
import Derived.Test.YtonhcgkagdpdlaaGreatDoorArD
import Derived.Test.YtonhcgkagdpdlaaGreatDoorGmb
import Derived.Laws.AppendOwn
import Derived.Deep.MidRow
set_option linter.unusedSimpArgs false
set_option linter.unusedVariables false
namespace Go.Proofs.YtonhcgkagdpdlaaGreatDoor
open Go.RowKit
theorem ref_small {c r:Int} (h:refOkB c r=true):(-1000≤c∧c≤1000)∧(-1000≤r∧r≤1000):=by
 unfold refOkB at h
 have:=of_decide_eq_true h
 omega
theorem area_refs {a b c d:Int} (h:areaOkB a b c d=true):refOkB a b=true∧refOkB c d=true:=by
 unfold areaOkB at h
 rw [Bool.and_eq_true,Bool.and_eq_true]at h
 exact h.1
theorem node_cell {x:FN} (h:nodeX x=true) (hk:x.k=2):refOkB x.ac x.ar=true:=by
 unfold nodeX nodeB at h
 rw [if_neg (by omega),if_pos hk]at h
 simp only [Bool.and_eq_true]at h
 exact h.1.1.1.1
theorem node_area {x:FN} (h:nodeX x=true) (hk:x.k=3):areaOkB x.ac x.ar x.bc x.br=true:=by
 unfold nodeX nodeB at h
 rw [if_neg (by omega),if_neg (by omega),if_pos hk]at h
 simp only [Bool.and_eq_true]at h
 exact h.1.1.1
theorem node_small {x:FN} (h:nodeX x=true):SmallN x:=by
 refine⟨fun hk=> ?_,fun hk=> ?_⟩
 ·rcases hk with hk | hk
  ·exact ref_small (node_cell h hk)
  ·exact ref_small (area_refs (node_area h hk)).1
 ·exact ref_small (area_refs (node_area h hk)).2
theorem area_self (c r:Int):areaOkB c r c r=refOkB c r:=by
 unfold areaOkB
 cases refOkB c r<;>simp
theorem cell_moved {o ck cn:Int} {cs:ByteArray} {ac ar:Int} {af ag:Bool} {bc br:Int} {bf bg:Bool} {kids:List Int} (c r:Int) (h:nodeX ⟨2,o,ck,cn,cs,ac,ar,af,ag,bc,br,bf,bg,kids⟩=true):nodeX ⟨2,o,ck,cn,cs,c,r,af,ag,bc,br,bf,bg,kids⟩=refOkB c r:=by
 unfold nodeX nodeB at h ⊢
 rw [if_neg (by show¬(2:Int)=1;decide),if_pos rfl]at h ⊢
 simp only [Bool.and_eq_true]at h
 obtain⟨⟨⟨⟨h1,h2⟩,h3⟩,h4⟩,h5⟩:=h
 simp only [h2,h3,h4,h5,Bool.and_true]
theorem area_moved {o ck cn:Int} {cs:ByteArray} {ac ar:Int} {af ag:Bool} {bc br:Int} {bf bg:Bool} {kids:List Int} (a b c d:Int) (h:nodeX ⟨3,o,ck,cn,cs,ac,ar,af,ag,bc,br,bf,bg,kids⟩=true):nodeX ⟨3,o,ck,cn,cs,a,b,af,ag,c,d,bf,bg,kids⟩=areaOkB a b c d:=by
 unfold nodeX nodeB at h ⊢
 rw [if_neg (by show¬(3:Int)=1;decide),if_neg (by show¬(3:Int)=2;decide),if_pos rfl]at h ⊢
 simp only [Bool.and_eq_true]at h
 obtain⟨⟨⟨h1,h2⟩,h3⟩,h4⟩:=h
 simp only [h2,h3,h4,Bool.and_true]
theorem fOk_nodes {F:Nat→FN} {n:Nat} (h:fOkB F n=true): ∀i,i<n→nodeX (F i)=true:=by
 unfold fOkB nodesB at h
 simp only [Bool.and_eq_true,List.all_eq_true,List.mem_range]at h
 exact h.1.1.1.2
theorem own_ne_type {W:World} {B B':Nat} {e e':TypeId} {s s' n n':Nat} {v v':Value} {xs xs':List Value} (h:W.ownsRow B e s v n xs) (h':W.ownsRow B' e' s' v' n' xs') (hne:e≠e'):v.ownBlock=none∨v.ownBlock≠v'.ownBlock:=by
 rcases h.2 with⟨rfl,_⟩ | ⟨g,cap,cur,rfl,_,hg,_⟩
 ·exact Or.inl rfl
 ·right
  rcases h'.2 with⟨rfl,_⟩ | ⟨g',cap',cur',rfl,_,hg',_⟩
  ·intro e;cases e
  ·intro e9
   cases e9
   rw [hg]at hg'
   cases hg'
   exact hne rfl
theorem row_grow {W W3:World} {B k:Nat} {v:Value} {ys:List Value} {G:Nat→FN} {x:FN} {KB:Option Addr} {kb:Nat} (hx:G k=x) (hW:W.ownsRow B 54 14 v k ys) (hp:FnPart W B ys G k)
  (hk:W.ownsRow B 2 1 (.slice KB x.kids.length kb) x.kids.length (x.kids.map (Value.int .i64))) (hg:W.grownBy W3 v.ownBlock):FnPart W3 B (ys++nodeL x KB kb) G (k+1):=by
 subst hx
 have hl:=hW.1
 intro i hi
 by_cases e:i=k
 ·subst e
  exact⟨KB,kb,fun j hj=>by rw [List.getElem?_append_right (by omega),show i*14+j-ys.length=j by omega],hk.kept hg (own_ne_type hk hW (by decide))⟩
 ·obtain⟨KA,kc,h1,h2⟩:=hp i (by omega)
  exact⟨KA,kc,fun j hj=>by rw [List.getElem?_append_left (by omega)];exact h1 j hj,h2.kept hg (own_ne_type h2 hW (by decide))⟩
theorem fn_of_ownV {W:World} {B n:Nat} {v:Value} {ys:List Value} {F:Nat→FN} (h:W.ownsRow B 54 14 v n ys) {B':Nat} (hp:FnPart W B' ys F n) (hs: ∀i,i<n→(F i).cs.size≤maxLen): ∃A cap,v= .slice A n cap∧FnRow W A n F:=by
 rcases h.2 with⟨rfl,rfl⟩ | ⟨g,cap,cur,rfl,_⟩
 ·exact⟨none,0,rfl,Nat.zero_le _,fun i hi=>by omega⟩
 ·exact⟨_,cap,rfl,fn_of_own h hp hs⟩
theorem app_node {ops:Array Oper} {rest:List Oper} {o:Oper} {a:Act} {Q:Exit→Act→World→Prop} (w:World) (hgd:o.guard=none) (s x:Operand)
  (ho:o.op= .call {callee:= .builtin .append,args:= #[s,x],argTypes:= #[24,24]}) (v:Value) (hs:a.eval s=v) (base:Nat) (hb:base≤w.heap.size) (k:Nat) (ys:List Value) (hown:w.ownsRow base 54 14 v k ys)
  (xv:FN) (KB:Option Addr) (kb g:Nat) (cs:Array Value) (hx:a.eval x= .slice (some ⟨g,0,none⟩) 1 1) (hblk:w.heap[g]? =some (.cells cs 54 (0,0))) (hcs:cs.toList=nodeL xv KB kb) (hk:k≤60)
  (h: ∀v' w',w'.ownsRow base 54 14 v' (k+1) (ys++nodeL xv KB kb)→w.grownBy w' v.ownBlock→wpList Tryz.prog ops Q rest (a.put o.dst v') w'):wpList Tryz.prog ops Q (o::rest) a w:=by
 obtain⟨i0,hi0,hz0,hz1,hz2⟩:=info_parts infoFn
 refine wpList_append_own w hgd s x 24 ho base 54 i0 _ 14 120 Tryz.underlying24 hi0 hz0 hz1 hz2 rfl (by decide) v k ys hs hown ⟨g,0,none⟩ 1 1 (nodeL xv KB kb) hx rfl ?_ ?_ ?_ ?_ hb ?_
 ·rw [←hcs]
  exact World.news_of_block hblk
 ·intro u hu
  simp only [nodeL,List.mem_cons,List.not_mem_nil,or_false]at hu
  rcases hu with rfl | rfl | rfl | rfl | rfl | rfl | rfl | rfl | rfl | rfl | rfl | rfl | rfl | rfl<;>rfl
 ·unfold maxLen;omega
 ·omega
 ·intro v' w' ho' hg' _
  exact h v' w' ho' hg'
inductive K9 (b:Nat) (W:World):World→Prop
 | refl:K9 b W W
 | set {W':World}:K9 b W W'→ ∀(p:Nat) (u:Value),K9 b W (W'.setCell ⟨b,p,none⟩ u)
theorem K9.own {b:Nat} {W W':World} (h:K9 b W W') {e:TypeId} {m kb:Nat} {KB:Option Addr} {xs:List Value} (ho:W.ownsRow (b+1) e 1 (.slice KB m kb) m xs):W'.ownsRow (b+1) e 1 (.slice KB m kb) m xs:=by
 induction h with
 | refl=>exact ho
 | set _ p u ih=>exact ownsRow_setCell_below ih (Nat.lt_succ_self b) u
theorem keep9 {b:Nat} {W W' w1:World} {e:TypeId} {m kb:Nat} {KB:Option Addr} {xs:List Value} (ho:Hid (W.ownsRow (b+1) e 1 (.slice KB m kb) m xs)) (h:K9 b W W') (hb:Below W'.heap.size W' w1):Hid (w1.ownsRow (b+1) e 1 (.slice KB m kb) m xs):=own_below (h.own ho.out) hb
def X9 (b:Nat) (W:World):Prop:= ∀j,j<14→ ∃u,W.cell? ⟨b,j,none⟩=some u∧W.frozen? ⟨b,j,none⟩=false
theorem K9.x9 {b:Nat} {W W':World} (h:K9 b W W') (hx:X9 b W):X9 b W':=by
 induction h with
 | refl=>exact hx
 | set _ p u ih=>
  intro j hj
  obtain⟨v,h1,h2⟩:=ih j hj
  obtain⟨v',h3⟩:=cell?_setCell_some (p:=⟨b,p,none⟩) (x:=u) h1
  exact⟨v',h3,by simpa [go_sem]using h2⟩
theorem below_setCells (b:Nat): ∀(vs:List Value) (o:Nat) (w:World),Below b w (w.setCells b o vs)∧(w.setCells b o vs).heap.size=w.heap.size
 | [],_,w=>⟨Below.refl _ _,rfl⟩
 | v::r,o,w=>by
  obtain⟨h1,h2⟩:=below_setCells b r (o+1) (w.setCell ⟨b,o,none⟩ v)
  exact⟨((Below.refl b w).setCell (Nat.le_refl _) v).trans h1,h2.trans (by simp)⟩
theorem infoFnS:(Tryz.prog.info? 54).map (·.size)=some 14:=by kernel_rfl
theorem store9 {ops:Array Oper} {rest:List Oper} {op:Oper} {a:Act} {Q:Exit→Act→World→Prop} {b:Nat} {w4:World} (hX:X9 b w4) (hgd:op.guard=none) (x y:Operand) (ho:op.op= .store 54 x y) (cs:List Value)
  (hx:a.eval x= .pointer (some ⟨b,0,none⟩)) (hy:a.eval y= .agg cs.toArray) (hc:cs.length=14) (h1:cs.all (·.oneCell')=true)
  (h: ∀w5,w5.rangeAt b 0 cs→Below b w4 w5→w5.heap.size=w4.heap.size→wpList Tryz.prog ops Q rest (a.put op.dst undef) w5):wpList Tryz.prog ops Q (op::rest) a w4:=by
 have ht:w4.there b 0 cs.length:=fun j hj=>by
  obtain⟨u,h1,h2⟩:=hX j (by omega)
  rw [Nat.zero_add,h1]
  exact⟨rfl,h2⟩
 have hb:=below_setCells b cs 0 w4
 refine wpList_store_mid hgd 54 x y ho b 0 cs.toArray hx hy (by simpa using ht) (by rw [infoFnS];simp [hc]) (all_oneCell_toArray (List.all_eq_true.1 h1)) ?_
 exact h _ (World.rangeAt_setCells_same w4 b 0 cs ht) hb.1 hb.2
theorem load9 {ops:Array Oper} {rest:List Oper} {op:Oper} {a:Act} {Q:Exit→Act→World→Prop} {b:Nat} {w5:World} {cs:List Value} (hr:w5.rangeAt b 0 cs) (hc:cs.length=14) (hgd:op.guard=none) (x:Operand) (ho:op.op= .load 54 x)
  (hx:a.eval x= .pointer (some ⟨b,0,none⟩)) (h:wpList Tryz.prog ops Q rest (a.put op.dst (.agg cs.toArray)) w5):wpList Tryz.prog ops Q (op::rest) a w5:=
 wpList_load_mid hgd 54 x ho b 0 hx cs _ hr Tryz.underlying54 rfl (by rw [infoFnS,hc]) h
theorem keepX {b:Nat} {W W' w1:World} (hx:Hid (X9 b W)) (h:K9 b W W') (hl:b<W'.heap.size) (hb:Below W'.heap.size W' w1):Hid (X9 b w1):=fun j hj=>by
 obtain⟨v,h1,h2⟩:=h.x9 hx.out j hj
 exact⟨v,(hb.cell (p:=⟨b,j,none⟩) hl).trans h1,(hb.frozen (p:=⟨b,j,none⟩) hl).trans h2⟩
end Go.Proofs.YtonhcgkagdpdlaaGreatDoor
