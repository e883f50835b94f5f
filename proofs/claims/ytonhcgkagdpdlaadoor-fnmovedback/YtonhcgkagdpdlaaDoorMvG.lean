import Derived.Test.YtonhcgkagdpdlaaDoorMvD
import Derived.Test.YtonhcgkagdpdlaaDoorMvE
import Derived.Test.YtonhcgkagdpdlaaDoorMvF
set_option linter.unusedSimpArgs false
set_option linter.unusedVariables false
namespace Go.Proofs.YtonhcgkagdpdlaaDoor
open Go.RowKit
def lostFN:FN:=⟨1,0,4,3,⟨#[]⟩,0,0,false,false,0,0,false,false,[]⟩
abbrev Ends:=Int→Int→Bool→Bool→Int × Int
def shFN (f g:Ends) (x:FN):FN:=
 if x.k=2 then(if areaOkB (f x.ac x.ar x.af x.ag).1 (f x.ac x.ar x.af x.ag).2 (g x.ac x.ar x.af x.ag).1 (g x.ac x.ar x.af x.ag).2=true then{x with ac:=(f x.ac x.ar x.af x.ag).1,ar:=(f x.ac x.ar x.af x.ag).2}else lostFN)
 else if x.k=3 then(if areaOkB (f x.ac x.ar x.af x.ag).1 (f x.ac x.ar x.af x.ag).2 (g x.bc x.br x.bf x.bg).1 (g x.bc x.br x.bf x.bg).2=true then{x with ac:=(f x.ac x.ar x.af x.ag).1,ar:=(f x.ac x.ar x.af x.ag).2,bc:=(g x.bc x.br x.bf x.bg).1,br:=(g x.bc x.br x.bf x.bg).2}else lostFN)
 else x
def nodeV (x:FN) (KA:Option Addr) (kc:Nat):Value:= .agg #[.int .i64 x.k,.int .i64 x.o,.int .i64 x.ck,.int .i64 x.cn,.string x.cs,.int .i64 x.ac,.int .i64 x.ar,.bool x.af,.bool x.ag,.int .i64 x.bc,.int .i64 x.br,.bool x.bf,.bool x.bg,.slice KA x.kids.length kc]
def SmallN (x:FN):Prop:=(x.k=2∨x.k=3→(-1000≤x.ac∧x.ac≤1000)∧(-1000≤x.ar∧x.ar≤1000))∧(x.k=3→(-1000≤x.bc∧x.bc≤1000)∧(-1000≤x.br∧x.br≤1000))
theorem own_nil (w:World) (B:Nat):w.ownsRow B 2 1 (.slice none 0 0) 0 []:=⟨rfl,Or.inl ⟨rfl,rfl⟩⟩
def fMovedBy (d e:Int):Ends:=fun c r f g=>(mvI f c d,mvI g r e)
def gMovedBy (d e:Int):Ends:=fun c r f g=>(mvI f c d,mvI g r e)
theorem impl_shiftedNode_MovedBy (x:FN) {KA:Option Addr} {kc:Nat} (d e:Int) (p q:Nat) (w:World) (hp:p<w.heap.size) (hq:q<w.heap.size) (cp:w.cell? ⟨p,0,none⟩=some (.int .i64 d)) (cq:w.cell? ⟨q,0,none⟩=some (.int .i64 e)) (hs:SmallN x) (hd: -1000≤d∧d≤1000) (he: -1000≤e∧e≤1000)
  (h0:KA=none→kc=0) (hi:IntRow w KA x.kids) (hn:x.kids.length≤1048576):
  Calls Tryd.prog 36 #[nodeV x KA kc,.func (.func 18) #[] #[.pointer (some ⟨p,0,none⟩),.pointer (some ⟨q,0,none⟩)]] w fun z w'=>
   ∃KB kb,z= .returned (nodeV (shFN (fMovedBy d e) (gMovedBy d e) x) KB kb)∧w'.ownsRow w.heap.size 2 1 (.slice KB (shFN (fMovedBy d e) (gMovedBy d e) x).kids.length kb) (shFN (fMovedBy d e) (gMovedBy d e) x).kids.length ((shFN (fMovedBy d e) (gMovedBy d e) x).kids.map (Value.int .i64))∧Below w.heap.size w w':=by
 obtain⟨k,o,ck,cn,cs,ac,ar,af,ag,bc,br,bf,bg,kids⟩:=x
 by_cases h2:k=2
 ·subst h2
  obtain⟨ha,hr⟩:=hs.1 (Or.inl rfl)
  unfold shFN
  rw [if_pos rfl]
  by_cases hA:areaOkB (fMovedBy d e ac ar af ag).1 (fMovedBy d e ac ar af ag).2 (gMovedBy d e ac ar af ag).1 (gMovedBy d e ac ar af ag).2=true
  ·rw [if_pos hA]
   exact shiftedNode_MovedBy_cell_yes o ck cn cs ac ar af ag bc br bf bg d e p q w hp hq cp cq ha hr hd he hA h0 hi hn
  ·rw [if_neg hA]
   exact(shiftedNode_MovedBy_cell_no o ck cn cs ac ar af ag bc br bf bg d e p q w hp hq cp cq ha hr hd he (eq_false_of_ne_true hA) h0 hi hn).mono fun _ _ h=>⟨none,0,h.1,own_nil _ _,h.2⟩
 by_cases h3:k=3
 ·subst h3
  obtain⟨ha,hr⟩:=hs.1 (Or.inr rfl)
  obtain⟨hb,hbr⟩:=hs.2 rfl
  unfold shFN
  rw [if_neg h2,if_pos rfl]
  by_cases hA:areaOkB (fMovedBy d e ac ar af ag).1 (fMovedBy d e ac ar af ag).2 (gMovedBy d e bc br bf bg).1 (gMovedBy d e bc br bf bg).2=true
  ·rw [if_pos hA]
   exact shiftedNode_MovedBy_area_yes o ck cn cs ac ar af ag bc br bf bg d e p q w hp hq cp cq ha hr hb hbr hd he hA h0 hi hn
  ·rw [if_neg hA]
   exact(shiftedNode_MovedBy_area_no o ck cn cs ac ar af ag bc br bf bg d e p q w hp hq cp cq ha hr hb hbr hd he (eq_false_of_ne_true hA) h0 hi hn).mono fun _ _ h=>⟨none,0,h.1,own_nil _ _,h.2⟩
 ·unfold shFN
  rw [if_neg h2,if_neg h3]
  exact shiftedNode_other k o ck cn cs ac ar af ag bc br bf bg _ w h2 h3 h0 hi hn
end Go.Proofs.YtonhcgkagdpdlaaDoor
