import Derived.Test.YtbdhinckiccniaaGreatDoorGaa
import Derived.Test.YtbdhinckiccniaaGreatDoorGad
set_option linter.unusedSimpArgs false
set_option linter.unusedVariables false
set_option maxHeartbeats 2000000
namespace Go.Proofs.YtbdhinckiccniaaGreatDoor
open Go.RowKit
structure FN where
 k:Int
 o:Int
 ck:Int
 cn:Int
 cs:ByteArray
 ac:Int
 ar:Int
 af:Bool
 ag:Bool
 bc:Int
 br:Int
 bf:Bool
 bg:Bool
 kids:List Int
def NodeAt (W:World) (b p:Nat) (x:FN) (KA:Option Addr) (kc:Nat):Prop:=
 W.cell? ⟨b,p,none⟩=some (.int .i64 (x.k))∧W.cell? ⟨b,p+1,none⟩=some (.int .i64 (x.o))∧W.cell? ⟨b,p+2,none⟩=some (.int .i64 (x.ck))∧W.cell? ⟨b,p+3,none⟩=some (.int .i64 (x.cn))∧W.cell? ⟨b,p+4,none⟩=some (.string (x.cs))∧W.cell? ⟨b,p+5,none⟩=some (.int .i64 (x.ac))∧W.cell? ⟨b,p+6,none⟩=some (.int .i64 (x.ar))∧W.cell? ⟨b,p+7,none⟩=some (.bool (x.af))∧W.cell? ⟨b,p+8,none⟩=some (.bool (x.ag))∧W.cell? ⟨b,p+9,none⟩=some (.int .i64 (x.bc))∧W.cell? ⟨b,p+10,none⟩=some (.int .i64 (x.br))∧W.cell? ⟨b,p+11,none⟩=some (.bool (x.bf))∧W.cell? ⟨b,p+12,none⟩=some (.bool (x.bg))∧W.cell? ⟨b,p+13,none⟩=some (.slice KA x.kids.length kc)
theorem NodeAt.below {W W':World} {b p:Nat} {x:FN} {KA:Option Addr} {kc:Nat} (h:NodeAt W b p x KA kc) (hl:b<W.heap.size) (hb:Below W.heap.size W W'):NodeAt W' b p x KA kc:=by
 obtain⟨c0,c1,c2,c3,c4,c5,c6,c7,c8,c9,c10,c11,c12,c13⟩:=h;exact⟨(hb.cell (p:=⟨b,_,none⟩) hl).trans c0,(hb.cell (p:=⟨b,_,none⟩) hl).trans c1,(hb.cell (p:=⟨b,_,none⟩) hl).trans c2,(hb.cell (p:=⟨b,_,none⟩) hl).trans c3,(hb.cell (p:=⟨b,_,none⟩) hl).trans c4,(hb.cell (p:=⟨b,_,none⟩) hl).trans c5,(hb.cell (p:=⟨b,_,none⟩) hl).trans c6,(hb.cell (p:=⟨b,_,none⟩) hl).trans c7,(hb.cell (p:=⟨b,_,none⟩) hl).trans c8,(hb.cell (p:=⟨b,_,none⟩) hl).trans c9,(hb.cell (p:=⟨b,_,none⟩) hl).trans c10,(hb.cell (p:=⟨b,_,none⟩) hl).trans c11,(hb.cell (p:=⟨b,_,none⟩) hl).trans c12,(hb.cell (p:=⟨b,_,none⟩) hl).trans c13⟩
def FnRow (W:World) (A:Option Addr) (n:Nat) (F:Nat→FN):Prop:=
 n≤maxLen∧ ∀i,i<n→ ∃b o KA kc,A=some ⟨b,o,none⟩∧b<W.heap.size∧NodeAt W b (o+i*14) (F i) KA kc∧IntRow W KA (F i).kids∧(F i).cs.size≤maxLen
theorem FnRow.below {W W':World} {A:Option Addr} {n:Nat} {F:Nat→FN} (h:FnRow W A n F) (hb:Below W.heap.size W W'):FnRow W' A n F:=
 ⟨h.1,fun i hi=>by
  obtain⟨b,o,KA,kc,e,hl,hn,hk,hs⟩:=h.2 i hi
  exact⟨b,o,KA,kc,e,Nat.lt_of_lt_of_le hl hb.size,hn.below hl hb,hk.below hb,hs⟩⟩
def Yn (x:FN) (KA:Option Addr) (kc:Nat):List Value:= [.int .i64 (x.k),.int .i64 (x.o),.int .i64 (x.ck),.int .i64 (x.cn),.string (x.cs),.int .i64 (x.ac),.int .i64 (x.ar),.bool (x.af),.bool (x.ag),.int .i64 (x.bc),.int .i64 (x.br),.bool (x.bf),.bool (x.bg),.slice KA x.kids.length kc]
theorem Qmy:(Tryz.prog.info? 201).map (fun i=>(i.zero,i.size,i.bytes))=some (some (.agg #[.int .i64 0,.int .i64 0,.int .i64 0,.int .i64 0,.string ⟨#[]⟩,.int .i64 0,.int .i64 0,.bool false,.bool false,.int .i64 0,.int .i64 0,.bool false,.bool false,.slice none 0 0]),14,120):=by kernel_rfl
def FnPart (W:World) (B:Nat) (ys:List Value) (F:Nat→FN) (t:Nat):Prop:=
 ∀i,i<t→ ∃KA kc,(∀j,j<14→ys[i*14+j]? =(Yn (F i) KA kc)[j]?)∧W.ownsRow B 2 1 (.slice KA (F i).kids.length kc) (F i).kids.length ((F i).kids.map (Value.int .i64))
theorem FnPart.below {W W':World} {B:Nat} {ys:List Value} {F:Nat→FN} {t:Nat} (h:FnPart W B ys F t) (hb:Below W.heap.size W W'):FnPart W' B ys F t:=fun i hi=>by
 obtain⟨KA,kc,h1,h2⟩:=h i hi;exact⟨KA,kc,h1,Qf h2 hb⟩
theorem Qik {W:World} {B g n cap:Nat} {ys:List Value} {F:Nat→FN} (h:W.ownsRow B 201 14 (.slice (some ⟨g,0,none⟩) n cap) n ys) {B':Nat} (hp:FnPart W B' ys F n) (hs: ∀i,i<n→(F i).cs.size≤maxLen):FnRow W (some ⟨g,0,none⟩) n F:=by
 obtain⟨A',cap',e,hn,hc⟩:=Qo h;cases e
 refine⟨hn,fun i hi=> ?_⟩;obtain⟨KA,kc,h1,h2⟩:=hp i hi
 have hcell: ∀j,j<14→W.cell? ⟨g,0+i*14+j,none⟩=(Yn (F i) KA kc)[j]?:=fun j hj=>by
  obtain⟨g',e',_,_,c,_⟩:=hc (i*14+j) (by omega);cases e'
  rw [Nat.zero_add,c,h1 j hj]
 obtain⟨g',e',_,hl,_,_⟩:=hc (i*14) (by omega);cases e'
 refine⟨g,0,KA,kc,rfl,hl,⟨hcell 0 (by omega),hcell 1 (by omega),hcell 2 (by omega),hcell 3 (by omega),hcell 4 (by omega),hcell 5 (by omega),hcell 6 (by omega),hcell 7 (by omega),hcell 8 (by omega),hcell 9 (by omega),hcell 10 (by omega),hcell 11 (by omega),hcell 12 (by omega),hcell 13 (by omega)⟩,Js h2,hs i hi⟩
def Yk (a b c d:Int):Bool:=Qh a b&&Qh c d&&decide (a≤c∧b≤d)
def zP (c r:Int) (f g:Bool):Bool:=decide (c=0)&&decide (r=0)&& !f&& !g
def zV (k n:Int) (s:ByteArray):Bool:=decide (k=0)&&decide (n=0)&&emp s
def cOk (k n:Int) (s:ByteArray):Bool:=okV k n s&& !decide (k=0)&&(!decide (k=1) || decide (0≤n))
def Ky (o:Int) (n:Nat):Bool:=
 if o=5 then decide (2≤n∧n≤3)else if 8≤o∧o≤10 then decide (n=1)else if 1≤o∧o≤7 then decide (1≤n∧n≤10)else false
theorem Ub (a b c d:Int) (w:World):Calls Tryz.prog 251 #[.agg #[.int .i64 a,.int .i64 b,.int .i64 c,.int .i64 d]] w fun e w'=>
  e= .returned (.bool (Yk a b c d))∧Below w.heap.size w w':=by
 go_enter Tryz.func251,Tryz.ntmps251
 go_wp2_with (first
  | (go_at_call 95;refine(Zi _ _ _).mono ?_;rintro e w1 ⟨rfl,hb⟩;obtain⟨hc,hf,hC,hF,hz,hk,l0⟩:=bk1 (w:=w) (by go_grown) (by go_size) hb;clear hb))
 all_goals
  go_ret;refine⟨Qb ?_,by go_grown⟩;unfold Yk;rw [Bool.eq_iff_iff];simp [*];try omega
theorem GR (a b c d:Int) (w:World):Calls Tryz.prog 61 #[.agg #[.int .i64 a,.int .i64 b,.int .i64 c,.int .i64 d]] w fun e w'=>
  e= .returned (.bool (Yk a b c d))∧Below w.heap.size w w':=by
 go_enter Tryz.func61,Tryz.ntmps61
 go_wp2_with (first
  | (go_at_call 59;refine(Qz _ _ _).mono ?_;rintro e w1 ⟨rfl,hb⟩;obtain⟨hc,hf,hC,hF,hz,hk,l0⟩:=bk1 (w:=w) (by go_grown) (by go_size) hb;clear hb))
 all_goals
  go_ret;refine⟨Qb ?_,by go_grown⟩;unfold Yk;rw [Bool.eq_iff_iff];simp [*];try omega
theorem Bw (k n:Int) (s:ByteArray) (w:World) (hs:s.size≤maxLen):Calls Tryz.prog 250 #[.agg #[.int .i64 k,.int .i64 n,.string s]] w fun e w'=>
  e= .returned (.bool (cOk k n s))∧Below w.heap.size w w':=by
 cases ho:okV k n s
 ·have HO:Hid (okV k n s=false):=ho;clear ho;go_enter Tryz.func250,Tryz.ntmps250;go_wp2_with (go_at_call 244;refine(Yr _ _ _ _ hs).mono ?_;rintro e w1 ⟨rfl,hb⟩;rw [HO.out];obtain⟨hc,hf,hC,hF,hz,hk,l0⟩:=bk1 (w:=w) (by go_grown) (by go_size) hb;clear hb)
  all_goals
   go_ret;exact⟨Qb (by simp [cOk,HO.out]),by go_grown⟩
 have HO:Hid (okV k n s=true):=ho;clear ho;by_cases h0:k=0
 ·subst h0;go_enter Tryz.func250,Tryz.ntmps250;go_wp2_with (go_at_call 244;refine(Yr _ _ _ _ hs).mono ?_;rintro e w1 ⟨rfl,hb⟩;rw [HO.out];obtain⟨hc,hf,hC,hF,hz,hk,l0⟩:=bk1 (w:=w) (by go_grown) (by go_size) hb;clear hb)
  all_goals
   go_ret;exact⟨Qb (by simp [cOk]),by go_grown⟩
 have e0:(k !=0)=true:=by simpa using h0
 by_cases h1:k=1
 ·subst h1;clear e0;go_enter Tryz.func250,Tryz.ntmps250;go_wp2_with (go_at_call 244;refine(Yr _ _ _ _ hs).mono ?_;rintro e w1 ⟨rfl,hb⟩;rw [HO.out];obtain⟨hc,hf,hC,hF,hz,hk,l0⟩:=bk1 (w:=w) (by go_grown) (by go_size) hb;clear hb)
  all_goals
   go_ret;exact⟨Qb (by simp [cOk,HO.out]),by go_grown⟩
 ·have e1:(k !=1)=true:=by simpa using h1
  go_enter Tryz.func250,Tryz.ntmps250;go_wp2_with (go_at_call 244;refine(Yr _ _ _ _ hs).mono ?_;rintro e w1 ⟨rfl,hb⟩;rw [HO.out];obtain⟨hc,hf,hC,hF,hz,hk,l0⟩:=bk1 (w:=w) (by go_grown) (by go_size) hb;clear hb)
  all_goals
   go_ret;exact⟨Qb (by simp [cOk,HO.out,h0,h1]),by go_grown⟩
theorem Gq (o ck cn:Int) (cs:ByteArray) (ac ar:Int) (af ag:Bool) (bc br:Int) (bf bg:Bool) {KA:Option Addr} {kl kc:Nat} (w:World):
  Calls Tryz.prog 252 #[.agg #[.int .i64 3,.int .i64 o,.int .i64 ck,.int .i64 cn,.string cs,.int .i64 ac,.int .i64 ar,.bool af,.bool ag,.int .i64 bc,.int .i64 br,.bool bf,.bool bg,.slice KA kl kc]] w fun e w'=>
  e= .returned (.agg #[.int .i64 ac,.int .i64 ar,.int .i64 bc,.int .i64 br])∧Below w.heap.size w w':=by
 go_enter Tryz.func252,Tryz.ntmps252;go_wp2
 go_returns
 exact⟨rfl,by go_grown⟩
theorem ZS (k o ck cn:Int) (cs:ByteArray) (ac ar:Int) (af ag:Bool) (bc br:Int) (bf bg:Bool) {KA:Option Addr} {kl kc:Nat} (w:World):
  Calls Tryz.prog 253 #[.agg #[.int .i64 k,.int .i64 o,.int .i64 ck,.int .i64 cn,.string cs,.int .i64 ac,.int .i64 ar,.bool af,.bool ag,.int .i64 bc,.int .i64 br,.bool bf,.bool bg,.slice KA kl kc]] w fun e w'=>
  e= .returned (.bool (zV ck cn cs&&zP ac ar af ag&&zP bc br bf bg))∧Below w.heap.size w w':=by
 go_enter Tryz.func253,Tryz.ntmps253;go_wp2
 all_goals
  go_ret;exact⟨Qb (by simp [zV,zP,emp, *]),by go_grown⟩
end Go.Proofs.YtbdhinckiccniaaGreatDoor
