import Derived.Test.YtbdhinckiccniaaGreatDoorBase
set_option linter.unusedSimpArgs false
set_option linter.unusedVariables false
set_option maxHeartbeats 1000000
namespace Go.Proofs.YtbdhinckiccniaaGreatDoor
open Go.RowKit
theorem Yv {W:World} {B B':Nat} {e:TypeId} {size n:Nat} {v:Value} {xs:List Value} (h:W.ownsRow B e size v n xs) (hB:B'≤B):W.ownsRow B' e size v n xs:=by
 refine⟨h.1,?_⟩;rcases h.2 with hn | ⟨g,cap,cur,rfl,hb,rest⟩
 ·exact .inl hn
 ·exact .inr ⟨g,cap,cur,rfl,Nat.le_trans hB hb,rest⟩
theorem Qf {W w':World} {B:Nat} {e:TypeId} {size n:Nat} {v:Value} {xs:List Value} (h:W.ownsRow B e size v n xs) (hb:Below W.heap.size W w'):w'.ownsRow B e size v n xs:=by
 refine⟨h.1,?_⟩;rcases h.2 with hn | ⟨g,cap,cur,rfl,hB,hgg,rest⟩
 ·exact .inl hn
 ·exact .inr ⟨g,cap,cur,rfl,hB,by rw [hb.block g (Array.getElem?_eq_some_iff.1 hgg).1];exact hgg,rest⟩
theorem Qo {W:World} {B:Nat} {e:TypeId} {size n:Nat} {v:Value} {xs:List Value} (h:W.ownsRow B e size v n xs):
  ∃A cap,v= .slice A n cap∧n≤maxLen∧(∀j,j<n*size→ ∃g,A=some ⟨g,0,none⟩∧B≤g∧g<W.heap.size∧W.cell? ⟨g,j,none⟩=xs[j]?∧W.frozen? ⟨g,j,none⟩=false):=by
 rcases h.2 with⟨rfl,rfl⟩ | ⟨g,cap,cur,rfl,hb,hg,h1,h2,_⟩
 ·exact⟨none,0,rfl,Nat.zero_le _,fun j hj=>by omega⟩
 ·exact⟨_,cap,rfl,Nat.le_trans h1 h2,fun j hj=>⟨g,rfl,hb,(Array.getElem?_eq_some_iff.1 hg).1,h.cellAt j hj,h.frozenAt j⟩⟩
theorem Qa0 {a b c:World} {row:Option Nat} (h:a.grownBy b row) (h':b.grownBy c row):a.grownBy c row:=
 ⟨h'.os.trans h.os,h'.tape.trans h.tape,h'.output.trans h.output,Nat.le_trans h.size h'.size,fun k hk hr=>(h'.block k (Nat.lt_of_lt_of_le hk h.size) hr).trans (h.block k hk hr)⟩
theorem cy {W w':World} {b o:Nat} {x:Value} (hb:Below W.heap.size W w') (c:W.cell? ⟨b,o,none⟩=some x):w'.cell? ⟨b,o,none⟩=some x:=
 (hb.cell (p:=⟨b,o,none⟩) (World.block_lt_of_cell? W ⟨b,o,none⟩ c)).trans c
def NU (W:World) (g p:Nat):List Value→World
 | []=>W
 | v::vs=>NU (W.setCell ⟨g,p,none⟩ v) g (p+1) vs
def Ks (ys:List Value) (p:Nat):List Value→List Value
 | []=>ys
 | v::vs=>Ks (ys.set p v) (p+1) vs
theorem Qhu: ∀(vs ys:List Value) (p:Nat),(Ks ys p vs).length=ys.length
 | [],_,_=>rfl
 | v::vs,ys,p=>by rw [Ks,Qhu vs];simp
theorem Ja: ∀(vs ys:List Value) (p j:Nat),j<p→(Ks ys p vs)[j]? =ys[j]?
 | [],_,_,_,_=>rfl
 | v::vs,ys,p,j,h=>by rw [Ks,Ja vs _ _ _ (by omega),List.getElem?_set_ne (by omega)]
theorem Vc: ∀(vs ys:List Value) (p j:Nat),j<vs.length→p+vs.length≤ys.length→(Ks ys p vs)[p+j]? =vs[j]?
 | [],_,_,_,h,_=>absurd h (Nat.not_lt_zero _)
 | v::vs,ys,p,0,_,hl=>by
  simp only [List.length_cons]at hl;rw [Ks,Ja vs _ _ _ (by omega),Nat.add_zero,List.getElem?_set_self (by omega)];rfl
 | v::vs,ys,p,j+1,h,hl=>by
  simp only [List.length_cons]at hl h;rw [Ks,show p+(j+1)=p+1+j by omega,Vc vs _ _ j (by omega) (by simp;omega)];rfl
theorem Ei {B:Nat} {e:TypeId} {size g n cap:Nat}: ∀(vs:List Value) (W:World) (p:Nat) (ys:List Value),W.ownsRow B e size (.slice (some ⟨g,0,none⟩) n cap) n ys→
  (NU W g p vs).ownsRow B e size (.slice (some ⟨g,0,none⟩) n cap) n (Ks ys p vs)∧W.grownBy (NU W g p vs) (some g)
 | [],W,_,_,h=>⟨h,World.grownBy.refl _ _⟩
 | v::vs,W,p,ys,h=>by
  obtain⟨o1,g1⟩:=h.stored p v;obtain⟨o2,g2⟩:=Ei vs _ (p+1) _ o1;exact⟨o2,Qa0 g1 g2⟩
def IntRow (W:World) (A:Option Addr) (l:List Int):Prop:=
 l.length≤maxLen∧ ∀i,i<l.length→ ∃b o,A=some ⟨b,o,none⟩∧b<W.heap.size∧W.cell? ⟨b,o+i,none⟩=some (.int .i64 (l.getD i 0))
theorem IntRow.below {W W':World} {A:Option Addr} {l:List Int} (h:IntRow W A l) (hb:Below W.heap.size W W'):IntRow W' A l:=
 ⟨h.1,fun i hi=>by
  obtain⟨b,o,e,hl,c⟩:=h.2 i hi
  exact⟨b,o,e,Nat.lt_of_lt_of_le hl hb.size,(hb.cell (p:=⟨b,_,none⟩) hl).trans c⟩⟩
theorem Qsr (l:List Int) (i:Nat) (h:i<l.length):(l.map (Value.int .i64))[i]? =some (.int .i64 (l.getD i 0)):=by
 rw [List.getElem?_map,List.getElem?_eq_getElem h,List.getD_eq_getElem?_getD,List.getElem?_eq_getElem h];rfl
theorem Js {W:World} {B:Nat} {e:TypeId} {A:Option Addr} {cap:Nat} {l:List Int} (h:W.ownsRow B e 1 (.slice A l.length cap) l.length (l.map (Value.int .i64))):IntRow W A l:=by
 obtain⟨A',cap',e,hn,hc⟩:=Qo h;cases e
 refine⟨hn,fun i hi=> ?_⟩;obtain⟨g,rfl,_,hl,c0,_⟩:=hc i (by omega);exact⟨g,0,rfl,hl,by rw [Nat.zero_add,c0,Qsr l i hi]⟩
theorem Qp1 {xs ys:List Value} {n:Nat} (h1:xs.length=n) (h2:ys.length=n) (h: ∀j,j<n→xs[j]? =ys[j]?):xs=ys:=by
 apply List.ext_getElem?;intro j;by_cases hj:j<n
 ·exact h j hj
 ·rw [List.getElem?_eq_none (by omega),List.getElem?_eq_none (by omega)]
theorem Qgg:(Tryz.prog.info? 2).map (fun i=>(i.zero,i.size,i.bytes))=some (some (.int .i64 0),1,8):=by kernel_rfl
theorem Oc {A A':Option Addr} {cap cap':Nat} {l:List Int} (w:World) (h:IntRow w A l) (h':IntRow w A' l):
  Calls Tryz.prog 146 #[.slice A l.length cap,.slice A' l.length cap'] w fun e w'=>e= .returned (.bool true)∧Below w.heap.size w w':=by
 have HR:Hid (IntRow w A l):=h;have HR':Hid (IntRow w A' l):=h';have hn:=h.1;unfold maxLen at hn;clear h h';obtain⟨n,HL⟩: ∃n,Hid (l.length=n):=⟨_,rfl⟩;rw [HL.out]at hn ⊢
 go_enter Tryz.func146,Tryz.ntmps146;go_wp2_with fail
 go_loopw [5] (fun i wr=> ∃k:Nat,k≤n∧i= .int .i64 k∧Below w.heap.size w wr) (fun i _=>n-(intOf i).toNat)
 case atStart=>exact⟨0,Nat.zero_le _,rfl,Below.refl _ _⟩
 case round=>
  obtain⟨k,hk,rfl,hbel⟩:=hrel;by_cases hlt:k<n
  ·obtain⟨b,o,rfl,hl,c0⟩:=HR.out.2 k (by rw [HL.out];exact hlt);obtain⟨b',o',rfl,hl',c0'⟩:=HR'.out.2 k (by rw [HL.out];exact hlt);rw [←hbel.cell (p:=⟨_,_,none⟩) hl]at c0;rw [←hbel.cell (p:=⟨_,_,none⟩) hl']at c0';obtain⟨z,HZ⟩: ∃z,Hid (l.getD k 0=z):=⟨_,rfl⟩;rw [HZ.out]at c0 c0';have h0:(0:Int)≤(k:Int):=by omega
   have h1:(k:Int)<(n:Int):=by omega
   go_wp2_with fail
   go_region
   all_goals go_wp2_with fail
   all_goals
    go_roundw
    case rel=>exact⟨k+1,by omega,by go_num,by go_grown⟩
    case measure=>simp [intOf];omega
  ·have h1: ¬(k:Int)<(n:Int):=by omega
   go_wp2_with fail
   go_ret;exact⟨rfl,hbel⟩
def szn (l:Int) (n:Nat):Int:=if l-n<0 then-1 else l-n
def Qh (c r:Int):Bool:=decide (1≤c∧c≤52∧1≤r∧r≤99)
def Yi (c r c' r':Int):Bool:=decide (r<r'∨r=r'∧c<c')
theorem Zi (c r:Int) (w:World):Calls Tryz.prog 95 #[.agg #[.int .i64 c,.int .i64 r]] w fun e w'=>
  e= .returned (.bool (Qh c r))∧Below w.heap.size w w':=by
 go_enter Tryz.func95,Tryz.ntmps95;go_wp2
 all_goals
  go_ret;refine⟨Qb ?_,by go_grown⟩;unfold Qh;rw [Bool.eq_iff_iff];simp;try omega
theorem Qz (c r:Int) (w:World):Calls Tryz.prog 59 #[.agg #[.int .i64 c,.int .i64 r]] w fun e w'=>
  e= .returned (.bool (Qh c r))∧Below w.heap.size w w':=by
 go_enter Tryz.func59,Tryz.ntmps59;go_wp2
 all_goals
  go_ret;refine⟨Qb ?_,by go_grown⟩;unfold Qh;rw [Bool.eq_iff_iff];simp;try omega
theorem Qdq (c r:Int) (w:World):Calls Tryz.prog 242 #[.agg #[.int .i64 c,.int .i64 r],.agg #[.int .i64 c,.int .i64 r]] w fun e w'=>
  e= .returned (.bool true)∧Below w.heap.size w w':=by
 go_enter Tryz.func242,Tryz.ntmps242;go_wp2
 go_ret;exact⟨rfl,by go_grown⟩
theorem KP (c r c' r':Int) (w:World):Calls Tryz.prog 60 #[.agg #[.int .i64 c,.int .i64 r],.agg #[.int .i64 c',.int .i64 r']] w fun e w'=>
  e= .returned (.bool (Yi c r c' r'))∧Below w.heap.size w w':=by
 by_cases h1:r<r'
 ·go_enter Tryz.func60,Tryz.ntmps60;go_wp2
  all_goals
   go_ret;exact⟨Qb (by simp [Yi,h1]),by go_grown⟩
 by_cases h2:r=r'
 ·subst h2;go_enter Tryz.func60,Tryz.ntmps60;go_wp2
  all_goals
   go_ret;exact⟨Qb (by simp [Yi]),by go_grown⟩
 ·have h3:(r==r')=false:=by simpa using h2
  have h4:(r !=r')=true:=by simpa using h2
  go_enter Tryz.func60,Tryz.ntmps60;go_wp2
  all_goals
   go_ret;exact⟨Qb (by simp [Yi,h2];omega),by go_grown⟩
theorem JF {a b:ByteArray} (h:a=b):(a.toList==b.toList)=true:=by simp [h]
theorem Qr4 {a b:ByteArray} (h:(a.toList==b.toList)=true):a=b:=by
 have e:=eq_of_beq h;rw [ByteArray.toList_eq,ByteArray.toList_eq]at e;exact ByteArray.ext (Array.toList_inj.1 e)
theorem QD {a b:ByteArray} (h:a≠b):(a.toList==b.toList)=false:=by
 cases e:(a.toList==b.toList)
 ·rfl
 ·exact absurd (Qr4 e) h
end Go.Proofs.YtbdhinckiccniaaGreatDoor
