import Derived.Test.YtejbnnacghbhoaaGreatDoorBase
set_option linter.unusedSimpArgs false
set_option linter.unusedVariables false
set_option maxHeartbeats 400000
namespace Go.Proofs.YtejbnnacghbhoaaGreatDoor
open Go.RowKit
theorem ZP {W:World} {B B':Nat} {e:TypeId} {size n:Nat} {v:Value} {xs:List Value} (h:W.ownsRow B e size v n xs) (hB:B'≤B):W.ownsRow B' e size v n xs:=by
 refine⟨h.1,?_⟩;rcases h.2 with hn | ⟨g,cap,cur,rfl,hb,rest⟩
 ·exact .inl hn
 ·exact .inr ⟨g,cap,cur,rfl,Nat.le_trans hB hb,rest⟩
theorem Qi {W w':World} {B:Nat} {e:TypeId} {size n:Nat} {v:Value} {xs:List Value} (h:W.ownsRow B e size v n xs) (hb:Below W.heap.size W w'):w'.ownsRow B e size v n xs:=by
 refine⟨h.1,?_⟩;rcases h.2 with hn | ⟨g,cap,cur,rfl,hB,hgg,rest⟩
 ·exact .inl hn
 ·exact .inr ⟨g,cap,cur,rfl,hB,by rw [hb.block g (Array.getElem?_eq_some_iff.1 hgg).1];exact hgg,rest⟩
theorem Qu {W:World} {B:Nat} {e:TypeId} {size n:Nat} {v:Value} {xs:List Value} (h:W.ownsRow B e size v n xs):
  ∃A cap,v= .slice A n cap∧n≤maxLen∧(∀j,j<n*size→ ∃g,A=some ⟨g,0,none⟩∧B≤g∧g<W.heap.size∧W.cell? ⟨g,j,none⟩=xs[j]?∧W.frozen? ⟨g,j,none⟩=false):=by
 rcases h.2 with⟨rfl,rfl⟩ | ⟨g,cap,cur,rfl,hb,hg,h1,h2,_⟩
 ·exact⟨none,0,rfl,Nat.zero_le _,fun j hj=>by omega⟩
 ·exact⟨_,cap,rfl,Nat.le_trans h1 h2,fun j hj=>⟨g,rfl,hb,(Array.getElem?_eq_some_iff.1 hg).1,h.cellAt j hj,h.frozenAt j⟩⟩
theorem BH {a b c:World} {row:Option Nat} (h:a.grownBy b row) (h':b.grownBy c row):a.grownBy c row:=
 ⟨h'.os.trans h.os,h'.tape.trans h.tape,h'.output.trans h.output,Nat.le_trans h.size h'.size,fun k hk hr=>(h'.block k (Nat.lt_of_lt_of_le hk h.size) hr).trans (h.block k hk hr)⟩
theorem cy {W w':World} {b o:Nat} {x:Value} (hb:Below W.heap.size W w') (c:W.cell? ⟨b,o,none⟩=some x):w'.cell? ⟨b,o,none⟩=some x:=
 (hb.cell (p:=⟨b,o,none⟩) (World.block_lt_of_cell? W ⟨b,o,none⟩ c)).trans c
def MN (W:World) (g p:Nat):List Value→World
 | []=>W
 | v::vs=>MN (W.setCell ⟨g,p,none⟩ v) g (p+1) vs
def Gz (ys:List Value) (p:Nat):List Value→List Value
 | []=>ys
 | v::vs=>Gz (ys.set p v) (p+1) vs
theorem Qet: ∀(vs ys:List Value) (p:Nat),(Gz ys p vs).length=ys.length
 | [],_,_=>rfl
 | v::vs,ys,p=>by rw [Gz,Qet vs];simp
theorem Mo: ∀(vs ys:List Value) (p j:Nat),j<p→(Gz ys p vs)[j]? =ys[j]?
 | [],_,_,_,_=>rfl
 | v::vs,ys,p,j,h=>by rw [Gz,Mo vs _ _ _ (by omega),List.getElem?_set_ne (by omega)]
theorem Ez: ∀(vs ys:List Value) (p j:Nat),j<vs.length→p+vs.length≤ys.length→(Gz ys p vs)[p+j]? =vs[j]?
 | [],_,_,_,h,_=>absurd h (Nat.not_lt_zero _)
 | v::vs,ys,p,0,_,hl=>by
  simp only [List.length_cons]at hl;rw [Gz,Mo vs _ _ _ (by omega),Nat.add_zero,List.getElem?_set_self (by omega)];rfl
 | v::vs,ys,p,j+1,h,hl=>by
  simp only [List.length_cons]at hl h;rw [Gz,show p+(j+1)=p+1+j by omega,Ez vs _ _ j (by omega) (by simp;omega)];rfl
theorem Qcw {B:Nat} {e:TypeId} {size g n cap:Nat}: ∀(vs:List Value) (W:World) (p:Nat) (ys:List Value),W.ownsRow B e size (.slice (some ⟨g,0,none⟩) n cap) n ys→
  (MN W g p vs).ownsRow B e size (.slice (some ⟨g,0,none⟩) n cap) n (Gz ys p vs)∧W.grownBy (MN W g p vs) (some g)
 | [],W,_,_,h=>⟨h,World.grownBy.refl _ _⟩
 | v::vs,W,p,ys,h=>by
  obtain⟨o1,g1⟩:=h.stored p v;obtain⟨o2,g2⟩:=Qcw vs _ (p+1) _ o1;exact⟨o2,BH g1 g2⟩
def IntRow (W:World) (A:Option Addr) (l:List Int):Prop:=
 l.length≤maxLen∧ ∀i,i<l.length→ ∃b o,A=some ⟨b,o,none⟩∧b<W.heap.size∧W.cell? ⟨b,o+i,none⟩=some (.int .i64 (l.getD i 0))
theorem IntRow.below {W W':World} {A:Option Addr} {l:List Int} (h:IntRow W A l) (hb:Below W.heap.size W W'):IntRow W' A l:=
 ⟨h.1,fun i hi=>by
  obtain⟨b,o,e,hl,c⟩:=h.2 i hi
  exact⟨b,o,e,Nat.lt_of_lt_of_le hl hb.size,(hb.cell (p:=⟨b,_,none⟩) hl).trans c⟩⟩
theorem Qpm (l:List Int) (i:Nat) (h:i<l.length):(l.map (Value.int .i64))[i]? =some (.int .i64 (l.getD i 0)):=by
 rw [List.getElem?_map,List.getElem?_eq_getElem h,List.getD_eq_getElem?_getD,List.getElem?_eq_getElem h];rfl
theorem Km {W:World} {B:Nat} {e:TypeId} {A:Option Addr} {cap:Nat} {l:List Int} (h:W.ownsRow B e 1 (.slice A l.length cap) l.length (l.map (Value.int .i64))):IntRow W A l:=by
 obtain⟨A',cap',e,hn,hc⟩:=Qu h;cases e
 refine⟨hn,fun i hi=> ?_⟩;obtain⟨g,rfl,_,hl,c0,_⟩:=hc i (by omega);exact⟨g,0,rfl,hl,by rw [Nat.zero_add,c0,Qpm l i hi]⟩
theorem Qms {xs ys:List Value} {n:Nat} (h1:xs.length=n) (h2:ys.length=n) (h: ∀j,j<n→xs[j]? =ys[j]?):xs=ys:=by
 apply List.ext_getElem?;intro j;by_cases hj:j<n
 ·exact h j hj
 ·rw [List.getElem?_eq_none (by omega),List.getElem?_eq_none (by omega)]
theorem Qdf:(Tryz.prog.info? 2).map (fun i=>(i.zero,i.size,i.bytes))=some (some (.int .i64 0),1,8):=by kernel_rfl
def szn (l:Int) (n:Nat):Int:=if l-n<0 then-1 else l-n
def Qg (c r:Int):Bool:=decide (1≤c∧c≤52∧1≤r∧r≤99)
def Zy (c r c' r':Int):Bool:=decide (r<r'∨r=r'∧c<c')
theorem Zv (c r:Int) (w:World):Calls Tryz.prog 94 #[.agg #[.int .i64 c,.int .i64 r]] w fun e w'=>
  e= .returned (.bool (Qg c r))∧Below w.heap.size w w':=by
 go_enter Tryz.func94,Tryz.ntmps94;go_wp2
 all_goals
  go_ret;refine⟨Qb ?_,by go_grown⟩;unfold Qg;rw [Bool.eq_iff_iff];simp;try omega
theorem Qp (c r:Int) (w:World):Calls Tryz.prog 52 #[.agg #[.int .i64 c,.int .i64 r]] w fun e w'=>
  e= .returned (.bool (Qg c r))∧Below w.heap.size w w':=by
 go_enter Tryz.func52,Tryz.ntmps52;go_wp2
 all_goals
  go_ret;refine⟨Qb ?_,by go_grown⟩;unfold Qg;rw [Bool.eq_iff_iff];simp;try omega
theorem Qa8 (c r:Int) (w:World):Calls Tryz.prog 104 #[.agg #[.int .i64 c,.int .i64 r],.agg #[.int .i64 c,.int .i64 r]] w fun e w'=>
  e= .returned (.bool true)∧Below w.heap.size w w':=by
 go_enter Tryz.func104,Tryz.ntmps104;go_wp2
 go_ret;exact⟨rfl,by go_grown⟩
theorem Kv (c r c' r':Int) (w:World):Calls Tryz.prog 77 #[.agg #[.int .i64 c,.int .i64 r],.agg #[.int .i64 c',.int .i64 r']] w fun e w'=>
  e= .returned (.bool (Zy c r c' r'))∧Below w.heap.size w w':=by
 by_cases h1:r<r'
 ·go_enter Tryz.func77,Tryz.ntmps77;go_wp2
  all_goals
   go_ret;exact⟨Qb (by simp [Zy,h1]),by go_grown⟩
 by_cases h2:r=r'
 ·subst h2;go_enter Tryz.func77,Tryz.ntmps77;go_wp2
  all_goals
   go_ret;exact⟨Qb (by simp [Zy]),by go_grown⟩
 ·have h3:(r==r')=false:=by simpa using h2
  have h4:(r !=r')=true:=by simpa using h2
  go_enter Tryz.func77,Tryz.ntmps77;go_wp2
  all_goals
   go_ret;exact⟨Qb (by simp [Zy,h2];omega),by go_grown⟩
theorem Jv {a b:ByteArray} (h:a=b):(a.toList==b.toList)=true:=by simp [h]
theorem Qoz {a b:ByteArray} (h:(a.toList==b.toList)=true):a=b:=by
 have e:=eq_of_beq h;rw [ByteArray.toList_eq,ByteArray.toList_eq]at e;exact ByteArray.ext (Array.toList_inj.1 e)
theorem QF {a b:ByteArray} (h:a≠b):(a.toList==b.toList)=false:=by
 cases e:(a.toList==b.toList)
 ·rfl
 ·exact absurd (Qoz e) h
end Go.Proofs.YtejbnnacghbhoaaGreatDoor
