import Derived.Test.YtekcnhfkmimodaaGreatDoorBase
set_option linter.unusedSimpArgs false
set_option linter.unusedVariables false
set_option maxHeartbeats 400000
namespace Go.Proofs.YtekcnhfkmimodaaGreatDoor
open Go.RowKit
theorem Zl {W:World} {B B':Nat} {e:TypeId} {size n:Nat} {v:Value} {xs:List Value} (h:W.ownsRow B e size v n xs) (hB:B'≤B):W.ownsRow B' e size v n xs:=by
 refine⟨h.1,?_⟩;rcases h.2 with hn | ⟨g,cap,cur,rfl,hb,rest⟩
 ·exact .inl hn
 ·exact .inr ⟨g,cap,cur,rfl,Nat.le_trans hB hb,rest⟩
theorem Qe {W w':World} {B:Nat} {e:TypeId} {size n:Nat} {v:Value} {xs:List Value} (h:W.ownsRow B e size v n xs) (hb:Below W.heap.size W w'):w'.ownsRow B e size v n xs:=by
 refine⟨h.1,?_⟩;rcases h.2 with hn | ⟨g,cap,cur,rfl,hB,hgg,rest⟩
 ·exact .inl hn
 ·exact .inr ⟨g,cap,cur,rfl,hB,by rw [hb.block g (Array.getElem?_eq_some_iff.1 hgg).1];exact hgg,rest⟩
theorem Qj {W:World} {B:Nat} {e:TypeId} {size n:Nat} {v:Value} {xs:List Value} (h:W.ownsRow B e size v n xs):
  ∃A cap,v= .slice A n cap∧n≤maxLen∧(∀j,j<n*size→ ∃g,A=some ⟨g,0,none⟩∧B≤g∧g<W.heap.size∧W.cell? ⟨g,j,none⟩=xs[j]?∧W.frozen? ⟨g,j,none⟩=false):=by
 rcases h.2 with⟨rfl,rfl⟩ | ⟨g,cap,cur,rfl,hb,hg,h1,h2,_⟩
 ·exact⟨none,0,rfl,Nat.zero_le _,fun j hj=>by omega⟩
 ·exact⟨_,cap,rfl,Nat.le_trans h1 h2,fun j hj=>⟨g,rfl,hb,(Array.getElem?_eq_some_iff.1 hg).1,h.cellAt j hj,h.frozenAt j⟩⟩
theorem QV {a b c:World} {row:Option Nat} (h:a.grownBy b row) (h':b.grownBy c row):a.grownBy c row:=
 ⟨h'.os.trans h.os,h'.tape.trans h.tape,h'.output.trans h.output,Nat.le_trans h.size h'.size,fun k hk hr=>(h'.block k (Nat.lt_of_lt_of_le hk h.size) hr).trans (h.block k hk hr)⟩
theorem cy {W w':World} {b o:Nat} {x:Value} (hb:Below W.heap.size W w') (c:W.cell? ⟨b,o,none⟩=some x):w'.cell? ⟨b,o,none⟩=some x:=
 (hb.cell (p:=⟨b,o,none⟩) (World.block_lt_of_cell? W ⟨b,o,none⟩ c)).trans c
def Uj (W:World) (g p:Nat):List Value→World
 | []=>W
 | v::vs=>Uj (W.setCell ⟨g,p,none⟩ v) g (p+1) vs
def Kw (ys:List Value) (p:Nat):List Value→List Value
 | []=>ys
 | v::vs=>Kw (ys.set p v) (p+1) vs
theorem Qbh: ∀(vs ys:List Value) (p:Nat),(Kw ys p vs).length=ys.length
 | [],_,_=>rfl
 | v::vs,ys,p=>by rw [Kw,Qbh vs];simp
theorem GO: ∀(vs ys:List Value) (p j:Nat),j<p→(Kw ys p vs)[j]? =ys[j]?
 | [],_,_,_,_=>rfl
 | v::vs,ys,p,j,h=>by rw [Kw,GO vs _ _ _ (by omega),List.getElem?_set_ne (by omega)]
theorem Dh: ∀(vs ys:List Value) (p j:Nat),j<vs.length→p+vs.length≤ys.length→(Kw ys p vs)[p+j]? =vs[j]?
 | [],_,_,_,h,_=>absurd h (Nat.not_lt_zero _)
 | v::vs,ys,p,0,_,hl=>by
  simp only [List.length_cons]at hl;rw [Kw,GO vs _ _ _ (by omega),Nat.add_zero,List.getElem?_set_self (by omega)];rfl
 | v::vs,ys,p,j+1,h,hl=>by
  simp only [List.length_cons]at hl h;rw [Kw,show p+(j+1)=p+1+j by omega,Dh vs _ _ j (by omega) (by simp;omega)];rfl
theorem EB {B:Nat} {e:TypeId} {size g n cap:Nat}: ∀(vs:List Value) (W:World) (p:Nat) (ys:List Value),W.ownsRow B e size (.slice (some ⟨g,0,none⟩) n cap) n ys→
  (Uj W g p vs).ownsRow B e size (.slice (some ⟨g,0,none⟩) n cap) n (Kw ys p vs)∧W.grownBy (Uj W g p vs) (some g)
 | [],W,_,_,h=>⟨h,World.grownBy.refl _ _⟩
 | v::vs,W,p,ys,h=>by
  obtain⟨o1,g1⟩:=h.stored p v;obtain⟨o2,g2⟩:=EB vs _ (p+1) _ o1;exact⟨o2,QV g1 g2⟩
def IntRow (W:World) (A:Option Addr) (l:List Int):Prop:=
 l.length≤maxLen∧ ∀i,i<l.length→ ∃b o,A=some ⟨b,o,none⟩∧b<W.heap.size∧W.cell? ⟨b,o+i,none⟩=some (.int .i64 (l.getD i 0))
theorem IntRow.below {W W':World} {A:Option Addr} {l:List Int} (h:IntRow W A l) (hb:Below W.heap.size W W'):IntRow W' A l:=
 ⟨h.1,fun i hi=>by
  obtain⟨b,o,e,hl,c⟩:=h.2 i hi
  exact⟨b,o,e,Nat.lt_of_lt_of_le hl hb.size,(hb.cell (p:=⟨b,_,none⟩) hl).trans c⟩⟩
theorem Qkj (l:List Int) (i:Nat) (h:i<l.length):(l.map (Value.int .i64))[i]? =some (.int .i64 (l.getD i 0)):=by
 rw [List.getElem?_map,List.getElem?_eq_getElem h,List.getD_eq_getElem?_getD,List.getElem?_eq_getElem h];rfl
theorem Ve {W:World} {B:Nat} {e:TypeId} {A:Option Addr} {cap:Nat} {l:List Int} (h:W.ownsRow B e 1 (.slice A l.length cap) l.length (l.map (Value.int .i64))):IntRow W A l:=by
 obtain⟨A',cap',e,hn,hc⟩:=Qj h;cases e
 refine⟨hn,fun i hi=> ?_⟩;obtain⟨g,rfl,_,hl,c0,_⟩:=hc i (by omega);exact⟨g,0,rfl,hl,by rw [Nat.zero_add,c0,Qkj l i hi]⟩
theorem Qh4 {xs ys:List Value} {n:Nat} (h1:xs.length=n) (h2:ys.length=n) (h: ∀j,j<n→xs[j]? =ys[j]?):xs=ys:=by
 apply List.ext_getElem?;intro j;by_cases hj:j<n
 ·exact h j hj
 ·rw [List.getElem?_eq_none (by omega),List.getElem?_eq_none (by omega)]
theorem EU:(Tryz.prog.info? 2).map (fun i=>(i.zero,i.size,i.bytes))=some (some (.int .i64 0),1,8):=by kernel_rfl
def szn (l:Int) (n:Nat):Int:=if l-n<0 then-1 else l-n
def Qm (c r:Int):Bool:=decide (1≤c∧c≤52∧1≤r∧r≤99)
def ZL (c r c' r':Int):Bool:=decide (r<r'∨r=r'∧c<c')
theorem Zf (c r:Int) (w:World):Calls Tryz.prog 60 #[.agg #[.int .i64 c,.int .i64 r]] w fun e w'=>
  e= .returned (.bool (Qm c r))∧Below w.heap.size w w':=by
 go_enter Tryz.func60,Tryz.ntmps60;go_wp2
 all_goals
  go_ret;refine⟨Qb ?_,by go_grown⟩;unfold Qm;rw [Bool.eq_iff_iff];simp;try omega
theorem QE (c r:Int) (w:World):Calls Tryz.prog 36 #[.agg #[.int .i64 c,.int .i64 r]] w fun e w'=>
  e= .returned (.bool (Qm c r))∧Below w.heap.size w w':=by
 go_enter Tryz.func36,Tryz.ntmps36;go_wp2
 all_goals
  go_ret;refine⟨Qb ?_,by go_grown⟩;unfold Qm;rw [Bool.eq_iff_iff];simp;try omega
theorem XA (c r:Int) (w:World):Calls Tryz.prog 9 #[.agg #[.int .i64 c,.int .i64 r]] w fun e w'=>
  e= .returned (.agg #[.int .i64 c,.int .i64 r])∧Below w.heap.size w w':=by
 go_enter Tryz.func9,Tryz.ntmps9;go_wp2
 go_returns
 exact⟨rfl,by go_grown⟩
theorem Gq (c r:Int) (w:World):Calls Tryz.prog 28 #[.agg #[.int .i64 c,.int .i64 r],.agg #[.int .i64 c,.int .i64 r]] w fun e w'=>
  e= .returned (.bool true)∧Below w.heap.size w w':=by
 go_enter Tryz.func28,Tryz.ntmps28;go_wp2
 go_ret;exact⟨rfl,by go_grown⟩
theorem Mz (c r c' r':Int) (w:World):Calls Tryz.prog 37 #[.agg #[.int .i64 c,.int .i64 r],.agg #[.int .i64 c',.int .i64 r']] w fun e w'=>
  e= .returned (.bool (ZL c r c' r'))∧Below w.heap.size w w':=by
 by_cases h1:r<r'
 ·go_enter Tryz.func37,Tryz.ntmps37;go_wp2
  all_goals
   go_ret;exact⟨Qb (by simp [ZL,h1]),by go_grown⟩
 by_cases h2:r=r'
 ·subst h2;go_enter Tryz.func37,Tryz.ntmps37;go_wp2
  all_goals
   go_ret;exact⟨Qb (by simp [ZL]),by go_grown⟩
 ·have h3:(r==r')=false:=by simpa using h2
  have h4:(r !=r')=true:=by simpa using h2
  go_enter Tryz.func37,Tryz.ntmps37;go_wp2
  all_goals
   go_ret;exact⟨Qb (by simp [ZL,h2];omega),by go_grown⟩
theorem XI {a b:ByteArray} (h:a=b):(a.toList==b.toList)=true:=by simp [h]
theorem Qjw {a b:ByteArray} (h:(a.toList==b.toList)=true):a=b:=by
 have e:=eq_of_beq h;rw [ByteArray.toList_eq,ByteArray.toList_eq]at e;exact ByteArray.ext (Array.toList_inj.1 e)
theorem Qs {a b:ByteArray} (h:a≠b):(a.toList==b.toList)=false:=by
 cases e:(a.toList==b.toList)
 ·rfl
 ·exact absurd (Qjw e) h
end Go.Proofs.YtekcnhfkmimodaaGreatDoor
