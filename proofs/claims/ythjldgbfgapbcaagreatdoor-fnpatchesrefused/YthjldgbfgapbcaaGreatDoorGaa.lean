import Derived.Test.YthjldgbfgapbcaaGreatDoorBase
set_option linter.unusedSimpArgs false
set_option linter.unusedVariables false
set_option maxHeartbeats 400000
namespace Go.Proofs.YthjldgbfgapbcaaGreatDoor
open Go.RowKit
theorem JP {W:World} {B B':Nat} {e:TypeId} {size n:Nat} {v:Value} {xs:List Value} (h:W.ownsRow B e size v n xs) (hB:B'≤B):W.ownsRow B' e size v n xs:=by
 refine⟨h.1,?_⟩;rcases h.2 with hn | ⟨g,cap,cur,rfl,hb,rest⟩
 ·exact .inl hn
 ·exact .inr ⟨g,cap,cur,rfl,Nat.le_trans hB hb,rest⟩
theorem Ql {W w':World} {B:Nat} {e:TypeId} {size n:Nat} {v:Value} {xs:List Value} (h:W.ownsRow B e size v n xs) (hb:Below W.heap.size W w'):w'.ownsRow B e size v n xs:=by
 refine⟨h.1,?_⟩;rcases h.2 with hn | ⟨g,cap,cur,rfl,hB,hgg,rest⟩
 ·exact .inl hn
 ·exact .inr ⟨g,cap,cur,rfl,hB,by rw [hb.block g (Array.getElem?_eq_some_iff.1 hgg).1];exact hgg,rest⟩
theorem Qr {W:World} {B:Nat} {e:TypeId} {size n:Nat} {v:Value} {xs:List Value} (h:W.ownsRow B e size v n xs):
  ∃A cap,v= .slice A n cap∧n≤maxLen∧(∀j,j<n*size→ ∃g,A=some ⟨g,0,none⟩∧B≤g∧g<W.heap.size∧W.cell? ⟨g,j,none⟩=xs[j]?∧W.frozen? ⟨g,j,none⟩=false):=by
 rcases h.2 with⟨rfl,rfl⟩ | ⟨g,cap,cur,rfl,hb,hg,h1,h2,_⟩
 ·exact⟨none,0,rfl,Nat.zero_le _,fun j hj=>by omega⟩
 ·exact⟨_,cap,rfl,Nat.le_trans h1 h2,fun j hj=>⟨g,rfl,hb,(Array.getElem?_eq_some_iff.1 hg).1,h.cellAt j hj,h.frozenAt j⟩⟩
def IntRow (W:World) (A:Option Addr) (l:List Int):Prop:=
 l.length≤maxLen∧ ∀i,i<l.length→ ∃b o,A=some ⟨b,o,none⟩∧b<W.heap.size∧W.cell? ⟨b,o+i,none⟩=some (.int .i64 (l.getD i 0))
theorem IntRow.below {W W':World} {A:Option Addr} {l:List Int} (h:IntRow W A l) (hb:Below W.heap.size W W'):IntRow W' A l:=
 ⟨h.1,fun i hi=>by
  obtain⟨b,o,e,hl,c⟩:=h.2 i hi
  exact⟨b,o,e,Nat.lt_of_lt_of_le hl hb.size,(hb.cell (p:=⟨b,_,none⟩) hl).trans c⟩⟩
theorem Qod (l:List Int) (i:Nat) (h:i<l.length):(l.map (Value.int .i64))[i]? =some (.int .i64 (l.getD i 0)):=by
 rw [List.getElem?_map,List.getElem?_eq_getElem h,List.getD_eq_getElem?_getD,List.getElem?_eq_getElem h];rfl
theorem Kh {W:World} {B:Nat} {e:TypeId} {A:Option Addr} {cap:Nat} {l:List Int} (h:W.ownsRow B e 1 (.slice A l.length cap) l.length (l.map (Value.int .i64))):IntRow W A l:=by
 obtain⟨A',cap',e,hn,hc⟩:=Qr h;cases e
 refine⟨hn,fun i hi=> ?_⟩;obtain⟨g,rfl,_,hl,c0,_⟩:=hc i (by omega);exact⟨g,0,rfl,hl,by rw [Nat.zero_add,c0,Qod l i hi]⟩
theorem Qce:(Tryz.prog.info? 2).map (fun i=>(i.zero,i.size,i.bytes))=some (some (.int .i64 0),1,8):=by kernel_rfl
def Qj (c r:Int):Bool:=decide (1≤c∧c≤52∧1≤r∧r≤99)
def ZT (c r c' r':Int):Bool:=decide (r<r'∨r=r'∧c<c')
theorem QN (c r:Int) (w:World):Calls Tryz.prog 33 #[.agg #[.int .i64 c,.int .i64 r]] w fun e w'=>
  e= .returned (.bool (Qj c r))∧Below w.heap.size w w':=by
 go_enter Tryz.func33,Tryz.ntmps33;go_wp2
 all_goals
  go_ret;refine⟨Qb ?_,by go_grown⟩;unfold Qj;rw [Bool.eq_iff_iff];simp;try omega
theorem Qu (c r:Int) (w:World):Calls Tryz.prog 31 #[.agg #[.int .i64 c,.int .i64 r]] w fun e w'=>
  e= .returned (.bool (Qj c r))∧Below w.heap.size w w':=by
 go_enter Tryz.func31,Tryz.ntmps31;go_wp2
 all_goals
  go_ret;refine⟨Qb ?_,by go_grown⟩;unfold Qj;rw [Bool.eq_iff_iff];simp;try omega
theorem ZD (c r c' r':Int) (w:World):Calls Tryz.prog 29 #[.agg #[.int .i64 c,.int .i64 r],.agg #[.int .i64 c',.int .i64 r']] w fun e w'=>
  e= .returned (.bool (ZT c r c' r'))∧Below w.heap.size w w':=by
 by_cases h1:r<r'
 ·go_enter Tryz.func29,Tryz.ntmps29;go_wp2
  all_goals
   go_ret;exact⟨Qb (by simp [ZT,h1]),by go_grown⟩
 by_cases h2:r=r'
 ·subst h2;go_enter Tryz.func29,Tryz.ntmps29;go_wp2
  all_goals
   go_ret;exact⟨Qb (by simp [ZT]),by go_grown⟩
 ·have h3:(r==r')=false:=by simpa using h2
  have h4:(r !=r')=true:=by simpa using h2
  go_enter Tryz.func29,Tryz.ntmps29;go_wp2
  all_goals
   go_ret;exact⟨Qb (by simp [ZT,h2];omega),by go_grown⟩
theorem Jr {a b:ByteArray} (h:a=b):(a.toList==b.toList)=true:=by simp [h]
theorem Qh5 {a b:ByteArray} (h:(a.toList==b.toList)=true):a=b:=by
 have e:=eq_of_beq h;rw [ByteArray.toList_eq,ByteArray.toList_eq]at e;exact ByteArray.ext (Array.toList_inj.1 e)
theorem QF {a b:ByteArray} (h:a≠b):(a.toList==b.toList)=false:=by
 cases e:(a.toList==b.toList)
 ·rfl
 ·exact absurd (Qh5 e) h
end Go.Proofs.YthjldgbfgapbcaaGreatDoor
