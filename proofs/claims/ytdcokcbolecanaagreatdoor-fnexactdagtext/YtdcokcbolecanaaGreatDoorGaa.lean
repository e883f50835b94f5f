import Derived.Test.YtdcokcbolecanaaGreatDoorBase
set_option linter.unusedSimpArgs false
set_option linter.unusedVariables false
set_option maxHeartbeats 2000000
namespace Go.Proofs.YtdcokcbolecanaaGreatDoor
open Go.RowKit
theorem Zd {W:World} {B B':Nat} {e:TypeId} {size n:Nat} {v:Value} {xs:List Value} (h:W.ownsRow B e size v n xs) (hB:B'≤B):W.ownsRow B' e size v n xs:=by
 refine⟨h.1,?_⟩;rcases h.2 with hn | ⟨g,cap,cur,rfl,hb,rest⟩
 ·exact .inl hn
 ·exact .inr ⟨g,cap,cur,rfl,Nat.le_trans hB hb,rest⟩
theorem Ql {W w':World} {B:Nat} {e:TypeId} {size n:Nat} {v:Value} {xs:List Value} (h:W.ownsRow B e size v n xs) (hb:Below W.heap.size W w'):w'.ownsRow B e size v n xs:=by
 refine⟨h.1,?_⟩;rcases h.2 with hn | ⟨g,cap,cur,rfl,hB,hgg,rest⟩
 ·exact .inl hn
 ·exact .inr ⟨g,cap,cur,rfl,hB,by rw [hb.block g (Array.getElem?_eq_some_iff.1 hgg).1];exact hgg,rest⟩
theorem Qo {W:World} {B:Nat} {e:TypeId} {size n:Nat} {v:Value} {xs:List Value} (h:W.ownsRow B e size v n xs):
  ∃A cap,v= .slice A n cap∧n≤maxLen∧(∀j,j<n*size→ ∃g,A=some ⟨g,0,none⟩∧B≤g∧g<W.heap.size∧W.cell? ⟨g,j,none⟩=xs[j]?∧W.frozen? ⟨g,j,none⟩=false):=by
 rcases h.2 with⟨rfl,rfl⟩ | ⟨g,cap,cur,rfl,hb,hg,h1,h2,_⟩
 ·exact⟨none,0,rfl,Nat.zero_le _,fun j hj=>by omega⟩
 ·exact⟨_,cap,rfl,Nat.le_trans h1 h2,fun j hj=>⟨g,rfl,hb,(Array.getElem?_eq_some_iff.1 hg).1,h.cellAt j hj,h.frozenAt j⟩⟩
theorem Ja {a b c:World} {row:Option Nat} (h:a.grownBy b row) (h':b.grownBy c row):a.grownBy c row:=
 ⟨h'.os.trans h.os,h'.tape.trans h.tape,h'.output.trans h.output,Nat.le_trans h.size h'.size,fun k hk hr=>(h'.block k (Nat.lt_of_lt_of_le hk h.size) hr).trans (h.block k hk hr)⟩
theorem cy {W w':World} {b o:Nat} {x:Value} (hb:Below W.heap.size W w') (c:W.cell? ⟨b,o,none⟩=some x):w'.cell? ⟨b,o,none⟩=some x:=
 (hb.cell (p:=⟨b,o,none⟩) (World.block_lt_of_cell? W ⟨b,o,none⟩ c)).trans c
def Ui (W:World) (g p:Nat):List Value→World
 | []=>W
 | v::vs=>Ui (W.setCell ⟨g,p,none⟩ v) g (p+1) vs
def Ku (ys:List Value) (p:Nat):List Value→List Value
 | []=>ys
 | v::vs=>Ku (ys.set p v) (p+1) vs
theorem Qau: ∀(vs ys:List Value) (p:Nat),(Ku ys p vs).length=ys.length
 | [],_,_=>rfl
 | v::vs,ys,p=>by rw [Ku,Qau vs];simp
theorem Xj: ∀(vs ys:List Value) (p j:Nat),j<p→(Ku ys p vs)[j]? =ys[j]?
 | [],_,_,_,_=>rfl
 | v::vs,ys,p,j,h=>by rw [Ku,Xj vs _ _ _ (by omega),List.getElem?_set_ne (by omega)]
theorem Jd: ∀(vs ys:List Value) (p j:Nat),j<vs.length→p+vs.length≤ys.length→(Ku ys p vs)[p+j]? =vs[j]?
 | [],_,_,_,h,_=>absurd h (Nat.not_lt_zero _)
 | v::vs,ys,p,0,_,hl=>by
  simp only [List.length_cons]at hl;rw [Ku,Xj vs _ _ _ (by omega),Nat.add_zero,List.getElem?_set_self (by omega)];rfl
 | v::vs,ys,p,j+1,h,hl=>by
  simp only [List.length_cons]at hl h;rw [Ku,show p+(j+1)=p+1+j by omega,Jd vs _ _ j (by omega) (by simp;omega)];rfl
theorem MZ {B:Nat} {e:TypeId} {size g n cap:Nat}: ∀(vs:List Value) (W:World) (p:Nat) (ys:List Value),W.ownsRow B e size (.slice (some ⟨g,0,none⟩) n cap) n ys→
  (Ui W g p vs).ownsRow B e size (.slice (some ⟨g,0,none⟩) n cap) n (Ku ys p vs)∧W.grownBy (Ui W g p vs) (some g)
 | [],W,_,_,h=>⟨h,World.grownBy.refl _ _⟩
 | v::vs,W,p,ys,h=>by
  obtain⟨o1,g1⟩:=h.stored p v;obtain⟨o2,g2⟩:=MZ vs _ (p+1) _ o1;exact⟨o2,Ja g1 g2⟩
def IntRow (W:World) (A:Option Addr) (l:List Int):Prop:=
 l.length≤maxLen∧ ∀i,i<l.length→ ∃b o,A=some ⟨b,o,none⟩∧b<W.heap.size∧W.cell? ⟨b,o+i,none⟩=some (.int .i64 (l.getD i 0))
theorem IntRow.below {W W':World} {A:Option Addr} {l:List Int} (h:IntRow W A l) (hb:Below W.heap.size W W'):IntRow W' A l:=
 ⟨h.1,fun i hi=>by
  obtain⟨b,o,e,hl,c⟩:=h.2 i hi
  exact⟨b,o,e,Nat.lt_of_lt_of_le hl hb.size,(hb.cell (p:=⟨b,_,none⟩) hl).trans c⟩⟩
theorem Qe2 (l:List Int) (i:Nat) (h:i<l.length):(l.map (Value.int .i64))[i]? =some (.int .i64 (l.getD i 0)):=by
 rw [List.getElem?_map,List.getElem?_eq_getElem h,List.getD_eq_getElem?_getD,List.getElem?_eq_getElem h];rfl
theorem Xv {W:World} {B:Nat} {e:TypeId} {A:Option Addr} {cap:Nat} {l:List Int} (h:W.ownsRow B e 1 (.slice A l.length cap) l.length (l.map (Value.int .i64))):IntRow W A l:=by
 obtain⟨A',cap',e,hn,hc⟩:=Qo h;cases e
 refine⟨hn,fun i hi=> ?_⟩;obtain⟨g,rfl,_,hl,c0,_⟩:=hc i (by omega);exact⟨g,0,rfl,hl,by rw [Nat.zero_add,c0,Qe2 l i hi]⟩
theorem EA {xs ys:List Value} {n:Nat} (h1:xs.length=n) (h2:ys.length=n) (h: ∀j,j<n→xs[j]? =ys[j]?):xs=ys:=by
 apply List.ext_getElem?;intro j;by_cases hj:j<n
 ·exact h j hj
 ·rw [List.getElem?_eq_none (by omega),List.getElem?_eq_none (by omega)]
theorem Ng:(Tryz.prog.info? 2).map (fun i=>(i.zero,i.size,i.bytes))=some (some (.int .i64 0),1,8):=by kernel_rfl
theorem Uq {A:Option Addr} {cap:Nat} {l:List Int} (w:World) (h:IntRow w A l) (hn:l.length≤1048576):
  Calls Tryz.prog 48 #[.slice A l.length cap] w fun e w'=> ∃v,e= .returned v∧w'.ownsRow w.heap.size 2 1 v l.length (l.map (Value.int .i64))∧Below w.heap.size w w':=by
 have HR:Hid (IntRow w A l):=h;clear h;obtain⟨n,HL⟩: ∃n,Hid (l.length=n):=⟨_,rfl⟩;rw [HL.out]at hn ⊢;obtain⟨i0,hi,hz0,hz1,hz2⟩:=info_parts Ng;go_enter Tryz.func48,Tryz.ntmps48;go_wp2_with (refine wpList_make_full _ rfl _ _ 41 rfl w.heap.size 2 i0 _ 1 Tryz.underlying41 hi hz0 hz1 _ _ _ _ n rfl rfl rfl rfl ?m1 ?m2 ?m3 ?_)
 case m1=>rw [hz2];omega
 case m2=>unfold maxLen;omega
 case m3=>exact Nat.le_refl _
 intro w1 hown hgrow;have hg1:Below w.heap.size w w1:=(Below.refl _ _).grown hgrow (Nat.le_refl _) (fun k hk=>by cases hk);obtain⟨ys,hown⟩: ∃ys,w1.ownsRow w.heap.size 2 1 (.slice (some ⟨w.heap.size,0,none⟩) n n) n ys:=⟨_,hown⟩;clear hgrow;have HO:Hid (w1.ownsRow w.heap.size 2 1 (.slice (some ⟨w.heap.size,0,none⟩) n n) n ys):=hown;clear hown;go_wp2_with fail
 go_loopw [4] (fun i wr=> ∃t:Nat,t≤n∧i= .int .i64 t∧(∃ys,wr.ownsRow w.heap.size 2 1 (.slice (some ⟨w.heap.size,0,none⟩) n n) n ys∧ ∀j,j<t→ys[j]? =(l.map (Value.int .i64))[j]?)∧Below w.heap.size w wr) (fun i _=>n-(intOf i).toNat)
 case atStart=>exact⟨0,Nat.zero_le _,rfl,⟨ys,HO.out,fun j hj=>by omega⟩,hg1⟩
 case round=>
  clear HO hg1;obtain⟨t,ht,rfl,⟨ys,hown,hys⟩,hbel⟩:=hrel;by_cases hlt:t<n
  ·obtain⟨b,o,rfl,hl,c0⟩:=HR.out.2 t (by rw [HL.out];exact hlt);rw [←hbel.cell (p:=⟨_,_,none⟩) hl]at c0;obtain⟨z,HZ⟩: ∃z,Hid (l.getD t 0=z):=⟨_,rfl⟩;rw [HZ.out]at c0;have q0:(0:Int)≤(t:Int):=by omega
   have q1:(t:Int)<(n:Int):=by omega
   obtain⟨A',cap',e,_,hc⟩:=Qo hown;cases e
   obtain⟨g0,e0,_,hg,d0,f0⟩:=hc t (by omega);cases e0
   clear hc;have hl5:=hown.1;obtain⟨x0,y0⟩: ∃x,ys[t]? =some x:=⟨_,List.getElem?_eq_getElem (by omega)⟩;rw [y0]at d0;clear y0 hl5;have HT:Hid ((wr.setCell ⟨w.heap.size,t,none⟩ (.int .i64 z)).ownsRow w.heap.size 2 1 (.slice (some ⟨w.heap.size,0,none⟩) n n) n (ys.set t (.int .i64 z))∧wr.grownBy (wr.setCell ⟨w.heap.size,t,none⟩ (.int .i64 z)) (some w.heap.size)):=hown.stored t _
   have HY:Hid (∀j,j<t+1→(ys.set t (.int .i64 z))[j]? =(l.map (Value.int .i64))[j]?):=fun j hj=>by
    by_cases e:t=j
    ·subst e;rw [List.getElem?_set_self (by have:=hown.1;omega),Qe2 l t (by rw [HL.out];exact hlt),HZ.out]
    ·rw [List.getElem?_set_ne e];exact hys j (by omega)
   have HB:Hid (Below w.heap.size w wr):=hbel;clear hown hys hbel;go_wp2_with fail
   all_goals
    go_roundw
    case rel=>exact⟨t+1,by omega,by simp,⟨_,HT.out.1,HY.out⟩,HB.out.grown HT.out.2 HB.out.size (fun k hk=>by cases hk;exact Nat.le_refl _)⟩
    case measure=>simp [intOf];omega
  ·have q1: ¬(t:Int)<(n:Int):=by omega
   obtain rfl:t=n:=by omega
   go_wp2_with fail
   go_ret;exact⟨_,rfl,by rw [EA (n:=t) (by simpa using hown.1) (by simpa using HL.out) hys]at hown;exact hown,hbel⟩
theorem Uu {A A':Option Addr} {cap cap':Nat} {l:List Int} (w:World) (h:IntRow w A l) (h':IntRow w A' l):
  Calls Tryz.prog 62 #[.slice A l.length cap,.slice A' l.length cap'] w fun e w'=>e= .returned (.bool true)∧Below w.heap.size w w':=by
 have HR:Hid (IntRow w A l):=h;have HR':Hid (IntRow w A' l):=h';have hn:=h.1;unfold maxLen at hn;clear h h';obtain⟨n,HL⟩: ∃n,Hid (l.length=n):=⟨_,rfl⟩;rw [HL.out]at hn ⊢
 go_enter Tryz.func62,Tryz.ntmps62;go_wp2_with fail
 go_loopw [5] (fun i wr=> ∃k:Nat,k≤n∧i= .int .i64 k∧Below w.heap.size w wr) (fun i _=>n-(intOf i).toNat)
 case atStart=>exact⟨0,Nat.zero_le _,rfl,Below.refl _ _⟩
 case round=>
  obtain⟨k,hk,rfl,hbel⟩:=hrel;by_cases hlt:k<n
  ·obtain⟨b,o,rfl,hl,c0⟩:=HR.out.2 k (by rw [HL.out];exact hlt);obtain⟨b',o',rfl,hl',c0'⟩:=HR'.out.2 k (by rw [HL.out];exact hlt);rw [←hbel.cell (p:=⟨_,_,none⟩) hl]at c0;rw [←hbel.cell (p:=⟨_,_,none⟩) hl']at c0';obtain⟨z,HZ⟩: ∃z,Hid (l.getD k 0=z):=⟨_,rfl⟩;rw [HZ.out]at c0 c0';have h0:(0:Int)≤(k:Int):=by omega
   have h1:(k:Int)<(n:Int):=by omega
   go_wp2_with fail
   go_region
   all_goals go_wp2_with fail
   all_goals
    go_roundw
    case rel=>exact⟨k+1,by omega,by go_num,by go_grown⟩
    case measure=>simp [intOf];omega
  ·have h1: ¬(k:Int)<(n:Int):=by omega
   go_wp2_with fail
   go_ret;exact⟨rfl,hbel⟩
def szn (l:Int) (n:Nat):Int:=if l-n<0 then-1 else l-n
theorem JF {A:Option Addr} {n cap:Nat} (l:Int) (w:World) (hn:n≤maxLen) (h0:0≤l) (h1:l≤1048576):
  Calls Tryz.prog 44 #[.slice A n cap,.int .i64 l] w fun e w'=>e= .returned (.int .i64 (szn l n))∧w'=w:=by
 unfold maxLen at hn;by_cases hq:l-(n:Int)<0
 ·go_enter Tryz.func44,Tryz.ntmps44;go_wp2_with fail
  all_goals
   go_ret;exact⟨Qu (by unfold szn;rw [if_pos hq]),rfl⟩
 ·go_enter Tryz.func44,Tryz.ntmps44;go_wp2_with fail
  all_goals
   go_ret;exact⟨Qu (by unfold szn;rw [if_neg (by omega)]),rfl⟩
def Qi (c r:Int):Bool:=decide (1≤c∧c≤52∧1≤r∧r≤99)
def XR (c r c' r':Int):Bool:=decide (r<r'∨r=r'∧c<c')
theorem QS (c r:Int) (w:World):Calls Tryz.prog 36 #[.agg #[.int .i64 c,.int .i64 r]] w fun e w'=>
  e= .returned (.bool (Qi c r))∧Below w.heap.size w w':=by
 go_enter Tryz.func36,Tryz.ntmps36;go_wp2
 all_goals
  go_ret;refine⟨Qa ?_,by go_grown⟩;unfold Qi;rw [Bool.eq_iff_iff];simp;try omega
theorem Qt (c r:Int) (w:World):Calls Tryz.prog 29 #[.agg #[.int .i64 c,.int .i64 r]] w fun e w'=>
  e= .returned (.bool (Qi c r))∧Below w.heap.size w w':=by
 go_enter Tryz.func29,Tryz.ntmps29;go_wp2
 all_goals
  go_ret;refine⟨Qa ?_,by go_grown⟩;unfold Qi;rw [Bool.eq_iff_iff];simp;try omega
theorem Ba (c r:Int) (w:World):Calls Tryz.prog 92 #[.agg #[.int .i64 c,.int .i64 r]] w fun e w'=>
  e= .returned (.agg #[.int .i64 c,.int .i64 r])∧Below w.heap.size w w':=by
 go_enter Tryz.func92,Tryz.ntmps92;go_wp2
 go_returns
 exact⟨rfl,by go_grown⟩
theorem Bb (c r:Int) (w:World):Calls Tryz.prog 100 #[.agg #[.int .i64 c,.int .i64 r],.agg #[.int .i64 c,.int .i64 r]] w fun e w'=>
  e= .returned (.bool true)∧Below w.heap.size w w':=by
 go_enter Tryz.func100,Tryz.ntmps100;go_wp2
 go_ret;exact⟨rfl,by go_grown⟩
theorem MA (c r c' r':Int) (w:World):Calls Tryz.prog 47 #[.agg #[.int .i64 c,.int .i64 r],.agg #[.int .i64 c',.int .i64 r']] w fun e w'=>
  e= .returned (.bool (XR c r c' r'))∧Below w.heap.size w w':=by
 by_cases h1:r<r'
 ·go_enter Tryz.func47,Tryz.ntmps47;go_wp2
  all_goals
   go_ret;exact⟨Qa (by simp [XR,h1]),by go_grown⟩
 by_cases h2:r=r'
 ·subst h2;go_enter Tryz.func47,Tryz.ntmps47;go_wp2
  all_goals
   go_ret;exact⟨Qa (by simp [XR]),by go_grown⟩
 ·have h3:(r==r')=false:=by simpa using h2
  have h4:(r !=r')=true:=by simpa using h2
  go_enter Tryz.func47,Tryz.ntmps47;go_wp2
  all_goals
   go_ret;exact⟨Qa (by simp [XR,h2];omega),by go_grown⟩
theorem XG {a b:ByteArray} (h:a=b):(a.toList==b.toList)=true:=by simp [h]
theorem Qjl {a b:ByteArray} (h:(a.toList==b.toList)=true):a=b:=by
 have e:=eq_of_beq h;rw [ByteArray.toList_eq,ByteArray.toList_eq]at e;exact ByteArray.ext (Array.toList_inj.1 e)
theorem Qr {a b:ByteArray} (h:a≠b):(a.toList==b.toList)=false:=by
 cases e:(a.toList==b.toList)
 ·rfl
 ·exact absurd (Qjl e) h
end Go.Proofs.YtdcokcbolecanaaGreatDoor
