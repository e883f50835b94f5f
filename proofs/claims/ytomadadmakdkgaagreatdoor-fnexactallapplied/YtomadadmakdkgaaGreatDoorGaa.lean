import Derived.Test.YtomadadmakdkgaaGreatDoorBase
open Go.Proofs.Tryz
open Go.Value renaming int → d, agg → y, slice → z, bool → C
open Go.IntKind renaming i64 → f
open Array renaming getElem?_eq_some_iff → m
open Go.Ending renaming returned → s
open Go.ByteArray renaming toList_eq → t
open Go.RowKit renaming Below → u
open Bool renaming eq_iff_iff → x
set_option linter.unusedSimpArgs false
set_option linter.unusedVariables false
set_option maxHeartbeats 400000
namespace Go.Proofs.YtomadadmakdkgaaGreatDoor
open Go.RowKit
variable {W:World} {B size n:Nat} {e:TypeId} {v:Value} {xs:List Value} {a b:ByteArray}
theorem QU{B':Nat}(h:W.ownsRow B e size v n xs)(hB:B'<=B):W.ownsRow B' e size v n xs:=by
 refine⟨h.1,?_⟩;rcases h.2 with hn | ⟨g,cap,cur,rfl,hb,rest⟩
 ·exact .inl hn
 ·exact .inr ⟨g,cap,cur,rfl,Nat.le_trans hB hb,rest⟩
theorem Qd{w':World}(h:W.ownsRow B e size v n xs)(hb:u W.heap.size W w'):w'.ownsRow B e size v n xs:=by
 refine⟨h.1,?_⟩;rcases h.2 with hn | ⟨g,cap,cur,rfl,hB,hgg,rest⟩
 ·exact .inl hn
 ·exact .inr ⟨g,cap,cur,rfl,hB,by rw[hb.block g (m.1 hgg).1];exact hgg,rest⟩
theorem Qr(h:W.ownsRow B e size v n xs):
  ∃A cap,v= z A n cap/\n<=maxLen/\(∀j,j<n*size-> ∃g,A=some ⟨g,0,none⟩/\B<=g/\g<W.heap.size/\W.cell? ⟨g,j,none⟩=xs[j]?/\W.frozen? ⟨g,j,none⟩=false):=by
 rcases h.2 with⟨rfl,rfl⟩ | ⟨g,cap,cur,rfl,hb,hg,h1,h2,_⟩
 ·exact⟨none,0,rfl,Nat.zero_le _,fun j hj=>by omega⟩
 ·exact⟨_,cap,rfl,Nat.le_trans h1 h2,fun j hj=>⟨g,rfl,hb,(m.1 hg).1,h.cellAt j hj,h.frozenAt j⟩⟩
theorem Qb2{a b c:World}{row:Option Nat}(h:a.grownBy b row)(h':b.grownBy c row):a.grownBy c row:=
 ⟨h'.os.trans h.os,h'.tape.trans h.tape,h'.output.trans h.output,Nat.le_trans h.size h'.size,fun k hk hr=>(h'.block k (Nat.lt_of_lt_of_le hk h.size) hr).trans (h.block k hk hr)⟩
def VG(W:World)(g p:Nat):List Value->World
 | []=>W
 | v::vs=>VG (W.setCell ⟨g,p,none⟩ v) g (p+1) vs
def VK(ys:List Value)(p:Nat):List Value->List Value
 | []=>ys
 | v::vs=>VK (ys.set p v) (p+1) vs
theorem Kt: ∀(vs ys:List Value) (p j:Nat),j<p->(VK ys p vs)[j]? =ys[j]?
 | [],_,_,_,_=>rfl
 | v::vs,ys,p,j,h=>by rw[VK,Kt vs _ _ _ (by omega),List.getElem?_set_ne (by omega)]
theorem Uj: ∀(vs ys:List Value) (p j:Nat),j<vs.length->p+vs.length<=ys.length->(VK ys p vs)[p+j]? =vs[j]?
 | [],_,_,_,h,_=>absurd h (Nat.not_lt_zero _)
 | v::vs,ys,p,0,_,hl=>by
  simp only[List.length_cons]at hl;rw[VK,Kt vs _ _ _ (by omega),Nat.add_zero,List.getElem?_set_self (by omega)];rfl
 | v::vs,ys,p,j+1,h,hl=>by
  simp only[List.length_cons]at hl h;rw[VK,show p+(j+1)=p+1+j by omega,Uj vs _ _ j (by omega) (by simp;omega)];rfl
theorem Qaa{g cap:Nat}: ∀(vs:List Value) (W:World) (p:Nat) (ys:List Value),W.ownsRow B e size (z (some ⟨g,0,none⟩) n cap) n ys->
  (VG W g p vs).ownsRow B e size (z (some ⟨g,0,none⟩) n cap) n (VK ys p vs)/\W.grownBy (VG W g p vs) (some g)
 | [],W,_,_,h=>⟨h,World.grownBy.refl _ _⟩
 | v::vs,W,p,ys,h=>by
  obtain⟨o1,g1⟩:=h.stored p v;obtain⟨o2,g2⟩:=Qaa vs _ (p+1) _ o1;exact⟨o2,Qb2 g1 g2⟩
def IntRow(W:World)(A:Option Addr)(l:List Int):Prop:=
 l.length<=maxLen/\ ∀i,i<l.length-> ∃b o,A=some ⟨b,o,none⟩/\b<W.heap.size/\W.cell? ⟨b,o+i,none⟩=some (d f (l.getD i 0))
theorem IntRow.below{W':World}{A:Option Addr}{l:List Int}(h:IntRow W A l)(hb:u W.heap.size W W'):IntRow W' A l:=
 ⟨h.1,fun i hi=>by
  obtain⟨b,o,e,hl,c⟩:=h.2 i hi
  exact⟨b,o,e,Nat.lt_of_lt_of_le hl hb.size,(hb.cell (p:=⟨b,_,none⟩) hl).trans c⟩⟩
theorem Qnu(l:List Int)(i:Nat)(h:i<l.length):(l.map (Value.int .i64))[i]? =some (d f (l.getD i 0)):=by
 rw[List.getElem?_map,List.getElem?_eq_getElem h,List.getD_eq_getElem?_getD,List.getElem?_eq_getElem h];rfl
theorem Vq{A:Option Addr}{cap:Nat}{l:List Int}(h:W.ownsRow B e 1 (z A l.length cap) l.length (l.map (Value.int .i64))):IntRow W A l:=by
 obtain⟨A',cap',e,hn,hc⟩:=Qr h;cases e
 refine⟨hn,fun i hi=> ?_⟩;obtain⟨g,rfl,_,hl,c0,_⟩:=hc i (by omega);exact⟨g,0,rfl,hl,by rw[Nat.zero_add,c0,Qnu l i hi]⟩
theorem Qq5{ys:List Value}(h1:xs.length=n)(h2:ys.length=n)(h: ∀j,j<n->xs[j]? =ys[j]?):xs=ys:=by
 apply List.ext_getElem?;intro j;by_cases hj:j<n
 ·exact h j hj
 ·rw[List.getElem?_eq_none (by omega),List.getElem?_eq_none (by omega)]
theorem Qah:(prog.info? 2).map (fun i=>(i.zero,i.size,i.bytes))=some (some (d f 0),1,8):=by kernel_rfl
def Qf(c r:Int):Bool:=decide (1<=c/\c<=52/\1<=r/\r<=99)
def YL(c r c' r':Int):Bool:=decide (r<r'\/r=r'/\c<c')
theorem Zu(c r:Int)(w:World):Calls prog 67 #[y #[d f c,d f r]] w fun e w'=>
  e= s (C (Qf c r))/\u w.heap.size w w':=by
 go_enter func67,ntmps67;go_wp2
 all_goals
  go_ret;refine⟨Qc ?_,by go_grown⟩;unfold Qf;rw[x];simp;try omega
theorem Qz(c r:Int)(w:World):Calls prog 59 #[y #[d f c,d f r]] w fun e w'=>
  e= s (C (Qf c r))/\u w.heap.size w w':=by
 go_enter func59,ntmps59;go_wp2
 all_goals
  go_ret;refine⟨Qc ?_,by go_grown⟩;unfold Qf;rw[x];simp;try omega
theorem Qsw(c r:Int)(w:World):Calls prog 46 #[y #[d f c,d f r]] w fun e w'=>
  e= s (y #[d f c,d f r])/\u w.heap.size w w':=by
 go_enter func46,ntmps46;go_wp2
 go_returns
 exact⟨rfl,by go_grown⟩
theorem Qef(c r:Int)(w:World):Calls prog 76 #[y #[d f c,d f r],y #[d f c,d f r]] w fun e w'=>
  e= s (C true)/\u w.heap.size w w':=by
 go_enter func76,ntmps76;go_wp2
 go_ret;exact⟨rfl,by go_grown⟩
theorem GQ(c r c' r':Int)(w:World):Calls prog 60 #[y #[d f c,d f r],y #[d f c',d f r']] w fun e w'=>
  e= s (C (YL c r c' r'))/\u w.heap.size w w':=by
 by_cases h1:r<r'
 ·go_enter func60,ntmps60;go_wp2
  all_goals
   go_ret;exact⟨Qc (by simp[YL,h1]),by go_grown⟩
 by_cases h2:r=r'
 ·subst h2;go_enter func60,ntmps60;go_wp2
  all_goals
   go_ret;exact⟨Qc (by simp[YL]),by go_grown⟩
 ·have h3:(r==r')=false:=by simpa using h2
  have h4:(r !=r')=true:=by simpa using h2
  go_enter func60,ntmps60;go_wp2
  all_goals
   go_ret;exact⟨Qc (by simp[YL,h2];omega),by go_grown⟩
theorem VF(h:a=b):(a.toList==b.toList)=true:=by simp[h]
theorem Qnd(h:(a.toList==b.toList)=true):a=b:=by
 have e:=eq_of_beq h;rw[t,t]at e;exact ByteArray.ext (Array.toList_inj.1 e)
theorem QQ(h:a≠b):(a.toList==b.toList)=false:=by
 cases e:(a.toList==b.toList)
 ·rfl
 ·exact absurd (Qnd e) h
end Go.Proofs.YtomadadmakdkgaaGreatDoor
