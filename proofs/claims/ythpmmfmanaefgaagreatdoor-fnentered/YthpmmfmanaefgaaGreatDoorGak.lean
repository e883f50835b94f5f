import Derived.Test.YthpmmfmanaefgaaGreatDoorGab
import Derived.Test.YthpmmfmanaefgaaGreatDoorGaa
import Derived.Deep.QuietTactic
import Derived.BigQuiet
set_option linter.unusedSimpArgs false
set_option linter.unusedVariables false
set_option maxHeartbeats 2000000
namespace Go.Proofs.YthpmmfmanaefgaaGreatDoor
open Go.RowKit
def Rs (W:World) (r:Nat) (s:ByteArray) (k:Nat) (bad:Bool) (v:Value):Prop:=
 k≤s.size∧(W.cell? ⟨r,0,none⟩=some (.string s)∧W.cell? ⟨r,1,none⟩=some (.int .i64 k)∧W.cell? ⟨r,2,none⟩=some (.bool bad)∧W.cell? ⟨r,3,none⟩=some v)∧
  W.frozen? ⟨r,1,none⟩=false∧W.frozen? ⟨r,2,none⟩=false∧W.frozen? ⟨r,3,none⟩=false
theorem Rs.lt {W:World} {r:Nat} {s:ByteArray} {k:Nat} {bad:Bool} {v:Value} (h:Rs W r s k bad v):r<W.heap.size:=World.block_lt_of_cell? W ⟨r,0,none⟩ h.2.1.1
theorem Rs.below {W W':World} {r:Nat} {s:ByteArray} {k:Nat} {bad:Bool} {v:Value} (h:Rs W r s k bad v) (hb:Below W.heap.size W W'):Rs W' r s k bad v:=by
 have hl:=h.lt
 obtain⟨h0,⟨c0,c1,c2,c3⟩,f1,f2,f3⟩:=h
 exact⟨h0,⟨(hb.cell (p:=⟨r,0,none⟩) hl).trans c0,(hb.cell (p:=⟨r,1,none⟩) hl).trans c1,(hb.cell (p:=⟨r,2,none⟩) hl).trans c2,(hb.cell (p:=⟨r,3,none⟩) hl).trans c3⟩,
  (hb.frozen (p:=⟨r,1,none⟩) hl).trans f1,(hb.frozen (p:=⟨r,2,none⟩) hl).trans f2,(hb.frozen (p:=⟨r,3,none⟩) hl).trans f3⟩
theorem Rs.at {W:World} {r:Nat} {s:ByteArray} {k:Nat} {bad:Bool} {v:Value} (h:Rs W r s k bad v) (j:Nat) (hj:j≤s.size):Rs (W.setCell ⟨r,1,none⟩ (.int .i64 j)) r s j bad v:=by
 obtain⟨h0,⟨c0,c1,c2,c3⟩,f1,f2,f3⟩:=h
 refine⟨hj,⟨?_,World.cell?_setCell_same _ _ _ c1,?_,?_⟩,by simpa using f1,by simpa using f2,by simpa using f3⟩
 ·exact(World.cell?_setCell_other W ⟨r,1,none⟩ ⟨r,0,none⟩ _ (fun e=>by cases e)).trans c0
 ·exact(World.cell?_setCell_other W ⟨r,1,none⟩ ⟨r,2,none⟩ _ (fun e=>by cases e)).trans c2
 ·exact(World.cell?_setCell_other W ⟨r,1,none⟩ ⟨r,3,none⟩ _ (fun e=>by cases e)).trans c3
theorem gb_trans {a b c:World} {row:Option Nat} (h:a.grownBy b row) (h':b.grownBy c row):a.grownBy c row:=
 ⟨h'.os.trans h.os,h'.tape.trans h.tape,h'.output.trans h.output,Nat.le_trans h.size h'.size,fun k hk hr=>(h'.block k (Nat.lt_of_lt_of_le hk h.size) hr).trans (h.block k hk hr)⟩
theorem gb_set (W:World) (r p:Nat) (u:Value):W.grownBy (W.setCell ⟨r,p,none⟩ u) (some r):=
 ⟨rfl,rfl,rfl,by simp,fun k hk hr=>by
  have hne:k≠r:=fun e=>hr (congrArg some e)
  exact Below.heap_setCell _ _ _ _ (by simp only;omega)⟩
def rest (s:ByteArray) (k:Nat):List UInt8:=s.data.toList.drop k
theorem rest_cons (s:ByteArray) (k:Nat) (h:k<s.size):rest s k=s[k]::rest s (k+1):=List.drop_eq_getElem_cons (by simpa using h)
theorem rest_end (s:ByteArray) (k:Nat) (h:s.size≤k):rest s k= []:=List.drop_of_length_le (by simpa using h)
theorem sb_here {b:UInt8} {t:List UInt8} (h:b≠32):sb (b::t)=b::t:=by
 have e:(b==32)=false:=beq_eq_false_iff_ne.2 h
 unfold sb
 simp only [List.dropWhile,e]
theorem sb_on (t:List UInt8):sb (32::t)=sb t:=by
 unfold sb
 simp [List.dropWhile]
def atOf (W:World) (r:Nat):Nat:=match W.cell? ⟨r,1,none⟩with
 | some (.int _ n)=>n.toNat
 | _=>0
theorem Rs.atOf {W:World} {r:Nat} {s:ByteArray} {k:Nat} {bad:Bool} {v:Value} (h:Rs W r s k bad v):atOf W r=k:=by
 unfold Go.Proofs.YthpmmfmanaefgaaGreatDoor.atOf
 rw [h.2.1.2.1]
 simp
theorem gb_draws (r:Option Nat) (W:World) (n:Nat):W.grownBy (W.drewN n) r:=⟨rfl,rfl,rfl,Nat.le_refl _,fun _ _ _=>rfl⟩
theorem Rs.draws {W:World} {r:Nat} {s:ByteArray} {k:Nat} {bad:Bool} {v:Value} (h:Rs W r s k bad v) (n:Nat):Rs (W.drewN n) r s k bad v:=h
theorem rs_blanks (r:Nat) (s:ByteArray) (k:Nat) (bad:Bool) (v:Value) (W:World) (h:Rs W r s k bad v) (hs:s.size≤1000):Calls Tryz.prog 64 #[.pointer (some ⟨r,0,none⟩)] W fun e w'=>
  ∃x j,e= .returned x∧Rs w' r s j bad v∧rest s j=sb (rest s k)∧W.grownBy w' (some r):=by
 have HR:Hid (Rs W r s k bad v):=h
 clear h
 go_enter Tryz.func64,Tryz.ntmps64
 go_wp2_with fail
 go_loopw [] (fun wr=> ∃j:Nat,Rs wr r s j bad v∧sb (rest s j)=sb (rest s k)∧W.grownBy wr (some r)) (fun wr=>s.size-atOf wr r)
 case atStart=>exact⟨k,HR.out,rfl,World.grownBy.refl _ _⟩
 case round=>
  clear HR
  obtain⟨j,hr,hsb,hg⟩:=hrel
  have HR:Hid (Rs wr r s j bad v):=hr
  have HS:Hid (sb (rest s j)=sb (rest s k)):=hsb
  have HG:Hid (W.grownBy wr (some r)):=hg
  have HA:Hid (atOf wr r=j):=hr.atOf
  obtain⟨hj,⟨c0,c1,c2,c3⟩,f1,f2,f3⟩:=hr
  clear hsb hg
  have q0:(0:Int)≤(j:Int):=by omega
  by_cases hlt:j<s.size
  ·have q1:(j:Int)<(s.size:Int):=by omega
   have HC:Hid (rest s j=s[j]::rest s (j+1)):=rest_cons s j hlt
   by_cases hb:s[j].toNat=32
   ·have hb1:(s[j].toNat:Int)=32:=by omega
    have hb2:s[j]=32:=by apply UInt8.toNat_inj.1;rw [hb];rfl
    have HN:Hid (sb (rest s (j+1))=sb (rest s k)):=by show _=_;rw [←HS.out,HC.out,hb2,sb_on]
    clear hb2
    go_wp2_with fail
    go_quiet (fail)
    go_wp2_with fail
    have hn:Rs ((wr.drewN nq).setCell ⟨r,1,none⟩ (.int .i64 ((j:Int)+1))) r s (j+1) bad v:=by
     have h9:=(HR.out.draws nq).at (j+1) (by omega)
     rw [show(((j+1:Nat):Int))=(j:Int)+1 by omega]at h9
     exact h9
    refine⟨⟨j+1,hn,HN.out,gb_trans HG.out (gb_trans (gb_draws _ _ nq) (gb_set _ _ _ _))⟩,?_⟩
    rw [hn.atOf,HA.out]
    omega
   ·have hb1: ¬(s[j].toNat:Int)=32:=by omega
    have hb2:((s[j].toNat:Int)==32)=false:=by simpa using hb1
    have HN:Hid (rest s j=sb (rest s k)):=by
     show _=_
     rw [←HS.out,HC.out,sb_here (fun e=>hb (by rw [e];rfl))]
    go_wp2_with fail
    go_quiet (fail)
    go_wp2_with fail
    go_returns
    exact⟨_,j,rfl,HR.out.draws _,HN.out,gb_trans HG.out (gb_draws _ _ _)⟩
  ·have q1: ¬(j:Int)<(s.size:Int):=by omega
   have HN:Hid (rest s j=sb (rest s k)):=by
    show _=_
    rw [←HS.out,rest_end s j (by omega)]
    rfl
   go_wp2_with fail
   go_quiet (fail)
   go_wp2_with fail
   go_returns
   exact⟨_,j,rfl,HR.out.draws _,HN.out,gb_trans HG.out (gb_draws _ _ _)⟩
theorem ext_rest (s:ByteArray) (j n:Nat):(s.extract j (j+n)).data.toList=(rest s j).take n:=by
 have e:(s.extract j (j+n)).data.toList=(s.data.toList.drop j).take (j+n-j):=by simp [List.drop_take]
 rw [e,Nat.add_sub_cancel_left]
 rfl
theorem rest_len (s:ByteArray) (j:Nat):(rest s j).length=s.size-j:=by
 unfold rest
 rw [List.length_drop]
 rfl
theorem pre_yes {s w:ByteArray} {j:Nat} (h:w.data.toList.isPrefixOf (rest s j)=true):j+w.size≤s.size∨w.size=0:=by
 have:=(List.isPrefixOf_iff_prefix.1 h).length_le
 rw [rest_len]at this
 have e:w.data.toList.length=w.size:=rfl
 omega
theorem pre_ext {s w:ByteArray} {j:Nat} (h:j+w.size≤s.size):w.data.toList.isPrefixOf (rest s j)=((s.extract j (j+w.size)).toList==w.toList):=by
 have e:w.data.toList.length=w.size:=rfl
 by_cases he:s.extract j (j+w.size)=w
 ·rw [str_eq he]
  apply List.isPrefixOf_iff_prefix.2
  have h2:=ext_rest s j w.size
  rw [he]at h2
  rw [h2]
  exact List.take_prefix _ _
 ·rw [str_ne he]
  cases hp:w.data.toList.isPrefixOf (rest s j)
  ·rfl
  ·exfalso
   apply he
   apply ByteArray.ext
   apply Array.ext'
   rw [ext_rest]
   obtain⟨r,hr⟩:=List.isPrefixOf_iff_prefix.1 hp
   rw [←hr,←e]
   exact List.take_left
theorem pre_no' {s w:ByteArray} {j:Nat} (hj:j≤s.size) (h:s.size<j+w.size):w.data.toList.isPrefixOf (rest s j)=false:=by
 cases hp:w.data.toList.isPrefixOf (rest s j)
 ·rfl
 ·have:=pre_yes hp
  omega
theorem rest_drop (s:ByteArray) (j n:Nat):rest s (j+n)=(rest s j).drop n:=by
 unfold rest
 rw [List.drop_drop]
def isB (bad:Bool) (wd:ByteArray) (l:List UInt8):Bool:= !bad&&wd.data.toList.isPrefixOf (sb l)
def isR (bad:Bool) (wd:ByteArray) (l:List UInt8):List UInt8:=if isB bad wd l then(sb l).drop wd.size else sb l
theorem isR_no {bad:Bool} {wd:ByteArray} {l:List UInt8} (h:isB bad wd l=false):isR bad wd l=sb l:=by unfold isR;rw [h];rfl
theorem isR_yes {bad:Bool} {wd:ByteArray} {l:List UInt8} (h:isB bad wd l=true):isR bad wd l=(sb l).drop wd.size:=by unfold isR;rw [h];rfl
theorem rs_is (r:Nat) (s wd:ByteArray) (k:Nat) (bad:Bool) (v:Value) (W:World) (h:Rs W r s k bad v) (hs:s.size≤1000) (hw:wd.size≤10):Calls Tryz.prog 113 #[.pointer (some ⟨r,0,none⟩),.string wd] W fun e w'=>
  e= .returned (.bool (isB bad wd (rest s k)))∧ ∃j,Rs w' r s j bad v∧rest s j=isR bad wd (rest s k)∧W.grownBy w' (some r):=by
 have HR:Hid (Rs W r s k bad v):=h
 clear h
 go_enter Tryz.func113,Tryz.ntmps113
 go_wp2_with fail
 refine(rs_blanks r s k bad v _ HR.out hs).mono ?_
 rintro e w1 ⟨x,j,rfl,hr,hre,hg⟩
 have HR1:Hid (Rs w1 r s j bad v):=hr
 have HG:Hid (W.grownBy w1 (some r)):=hg
 have HE:Hid (rest s j=sb (rest s k)):=hre
 obtain⟨hj,⟨c0,c1,c2,c3⟩,f1,f2,f3⟩:=hr
 clear hg hre HR
 cases bad
 rotate_left
 ·have HB:Hid (isB true wd (rest s k)=false):=rfl
  go_wp2_with fail
  go_quiet (fail)
  go_wp2_with fail
  go_ret
  exact⟨ret_bool HB.out.symm,j,HR1.out.draws _,by rw [isR_no HB.out];exact HE.out,gb_trans HG.out (gb_draws _ _ _)⟩
 ·by_cases hbig:s.size<j+wd.size
  ·have q1:(s.size:Int)<(j:Int)+(wd.size:Int):=by omega
   have HB:Hid (isB false wd (rest s k)=false):=by show _=_;rw [isB,←HE.out,pre_no' hj hbig];rfl
   go_wp2_with fail
   go_quiet (fail)
   go_wp2_with fail
   go_ret
   exact⟨ret_bool HB.out.symm,j,HR1.out.draws _,by rw [isR_no HB.out];exact HE.out,gb_trans HG.out (gb_draws _ _ _)⟩
  ·have q1: ¬(s.size:Int)<(j:Int)+(wd.size:Int):=by omega
   have q2:(0:Int)≤(j:Int):=by omega
   have q3:(j:Int)+(wd.size:Int)≤(s.size:Int):=by omega
   have q4:(j:Int)≤(j:Int)+(wd.size:Int):=by omega
   have q5:(0:Int)≤(j:Int)+(wd.size:Int):=by omega
   have hwr:IntKind.i64.wrap ((j:Int)+(wd.size:Int))=(j:Int)+(wd.size:Int):=by rw [IntKind.wrap_i64];omega
   have q6:((j:Int)+(wd.size:Int)).toNat=j+wd.size:=by omega
   have HP:Hid (wd.data.toList.isPrefixOf (rest s j)=((s.extract j (j+wd.size)).toList==wd.toList)):=pre_ext (by omega)
   cases he:((s.extract j (j+wd.size)).toList==wd.toList)
   ·have HB:Hid (isB false wd (rest s k)=false):=by show _=_;rw [isB,←HE.out,HP.out,he];rfl
    go_wp2_with fail
    go_quiet (fail)
    go_wp2_with fail
    go_ret
    exact⟨ret_bool HB.out.symm,j,HR1.out.draws _,by rw [isR_no HB.out];exact HE.out,gb_trans HG.out (gb_draws _ _ _)⟩
   ·have HB:Hid (isB false wd (rest s k)=true):=by show _=_;rw [isB,←HE.out,HP.out,he];rfl
    go_wp2_with fail
    go_quiet (fail)
    go_wp2_with fail
    go_ret
    have h9:=(HR1.out.draws nq).at (j+wd.size) (by omega)
    rw [show(((j+wd.size:Nat):Int))=(j:Int)+(wd.size:Int) by omega]at h9
    exact⟨ret_bool HB.out.symm,j+wd.size,h9,by rw [isR_yes HB.out,←HE.out,rest_drop],gb_trans HG.out (gb_trans (gb_draws _ _ nq) (gb_set _ _ _ _))⟩
end Go.Proofs.YthpmmfmanaefgaaGreatDoor
