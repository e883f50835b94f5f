import Derived.Test.YtbdhinckiccniaaGreatDoorMn
import Derived.Test.YtbdhinckiccniaaGreatDoorGab
import Derived.Test.YtbdhinckiccniaaGreatDoorGaa
import Derived.Deep.QuietTactic
import Derived.BigQuiet
import Derived.Deep.RegionHeld3
import Derived.Test.YtbdhinckiccniaaGreatDoorGaj
set_option linter.unusedSimpArgs false
set_option linter.unusedVariables false
set_option maxHeartbeats 8000000
set_option maxRecDepth 100000
namespace Go.Proofs.YtbdhinckiccniaaGreatDoor
open Go.RowKit
def Rs (W:World) (r:Nat) (s:ByteArray) (k:Nat) (bad:Bool) (v:Value):Prop:=
 k≤s.size∧(W.cell? ⟨r,0,none⟩=some (.string s)∧W.cell? ⟨r,1,none⟩=some (.int .i64 k)∧W.cell? ⟨r,2,none⟩=some (.bool bad)∧W.cell? ⟨r,3,none⟩=some v)∧
  W.frozen? ⟨r,1,none⟩=false∧W.frozen? ⟨r,2,none⟩=false∧W.frozen? ⟨r,3,none⟩=false
theorem Rs.lt {W:World} {r:Nat} {s:ByteArray} {k:Nat} {bad:Bool} {v:Value} (h:Rs W r s k bad v):r<W.heap.size:=World.block_lt_of_cell? W ⟨r,0,none⟩ h.2.1.1
theorem Rs.below {W W':World} {r:Nat} {s:ByteArray} {k:Nat} {bad:Bool} {v:Value} (h:Rs W r s k bad v) (hb:Below W.heap.size W W'):Rs W' r s k bad v:=by
 have hl:=h.lt;obtain⟨h0,⟨c0,c1,c2,c3⟩,f1,f2,f3⟩:=h
 exact⟨h0,⟨(hb.cell (p:=⟨r,0,none⟩) hl).trans c0,(hb.cell (p:=⟨r,1,none⟩) hl).trans c1,(hb.cell (p:=⟨r,2,none⟩) hl).trans c2,(hb.cell (p:=⟨r,3,none⟩) hl).trans c3⟩,
  (hb.frozen (p:=⟨r,1,none⟩) hl).trans f1,(hb.frozen (p:=⟨r,2,none⟩) hl).trans f2,(hb.frozen (p:=⟨r,3,none⟩) hl).trans f3⟩
theorem Rs.at {W:World} {r:Nat} {s:ByteArray} {k:Nat} {bad:Bool} {v:Value} (h:Rs W r s k bad v) (j:Nat) (hj:j≤s.size):Rs (W.setCell ⟨r,1,none⟩ (.int .i64 j)) r s j bad v:=by
 obtain⟨h0,⟨c0,c1,c2,c3⟩,f1,f2,f3⟩:=h;refine⟨hj,⟨?_,World.cell?_setCell_same _ _ _ c1,?_,?_⟩,by simpa using f1,by simpa using f2,by simpa using f3⟩
 ·exact(World.cell?_setCell_other W ⟨r,1,none⟩ ⟨r,0,none⟩ _ (fun e=>by cases e)).trans c0
 ·exact(World.cell?_setCell_other W ⟨r,1,none⟩ ⟨r,2,none⟩ _ (fun e=>by cases e)).trans c2
 ·exact(World.cell?_setCell_other W ⟨r,1,none⟩ ⟨r,3,none⟩ _ (fun e=>by cases e)).trans c3
theorem Qm {a b c:World} {row:Option Nat} (h:a.grownBy b row) (h':b.grownBy c row):a.grownBy c row:=
 ⟨h'.os.trans h.os,h'.tape.trans h.tape,h'.output.trans h.output,Nat.le_trans h.size h'.size,fun k hk hr=>(h'.block k (Nat.lt_of_lt_of_le hk h.size) hr).trans (h.block k hk hr)⟩
theorem QQ (W:World) (r p:Nat) (u:Value):W.grownBy (W.setCell ⟨r,p,none⟩ u) (some r):=
 ⟨rfl,rfl,rfl,by simp,fun k hk hr=>by
  have hne:k≠r:=fun e=>hr (congrArg some e)
  exact Below.heap_setCell _ _ _ _ (by simp only;omega)⟩
def rest (s:ByteArray) (k:Nat):List UInt8:=s.data.toList.drop k
theorem QU (s:ByteArray) (k:Nat) (h:k<s.size):rest s k=s[k]::rest s (k+1):=List.drop_eq_getElem_cons (by simpa using h)
theorem YS (s:ByteArray) (k:Nat) (h:s.size≤k):rest s k= []:=List.drop_of_length_le (by simpa using h)
theorem Qoj {b:UInt8} {t:List UInt8} (h:b≠32):sb (b::t)=b::t:=by
 have e:(b==32)=false:=beq_eq_false_iff_ne.2 h;unfold sb;simp only [List.dropWhile,e]
theorem Quh (t:List UInt8):sb (32::t)=sb t:=by
 unfold sb;simp [List.dropWhile]
def atOf (W:World) (r:Nat):Nat:=match W.cell? ⟨r,1,none⟩with
 | some (.int _ n)=>n.toNat
 | _=>0
theorem Rs.atOf {W:World} {r:Nat} {s:ByteArray} {k:Nat} {bad:Bool} {v:Value} (h:Rs W r s k bad v):atOf W r=k:=by
 unfold Go.Proofs.YtbdhinckiccniaaGreatDoor.atOf;rw [h.2.1.2.1];simp
theorem Qq (r:Option Nat) (W:World) (n:Nat):W.grownBy (W.drewN n) r:=⟨rfl,rfl,rfl,Nat.le_refl _,fun _ _ _=>rfl⟩
theorem Rs.draws {W:World} {r:Nat} {s:ByteArray} {k:Nat} {bad:Bool} {v:Value} (h:Rs W r s k bad v) (n:Nat):Rs (W.drewN n) r s k bad v:=h
theorem Vp (r:Nat) (s:ByteArray) (k:Nat) (bad:Bool) (v:Value) (W:World) (h:Rs W r s k bad v) (hs:s.size≤1000):Calls Tryz.prog 168 #[.pointer (some ⟨r,0,none⟩)] W fun e w'=>
  ∃x j,e= .returned x∧Rs w' r s j bad v∧rest s j=sb (rest s k)∧W.grownBy w' (some r):=by
 have HR:Hid (Rs W r s k bad v):=h;clear h;go_enter Tryz.func168,Tryz.ntmps168;go_wp2_with fail
 go_loopw [] (fun wr=> ∃j:Nat,Rs wr r s j bad v∧sb (rest s j)=sb (rest s k)∧W.grownBy wr (some r)) (fun wr=>s.size-atOf wr r)
 case atStart=>exact⟨k,HR.out,rfl,World.grownBy.refl _ _⟩
 case round=>
  clear HR;obtain⟨j,hr,hsb,hg⟩:=hrel;have HR:Hid (Rs wr r s j bad v):=hr;have HS:Hid (sb (rest s j)=sb (rest s k)):=hsb;have HG:Hid (W.grownBy wr (some r)):=hg;have HA:Hid (atOf wr r=j):=hr.atOf;obtain⟨hj,⟨c0,c1,c2,c3⟩,f1,f2,f3⟩:=hr
  clear hsb hg;have q0:(0:Int)≤(j:Int):=by omega
  by_cases hlt:j<s.size
  ·have q1:(j:Int)<(s.size:Int):=by omega
   have HC:Hid (rest s j=s[j]::rest s (j+1)):=QU s j hlt;by_cases hb:s[j].toNat=32
   ·have hb1:(s[j].toNat:Int)=32:=by omega
    have hb2:s[j]=32:=by apply UInt8.toNat_inj.1;rw [hb];rfl
    have HN:Hid (sb (rest s (j+1))=sb (rest s k)):=by show _=_;rw [←HS.out,HC.out,hb2,Quh]
    clear hb2;go_wp2_with fail
    go_quiet (fail)
    go_wp2_with fail
    have hn:Rs ((wr.drewN nq).setCell ⟨r,1,none⟩ (.int .i64 ((j:Int)+1))) r s (j+1) bad v:=by
     have h9:=(HR.out.draws nq).at (j+1) (by omega);rw [show(((j+1:Nat):Int))=(j:Int)+1 by omega]at h9;exact h9
    refine⟨⟨j+1,hn,HN.out,Qm HG.out (Qm (Qq _ _ nq) (QQ _ _ _ _))⟩,?_⟩;rw [hn.atOf,HA.out];omega
   ·have hb1: ¬(s[j].toNat:Int)=32:=by omega
    have hb2:((s[j].toNat:Int)==32)=false:=by simpa using hb1
    have HN:Hid (rest s j=sb (rest s k)):=by
     show _=_;rw [←HS.out,HC.out,Qoj (fun e=>hb (by rw [e];rfl))]
    go_wp2_with fail
    go_quiet (fail)
    go_wp2_with fail
    go_returns
    exact⟨_,j,rfl,HR.out.draws _,HN.out,Qm HG.out (Qq _ _ _)⟩
  ·have q1: ¬(j:Int)<(s.size:Int):=by omega
   have HN:Hid (rest s j=sb (rest s k)):=by
    show _=_;rw [←HS.out,YS s j (by omega)];rfl
   go_wp2_with fail
   go_quiet (fail)
   go_wp2_with fail
   go_returns
   exact⟨_,j,rfl,HR.out.draws _,HN.out,Qm HG.out (Qq _ _ _)⟩
theorem Nn (s:ByteArray) (j n:Nat):(s.extract j (j+n)).data.toList=(rest s j).take n:=by
 have e:(s.extract j (j+n)).data.toList=(s.data.toList.drop j).take (j+n-j):=by simp [List.drop_take]
 rw [e,Nat.add_sub_cancel_left];rfl
theorem Hj (s:ByteArray) (j:Nat):(rest s j).length=s.size-j:=by
 unfold rest;rw [List.length_drop];rfl
theorem Qo7 {s w:ByteArray} {j:Nat} (h:w.data.toList.isPrefixOf (rest s j)=true):j+w.size≤s.size∨w.size=0:=by
 have:=(List.isPrefixOf_iff_prefix.1 h).length_le;rw [Hj]at this;have e:w.data.toList.length=w.size:=rfl;omega
theorem Qfv {s w:ByteArray} {j:Nat} (h:j+w.size≤s.size):w.data.toList.isPrefixOf (rest s j)=((s.extract j (j+w.size)).toList==w.toList):=by
 have e:w.data.toList.length=w.size:=rfl;by_cases he:s.extract j (j+w.size)=w
 ·rw [JF he];apply List.isPrefixOf_iff_prefix.2;have h2:=Nn s j w.size;rw [he]at h2;rw [h2];exact List.take_prefix _ _
 ·rw [QD he];cases hp:w.data.toList.isPrefixOf (rest s j)
  ·rfl
  ·exfalso
   apply he;apply ByteArray.ext;apply Array.ext';rw [Nn];obtain⟨r,hr⟩:=List.isPrefixOf_iff_prefix.1 hp;rw [←hr,←e];exact List.take_left
theorem Qfu {s w:ByteArray} {j:Nat} (hj:j≤s.size) (h:s.size<j+w.size):w.data.toList.isPrefixOf (rest s j)=false:=by
 cases hp:w.data.toList.isPrefixOf (rest s j)
 ·rfl
 ·have:=Qo7 hp;omega
theorem Dj (s:ByteArray) (j n:Nat):rest s (j+n)=(rest s j).drop n:=by
 unfold rest;rw [List.drop_drop]
def isB (bad:Bool) (wd:ByteArray) (l:List UInt8):Bool:= !bad&&wd.data.toList.isPrefixOf (sb l)
def isR (bad:Bool) (wd:ByteArray) (l:List UInt8):List UInt8:=if isB bad wd l then(sb l).drop wd.size else sb l
theorem Hf {bad:Bool} {wd:ByteArray} {l:List UInt8} (h:isB bad wd l=false):isR bad wd l=sb l:=by unfold isR;rw [h];rfl
theorem MI {bad:Bool} {wd:ByteArray} {l:List UInt8} (h:isB bad wd l=true):isR bad wd l=(sb l).drop wd.size:=by unfold isR;rw [h];rfl
theorem ZF (r:Nat) (s wd:ByteArray) (k:Nat) (bad:Bool) (v:Value) (W:World) (h:Rs W r s k bad v) (hs:s.size≤1000) (hw:wd.size≤10):Calls Tryz.prog 267 #[.pointer (some ⟨r,0,none⟩),.string wd] W fun e w'=>
  e= .returned (.bool (isB bad wd (rest s k)))∧ ∃j,Rs w' r s j bad v∧rest s j=isR bad wd (rest s k)∧W.grownBy w' (some r):=by
 have HR:Hid (Rs W r s k bad v):=h;clear h;go_enter Tryz.func267,Tryz.ntmps267;go_wp2_with fail
 refine(Vp r s k bad v _ HR.out hs).mono ?_;rintro e w1 ⟨x,j,rfl,hr,hre,hg⟩;have HR1:Hid (Rs w1 r s j bad v):=hr;have HG:Hid (W.grownBy w1 (some r)):=hg;have HE:Hid (rest s j=sb (rest s k)):=hre;obtain⟨hj,⟨c0,c1,c2,c3⟩,f1,f2,f3⟩:=hr;clear hg hre HR
 cases bad
 rotate_left
 ·have HB:Hid (isB true wd (rest s k)=false):=rfl;go_wp2_with fail
  go_quiet (fail)
  go_wp2_with fail
  go_ret;exact⟨Qb HB.out.symm,j,HR1.out.draws _,by rw [Hf HB.out];exact HE.out,Qm HG.out (Qq _ _ _)⟩
 ·by_cases hbig:s.size<j+wd.size
  ·have q1:(s.size:Int)<(j:Int)+(wd.size:Int):=by omega
   have HB:Hid (isB false wd (rest s k)=false):=by show _=_;rw [isB,←HE.out,Qfu hj hbig];rfl
   go_wp2_with fail
   go_quiet (fail)
   go_wp2_with fail
   go_ret;exact⟨Qb HB.out.symm,j,HR1.out.draws _,by rw [Hf HB.out];exact HE.out,Qm HG.out (Qq _ _ _)⟩
  ·have q1: ¬(s.size:Int)<(j:Int)+(wd.size:Int):=by omega
   have q2:(0:Int)≤(j:Int):=by omega
   have q3:(j:Int)+(wd.size:Int)≤(s.size:Int):=by omega
   have q4:(j:Int)≤(j:Int)+(wd.size:Int):=by omega
   have q5:(0:Int)≤(j:Int)+(wd.size:Int):=by omega
   have hwr:IntKind.i64.wrap ((j:Int)+(wd.size:Int))=(j:Int)+(wd.size:Int):=by rw [IntKind.wrap_i64];omega
   have q6:((j:Int)+(wd.size:Int)).toNat=j+wd.size:=by omega
   have HP:Hid (wd.data.toList.isPrefixOf (rest s j)=((s.extract j (j+wd.size)).toList==wd.toList)):=Qfv (by omega);cases he:((s.extract j (j+wd.size)).toList==wd.toList)
   ·have HB:Hid (isB false wd (rest s k)=false):=by show _=_;rw [isB,←HE.out,HP.out,he];rfl
    go_wp2_with fail
    go_quiet (fail)
    go_wp2_with fail
    go_ret;exact⟨Qb HB.out.symm,j,HR1.out.draws _,by rw [Hf HB.out];exact HE.out,Qm HG.out (Qq _ _ _)⟩
   ·have HB:Hid (isB false wd (rest s k)=true):=by show _=_;rw [isB,←HE.out,HP.out,he];rfl
    go_wp2_with fail
    go_quiet (fail)
    go_wp2_with fail
    go_ret;have h9:=(HR1.out.draws nq).at (j+wd.size) (by omega);rw [show(((j+wd.size:Nat):Int))=(j:Int)+(wd.size:Int) by omega]at h9;exact⟨Qb HB.out.symm,j+wd.size,h9,by rw [MI HB.out,←HE.out,Dj],Qm HG.out (Qm (Qq _ _ nq) (QQ _ _ _ _))⟩
theorem isW_of {b:UInt8}:isW b=true↔(65≤b.toNat∧b.toNat≤90)∨(48≤b.toNat∧b.toNat≤57)∨b.toNat=36:=by
 have e:(b==36)=decide (b.toNat=36):=by
  by_cases h:b=36
  ·subst h;rfl
  ·have h1:(b==36)=false:=beq_eq_false_iff_ne.2 h;have h2: ¬b.toNat=36:=fun q=>h (by apply UInt8.toNat_inj.1;rw [q];rfl);rw [h1];simp [h2]
 unfold isW;rw [e];simp [or_assoc]
theorem EL {b:UInt8} {t:List UInt8} (h:isW b=true):(b::t).takeWhile isW=b::t.takeWhile isW∧(b::t).dropWhile isW=t.dropWhile isW:=by
 simp [List.takeWhile,List.dropWhile,h]
theorem EN {b:UInt8} {t:List UInt8} (h:isW b=false):(b::t).takeWhile isW= []∧(b::t).dropWhile isW=b::t:=by
 simp [List.takeWhile,List.dropWhile,h]
theorem GD (s:ByteArray) (k j:Nat) (hk:k≤j) (hj:j<s.size):(rest s k).take (j+1-k)=(rest s k).take (j-k)++ [s[j]]:=by
 have hl:=Hj s k;have e:j+1-k=j-k+1:=by omega
 rw [e,List.take_succ_eq_append_getElem (by omega)];congr 1
 unfold rest;rw [List.getElem_drop];simp only [show k+(j-k)=j by omega];rfl
theorem Xq (s:ByteArray) (k j:Nat) (hk:k≤j):s.extract k j=⟨((rest s k).take (j-k)).toArray⟩:=by
 apply ByteArray.ext;apply Array.ext';have h:=Nn s k (j-k);rw [show k+(j-k)=j by omega]at h;exact h
theorem Ec (r:Nat) (s:ByteArray) (k:Nat) (bad:Bool) (v:Value) (W:World) (h:Rs W r s k bad v) (hs:s.size≤1000):Calls Tryz.prog 269 #[.pointer (some ⟨r,0,none⟩)] W fun e w'=>
  e= .returned (.string ⟨((rest s k).takeWhile isW).toArray⟩)∧ ∃j,Rs w' r s j bad v∧rest s j=(rest s k).dropWhile isW∧W.grownBy w' (some r):=by
 have HR:Hid (Rs W r s k bad v):=h;have HKS:Hid (k≤s.size):=h.1;obtain⟨_,⟨c0,c1,c2,c3⟩,f1,f2,f3⟩:=h;go_enter Tryz.func269,Tryz.ntmps269;go_wp2_with fail
 clear c0 c1 c2 c3 f1 f2 f3;go_loopw [] (fun wr=> ∃j:Nat,k≤j∧Rs wr r s j bad v∧(rest s k).takeWhile isW=(rest s k).take (j-k)++(rest s j).takeWhile isW∧(rest s k).dropWhile isW=(rest s j).dropWhile isW∧W.grownBy wr (some r)) (fun wr=>s.size-atOf wr r)
 case atStart=>exact⟨k,Nat.le_refl _,HR.out,by simp,rfl,World.grownBy.refl _ _⟩
 case round=>
  clear HR;obtain⟨j,hkj,hr,htw,hdw,hg⟩:=hrel;have HR:Hid (Rs wr r s j bad v):=hr;have HT:Hid ((rest s k).takeWhile isW=(rest s k).take (j-k)++(rest s j).takeWhile isW):=htw;have HD:Hid ((rest s k).dropWhile isW=(rest s j).dropWhile isW):=hdw;have HG:Hid (W.grownBy wr (some r)):=hg;have HA:Hid (atOf wr r=j):=hr.atOf
  obtain⟨hj,⟨c0,c1,c2,c3⟩,f1,f2,f3⟩:=hr;clear htw hdw hg;have q0:(0:Int)≤(j:Int):=by omega
  have hk0:(0:Int)≤(k:Int):=by omega
  have hk1:(k:Int)≤(j:Int):=by omega
  have hk2:(j:Int)≤(s.size:Int):=by omega
  by_cases hlt:j<s.size
  ·have q1:(j:Int)<(s.size:Int):=by omega
   have HC:Hid (rest s j=s[j]::rest s (j+1)):=QU s j hlt;by_cases hb1:65≤s[j].toNat
   ·have b1:65≤(s[j].toNat:Int):=by omega
    by_cases hb2:s[j].toNat≤90
    ·have b2:(s[j].toNat:Int)≤90:=by omega
     have HW:Hid (isW s[j]=true):=isW_of.2 (by omega)
     have HT2:Hid ((rest s k).takeWhile isW=(rest s k).take (j+1-k)++(rest s (j+1)).takeWhile isW):=by
      show _=_;rw [HT.out,HC.out,(EL HW.out).1,GD s k j hkj hlt];simp
     have HD2:Hid ((rest s k).dropWhile isW=(rest s (j+1)).dropWhile isW):=by show _=_;rw [HD.out,HC.out,(EL HW.out).2]
     go_wp2_with fail
     refine wp_region_quiet_lit (by kernel_rfl) (by kernel_rfl) ?_;try simp only [List.append]
     repeat (go_big_quiet_step (fail))
     refine wpQuiet_nil ?_;intro _ hw';obtain⟨nq,hw''⟩:=hw';subst hw'';go_wp2_with fail
     have hn:Rs ((wr.drewN nq).setCell ⟨r,1,none⟩ (.int .i64 ((j:Int)+1))) r s (j+1) bad v:=by
      have h9:=(HR.out.draws nq).at (j+1) (by omega);rw [show(((j+1:Nat):Int))=(j:Int)+1 by omega]at h9;exact h9
     refine⟨⟨j+1,by omega,hn,HT2.out,HD2.out,Qm HG.out (Qm (Qq _ _ nq) (QQ _ _ _ _))⟩,?_⟩;rw [hn.atOf,HA.out];omega
    ·have b2: ¬(s[j].toNat:Int)≤90:=by omega
     have d2:decide ((s[j].toNat:Int)≤90)=false:=by simpa using b2
     have b3:48≤(s[j].toNat:Int):=by omega
     have b4: ¬(s[j].toNat:Int)≤57:=by omega
     have d4:decide ((s[j].toNat:Int)≤57)=false:=by simpa using b4
     have b5: ¬(s[j].toNat:Int)=36:=by omega
     have b6:((s[j].toNat:Int)==36)=false:=by simpa using b5
     have HW:Hid (isW s[j]=false):=by
      show isW s[j]=false;cases hq:isW s[j]
      ·rfl
      ·have:=isW_of.1 hq;omega
     have HF:Hid (s.extract k j=⟨((rest s k).takeWhile isW).toArray⟩):=by
      show _=_;rw [HT.out,HC.out,(EN HW.out).1,List.append_nil,Xq s k j hkj]
     have HF2:Hid ((rest s k).dropWhile isW=rest s j):=by show _=_;rw [HD.out,HC.out,(EN HW.out).2]
     go_wp2_with fail
     refine wp_region_quiet_lit (by kernel_rfl) (by kernel_rfl) ?_;try simp only [List.append]
     repeat (go_big_quiet_step (fail))
     refine wpQuiet_nil ?_;intro _ hw';obtain⟨nq,hw''⟩:=hw';subst hw'';go_wp2_with fail
     go_quiet (fail)
     go_wp2_with fail
     go_ret;exact⟨by rw [←HF.out];rfl,j,(HR.out.draws _).draws _,HF2.out.symm,Qm HG.out (Qm (Qq _ _ _) (Qq _ _ _))⟩
   ·have b1: ¬65≤(s[j].toNat:Int):=by omega
    have d1:decide (65≤(s[j].toNat:Int))=false:=by simpa using b1
    by_cases hb2:48≤s[j].toNat
    ·have b2:48≤(s[j].toNat:Int):=by omega
     by_cases hb3:s[j].toNat≤57
     ·have b3:(s[j].toNat:Int)≤57:=by omega
      have HW:Hid (isW s[j]=true):=isW_of.2 (by omega)
      have HT2:Hid ((rest s k).takeWhile isW=(rest s k).take (j+1-k)++(rest s (j+1)).takeWhile isW):=by
       show _=_;rw [HT.out,HC.out,(EL HW.out).1,GD s k j hkj hlt];simp
      have HD2:Hid ((rest s k).dropWhile isW=(rest s (j+1)).dropWhile isW):=by show _=_;rw [HD.out,HC.out,(EL HW.out).2]
      go_wp2_with fail
      refine wp_region_quiet_lit (by kernel_rfl) (by kernel_rfl) ?_;try simp only [List.append]
      repeat (go_big_quiet_step (fail))
      refine wpQuiet_nil ?_;intro _ hw';obtain⟨nq,hw''⟩:=hw';subst hw'';go_wp2_with fail
      have hn:Rs ((wr.drewN nq).setCell ⟨r,1,none⟩ (.int .i64 ((j:Int)+1))) r s (j+1) bad v:=by
       have h9:=(HR.out.draws nq).at (j+1) (by omega);rw [show(((j+1:Nat):Int))=(j:Int)+1 by omega]at h9;exact h9
      refine⟨⟨j+1,by omega,hn,HT2.out,HD2.out,Qm HG.out (Qm (Qq _ _ nq) (QQ _ _ _ _))⟩,?_⟩;rw [hn.atOf,HA.out];omega
     ·have b3: ¬(s[j].toNat:Int)≤57:=by omega
      have d3:decide ((s[j].toNat:Int)≤57)=false:=by simpa using b3
      have b5: ¬(s[j].toNat:Int)=36:=by omega
      have b6:((s[j].toNat:Int)==36)=false:=by simpa using b5
      have HW:Hid (isW s[j]=false):=by
       show isW s[j]=false;cases hq:isW s[j]
       ·rfl
       ·have:=isW_of.1 hq;omega
      have HF:Hid (s.extract k j=⟨((rest s k).takeWhile isW).toArray⟩):=by
       show _=_;rw [HT.out,HC.out,(EN HW.out).1,List.append_nil,Xq s k j hkj]
      have HF2:Hid ((rest s k).dropWhile isW=rest s j):=by show _=_;rw [HD.out,HC.out,(EN HW.out).2]
      go_wp2_with fail
      refine wp_region_quiet_lit (by kernel_rfl) (by kernel_rfl) ?_;try simp only [List.append]
      repeat (go_big_quiet_step (fail))
      refine wpQuiet_nil ?_;intro _ hw';obtain⟨nq,hw''⟩:=hw';subst hw'';go_wp2_with fail
      go_quiet (fail)
      go_wp2_with fail
      go_ret;exact⟨by rw [←HF.out];rfl,j,(HR.out.draws _).draws _,HF2.out.symm,Qm HG.out (Qm (Qq _ _ _) (Qq _ _ _))⟩
    ·have b2: ¬48≤(s[j].toNat:Int):=by omega
     have d2:decide (48≤(s[j].toNat:Int))=false:=by simpa using b2
     by_cases hb3:s[j].toNat=36
     ·have b3:(s[j].toNat:Int)=36:=by omega
      have HW:Hid (isW s[j]=true):=isW_of.2 (by omega)
      have HT2:Hid ((rest s k).takeWhile isW=(rest s k).take (j+1-k)++(rest s (j+1)).takeWhile isW):=by
       show _=_;rw [HT.out,HC.out,(EL HW.out).1,GD s k j hkj hlt];simp
      have HD2:Hid ((rest s k).dropWhile isW=(rest s (j+1)).dropWhile isW):=by show _=_;rw [HD.out,HC.out,(EL HW.out).2]
      go_wp2_with fail
      refine wp_region_quiet_lit (by kernel_rfl) (by kernel_rfl) ?_;try simp only [List.append]
      repeat (go_big_quiet_step (fail))
      refine wpQuiet_nil ?_;intro _ hw';obtain⟨nq,hw''⟩:=hw';subst hw'';go_wp2_with fail
      have hn:Rs ((wr.drewN nq).setCell ⟨r,1,none⟩ (.int .i64 ((j:Int)+1))) r s (j+1) bad v:=by
       have h9:=(HR.out.draws nq).at (j+1) (by omega);rw [show(((j+1:Nat):Int))=(j:Int)+1 by omega]at h9;exact h9
      refine⟨⟨j+1,by omega,hn,HT2.out,HD2.out,Qm HG.out (Qm (Qq _ _ nq) (QQ _ _ _ _))⟩,?_⟩;rw [hn.atOf,HA.out];omega
     ·have b5: ¬(s[j].toNat:Int)=36:=by omega
      have b6:((s[j].toNat:Int)==36)=false:=by simpa using b5
      have HW:Hid (isW s[j]=false):=by
       show isW s[j]=false;cases hq:isW s[j]
       ·rfl
       ·have:=isW_of.1 hq;omega
      have HF:Hid (s.extract k j=⟨((rest s k).takeWhile isW).toArray⟩):=by
       show _=_;rw [HT.out,HC.out,(EN HW.out).1,List.append_nil,Xq s k j hkj]
      have HF2:Hid ((rest s k).dropWhile isW=rest s j):=by show _=_;rw [HD.out,HC.out,(EN HW.out).2]
      go_wp2_with fail
      refine wp_region_quiet_lit (by kernel_rfl) (by kernel_rfl) ?_;try simp only [List.append]
      repeat (go_big_quiet_step (fail))
      refine wpQuiet_nil ?_;intro _ hw';obtain⟨nq,hw''⟩:=hw';subst hw'';go_wp2_with fail
      go_quiet (fail)
      go_wp2_with fail
      go_ret;exact⟨by rw [←HF.out];rfl,j,(HR.out.draws _).draws _,HF2.out.symm,Qm HG.out (Qm (Qq _ _ _) (Qq _ _ _))⟩
  ·have q1: ¬(j:Int)<(s.size:Int):=by omega
   have d1:decide ((j:Int)<(s.size:Int))=false:=by simpa using q1
   have HZ:Hid (rest s j= []):=YS s j (by omega)
   have HF:Hid (s.extract k j=⟨((rest s k).takeWhile isW).toArray⟩):=by
    show _=_;rw [HT.out,HZ.out,Xq s k j hkj];simp
   have HF2:Hid ((rest s k).dropWhile isW=rest s j):=by show _=_;rw [HD.out,HZ.out];rfl
   go_wp2_with fail
   refine wp_region_quiet_lit (by kernel_rfl) (by kernel_rfl) ?_;try simp only [List.append]
   repeat (go_big_quiet_step (fail))
   refine wpQuiet_nil ?_;intro _ hw';obtain⟨nq,hw''⟩:=hw';subst hw'';go_wp2_with fail
   go_quiet (fail)
   go_wp2_with fail
   go_ret;exact⟨by rw [←HF.out];rfl,j,(HR.out.draws _).draws _,HF2.out.symm,Qm HG.out (Qm (Qq _ _ _) (Qq _ _ _))⟩
def Vd (t:Nat):Int:= [7,9,11,6,8,10,1,2,3,4,5].getD t 0
theorem Qsn (t:Nat) (h:t<11):1≤Vd t∧Vd t≤11:=by
 have ht:t=0∨t=1∨t=2∨t=3∨t=4∨t=5∨t=6∨t=7∨t=8∨t=9∨t=10:=by omega
 rcases ht with rfl | rfl | rfl | rfl | rfl | rfl | rfl | rfl | rfl | rfl | rfl<;>decide
theorem Qkg {lv:Int} {l:List UInt8} (h1:1≤lv) (h4:lv≤4) (h: ∀u,u<11→lvl (Vd u)=lv→isP (Vd u) l=false):Qqm lv l=0:=by
 have hn:lv=1∨lv=2∨lv=3∨lv=4:=by omega
 rcases hn with rfl | rfl | rfl | rfl
 ·have e0:isP 7 l=false:=h 0 (by omega) (by decide);have e1:isP 9 l=false:=h 1 (by omega) (by decide);have e2:isP 11 l=false:=h 2 (by omega) (by decide);have e3:isP 6 l=false:=h 3 (by omega) (by decide);have e4:isP 8 l=false:=h 4 (by omega) (by decide);have e5:isP 10 l=false:=h 5 (by omega) (by decide);show Ud l=0
  unfold Ud;rw [e0,e1,e2,e3,e4,e5];rfl
 ·have e10:isP 5 l=false:=h 10 (by omega) (by decide);show Qm2 l=0;unfold Qm2;rw [e10];rfl
 ·have e6:isP 1 l=false:=h 6 (by omega) (by decide);have e7:isP 2 l=false:=h 7 (by omega) (by decide);show Qgi l=0;unfold Qgi;rw [e6,e7];rfl
 ·have e8:isP 3 l=false:=h 8 (by omega) (by decide);have e9:isP 4 l=false:=h 9 (by omega) (by decide);show Qgh l=0;unfold Qgh;rw [e8,e9];rfl
theorem Qhv {lv:Int} {l:List UInt8} {t:Nat} (ht:t<11) (hl:lvl (Vd t)=lv) (hp:isP (Vd t) l=true) (h: ∀u,u<t→lvl (Vd u)=lv→isP (Vd u) l=false):Qqm lv l=Vd t:=by
 have hq:t=0∨t=1∨t=2∨t=3∨t=4∨t=5∨t=6∨t=7∨t=8∨t=9∨t=10:=by omega
 subst hl;rcases hq with rfl | rfl | rfl | rfl | rfl | rfl | rfl | rfl | rfl | rfl | rfl
 ·have e9:isP 7 l=true:=hp;show Ud l=7;unfold Ud;rw [e9];rfl
 ·have e0:isP 7 l=false:=h 0 (by omega) (by decide);have e9:isP 9 l=true:=hp;show Ud l=9;unfold Ud;rw [e0,e9];rfl
 ·have e0:isP 7 l=false:=h 0 (by omega) (by decide);have e1:isP 9 l=false:=h 1 (by omega) (by decide);have e9:isP 11 l=true:=hp;show Ud l=11;unfold Ud;rw [e0,e1,e9];rfl
 ·have e0:isP 7 l=false:=h 0 (by omega) (by decide);have e1:isP 9 l=false:=h 1 (by omega) (by decide);have e2:isP 11 l=false:=h 2 (by omega) (by decide);have e9:isP 6 l=true:=hp;show Ud l=6;unfold Ud;rw [e0,e1,e2,e9]
  rfl
 ·have e0:isP 7 l=false:=h 0 (by omega) (by decide);have e1:isP 9 l=false:=h 1 (by omega) (by decide);have e2:isP 11 l=false:=h 2 (by omega) (by decide);have e3:isP 6 l=false:=h 3 (by omega) (by decide);have e9:isP 8 l=true:=hp;show Ud l=8;unfold Ud
  rw [e0,e1,e2,e3,e9];rfl
 ·have e0:isP 7 l=false:=h 0 (by omega) (by decide);have e1:isP 9 l=false:=h 1 (by omega) (by decide);have e2:isP 11 l=false:=h 2 (by omega) (by decide);have e3:isP 6 l=false:=h 3 (by omega) (by decide);have e4:isP 8 l=false:=h 4 (by omega) (by decide);have e9:isP 10 l=true:=hp;show Ud l=10
  unfold Ud;rw [e0,e1,e2,e3,e4,e9];rfl
 ·have e9:isP 1 l=true:=hp;show Qgi l=1;unfold Qgi;rw [e9];rfl
 ·have e6:isP 1 l=false:=h 6 (by omega) (by decide);have e9:isP 2 l=true:=hp;show Qgi l=2;unfold Qgi;rw [e6,e9];rfl
 ·have e9:isP 3 l=true:=hp;show Qgh l=3;unfold Qgh;rw [e9];rfl
 ·have e8:isP 3 l=false:=h 8 (by omega) (by decide);have e9:isP 4 l=true:=hp;show Qgh l=4;unfold Qgh;rw [e8,e9];rfl
 ·have e9:isP 5 l=true:=hp;show Qm2 l=5;unfold Qm2;rw [e9];rfl
def opB (bad:Bool) (lv:Int) (l:List UInt8):Int:=if bad then 0 else Qqm lv (sb l)
theorem Qs6 {bad:Bool} {wd:ByteArray} {l l':List UInt8} (h:sb l=sb l'):isB bad wd l=isB bad wd l':=by unfold isB;rw [h]
def OrdAt (W:World) (b:Nat):Prop:=b<W.heap.size∧ ∀t,t<11→W.cell? ⟨b,t,none⟩=some (.int .i64 (Vd t))
theorem OrdAt.below {W W':World} {b:Nat} (h:OrdAt W b) (hb:Below W.heap.size W W'):OrdAt W' b:=⟨Nat.lt_of_lt_of_le h.1 hb.size,fun t ht=>(hb.cell (p:=⟨b,t,none⟩) h.1).trans (h.2 t ht)⟩
theorem OrdAt.grown {W W':World} {b r:Nat} (h:OrdAt W b) (hg:W.grownBy W' (some r)) (hr:b≠r):OrdAt W' b:=by
 refine⟨Nat.lt_of_lt_of_le h.1 hg.size,fun t ht=> ?_⟩;exact hg.cell (h.2 t ht) (fun e=>hr (by cases e;rfl))
theorem OrdAt.new (W:World) (t:TypeId):OrdAt (W.alloc (.cells #[.int .i64 7,.int .i64 9,.int .i64 11,.int .i64 6,.int .i64 8,.int .i64 10,.int .i64 1,.int .i64 2,.int .i64 3,.int .i64 4,.int .i64 5] t)) W.heap.size:=by
 refine⟨by simp,fun u hu=> ?_⟩;have hq:u=0∨u=1∨u=2∨u=3∨u=4∨u=5∨u=6∨u=7∨u=8∨u=9∨u=10:=by omega
 rcases hq with rfl | rfl | rfl | rfl | rfl | rfl | rfl | rfl | rfl | rfl | rfl<;>simp [Vd]
theorem Qce {W w1:World} {row:Option Nat} (hb:Below W.heap.size W w1):W.grownBy w1 row:=⟨hb.os,hb.tape,hb.output,hb.size,fun q hq _=>hb.block q hq⟩
theorem Qri (r:Nat) (s:ByteArray) (k:Nat) (bad:Bool) (v:Value) (lv:Int) (W:World) (h:Rs W r s k bad v) (hs:s.size≤1000) (h1:1≤lv) (h4:lv≤4):Calls Tryz.prog 216 #[.pointer (some ⟨r,0,none⟩),.int .i64 lv] W fun e w'=>
  e= .returned (.int .i64 (opB bad lv (rest s k)))∧ ∃j,Rs w' r s j bad v∧(opB bad lv (rest s k)=0→sb (rest s j)=sb (rest s k))∧(opB bad lv (rest s k)≠0→rest s j=(sb (rest s k)).drop (sgT (opB bad lv (rest s k))).length)∧W.grownBy w' (some r):=by
 have HR:Hid (Rs W r s k bad v):=h;have HLT:Hid (r<W.heap.size):=h.lt;clear h;go_enter Tryz.func216,Tryz.ntmps216;go_wp2_with fail
 go_loopw [6] (fun i wr=> ∃t j:Nat,t≤11∧i= .int .i64 t∧Rs wr r s j bad v∧sb (rest s j)=sb (rest s k)∧(∀u,u<t→lvl (Vd u)=lv→isB bad (bs (sgT (Vd u))) (rest s k)=false)∧OrdAt wr W.heap.size∧W.grownBy wr (some r)) (fun i _=>11-(intOf i).toNat)
 case atStart=>exact⟨0,k,Nat.zero_le _,rfl,HR.out.below (by go_grown),rfl,fun u hu=>by omega,OrdAt.new _ _,Qce (by go_grown)⟩
 case round=>
  clear HR;obtain⟨t,j,ht,rfl,hr,hsb,hno,hord,hg⟩:=hrel;have HR:Hid (Rs wr r s j bad v):=hr;have HS:Hid (sb (rest s j)=sb (rest s k)):=hsb;have HN:Hid (∀u,u<t→lvl (Vd u)=lv→isB bad (bs (sgT (Vd u))) (rest s k)=false):=hno;have HO:Hid (OrdAt wr W.heap.size):=hord;have HG:Hid (W.grownBy wr (some r)):=hg
  clear hr hsb hno hg;have q0:(0:Int)≤(t:Int):=by omega
  by_cases hlt:t<11
  ·have q1:(t:Int)<11:=by omega
   have c0:=hord.2 t hlt;obtain⟨o1,o2⟩:=Qsn t hlt;have hlb:=hord.1;clear hord;obtain⟨o,HOO⟩: ∃o,Hid (Vd t=o):=⟨_,rfl⟩;rw [HOO.out]at c0 o1 o2;by_cases hl:lvl o=lv
   ·have HL:Hid (lvl o=lv):=hl;clear hl;go_wp2_with fail
    refine(Ji o _ o1 o2).mono ?_;rintro e w1 ⟨rfl,hw⟩;subst w1;rw [HL.out];go_wp2_with fail
    refine(Xv o _ o1 o2).mono ?_;rintro e w1 ⟨rfl,hb⟩;have HR1:=hd (HR.out.below hb);have HO1:=hd (HO.out.below hb);have HG1:Hid (W.grownBy w1 (some r)):=Qm HG.out (Qce hb);clear hb c0;have HZ:Hid ((bs (sgT o)).size≤10):=by show(sgT o).length≤10;have:=VE o;omega
    go_wp2_with fail
    refine(ZF r s (bs (sgT o)) j bad v _ HR1.out hs HZ.out).mono ?_;rintro e w2 ⟨rfl,j2,hr2,hre2,hg2⟩;have HR2:Hid (Rs w2 r s j2 bad v):=hr2;have HE2:Hid (rest s j2=isR bad (bs (sgT o)) (rest s j)):=hre2;have HO2:Hid (OrdAt w2 W.heap.size):=HO1.out.grown hg2 (by have:=HLT.out;omega);have HG2:Hid (W.grownBy w2 (some r)):=Qm HG1.out hg2;have HBE:Hid (isB bad (bs (sgT o)) (rest s j)=isB bad (bs (sgT o)) (rest s k)):=Qs6 HS.out
    clear hr2 hre2 hg2;have c2:=HO2.out.2 t hlt;rw [HOO.out]at c2;cases hB:isB bad (bs (sgT o)) (rest s j)
    ·have HB:Hid (isB bad (bs (sgT o)) (rest s j)=false):=hB;clear hB;go_wp2_with fail
     go_roundw
     case rel=>
      refine⟨t+1,j2,by omega,by go_num,HR2.out,?_,fun u hu hlu=> ?_,HO2.out,HG2.out⟩
      ·rw [HE2.out,Hf HB.out,Ze];exact HS.out
      ·by_cases hut:u=t
       ·subst hut;rw [HOO.out,←HBE.out];exact HB.out
       ·exact HN.out u (by omega) hlu
     case measure=>simp [intOf];omega
    ·have HB:Hid (isB bad (bs (sgT o)) (rest s j)=true):=hB
     have hbad:bad=false:=by
      cases bad
      ·rfl
      ·exact absurd hB (by unfold isB;simp)
     have HF:Hid (opB bad lv (rest s k)=o):=by
      show _=_;unfold opB;rw [hbad]
      have hp:isP (Vd t) (sb (rest s k))=true:=by
       have h9:=HB.out;rw [HBE.out,hbad]at h9;rw [HOO.out];have h10:(!false&&(sgT o).isPrefixOf (sb (rest s k)))=true:=h9;unfold isP;simpa using h10
      have h8: ∀u,u<t→lvl (Vd u)=lv→isP (Vd u) (sb (rest s k))=false:=fun u hu hlu=>by
       have h9:=HN.out u hu hlu;rw [hbad]at h9;have h10:(!false&&(sgT (Vd u)).isPrefixOf (sb (rest s k)))=false:=h9;unfold isP;simpa using h10
      have:=Qhv hlt (by rw [HOO.out];exact HL.out) hp h8;rw [HOO.out]at this;exact this
     clear hB hbad;go_wp2_with fail
     go_ret;refine⟨by rw [HF.out];rfl,j2,HR2.out,fun e=> ?_,fun _=> ?_,HG2.out⟩
     ·rw [HF.out]at e;omega
     ·rw [HF.out,HE2.out,MI HB.out,HS.out];rfl
   ·have hl2:(lvl o==lv)=false:=by simpa using hl
    have HL:Hid (¬lvl o=lv):=hl;clear hl;go_wp2_with fail
    refine(Ji o _ o1 o2).mono ?_;rintro e w1 ⟨rfl,hw⟩;subst w1;go_wp2_with fail
    go_roundw
    case rel=>
     refine⟨t+1,j,by omega,by go_num,HR.out,HS.out,fun u hu hlu=> ?_,HO.out,HG.out⟩;by_cases hut:u=t
     ·subst hut;rw [HOO.out]at hlu;exact absurd hlu HL.out
     ·exact HN.out u (by omega) hlu
    case measure=>simp [intOf];omega
  ·have q1: ¬(t:Int)<11:=by omega
   obtain rfl:t=11:=by omega
   clear hord
   have HF:Hid (opB bad lv (rest s k)=0):=by
    show _=_;unfold opB;cases bad
    ·refine Qkg h1 h4 (fun u hu hlu=> ?_);have h10:(!false&&(sgT (Vd u)).isPrefixOf (sb (rest s k)))=false:=HN.out u hu hlu;unfold isP;simpa using h10
    ·rfl
   go_wp2_with fail
   go_ret;exact⟨by rw [HF.out];rfl,j,HR.out,fun _=>HS.out,fun e=>absurd HF.out e,HG.out⟩
end Go.Proofs.YtbdhinckiccniaaGreatDoor
