import Derived.Test.YtomadadmakdkgaaGreatDoorMn
import Derived.Test.YtomadadmakdkgaaGreatDoorGab
import Derived.Test.YtomadadmakdkgaaGreatDoorGaa
import Derived.Deep.QuietTactic
import Derived.BigQuiet
import Derived.Deep.RegionHeld3
import Derived.Test.YtomadadmakdkgaaGreatDoorGaj
open Go.Proofs.Tryz
open Go renaming wp_region_quiet_lit → d, World → m, wpQuiet_nil → A, Value → D
open Go.Value renaming int → f, string → K, bool → L
open Go.IntKind renaming i64 → g
open List renaming isPrefixOf_iff_prefix → y, append → z, dropWhile → C, append_nil → E, takeWhile → I
open Go.World renaming cell?_setCell_other → B
open Go.World.grownBy renaming refl → F
open Go.Ending renaming returned → G
open UInt8 renaming toNat_inj → H
open ByteArray renaming ext → J
open Go.Obj renaming cells → M
set_option linter.unusedSimpArgs false
set_option linter.unusedVariables false
set_option maxHeartbeats 8000000
set_option maxRecDepth 100000
namespace Go.Proofs.YtomadadmakdkgaaGreatDoor
open Go.RowKit
variable {W W':m} {r k j:Nat} {s w wd:ByteArray} {bad:Bool} {v:D} {b:UInt8} {t l:List UInt8}
def Rs(W:m)(r:Nat)(s:ByteArray)(k:Nat)(bad:Bool)(v:D):Prop:=
 k<=s.size/\(W.cell? ⟨r,0,none⟩=some (K s)/\W.cell? ⟨r,1,none⟩=some (f g k)/\W.cell? ⟨r,2,none⟩=some (L bad)/\W.cell? ⟨r,3,none⟩=some v)/\
  W.frozen? ⟨r,1,none⟩=false/\W.frozen? ⟨r,2,none⟩=false/\W.frozen? ⟨r,3,none⟩=false
theorem Rs.lt(h:Rs W r s k bad v):r<W.heap.size:=World.block_lt_of_cell? W ⟨r,0,none⟩ h.2.1.1
theorem Rs.below(h:Rs W r s k bad v)(hb:Below W.heap.size W W'):Rs W' r s k bad v:=by
 have hl:=h.lt;obtain⟨h0,⟨c0,c1,c2,c3⟩,f1,f2,f3⟩:=h
 exact⟨h0,⟨(hb.cell (p:=⟨r,0,none⟩) hl).trans c0,(hb.cell (p:=⟨r,1,none⟩) hl).trans c1,(hb.cell (p:=⟨r,2,none⟩) hl).trans c2,(hb.cell (p:=⟨r,3,none⟩) hl).trans c3⟩,
  (hb.frozen (p:=⟨r,1,none⟩) hl).trans f1,(hb.frozen (p:=⟨r,2,none⟩) hl).trans f2,(hb.frozen (p:=⟨r,3,none⟩) hl).trans f3⟩
theorem Rs.at(h:Rs W r s k bad v)(j:Nat)(hj:j<=s.size):Rs (W.setCell ⟨r,1,none⟩ (f g j)) r s j bad v:=by
 obtain⟨h0,⟨c0,c1,c2,c3⟩,f1,f2,f3⟩:=h;refine⟨hj,⟨?_,World.cell?_setCell_same _ _ _ c1,?_,?_⟩,by simpa using f1,by simpa using f2,by simpa using f3⟩
 ·exact(B W ⟨r,1,none⟩ ⟨r,0,none⟩ _ (fun e=>by cases e)).trans c0
 ·exact(B W ⟨r,1,none⟩ ⟨r,2,none⟩ _ (fun e=>by cases e)).trans c2
 ·exact(B W ⟨r,1,none⟩ ⟨r,3,none⟩ _ (fun e=>by cases e)).trans c3
theorem Qs{a b c:m}{row:Option Nat}(h:a.grownBy b row)(h':b.grownBy c row):a.grownBy c row:=
 ⟨h'.os.trans h.os,h'.tape.trans h.tape,h'.output.trans h.output,Nat.le_trans h.size h'.size,fun k hk hr=>(h'.block k (Nat.lt_of_lt_of_le hk h.size) hr).trans (h.block k hk hr)⟩
theorem Ze(W:m)(r p:Nat)(u:D):W.grownBy (W.setCell ⟨r,p,none⟩ u) (some r):=
 ⟨rfl,rfl,rfl,by simp,fun k hk hr=>by
  have hne:k≠r:=fun e=>hr (congrArg some e)
  exact Below.heap_setCell _ _ _ _ (by simp only;omega)⟩
def rest(s:ByteArray)(k:Nat):List UInt8:=s.data.toList.drop k
theorem Zk(s:ByteArray)(k:Nat)(h:k<s.size):rest s k=s[k]::rest s (k+1):=List.drop_eq_getElem_cons (by simpa using h)
theorem XK(s:ByteArray)(k:Nat)(h:s.size<=k):rest s k= []:=List.drop_of_length_le (by simpa using h)
theorem Qpo(h:b≠32):sb (b::t)=b::t:=by
 have e:(b==32)=false:=beq_eq_false_iff_ne.2 h;unfold sb;simp only[C,e]
theorem Qwb(t:List UInt8):sb (32::t)=sb t:=by
 unfold sb;simp[C]
def atOf(W:m)(r:Nat):Nat:=match W.cell? ⟨r,1,none⟩with
 | some (.int _ n)=>n.toNat
 | _=>0
theorem Rs.atOf(h:Rs W r s k bad v):atOf W r=k:=by
 unfold Go.Proofs.YtomadadmakdkgaaGreatDoor.atOf;rw[h.2.1.2.1];simp
theorem Qv(r:Option Nat)(W:m)(n:Nat):W.grownBy (W.drewN n) r:=⟨rfl,rfl,rfl,Nat.le_refl _,fun _ _ _=>rfl⟩
theorem Rs.draws(h:Rs W r s k bad v)(n:Nat):Rs (W.drewN n) r s k bad v:=h
theorem Ha(r:Nat)(s:ByteArray)(k:Nat)(bad:Bool)(v:D)(W:m)(h:Rs W r s k bad v)(hs:s.size<=1000):Calls prog 132 #[.pointer (some ⟨r,0,none⟩)] W fun e w'=>
  ∃x j,e= G x/\Rs w' r s j bad v/\rest s j=sb (rest s k)/\W.grownBy w' (some r):=by
 have HR:Hid (Rs W r s k bad v):=h;clear h;go_enter func132,ntmps132;go_wp2_with fail
 go_loopw [] (fun wr=> ∃j:Nat,Rs wr r s j bad v/\sb (rest s j)=sb (rest s k)/\W.grownBy wr (some r)) (fun wr=>s.size-atOf wr r)
 case atStart=>exact⟨k,HR.out,rfl,F _ _⟩
 case round=>
  clear HR;obtain⟨j,hr,h1,hg⟩:=hrel;have HR:Hid (Rs wr r s j bad v):=hr;have HS:Hid (sb (rest s j)=sb (rest s k)):=h1;have HG:Hid (W.grownBy wr (some r)):=hg;have HA:Hid (atOf wr r=j):=hr.atOf;obtain⟨hj,⟨c0,c1,c2,c3⟩,f1,f2,f3⟩:=hr
  clear h1 hg;have q0:(0:Int)<=(j:Int):=by omega
  by_cases h3:j<s.size
  ·have q1:(j:Int)<(s.size:Int):=by omega
   have HC:Hid (rest s j=s[j]::rest s (j+1)):=Zk s j h3;by_cases hb:s[j].toNat=32
   ·have h2:(s[j].toNat:Int)=32:=by omega
    have h0:s[j]=32:=by apply H.1;rw[hb];rfl
    have HN:Hid (sb (rest s (j+1))=sb (rest s k)):=by show _=_;rw[<-HS.out,HC.out,h0,Qwb]
    clear h0;go_wp2_with fail
    go_quiet (fail)
    go_wp2_with fail
    have hn:Rs ((wr.drewN nq).setCell ⟨r,1,none⟩ (f g ((j:Int)+1))) r s (j+1) bad v:=by
     have h9:=(HR.out.draws nq).at (j+1) (by omega);rw[show(((j+1:Nat):Int))=(j:Int)+1 by omega]at h9;exact h9
    refine⟨⟨j+1,hn,HN.out,Qs HG.out (Qs (Qv _ _ nq) (Ze _ _ _ _))⟩,?_⟩;rw[hn.atOf,HA.out];omega
   ·have h2: ¬(s[j].toNat:Int)=32:=by omega
    have h0:((s[j].toNat:Int)==32)=false:=by simpa using h2
    have HN:Hid (rest s j=sb (rest s k)):=by
     show _=_;rw[<-HS.out,HC.out,Qpo (fun e=>hb (by rw[e];rfl))]
    go_wp2_with fail
    go_quiet (fail)
    go_wp2_with fail
    go_returns
    exact⟨_,j,rfl,HR.out.draws _,HN.out,Qs HG.out (Qv _ _ _)⟩
  ·have q1: ¬(j:Int)<(s.size:Int):=by omega
   have HN:Hid (rest s j=sb (rest s k)):=by
    show _=_;rw[<-HS.out,XK s j (by omega)];rfl
   go_wp2_with fail
   go_quiet (fail)
   go_wp2_with fail
   go_returns
   exact⟨_,j,rfl,HR.out.draws _,HN.out,Qs HG.out (Qv _ _ _)⟩
theorem Db(s:ByteArray)(j n:Nat):(s.extract j (j+n)).data.toList=(rest s j).take n:=by
 have e:(s.extract j (j+n)).data.toList=(s.data.toList.drop j).take (j+n-j):=by simp[List.drop_take]
 rw[e,Nat.add_sub_cancel_left];rfl
theorem Uf(s:ByteArray)(j:Nat):(rest s j).length=s.size-j:=by
 unfold rest;rw[List.length_drop];rfl
theorem Qqk(h:w.data.toList.isPrefixOf (rest s j)=true):j+w.size<=s.size\/w.size=0:=by
 have:=(y.1 h).length_le;rw[Uf]at this;have e:w.data.toList.length=w.size:=rfl;omega
theorem Qgf(h:j+w.size<=s.size):w.data.toList.isPrefixOf (rest s j)=((s.extract j (j+w.size)).toList==w.toList):=by
 have e:w.data.toList.length=w.size:=rfl;by_cases he:s.extract j (j+w.size)=w
 ·rw[VF he];apply y.2;have h2:=Db s j w.size;rw[he]at h2;rw[h2];exact List.take_prefix _ _
 ·rw[QQ he];cases hp:w.data.toList.isPrefixOf (rest s j)
  ·rfl
  ·exfalso
   apply he;apply J;apply Array.ext';rw[Db];obtain⟨r,hr⟩:=y.1 hp;rw[<-hr,<-e];exact List.take_left
theorem Qge(hj:j<=s.size)(h:s.size<j+w.size):w.data.toList.isPrefixOf (rest s j)=false:=by
 cases hp:w.data.toList.isPrefixOf (rest s j)
 ·rfl
 ·have:=Qqk hp;omega
theorem Bt(s:ByteArray)(j n:Nat):rest s (j+n)=(rest s j).drop n:=by
 unfold rest;rw[List.drop_drop]
def isB(bad:Bool)(wd:ByteArray)(l:List UInt8):Bool:= !bad&&wd.data.toList.isPrefixOf (sb l)
def isR(bad:Bool)(wd:ByteArray)(l:List UInt8):List UInt8:=if isB bad wd l then(sb l).drop wd.size else sb l
theorem Ua(h:isB bad wd l=false):isR bad wd l=sb l:=by unfold isR;rw[h];rfl
theorem NT(h:isB bad wd l=true):isR bad wd l=(sb l).drop wd.size:=by unfold isR;rw[h];rfl
theorem Yq(r:Nat)(s wd:ByteArray)(k:Nat)(bad:Bool)(v:D)(W:m)(h:Rs W r s k bad v)(hs:s.size<=1000)(hw:wd.size<=10):Calls prog 203 #[.pointer (some ⟨r,0,none⟩),K wd] W fun e w'=>
  e= G (L (isB bad wd (rest s k)))/\ ∃j,Rs w' r s j bad v/\rest s j=isR bad wd (rest s k)/\W.grownBy w' (some r):=by
 have HR:Hid (Rs W r s k bad v):=h;clear h;go_enter func203,ntmps203;go_wp2_with fail
 refine(Ha r s k bad v _ HR.out hs).mono ?_;rintro e w1 ⟨x,j,rfl,hr,hre,hg⟩;have h0:Hid (Rs w1 r s j bad v):=hr;have HG:Hid (W.grownBy w1 (some r)):=hg;have HE:Hid (rest s j=sb (rest s k)):=hre;obtain⟨hj,⟨c0,c1,c2,c3⟩,f1,f2,f3⟩:=hr;clear hg hre HR
 cases bad
 rotate_left
 ·have HB:Hid (isB true wd (rest s k)=false):=rfl;go_wp2_with fail
  go_quiet (fail)
  go_wp2_with fail
  go_ret;exact⟨Qc HB.out.symm,j,h0.out.draws _,by rw[Ua HB.out];exact HE.out,Qs HG.out (Qv _ _ _)⟩
 ·by_cases h1:s.size<j+wd.size
  ·have q1:(s.size:Int)<(j:Int)+(wd.size:Int):=by omega
   have HB:Hid (isB false wd (rest s k)=false):=by show _=_;rw[isB,<-HE.out,Qge hj h1];rfl
   go_wp2_with fail
   go_quiet (fail)
   go_wp2_with fail
   go_ret;exact⟨Qc HB.out.symm,j,h0.out.draws _,by rw[Ua HB.out];exact HE.out,Qs HG.out (Qv _ _ _)⟩
  ·have q1: ¬(s.size:Int)<(j:Int)+(wd.size:Int):=by omega
   have q2:(0:Int)<=(j:Int):=by omega
   have q3:(j:Int)+(wd.size:Int)<=(s.size:Int):=by omega
   have q4:(j:Int)<=(j:Int)+(wd.size:Int):=by omega
   have q5:(0:Int)<=(j:Int)+(wd.size:Int):=by omega
   have hwr:IntKind.i64.wrap ((j:Int)+(wd.size:Int))=(j:Int)+(wd.size:Int):=by rw[IntKind.wrap_i64];omega
   have q6:((j:Int)+(wd.size:Int)).toNat=j+wd.size:=by omega
   have HP:Hid (wd.data.toList.isPrefixOf (rest s j)=((s.extract j (j+wd.size)).toList==wd.toList)):=Qgf (by omega);cases he:((s.extract j (j+wd.size)).toList==wd.toList)
   ·have HB:Hid (isB false wd (rest s k)=false):=by show _=_;rw[isB,<-HE.out,HP.out,he];rfl
    go_wp2_with fail
    go_quiet (fail)
    go_wp2_with fail
    go_ret;exact⟨Qc HB.out.symm,j,h0.out.draws _,by rw[Ua HB.out];exact HE.out,Qs HG.out (Qv _ _ _)⟩
   ·have HB:Hid (isB false wd (rest s k)=true):=by show _=_;rw[isB,<-HE.out,HP.out,he];rfl
    go_wp2_with fail
    go_quiet (fail)
    go_wp2_with fail
    go_ret;have h9:=(h0.out.draws nq).at (j+wd.size) (by omega);rw[show(((j+wd.size:Nat):Int))=(j:Int)+(wd.size:Int) by omega]at h9;exact⟨Qc HB.out.symm,j+wd.size,h9,by rw[NT HB.out,<-HE.out,Bt],Qs HG.out (Qs (Qv _ _ nq) (Ze _ _ _ _))⟩
theorem isW_of:isW b=true↔(65<=b.toNat/\b.toNat<=90)\/(48<=b.toNat/\b.toNat<=57)\/b.toNat=36:=by
 have e:(b==36)=decide (b.toNat=36):=by
  by_cases h:b=36
  ·subst h;rfl
  ·have h1:(b==36)=false:=beq_eq_false_iff_ne.2 h;have h2: ¬b.toNat=36:=fun q=>h (by apply H.1;rw[q];rfl);rw[h1];simp[h2]
 unfold isW;rw[e];simp[or_assoc]
theorem Qa0(h:isW b=true):(b::t).takeWhile isW=b::t.takeWhile isW/\(b::t).dropWhile isW=t.dropWhile isW:=by
 simp[I,C,h]
theorem Qa1(h:isW b=false):(b::t).takeWhile isW= []/\(b::t).dropWhile isW=b::t:=by
 simp[I,C,h]
theorem UW(s:ByteArray)(k j:Nat)(hk:k<=j)(hj:j<s.size):(rest s k).take (j+1-k)=(rest s k).take (j-k)++ [s[j]]:=by
 have hl:=Uf s k;have e:j+1-k=j-k+1:=by omega
 rw[e,List.take_succ_eq_append_getElem (by omega)];congr 1
 unfold rest;rw[List.getElem_drop];simp only[show k+(j-k)=j by omega];rfl
theorem Jj(s:ByteArray)(k j:Nat)(hk:k<=j):s.extract k j=⟨((rest s k).take (j-k)).toArray⟩:=by
 apply J;apply Array.ext';have h:=Db s k (j-k);rw[show k+(j-k)=j by omega]at h;exact h
theorem ET(r:Nat)(s:ByteArray)(k:Nat)(bad:Bool)(v:D)(W:m)(h:Rs W r s k bad v)(hs:s.size<=1000):Calls prog 205 #[.pointer (some ⟨r,0,none⟩)] W fun e w'=>
  e= G (K ⟨((rest s k).takeWhile isW).toArray⟩)/\ ∃j,Rs w' r s j bad v/\rest s j=(rest s k).dropWhile isW/\W.grownBy w' (some r):=by
 have HR:Hid (Rs W r s k bad v):=h;have H1:Hid (k<=s.size):=h.1;obtain⟨_,⟨c0,c1,c2,c3⟩,f1,f2,f3⟩:=h;go_enter func205,ntmps205;go_wp2_with fail
 clear c0 c1 c2 c3 f1 f2 f3;go_loopw [] (fun wr=> ∃j:Nat,k<=j/\Rs wr r s j bad v/\(rest s k).takeWhile isW=(rest s k).take (j-k)++(rest s j).takeWhile isW/\(rest s k).dropWhile isW=(rest s j).dropWhile isW/\W.grownBy wr (some r)) (fun wr=>s.size-atOf wr r)
 case atStart=>exact⟨k,Nat.le_refl _,HR.out,by simp,rfl,F _ _⟩
 case round=>
  clear HR;obtain⟨j,h1,hr,h6,h7,hg⟩:=hrel;have HR:Hid (Rs wr r s j bad v):=hr;have HT:Hid ((rest s k).takeWhile isW=(rest s k).take (j-k)++(rest s j).takeWhile isW):=h6;have HD:Hid ((rest s k).dropWhile isW=(rest s j).dropWhile isW):=h7;have HG:Hid (W.grownBy wr (some r)):=hg;have HA:Hid (atOf wr r=j):=hr.atOf
  obtain⟨hj,⟨c0,c1,c2,c3⟩,f1,f2,f3⟩:=hr;clear h6 h7 hg;have q0:(0:Int)<=(j:Int):=by omega
  have hk0:(0:Int)<=(k:Int):=by omega
  have hk1:(k:Int)<=(j:Int):=by omega
  have hk2:(j:Int)<=(s.size:Int):=by omega
  by_cases h5:j<s.size
  ·have q1:(j:Int)<(s.size:Int):=by omega
   have HC:Hid (rest s j=s[j]::rest s (j+1)):=Zk s j h5;by_cases hb1:65<=s[j].toNat
   ·have b1:65<=(s[j].toNat:Int):=by omega
    by_cases H0:s[j].toNat<=90
    ·have b2:(s[j].toNat:Int)<=90:=by omega
     have HW:Hid (isW s[j]=true):=isW_of.2 (by omega)
     have h3:Hid ((rest s k).takeWhile isW=(rest s k).take (j+1-k)++(rest s (j+1)).takeWhile isW):=by
      show _=_;rw[HT.out,HC.out,(Qa0 HW.out).1,UW s k j h1 h5];simp
     have h4:Hid ((rest s k).dropWhile isW=(rest s (j+1)).dropWhile isW):=by show _=_;rw[HD.out,HC.out,(Qa0 HW.out).2]
     go_wp2_with fail
     refine d (by kernel_rfl) (by kernel_rfl) ?_;try simp only[z]
     repeat (go_big_quiet_step (fail))
     refine A ?_;intro _ hw';obtain⟨nq,h0⟩:=hw';subst h0;go_wp2_with fail
     have hn:Rs ((wr.drewN nq).setCell ⟨r,1,none⟩ (f g ((j:Int)+1))) r s (j+1) bad v:=by
      have h9:=(HR.out.draws nq).at (j+1) (by omega);rw[show(((j+1:Nat):Int))=(j:Int)+1 by omega]at h9;exact h9
     refine⟨⟨j+1,by omega,hn,h3.out,h4.out,Qs HG.out (Qs (Qv _ _ nq) (Ze _ _ _ _))⟩,?_⟩;rw[hn.atOf,HA.out];omega
    ·have b2: ¬(s[j].toNat:Int)<=90:=by omega
     have d2:decide ((s[j].toNat:Int)<=90)=false:=by simpa using b2
     have b3:48<=(s[j].toNat:Int):=by omega
     have b4: ¬(s[j].toNat:Int)<=57:=by omega
     have d4:decide ((s[j].toNat:Int)<=57)=false:=by simpa using b4
     have b5: ¬(s[j].toNat:Int)=36:=by omega
     have b6:((s[j].toNat:Int)==36)=false:=by simpa using b5
     have HW:Hid (isW s[j]=false):=by
      show isW s[j]=false;cases hq:isW s[j]
      ·rfl
      ·have:=isW_of.1 hq;omega
     have HF:Hid (s.extract k j=⟨((rest s k).takeWhile isW).toArray⟩):=by
      show _=_;rw[HT.out,HC.out,(Qa1 HW.out).1,E,Jj s k j h1]
     have h2:Hid ((rest s k).dropWhile isW=rest s j):=by show _=_;rw[HD.out,HC.out,(Qa1 HW.out).2]
     go_wp2_with fail
     refine d (by kernel_rfl) (by kernel_rfl) ?_;try simp only[z]
     repeat (go_big_quiet_step (fail))
     refine A ?_;intro _ hw';obtain⟨nq,h0⟩:=hw';subst h0;go_wp2_with fail
     go_quiet (fail)
     go_wp2_with fail
     go_ret;exact⟨by rw[<-HF.out];rfl,j,(HR.out.draws _).draws _,h2.out.symm,Qs HG.out (Qs (Qv _ _ _) (Qv _ _ _))⟩
   ·have b1: ¬65<=(s[j].toNat:Int):=by omega
    have d1:decide (65<=(s[j].toNat:Int))=false:=by simpa using b1
    by_cases H0:48<=s[j].toNat
    ·have b2:48<=(s[j].toNat:Int):=by omega
     by_cases h8:s[j].toNat<=57
     ·have b3:(s[j].toNat:Int)<=57:=by omega
      have HW:Hid (isW s[j]=true):=isW_of.2 (by omega)
      have h3:Hid ((rest s k).takeWhile isW=(rest s k).take (j+1-k)++(rest s (j+1)).takeWhile isW):=by
       show _=_;rw[HT.out,HC.out,(Qa0 HW.out).1,UW s k j h1 h5];simp
      have h4:Hid ((rest s k).dropWhile isW=(rest s (j+1)).dropWhile isW):=by show _=_;rw[HD.out,HC.out,(Qa0 HW.out).2]
      go_wp2_with fail
      refine d (by kernel_rfl) (by kernel_rfl) ?_;try simp only[z]
      repeat (go_big_quiet_step (fail))
      refine A ?_;intro _ hw';obtain⟨nq,h0⟩:=hw';subst h0;go_wp2_with fail
      have hn:Rs ((wr.drewN nq).setCell ⟨r,1,none⟩ (f g ((j:Int)+1))) r s (j+1) bad v:=by
       have h9:=(HR.out.draws nq).at (j+1) (by omega);rw[show(((j+1:Nat):Int))=(j:Int)+1 by omega]at h9;exact h9
      refine⟨⟨j+1,by omega,hn,h3.out,h4.out,Qs HG.out (Qs (Qv _ _ nq) (Ze _ _ _ _))⟩,?_⟩;rw[hn.atOf,HA.out];omega
     ·have b3: ¬(s[j].toNat:Int)<=57:=by omega
      have d3:decide ((s[j].toNat:Int)<=57)=false:=by simpa using b3
      have b5: ¬(s[j].toNat:Int)=36:=by omega
      have b6:((s[j].toNat:Int)==36)=false:=by simpa using b5
      have HW:Hid (isW s[j]=false):=by
       show isW s[j]=false;cases hq:isW s[j]
       ·rfl
       ·have:=isW_of.1 hq;omega
      have HF:Hid (s.extract k j=⟨((rest s k).takeWhile isW).toArray⟩):=by
       show _=_;rw[HT.out,HC.out,(Qa1 HW.out).1,E,Jj s k j h1]
      have h2:Hid ((rest s k).dropWhile isW=rest s j):=by show _=_;rw[HD.out,HC.out,(Qa1 HW.out).2]
      go_wp2_with fail
      refine d (by kernel_rfl) (by kernel_rfl) ?_;try simp only[z]
      repeat (go_big_quiet_step (fail))
      refine A ?_;intro _ hw';obtain⟨nq,h0⟩:=hw';subst h0;go_wp2_with fail
      go_quiet (fail)
      go_wp2_with fail
      go_ret;exact⟨by rw[<-HF.out];rfl,j,(HR.out.draws _).draws _,h2.out.symm,Qs HG.out (Qs (Qv _ _ _) (Qv _ _ _))⟩
    ·have b2: ¬48<=(s[j].toNat:Int):=by omega
     have d2:decide (48<=(s[j].toNat:Int))=false:=by simpa using b2
     by_cases h8:s[j].toNat=36
     ·have b3:(s[j].toNat:Int)=36:=by omega
      have HW:Hid (isW s[j]=true):=isW_of.2 (by omega)
      have h3:Hid ((rest s k).takeWhile isW=(rest s k).take (j+1-k)++(rest s (j+1)).takeWhile isW):=by
       show _=_;rw[HT.out,HC.out,(Qa0 HW.out).1,UW s k j h1 h5];simp
      have h4:Hid ((rest s k).dropWhile isW=(rest s (j+1)).dropWhile isW):=by show _=_;rw[HD.out,HC.out,(Qa0 HW.out).2]
      go_wp2_with fail
      refine d (by kernel_rfl) (by kernel_rfl) ?_;try simp only[z]
      repeat (go_big_quiet_step (fail))
      refine A ?_;intro _ hw';obtain⟨nq,h0⟩:=hw';subst h0;go_wp2_with fail
      have hn:Rs ((wr.drewN nq).setCell ⟨r,1,none⟩ (f g ((j:Int)+1))) r s (j+1) bad v:=by
       have h9:=(HR.out.draws nq).at (j+1) (by omega);rw[show(((j+1:Nat):Int))=(j:Int)+1 by omega]at h9;exact h9
      refine⟨⟨j+1,by omega,hn,h3.out,h4.out,Qs HG.out (Qs (Qv _ _ nq) (Ze _ _ _ _))⟩,?_⟩;rw[hn.atOf,HA.out];omega
     ·have b5: ¬(s[j].toNat:Int)=36:=by omega
      have b6:((s[j].toNat:Int)==36)=false:=by simpa using b5
      have HW:Hid (isW s[j]=false):=by
       show isW s[j]=false;cases hq:isW s[j]
       ·rfl
       ·have:=isW_of.1 hq;omega
      have HF:Hid (s.extract k j=⟨((rest s k).takeWhile isW).toArray⟩):=by
       show _=_;rw[HT.out,HC.out,(Qa1 HW.out).1,E,Jj s k j h1]
      have h2:Hid ((rest s k).dropWhile isW=rest s j):=by show _=_;rw[HD.out,HC.out,(Qa1 HW.out).2]
      go_wp2_with fail
      refine d (by kernel_rfl) (by kernel_rfl) ?_;try simp only[z]
      repeat (go_big_quiet_step (fail))
      refine A ?_;intro _ hw';obtain⟨nq,h0⟩:=hw';subst h0;go_wp2_with fail
      go_quiet (fail)
      go_wp2_with fail
      go_ret;exact⟨by rw[<-HF.out];rfl,j,(HR.out.draws _).draws _,h2.out.symm,Qs HG.out (Qs (Qv _ _ _) (Qv _ _ _))⟩
  ·have q1: ¬(j:Int)<(s.size:Int):=by omega
   have d1:decide ((j:Int)<(s.size:Int))=false:=by simpa using q1
   have HZ:Hid (rest s j= []):=XK s j (by omega)
   have HF:Hid (s.extract k j=⟨((rest s k).takeWhile isW).toArray⟩):=by
    show _=_;rw[HT.out,HZ.out,Jj s k j h1];simp
   have h2:Hid ((rest s k).dropWhile isW=rest s j):=by show _=_;rw[HD.out,HZ.out];rfl
   go_wp2_with fail
   refine d (by kernel_rfl) (by kernel_rfl) ?_;try simp only[z]
   repeat (go_big_quiet_step (fail))
   refine A ?_;intro _ hw';obtain⟨nq,h0⟩:=hw';subst h0;go_wp2_with fail
   go_quiet (fail)
   go_wp2_with fail
   go_ret;exact⟨by rw[<-HF.out];rfl,j,(HR.out.draws _).draws _,h2.out.symm,Qs HG.out (Qs (Qv _ _ _) (Qv _ _ _))⟩
def Kv(t:Nat):Int:= [7,9,11,6,8,10,1,2,3,4,5].getD t 0
theorem Quc(t:Nat)(h:t<11):1<=Kv t/\Kv t<=11:=by
 have ht:t=0\/t=1\/t=2\/t=3\/t=4\/t=5\/t=6\/t=7\/t=8\/t=9\/t=10:=by omega
 rcases ht with rfl | rfl | rfl | rfl | rfl | rfl | rfl | rfl | rfl | rfl | rfl<;>decide
theorem Qld{lv:Int}(h1:1<=lv)(h4:lv<=4)(h: ∀u,u<11->lvl (Kv u)=lv->isP (Kv u) l=false):Qrr lv l=0:=by
 have hn:lv=1\/lv=2\/lv=3\/lv=4:=by omega
 rcases hn with rfl | rfl | rfl | rfl
 ·have e0:isP 7 l=false:=h 0 (by omega) (by decide);have e1:isP 9 l=false:=h 1 (by omega) (by decide);have e2:isP 11 l=false:=h 2 (by omega) (by decide);have e3:isP 6 l=false:=h 3 (by omega) (by decide);have e4:isP 8 l=false:=h 4 (by omega) (by decide);have e5:isP 10 l=false:=h 5 (by omega) (by decide);show Ms l=0
  unfold Ms;rw[e0,e1,e2,e3,e4,e5];rfl
 ·have h0:isP 5 l=false:=h 10 (by omega) (by decide);show Qn7 l=0;unfold Qn7;rw[h0];rfl
 ·have e6:isP 1 l=false:=h 6 (by omega) (by decide);have e7:isP 2 l=false:=h 7 (by omega) (by decide);show Qg3 l=0;unfold Qg3;rw[e6,e7];rfl
 ·have e8:isP 3 l=false:=h 8 (by omega) (by decide);have e9:isP 4 l=false:=h 9 (by omega) (by decide);show Qg2 l=0;unfold Qg2;rw[e8,e9];rfl
theorem Qin{lv:Int}{t:Nat}(ht:t<11)(hl:lvl (Kv t)=lv)(hp:isP (Kv t) l=true)(h: ∀u,u<t->lvl (Kv u)=lv->isP (Kv u) l=false):Qrr lv l=Kv t:=by
 have hq:t=0\/t=1\/t=2\/t=3\/t=4\/t=5\/t=6\/t=7\/t=8\/t=9\/t=10:=by omega
 subst hl;rcases hq with rfl | rfl | rfl | rfl | rfl | rfl | rfl | rfl | rfl | rfl | rfl
 ·have e9:isP 7 l=true:=hp;show Ms l=7;unfold Ms;rw[e9];rfl
 ·have e0:isP 7 l=false:=h 0 (by omega) (by decide);have e9:isP 9 l=true:=hp;show Ms l=9;unfold Ms;rw[e0,e9];rfl
 ·have e0:isP 7 l=false:=h 0 (by omega) (by decide);have e1:isP 9 l=false:=h 1 (by omega) (by decide);have e9:isP 11 l=true:=hp;show Ms l=11;unfold Ms;rw[e0,e1,e9];rfl
 ·have e0:isP 7 l=false:=h 0 (by omega) (by decide);have e1:isP 9 l=false:=h 1 (by omega) (by decide);have e2:isP 11 l=false:=h 2 (by omega) (by decide);have e9:isP 6 l=true:=hp;show Ms l=6;unfold Ms;rw[e0,e1,e2,e9]
  rfl
 ·have e0:isP 7 l=false:=h 0 (by omega) (by decide);have e1:isP 9 l=false:=h 1 (by omega) (by decide);have e2:isP 11 l=false:=h 2 (by omega) (by decide);have e3:isP 6 l=false:=h 3 (by omega) (by decide);have e9:isP 8 l=true:=hp;show Ms l=8;unfold Ms
  rw[e0,e1,e2,e3,e9];rfl
 ·have e0:isP 7 l=false:=h 0 (by omega) (by decide);have e1:isP 9 l=false:=h 1 (by omega) (by decide);have e2:isP 11 l=false:=h 2 (by omega) (by decide);have e3:isP 6 l=false:=h 3 (by omega) (by decide);have e4:isP 8 l=false:=h 4 (by omega) (by decide);have e9:isP 10 l=true:=hp;show Ms l=10
  unfold Ms;rw[e0,e1,e2,e3,e4,e9];rfl
 ·have e9:isP 1 l=true:=hp;show Qg3 l=1;unfold Qg3;rw[e9];rfl
 ·have e6:isP 1 l=false:=h 6 (by omega) (by decide);have e9:isP 2 l=true:=hp;show Qg3 l=2;unfold Qg3;rw[e6,e9];rfl
 ·have e9:isP 3 l=true:=hp;show Qg2 l=3;unfold Qg2;rw[e9];rfl
 ·have e8:isP 3 l=false:=h 8 (by omega) (by decide);have e9:isP 4 l=true:=hp;show Qg2 l=4;unfold Qg2;rw[e8,e9];rfl
 ·have e9:isP 5 l=true:=hp;show Qn7 l=5;unfold Qn7;rw[e9];rfl
def opB(bad:Bool)(lv:Int)(l:List UInt8):Int:=if bad then 0 else Qrr lv (sb l)
theorem Qus{l':List UInt8}(h:sb l=sb l'):isB bad wd l=isB bad wd l':=by unfold isB;rw[h]
def OrdAt(W:m)(b:Nat):Prop:=b<W.heap.size/\ ∀t,t<11->W.cell? ⟨b,t,none⟩=some (f g (Kv t))
theorem OrdAt.below{b:Nat}(h:OrdAt W b)(hb:Below W.heap.size W W'):OrdAt W' b:=⟨Nat.lt_of_lt_of_le h.1 hb.size,fun t ht=>(hb.cell (p:=⟨b,t,none⟩) h.1).trans (h.2 t ht)⟩
theorem OrdAt.grown{b:Nat}(h:OrdAt W b)(hg:W.grownBy W' (some r))(hr:b≠r):OrdAt W' b:=by
 refine⟨Nat.lt_of_lt_of_le h.1 hg.size,fun t ht=> ?_⟩;exact hg.cell (h.2 t ht) (fun e=>hr (by cases e;rfl))
theorem OrdAt.new(W:m)(t:TypeId):OrdAt (W.alloc (M #[f g 7,f g 9,f g 11,f g 6,f g 8,f g 10,f g 1,f g 2,f g 3,f g 4,f g 5] t)) W.heap.size:=by
 refine⟨by simp,fun u hu=> ?_⟩;have hq:u=0\/u=1\/u=2\/u=3\/u=4\/u=5\/u=6\/u=7\/u=8\/u=9\/u=10:=by omega
 rcases hq with rfl | rfl | rfl | rfl | rfl | rfl | rfl | rfl | rfl | rfl | rfl<;>simp[Kv]
theorem Qc0{w1:m}{row:Option Nat}(hb:Below W.heap.size W w1):W.grownBy w1 row:=⟨hb.os,hb.tape,hb.output,hb.size,fun q hq _=>hb.block q hq⟩
theorem Qss(r:Nat)(s:ByteArray)(k:Nat)(bad:Bool)(v:D)(lv:Int)(W:m)(h:Rs W r s k bad v)(hs:s.size<=1000)(h1:1<=lv)(h4:lv<=4):Calls prog 165 #[.pointer (some ⟨r,0,none⟩),f g lv] W fun e w'=>
  e= G (f g (opB bad lv (rest s k)))/\ ∃j,Rs w' r s j bad v/\(opB bad lv (rest s k)=0->sb (rest s j)=sb (rest s k))/\(opB bad lv (rest s k)≠0->rest s j=(sb (rest s k)).drop (sgT (opB bad lv (rest s k))).length)/\W.grownBy w' (some r):=by
 have HR:Hid (Rs W r s k bad v):=h;have H9:Hid (r<W.heap.size):=h.lt;clear h;go_enter func165,ntmps165;go_wp2_with fail
 go_loopw [6] (fun i wr=> ∃t j:Nat,t<=11/\i= f g t/\Rs wr r s j bad v/\sb (rest s j)=sb (rest s k)/\(∀u,u<t->lvl (Kv u)=lv->isB bad (bs (sgT (Kv u))) (rest s k)=false)/\OrdAt wr W.heap.size/\W.grownBy wr (some r)) (fun i _=>11-(intOf i).toNat)
 case atStart=>exact⟨0,k,Nat.zero_le _,rfl,HR.out.below (by go_grown),rfl,fun u hu=>by omega,OrdAt.new _ _,Qc0 (by go_grown)⟩
 case round=>
  clear HR;obtain⟨t,j,ht,rfl,hr,H0,H1,h0,hg⟩:=hrel;have HR:Hid (Rs wr r s j bad v):=hr;have HS:Hid (sb (rest s j)=sb (rest s k)):=H0;have HN:Hid (∀u,u<t->lvl (Kv u)=lv->isB bad (bs (sgT (Kv u))) (rest s k)=false):=H1;have HO:Hid (OrdAt wr W.heap.size):=h0;have HG:Hid (W.grownBy wr (some r)):=hg
  clear hr H0 H1 hg;have q0:(0:Int)<=(t:Int):=by omega
  by_cases h6:t<11
  ·have q1:(t:Int)<11:=by omega
   have c0:=h0.2 t h6;obtain⟨o1,o2⟩:=Quc t h6;have hlb:=h0.1;clear h0;obtain⟨o,h3⟩: ∃o,Hid (Kv t=o):=⟨_,rfl⟩;rw[h3.out]at c0 o1 o2;by_cases hl:lvl o=lv
   ·have HL:Hid (lvl o=lv):=hl;clear hl;go_wp2_with fail
    refine(Vd o _ o1 o2).mono ?_;rintro e w1 ⟨rfl,hw⟩;subst w1;rw[HL.out];go_wp2_with fail
    refine(Jp o _ o1 o2).mono ?_;rintro e w1 ⟨rfl,hb⟩;have H7:=hd (HR.out.below hb);have H8:=hd (HO.out.below hb);have g0:Hid (W.grownBy w1 (some r)):=Qs HG.out (Qc0 hb);clear hb c0;have HZ:Hid ((bs (sgT o)).size<=10):=by show(sgT o).length<=10;have:=Hm o;omega
    go_wp2_with fail
    refine(Yq r s (bs (sgT o)) j bad v _ H7.out hs HZ.out).mono ?_;rintro e w2 ⟨rfl,j2,hr2,hre2,hg2⟩;have H2:Hid (Rs w2 r s j2 bad v):=hr2;have H5:Hid (rest s j2=isR bad (bs (sgT o)) (rest s j)):=hre2;have H3:Hid (OrdAt w2 W.heap.size):=H8.out.grown hg2 (by have:=H9.out;omega);have H4:Hid (W.grownBy w2 (some r)):=Qs g0.out hg2;have H6:Hid (isB bad (bs (sgT o)) (rest s j)=isB bad (bs (sgT o)) (rest s k)):=Qus HS.out
    clear hr2 hre2 hg2;have c2:=H3.out.2 t h6;rw[h3.out]at c2;cases hB:isB bad (bs (sgT o)) (rest s j)
    ·have HB:Hid (isB bad (bs (sgT o)) (rest s j)=false):=hB;clear hB;go_wp2_with fail
     go_roundw
     case rel=>
      refine⟨t+1,j2,by omega,by go_num,H2.out,?_,fun u hu hlu=> ?_,H3.out,H4.out⟩
      ·rw[H5.out,Ua HB.out,Zj];exact HS.out
      ·by_cases h7:u=t
       ·subst h7;rw[h3.out,<-H6.out];exact HB.out
       ·exact HN.out u (by omega) hlu
     case measure=>simp[intOf];omega
    ·have HB:Hid (isB bad (bs (sgT o)) (rest s j)=true):=hB
     have h2:bad=false:=by
      cases bad
      ·rfl
      ·exact absurd hB (by unfold isB;simp)
     have HF:Hid (opB bad lv (rest s k)=o):=by
      show _=_;unfold opB;rw[h2]
      have hp:isP (Kv t) (sb (rest s k))=true:=by
       have h9:=HB.out;rw[H6.out,h2]at h9;rw[h3.out];have h5:(!false&&(sgT o).isPrefixOf (sb (rest s k)))=true:=h9;unfold isP;simpa using h5
      have h8: ∀u,u<t->lvl (Kv u)=lv->isP (Kv u) (sb (rest s k))=false:=fun u hu hlu=>by
       have h9:=HN.out u hu hlu;rw[h2]at h9;have h5:(!false&&(sgT (Kv u)).isPrefixOf (sb (rest s k)))=false:=h9;unfold isP;simpa using h5
      have:=Qin h6 (by rw[h3.out];exact HL.out) hp h8;rw[h3.out]at this;exact this
     clear hB h2;go_wp2_with fail
     go_ret;refine⟨by rw[HF.out];rfl,j2,H2.out,fun e=> ?_,fun _=> ?_,H4.out⟩
     ·rw[HF.out]at e;omega
     ·rw[HF.out,H5.out,NT HB.out,HS.out];rfl
   ·have hl2:(lvl o==lv)=false:=by simpa using hl
    have HL:Hid (¬lvl o=lv):=hl;clear hl;go_wp2_with fail
    refine(Vd o _ o1 o2).mono ?_;rintro e w1 ⟨rfl,hw⟩;subst w1;go_wp2_with fail
    go_roundw
    case rel=>
     refine⟨t+1,j,by omega,by go_num,HR.out,HS.out,fun u hu hlu=> ?_,HO.out,HG.out⟩;by_cases h7:u=t
     ·subst h7;rw[h3.out]at hlu;exact absurd hlu HL.out
     ·exact HN.out u (by omega) hlu
    case measure=>simp[intOf];omega
  ·have q1: ¬(t:Int)<11:=by omega
   obtain rfl:t=11:=by omega
   clear h0
   have HF:Hid (opB bad lv (rest s k)=0):=by
    show _=_;unfold opB;cases bad
    ·refine Qld h1 h4 (fun u hu hlu=> ?_);have h5:(!false&&(sgT (Kv u)).isPrefixOf (sb (rest s k)))=false:=HN.out u hu hlu;unfold isP;simpa using h5
    ·rfl
   go_wp2_with fail
   go_ret;exact⟨by rw[HF.out];rfl,j,HR.out,fun _=>HS.out,fun e=>absurd HF.out e,HG.out⟩
end Go.Proofs.YtomadadmakdkgaaGreatDoor
