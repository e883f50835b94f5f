import Derived.Test.YtbdhinckiccniaaGreatDoorGal
set_option linter.unusedSimpArgs false
set_option linter.unusedVariables false
set_option maxHeartbeats 8000000
set_option maxRecDepth 100000
namespace Go.Proofs.YtbdhinckiccniaaGreatDoor
open Go.RowKit
def Mp (o:List UInt8) (q:Option (List UInt8 × List UInt8)):Option (List UInt8 × List UInt8):=q.map fun y=>(o++y.1,y.2)
theorem Qka (q:Option (List UInt8 × List UInt8)):Mp [] q=q:=by
 cases q<;>rfl
theorem Qbv (o b:List UInt8) (q:Option (List UInt8 × List UInt8)):Mp o (Mp b q)=Mp (o++b) q:=by
 cases q with
 | none=>rfl
 | some y=>simp [Mp]
theorem Mo {b:UInt8} {t:List UInt8} (h:b≠34):Zh (b::t)=Mp [b] (Zh t):=by
 cases t with
 | nil=>rw [Zh];simp [h,Mp,Zh]
 | cons c u=>
  rw [Zh];simp only [h,if_false];cases Zh (c::u)<;>rfl
theorem Qbu (u:List UInt8):Zh (34::34::u)=Mp [34] (Zh u):=by
 rw [Zh];simp only [if_true];cases Zh u<;>rfl
theorem Dk {u:List UInt8} (h:u.head?≠some 34):Zh (34::u)=some ([],u):=by
 cases u with
 | nil=>rw [Zh];simp
 | cons c v=>
  have hc:c≠34:=fun e=>h (by rw [e];rfl);rw [Zh];simp [hc]
theorem RdS.draws {Z:Nat→Prop} {W:World} {r:Nat} {s:ByteArray} {k:Nat} {bad:Bool} {v:Value} {B:Nat} {out:List FN} (h:RdS Z W r s k bad v B out) (n:Nat):RdS Z (W.drewN n) r s k bad v B out:=h.gb (h.rs.draws n) (Qq _ _ n)
theorem RdS.at' {Z:Nat→Prop} {W:World} {r:Nat} {s:ByteArray} {k:Nat} {bad:Bool} {v:Value} {B:Nat} {out:List FN} (h:RdS Z W r s k bad v B out) (j:Nat) (z:Int) (hj:j≤s.size) (hz:z=(j:Int)):RdS Z (W.setCell ⟨r,1,none⟩ (.int .i64 z)) r s j bad v B out:=by
 subst hz;exact h.gb (h.rs.at j hj) (QQ _ _ _ _)
theorem Qng {b:UInt8} (h:(b.toNat:Int)=34):b=34:=by
 apply UInt8.toNat_inj.1;have e9:b.toNat=34:=by omega
 rw [e9];rfl
theorem Yc (W:World) (B:Nat):W.ownsRow B 2 1 (.slice none 0 0) 0 []:=⟨rfl,Or.inl ⟨rfl,rfl⟩⟩
theorem Qve (s:ByteArray) (j:Nat) (h:j<s.size):s.extract j (j+1)=bs [s[j]]∧(s.extract j (j+1)).size=1:=by
 have e:=Qgk s j h;exact⟨e,by rw [e];rfl⟩
theorem Qgv (o:ByteArray) (b:UInt8):(o++bs [b]).data.toList=o.data.toList++ [b]:=by
 rw [Qtu];rfl
theorem Qhm {s:ByteArray} {j:Nat} (h: ¬(j<s.size∧ ∃h:j<s.size,s[j]=34)):(rest s j).head?≠some 34:=by
 by_cases hj:j<s.size
 ·rw [QU s j hj];intro e;simp only [List.head?_cons,Option.some.injEq]at e;exact h ⟨hj,hj,e⟩
 ·rw [YS s j (by omega)];intro e;cases e
theorem Qnj {Z:Nat→Prop} {W:World} {r:Nat} {s:ByteArray} {k:Nat} {bad:Bool} {v:Value} {B:Nat} {out:List FN} {j:Nat} {z:Int} (hz:z=(j:Int)) (h:RdS Z W r s k bad v B out):atOf (W.setCell ⟨r,1,none⟩ (.int .i64 z)) r=j:=by
 subst hz;unfold atOf;rw [World.cell?_setCell_same _ _ _ h.rs.2.1.2.1];simp
theorem Qoq {Z:Nat→Prop} (r:Nat) (s:ByteArray) (k:Nat) (v:Value) (B:Nat) (out:List FN) (W:World) (h:RdS Z W r s k false v B out) (hs:s.size≤1000) (hl:out.length≤30000):
  Calls Tryz.prog 268 #[.pointer (some ⟨r,0,none⟩)] W fun e w'=> ∃x k' bad' v' out',e= .returned (.int .i64 x)∧RdS Z w' r s k' bad' v' B out'∧NB W v v'∧Fr r v W w'∧
   (∀t l1,Zh (rest s k)=some (t,l1)→rest s k'=l1∧x=(out.length:Int)∧out'=out++ [RF.cst 2 0 t]∧bad'= !(decide (out.length+1≤60)&&QN (RF.cst 2 0 t)))∧(Zh (rest s k)=none→bad'=true∧out'=out):=by
 have HS:Hid (RdS Z W r s k false v B out):=h;clear h;go_enter Tryz.func268,Tryz.ntmps268;go_wp2_with fail
 go_loopw [3] (fun v3 wr=> ∃(j:Nat) (o:ByteArray),v3= .string o∧o.size≤j∧RdS Z wr r s j false v B out∧Zh (rest s k)=Mp o.data.toList (Zh (rest s j))∧Fr r v W wr) (fun _ wr=>s.size-atOf wr r)
 case atStart=>exact⟨k,⟨#[]⟩,rfl,Nat.zero_le _,HS.out,(Qka _).symm,Fr.refl _ _ _⟩
 case round=>
  clear HS;obtain⟨j,o,rfl,ho,hr,hq,hf⟩:=hrel;have HS:Hid (RdS Z wr r s j false v B out):=hr;have HQ:Hid (Zh (rest s k)=Mp o.data.toList (Zh (rest s j))):=hq;have HF:Hid (Fr r v W wr):=hf;have HA:Hid (atOf wr r=j):=hr.rs.atOf;obtain⟨hj,⟨c0,c1,c2,c3⟩,f1,f2,f3⟩:=hr.rs
  clear hr hq hf;have q0:(0:Int)≤(j:Int):=by omega
  have z1: ¬9223372036854775807<o.size+1:=by omega
  by_cases hlt:j<s.size
  ·have q1:(j:Int)<(s.size:Int):=by omega
   have HC:Hid (rest s j=s[j]::rest s (j+1)):=QU s j hlt;by_cases hb:s[j]=34
   ·have hb1:(s[j].toNat:Int)=34:=by rw [hb];rfl
    by_cases h2: ∃h:j+1<s.size,s[j+1]=34
    ·obtain⟨hlt2,hb2⟩:=h2;have hb3:(s[j+1].toNat:Int)=34:=by rw [hb2];rfl
     have q2:(j:Int)+1<(s.size:Int):=by omega
     have q2': ¬(s.size:Int)≤(j:Int)+1:=by omega
     have q2d:decide ((s.size:Int)≤(j:Int)+1)=false:=by simpa using q2'
     have q3:(0:Int)≤(j:Int)+1:=by omega
     have q4:((j:Int)+1).toNat=j+1:=by omega
     have HN:Hid (Zh (rest s k)=Mp (o++(⟨#[34]⟩:ByteArray)).data.toList (Zh (rest s (j+2)))):=by
      show _=_;rw [HQ.out,HC.out,QU s (j+1) hlt2,hb,hb2,Qbu,Qbv,show(⟨#[34]⟩:ByteArray)=bs [34]from rfl,Qgv]
     clear hb hb2;go_wp2_with fail
     go_quiet (fail)
     go_wp2_with fail
     go_quiet (fail)
     go_wp2_with fail
     go_quiet (fail)
     go_wp2_with fail
     refine⟨⟨j+2,_,rfl,?_,(((HS.out.draws _).at' (j+1) _ (by omega) ?_).draws _).at' (j+2) _ (by omega) ?_,HN.out,HF.out.trans (NB.refl _ _) (Fr.gb (Qm (Qq _ _ _) (Qm (QQ _ _ _ _) (Qm (Qq _ _ _) (QQ _ _ _ _)))))⟩,?_⟩
     ·rw [ByteArray.size_append,show(⟨#[34]⟩:ByteArray).size=1 from rfl];omega
     ·omega
     ·omega
     ·rw [Qnj (by omega:(j:Int)+1+1=((j+2:Nat):Int)) ((((HS.out.draws _).at' (j+1) _ (by omega) (by omega)).draws _)),HA.out];omega
    ·have HN:Hid (Zh (rest s k)=some (o.data.toList,rest s (j+1))):=by
      show _=_;rw [HQ.out,HC.out,hb,Dk (Qhm (fun e=>h2 e.2))];simp [Mp]
     have HOZ:Hid ((RF.cst 2 0 o.data.toList).cs.size≤maxLen):=by show o.size≤maxLen;unfold maxLen;omega
     have q3:(0:Int)≤(j:Int)+1:=by omega
     have q4:((j:Int)+1).toNat=j+1:=by omega
     clear hb;by_cases hlt2:j+1<s.size
     ·have hb2: ¬(s[j+1].toNat:Int)=34:=fun e=>h2 ⟨hlt2,Qng e⟩;have hb3:((s[j+1].toNat:Int) !=34)=true:=by simpa using hb2
      have q2:(j:Int)+1<(s.size:Int):=by omega
      have q2': ¬(s.size:Int)≤(j:Int)+1:=by omega
      have q2d:decide ((s.size:Int)≤(j:Int)+1)=false:=by simpa using q2'
      clear h2;go_wp2_with fail
      go_quiet (fail)
      go_wp2_with fail
      go_quiet (fail)
      go_wp2_with fail
      go_quiet (fail)
      go_wp2_with fail
      refine(JG (RF.cst 2 0 o.data.toList) none 0 r s (j+1) false v B out _ ((((HS.out.draws _).at' (j+1) _ (by omega) (by omega)).draws _)) (Yc _ _) (fun _ h=>by cases h) HOZ.out hl).mono ?_;rintro e w2 ⟨v',rfl,hs2,hnb,hfr⟩;have HS2:Hid (RdS Z w2 r s (j+1) (false || !(decide (out.length+1≤60)&&QN (RF.cst 2 0 o.data.toList))) v' B (out++ [RF.cst 2 0 o.data.toList])):=hs2;have HF2:Hid (Fr r v W w2):=HF.out.trans (NB.refl _ _) ((Fr.gb (Qm (Qq _ _ _) (Qm (QQ _ _ _ _) (Qq _ _ _)))).trans (NB.refl _ _) hfr)
      have HN2:Hid (NB W v v'):=fun q hq=>by
       rcases hnb q hq with e | e
       ·exact Or.inl e
       ·exact Or.inr (Nat.le_trans HF.out.2.2.2.1 (by simpa using e))
      clear hs2 hnb hfr;go_wp2_with fail
      go_ret;exact⟨_,_,_,_,_,rfl,HS2.out,HN2.out,HF2.out,fun t l1 e=>(by rw [HN.out]at e;cases e;exact⟨rfl,rfl,rfl,by rw [Bool.false_or]⟩),fun e=>(by rw [HN.out]at e;cases e)⟩
     ·have q2:(s.size:Int)≤(j:Int)+1:=by omega
      clear h2;go_wp2_with fail
      go_quiet (fail)
      go_wp2_with fail
      go_quiet (fail)
      go_wp2_with fail
      go_quiet (fail)
      go_wp2_with fail
      refine(JG (RF.cst 2 0 o.data.toList) none 0 r s (j+1) false v B out _ ((((HS.out.draws _).at' (j+1) _ (by omega) (by omega)).draws _)) (Yc _ _) (fun _ h=>by cases h) HOZ.out hl).mono ?_;rintro e w2 ⟨v',rfl,hs2,hnb,hfr⟩;have HS2:Hid (RdS Z w2 r s (j+1) (false || !(decide (out.length+1≤60)&&QN (RF.cst 2 0 o.data.toList))) v' B (out++ [RF.cst 2 0 o.data.toList])):=hs2;have HF2:Hid (Fr r v W w2):=HF.out.trans (NB.refl _ _) ((Fr.gb (Qm (Qq _ _ _) (Qm (QQ _ _ _ _) (Qq _ _ _)))).trans (NB.refl _ _) hfr)
      have HN2:Hid (NB W v v'):=fun q hq=>by
       rcases hnb q hq with e | e
       ·exact Or.inl e
       ·exact Or.inr (Nat.le_trans HF.out.2.2.2.1 (by simpa using e))
      clear hs2 hnb hfr;go_wp2_with fail
      go_ret;exact⟨_,_,_,_,_,rfl,HS2.out,HN2.out,HF2.out,fun t l1 e=>(by rw [HN.out]at e;cases e;exact⟨rfl,rfl,rfl,by rw [Bool.false_or]⟩),fun e=>(by rw [HN.out]at e;cases e)⟩
   ·have hb1: ¬(s[j].toNat:Int)=34:=fun e=>hb (Qng e);have hb2:((s[j].toNat:Int) !=34)=true:=by simpa using hb1
    obtain⟨x1,x2⟩:=Qve s j hlt;have HX:Hid (s.extract j (j+1)=bs [s[j]]):=x1;have q2:(j:Int)+1≤(s.size:Int):=by omega
    have q3:(j:Int)≤(j:Int)+1:=by omega
    have q4:((j:Int)+1).toNat=j+1:=by omega
    have q5:(0:Int)≤(j:Int)+1:=by omega
    have hwr:IntKind.i64.wrap ((j:Int)+1)=(j:Int)+1:=by rw [IntKind.wrap_i64];omega
    have r1: ∀W,(Op.stringOp .add o (s.extract j (j+1))).run Tryz.prog W= .ok (.string (o++s.extract j (j+1))) W:=fun W=>run_string_add_sum W _ _ (by rw [x2];omega)
    have HN:Hid (Zh (rest s k)=Mp (o++s.extract j (j+1)).data.toList (Zh (rest s (j+1)))):=by
     show _=_;rw [HQ.out,HC.out,Mo hb,Qbv,HX.out,Qgv]
    clear hb x1;go_wp2_with fail
    go_quiet (fail)
    go_wp2_with fail
    go_quiet (fail)
    go_wp2_with fail
    go_quiet (fail)
    go_wp2_with fail
    refine⟨⟨j+1,_,rfl,?_,((HS.out.draws _)).at' (j+1) _ (by omega) ?_,HN.out,HF.out.trans (NB.refl _ _) (Fr.gb (Qm (Qq _ _ _) (QQ _ _ _ _)))⟩,?_⟩
    ·rw [ByteArray.size_append,x2];omega
    ·omega
    ·rw [Qnj (by omega:(j:Int)+1=((j+1:Nat):Int)) ((HS.out.draws _)),HA.out];omega
  ·have q1: ¬(j:Int)<(s.size:Int):=by omega
   have HN:Hid (Zh (rest s k)=none):=by show _=_;rw [HQ.out,YS s j (by omega)];rfl
   go_wp2_with fail
   go_quiet (fail)
   go_wp2_with fail
   go_ret;exact⟨0,j,true,v,out,rfl,(HS.out.draws _).bad,NB.refl _ _,HF.out.trans (NB.refl _ _) (Fr.gb (Qm (Qq _ _ _) (QQ _ _ _ _))),fun t l1 e=>(by rw [HN.out]at e;cases e),fun _=>⟨rfl,rfl⟩⟩
structure St (Z:Nat→Prop) (W:World) (v:Value) (r:Nat) (s:ByteArray) (B:Nat) (wr:World) (k:Nat) (bad:Bool) (v1:Value) (out:List FN):Prop where
 st:RdS Z wr r s k bad v1 B out
 nb:NB W v v1
 fr:Fr r v W wr
theorem St.start {Z:Nat→Prop} {W:World} {v:Value} {r:Nat} {s:ByteArray} {B k:Nat} {bad:Bool} {out:List FN} (h:RdS Z W r s k bad v B out):St Z W v r s B W k bad v out:=⟨h,NB.refl _ _,Fr.refl _ _ _⟩
theorem St.step {Z:Nat→Prop} {W w1 w2:World} {v v1 v2:Value} {r:Nat} {s:ByteArray} {B k k2:Nat} {bad bad2:Bool} {out out2:List FN} (h:St Z W v r s B w1 k bad v1 out) (h2:RdS Z w2 r s k2 bad2 v2 B out2) (hn:NB w1 v1 v2) (hf:Fr r v1 w1 w2):St Z W v r s B w2 k2 bad2 v2 out2:=
 ⟨h2,h.nb.trans h.fr.2.2.2.1 hn,h.fr.trans h.nb hf⟩
theorem St.gb {Z:Nat→Prop} {W w1 w2:World} {v v1:Value} {r:Nat} {s:ByteArray} {B k k2:Nat} {bad bad2:Bool} {out:List FN} (h:St Z W v r s B w1 k bad v1 out) (hr:Rs w2 r s k2 bad2 v1) (hg:w1.grownBy w2 (some r)):St Z W v r s B w2 k2 bad2 v1 out:=
 h.step (h.st.gb hr hg) (NB.refl _ _) (Fr.gb hg)
theorem St.bel {Z:Nat→Prop} {W w1 w2:World} {v v1:Value} {r:Nat} {s:ByteArray} {B k:Nat} {bad:Bool} {out:List FN} (h:St Z W v r s B w1 k bad v1 out) (hb:Below w1.heap.size w1 w2):St Z W v r s B w2 k bad v1 out:=
 h.step (h.st.bel hb) (NB.refl _ _) (Fr.bel hb)
theorem St.mad {Z:Nat→Prop} {W w1:World} {v v1:Value} {r:Nat} {s:ByteArray} {B k:Nat} {bad:Bool} {out:List FN} (h:St Z W v r s B w1 k bad v1 out):St Z W v r s B (w1.setCell ⟨r,2,none⟩ (.bool true)) k true v1 out:=
 h.step h.st.bad (NB.refl _ _) (Fr.gb (QQ _ _ _ _))
def Qcx (Z:Nat→Prop) (r:Nat) (s:ByteArray) (B:Nat) (m:Nat) (W:World) (v:Value) (res:Option (Int × List UInt8 × List FN)) (e:Ending) (w':World):Prop:=
 ∃x k' bad' v' out',e= .returned (.int .i64 x)∧St Z W v r s B w' k' bad' v' out'∧ZR res bad' x (rest s k') out'∧out'.length≤61+m
def QJ (s:ByteArray) (k:Nat):Nat:=(sb (rest s k)).length
theorem Yj (s:ByteArray) (k:Nat) (h:s.size≤1000):(sb (rest s k)).length≤1000∧(rest s k).length≤1000:=by
 have h1:=YD (rest s k);have h2:=Hj s k;omega
theorem Qrk {l:List UInt8} (h:pk l≠ []):(nx l).length<(sb l).length:=by
 have e:=Hh h;have hz:0<(pk l).length:=List.length_pos_iff.2 h;rw [e,List.length_append];omega
def EG (Z:Nat→Prop) (r:Nat) (s:ByteArray) (B m:Nat):Prop:= ∀(W:World) (k:Nat) (v:Value) (out:List FN) (lv:Int),RdS Z W r s k false v B out→good out=true→1≤lv→lv≤5→12*QJ s k+(8-lv).toNat≤m→
 Calls Tryz.prog 167 #[.pointer (some ⟨r,0,none⟩),.int .i64 lv] W (Qcx Z r s B m W v (PB RF 1 lv 0 [] (rest s k) out))
def Qrw (Z:Nat→Prop) (r:Nat) (s:ByteArray) (B m:Nat):Prop:= ∀(W:World) (k:Nat) (v:Value) (out:List FN),RdS Z W r s k false v B out→good out=true→12*QJ s k+2≤m→
 Calls Tryz.prog 215 #[.pointer (some ⟨r,0,none⟩)] W (Qcx Z r s B m W v (PB RF 3 0 0 [] (rest s k) out))
def Qek (Z:Nat→Prop) (r:Nat) (s:ByteArray) (B m:Nat):Prop:= ∀(W:World) (k:Nat) (v:Value) (out:List FN) (fn:Int),RdS Z W r s k false v B out→good out=true→1≤fn→fn≤10→12*QJ s k+9≤m→
 Calls Tryz.prog 270 #[.pointer (some ⟨r,0,none⟩),.int .i64 fn] W (Qcx Z r s B m W v (Zv (PB RF 6 0 0 [] (rest s k) out) (fun a l1 o1=>PB RF 5 fn 0 [a] l1 o1)))
def Qvm (Z:Nat→Prop) (r:Nat) (s:ByteArray) (B:Nat) (m:Nat) (W:World) (v:Value) (res:Option (Int × List UInt8 × List FN)) (e:Ending) (w':World):Prop:=
 ∃x k' bad' v' out',e= .returned (.int .i64 x)∧St Z W v r s B w' k' bad' v' out'∧(ZR res bad' x (rest s k') out'∨(bad'=false∧pk (rest s k')= [58]∧res=none))∧out'.length≤61+m∧(bad'=false→good out'=true)
def Qr0 (Z:Nat→Prop) (r:Nat) (s:ByteArray) (B m:Nat):Prop:= ∀(W:World) (k:Nat) (v:Value) (out:List FN),RdS Z W r s k false v B out→good out=true→12*QJ s k+8≤m→
 Calls Tryz.prog 297 #[.pointer (some ⟨r,0,none⟩)] W (Qvm Z r s B m W v (PB RF 6 0 0 [] (rest s k) out))
theorem Yd {o:List FN} (h:good o=true):o.length≤60:=by
 unfold good at h;exact of_decide_eq_true (Bool.and_eq_true_iff.1 h).1
theorem Vs {o:List FN} {x:FN} (h:good o=true):good (o++ [x])=(decide (o.length+1≤60)&&QN x):=by
 unfold good at*;have h2:=(Bool.and_eq_true_iff.1 h).2;rw [List.all_append,h2];simp
theorem YL {o:List FN} {x:FN} {l:List UInt8} (h:good o=true):ZR (some ((o.length:Int),sb l,o++ [x])) (false || !(decide (o.length+1≤60)&&QN x)) (o.length:Int) l (o++ [x]):=by
 rw [←Vs h,Bool.false_or];refine⟨fun hb=>⟨rfl,by simpa using hb⟩,fun hb y hy=> ?_⟩;cases hy
 simpa using hb
def Qrr (W:World) (r:Nat):Bool:=match W.cell? ⟨r,2,none⟩with
 | some (.bool b)=>b
 | _=>true
def msr (s:ByteArray) (r:Nat) (W:World):Nat:=if Qrr W r then 0 else 1+QJ s (atOf W r)
theorem NY {Z:Nat→Prop} {W:World} {r:Nat} {s:ByteArray} {k:Nat} {bad:Bool} {v:Value} {B:Nat} {out:List FN} (h:RdS Z W r s k bad v B out):msr s r W=if bad then 0 else 1+QJ s k:=by
 unfold msr Qrr;rw [h.rs.2.1.2.2.1,h.rs.atOf]
theorem Qfy (W:World) (B:Nat) (x y:Int) (hB:B≤W.heap.size):(W.alloc (.cells #[.int .i64 x,.int .i64 y] 2)).ownsRow B 2 1 (.slice (some ⟨W.heap.size,0,none⟩) 2 2) 2 [.int .i64 x,.int .i64 y]:=
 ⟨rfl,.inr ⟨W.heap.size,2,_,rfl,hB,heap_alloc_new W _,Nat.le_refl _,by unfold maxLen;omega,by simp,by simp⟩⟩
theorem Qpe (lv:Int) (h1:1≤lv) (h4:lv≤4) (l:List UInt8):opB false lv l=if QI (pk l)=0∨lvl (QI (pk l))≠lv then 0 else QI (pk l):=by
 unfold opB;rw [if_neg (by simp),Qtd lv h1 h4,Ej];by_cases hc:QV (sb l)=0∨lvl (QV (sb l))≠lv
 ·rw [if_pos hc,if_neg (fun e=>by rcases hc with h | h;exact e.1 h;exact h e.2)]
 ·rw [if_neg hc,if_pos ⟨fun e=>hc (Or.inl e),by
   by_cases e:lvl (QV (sb l))=lv
   ·exact e
   ·exact absurd (Or.inr e) hc⟩]
theorem Qj1 {Z:Nat→Prop} {r:Nat} {s:ByteArray} {B m:Nat} (hm:m≤20000) (hO:Qrw Z r s B m) (W:World) (k:Nat) (v:Value) (out:List FN) (h:RdS Z W r s k false v B out) (hg:good out=true) (hk:12*QJ s k+3≤m+1) (hs:s.size≤1000):
  Calls Tryz.prog 167 #[.pointer (some ⟨r,0,none⟩),.int .i64 5] W (Qcx Z r s B (m+1) W v (PB RF 1 5 0 [] (rest s k) out)):=by
 have HS:Hid (RdS Z W r s k false v B out):=h;have HG:Hid (good out=true):=hg;have HO:Hid (Qrw Z r s B m):=hO;obtain⟨_,⟨c0,c1,c2,c3⟩,f1,f2,f3⟩:=h.rs;rw [Qrb (Yj s k hs).2];clear h hg hO;go_enter Tryz.func167,Tryz.ntmps167
 go_wp2_with fail
 refine(HO.out W k v out HS.out HG.out (by omega)).mono ?_;rintro e w1 ⟨x,k',bad',v',out',rfl,hst,hag,hlen⟩;have H1:Hid (St Z W v r s B w1 k' bad' v' out'∧ZR (PB RF 3 0 0 [] (rest s k) out) bad' x (rest s k') out'∧out'.length≤61+m):=⟨hst,hag,hlen⟩;clear hst hag hlen;go_wp2_with fail
 go_ret;exact⟨x,k',bad',v',out',rfl,H1.out.1,H1.out.2.1,Nat.le_succ_of_le H1.out.2.2⟩
def Qru (Z:Nat→Prop) (r:Nat) (s:ByteArray) (B m:Nat) (W:World) (v:Value) (lv:Int) (res:Option (Int × List UInt8 × List FN)) (n0:Nat) (x:Int) (wr:World) (k:Nat) (bad:Bool) (v1:Value) (out:List FN):Prop:=
 St Z W v r s B wr k bad v1 out∧out.length≤61+m∧(bad=false→good out=true∧QJ s k≤n0∧res=PB RF 2 lv x [] (rest s k) out)∧(bad=true→Bb res)
theorem Qou {Z:Nat→Prop} {r:Nat} {s:ByteArray} {B m:Nat} (hm:m≤20000) (hR: ∀m',m'≤m→EG Z r s B m') (W:World) (k:Nat) (v:Value) (out:List FN) (lv:Int) (h:RdS Z W r s k false v B out) (hg:good out=true) (h1:1≤lv) (h4:lv≤4) (hk:12*QJ s k+(8-lv).toNat≤m+1) (hs:s.size≤1000):
  Calls Tryz.prog 167 #[.pointer (some ⟨r,0,none⟩),.int .i64 lv] W (Qcx Z r s B (m+1) W v (PB RF 1 lv 0 [] (rest s k) out)):=by
 have HS:Hid (RdS Z W r s k false v B out):=h;have HG:Hid (good out=true):=hg;have HR:Hid (∀m',m'≤m→EG Z r s B m'):=hR;have HLV:Hid (1≤lv∧lv≤4):=⟨h1,h4⟩;obtain⟨_,⟨c0,c1,c2,c3⟩,f1,f2,f3⟩:=h.rs;have HE:Hid (PB RF 1 lv 0 [] (rest s k) out=Zv (PB RF 1 (lv+1) 0 [] (rest s k) out) (fun x l1 o1=>PB RF 2 lv x [] l1 o1)):=PB1 h1 h4 (Yj s k hs).2;obtain⟨res,HRES⟩: ∃res,Hid (PB RF 1 lv 0 [] (rest s k) out=res):=⟨_,rfl⟩
 rw [HRES.out]at HE ⊢;obtain⟨n0,HN0⟩: ∃n0,Hid (QJ s k=n0):=⟨_,rfl⟩;rw [HN0.out]at hk;have h5: ¬lv=5:=by omega
 have h5':(lv==5)=false:=by simpa using h5
 have hw:IntKind.i64.wrap (lv+1)=lv+1:=by rw [IntKind.wrap_i64];omega
 clear h hg hR;go_enter Tryz.func167,Tryz.ntmps167;go_wp2_with fail
 refine(HR.out m (Nat.le_refl _) W k v out (lv+1) HS.out HG.out (by omega) (by omega) (by rw [HN0.out];omega)).mono ?_;rintro e w1 ⟨x,k1,bad1,v1,out1,rfl,hst,hag,hlen⟩
 have HI:Hid (Qru Z r s B m W v lv res n0 x w1 k1 bad1 v1 out1):=by
  refine⟨hst,hlen,fun hb=> ?_,fun hb=> ?_⟩
  ·obtain⟨e1,e2⟩:=hag.1 hb;refine⟨e2,?_,?_⟩
   ·have:=(Oq e1).2 (by omega);rw [←HN0.out];unfold QJ;have h9:PB RF 1 (lv+1) 0 [] (sb (rest s k)) out=some (x,sb (rest s k1),out1):=by rw [←e1];exact Kz (Ze _)
    have:=(Oq h9).2 (by omega);omega
   ·rw [HE.out,e1];exact Kz (Ze _)
  ·rw [HE.out];exact XU (hag.2 hb) (fun x l o=>Qag 2 lv x [] l o)
 clear hst hag hlen HS HG c0 c1 c2 c3 f1 f2 f3;go_wp2_with fail
 go_loopw [5] (fun a wr=> ∃x k1 bad1 v1 out1,a= .int .i64 x∧Qru Z r s B m W v lv res n0 x wr k1 bad1 v1 out1) (fun _ wr=>msr s r wr)
 case atStart=>exact⟨x,k1,bad1,v1,out1,rfl,HI.out⟩
 case round=>
  clear HI;obtain⟨x,k1,bad1,v1,out1,rfl,hi⟩:=hrel;have HI:Hid (Qru Z r s B m W v lv res n0 x wr k1 bad1 v1 out1):=hi;have HMS:Hid (msr s r wr=if bad1 then 0 else 1+QJ s k1):=NY hi.1.st;obtain⟨_,⟨c0,c1,c2,c3⟩,f1,f2,f3⟩:=hi.1.st.rs;clear hi;cases bad1
  rotate_left
  ·go_wp2_with fail
   go_ret;exact⟨x,k1,true,v1,out1,rfl,HI.out.1,⟨fun e=>(by cases e),fun _=>HI.out.2.2.2 rfl⟩,Nat.le_succ_of_le HI.out.2.1⟩
  ·obtain⟨hgd,hln,hres⟩:=HI.out.2.2.1 rfl;have HGD:Hid (good out1=true):=hgd;have HLN:Hid (QJ s k1≤n0):=hln;have HRE:Hid (res=PB RF 2 lv x [] (rest s k1) out1):=hres;have HP2:Hid (PB RF 2 lv x [] (rest s k1) out1=if QI (pk (rest s k1))=0∨lvl (QI (pk (rest s k1)))≠lv then some (x,sb (rest s k1),out1)else Zv (PB RF 1 (lv+1) 0 [] (nx (rest s k1)) out1) (fun b l1 o1=>PB RF 2 lv (o1.length:Int) [] l1 (o1++ [RF.bin (QI (pk (rest s k1))) x b]))):=PB2 h1 h4 (Yj s k1 hs).2;have HOP:Hid (opB false lv (rest s k1)=if QI (pk (rest s k1))=0∨lvl (QI (pk (rest s k1)))≠lv then 0 else QI (pk (rest s k1))):=Qpe lv h1 h4 _;clear hgd hln hres
   by_cases hc:QI (pk (rest s k1))=0∨lvl (QI (pk (rest s k1)))≠lv
   ·have HO0:Hid (opB false lv (rest s k1)=0):=by show _=_;rw [HOP.out,if_pos hc]
    have HP3:Hid (res=some (x,sb (rest s k1),out1)):=by show _=_;rw [HRE.out,HP2.out,if_pos hc]
    clear hc;go_wp2_with fail
    refine(Qri r s k1 false v1 lv _ HI.out.1.st.rs hs HLV.out.1 HLV.out.2).mono ?_;rintro e w2 ⟨rfl,j,hrj,hz,hnz,hgb⟩;have HST2:Hid (St Z W v r s B w2 j false v1 out1):=HI.out.1.gb hrj hgb;have HZ:Hid (sb (rest s j)=sb (rest s k1)):=hz HO0.out;rw [HO0.out];clear hrj hz hnz hgb;go_wp2_with fail
    go_ret;exact⟨x,j,false,v1,out1,rfl,HST2.out,⟨fun _=>⟨by rw [HP3.out,HZ.out],HGD.out⟩,fun e=>(by cases e)⟩,Nat.le_succ_of_le HI.out.2.1⟩
   ·obtain⟨o,HOO⟩: ∃o,Hid (QI (pk (rest s k1))=o):=⟨_,rfl⟩;have hpk:pk (rest s k1)≠ []:=fun e=>hc (Or.inl (by rw [e];rfl));have HO1:Hid (opB false lv (rest s k1)=o):=by show _=_;rw [HOP.out,if_neg hc,HOO.out]
    have ho0: ¬o=0:=by rw [←HOO.out];exact fun e=>hc (Or.inl e)
    have ho0':(o==0)=false:=by simpa using ho0
    have HP3:Hid (res=Zv (PB RF 1 (lv+1) 0 [] (nx (rest s k1)) out1) (fun b l1 o1=>PB RF 2 lv (o1.length:Int) [] l1 (o1++ [RF.bin o x b]))):=by show _=_;rw [HRE.out,HP2.out,if_neg hc,HOO.out]
    have HNX:Hid ((sb (rest s k1)).drop (sgT o).length=nx (rest s k1)):=by
     show _=_;have e1:QV (sb (rest s k1))=o:=by rw [←Ej,HOO.out]
     have h9:=(Qrj (l:=rest s k1) (by rw [e1];exact ho0)).2;rw [e1]at h9;conv=>lhs;rw [h9]
     exact List.drop_left
    have HLT:Hid ((nx (rest s k1)).length<QJ s k1):=Qrk hpk;clear hc hpk;go_wp2_with fail
    refine(Qri r s k1 false v1 lv _ HI.out.1.st.rs hs HLV.out.1 HLV.out.2).mono ?_;rintro e w2 ⟨rfl,j,hrj,hz,hnz,hgb⟩;have HST2:Hid (St Z W v r s B w2 j false v1 out1):=HI.out.1.gb hrj hgb;have HZ:Hid (rest s j=nx (rest s k1)):=by show _=_;rw [hnz (by rw [HO1.out];exact ho0),HO1.out,HNX.out]
    rw [HO1.out];clear hrj hz hnz hgb
    have HLJ:Hid (QJ s j<QJ s k1):=by
     show(sb (rest s j)).length<QJ s k1;rw [HZ.out];exact Nat.lt_of_le_of_lt (YD _) HLT.out
    go_wp2_with fail
    refine(HR.out (m-1) (Nat.sub_le _ _) w2 j v1 out1 (lv+1) HST2.out.st HGD.out (by omega) (by omega) (by have a1:=HLJ.out;have a2:=HLN.out;omega)).mono ?_;rintro e w3 ⟨b,k3,bad3,v3,out3,rfl,hst3,hag3,hlen3⟩;rw [HZ.out]at hag3;have HST3:Hid (St Z W v r s B w3 k3 bad3 v3 out3):=HST2.out.step hst3.st hst3.nb hst3.fr;have HAG3:Hid (ZR (PB RF 1 (lv+1) 0 [] (nx (rest s k1)) out1) bad3 b (rest s k3) out3):=hag3;have HL3:Hid (out3.length+1≤61+m):=by show _≤_;have a1:=HLJ.out;have a2:=HLN.out;omega
    have HLK:Hid (bad3=false→QJ s k3<QJ s k1):=fun hb=>by
     have h9:=(Oq (hag3.1 hb).1).1;have h8:=HLT.out;show(sb (rest s k3)).length<_;omega
    have hB3:B≤w3.heap.size:=hst3.st.bw;clear hst3 hag3 hlen3;go_wp2_with fail
    refine(JG (RF.bin o x b) (some ⟨w3.heap.size,0,none⟩) 2 r s k3 bad3 v3 B out3 _ (HST3.out.st.bel (by go_grown)) (Qfy w3 B x b hB3) (fun b9 h9 hz9=>by have h8:=HST3.out.st.zl b9 hz9;cases h9;exact absurd h8 (Nat.lt_irrefl _)) (by show(⟨#[]⟩:ByteArray).size≤maxLen;exact Nat.zero_le _) (by have:=HL3.out;omega)).mono ?_;rintro e w4 ⟨v4,rfl,hs4,hnb4,hfr4⟩;have HST4:Hid (St Z W v r s B w4 k3 (bad3 || !(decide (out3.length+1≤60)&&QN (RF.bin o x b))) v4 (out3++ [RF.bin o x b])):=(HST3.out.bel (by go_grown)).step hs4 hnb4 hfr4;clear hs4 hnb4 hfr4;go_wp2_with fail
    have HI4:Qru Z r s B m W v lv res n0 (out3.length:Int) w4 k3 (bad3 || !(decide (out3.length+1≤60)&&QN (RF.bin o x b))) v4 (out3++ [RF.bin o x b]):=by
     refine⟨HST4.out,?_,fun hb=> ?_,fun hb=> ?_⟩
     ·rw [List.length_append];exact HL3.out
     ·obtain⟨hb1,hb2⟩:=Bool.or_eq_false_iff.1 hb;obtain⟨e1,e2⟩:=HAG3.out.1 hb1;refine⟨?_,?_,?_⟩
      ·rw [Vs e2];simpa using hb2
      ·have a1:=HLK.out hb1;have a2:=HLN.out;omega
      ·rw [HP3.out,e1];exact Kz (Ze _)
     ·cases hb3:bad3
      ·obtain⟨e1,e2⟩:=HAG3.out.1 hb3;rw [hb3,Bool.false_or]at hb;rw [HP3.out,e1];exact Qch (o:=out3++ [RF.bin o x b]) (by rw [Vs e2];rw [Bool.not_eq_true']at hb;exact hb) (Qag 2 lv _ [] _ _)
      ·rw [HP3.out]
       exact XU (HAG3.out.2 hb3) (fun b l1 o1 y hy=>by
        obtain⟨e9,h9⟩:=Qag 2 lv (o1.length:Int) [] l1 (o1++ [RF.bin o x b]) y hy
        exact⟨[RF.bin o x b]++e9,by rw [h9,List.append_assoc]⟩)
    refine⟨⟨_,_,_,_,_,rfl,HI4⟩,?_⟩;rw [NY HST4.out.st,HMS.out];simp only [Bool.false_eq_true,if_false];split
    ·omega
    ·rename_i hb
     have hb3:bad3=false:=by
      cases hq:bad3
      ·rfl
      ·rw [hq]at hb;simp at hb
     have:=HLK.out hb3;omega
theorem Ma (l:List UInt8):(∃c t,sb l=c::t∧isW c=true)∨((sb l).takeWhile isW= []∧rpL (pk l)=none):=by
 cases hs:sb l with
 | nil=>exact Or.inr ⟨rfl,by rw [(ET hs).1];exact JH⟩
 | cons c t=>
  cases hw:isW c
  ·right
   refine⟨by simp [List.takeWhile,hw],?_⟩;by_cases hp:pk l= []
   ·rw [hp];exact JH
   ·have h1:=Hh hp;rw [hs]at h1;cases hq:pk l with
    | nil=>exact absurd hq hp
    | cons d u=>
     rw [hq]at h1;simp only [List.cons_append,List.cons.injEq]at h1;rw [←h1.1];exact Mi hw
  ·exact Or.inl ⟨c,t,rfl,hw⟩
theorem Qe4 (l:List UInt8):rpL ((sb l).takeWhile isW)=rpL (pk l):=by
 rcases Ma l with⟨c,t,hs,hw⟩ | ⟨h1,h2⟩
 ·rw [(Eg hs hw).1]
 ·rw [h1,h2];exact JH
theorem Ov {l:List UInt8} {p:Int × Int × Bool × Bool} (h:rpL ((sb l).takeWhile isW)=some p):pk l=(sb l).takeWhile isW∧nx l=(sb l).dropWhile isW∧pk l≠ []:=by
 rcases Ma l with⟨c,t,hs,hw⟩ | ⟨h1,h2⟩
 ·exact Eg hs hw
 ·rw [h1,JH]at h;cases h
theorem JB (l:List UInt8) (c:UInt8) (hc:c=40∨c=41∨c=44∨c=58∨c=45):isB false (bs [c]) l=decide (pk l= [c]):=by
 rw [Bool.eq_iff_iff,decide_eq_true_eq,Qs4 l c hc];unfold isB;show(!false&& [c].isPrefixOf (sb l))=true↔_;cases hs:sb l with
 | nil=>simp
 | cons b t=>
  simp only [Bool.not_false,Bool.true_and,List.isPrefixOf,Bool.and_true,beq_iff_eq,List.head?_cons,Option.some.injEq];exact eq_comm
theorem Gk {l:List UInt8} {c:UInt8} (hc:c=40∨c=41∨c=44∨c=58∨c=45) (h:pk l= [c]):isR false (bs [c]) l=nx l:=by
 rw [MI (by rw [JB l c hc,h];simp)];have e:=Hh (l:=l) (by rw [h];simp);rw [e,h];rfl
theorem Gl {l:List UInt8} {c:UInt8} (hc:c=40∨c=41∨c=44∨c=58∨c=45) (h:pk l≠ [c]):isB false (bs [c]) l=false∧isR false (bs [c]) l=sb l:=by
 have e:isB false (bs [c]) l=false:=by rw [JB l c hc];simp [h]
 exact⟨e,Hf e⟩
theorem Qp2 {s:ByteArray} {j k:Nat} (h:sb (rest s j)=sb (rest s k)):QJ s j=QJ s k:=by unfold QJ;rw [h]
theorem BP (s:ByteArray) (j:Nat) (h:s.size≤1000):((rest s j).takeWhile isW).length≤1000:=by
 have h1:=(List.takeWhile_sublist isW (l:=rest s j)).length_le;have h2:=Hj s j;omega
theorem Qi4 (l:List UInt8):RF.rp l=rpL l:=by simp only [RF]
theorem Qrv (l:List UInt8):RF.rv l=rvL l:=by simp only [RF]
def Qvy {α β:Type} (x y:Option α) (f:α→α→Option β):Option β:=match x,y with
 | some p,some q=>f p q
 | _,_=>none
theorem Qah {l:List UInt8} {out:List FN} {x y:Option (Int × Int × Bool × Bool)} (hn:l.length≤1000) (hc:pk l≠ []∧pk (nx l)= [58]) (h:rpL (pk l)=x) (h':rpL (pk (nx (nx l)))=y):PB RF 6 0 0 [] l out=Qvy x y (fun p q=>some ((out.length:Int),sb (nx (nx (nx l))),out++ [RF.are p q])):=by
 have e:=PB6 (R:=RF) (l:=l) (out:=out) hn;rw [if_pos hc,Qi4,Qi4,h,h']at e;rw [e];cases x<;>cases y<;>rfl
theorem Ql7 {l:List UInt8} {out:List FN} (hn:l.length≤1000) (hc:pk l≠ []∧pk (nx l)= [58]) (h:rpL (pk l)=none):PB RF 6 0 0 [] l out=none:=by
 obtain⟨y,hy⟩: ∃y,rpL (pk (nx (nx l)))=y:=⟨_,rfl⟩;rw [Qah hn hc h hy];rfl
theorem Qi0 {l:List UInt8} {out:List FN} {p:Int × Int × Bool × Bool} (hn:l.length≤1000) (hc:pk l≠ []∧pk (nx l)= [58]) (h:rpL (pk l)=some p) (h':rpL (pk (nx (nx l)))=none):PB RF 6 0 0 [] l out=none:=by
 rw [Qah hn hc h h'];rfl
theorem Ql6 {l:List UInt8} {out:List FN} {p q:Int × Int × Bool × Bool} (hn:l.length≤1000) (hc:pk l≠ []∧pk (nx l)= [58]) (h:rpL (pk l)=some p) (h':rpL (pk (nx (nx l)))=some q):PB RF 6 0 0 [] l out=some ((out.length:Int),sb (nx (nx (nx l))),out++ [RF.are p q]):=by
 rw [Qah hn hc h h'];rfl
theorem Qgz {l l':List UInt8} {out out':List FN} {bad:Bool} {x:Int} (hn:l.length≤1000) (hN:rpL (pk l)=none∨ ¬pk (nx l)= [58]) (hag:ZR (PB RF 1 1 0 [] l out) bad x l' out'):ZR (PB RF 6 0 0 [] l out) bad x l' out'∨(bad=false∧pk l'= [58]∧PB RF 6 0 0 [] l out=none):=by
 by_cases hc:pk l≠ []∧pk (nx l)= [58]
 ·have hN1:rpL (pk l)=none:=by
   rcases hN with h | h
   ·exact h
   ·exact absurd hc.2 h
  have e:=Ql7 (out:=out) hn hc hN1;cases hb:bad
  ·right
   refine⟨rfl,?_,e⟩;have h1:=(hag.1 hb).1;have h2:=Qtz hc.2 hn 4 1 rfl (by omega) _ _ _ h1;rw [Xj]at h2;exact h2
  ·left
   rw [e];exact⟨fun h=>(by cases h),fun _=>ZH⟩
 ·left
  rw [PB6 hn,if_neg hc];exact hag
theorem St.at {Z:Nat→Prop} {W w1:World} {v v1:Value} {r:Nat} {s:ByteArray} {B k:Nat} {bad:Bool} {out:List FN} (h:St Z W v r s B w1 k bad v1 out) (j:Nat) (z:Int) (hj:j≤s.size) (hz:z=(j:Int)):St Z W v r s B (w1.setCell ⟨r,1,none⟩ (.int .i64 z)) j bad v1 out:=
 h.step (h.st.at' j z hj hz) (NB.refl _ _) (Fr.gb (QQ _ _ _ _))
def RPC:Prop:= ∀(l:List UInt8) (w:World),l.length≤1048576→Calls Tryz.prog 30 #[.string (bs l)] w fun e w'=>e= .returned (plA l)∧Below w.heap.size w w'
theorem Qq9 {Z:Nat→Prop} (hRP:RPC) {r:Nat} {s:ByteArray} {B m:Nat} (hm:m≤20000) (hR:EG Z r s B m) (hs:s.size≤1000):Qr0 Z r s B (m+1):=by
 intro W k v out h hg hk;have HRP:Hid RPC:=hRP;have HR:Hid (EG Z r s B m):=hR;have HG:Hid (good out=true):=hg;have HS:Hid (St Z W v r s B W k false v out):=St.start h;obtain⟨l,HL⟩: ∃l,Hid (rest s k=l):=⟨_,rfl⟩;have HLN:Hid (l.length≤1000):=by show _≤_;rw [←HL.out];exact(Yj s k hs).2
 have hP6:=PB6 (R:=RF) (l:=l) (out:=out) HLN.out;have HP6:=(show Hid _ from hP6);clear hP6;rw [HL.out];have HGL:Hid (out.length≤60):=Yd hg;clear h hg hR hRP;go_enter Tryz.func297,Tryz.ntmps297
 go_wp2_with fail
 refine(Vp r s k false v W HS.out.st.rs hs).mono ?_;rintro e w1 ⟨x0,j,rfl,hrj,hre,hgb⟩;have HS1:Hid (St Z W v r s B w1 j false v out):=HS.out.gb hrj hgb;rw [HL.out]at hre;have HJ:Hid (rest s j=sb l):=hre;obtain⟨hjs,⟨c0,c1,c2,c3⟩,f1,f2,f3⟩:=hrj;clear hre hgb HS
 have HJK:Hid (QJ s j=QJ s k):=Qp2 (by rw [HJ.out,HL.out,Ze]);go_wp2_with fail
 refine(Ec r s j false v w1 HS1.out.st.rs hs).mono ?_;rintro e w2 ⟨rfl,j2,hrj2,hre2,hgb2⟩;have HS2:Hid (St Z W v r s B w2 j2 false v out):=HS1.out.gb hrj2 hgb2;rw [HJ.out]at hre2;have HJ2:Hid (rest s j2=(sb l).dropWhile isW):=hre2;have HTW:Hid (((sb l).takeWhile isW).length≤1000):=by show _≤_;rw [←HJ.out];exact BP s j hs
 rw [HJ.out];clear hrj2 hre2 hgb2 c0 c1 c2 c3 f1 f2 f3;go_wp2_with fail
 refine(HRP.out ((sb l).takeWhile isW) w2 (by have:=HTW.out;omega)).mono ?_;rintro e w3 ⟨rfl,hb3⟩;have HS3:Hid (St Z W v r s B w3 j2 false v out):=HS2.out.bel hb3;clear hb3;cases hp:rpL ((sb l).takeWhile isW)with
 | none=>
  rw [Qdi hp];have HN:Hid (rpL (pk l)=none):=by show _=_;rw [←Qe4,hp]
  obtain⟨_,⟨c0,c1,c2,c3⟩,f1,f2,f3⟩:=HS3.out.st.rs;have hrl:r<w3.heap.size:=HS3.out.st.rs.lt;clear hp;go_wp2_with fail
  have HS4:Hid (St Z W v r s B ((w3.setCell ⟨r,1,none⟩ (.int .i64 j)).alloc (.cells #[.int .i64 0,.int .i64 0,.bool false,.bool false] 74)) j false v out):=(HS3.out.at j _ hjs rfl).bel (by go_grown);refine(HR.out _ j v out 1 (HS4.out.st) HG.out (by omega) (by omega) (by rw [HJK.out];omega)).mono ?_;rintro e w5 ⟨x,k5,bad5,v5,out5,rfl,hst5,hag5,hlen5⟩;rw [HJ.out]at hag5;have HST5:Hid (St Z W v r s B w5 k5 bad5 v5 out5):=HS4.out.step hst5.st hst5.nb hst5.fr
  have HAG5:Hid (ZR (PB RF 1 1 0 [] l out) bad5 x (rest s k5) out5):=by
   have e9:PB RF 1 1 0 [] (sb l) out=PB RF 1 1 0 [] l out:=Kz (Ze _);rw [e9]at hag5;exact hag5
  have HL5:Hid (out5.length≤61+m):=hlen5;clear hst5 hag5 hlen5;go_wp2_with fail
  go_ret;exact⟨x,k5,bad5,v5,out5,rfl,HST5.out,Qgz HLN.out (Or.inl HN.out) HAG5.out,Nat.le_succ_of_le HL5.out,fun hb=>(HAG5.out.1 hb).2⟩
 | some p=>
  rw [EQ hp];obtain⟨e1,e2,e3⟩:=Ov hp;have HPK:Hid (pk l≠ []∧rpL (pk l)=some p):=⟨e3,by rw [e1];exact hp⟩;have HNX:Hid (rest s j2=nx l):=by show _=_;rw [HJ2.out,e2]
  obtain⟨_,⟨c0,c1,c2,c3⟩,f1,f2,f3⟩:=HS3.out.st.rs;have hrl:r<w3.heap.size:=HS3.out.st.rs.lt;clear hp e1 e2 e3;go_wp2_with fail
  have HS4:Hid (St Z W v r s B (w3.alloc (.cells #[.int .i64 p.1,.int .i64 p.2.1,.bool p.2.2.1,.bool p.2.2.2] 74)) j2 false v out):=HS3.out.bel (by go_grown);have d0:(w3.alloc (.cells #[.int .i64 p.1,.int .i64 p.2.1,.bool p.2.2.1,.bool p.2.2.2] 74)).cell? ⟨w3.heap.size,0,none⟩=some (.int .i64 p.1):=by simp
  have d1:(w3.alloc (.cells #[.int .i64 p.1,.int .i64 p.2.1,.bool p.2.2.1,.bool p.2.2.2] 74)).cell? ⟨w3.heap.size,1,none⟩=some (.int .i64 p.2.1):=by simp
  have d2:(w3.alloc (.cells #[.int .i64 p.1,.int .i64 p.2.1,.bool p.2.2.1,.bool p.2.2.2] 74)).cell? ⟨w3.heap.size,2,none⟩=some (.bool p.2.2.1):=by simp
  have d3:(w3.alloc (.cells #[.int .i64 p.1,.int .i64 p.2.1,.bool p.2.2.1,.bool p.2.2.2] 74)).cell? ⟨w3.heap.size,3,none⟩=some (.bool p.2.2.2):=by simp
  have HRW:Hid (r<w3.heap.size):=hrl;by_cases hc:pk (nx l)= [58]
  ·have HC:Hid (pk (nx l)= [58]):=hc;have HIB:Hid (isB false (bs [58]) (rest s j2)=true):=by show _=_;rw [HNX.out,JB _ 58 (by simp),hc];rfl
   have HIR:Hid (isR false (bs [58]) (rest s j2)=nx (nx l)):=by show _=_;rw [HNX.out];exact Gk (by simp) hc
   clear hc c0 c1 c2 c3 f1 f2 f3;refine(ZF r s (bs [58]) j2 false v _ HS4.out.st.rs hs (by decide)).mono ?_;rintro e w4 ⟨rfl,j3,hrj3,hre3,hgb3⟩;rw [HIB.out];rw [HIR.out]at hre3;have HS5:Hid (St Z W v r s B w4 j3 false v out):=HS4.out.gb hrj3 hgb3;have HJ3:Hid (rest s j3=nx (nx l)):=hre3
   have hne:some w3.heap.size≠some r:=fun e=>by have:=HRW.out;cases e;omega
   have d0:=hgb3.cell d0 hne;have d1:=hgb3.cell d1 hne;have d2:=hgb3.cell d2 hne;have d3:=hgb3.cell d3 hne;clear hrj3 hre3 hgb3;go_wp2_with fail
   refine(Vp r s j3 false v w4 HS5.out.st.rs hs).mono ?_;rintro e w5 ⟨x5,j5,rfl,hrj5,hre5,hgb5⟩;have HS6:Hid (St Z W v r s B w5 j5 false v out):=HS5.out.gb hrj5 hgb5;rw [HJ3.out]at hre5;have HJ5:Hid (rest s j5=sb (nx (nx l))):=hre5;have d0:=hgb5.cell d0 hne;have d1:=hgb5.cell d1 hne
   have d2:=hgb5.cell d2 hne;have d3:=hgb5.cell d3 hne;clear hrj5 hre5 hgb5;go_wp2_with fail
   refine(Ec r s j5 false v w5 HS6.out.st.rs hs).mono ?_;rintro e w6 ⟨rfl,j6,hrj6,hre6,hgb6⟩;have HS7:Hid (St Z W v r s B w6 j6 false v out):=HS6.out.gb hrj6 hgb6;rw [HJ5.out]at hre6;have HJ6:Hid (rest s j6=(sb (nx (nx l))).dropWhile isW):=hre6;have HTW2:Hid (((sb (nx (nx l))).takeWhile isW).length≤1000):=by show _≤_;rw [←HJ5.out];exact BP s j5 hs
   rw [HJ5.out];have d0:=hgb6.cell d0 hne;have d1:=hgb6.cell d1 hne;have d2:=hgb6.cell d2 hne;have d3:=hgb6.cell d3 hne;clear hrj6 hre6 hgb6;go_wp2_with fail
   refine(HRP.out ((sb (nx (nx l))).takeWhile isW) w6 (by have:=HTW2.out;omega)).mono ?_;rintro e w7 ⟨rfl,hb7⟩;have HS8:Hid (St Z W v r s B w7 j6 false v out):=HS7.out.bel hb7;have l7:w3.heap.size<w6.heap.size:=World.block_lt_of_cell? w6 ⟨w3.heap.size,0,none⟩ d0;have d0:=(hb7.cell (p:=⟨w3.heap.size,0,none⟩) l7).trans d0;have d1:=(hb7.cell (p:=⟨w3.heap.size,1,none⟩) l7).trans d1;have d2:=(hb7.cell (p:=⟨w3.heap.size,2,none⟩) l7).trans d2
   have d3:=(hb7.cell (p:=⟨w3.heap.size,3,none⟩) l7).trans d3;have l8:w3.heap.size<w7.heap.size:=World.block_lt_of_cell? w7 ⟨w3.heap.size,0,none⟩ d0;clear hb7;cases hq:rpL ((sb (nx (nx l))).takeWhile isW)with
   | none=>
    rw [Qdi hq];have HN:Hid (PB RF 6 0 0 [] l out=none):=Qi0 HLN.out ⟨HPK.out.1,HC.out⟩ HPK.out.2 (by rw [←Qe4,hq]);obtain⟨_,⟨c0,c1,c2,c3⟩,f1,f2,f3⟩:=HS8.out.st.rs;have hrl8:r<w7.heap.size:=HS8.out.st.rs.lt;clear hq d0 d1 d2 d3;go_wp2_with fail
    go_ret;exact⟨0,j6,true,v,out,rfl,HS8.out.mad.bel (by go_grown),Or.inl (by rw [HN.out];exact⟨fun e=>(by cases e),fun _=>ZH⟩),by have:=HGL.out;omega,fun e=>(by cases e)⟩
   | some q=>
    rw [EQ hq];obtain⟨e1,e2,e3⟩:=Ov hq;have HN:Hid (PB RF 6 0 0 [] l out=some ((out.length:Int),sb (nx (nx (nx l))),out++ [RF.are p q])):=Ql6 HLN.out ⟨HPK.out.1,HC.out⟩ HPK.out.2 (by rw [e1];exact hq);have HJ7:Hid (rest s j6=nx (nx (nx l))):=by show _=_;rw [HJ6.out,e2]
    clear hq e1 e2 e3;go_wp2_with fail
    refine(JG (RF.are p q) none 0 r s j6 false v B out _ (HS8.out.st.bel (by go_grown)) (Yc _ _) (fun _ h=>by cases h) (by show(⟨#[]⟩:ByteArray).size≤maxLen;exact Nat.zero_le _) (by have:=HGL.out;omega)).mono ?_;rintro e w8 ⟨v8,rfl,hs8,hnb8,hfr8⟩;have HS9:Hid (St Z W v r s B w8 j6 (false || !(decide (out.length+1≤60)&&QN (RF.are p q))) v8 (out++ [RF.are p q])):=(HS8.out.bel (by go_grown)).step hs8 hnb8 hfr8;clear hs8 hnb8 hfr8;go_wp2_with fail
    go_ret;refine⟨_,j6,_,v8,_,rfl,HS9.out,Or.inl ?_,?_,?_⟩
    ·rw [HN.out,←HJ7.out];exact YL HG.out
    ·rw [List.length_append];have:=HGL.out;simp only [List.length_cons,List.length_nil];omega
    ·intro hb;rw [Vs HG.out];simpa using hb
  ·have HC:Hid (¬pk (nx l)= [58]):=hc;have HIB:Hid (isB false (bs [58]) (rest s j2)=false):=by show _=_;rw [HNX.out];exact(Gl (by simp) hc).1
   clear hc c0 c1 c2 c3 f1 f2 f3 d0 d1 d2 d3;refine(ZF r s (bs [58]) j2 false v _ HS4.out.st.rs hs (by decide)).mono ?_;rintro e w4 ⟨rfl,j3,hrj3,hre3,hgb3⟩;rw [HIB.out];have HS5:Hid (St Z W v r s B w4 j3 false v out):=HS4.out.gb hrj3 hgb3;clear hrj3 hre3 hgb3;obtain⟨_,⟨c0,c1,c2,c3⟩,f1,f2,f3⟩:=HS5.out.st.rs
   go_wp2_with fail
   have HS6:Hid (St Z W v r s B (w4.setCell ⟨r,1,none⟩ (.int .i64 j)) j false v out):=HS5.out.at j _ hjs rfl;refine(HR.out _ j v out 1 (HS6.out.st) HG.out (by omega) (by omega) (by rw [HJK.out];omega)).mono ?_;rintro e w5 ⟨x,k5,bad5,v5,out5,rfl,hst5,hag5,hlen5⟩;rw [HJ.out]at hag5;have HST5:Hid (St Z W v r s B w5 k5 bad5 v5 out5):=HS6.out.step hst5.st hst5.nb hst5.fr
   have HAG5:Hid (ZR (PB RF 1 1 0 [] l out) bad5 x (rest s k5) out5):=by
    have e9:PB RF 1 1 0 [] (sb l) out=PB RF 1 1 0 [] l out:=Kz (Ze _);rw [e9]at hag5;exact hag5
   have HL5:Hid (out5.length≤61+m):=hlen5;clear hst5 hag5 hlen5;go_wp2_with fail
   go_ret;exact⟨x,k5,bad5,v5,out5,rfl,HST5.out,Qgz HLN.out (Or.inr HC.out) HAG5.out,Nat.le_succ_of_le HL5.out,fun hb=>(HAG5.out.1 hb).2⟩
end Go.Proofs.YtbdhinckiccniaaGreatDoor
