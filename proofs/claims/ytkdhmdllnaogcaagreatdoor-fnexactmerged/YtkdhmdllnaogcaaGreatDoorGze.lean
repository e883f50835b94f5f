import Derived.Test.YtkdhmdllnaogcaaGreatDoorCvA
import Derived.Test.YtkdhmdllnaogcaaGreatDoorGaa
import Derived.Test.YtkdhmdllnaogcaaGreatDoorGad
import Derived.Test.YtkdhmdllnaogcaaGreatDoorMn
import Derived.Test.YtkdhmdllnaogcaaGreatDoorGbg
set_option linter.unusedSimpArgs false
set_option linter.unusedVariables false
set_option maxHeartbeats 8000000
set_option maxRecDepth 100000
namespace Go.Proofs.YtkdhmdllnaogcaaGreatDoor
open Go.RowKit
def ClRow (W:World) (A:Option Addr) (n:Nat) (C R:Nat→Int) (S:Nat→ByteArray):Prop:=
 n≤maxLen∧ ∀i,i<n→ ∃b o,A=some ⟨b,o,none⟩∧b<W.heap.size∧W.cell? ⟨b,o+i*3,none⟩=some (.int .i64 (C i))∧W.cell? ⟨b,o+i*3+1,none⟩=some (.int .i64 (R i))∧
  W.cell? ⟨b,o+i*3+2,none⟩=some (.string (S i))∧(S i).size≤maxLen
theorem ClRow.below {W W':World} {A:Option Addr} {n:Nat} {C R:Nat→Int} {S:Nat→ByteArray} (h:ClRow W A n C R S) (hb:Below W.heap.size W W'):ClRow W' A n C R S:=
 ⟨h.1,fun i hi=>by
  obtain⟨b,o,e,hl,c0,c1,c2,hs⟩:=h.2 i hi
  exact⟨b,o,e,Nat.lt_of_lt_of_le hl hb.size,(hb.cell (p:=⟨b,_,none⟩) hl).trans c0,(hb.cell (p:=⟨b,_,none⟩) hl).trans c1,(hb.cell (p:=⟨b,_,none⟩) hl).trans c2,hs⟩⟩
def clX (C R:Nat→Int) (S:Nat→ByteArray) (m:Nat):List Value:=(List.range m).flatMap fun i=> [.int .i64 (C i),.int .i64 (R i),.string (S i)]
theorem ND (C R:Nat→Int) (S:Nat→ByteArray) (m:Nat):clX C R S (m+1)=clX C R S m++ [.int .i64 (C m),.int .i64 (R m),.string (S m)]:=by
 simp [clX,List.range_succ,List.flatMap_append]
theorem Bc (C R:Nat→Int) (S:Nat→ByteArray) (m:Nat):(clX C R S m).length=m*3:=by
 induction m with
 | zero=>rfl
 | succ m ih=>rw [ND,List.length_append,ih];simp;omega
theorem VX (C R:Nat→Int) (S:Nat→ByteArray) (m i j:Nat) (hi:i<m) (hj:j<3):
  (clX C R S m)[i*3+j]? = [Value.int .i64 (C i),.int .i64 (R i),.string (S i)][j]?:=by
 induction m with
 | zero=>omega
 | succ m ih=>
  rw [ND];have hl:=Bc C R S m;by_cases h:i<m
  ·rw [List.getElem?_append_left (by omega)];exact ih h
  ·obtain rfl:i=m:=by omega
   rw [List.getElem?_append_right (by omega),hl];congr 1
   omega
theorem Qhw:(Tryz.prog.info? 50).map (fun i=>(i.zero,i.size,i.bytes))=some (some (.agg #[.int .i64 0,.int .i64 0,.string ⟨#[]⟩]),3,32):=by kernel_rfl
theorem Qip {W:World} {B n:Nat} {A:Option Addr} {cap:Nat} {C R:Nat→Int} {S:Nat→ByteArray} (h:W.ownsRow B 50 3 (.slice A n cap) n (clX C R S n)) (hs: ∀i,i<n→(S i).size≤maxLen):ClRow W A n C R S:=by
 obtain⟨A',cap',e,hn,hc⟩:=QP h;cases e
 refine⟨hn,fun i hi=> ?_⟩;obtain⟨g,rfl,_,hl,c0,_⟩:=hc (i*3) (by omega);obtain⟨g1,e1,_,_,c1,_⟩:=hc (i*3+1) (by omega);obtain⟨g2,e2,_,_,c2,_⟩:=hc (i*3+2) (by omega);cases e1
 cases e2
 refine⟨g,0,rfl,hl,?_,?_,?_,hs i hi⟩
 ·rw [Nat.zero_add,c0];exact VX C R S n i 0 hi (by omega)
 ·rw [Nat.zero_add,c1];exact VX C R S n i 1 hi (by omega)
 ·rw [Nat.zero_add,c2];exact VX C R S n i 2 hi (by omega)
theorem BL {W:World} {B g n cap t:Nat} {ys:List Value} {C R:Nat→Int} {S:Nat→ByteArray} (h:W.ownsRow B 50 3 (.slice (some ⟨g,0,none⟩) n cap) n ys) (ht:t<n) (hy: ∀j,j<t*3→ys[j]? =(clX C R S n)[j]?):
  ∃zs,(((W.setCell ⟨g,t*3,none⟩ (.int .i64 (C t))).setCell ⟨g,t*3+1,none⟩ (.int .i64 (R t))).setCell ⟨g,t*3+2,none⟩ (.string (S t))).ownsRow B 50 3 (.slice (some ⟨g,0,none⟩) n cap) n zs∧
   (∀j,j<(t+1)*3→zs[j]? =(clX C R S n)[j]?)∧W.grownBy (((W.setCell ⟨g,t*3,none⟩ (.int .i64 (C t))).setCell ⟨g,t*3+1,none⟩ (.int .i64 (R t))).setCell ⟨g,t*3+2,none⟩ (.string (S t))) (some g):=by
 obtain⟨o1,g1⟩:=h.stored (t*3) (.int .i64 (C t));obtain⟨o2,g2⟩:=o1.stored (t*3+1) (.int .i64 (R t));obtain⟨o3,g3⟩:=o2.stored (t*3+2) (.string (S t));refine⟨_,o3,fun j hj=> ?_,XI (XI g1 g2) g3⟩;have hl:=h.1;by_cases e2:t*3+2=j
 ·subst e2;rw [List.getElem?_set_self (by simp;omega),VX C R S n t 2 ht (by omega)];rfl
 rw [List.getElem?_set_ne e2];by_cases e1:t*3+1=j
 ·subst e1;rw [List.getElem?_set_self (by simp;omega),VX C R S n t 1 ht (by omega)];rfl
 rw [List.getElem?_set_ne e1];by_cases e0:t*3=j
 ·subst e0;rw [List.getElem?_set_self (by omega)];exact(VX C R S n t 0 ht (by omega)).symm
 rw [List.getElem?_set_ne e0];exact hy j (by omega)
theorem OE {n:Nat} {ys:List Value} {C R:Nat→Int} {S:Nat→ByteArray} (hl:ys.length=n*3) (hy: ∀j,j<n*3→ys[j]? =(clX C R S n)[j]?):ys=clX C R S n:=by
 apply List.ext_getElem?;intro j;by_cases h:j<n*3
 ·exact hy j h
 ·rw [List.getElem?_eq_none (by omega),List.getElem?_eq_none (by rw [Bc];omega)]
theorem MH (c r:Int) (s:ByteArray) (l:Int) (w:World) (hs:s.size≤maxLen) (h0:0≤l) (h1:l≤1048576):Calls Tryz.prog 20 #[.agg #[.int .i64 c,.int .i64 r,.string s],.int .i64 l] w fun e w'=>
  e= .returned (.int .i64 (szv l s.size))∧Below w.heap.size w w':=by
 unfold maxLen at hs;by_cases hz:l-(s.size:Int)<0
 ·have he:Hid (szv l s.size= -1):=by show _=_;unfold szv;rw [if_pos hz]
  go_enter Tryz.func20,Tryz.ntmps20;go_wp2_with fail
  go_ret;exact⟨Qs he.out.symm,by go_grown⟩
 ·have he:Hid (szv l s.size=l-(s.size:Int)):=by show _=_;unfold szv;rw [if_neg hz]
  go_enter Tryz.func20,Tryz.ntmps20;go_wp2_with fail
  go_ret;exact⟨Qs he.out.symm,by go_grown⟩
theorem MG (c r:Int) (s:ByteArray) (w:World):Calls Tryz.prog 23 #[.agg #[.int .i64 c,.int .i64 r,.string s]] w fun e w'=>
  e= .returned (.agg #[.int .i64 c,.int .i64 r,.string s])∧Below w.heap.size w w':=by
 go_enter Tryz.func23,Tryz.ntmps23
 go_wp2_with (first
  | (go_at_call 36;refine(Oe _ _ _).mono ?_;rintro e w1 ⟨rfl,hb⟩;obtain⟨hc,hf,hC,hF,hz,hk,l0,l1,l2⟩:=bk3 (w:=w) (by go_grown) (by go_size) hb;clear hb))
 refine bodyPost_ret (v:= .agg #[.int .i64 c,.int .i64 r,.string s]) ?_ rfl ⟨rfl,by go_grown⟩;simp (maxDischargeDepth:=9) [results,Tryz.results23,go_sem, *]
theorem MI (c r:Int) (s:ByteArray) (w:World):Calls Tryz.prog 27 #[.agg #[.int .i64 c,.int .i64 r,.string s],.agg #[.int .i64 c,.int .i64 r,.string s]] w fun e w'=>
  e= .returned (.bool true)∧Below w.heap.size w w':=by
 go_enter Tryz.func27,Tryz.ntmps27
 go_wp2_with (first
  | (go_at_call 33;refine(Og _ _ _).mono ?_;rintro e w1 ⟨rfl,hb⟩;obtain⟨hc,hf,hC,hF,hz,hk,l0,l1⟩:=bk2 (w:=w) (by go_grown) (by go_size) hb;clear hb))
 go_ret;exact⟨rfl,by go_grown⟩
theorem ZI (c r:Int) (s:ByteArray) (w:World):Calls Tryz.prog 38 #[.agg #[.int .i64 c,.int .i64 r,.string s]] w fun e w'=>
  e= .returned (.agg #[.int .i64 c,.int .i64 r])∧Below w.heap.size w w':=by
 go_enter Tryz.func38,Tryz.ntmps38;go_wp2
 go_returns
 exact⟨rfl,by go_grown⟩
theorem Qda {A:Option Addr} {n cap:Nat} {C R:Nat→Int} {S:Nat→ByteArray} (w:World) (h:ClRow w A n C R S) (hn:n≤1048576):
  Calls Tryz.prog 7 #[.slice A n cap] w fun e w'=> ∃v,e= .returned v∧w'.ownsRow w.heap.size 50 3 v n (clX C R S n)∧Below w.heap.size w w':=by
 have HR:Hid (ClRow w A n C R S):=h;clear h;obtain⟨i0,hi,hz0,hz1,hz2⟩:=info_parts Qhw;go_enter Tryz.func7,Tryz.ntmps7;go_wp2_with (refine wpList_make_full _ rfl _ _ 26 rfl w.heap.size 50 i0 _ 3 Tryz.underlying26 hi hz0 hz1 _ _ _ _ n rfl rfl rfl rfl ?m1 ?m2 ?m3 ?_)
 case m1=>rw [hz2];omega
 case m2=>unfold maxLen;omega
 case m3=>exact Nat.le_refl _
 intro w1 hown hgrow;have hg1:Below w.heap.size w w1:=(Below.refl _ _).grown hgrow (Nat.le_refl _) (fun k hk=>by cases hk);obtain⟨ys,hown⟩: ∃ys,w1.ownsRow w.heap.size 50 3 (.slice (some ⟨w.heap.size,0,none⟩) n n) n ys:=⟨_,hown⟩;clear hgrow;have HO:Hid (w1.ownsRow w.heap.size 50 3 (.slice (some ⟨w.heap.size,0,none⟩) n n) n ys):=hown;clear hown;go_wp2_with fail
 go_loopw [4] (fun i wr=> ∃t:Nat,t≤n∧i= .int .i64 t∧(∃ys,wr.ownsRow w.heap.size 50 3 (.slice (some ⟨w.heap.size,0,none⟩) n n) n ys∧ ∀j,j<t*3→ys[j]? =(clX C R S n)[j]?)∧Below w.heap.size w wr) (fun i _=>n-(intOf i).toNat)
 case atStart=>exact⟨0,Nat.zero_le _,rfl,⟨ys,HO.out,fun j hj=>by omega⟩,hg1⟩
 case round=>
  clear HO hg1;obtain⟨t,ht,rfl,⟨ys,hown,hys⟩,hbel⟩:=hrel;by_cases hlt:t<n
  ·obtain⟨b,o,rfl,hl,c0,c1,c2,hs⟩:=HR.out.2 t hlt;rw [←hbel.cell (p:=⟨_,_,none⟩) hl]at c0 c1 c2;have q0:(0:Int)≤(t:Int):=by omega
   have q1:(t:Int)<(n:Int):=by omega
   have HO:Hid (wr.ownsRow w.heap.size 50 3 (.slice (some ⟨w.heap.size,0,none⟩) n n) n ys):=hown;have HY:Hid (∀j,j<t*3→ys[j]? =(clX C R S n)[j]?):=hys;have HB:Hid (Below w.heap.size w wr):=hbel;clear hown hys hbel;go_wp2_with fail
   refine(MG _ _ _ _).mono ?_;rintro e w2 ⟨rfl,hb⟩;have HO2:=hd (Qp HO.out hb);have HB2:=hd (Qc HB.out hb);obtain⟨A',cap',e,_,hc⟩:=QP HO2.out;cases e
   obtain⟨g0,e0,_,hg,d0,f0⟩:=hc (t*3) (by omega);obtain⟨g1,e1,_,_,d1,f1⟩:=hc (t*3+1) (by omega);obtain⟨g2,e2,_,_,d2,f2⟩:=hc (t*3+2) (by omega);cases e0
   cases e1
   cases e2
   clear hc hb c0 c1 c2 HO HB;have hl5:=HO2.out.1;obtain⟨x0,y0⟩: ∃x,ys[t*3]? =some x:=⟨_,List.getElem?_eq_getElem (by omega)⟩;obtain⟨x1,y1⟩: ∃x,ys[t*3+1]? =some x:=⟨_,List.getElem?_eq_getElem (by omega)⟩;obtain⟨x2,y2⟩: ∃x,ys[t*3+2]? =some x:=⟨_,List.getElem?_eq_getElem (by omega)⟩;rw [y0]at d0;rw [y1]at d1
   rw [y2]at d2;clear y0 y1 y2 hl5
   have HT:Hid (∃zs,(((w2.setCell ⟨w.heap.size,t*3,none⟩ (.int .i64 (C t))).setCell ⟨w.heap.size,t*3+1,none⟩ (.int .i64 (R t))).setCell ⟨w.heap.size,t*3+2,none⟩ (.string (S t))).ownsRow w.heap.size 50 3 (.slice (some ⟨w.heap.size,0,none⟩) n n) n zs∧
    (∀j,j<(t+1)*3→zs[j]? =(clX C R S n)[j]?)∧w2.grownBy (((w2.setCell ⟨w.heap.size,t*3,none⟩ (.int .i64 (C t))).setCell ⟨w.heap.size,t*3+1,none⟩ (.int .i64 (R t))).setCell ⟨w.heap.size,t*3+2,none⟩ (.string (S t))) (some w.heap.size)):=BL HO2.out hlt HY.out
   clear HO2 HY;go_wp2_with fail
   all_goals
    go_roundw
    case rel=>
     obtain⟨zs,z1,z2,z3⟩:=HT.out;exact⟨t+1,by omega,by simp,⟨zs,z1,z2⟩,HB2.out.grown z3 HB2.out.size (fun k hk=>by cases hk;exact Nat.le_refl _)⟩
    case measure=>simp [intOf];omega
  ·have q1: ¬(t:Int)<(n:Int):=by omega
   obtain rfl:t=n:=by omega
   go_wp2_with fail
   go_ret;exact⟨_,rfl,by rw [OE hown.1 hys]at hown;exact hown,hbel⟩
theorem Qdb {A:Option Addr} {n cap:Nat} {C R:Nat→Int} {S:Nat→ByteArray} (w:World) (h:ClRow w A n C R S):
  Calls Tryz.prog 5 #[.slice A n cap,.int .i64 1048576] w fun e w'=> ∃z:Int,e= .returned (.int .i64 z)∧(0≤z→n≤1048576)∧Below w.heap.size w w':=by
 have HR:Hid (ClRow w A n C R S):=h;have hm:=h.1;clear h;unfold maxLen at hm;by_cases hbig:(1048576:Int)-(n:Int)<0
 ·go_enter Tryz.func5,Tryz.ntmps5;go_wp2_with fail
  go_ret;exact⟨-1,rfl,fun h=>by omega,by go_grown⟩
 ·go_enter Tryz.func5,Tryz.ntmps5;go_wp2_with fail
  go_loopw [1,5] (fun l i wr=> ∃(t:Nat) (z:Int),t≤n∧i= .int .i64 t∧l= .int .i64 z∧0≤z∧z≤1048576∧Below w.heap.size w wr) (fun _ i _=>n-(intOf i).toNat)
  case atStart=>exact⟨0,_,Nat.zero_le _,rfl,rfl,by omega,by omega,Below.refl _ _⟩
  case round=>
   obtain⟨t,z,ht,rfl,rfl,z0,z1,hbel⟩:=hrel;by_cases hlt:t<n
   ·obtain⟨b,o,rfl,hl,c0,c1,c2,hs⟩:=HR.out.2 t hlt;rw [←hbel.cell (p:=⟨_,_,none⟩) hl]at c0 c1 c2;have q0:(0:Int)≤(t:Int):=by omega
    have q1:(t:Int)<(n:Int):=by omega
    have HB:Hid (Below w.heap.size w wr):=hbel;clear hbel;go_wp2_with fail
    refine(MH _ _ _ _ _ hs z0 z1).mono ?_;rintro e w2 ⟨rfl,hb⟩;have HB2:=hd (Qc HB.out hb);clear hb c0 c1 c2;have HZ:Hid (szv z (S t).size≤1048576):=by show _≤_;unfold szv;split<;>omega
    by_cases hz:szv z (S t).size<0
    ·go_wp2_with fail
     go_ret;exact⟨_,rfl,fun h=>by omega,HB2.out⟩
    ·go_wp2_with fail
     go_roundw
     case rel=>exact⟨t+1,_,by omega,by go_num,rfl,by omega,HZ.out,HB2.out⟩
     case measure=>simp [intOf];omega
   ·have q1: ¬(t:Int)<(n:Int):=by omega
    go_wp2_with fail
    go_ret;exact⟨_,rfl,fun h=>by omega,hbel⟩
theorem Qdc {A A':Option Addr} {n cap cap':Nat} {C R:Nat→Int} {S:Nat→ByteArray} (w:World) (h:ClRow w A n C R S) (h':ClRow w A' n C R S):
  Calls Tryz.prog 10 #[.slice A n cap,.slice A' n cap'] w fun e w'=>e= .returned (.bool true)∧Below w.heap.size w w':=by
 have HR:Hid (ClRow w A n C R S):=h;have HR':Hid (ClRow w A' n C R S):=h';have hn:=h.1;unfold maxLen at hn;clear h h';go_enter Tryz.func10,Tryz.ntmps10;go_wp2_with fail
 go_loopw [5] (fun i wr=> ∃k:Nat,k≤n∧i= .int .i64 k∧Below w.heap.size w wr) (fun i _=>n-(intOf i).toNat)
 case atStart=>exact⟨0,Nat.zero_le _,rfl,Below.refl _ _⟩
 case round=>
  obtain⟨k,hk,rfl,hbel⟩:=hrel;by_cases hlt:k<n
  ·obtain⟨b,o,rfl,hl,c0,c1,c2,hs⟩:=HR.out.2 k hlt;obtain⟨b',o',rfl,hl',c0',c1',c2',_⟩:=HR'.out.2 k hlt;have hs:=hbel.size;have hW:=fun b o h=>hbel.cell (p:=⟨b,o,none⟩) h;have h0:(0:Int)≤(k:Int):=by omega
   have h1:(k:Int)<(n:Int):=by omega
   go_wp2_with fail
   go_region_held3 (fun w'=>(∀bq oq,bq<w.heap.size→w'.cell? ⟨bq,oq,none⟩=w.cell? ⟨bq,oq,none⟩)∧w.heap.size≤w'.heap.size∧Below w.heap.size w w')
    (exact Qo (Nat.le_refl _) (by go_grown))
    (first
    | (go_at_call 27;refine(MI (C k) (R k) (S k) _).mono ?_;rintro e w1 ⟨rfl,hb⟩;obtain⟨hk1,hz1⟩:=Qf (B:=w.heap.size) (X:=w) (by go_grown) (by go_size) hb;clear hb))
   all_goals go_wp2_with fail
   all_goals
    go_roundw
    case rel=>exact⟨k+1,by omega,by go_num,by go_grown⟩
    case measure=>simp [intOf];omega
  ·have h1: ¬(k:Int)<(n:Int):=by omega
   go_wp2_with fail
   go_ret;exact⟨rfl,hbel⟩
def Za (C R:Nat→Int) (i:Nat):Bool:=Qj (C i) (R i)&&(decide (i=0) || XA (C (i-1)) (R (i-1)) (C i) (R i))
def VL (C R:Nat→Int) (n:Nat):Bool:=(List.range n).all (Za C R)
theorem ED {n:Nat} {w X w':World} (h0:Below w.heap.size w X) (h:Below (w.heap.size+n) X w'):Below w.heap.size w w':=h0.trans (h.mono (Nat.le_add_right _ _))
theorem Vw {f:Nat→Bool} {n k:Nat} (hk:k<n) (h:f k=false):(List.range n).all f=false:=by
 rw [List.all_eq_false];exact⟨k,List.mem_range.2 hk,by simp [h]⟩
theorem Vf {f:Nat→Bool} {n:Nat} (h: ∀i,i<n→f i=true):(List.range n).all f=true:=by
 rw [List.all_eq_true];exact fun i hi=>h i (List.mem_range.1 hi)
theorem Yq {A:Option Addr} {n cap:Nat} {C R:Nat→Int} {S:Nat→ByteArray} (w:World) (h:ClRow w A n C R S):
  Calls Tryz.prog 37 #[.slice A n cap,.func (.func 38) #[] #[]] w fun e w'=>e= .returned (.bool (VL C R n))∧Below w.heap.size w w':=by
 have HR:Hid (ClRow w A n C R S):=h;have hn:=h.1;unfold maxLen at hn;clear h;go_enter Tryz.func37,Tryz.ntmps37;go_wp2_with fail
 go_loopw [9] (fun i wr=> ∃k:Nat,k≤n∧i= .int .i64 k∧(∀i,i<k→Za C R i=true)∧Below w.heap.size w wr) (fun i _=>n-(intOf i).toNat)
 case atStart=>exact⟨0,Nat.zero_le _,rfl,fun i hi=>by omega,Below.refl _ _⟩
 case round=>
  obtain⟨k,hk,rfl,hr,hbel⟩:=hrel;have HI:Hid (∀i,i<k→Za C R i=true):=hr;clear hr;by_cases hlt:k<n
  ·obtain⟨b,o,rfl,hl,c0,c1,c2,_⟩:=HR.out.2 k hlt;have hs:=hbel.size;rw [←hbel.cell (p:=⟨_,_,none⟩) hl]at c0 c1 c2;have hl2:b<wr.heap.size:=Nat.lt_of_lt_of_le hl hs;have hl3:b<wr.heap.size+1:=Nat.lt_succ_of_lt hl2;have h0:(0:Int)≤(k:Int):=by omega
   have h1:(k:Int)<(n:Int):=by omega
   cases ho:Qj (C k) (R k)
   ·have HO:Hid (Qj (C k) (R k)=false):=ho;have HF:Hid (VL C R n=false):=Vw hlt (by simp [Za,ho]);clear ho;go_wp2_with fail
    refine wp_region_held_drew (S:=(fun w'=>(∀bq oq,bq<wr.heap.size+1→w'.cell? ⟨bq,oq,none⟩=(wr.alloc (.cells #[.int .i64 (C k),.int .i64 (R k),.string (S k)] 50)).cell? ⟨bq,oq,none⟩)∧wr.heap.size+1≤w'.heap.size∧Below (wr.heap.size+1) (wr.alloc (.cells #[.int .i64 (C k),.int .i64 (R k),.string (S k)] 50)) w')) (by kernel_rfl) (Qo (by go_size) (by go_grown)) (fun hHeld=> ?_);refine tkA 0 ?_;refine tkB 1 ?_;refine rqA 2 (fun Kq hKq=> ?_);go_simp
    (refine(ZI _ _ _ _).mono ?_;rintro e w1 ⟨rfl,hb⟩;obtain⟨hk1,hz1⟩:=Qf (B:=wr.heap.size+1) (X:=(wr.alloc (.cells #[.int .i64 (C k),.int .i64 (R k),.string (S k)] 50))) (by go_grown) (by go_size) hb;have hC:=fun b o h=>hk1.cell (p:=⟨b,o,none⟩) h;clear hb)
    refine hkB hKq (Qo (by go_size) (by go_grown)) fun hHeld=> ?_;clear hKq Kq;refine rqA 3 (fun Kq hKq=> ?_);go_simp
    (refine(Zc _ _ _).mono ?_;rintro e w1 ⟨rfl,hb⟩;rw [HO.out];obtain⟨hk1,hz1⟩:=Qf (B:=wr.heap.size+1) (X:=(wr.alloc (.cells #[.int .i64 (C k),.int .i64 (R k),.string (S k)] 50))) (by go_grown) (by go_size) hb;have hC:=fun b o h=>hk1.cell (p:=⟨b,o,none⟩) h;clear hb)
    refine hkB hKq (Qo (by go_size) (by go_grown)) fun hHeld=> ?_;clear hKq Kq;refine tkA 4 ?_;refine tkB 5 ?_;refine tnA 6 ?_;refine tnB 7 ?_;refine tnA 8 ?_
    refine tnB 9 ?_;refine tnA 10 ?_;refine tnB 11 ?_;refine tnA 12 ?_;refine tnB 13 ?_;refine tnA 14 ?_;refine tnB 15 ?_
    refine tnA 16 ?_;refine tnB 17 ?_;refine tnA 18 ?_;refine tnB 19 ?_;refine tnA 20 ?_;refine tnB 21 ?_;refine tkB 22 ?_
    refine wpAnyH_done (by kernel_rfl) ?_ _;all_goals go_wp2_with fail
    all_goals
     go_ret;exact⟨Qa HF.out.symm,(hbel.trans (Below.mono (ED (n:=1) (X:=(wr.alloc (.cells #[.int .i64 (C k),.int .i64 (R k),.string (S k)] 50))) (by go_grown) (by go_grown)) hs))⟩
   have HO:Hid (Qj (C k) (R k)=true):=ho;clear ho;match k,hk,hlt,HI,HO,c0,c1,c2,h0,h1 with
   | 0,hk,hlt,HI,HO,c0,c1,c2,h0,h1=>
    have hR:Za C R 0=true:=by simp [Za,HO.out]
    have HI':Hid (∀i,i<0+1→Za C R i=true):=fun i hi=>by rw [show i=0 by omega];exact hR
    simp only [Nat.zero_mul,Nat.add_zero]at c0 c1 c2;clear hR;go_wp2_with fail
    refine wp_region_held_drew (S:=(fun w'=>(∀bq oq,bq<wr.heap.size+1→w'.cell? ⟨bq,oq,none⟩=(wr.alloc (.cells #[.int .i64 (C 0),.int .i64 (R 0),.string (S 0)] 50)).cell? ⟨bq,oq,none⟩)∧wr.heap.size+1≤w'.heap.size∧Below (wr.heap.size+1) (wr.alloc (.cells #[.int .i64 (C 0),.int .i64 (R 0),.string (S 0)] 50)) w')) (by kernel_rfl) (Qo (by go_size) (by go_grown)) (fun hHeld=> ?_);refine tkA 0 ?_;refine tkB 1 ?_;refine rqA 2 (fun Kq hKq=> ?_);go_simp
    (refine(ZI _ _ _ _).mono ?_;rintro e w1 ⟨rfl,hb⟩;obtain⟨hk1,hz1⟩:=Qf (B:=wr.heap.size+1) (X:=(wr.alloc (.cells #[.int .i64 (C 0),.int .i64 (R 0),.string (S 0)] 50))) (by go_grown) (by go_size) hb;have hC:=fun b o h=>hk1.cell (p:=⟨b,o,none⟩) h;clear hb)
    refine hkB hKq (Qo (by go_size) (by go_grown)) fun hHeld=> ?_;clear hKq Kq;refine rqA 3 (fun Kq hKq=> ?_);go_simp
    (refine(Zc _ _ _).mono ?_;rintro e w1 ⟨rfl,hb⟩;rw [HO.out];obtain⟨hk1,hz1⟩:=Qf (B:=wr.heap.size+1) (X:=(wr.alloc (.cells #[.int .i64 (C 0),.int .i64 (R 0),.string (S 0)] 50))) (by go_grown) (by go_size) hb;have hC:=fun b o h=>hk1.cell (p:=⟨b,o,none⟩) h;clear hb)
    refine hkB hKq (Qo (by go_size) (by go_grown)) fun hHeld=> ?_;clear hKq Kq;refine tkA 4 ?_;refine tkB 5 ?_;refine tkA 6 ?_;refine tkB 7 ?_;refine tkA 8 ?_
    refine tnB 9 ?_;refine tnA 10 ?_;refine tnB 11 ?_;refine tnA 12 ?_;refine tnB 13 ?_;refine tnA 14 ?_;refine tnB 15 ?_
    refine tnA 16 ?_;refine tnB 17 ?_;refine tnA 18 ?_;refine tnB 19 ?_;refine tnA 20 ?_;refine tkB 21 ?_;refine tkB 22 ?_
    refine wpAnyH_done (by kernel_rfl) ?_ _;all_goals go_wp2_with fail
    all_goals
     go_roundw
     case rel=>exact⟨0+1,by omega,by go_num,HI'.out,(hbel.trans (Below.mono (ED (n:=1) (X:=(wr.alloc (.cells #[.int .i64 (C 0),.int .i64 (R 0),.string (S 0)] 50))) (by go_grown) (by go_grown)) hs))⟩
     case measure=>simp [intOf];omega
   | m+1,hk,hlt,HI,HO,c0,c1,c2,h0,h1=>
    obtain⟨b',o',e',_,d0,d1,d2,_⟩:=HR.out.2 m (by omega);cases e'
    rw [←hbel.cell (p:=⟨_,_,none⟩) hl]at d0 d1 d2;have p0:(0:Int)≤(m:Int):=by omega
    have p1:(m:Int)<(n:Int):=by omega
    have p2:IntKind.i64.wrap (m:Int)=(m:Int):=by rw [IntKind.wrap_i64];omega
    have p3:IntKind.i64.wrap ((m:Int)+1-1)=(m:Int):=by rw [IntKind.wrap_i64];omega
    cases ha:XA (C m) (R m) (C (m+1)) (R (m+1))
    ·have HA:Hid (0≤Qf0 (C m) (R m) (C (m+1)) (R (m+1))):=(Hh _ _ _ _).2 ha;have hA:=HA.out;have HF:Hid (VL C R n=false):=Vw hlt (by simp [Za,ha]);clear ha;go_wp2_with fail
     go_region_held3 (fun w'=>(∀bq oq,bq<wr.heap.size+1→w'.cell? ⟨bq,oq,none⟩=(wr.alloc (.cells #[.int .i64 (C (m+1)),.int .i64 (R (m+1)),.string (S (m+1))] 50)).cell? ⟨bq,oq,none⟩)∧wr.heap.size+1≤w'.heap.size∧Below (wr.heap.size+1) (wr.alloc (.cells #[.int .i64 (C (m+1)),.int .i64 (R (m+1)),.string (S (m+1))] 50)) w')
      (exact Qo (by go_size) (by go_grown))
      (first
      | (go_at_call 38;refine(ZI _ _ _ _).mono ?_;rintro e w1 ⟨rfl,hb⟩;obtain⟨hk1,hz1⟩:=Qf (B:=wr.heap.size+1) (X:=(wr.alloc (.cells #[.int .i64 (C (m+1)),.int .i64 (R (m+1)),.string (S (m+1))] 50))) (by go_grown) (by go_size) hb;have hC:=fun b o h=>hk1.cell (p:=⟨b,o,none⟩) h;clear hb)
      | (go_at_call 51;refine(Zc _ _ _).mono ?_;rintro e w1 ⟨rfl,hb⟩;rw [HO.out];obtain⟨hk1,hz1⟩:=Qf (B:=wr.heap.size+1) (X:=(wr.alloc (.cells #[.int .i64 (C (m+1)),.int .i64 (R (m+1)),.string (S (m+1))] 50))) (by go_grown) (by go_size) hb;have hC:=fun b o h=>hk1.cell (p:=⟨b,o,none⟩) h;clear hb)
      | (go_at_call 52;refine(YN _ _ _ _ _).mono ?_;rintro e w1 ⟨rfl,hb⟩;obtain⟨hk1,hz1⟩:=Qf (B:=wr.heap.size+1) (X:=(wr.alloc (.cells #[.int .i64 (C (m+1)),.int .i64 (R (m+1)),.string (S (m+1))] 50))) (by go_grown) (by go_size) hb;have hC:=fun b o h=>hk1.cell (p:=⟨b,o,none⟩) h;clear hb))
     all_goals go_wp2_with fail
     all_goals
      go_ret;exact⟨Qa HF.out.symm,(hbel.trans (Below.mono (ED (n:=1) (X:=(wr.alloc (.cells #[.int .i64 (C (m+1)),.int .i64 (R (m+1)),.string (S (m+1))] 50))) (by go_grown) (by go_grown)) hs))⟩
    ·have hA: ¬0≤Qf0 (C m) (R m) (C (m+1)) (R (m+1)):=fun h=>by rw [(Hh _ _ _ _).1 h]at ha;cases ha
     have hR:Za C R (m+1)=true:=by simp [Za,HO.out,ha]
     have HI':Hid (∀i,i<m+1+1→Za C R i=true):=fun i hi=>by
      by_cases e:i=m+1
      ·subst e;exact hR
      ·exact HI.out i (by omega)
     clear ha hR;go_wp2_with fail
     go_region_held3 (fun w'=>(∀bq oq,bq<wr.heap.size+1→w'.cell? ⟨bq,oq,none⟩=(wr.alloc (.cells #[.int .i64 (C (m+1)),.int .i64 (R (m+1)),.string (S (m+1))] 50)).cell? ⟨bq,oq,none⟩)∧wr.heap.size+1≤w'.heap.size∧Below (wr.heap.size+1) (wr.alloc (.cells #[.int .i64 (C (m+1)),.int .i64 (R (m+1)),.string (S (m+1))] 50)) w')
      (exact Qo (by go_size) (by go_grown))
      (first
      | (go_at_call 38;refine(ZI _ _ _ _).mono ?_;rintro e w1 ⟨rfl,hb⟩;obtain⟨hk1,hz1⟩:=Qf (B:=wr.heap.size+1) (X:=(wr.alloc (.cells #[.int .i64 (C (m+1)),.int .i64 (R (m+1)),.string (S (m+1))] 50))) (by go_grown) (by go_size) hb;have hC:=fun b o h=>hk1.cell (p:=⟨b,o,none⟩) h;clear hb)
      | (go_at_call 51;refine(Zc _ _ _).mono ?_;rintro e w1 ⟨rfl,hb⟩;rw [HO.out];obtain⟨hk1,hz1⟩:=Qf (B:=wr.heap.size+1) (X:=(wr.alloc (.cells #[.int .i64 (C (m+1)),.int .i64 (R (m+1)),.string (S (m+1))] 50))) (by go_grown) (by go_size) hb;have hC:=fun b o h=>hk1.cell (p:=⟨b,o,none⟩) h;clear hb)
      | (go_at_call 52;refine(YN _ _ _ _ _).mono ?_;rintro e w1 ⟨rfl,hb⟩;obtain⟨hk1,hz1⟩:=Qf (B:=wr.heap.size+1) (X:=(wr.alloc (.cells #[.int .i64 (C (m+1)),.int .i64 (R (m+1)),.string (S (m+1))] 50))) (by go_grown) (by go_size) hb;have hC:=fun b o h=>hk1.cell (p:=⟨b,o,none⟩) h;clear hb))
     all_goals go_wp2_with fail
     all_goals
      go_roundw
      case rel=>exact⟨m+1+1,by omega,by go_num,HI'.out,(hbel.trans (Below.mono (ED (n:=1) (X:=(wr.alloc (.cells #[.int .i64 (C (m+1)),.int .i64 (R (m+1)),.string (S (m+1))] 50))) (by go_grown) (by go_grown)) hs))⟩
      case measure=>simp [intOf];omega
  ·have h1: ¬(k:Int)<(n:Int):=by omega
   obtain rfl:k=n:=by omega
   go_wp2_with fail
   go_ret;exact⟨Qa (Vf HI.out).symm,hbel⟩
def GP (s:ByteArray):Bool:=match inF s with
 | some t=>t.toList==s.toList
 | none=>false
def Yk (S:Nat→ByteArray) (i:Nat):Bool:= !(S i).toList.isEmpty&&GP (S i)
def Yg (C R:Nat→Int) (S:Nat→ByteArray) (n:Nat):Bool:=decide (n≤120)&&VL C R n&&(List.range n).all (Yk S)
theorem NG {C R:Nat→Int} {S:Nat→ByteArray} {n:Nat} (h:120<n):Yg C R S n=false:=by
 have e:decide (n≤120)=false:=by simp;omega
 simp [Yg,e]
theorem VD {C R:Nat→Int} {S:Nat→ByteArray} {n:Nat} (h:VL C R n=false):Yg C R S n=false:=by
 simp [Yg,h]
theorem XQ {C R:Nat→Int} {S:Nat→ByteArray} {n k:Nat} (hk:k<n) (h:Yk S k=false):Yg C R S n=false:=by
 have e:(List.range n).all (Yk S)=false:=Vw hk h;simp [Yg,e]
theorem NF {C R:Nat→Int} {S:Nat→ByteArray} {n:Nat} (h:n≤120) (hr:VL C R n=true) (hv:(List.range n).all (Yk S)=true):Yg C R S n=true:=by
 simp [Yg,h,hr,hv]
theorem YM (s:ByteArray) (w:World) (hs:s.size≤maxLen) (hg:GI w):Calls Tryz.prog 39 #[.string s] w fun e w'=>e= .returned (.bool (GP s))∧Below w.heap.size w w':=by
 have HG:Hid (GI w):=hg;clear hg;cases ho:inF s with
 | none=>
  have HO:Hid (inF s=none):=ho;have HB:Hid (GP s=false):=by show _=_;unfold GP;rw [ho]
  clear ho;go_enter Tryz.func39,Tryz.ntmps39;go_wp2_with fail
  refine(JK s w hs HG.out).mono ?_;rintro e u1 ⟨he,hb⟩;rw [HO.out]at he;obtain rfl:e= .returned (.tuple #[.string ⟨#[]⟩,.bool false]):=he;go_wp2_with fail
  go_ret;exact⟨Qa HB.out.symm,hb⟩
 | some t=>
  have HO:Hid (inF s=some t):=ho;have HB:Hid (GP s=(t.toList==s.toList)):=by show _=_;unfold GP;rw [ho]
  clear ho;go_enter Tryz.func39,Tryz.ntmps39;go_wp2_with fail
  refine(JK s w hs HG.out).mono ?_;rintro e u1 ⟨he,hb⟩;rw [HO.out]at he;obtain rfl:e= .returned (.tuple #[.string t,.bool true]):=he;go_wp2_with fail
  go_ret;exact⟨Qa HB.out.symm,hb⟩
theorem Qdd {A:Option Addr} {n cap:Nat} {C R:Nat→Int} {S:Nat→ByteArray} (w:World) (h:ClRow w A n C R S) (hg:GI w):
  Calls Tryz.prog 24 #[.slice A n cap] w fun e w'=>e= .returned (.bool (Yg C R S n))∧Below w.heap.size w w':=by
 have HR:Hid (ClRow w A n C R S):=h;have HG:Hid (GI w):=hg;have hn:=h.1;unfold maxLen at hn;clear h hg;by_cases hbig:(120:Int)<(n:Int)
 ·have HF:Hid (Yg C R S n=false):=NG (by omega);go_enter Tryz.func24,Tryz.ntmps24;go_wp2_with fail
  go_ret;exact⟨Qa HF.out.symm,by go_grown⟩
 cases hrs:VL C R n
 ·have HRS:Hid (VL C R n=false):=hrs;have HF:Hid (Yg C R S n=false):=VD hrs;clear hrs;go_enter Tryz.func24,Tryz.ntmps24;go_wp2_with (go_at_call 37;refine(Yq _ HR.out).mono ?_;rintro e w1 ⟨rfl,hb⟩;rw [HRS.out])
  go_ret;exact⟨Qa HF.out.symm,by go_grown⟩
 have HRS:Hid (VL C R n=true):=hrs;clear hrs;go_enter Tryz.func24,Tryz.ntmps24;go_wp2_with fail
 refine(Yq _ HR.out).mono ?_;rintro e w1 ⟨rfl,hb1⟩;rw [HRS.out];go_wp2_with fail
 go_loopw [15] (fun i wr=> ∃k:Nat,k≤n∧i= .int .i64 k∧(∀i,i<k→Yk S i=true)∧Below w.heap.size w wr) (fun i _=>n-(intOf i).toNat)
 case atStart=>exact⟨0,Nat.zero_le _,rfl,fun i hi=>by omega,hb1⟩
 case round=>
  clear hb1;obtain⟨k,hk,rfl,hr,hbel⟩:=hrel;have HI:Hid (∀i,i<k→Yk S i=true):=hr;clear hr;by_cases hlt:k<n
  ·obtain⟨b,o,rfl,hl,c0,c1,c2,hsz⟩:=HR.out.2 k hlt;have HS:Hid ((S k).size≤maxLen):=hsz;clear hsz;have hs:=hbel.size;have HGr:=hd (HG.out.below hbel);rw [←hbel.cell (p:=⟨_,_,none⟩) hl]at c0 c1 c2;have hl2:b<wr.heap.size:=Nat.lt_of_lt_of_le hl hs
   have h0:(0:Int)≤(k:Int):=by omega
   have h1:(k:Int)<(n:Int):=by omega
   cases he:(S k).toList.isEmpty
   ·cases hv:GP (S k)
    ·have HV:Hid (GP (S k)=false):=hv;have HF:Hid (Yg C R S n=false):=XQ hlt (by simp [Yk,hv]);clear hv;go_wp2_with (go_at_call 39;refine(YM _ _ HS.out (HGr.out.below (by go_grown))).mono ?_;rintro e w2 ⟨rfl,hb⟩;rw [HV.out];have hk1:=Qc (w:=wr) (by go_grown) hb;clear hb)
     go_ret;exact⟨Qa HF.out.symm,Qc hbel (by go_grown)⟩
    ·have HV:Hid (GP (S k)=true):=hv;have HT:Hid (Yk S k=true):=by show _=_;simp [Yk,hv,he]
     clear hv;go_wp2_with (go_at_call 39;refine(YM _ _ HS.out (HGr.out.below (by go_grown))).mono ?_;rintro e w2 ⟨rfl,hb⟩;rw [HV.out];have hk1:=Qc (w:=wr) (by go_grown) hb;clear hb)
     go_roundw
     case rel=>exact⟨k+1,by omega,by go_num,fun i hi=>by
      by_cases e:i=k
      ·subst e;exact HT.out
      ·exact HI.out i (by omega),Qc hbel (by go_grown)⟩
     case measure=>simp [intOf];omega
   ·have HF:Hid (Yg C R S n=false):=XQ hlt (by simp [Yk,he]);go_wp2_with fail
    go_ret;exact⟨Qa HF.out.symm,Qc hbel (by go_grown)⟩
  ·have h1: ¬(k:Int)<(n:Int):=by omega
   obtain rfl:k=n:=by omega
   go_wp2_with fail
   go_ret;exact⟨Qa (NF (by omega) HRS.out (Vf HI.out)).symm,hbel⟩
theorem BP {o:Option ByteArray} {e:Ending} (h:opA o e): ∃t ok,e= .returned (.tuple #[.string t,.bool ok]):=by
 cases o with
 | none=>exact⟨_,_,h⟩
 | some t=>exact⟨_,_,h⟩
theorem Qc9 {A:Option Addr} {n cap:Nat} {C R:Nat→Int} {S:Nat→ByteArray} (w:World) (h:ClRow w A n C R S):
  Calls Tryz.prog 21 #[.slice A n cap] w fun e w'=>e= .returned (.bool (Yg C R S n))∧Below w.heap.size w w':=by
 have HR:Hid (ClRow w A n C R S):=h;have hn:=h.1;unfold maxLen at hn;clear h;by_cases hbig:(120:Int)<(n:Int)
 ·have HF:Hid (Yg C R S n=false):=NG (by omega);go_enter Tryz.func21,Tryz.ntmps21;go_wp2_with fail
  go_ret;exact⟨Qa HF.out.symm,by go_grown⟩
 go_enter Tryz.func21,Tryz.ntmps21;go_wp2_with fail
 go_loopw [3] (fun i wr=> ∃k:Nat,k≤n∧i= .int .i64 k∧(∀i,i<k→Za C R i=true∧Yk S i=true)∧Below w.heap.size w wr) (fun i _=>n-(intOf i).toNat)
 case atStart=>exact⟨0,Nat.zero_le _,rfl,fun i hi=>by omega,Below.refl _ _⟩
 case round=>
  obtain⟨k,hk,rfl,hr,hbel⟩:=hrel;have HI:Hid (∀i,i<k→Za C R i=true∧Yk S i=true):=hr;clear hr;by_cases hlt:k<n
  ·obtain⟨b,o,rfl,hl,c0,c1,c2,hsz⟩:=HR.out.2 k hlt;have HS:Hid ((S k).size≤maxLen):=hsz;clear hsz;have hs:=hbel.size;rw [←hbel.cell (p:=⟨_,_,none⟩) hl]at c0 c1 c2;have hl2:b<wr.heap.size:=Nat.lt_of_lt_of_le hl hs;have h0:(0:Int)≤(k:Int):=by omega
   have h1:(k:Int)<(n:Int):=by omega
   cases ho:Qj (C k) (R k)
   ·have HO:Hid (Qj (C k) (R k)=false):=ho;have HF:Hid (Yg C R S n=false):=VD (Vw hlt (by simp [Za,ho]));clear ho;go_wp2_with fail
    refine(Zi (S k) _ HS.out).mono ?_;rintro e w3 ⟨he,hb⟩;obtain⟨txt,ok,rfl⟩:=BP he;have K3:Hid (Below wr.heap.size wr w3):=hb;rw [←hb.cell (p:=⟨_,_,none⟩) hl2]at c0 c1 c2;have hl3:b<w3.heap.size:=Nat.lt_of_lt_of_le hl2 hb.size;clear hb he
    go_wp2_with fail
    refine wp_region_held_drew (S:=(fun w'=>(∀bq oq,bq<w3.heap.size→w'.cell? ⟨bq,oq,none⟩=w3.cell? ⟨bq,oq,none⟩)∧w3.heap.size≤w'.heap.size∧Below w3.heap.size w3 w')) (by kernel_rfl) (Qo (by go_size) (by go_grown)) (fun hHeld=> ?_);refine tkA 0 ?_;refine tkB 1 ?_;refine tkA 2 ?_;refine tkB 3 ?_;refine tkB 4 ?_;refine rqA 5 (fun Kq hKq=> ?_)
    go_simp
    (refine(QC _ _ _).mono ?_;rintro e w1 ⟨rfl,hb⟩;rw [HO.out];obtain⟨hk1,hz1⟩:=Qf (B:=w3.heap.size) (X:=w3) (by go_grown) (by go_size) hb;have hC:=fun b o h=>hk1.cell (p:=⟨b,o,none⟩) h;clear hb)
    refine hkB hKq (Qo (by go_size) (by go_grown)) fun hHeld=> ?_;clear hKq Kq;refine tkA 6 ?_;refine tkB 7 ?_;refine tnA 8 ?_;refine tnA 9 ?_;refine tkB 10 ?_
    refine tkA 11 ?_;refine tnA 12 ?_;refine tnB 13 ?_;refine tnA 14 ?_;refine tnA 15 ?_;refine tnA 16 ?_;refine tnB 17 ?_
    refine tkA 18 ?_;refine tkB 19 ?_;refine tnA 20 ?_;refine tnA 21 ?_;refine tnA 22 ?_;refine tnB 23 ?_;refine tnA 24 ?_
    refine tnA 25 ?_;refine tnB 26 ?_;refine tkA 27 ?_;refine tkB 28 ?_;refine tnA 29 ?_;refine tnA 30 ?_;refine tnA 31 ?_
    refine tnB 32 ?_;refine tnA 33 ?_;refine tnA 34 ?_;refine tnA 35 ?_;refine tnB 36 ?_;refine tnA 37 ?_;refine tnA 38 ?_
    refine tnA 39 ?_;refine tnB 40 ?_;refine tnA 41 ?_;refine tnA 42 ?_;refine tnA 43 ?_;refine tnB 44 ?_;refine tnA 45 ?_
    refine tkB 46 ?_;refine wpAnyH_done (by kernel_rfl) ?_ _;go_wp2_with fail
    go_ret;exact⟨Qa HF.out.symm,Qc (Qc hbel K3.out) (by go_grown)⟩
   have HO:Hid (Qj (C k) (R k)=true):=ho;clear ho;cases hin:inF (S k)with
   | none=>
    have HIN:Hid (inF (S k)=none):=hin;have HF:Hid (Yg C R S n=false):=XQ hlt (by simp [Yk,GP,hin]);clear hin;go_wp2_with fail
    refine(Zi (S k) _ HS.out).mono ?_;rintro e w3 ⟨he,hb⟩;rw [HIN.out]at he;obtain rfl:e= .returned (.tuple #[.string ⟨#[]⟩,.bool false]):=he;have K3:Hid (Below wr.heap.size wr w3):=hb;rw [←hb.cell (p:=⟨_,_,none⟩) hl2]at c0 c1 c2;have hl3:b<w3.heap.size:=Nat.lt_of_lt_of_le hl2 hb.size
    clear hb;go_wp2_with fail
    refine wp_region_held_drew (S:=(fun w'=>(∀bq oq,bq<w3.heap.size→w'.cell? ⟨bq,oq,none⟩=w3.cell? ⟨bq,oq,none⟩)∧w3.heap.size≤w'.heap.size∧Below w3.heap.size w3 w')) (by kernel_rfl) (Qo (by go_size) (by go_grown)) (fun hHeld=> ?_);refine tkA 0 ?_;refine tkB 1 ?_;refine tkA 2 ?_;refine tkB 3 ?_;refine tkB 4 ?_;refine rqA 5 (fun Kq hKq=> ?_)
    go_simp
    (refine(QC _ _ _).mono ?_;rintro e w1 ⟨rfl,hb⟩;rw [HO.out];obtain⟨hk1,hz1⟩:=Qf (B:=w3.heap.size) (X:=w3) (by go_grown) (by go_size) hb;have hC:=fun b o h=>hk1.cell (p:=⟨b,o,none⟩) h;clear hb)
    refine hkB hKq (Qo (by go_size) (by go_grown)) fun hHeld=> ?_;clear hKq Kq;refine tkA 6 ?_;refine tkB 7 ?_;refine tkA 8 ?_;refine tkB 9 ?_;refine tkA 10 ?_
    refine tkB 11 ?_;refine tnA 12 ?_;refine tnA 13 ?_;refine tnA 14 ?_;refine tnB 15 ?_;refine tnA 16 ?_;refine tnA 17 ?_
    refine tkB 18 ?_;refine tkA 19 ?_;refine tnA 20 ?_;refine tnB 21 ?_;refine tnA 22 ?_;refine tnA 23 ?_;refine tnA 24 ?_
    refine tnB 25 ?_;refine tnA 26 ?_;refine tkB 27 ?_;refine tkA 28 ?_;refine tnA 29 ?_;refine tnB 30 ?_;refine tnA 31 ?_
    refine tnA 32 ?_;refine tnA 33 ?_;refine tnB 34 ?_;refine tnA 35 ?_;refine tnA 36 ?_;refine tnA 37 ?_;refine tnB 38 ?_
    refine tnA 39 ?_;refine tnA 40 ?_;refine tnA 41 ?_;refine tnB 42 ?_;refine tnA 43 ?_;refine tnA 44 ?_;refine tnB 45 ?_
    refine tkB 46 ?_;refine wpAnyH_done (by kernel_rfl) ?_ _;go_wp2_with fail
    go_ret;exact⟨Qa HF.out.symm,Qc (Qc hbel K3.out) (by go_grown)⟩
   | some t=>
    have HIN:Hid (inF (S k)=some t):=hin;cases he:(S k).toList.isEmpty
    rotate_left
    ·have HF:Hid (Yg C R S n=false):=XQ hlt (by simp [Yk,he]);clear hin;go_wp2_with fail
     refine(Zi (S k) _ HS.out).mono ?_;rintro e w3 ⟨he,hb⟩;rw [HIN.out]at he;obtain rfl:e= .returned (.tuple #[.string t,.bool true]):=he;have K3:Hid (Below wr.heap.size wr w3):=hb;rw [←hb.cell (p:=⟨_,_,none⟩) hl2]at c0 c1 c2;have hl3:b<w3.heap.size:=Nat.lt_of_lt_of_le hl2 hb.size
     clear hb;go_wp2_with fail
     refine wp_region_held_drew (S:=(fun w'=>(∀bq oq,bq<w3.heap.size→w'.cell? ⟨bq,oq,none⟩=w3.cell? ⟨bq,oq,none⟩)∧w3.heap.size≤w'.heap.size∧Below w3.heap.size w3 w')) (by kernel_rfl) (Qo (by go_size) (by go_grown)) (fun hHeld=> ?_);refine tkA 0 ?_;refine tkB 1 ?_;refine tkA 2 ?_;refine tkB 3 ?_;refine tkB 4 ?_;refine rqA 5 (fun Kq hKq=> ?_)
     go_simp
     (refine(QC _ _ _).mono ?_;rintro e w1 ⟨rfl,hb⟩;rw [HO.out];obtain⟨hk1,hz1⟩:=Qf (B:=w3.heap.size) (X:=w3) (by go_grown) (by go_size) hb;have hC:=fun b o h=>hk1.cell (p:=⟨b,o,none⟩) h;clear hb)
     refine hkB hKq (Qo (by go_size) (by go_grown)) fun hHeld=> ?_;clear hKq Kq;refine tkA 6 ?_;refine tkB 7 ?_;refine tkA 8 ?_;refine tkB 9 ?_;refine tkA 10 ?_
     refine tkB 11 ?_;refine tkA 12 ?_;refine tkB 13 ?_;refine tkA 14 ?_;refine tkB 15 ?_;refine tkA 16 ?_;refine tkB 17 ?_
     refine tkA 18 ?_;refine tkB 19 ?_;refine tnA 20 ?_;refine tnA 21 ?_;refine tnA 22 ?_;refine tnB 23 ?_;refine tnA 24 ?_
     refine tnA 25 ?_;refine tnB 26 ?_;refine tkA 27 ?_;refine tkB 28 ?_;refine tnA 29 ?_;refine tnA 30 ?_;refine tnA 31 ?_
     refine tnB 32 ?_;refine tnA 33 ?_;refine tnA 34 ?_;refine tnA 35 ?_;refine tnB 36 ?_;refine tnA 37 ?_;refine tnA 38 ?_
     refine tnA 39 ?_;refine tnB 40 ?_;refine tnA 41 ?_;refine tnA 42 ?_;refine tnA 43 ?_;refine tnB 44 ?_;refine tnA 45 ?_
     refine tkB 46 ?_;refine wpAnyH_done (by kernel_rfl) ?_ _;go_wp2_with fail
     go_ret;exact⟨Qa HF.out.symm,Qc (Qc hbel K3.out) (by go_grown)⟩
    cases hq:(t.toList==(S k).toList)
    ·have HF:Hid (Yg C R S n=false):=XQ hlt (by simp [Yk,GP,hin];intro _;simpa using hq);clear hin;go_wp2_with fail
     refine(Zi (S k) _ HS.out).mono ?_;rintro e w3 ⟨he,hb⟩;rw [HIN.out]at he;obtain rfl:e= .returned (.tuple #[.string t,.bool true]):=he;have K3:Hid (Below wr.heap.size wr w3):=hb;rw [←hb.cell (p:=⟨_,_,none⟩) hl2]at c0 c1 c2;have hl3:b<w3.heap.size:=Nat.lt_of_lt_of_le hl2 hb.size
     clear hb;go_wp2_with fail
     refine wp_region_held_drew (S:=(fun w'=>(∀bq oq,bq<w3.heap.size→w'.cell? ⟨bq,oq,none⟩=w3.cell? ⟨bq,oq,none⟩)∧w3.heap.size≤w'.heap.size∧Below w3.heap.size w3 w')) (by kernel_rfl) (Qo (by go_size) (by go_grown)) (fun hHeld=> ?_);refine tkA 0 ?_;refine tkB 1 ?_;refine tkA 2 ?_;refine tkB 3 ?_;refine tkB 4 ?_;refine rqA 5 (fun Kq hKq=> ?_)
     go_simp
     (refine(QC _ _ _).mono ?_;rintro e w1 ⟨rfl,hb⟩;rw [HO.out];obtain⟨hk1,hz1⟩:=Qf (B:=w3.heap.size) (X:=w3) (by go_grown) (by go_size) hb;have hC:=fun b o h=>hk1.cell (p:=⟨b,o,none⟩) h;clear hb)
     refine hkB hKq (Qo (by go_size) (by go_grown)) fun hHeld=> ?_;clear hKq Kq;refine tkA 6 ?_;refine tkB 7 ?_;refine tkA 8 ?_;refine tkB 9 ?_;refine tkA 10 ?_
     refine tkB 11 ?_;refine tkA 12 ?_;refine tkB 13 ?_;refine tkA 14 ?_;refine tkB 15 ?_;refine tkA 16 ?_;refine tkB 17 ?_
     refine tkA 18 ?_;refine tkB 19 ?_;refine tkA 20 ?_;refine tkB 21 ?_;refine tkA 22 ?_;refine tkB 23 ?_;refine tkA 24 ?_
     refine tkB 25 ?_;refine tkA 26 ?_;refine tkB 27 ?_;refine tkA 28 ?_;refine tnA 29 ?_;refine tnB 30 ?_;refine tnA 31 ?_
     refine tnA 32 ?_;refine tnA 33 ?_;refine tnB 34 ?_;refine tnA 35 ?_;refine tnA 36 ?_;refine tnA 37 ?_;refine tnB 38 ?_
     refine tnA 39 ?_;refine tnA 40 ?_;refine tnA 41 ?_;refine tnB 42 ?_;refine tnA 43 ?_;refine tnA 44 ?_;refine tnB 45 ?_
     refine tkB 46 ?_;refine wpAnyH_done (by kernel_rfl) ?_ _;go_wp2_with fail
     go_ret;exact⟨Qa HF.out.symm,Qc (Qc hbel K3.out) (by go_grown)⟩
    have HSK:Hid (Yk S k=true):=by show _=_;unfold Yk GP;rw [hin,he];exact hq
    clear hin;match k,hk,hlt,HI,HO,HS,HIN,HSK,he,hq,c0,c1,c2,h0,h1 with
    | 0,hk,hlt,HI,HO,HS,HIN,HSK,he,hq,c0,c1,c2,h0,h1=>
     have hR:Za C R 0=true:=by simp [Za,HO.out]
     have HI':Hid (∀i,i<0+1→Za C R i=true∧Yk S i=true):=fun i hi=>by rw [show i=0 by omega];exact⟨hR,HSK.out⟩
     simp only [Nat.zero_mul,Nat.add_zero]at c0 c1 c2;clear hR;go_wp2_with fail
     refine(Zi (S 0) _ HS.out).mono ?_;rintro e w3 ⟨he,hb⟩;rw [HIN.out]at he;obtain rfl:e= .returned (.tuple #[.string t,.bool true]):=he;have K3:Hid (Below wr.heap.size wr w3):=hb;rw [←hb.cell (p:=⟨_,_,none⟩) hl2]at c0 c1 c2;have hl3:b<w3.heap.size:=Nat.lt_of_lt_of_le hl2 hb.size
     clear hb;go_wp2_with fail
     refine wp_region_held_drew (S:=(fun w'=>(∀bq oq,bq<w3.heap.size→w'.cell? ⟨bq,oq,none⟩=w3.cell? ⟨bq,oq,none⟩)∧w3.heap.size≤w'.heap.size∧Below w3.heap.size w3 w')) (by kernel_rfl) (Qo (by go_size) (by go_grown)) (fun hHeld=> ?_);refine tkA 0 ?_;refine tkB 1 ?_;refine tkA 2 ?_;refine tkB 3 ?_;refine tkB 4 ?_;refine rqA 5 (fun Kq hKq=> ?_)
     go_simp
     (refine(QC _ _ _).mono ?_;rintro e w1 ⟨rfl,hb⟩;rw [HO.out];obtain⟨hk1,hz1⟩:=Qf (B:=w3.heap.size) (X:=w3) (by go_grown) (by go_size) hb;have hC:=fun b o h=>hk1.cell (p:=⟨b,o,none⟩) h;clear hb)
     refine hkB hKq (Qo (by go_size) (by go_grown)) fun hHeld=> ?_;clear hKq Kq;refine tkA 6 ?_;refine tkB 7 ?_;refine tkA 8 ?_;refine tkB 9 ?_;refine tkA 10 ?_
     refine tkB 11 ?_;refine tkA 12 ?_;refine tkB 13 ?_;refine tkA 14 ?_;refine tkB 15 ?_;refine tkA 16 ?_;refine tkB 17 ?_
     refine tkA 18 ?_;refine tkB 19 ?_;refine tkA 20 ?_;refine tkB 21 ?_;refine tkA 22 ?_;refine tkB 23 ?_;refine tkA 24 ?_
     refine tkB 25 ?_;refine tkA 26 ?_;refine tkB 27 ?_;refine tkA 28 ?_;refine tkB 29 ?_;refine tkA 30 ?_;refine tkB 31 ?_
     refine tnA 32 ?_;refine tnA 33 ?_;refine tnA 34 ?_;refine tnB 35 ?_;refine tnA 36 ?_;refine tnA 37 ?_;refine tnA 38 ?_
     refine tnB 39 ?_;refine tnA 40 ?_;refine tnA 41 ?_;refine tnA 42 ?_;refine tnB 43 ?_;refine tnA 44 ?_;refine tkB 45 ?_
     refine tkB 46 ?_;refine wpAnyH_done (by kernel_rfl) ?_ _;go_wp2_with fail
     go_roundw
     case rel=>exact⟨0+1,by omega,by go_num,HI'.out,Qc (Qc hbel K3.out) (by go_grown)⟩
     case measure=>simp [intOf];omega
    | m+1,hk,hlt,HI,HO,HS,HIN,HSK,he,hq,c0,c1,c2,h0,h1=>
     obtain⟨b',o',e',_,d0,d1,d2,_⟩:=HR.out.2 m (by omega);cases e'
     rw [←hbel.cell (p:=⟨_,_,none⟩) hl]at d0 d1 d2;have p0:(0:Int)≤(m:Int):=by omega
     have p1:(m:Int)<(n:Int):=by omega
     have p4:(0:Int)≤(m:Int)+1:=by omega
     have p5:(m:Int)+1<(n:Int):=by omega
     have p2:IntKind.i64.wrap (m:Int)=(m:Int):=by rw [IntKind.wrap_i64];omega
     have p3:IntKind.i64.wrap ((m:Int)+1-1)=(m:Int):=by rw [IntKind.wrap_i64];omega
     obtain⟨ah,HA⟩: ∃x,Hid (XA (C m) (R m) (C (m+1)) (R (m+1))=x):=⟨_,rfl⟩;go_wp2_with fail
     refine(Zi (S (m+1)) _ HS.out).mono ?_;rintro e w3 ⟨he,hb⟩;rw [HIN.out]at he;obtain rfl:e= .returned (.tuple #[.string t,.bool true]):=he;have K3:Hid (Below wr.heap.size wr w3):=hb;rw [←hb.cell (p:=⟨_,_,none⟩) hl2]at c0 c1 c2 d0 d1 d2;have hl3:b<w3.heap.size:=Nat.lt_of_lt_of_le hl2 hb.size
     clear hb;go_wp2_with fail
     refine wp_region_held_drew (S:=(fun w'=>(∀bq oq,bq<w3.heap.size→w'.cell? ⟨bq,oq,none⟩=w3.cell? ⟨bq,oq,none⟩)∧w3.heap.size≤w'.heap.size∧Below w3.heap.size w3 w')) (by kernel_rfl) (Qo (by go_size) (by go_grown)) (fun hHeld=> ?_);refine tkA 0 ?_;refine tkB 1 ?_;refine tkA 2 ?_;refine tkB 3 ?_;refine tkB 4 ?_;refine rqA 5 (fun Kq hKq=> ?_)
     go_simp
     (refine(QC _ _ _).mono ?_;rintro e w1 ⟨rfl,hb⟩;rw [HO.out];obtain⟨hk1,hz1⟩:=Qf (B:=w3.heap.size) (X:=w3) (by go_grown) (by go_size) hb;have hC:=fun b o h=>hk1.cell (p:=⟨b,o,none⟩) h;clear hb)
     refine hkB hKq (Qo (by go_size) (by go_grown)) fun hHeld=> ?_;clear hKq Kq;refine tkA 6 ?_;refine tkB 7 ?_;refine tkA 8 ?_;refine tkB 9 ?_;refine tkA 10 ?_
     refine tkB 11 ?_;refine tkA 12 ?_;refine tkB 13 ?_;refine tkA 14 ?_;refine tkB 15 ?_;refine tkA 16 ?_;refine tkB 17 ?_
     refine tkA 18 ?_;refine tkB 19 ?_;refine tkA 20 ?_;refine tkB 21 ?_;refine tkA 22 ?_;refine tkB 23 ?_;refine tkA 24 ?_
     refine tkB 25 ?_;refine tkA 26 ?_;refine tkB 27 ?_;refine tkA 28 ?_;refine tkB 29 ?_;refine tkA 30 ?_;refine tkB 31 ?_
     refine tkA 32 ?_;refine tkB 33 ?_;refine tkA 34 ?_;refine tkB 35 ?_;refine tkA 36 ?_;refine tkB 37 ?_;refine tkA 38 ?_
     refine tkB 39 ?_;refine tkA 40 ?_;refine tkB 41 ?_;refine tkB 42 ?_;refine rqA 43 (fun Kq hKq=> ?_);go_simp
     (refine(Ur _ _ _ _ _).mono ?_;rintro e w1 ⟨rfl,hb⟩;rw [HA.out];obtain⟨hk1,hz1⟩:=Qf (B:=w3.heap.size) (X:=w3) (by go_grown) (by go_size) hb;have hC:=fun b o h=>hk1.cell (p:=⟨b,o,none⟩) h;clear hb)
     refine hkB hKq (Qo (by go_size) (by go_grown)) fun hHeld=> ?_;clear hKq Kq;refine tkA 44 ?_;refine tkB 45 ?_;refine tkB 46 ?_;refine wpAnyH_done (by kernel_rfl) ?_ _;cases ah
     ·have HF:Hid (Yg C R S n=false):=VD (Vw hlt (by simp [Za,HA.out]));go_wp2_with fail
      go_ret;exact⟨Qa HF.out.symm,Qc (Qc hbel K3.out) (by go_grown)⟩
     ·have hR:Za C R (m+1)=true:=by simp [Za,HO.out,HA.out]
      have HI':Hid (∀i,i<m+1+1→Za C R i=true∧Yk S i=true):=fun i hi=>by
       by_cases e:i=m+1
       ·subst e;exact⟨hR,HSK.out⟩
       ·exact HI.out i (by omega)
      clear hR;go_wp2_with fail
      go_roundw
      case rel=>exact⟨m+1+1,by omega,by go_num,HI'.out,Qc (Qc hbel K3.out) (by go_grown)⟩
      case measure=>simp [intOf];omega
  ·have h1: ¬(k:Int)<(n:Int):=by omega
   obtain rfl:k=n:=by omega
   go_wp2_with fail
   go_ret;exact⟨Qa (NF (by omega) (Vf fun i hi=>(HI.out i hi).1) (Vf fun i hi=>(HI.out i hi).2)).symm,hbel⟩
end Go.Proofs.YtkdhmdllnaogcaaGreatDoor
