import Derived.Test.YtekcnhfkmimodaaGreatDoorGzj
import Derived.Test.YtekcnhfkmimodaaGreatDoorGaa
import Derived.Test.YtekcnhfkmimodaaGreatDoorGad
import Derived.Test.YtekcnhfkmimodaaGreatDoorMn
set_option linter.unusedSimpArgs false
set_option linter.unusedVariables false
set_option maxHeartbeats 4000000
set_option maxRecDepth 100000
namespace Go.Proofs.YtekcnhfkmimodaaGreatDoor
open Go.RowKit
def ClRow (W:World) (A:Option Addr) (n:Nat) (C R:Nat→Int) (S:Nat→ByteArray):Prop:=
 n≤maxLen∧ ∀i,i<n→ ∃b o,A=some ⟨b,o,none⟩∧b<W.heap.size∧W.cell? ⟨b,o+i*3,none⟩=some (.int .i64 (C i))∧W.cell? ⟨b,o+i*3+1,none⟩=some (.int .i64 (R i))∧
  W.cell? ⟨b,o+i*3+2,none⟩=some (.string (S i))∧(S i).size≤maxLen
theorem ClRow.below {W W':World} {A:Option Addr} {n:Nat} {C R:Nat→Int} {S:Nat→ByteArray} (h:ClRow W A n C R S) (hb:Below W.heap.size W W'):ClRow W' A n C R S:=
 ⟨h.1,fun i hi=>by
  obtain⟨b,o,e,hl,c0,c1,c2,hs⟩:=h.2 i hi
  exact⟨b,o,e,Nat.lt_of_lt_of_le hl hb.size,(hb.cell (p:=⟨b,_,none⟩) hl).trans c0,(hb.cell (p:=⟨b,_,none⟩) hl).trans c1,(hb.cell (p:=⟨b,_,none⟩) hl).trans c2,hs⟩⟩
def clX (C R:Nat→Int) (S:Nat→ByteArray) (m:Nat):List Value:=(List.range m).flatMap fun i=> [.int .i64 (C i),.int .i64 (R i),.string (S i)]
theorem DA (C R:Nat→Int) (S:Nat→ByteArray) (m:Nat):clX C R S (m+1)=clX C R S m++ [.int .i64 (C m),.int .i64 (R m),.string (S m)]:=by
 simp [clX,List.range_succ,List.flatMap_append]
theorem Qai (C R:Nat→Int) (S:Nat→ByteArray) (m:Nat):(clX C R S m).length=m*3:=by
 induction m with
 | zero=>rfl
 | succ m ih=>rw [DA,List.length_append,ih];simp;omega
theorem KO (C R:Nat→Int) (S:Nat→ByteArray) (m i j:Nat) (hi:i<m) (hj:j<3):
  (clX C R S m)[i*3+j]? = [Value.int .i64 (C i),.int .i64 (R i),.string (S i)][j]?:=by
 induction m with
 | zero=>omega
 | succ m ih=>
  rw [DA];have hl:=Qai C R S m;by_cases h:i<m
  ·rw [List.getElem?_append_left (by omega)];exact ih h
  ·obtain rfl:i=m:=by omega
   rw [List.getElem?_append_right (by omega),hl];congr 1
   omega
theorem Qk0:(Tryz.prog.info? 48).map (fun i=>(i.zero,i.size,i.bytes))=some (some (.agg #[.int .i64 0,.int .i64 0,.string ⟨#[]⟩]),3,32):=by kernel_rfl
theorem Xl {W:World} {B n:Nat} {A:Option Addr} {cap:Nat} {C R:Nat→Int} {S:Nat→ByteArray} (h:W.ownsRow B 48 3 (.slice A n cap) n (clX C R S n)) (hs: ∀i,i<n→(S i).size≤maxLen):ClRow W A n C R S:=by
 obtain⟨A',cap',e,hn,hc⟩:=Qj h;cases e
 refine⟨hn,fun i hi=> ?_⟩;obtain⟨g,rfl,_,hl,c0,_⟩:=hc (i*3) (by omega);obtain⟨g1,e1,_,_,c1,_⟩:=hc (i*3+1) (by omega);obtain⟨g2,e2,_,_,c2,_⟩:=hc (i*3+2) (by omega);cases e1
 cases e2
 refine⟨g,0,rfl,hl,?_,?_,?_,hs i hi⟩
 ·rw [Nat.zero_add,c0];exact KO C R S n i 0 hi (by omega)
 ·rw [Nat.zero_add,c1];exact KO C R S n i 1 hi (by omega)
 ·rw [Nat.zero_add,c2];exact KO C R S n i 2 hi (by omega)
theorem Qbg {W:World} {B g n cap t:Nat} {ys:List Value} {C R:Nat→Int} {S:Nat→ByteArray} (h:W.ownsRow B 48 3 (.slice (some ⟨g,0,none⟩) n cap) n ys) (ht:t<n) (hy: ∀j,j<t*3→ys[j]? =(clX C R S n)[j]?):
  ∃zs,(((W.setCell ⟨g,t*3,none⟩ (.int .i64 (C t))).setCell ⟨g,t*3+1,none⟩ (.int .i64 (R t))).setCell ⟨g,t*3+2,none⟩ (.string (S t))).ownsRow B 48 3 (.slice (some ⟨g,0,none⟩) n cap) n zs∧
   (∀j,j<(t+1)*3→zs[j]? =(clX C R S n)[j]?)∧W.grownBy (((W.setCell ⟨g,t*3,none⟩ (.int .i64 (C t))).setCell ⟨g,t*3+1,none⟩ (.int .i64 (R t))).setCell ⟨g,t*3+2,none⟩ (.string (S t))) (some g):=by
 obtain⟨o1,g1⟩:=h.stored (t*3) (.int .i64 (C t));obtain⟨o2,g2⟩:=o1.stored (t*3+1) (.int .i64 (R t));obtain⟨o3,g3⟩:=o2.stored (t*3+2) (.string (S t));refine⟨_,o3,fun j hj=> ?_,QV (QV g1 g2) g3⟩;have hl:=h.1;by_cases e2:t*3+2=j
 ·subst e2;rw [List.getElem?_set_self (by simp;omega),KO C R S n t 2 ht (by omega)];rfl
 rw [List.getElem?_set_ne e2];by_cases e1:t*3+1=j
 ·subst e1;rw [List.getElem?_set_self (by simp;omega),KO C R S n t 1 ht (by omega)];rfl
 rw [List.getElem?_set_ne e1];by_cases e0:t*3=j
 ·subst e0;rw [List.getElem?_set_self (by omega)];exact(KO C R S n t 0 ht (by omega)).symm
 rw [List.getElem?_set_ne e0];exact hy j (by omega)
theorem BK {n:Nat} {ys:List Value} {C R:Nat→Int} {S:Nat→ByteArray} (hl:ys.length=n*3) (hy: ∀j,j<n*3→ys[j]? =(clX C R S n)[j]?):ys=clX C R S n:=by
 apply List.ext_getElem?;intro j;by_cases h:j<n*3
 ·exact hy j h
 ·rw [List.getElem?_eq_none (by omega),List.getElem?_eq_none (by rw [Qai];omega)]
theorem Oc (c r:Int) (s:ByteArray) (l:Int) (w:World) (hs:s.size≤maxLen) (h0:0≤l) (h1:l≤1048576):Calls Tryz.prog 22 #[.agg #[.int .i64 c,.int .i64 r,.string s],.int .i64 l] w fun e w'=>
  e= .returned (.int .i64 (szv l s.size))∧Below w.heap.size w w':=by
 unfold maxLen at hs;by_cases hz:l-(s.size:Int)<0
 ·have he:Hid (szv l s.size= -1):=by show _=_;unfold szv;rw [if_pos hz]
  go_enter Tryz.func22,Tryz.ntmps22;go_wp2_with fail
  go_ret;exact⟨Qz he.out.symm,by go_grown⟩
 ·have he:Hid (szv l s.size=l-(s.size:Int)):=by show _=_;unfold szv;rw [if_neg hz]
  go_enter Tryz.func22,Tryz.ntmps22;go_wp2_with fail
  go_ret;exact⟨Qz he.out.symm,by go_grown⟩
theorem Ob (c r:Int) (s:ByteArray) (w:World):Calls Tryz.prog 25 #[.agg #[.int .i64 c,.int .i64 r,.string s]] w fun e w'=>
  e= .returned (.agg #[.int .i64 c,.int .i64 r,.string s])∧Below w.heap.size w w':=by
 go_enter Tryz.func25,Tryz.ntmps25
 go_wp2_with (first
  | (go_at_call 9;refine(XA _ _ _).mono ?_;rintro e w1 ⟨rfl,hb⟩;obtain⟨hc,hf,hC,hF,hz,hk,l0,l1,l2⟩:=bk3 (w:=w) (by go_grown) (by go_size) hb;clear hb))
 refine bodyPost_ret (v:= .agg #[.int .i64 c,.int .i64 r,.string s]) ?_ rfl ⟨rfl,by go_grown⟩;simp (maxDischargeDepth:=9) [results,Tryz.results25,go_sem, *]
theorem Od (c r:Int) (s:ByteArray) (w:World):Calls Tryz.prog 29 #[.agg #[.int .i64 c,.int .i64 r,.string s],.agg #[.int .i64 c,.int .i64 r,.string s]] w fun e w'=>
  e= .returned (.bool true)∧Below w.heap.size w w':=by
 go_enter Tryz.func29,Tryz.ntmps29
 go_wp2_with (first
  | (go_at_call 28;refine(Gq _ _ _).mono ?_;rintro e w1 ⟨rfl,hb⟩;obtain⟨hc,hf,hC,hF,hz,hk,l0,l1⟩:=bk2 (w:=w) (by go_grown) (by go_size) hb;clear hb))
 go_ret;exact⟨rfl,by go_grown⟩
theorem ZS (c r:Int) (s:ByteArray) (w:World):Calls Tryz.prog 42 #[.agg #[.int .i64 c,.int .i64 r,.string s]] w fun e w'=>
  e= .returned (.agg #[.int .i64 c,.int .i64 r])∧Below w.heap.size w w':=by
 go_enter Tryz.func42,Tryz.ntmps42;go_wp2
 go_returns
 exact⟨rfl,by go_grown⟩
theorem YE {A:Option Addr} {n cap:Nat} {C R:Nat→Int} {S:Nat→ByteArray} (w:World) (h:ClRow w A n C R S) (hn:n≤1048576):
  Calls Tryz.prog 8 #[.slice A n cap] w fun e w'=> ∃v,e= .returned v∧w'.ownsRow w.heap.size 48 3 v n (clX C R S n)∧Below w.heap.size w w':=by
 have HR:Hid (ClRow w A n C R S):=h;clear h;obtain⟨i0,hi,hz0,hz1,hz2⟩:=info_parts Qk0;go_enter Tryz.func8,Tryz.ntmps8;go_wp2_with (refine wpList_make_full _ rfl _ _ 28 rfl w.heap.size 48 i0 _ 3 Tryz.underlying28 hi hz0 hz1 _ _ _ _ n rfl rfl rfl rfl ?m1 ?m2 ?m3 ?_)
 case m1=>rw [hz2];omega
 case m2=>unfold maxLen;omega
 case m3=>exact Nat.le_refl _
 intro w1 hown hgrow;have hg1:Below w.heap.size w w1:=(Below.refl _ _).grown hgrow (Nat.le_refl _) (fun k hk=>by cases hk);obtain⟨ys,hown⟩: ∃ys,w1.ownsRow w.heap.size 48 3 (.slice (some ⟨w.heap.size,0,none⟩) n n) n ys:=⟨_,hown⟩;clear hgrow;have HO:Hid (w1.ownsRow w.heap.size 48 3 (.slice (some ⟨w.heap.size,0,none⟩) n n) n ys):=hown;clear hown;go_wp2_with fail
 go_loopw [4] (fun i wr=> ∃t:Nat,t≤n∧i= .int .i64 t∧(∃ys,wr.ownsRow w.heap.size 48 3 (.slice (some ⟨w.heap.size,0,none⟩) n n) n ys∧ ∀j,j<t*3→ys[j]? =(clX C R S n)[j]?)∧Below w.heap.size w wr) (fun i _=>n-(intOf i).toNat)
 case atStart=>exact⟨0,Nat.zero_le _,rfl,⟨ys,HO.out,fun j hj=>by omega⟩,hg1⟩
 case round=>
  clear HO hg1;obtain⟨t,ht,rfl,⟨ys,hown,hys⟩,hbel⟩:=hrel;by_cases hlt:t<n
  ·obtain⟨b,o,rfl,hl,c0,c1,c2,hs⟩:=HR.out.2 t hlt;rw [←hbel.cell (p:=⟨_,_,none⟩) hl]at c0 c1 c2;have q0:(0:Int)≤(t:Int):=by omega
   have q1:(t:Int)<(n:Int):=by omega
   have HO:Hid (wr.ownsRow w.heap.size 48 3 (.slice (some ⟨w.heap.size,0,none⟩) n n) n ys):=hown;have HY:Hid (∀j,j<t*3→ys[j]? =(clX C R S n)[j]?):=hys;have HB:Hid (Below w.heap.size w wr):=hbel;clear hown hys hbel;go_wp2_with fail
   refine(Ob _ _ _ _).mono ?_;rintro e w2 ⟨rfl,hb⟩;have HO2:=hd (Qe HO.out hb);have HB2:=hd (Qc HB.out hb);obtain⟨A',cap',e,_,hc⟩:=Qj HO2.out;cases e
   obtain⟨g0,e0,_,hg,d0,f0⟩:=hc (t*3) (by omega);obtain⟨g1,e1,_,_,d1,f1⟩:=hc (t*3+1) (by omega);obtain⟨g2,e2,_,_,d2,f2⟩:=hc (t*3+2) (by omega);cases e0
   cases e1
   cases e2
   clear hc hb c0 c1 c2 HO HB;have hl5:=HO2.out.1;obtain⟨x0,y0⟩: ∃x,ys[t*3]? =some x:=⟨_,List.getElem?_eq_getElem (by omega)⟩;obtain⟨x1,y1⟩: ∃x,ys[t*3+1]? =some x:=⟨_,List.getElem?_eq_getElem (by omega)⟩;obtain⟨x2,y2⟩: ∃x,ys[t*3+2]? =some x:=⟨_,List.getElem?_eq_getElem (by omega)⟩;rw [y0]at d0;rw [y1]at d1
   rw [y2]at d2;clear y0 y1 y2 hl5
   have HT:Hid (∃zs,(((w2.setCell ⟨w.heap.size,t*3,none⟩ (.int .i64 (C t))).setCell ⟨w.heap.size,t*3+1,none⟩ (.int .i64 (R t))).setCell ⟨w.heap.size,t*3+2,none⟩ (.string (S t))).ownsRow w.heap.size 48 3 (.slice (some ⟨w.heap.size,0,none⟩) n n) n zs∧
    (∀j,j<(t+1)*3→zs[j]? =(clX C R S n)[j]?)∧w2.grownBy (((w2.setCell ⟨w.heap.size,t*3,none⟩ (.int .i64 (C t))).setCell ⟨w.heap.size,t*3+1,none⟩ (.int .i64 (R t))).setCell ⟨w.heap.size,t*3+2,none⟩ (.string (S t))) (some w.heap.size)):=Qbg HO2.out hlt HY.out
   clear HO2 HY;go_wp2_with fail
   all_goals
    go_roundw
    case rel=>
     obtain⟨zs,z1,z2,z3⟩:=HT.out;exact⟨t+1,by omega,by simp,⟨zs,z1,z2⟩,HB2.out.grown z3 HB2.out.size (fun k hk=>by cases hk;exact Nat.le_refl _)⟩
    case measure=>simp [intOf];omega
  ·have q1: ¬(t:Int)<(n:Int):=by omega
   obtain rfl:t=n:=by omega
   go_wp2_with fail
   go_ret;exact⟨_,rfl,by rw [BK hown.1 hys]at hown;exact hown,hbel⟩
theorem MG {A:Option Addr} {n cap:Nat} {C R:Nat→Int} {S:Nat→ByteArray} (w:World) (h:ClRow w A n C R S):
  Calls Tryz.prog 6 #[.slice A n cap,.int .i64 1048576] w fun e w'=> ∃z:Int,e= .returned (.int .i64 z)∧(0≤z→n≤1048576)∧Below w.heap.size w w':=by
 have HR:Hid (ClRow w A n C R S):=h;have hm:=h.1;clear h;unfold maxLen at hm;by_cases hbig:(1048576:Int)-(n:Int)<0
 ·go_enter Tryz.func6,Tryz.ntmps6;go_wp2_with fail
  go_ret;exact⟨-1,rfl,fun h=>by omega,by go_grown⟩
 ·go_enter Tryz.func6,Tryz.ntmps6;go_wp2_with fail
  go_loopw [1,5] (fun l i wr=> ∃(t:Nat) (z:Int),t≤n∧i= .int .i64 t∧l= .int .i64 z∧0≤z∧z≤1048576∧Below w.heap.size w wr) (fun _ i _=>n-(intOf i).toNat)
  case atStart=>exact⟨0,_,Nat.zero_le _,rfl,rfl,by omega,by omega,Below.refl _ _⟩
  case round=>
   obtain⟨t,z,ht,rfl,rfl,z0,z1,hbel⟩:=hrel;by_cases hlt:t<n
   ·obtain⟨b,o,rfl,hl,c0,c1,c2,hs⟩:=HR.out.2 t hlt;rw [←hbel.cell (p:=⟨_,_,none⟩) hl]at c0 c1 c2;have q0:(0:Int)≤(t:Int):=by omega
    have q1:(t:Int)<(n:Int):=by omega
    have HB:Hid (Below w.heap.size w wr):=hbel;clear hbel;go_wp2_with fail
    refine(Oc _ _ _ _ _ hs z0 z1).mono ?_;rintro e w2 ⟨rfl,hb⟩;have HB2:=hd (Qc HB.out hb);clear hb c0 c1 c2;have HZ:Hid (szv z (S t).size≤1048576):=by show _≤_;unfold szv;split<;>omega
    by_cases hz:szv z (S t).size<0
    ·go_wp2_with fail
     go_ret;exact⟨_,rfl,fun h=>by omega,HB2.out⟩
    ·go_wp2_with fail
     go_roundw
     case rel=>exact⟨t+1,_,by omega,by go_num,rfl,by omega,HZ.out,HB2.out⟩
     case measure=>simp [intOf];omega
   ·have q1: ¬(t:Int)<(n:Int):=by omega
    go_wp2_with fail
    go_ret;exact⟨_,rfl,fun h=>by omega,hbel⟩
theorem MH {A A':Option Addr} {n cap cap':Nat} {C R:Nat→Int} {S:Nat→ByteArray} (w:World) (h:ClRow w A n C R S) (h':ClRow w A' n C R S):
  Calls Tryz.prog 12 #[.slice A n cap,.slice A' n cap'] w fun e w'=>e= .returned (.bool true)∧Below w.heap.size w w':=by
 have HR:Hid (ClRow w A n C R S):=h;have HR':Hid (ClRow w A' n C R S):=h';have hn:=h.1;unfold maxLen at hn;clear h h';go_enter Tryz.func12,Tryz.ntmps12;go_wp2_with fail
 go_loopw [5] (fun i wr=> ∃k:Nat,k≤n∧i= .int .i64 k∧Below w.heap.size w wr) (fun i _=>n-(intOf i).toNat)
 case atStart=>exact⟨0,Nat.zero_le _,rfl,Below.refl _ _⟩
 case round=>
  obtain⟨k,hk,rfl,hbel⟩:=hrel;by_cases hlt:k<n
  ·obtain⟨b,o,rfl,hl,c0,c1,c2,hs⟩:=HR.out.2 k hlt;obtain⟨b',o',rfl,hl',c0',c1',c2',_⟩:=HR'.out.2 k hlt;have hs:=hbel.size;have hW:=fun b o h=>hbel.cell (p:=⟨b,o,none⟩) h;have h0:(0:Int)≤(k:Int):=by omega
   have h1:(k:Int)<(n:Int):=by omega
   go_wp2_with fail
   go_region_held3 (fun w'=>(∀bq oq,bq<w.heap.size→w'.cell? ⟨bq,oq,none⟩=w.cell? ⟨bq,oq,none⟩)∧w.heap.size≤w'.heap.size∧Below w.heap.size w w')
    (exact Qn (Nat.le_refl _) (by go_grown))
    (first
    | (go_at_call 29;refine(Od (C k) (R k) (S k) _).mono ?_;rintro e w1 ⟨rfl,hb⟩;obtain⟨hk1,hz1⟩:=Qh (B:=w.heap.size) (X:=w) (by go_grown) (by go_size) hb;clear hb))
   all_goals go_wp2_with fail
   all_goals
    go_roundw
    case rel=>exact⟨k+1,by omega,by go_num,by go_grown⟩
    case measure=>simp [intOf];omega
  ·have h1: ¬(k:Int)<(n:Int):=by omega
   go_wp2_with fail
   go_ret;exact⟨rfl,hbel⟩
def QR (C R:Nat→Int) (i:Nat):Bool:=Qm (C i) (R i)&&(decide (i=0) || ZL (C (i-1)) (R (i-1)) (C i) (R i))
def Ym (C R:Nat→Int) (n:Nat):Bool:=(List.range n).all (QR C R)
theorem Qcg {n:Nat} {w X w':World} (h0:Below w.heap.size w X) (h:Below (w.heap.size+n) X w'):Below w.heap.size w w':=h0.trans (h.mono (Nat.le_add_right _ _))
theorem VX {f:Nat→Bool} {n k:Nat} (hk:k<n) (h:f k=false):(List.range n).all f=false:=by
 rw [List.all_eq_false];exact⟨k,List.mem_range.2 hk,by simp [h]⟩
theorem VG {f:Nat→Bool} {n:Nat} (h: ∀i,i<n→f i=true):(List.range n).all f=true:=by
 rw [List.all_eq_true];exact fun i hi=>h i (List.mem_range.1 hi)
theorem YG {A:Option Addr} {n cap:Nat} {C R:Nat→Int} {S:Nat→ByteArray} (w:World) (h:ClRow w A n C R S):
  Calls Tryz.prog 41 #[.slice A n cap,.func (.func 42) #[] #[]] w fun e w'=>e= .returned (.bool (Ym C R n))∧Below w.heap.size w w':=by
 have HR:Hid (ClRow w A n C R S):=h;have hn:=h.1;unfold maxLen at hn;clear h;go_enter Tryz.func41,Tryz.ntmps41;go_wp2_with fail
 go_loopw [9] (fun i wr=> ∃k:Nat,k≤n∧i= .int .i64 k∧(∀i,i<k→QR C R i=true)∧Below w.heap.size w wr) (fun i _=>n-(intOf i).toNat)
 case atStart=>exact⟨0,Nat.zero_le _,rfl,fun i hi=>by omega,Below.refl _ _⟩
 case round=>
  obtain⟨k,hk,rfl,hr,hbel⟩:=hrel;have HI:Hid (∀i,i<k→QR C R i=true):=hr;clear hr;by_cases hlt:k<n
  ·obtain⟨b,o,rfl,hl,c0,c1,c2,_⟩:=HR.out.2 k hlt;have hs:=hbel.size;rw [←hbel.cell (p:=⟨_,_,none⟩) hl]at c0 c1 c2;have hl2:b<wr.heap.size:=Nat.lt_of_lt_of_le hl hs;have hl3:b<wr.heap.size+1:=Nat.lt_succ_of_lt hl2;have h0:(0:Int)≤(k:Int):=by omega
   have h1:(k:Int)<(n:Int):=by omega
   cases ho:Qm (C k) (R k)
   ·have HO:Hid (Qm (C k) (R k)=false):=ho;have HF:Hid (Ym C R n=false):=VX hlt (by simp [QR,ho]);clear ho;go_wp2_with fail
    refine wp_region_held_drew (S:=(fun w'=>(∀bq oq,bq<wr.heap.size+1→w'.cell? ⟨bq,oq,none⟩=(wr.alloc (.cells #[.int .i64 (C k),.int .i64 (R k),.string (S k)] 48)).cell? ⟨bq,oq,none⟩)∧wr.heap.size+1≤w'.heap.size∧Below (wr.heap.size+1) (wr.alloc (.cells #[.int .i64 (C k),.int .i64 (R k),.string (S k)] 48)) w')) (by kernel_rfl) (Qn (by go_size) (by go_grown)) (fun hHeld=> ?_);refine tkA 0 ?_;refine tkB 1 ?_;refine rqA 2 (fun Kq hKq=> ?_);go_simp
    (refine(ZS _ _ _ _).mono ?_;rintro e w1 ⟨rfl,hb⟩;obtain⟨hk1,hz1⟩:=Qh (B:=wr.heap.size+1) (X:=(wr.alloc (.cells #[.int .i64 (C k),.int .i64 (R k),.string (S k)] 48))) (by go_grown) (by go_size) hb;have hC:=fun b o h=>hk1.cell (p:=⟨b,o,none⟩) h;clear hb)
    refine hkB hKq (Qn (by go_size) (by go_grown)) fun hHeld=> ?_;clear hKq Kq;refine rqA 3 (fun Kq hKq=> ?_);go_simp
    (refine(Zf _ _ _).mono ?_;rintro e w1 ⟨rfl,hb⟩;rw [HO.out];obtain⟨hk1,hz1⟩:=Qh (B:=wr.heap.size+1) (X:=(wr.alloc (.cells #[.int .i64 (C k),.int .i64 (R k),.string (S k)] 48))) (by go_grown) (by go_size) hb;have hC:=fun b o h=>hk1.cell (p:=⟨b,o,none⟩) h;clear hb)
    refine hkB hKq (Qn (by go_size) (by go_grown)) fun hHeld=> ?_;clear hKq Kq;refine tkA 4 ?_;refine tkB 5 ?_;refine tnA 6 ?_;refine tnB 7 ?_;refine tnA 8 ?_
    refine tnB 9 ?_;refine tnA 10 ?_;refine tnB 11 ?_;refine tnA 12 ?_;refine tnB 13 ?_;refine tnA 14 ?_;refine tnB 15 ?_
    refine tnA 16 ?_;refine tnB 17 ?_;refine tnA 18 ?_;refine tnB 19 ?_;refine tnA 20 ?_;refine tnB 21 ?_;refine tkB 22 ?_
    refine wpAnyH_done (by kernel_rfl) ?_ _;all_goals go_wp2_with fail
    all_goals
     go_ret;exact⟨Qb HF.out.symm,(hbel.trans (Below.mono (Qcg (n:=1) (X:=(wr.alloc (.cells #[.int .i64 (C k),.int .i64 (R k),.string (S k)] 48))) (by go_grown) (by go_grown)) hs))⟩
   have HO:Hid (Qm (C k) (R k)=true):=ho;clear ho;match k,hk,hlt,HI,HO,c0,c1,c2,h0,h1 with
   | 0,hk,hlt,HI,HO,c0,c1,c2,h0,h1=>
    have hR:QR C R 0=true:=by simp [QR,HO.out]
    have HI':Hid (∀i,i<0+1→QR C R i=true):=fun i hi=>by rw [show i=0 by omega];exact hR
    simp only [Nat.zero_mul,Nat.add_zero]at c0 c1 c2;clear hR;go_wp2_with fail
    refine wp_region_held_drew (S:=(fun w'=>(∀bq oq,bq<wr.heap.size+1→w'.cell? ⟨bq,oq,none⟩=(wr.alloc (.cells #[.int .i64 (C 0),.int .i64 (R 0),.string (S 0)] 48)).cell? ⟨bq,oq,none⟩)∧wr.heap.size+1≤w'.heap.size∧Below (wr.heap.size+1) (wr.alloc (.cells #[.int .i64 (C 0),.int .i64 (R 0),.string (S 0)] 48)) w')) (by kernel_rfl) (Qn (by go_size) (by go_grown)) (fun hHeld=> ?_);refine tkA 0 ?_;refine tkB 1 ?_;refine rqA 2 (fun Kq hKq=> ?_);go_simp
    (refine(ZS _ _ _ _).mono ?_;rintro e w1 ⟨rfl,hb⟩;obtain⟨hk1,hz1⟩:=Qh (B:=wr.heap.size+1) (X:=(wr.alloc (.cells #[.int .i64 (C 0),.int .i64 (R 0),.string (S 0)] 48))) (by go_grown) (by go_size) hb;have hC:=fun b o h=>hk1.cell (p:=⟨b,o,none⟩) h;clear hb)
    refine hkB hKq (Qn (by go_size) (by go_grown)) fun hHeld=> ?_;clear hKq Kq;refine rqA 3 (fun Kq hKq=> ?_);go_simp
    (refine(Zf _ _ _).mono ?_;rintro e w1 ⟨rfl,hb⟩;rw [HO.out];obtain⟨hk1,hz1⟩:=Qh (B:=wr.heap.size+1) (X:=(wr.alloc (.cells #[.int .i64 (C 0),.int .i64 (R 0),.string (S 0)] 48))) (by go_grown) (by go_size) hb;have hC:=fun b o h=>hk1.cell (p:=⟨b,o,none⟩) h;clear hb)
    refine hkB hKq (Qn (by go_size) (by go_grown)) fun hHeld=> ?_;clear hKq Kq;refine tkA 4 ?_;refine tkB 5 ?_;refine tkA 6 ?_;refine tkB 7 ?_;refine tkA 8 ?_
    refine tnB 9 ?_;refine tnA 10 ?_;refine tnB 11 ?_;refine tnA 12 ?_;refine tnB 13 ?_;refine tnA 14 ?_;refine tnB 15 ?_
    refine tnA 16 ?_;refine tnB 17 ?_;refine tnA 18 ?_;refine tnB 19 ?_;refine tnA 20 ?_;refine tkB 21 ?_;refine tkB 22 ?_
    refine wpAnyH_done (by kernel_rfl) ?_ _;all_goals go_wp2_with fail
    all_goals
     go_roundw
     case rel=>exact⟨0+1,by omega,by go_num,HI'.out,(hbel.trans (Below.mono (Qcg (n:=1) (X:=(wr.alloc (.cells #[.int .i64 (C 0),.int .i64 (R 0),.string (S 0)] 48))) (by go_grown) (by go_grown)) hs))⟩
     case measure=>simp [intOf];omega
   | m+1,hk,hlt,HI,HO,c0,c1,c2,h0,h1=>
    obtain⟨b',o',e',_,d0,d1,d2,_⟩:=HR.out.2 m (by omega);cases e'
    rw [←hbel.cell (p:=⟨_,_,none⟩) hl]at d0 d1 d2;have p0:(0:Int)≤(m:Int):=by omega
    have p1:(m:Int)<(n:Int):=by omega
    have p2:IntKind.i64.wrap (m:Int)=(m:Int):=by rw [IntKind.wrap_i64];omega
    have p3:IntKind.i64.wrap ((m:Int)+1-1)=(m:Int):=by rw [IntKind.wrap_i64];omega
    cases ha:ZL (C m) (R m) (C (m+1)) (R (m+1))
    ·have HA:Hid (0≤Qi0 (C m) (R m) (C (m+1)) (R (m+1))):=(GC _ _ _ _).2 ha;have hA:=HA.out;have HF:Hid (Ym C R n=false):=VX hlt (by simp [QR,ha]);clear ha;go_wp2_with fail
     go_region_held3 (fun w'=>(∀bq oq,bq<wr.heap.size+1→w'.cell? ⟨bq,oq,none⟩=(wr.alloc (.cells #[.int .i64 (C (m+1)),.int .i64 (R (m+1)),.string (S (m+1))] 48)).cell? ⟨bq,oq,none⟩)∧wr.heap.size+1≤w'.heap.size∧Below (wr.heap.size+1) (wr.alloc (.cells #[.int .i64 (C (m+1)),.int .i64 (R (m+1)),.string (S (m+1))] 48)) w')
      (exact Qn (by go_size) (by go_grown))
      (first
      | (go_at_call 42;refine(ZS _ _ _ _).mono ?_;rintro e w1 ⟨rfl,hb⟩;obtain⟨hk1,hz1⟩:=Qh (B:=wr.heap.size+1) (X:=(wr.alloc (.cells #[.int .i64 (C (m+1)),.int .i64 (R (m+1)),.string (S (m+1))] 48))) (by go_grown) (by go_size) hb;have hC:=fun b o h=>hk1.cell (p:=⟨b,o,none⟩) h;clear hb)
      | (go_at_call 60;refine(Zf _ _ _).mono ?_;rintro e w1 ⟨rfl,hb⟩;rw [HO.out];obtain⟨hk1,hz1⟩:=Qh (B:=wr.heap.size+1) (X:=(wr.alloc (.cells #[.int .i64 (C (m+1)),.int .i64 (R (m+1)),.string (S (m+1))] 48))) (by go_grown) (by go_size) hb;have hC:=fun b o h=>hk1.cell (p:=⟨b,o,none⟩) h;clear hb)
      | (go_at_call 61;refine(Xa _ _ _ _ _).mono ?_;rintro e w1 ⟨rfl,hb⟩;obtain⟨hk1,hz1⟩:=Qh (B:=wr.heap.size+1) (X:=(wr.alloc (.cells #[.int .i64 (C (m+1)),.int .i64 (R (m+1)),.string (S (m+1))] 48))) (by go_grown) (by go_size) hb;have hC:=fun b o h=>hk1.cell (p:=⟨b,o,none⟩) h;clear hb))
     all_goals go_wp2_with fail
     all_goals
      go_ret;exact⟨Qb HF.out.symm,(hbel.trans (Below.mono (Qcg (n:=1) (X:=(wr.alloc (.cells #[.int .i64 (C (m+1)),.int .i64 (R (m+1)),.string (S (m+1))] 48))) (by go_grown) (by go_grown)) hs))⟩
    ·have hA: ¬0≤Qi0 (C m) (R m) (C (m+1)) (R (m+1)):=fun h=>by rw [(GC _ _ _ _).1 h]at ha;cases ha
     have hR:QR C R (m+1)=true:=by simp [QR,HO.out,ha]
     have HI':Hid (∀i,i<m+1+1→QR C R i=true):=fun i hi=>by
      by_cases e:i=m+1
      ·subst e;exact hR
      ·exact HI.out i (by omega)
     clear ha hR;go_wp2_with fail
     go_region_held3 (fun w'=>(∀bq oq,bq<wr.heap.size+1→w'.cell? ⟨bq,oq,none⟩=(wr.alloc (.cells #[.int .i64 (C (m+1)),.int .i64 (R (m+1)),.string (S (m+1))] 48)).cell? ⟨bq,oq,none⟩)∧wr.heap.size+1≤w'.heap.size∧Below (wr.heap.size+1) (wr.alloc (.cells #[.int .i64 (C (m+1)),.int .i64 (R (m+1)),.string (S (m+1))] 48)) w')
      (exact Qn (by go_size) (by go_grown))
      (first
      | (go_at_call 42;refine(ZS _ _ _ _).mono ?_;rintro e w1 ⟨rfl,hb⟩;obtain⟨hk1,hz1⟩:=Qh (B:=wr.heap.size+1) (X:=(wr.alloc (.cells #[.int .i64 (C (m+1)),.int .i64 (R (m+1)),.string (S (m+1))] 48))) (by go_grown) (by go_size) hb;have hC:=fun b o h=>hk1.cell (p:=⟨b,o,none⟩) h;clear hb)
      | (go_at_call 60;refine(Zf _ _ _).mono ?_;rintro e w1 ⟨rfl,hb⟩;rw [HO.out];obtain⟨hk1,hz1⟩:=Qh (B:=wr.heap.size+1) (X:=(wr.alloc (.cells #[.int .i64 (C (m+1)),.int .i64 (R (m+1)),.string (S (m+1))] 48))) (by go_grown) (by go_size) hb;have hC:=fun b o h=>hk1.cell (p:=⟨b,o,none⟩) h;clear hb)
      | (go_at_call 61;refine(Xa _ _ _ _ _).mono ?_;rintro e w1 ⟨rfl,hb⟩;obtain⟨hk1,hz1⟩:=Qh (B:=wr.heap.size+1) (X:=(wr.alloc (.cells #[.int .i64 (C (m+1)),.int .i64 (R (m+1)),.string (S (m+1))] 48))) (by go_grown) (by go_size) hb;have hC:=fun b o h=>hk1.cell (p:=⟨b,o,none⟩) h;clear hb))
     all_goals go_wp2_with fail
     all_goals
      go_roundw
      case rel=>exact⟨m+1+1,by omega,by go_num,HI'.out,(hbel.trans (Below.mono (Qcg (n:=1) (X:=(wr.alloc (.cells #[.int .i64 (C (m+1)),.int .i64 (R (m+1)),.string (S (m+1))] 48))) (by go_grown) (by go_grown)) hs))⟩
      case measure=>simp [intOf];omega
  ·have h1: ¬(k:Int)<(n:Int):=by omega
   obtain rfl:k=n:=by omega
   go_wp2_with fail
   go_ret;exact⟨Qb (VG HI.out).symm,hbel⟩
end Go.Proofs.YtekcnhfkmimodaaGreatDoor
