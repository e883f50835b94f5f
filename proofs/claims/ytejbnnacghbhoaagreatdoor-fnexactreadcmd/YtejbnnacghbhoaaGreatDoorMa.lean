import Derived.Test.YtejbnnacghbhoaaGreatDoorMn
import Derived.Test.YtejbnnacghbhoaaGreatDoorGzeA
import Derived.Test.YtejbnnacghbhoaaGreatDoorGze
import Derived.Test.YtejbnnacghbhoaaGreatDoorGai
set_option linter.unusedSimpArgs false
set_option linter.unusedVariables false
set_option maxHeartbeats 8000000
set_option maxRecDepth 100000
namespace Go.Proofs.YtejbnnacghbhoaaGreatDoor
open Go.RowKit
def MsRow (W:World) (A:Option Addr) (n:Nat) (K C R:Nat→Int) (T:Nat→ByteArray) (M:Nat→Int):Prop:=
 n≤maxLen∧ ∀i,i<n→ ∃b o,A=some ⟨b,o,none⟩∧b<W.heap.size∧W.cell? ⟨b,o+i*5,none⟩=some (.int .i64 (K i))∧W.cell? ⟨b,o+i*5+1,none⟩=some (.int .i64 (C i))∧
  W.cell? ⟨b,o+i*5+2,none⟩=some (.int .i64 (R i))∧W.cell? ⟨b,o+i*5+3,none⟩=some (.string (T i))∧W.cell? ⟨b,o+i*5+4,none⟩=some (.int .i64 (M i))∧(T i).size≤maxLen
theorem MsRow.below {W W':World} {A:Option Addr} {n:Nat} {K C R:Nat→Int} {T:Nat→ByteArray} {M:Nat→Int} (h:MsRow W A n K C R T M) (hb:Below W.heap.size W W'):MsRow W' A n K C R T M:=
 ⟨h.1,fun i hi=>by
  obtain⟨b,o,e,hl,c0,c1,c2,c3,c4,hs⟩:=h.2 i hi
  exact⟨b,o,e,Nat.lt_of_lt_of_le hl hb.size,(hb.cell (p:=⟨b,_,none⟩) hl).trans c0,(hb.cell (p:=⟨b,_,none⟩) hl).trans c1,(hb.cell (p:=⟨b,_,none⟩) hl).trans c2,(hb.cell (p:=⟨b,_,none⟩) hl).trans c3,(hb.cell (p:=⟨b,_,none⟩) hl).trans c4,hs⟩⟩
def msX (K C R:Nat→Int) (T:Nat→ByteArray) (M:Nat→Int) (m:Nat):List Value:=(List.range m).flatMap fun i=> [.int .i64 (K i),.int .i64 (C i),.int .i64 (R i),.string (T i),.int .i64 (M i)]
theorem msX_succ (K C R:Nat→Int) (T:Nat→ByteArray) (M:Nat→Int) (m:Nat):msX K C R T M (m+1)=msX K C R T M m++ [.int .i64 (K m),.int .i64 (C m),.int .i64 (R m),.string (T m),.int .i64 (M m)]:=by
 simp [msX,List.range_succ,List.flatMap_append]
theorem msX_len (K C R:Nat→Int) (T:Nat→ByteArray) (M:Nat→Int) (m:Nat):(msX K C R T M m).length=m*5:=by
 induction m with
 | zero=>rfl
 | succ m ih=>rw [msX_succ,List.length_append,ih];simp;omega
theorem msX_at (K C R:Nat→Int) (T:Nat→ByteArray) (M:Nat→Int) (m i j:Nat) (hi:i<m) (hj:j<5):
  (msX K C R T M m)[i*5+j]? = [Value.int .i64 (K i),.int .i64 (C i),.int .i64 (R i),.string (T i),.int .i64 (M i)][j]?:=by
 induction m with
 | zero=>omega
 | succ m ih=>
  rw [msX_succ];have hl:=msX_len K C R T M m;by_cases h:i<m
  ·rw [List.getElem?_append_left (by omega)];exact ih h
  ·obtain rfl:i=m:=by omega
   rw [List.getElem?_append_right (by omega),hl];congr 1
   omega
theorem ms_of_own {W:World} {B n:Nat} {A:Option Addr} {cap:Nat} {K C R:Nat→Int} {T:Nat→ByteArray} {M:Nat→Int} (h:W.ownsRow B 69 5 (.slice A n cap) n (msX K C R T M n)) (hs: ∀i,i<n→(T i).size≤maxLen):MsRow W A n K C R T M:=by
 obtain⟨A',cap',e,hn,hc⟩:=Qu h;cases e
 refine⟨hn,fun i hi=> ?_⟩;obtain⟨g,rfl,_,hl,c0,_⟩:=hc (i*5) (by omega);obtain⟨g1,e1,_,_,c1,_⟩:=hc (i*5+1) (by omega);obtain⟨g2,e2,_,_,c2,_⟩:=hc (i*5+2) (by omega);obtain⟨g3,e3,_,_,c3,_⟩:=hc (i*5+3) (by omega);obtain⟨g4,e4,_,_,c4,_⟩:=hc (i*5+4) (by omega);cases e1
 cases e2
 cases e3
 cases e4
 refine⟨g,0,rfl,hl,?_,?_,?_,?_,?_,hs i hi⟩
 ·rw [Nat.zero_add,c0];exact msX_at K C R T M n i 0 hi (by omega)
 ·rw [Nat.zero_add,c1];exact msX_at K C R T M n i 1 hi (by omega)
 ·rw [Nat.zero_add,c2];exact msX_at K C R T M n i 2 hi (by omega)
 ·rw [Nat.zero_add];exact c3.trans (msX_at K C R T M n i 3 hi (by omega))
 ·rw [Nat.zero_add];exact c4.trans (msX_at K C R T M n i 4 hi (by omega))
theorem Bw (k c r:Int) (s:ByteArray) (m:Int) (w:World):Calls Tryz.prog 61 #[.agg #[.int .i64 k,.int .i64 c,.int .i64 r,.string s,.int .i64 m],.agg #[.int .i64 k,.int .i64 c,.int .i64 r,.string s,.int .i64 m]] w fun e w'=>
  e= .returned (.bool true)∧Below w.heap.size w w':=by
 go_enter Tryz.func61,Tryz.ntmps61
 go_wp2_with (first
  | (go_at_call 104;refine(Qa8 _ _ _).mono ?_;rintro e w1 ⟨rfl,hb⟩;obtain⟨hc,hf,hC,hF,hz,hk,l0,l1⟩:=bk2 (w:=w) (by go_grown) (by go_size) hb;clear hb))
 go_ret;exact⟨rfl,by go_grown⟩
theorem Oo {A A':Option Addr} {n cap cap':Nat} {K C R:Nat→Int} {T:Nat→ByteArray} {M:Nat→Int} (w:World) (h:MsRow w A n K C R T M) (h':MsRow w A' n K C R T M):
  Calls Tryz.prog 24 #[.slice A n cap,.slice A' n cap'] w fun e w'=>e= .returned (.bool true)∧Below w.heap.size w w':=by
 have HR:Hid (MsRow w A n K C R T M):=h;have HR':Hid (MsRow w A' n K C R T M):=h';have hn:=h.1;unfold maxLen at hn;clear h h';go_enter Tryz.func24,Tryz.ntmps24;go_wp2_with fail
 go_loopw [5] (fun i wr=> ∃k:Nat,k≤n∧i= .int .i64 k∧Below w.heap.size w wr) (fun i _=>n-(intOf i).toNat)
 case atStart=>exact⟨0,Nat.zero_le _,rfl,Below.refl _ _⟩
 case round=>
  obtain⟨k,hk,rfl,hbel⟩:=hrel;by_cases hlt:k<n
  ·obtain⟨b,o,rfl,hl,c0,c1,c2,c3,c4,hs⟩:=HR.out.2 k hlt;obtain⟨b',o',rfl,hl',c0',c1',c2',c3',c4',_⟩:=HR'.out.2 k hlt;have hs:=hbel.size;have hW:=fun b o h=>hbel.cell (p:=⟨b,o,none⟩) h;have h0:(0:Int)≤(k:Int):=by omega
   have h1:(k:Int)<(n:Int):=by omega
   go_wp2_with fail
   go_region_held3 (fun w'=>(∀bq oq,bq<w.heap.size→w'.cell? ⟨bq,oq,none⟩=w.cell? ⟨bq,oq,none⟩)∧w.heap.size≤w'.heap.size∧Below w.heap.size w w')
    (exact Qq (Nat.le_refl _) (by go_grown))
    (first
    | (go_at_call 61;refine(Bw (K k) (C k) (R k) (T k) (M k) _).mono ?_;rintro e w1 ⟨rfl,hb⟩;obtain⟨hk1,hz1⟩:=Qh (B:=w.heap.size) (X:=w) (by go_grown) (by go_size) hb;clear hb))
   all_goals go_wp2_with fail
   all_goals
    go_roundw
    case rel=>exact⟨k+1,by omega,by go_num,by go_grown⟩
    case measure=>simp [intOf];omega
  ·have h1: ¬(k:Int)<(n:Int):=by omega
   go_wp2_with fail
   go_ret;exact⟨rfl,hbel⟩
def wrB (t:ByteArray):Bool:=Jr ((⟨#[61]⟩:ByteArray)++t)
def MD (c r:Int):Bool:=decide (c=0∧r=0)
def Zt (k c r:Int) (t:ByteArray) (m a b:Int):Bool:=
 if k=1 then Qg c r&&wrB t&&decide (m=0)else if k=2 then Qg c r&&Jr t&&decide (m=0)else
 if k=3 then MD c r&&wrB t&&decide (1≤m∧m≤b)else if k=4 then MD c r&&wrB t&&decide (1≤m∧m≤a)else
 if k=5 then MD c r&&wrB t&&decide (m=0)else false
theorem Qdl (t:ByteArray):((⟨#[61]⟩:ByteArray)++t).size=1+t.size:=by rw [ByteArray.size_append];rfl
theorem impl_isWritten (t:ByteArray) (w:World) (ht:t.size≤1048576) (hg:GI w):Calls Tryz.prog 95 #[.string t] w fun e w'=>e= .returned (.bool (wrB t))∧Below w.heap.size w w':=by
 have HG:Hid (GI w):=hg;clear hg;have q: ¬9223372036854775807<1+t.size:=by omega
 have HZ:Hid (((⟨#[61]⟩:ByteArray)++t).size≤maxLen):=by show _≤_;rw [Qdl];unfold maxLen;omega
 go_enter Tryz.func95,Tryz.ntmps95;go_wp2_with (go_at_call 72;refine(XF _ _ HZ.out HG.out).mono ?_;rintro e w1 ⟨rfl,hb⟩)
 go_ret;exact⟨rfl,hb⟩
theorem impl_isRight (k c r:Int) (t:ByteArray) (m a b:Int) (w:World) (ht:t.size≤1048576) (hg:GI w):
  Calls Tryz.prog 51 #[.agg #[.int .i64 k,.int .i64 c,.int .i64 r,.string t,.int .i64 m],.int .i64 a,.int .i64 b] w fun e w'=>e= .returned (.bool (Zt k c r t m a b))∧Below w.heap.size w w':=by
 have HG:Hid (GI w):=hg;have HTZ:Hid (t.size≤maxLen):=by show _≤_;unfold maxLen;omega
 clear hg;by_cases h1:k=1
 ·subst h1;have HF:Hid (Zt 1 c r t m a b=(Qg c r&&wrB t&&decide (m=0))):=rfl;cases ho:Qg c r<;>cases hw:wrB t<;>by_cases hm:m=0
  all_goals
   have HO:Hid (Qg c r=_):=ho;have HW:Hid (wrB t=_):=hw;have HE:Hid (Zt 1 c r t m a b=_):=HF.out.trans (by rw [ho,hw]);clear ho hw;go_enter Tryz.func51,Tryz.ntmps51
   go_wp2_with (first
    | (go_at_call 94;refine(Zv _ _ _).mono ?_;rintro e w1 ⟨rfl,hb⟩;rw [HO.out];obtain⟨hc,hf,hC,hF,hz,hk,l0⟩:=bk1 (w:=w) (by go_grown) (by go_size) hb;clear hb)
    | (go_at_call 95;refine(impl_isWritten _ _ ht (HG.out.below (by go_grown))).mono ?_;rintro e w2 ⟨rfl,hb⟩;rw [HW.out];first | (have hk2:=Qc hk hb;have hc2:=(kp hb).1;have hz2:=Nat.le_trans hz hb.size;clear hb) | (obtain⟨hc,hf,hC,hF,hz,hk,l0⟩:=bk1 (w:=w) (by go_grown) (by go_size) hb;clear hb)))
   go_ret;exact⟨Qb (by rw [HE.out];simp [*]),by go_grown⟩
 by_cases h2:k=2
 ·subst h2;have HF:Hid (Zt 2 c r t m a b=(Qg c r&&Jr t&&decide (m=0))):=rfl;cases ho:Qg c r<;>cases hw:Jr t<;>by_cases hm:m=0
  all_goals
   have HO:Hid (Qg c r=_):=ho;have HW:Hid (Jr t=_):=hw;have HE:Hid (Zt 2 c r t m a b=_):=HF.out.trans (by rw [ho,hw]);clear ho hw;go_enter Tryz.func51,Tryz.ntmps51
   go_wp2_with (first
    | (go_at_call 94;refine(Zv _ _ _).mono ?_;rintro e w1 ⟨rfl,hb⟩;rw [HO.out];obtain⟨hc,hf,hC,hF,hz,hk,l0⟩:=bk1 (w:=w) (by go_grown) (by go_size) hb;clear hb)
    | (go_at_call 72;refine(XF _ _ HTZ.out (HG.out.below (by go_grown))).mono ?_;rintro e w2 ⟨rfl,hb⟩;rw [HW.out];first | (have hk2:=Qc hk hb;have hc2:=(kp hb).1;have hz2:=Nat.le_trans hz hb.size;clear hb) | (obtain⟨hc,hf,hC,hF,hz,hk,l0⟩:=bk1 (w:=w) (by go_grown) (by go_size) hb;clear hb)))
   go_ret;exact⟨Qb (by rw [HE.out];simp [*]),by go_grown⟩
 by_cases h3:k=3
 ·subst h3;have HF:Hid (Zt 3 c r t m a b=(MD c r&&wrB t&&decide (1≤m∧m≤b))):=rfl;by_cases hz0:c=0∧r=0
  rotate_left
  ·have HE:Hid (Zt 3 c r t m a b=false):=by show _=_;rw [HF.out];unfold MD;rw [decide_eq_false hz0];rfl
   by_cases hc0:c=0
   ·have hr0: ¬r=0:=fun e=>hz0 ⟨hc0,e⟩;have hr1:(r==0)=false:=by simpa using hr0
    clear hz0;go_enter Tryz.func51,Tryz.ntmps51;go_wp2_with fail
    go_ret;exact⟨Qb HE.out.symm,by go_grown⟩
   ·have hc1:(c==0)=false:=by simpa using hc0
    clear hz0;go_enter Tryz.func51,Tryz.ntmps51;go_wp2_with fail
    go_ret;exact⟨Qb HE.out.symm,by go_grown⟩
  obtain⟨rfl,rfl⟩:=hz0;cases hw:wrB t<;>by_cases hm1:1≤m<;>by_cases hm2:m≤b
  all_goals
   have HW:Hid (wrB t=_):=hw;have HE:Hid (Zt 3 0 0 t m a b=_):=HF.out.trans (by rw [hw]);clear hw;go_enter Tryz.func51,Tryz.ntmps51
   go_wp2_with (first
    | (go_at_call 95;refine(impl_isWritten _ _ ht (HG.out.below (by go_grown))).mono ?_;rintro e w2 ⟨rfl,hb⟩;rw [HW.out];first | (have hk2:=Qc hk hb;have hc2:=(kp hb).1;have hz2:=Nat.le_trans hz hb.size;clear hb) | (obtain⟨hc,hf,hC,hF,hz,hk,l0⟩:=bk1 (w:=w) (by go_grown) (by go_size) hb;clear hb)))
   go_ret;exact⟨Qb (by rw [HE.out];simp [MD, *]),by go_grown⟩
 by_cases h4:k=4
 ·subst h4;have HF:Hid (Zt 4 c r t m a b=(MD c r&&wrB t&&decide (1≤m∧m≤a))):=rfl;by_cases hz0:c=0∧r=0
  rotate_left
  ·have HE:Hid (Zt 4 c r t m a b=false):=by show _=_;rw [HF.out];unfold MD;rw [decide_eq_false hz0];rfl
   by_cases hc0:c=0
   ·have hr0: ¬r=0:=fun e=>hz0 ⟨hc0,e⟩;have hr1:(r==0)=false:=by simpa using hr0
    clear hz0;go_enter Tryz.func51,Tryz.ntmps51;go_wp2_with fail
    go_ret;exact⟨Qb HE.out.symm,by go_grown⟩
   ·have hc1:(c==0)=false:=by simpa using hc0
    clear hz0;go_enter Tryz.func51,Tryz.ntmps51;go_wp2_with fail
    go_ret;exact⟨Qb HE.out.symm,by go_grown⟩
  obtain⟨rfl,rfl⟩:=hz0;cases hw:wrB t<;>by_cases hm1:1≤m<;>by_cases hm2:m≤a
  all_goals
   have HW:Hid (wrB t=_):=hw;have HE:Hid (Zt 4 0 0 t m a b=_):=HF.out.trans (by rw [hw]);clear hw;go_enter Tryz.func51,Tryz.ntmps51
   go_wp2_with (first
    | (go_at_call 95;refine(impl_isWritten _ _ ht (HG.out.below (by go_grown))).mono ?_;rintro e w2 ⟨rfl,hb⟩;rw [HW.out];first | (have hk2:=Qc hk hb;have hc2:=(kp hb).1;have hz2:=Nat.le_trans hz hb.size;clear hb) | (obtain⟨hc,hf,hC,hF,hz,hk,l0⟩:=bk1 (w:=w) (by go_grown) (by go_size) hb;clear hb)))
   go_ret;exact⟨Qb (by rw [HE.out];simp [MD, *]),by go_grown⟩
 by_cases h5:k=5
 ·subst h5;have HF:Hid (Zt 5 c r t m a b=(MD c r&&wrB t&&decide (m=0))):=rfl;by_cases hz0:c=0∧r=0
  rotate_left
  ·have HE:Hid (Zt 5 c r t m a b=false):=by show _=_;rw [HF.out];unfold MD;rw [decide_eq_false hz0];rfl
   by_cases hc0:c=0
   ·have hr0: ¬r=0:=fun e=>hz0 ⟨hc0,e⟩;have hr1:(r==0)=false:=by simpa using hr0
    clear hz0;go_enter Tryz.func51,Tryz.ntmps51;go_wp2_with fail
    go_ret;exact⟨Qb HE.out.symm,by go_grown⟩
   ·have hc1:(c==0)=false:=by simpa using hc0
    clear hz0;go_enter Tryz.func51,Tryz.ntmps51;go_wp2_with fail
    go_ret;exact⟨Qb HE.out.symm,by go_grown⟩
  obtain⟨rfl,rfl⟩:=hz0;cases hw:wrB t<;>by_cases hm:m=0
  all_goals
   have HW:Hid (wrB t=_):=hw;have HE:Hid (Zt 5 0 0 t m a b=_):=HF.out.trans (by rw [hw]);clear hw;go_enter Tryz.func51,Tryz.ntmps51
   go_wp2_with (first
    | (go_at_call 95;refine(impl_isWritten _ _ ht (HG.out.below (by go_grown))).mono ?_;rintro e w2 ⟨rfl,hb⟩;rw [HW.out];first | (have hk2:=Qc hk hb;have hc2:=(kp hb).1;have hz2:=Nat.le_trans hz hb.size;clear hb) | (obtain⟨hc,hf,hC,hF,hz,hk,l0⟩:=bk1 (w:=w) (by go_grown) (by go_size) hb;clear hb)))
   go_ret;exact⟨Qb (by rw [HE.out];simp [MD, *]),by go_grown⟩
 have HE:Hid (Zt k c r t m a b=false):=by show _=_;unfold Zt;rw [if_neg h1,if_neg h2,if_neg h3,if_neg h4,if_neg h5]
 have n1:(k==1)=false:=by simpa using h1
 have n2:(k==2)=false:=by simpa using h2
 have n3:(k==3)=false:=by simpa using h3
 have n4:(k==4)=false:=by simpa using h4
 have n5:(k==5)=false:=by simpa using h5
 go_enter Tryz.func51,Tryz.ntmps51;go_wp2_with fail
 go_ret;exact⟨Qb HE.out.symm,by go_grown⟩
def Zb (K C R:Nat→Int) (T:Nat→ByteArray) (M:Nat→Int) (n:Nat):Bool:=decide (n≤30)&&(List.range n).all fun i=>Zt (K i) (C i) (R i) (T i) (M i) i ((n:Int)-1-i)
theorem Qhh {K C R:Nat→Int} {T:Nat→ByteArray} {M:Nat→Int} {n:Nat} (h:30<n):Zb K C R T M n=false:=by
 have e:decide (n≤30)=false:=by simp;omega
 simp [Zb,e]
theorem Zg {K C R:Nat→Int} {T:Nat→ByteArray} {M:Nat→Int} {n k:Nat} (hk:k<n) (h:Zt (K k) (C k) (R k) (T k) (M k) k ((n:Int)-1-k)=false):Zb K C R T M n=false:=by
 have e:((List.range n).all fun i=>Zt (K i) (C i) (R i) (T i) (M i) i ((n:Int)-1-i))=false:=VJ (f:=fun i=>Zt (K i) (C i) (R i) (T i) (M i) i ((n:Int)-1-i)) hk h;unfold Zb;rw [e,Bool.and_false]
theorem EF {K C R:Nat→Int} {T:Nat→ByteArray} {M:Nat→Int} {n:Nat} (h:n≤30) (hv: ∀i,i<n→Zt (K i) (C i) (R i) (T i) (M i) i ((n:Int)-1-i)=true):Zb K C R T M n=true:=by
 have e:((List.range n).all fun i=>Zt (K i) (C i) (R i) (T i) (M i) i ((n:Int)-1-i))=true:=Ve (f:=fun i=>Zt (K i) (C i) (R i) (T i) (M i) i ((n:Int)-1-i)) hv;unfold Zb;rw [e,Bool.and_true,decide_eq_true h]
theorem impl_MacroOk {A:Option Addr} {n cap:Nat} {K C R:Nat→Int} {T:Nat→ByteArray} {M:Nat→Int} (w:World) (h:MsRow w A n K C R T M) (hT: ∀i,i<n→(T i).size≤1048576) (hg:GI w):
  Calls Tryz.prog 19 #[.slice A n cap] w fun e w'=>e= .returned (.bool (Zb K C R T M n))∧Below w.heap.size w w':=by
 have HR:Hid (MsRow w A n K C R T M):=h;have HG:Hid (GI w):=hg;have HT:Hid (∀i,i<n→(T i).size≤1048576):=hT;have hn:=h.1;unfold maxLen at hn;clear h hg hT;by_cases hbig:(30:Int)<(n:Int)
 ·have HF:Hid (Zb K C R T M n=false):=Qhh (by omega);go_enter Tryz.func19,Tryz.ntmps19;go_wp2_with fail
  go_ret;exact⟨Qb HF.out.symm,by go_grown⟩
 go_enter Tryz.func19,Tryz.ntmps19;go_wp2_with fail
 go_loopw [10] (fun i wr=> ∃k:Nat,k≤n∧i= .int .i64 k∧(∀i,i<k→Zt (K i) (C i) (R i) (T i) (M i) i ((n:Int)-1-i)=true)∧Below w.heap.size w wr) (fun i _=>n-(intOf i).toNat)
 case atStart=>exact⟨0,Nat.zero_le _,rfl,fun i hi=>by omega,Below.refl _ _⟩
 case round=>
  obtain⟨k,hk,rfl,hr,hbel⟩:=hrel;have HI:Hid (∀i,i<k→Zt (K i) (C i) (R i) (T i) (M i) i ((n:Int)-1-i)=true):=hr;clear hr;by_cases hlt:k<n
  ·obtain⟨b,o,rfl,hl,c0,c1,c2,c3,c4,_⟩:=HR.out.2 k hlt;have HTk:Hid ((T k).size≤1048576):=HT.out k hlt;have hs:=hbel.size;have HGr:=hd (HG.out.below hbel);rw [←hbel.cell (p:=⟨_,_,none⟩) hl]at c0 c1 c2 c3 c4;have hl2:b<wr.heap.size:=Nat.lt_of_lt_of_le hl hs;have h0:(0:Int)≤(k:Int):=by omega
   have h1:(k:Int)<(n:Int):=by omega
   have hw1:IntKind.i64.wrap ((n:Int)-1)=(n:Int)-1:=by rw [IntKind.wrap_i64];omega
   have hw2:IntKind.i64.wrap ((n:Int)-1-(k:Int))=(n:Int)-1-(k:Int):=by rw [IntKind.wrap_i64];omega
   cases hv:Zt (K k) (C k) (R k) (T k) (M k) k ((n:Int)-1-k)
   ·have HV:Hid (_=_):=hv;have HF:Hid (Zb K C R T M n=false):=Zg hlt hv;clear hv;go_wp2_with (go_at_call 51;refine(impl_isRight _ _ _ _ _ _ _ _ HTk.out (HGr.out.below (by go_grown))).mono ?_;rintro e w2 ⟨rfl,hb⟩;rw [HV.out];have hk1:=Qc (w:=wr) (by go_grown) hb;clear hb)
    go_ret;exact⟨Qb HF.out.symm,Qc hbel (by go_grown)⟩
   ·have HV:Hid (Zt (K k) (C k) (R k) (T k) (M k) k ((n:Int)-1-k)=true):=hv;clear hv;go_wp2_with (go_at_call 51;refine(impl_isRight _ _ _ _ _ _ _ _ HTk.out (HGr.out.below (by go_grown))).mono ?_;rintro e w2 ⟨rfl,hb⟩;rw [HV.out];have hk1:=Qc (w:=wr) (by go_grown) hb;clear hb)
    go_roundw
    case rel=>exact⟨k+1,by omega,by go_num,fun i hi=>by
     by_cases e:i=k
     ·subst e;exact HV.out
     ·exact HI.out i (by omega),Qc hbel (by go_grown)⟩
    case measure=>simp [intOf];omega
  ·have h1: ¬(k:Int)<(n:Int):=by omega
   obtain rfl:k=n:=by omega
   go_wp2_with fail
   go_ret;exact⟨Qb (EF (by omega) HI.out).symm,hbel⟩
theorem QH (t:ByteArray) (w:World) (ht:t.size≤1048576):Calls Tryz.prog 53 #[.string t] w fun e w'=>e= .returned (.bool (wrB t))∧Below w.heap.size w w':=by
 have q: ¬9223372036854775807<1+t.size:=by omega
 have HZ:Hid (((⟨#[61]⟩:ByteArray)++t).size≤maxLen):=by show _≤_;rw [Qdl];unfold maxLen;omega
 cases ho:inF ((⟨#[61]⟩:ByteArray)++t)with
 | none=>
  have HO:Hid (inF ((⟨#[61]⟩:ByteArray)++t)=none):=ho;have HB:Hid (wrB t=false):=by show _=_;unfold wrB Jr;rw [ho]
  clear ho;go_enter Tryz.func53,Tryz.ntmps53;go_wp2_with fail
  refine(QA _ w HZ.out).mono ?_;rintro e u1 ⟨he,hb⟩;rw [HO.out]at he;obtain rfl:e= .returned (.tuple #[.string ⟨#[]⟩,.bool false]):=he;go_wp2_with fail
  go_ret;exact⟨Qb HB.out.symm,hb⟩
 | some x=>
  have HO:Hid (inF ((⟨#[61]⟩:ByteArray)++t)=some x):=ho;have HB:Hid (wrB t=(x.toList==((⟨#[61]⟩:ByteArray)++t).toList)):=by show _=_;unfold wrB Jr;rw [ho]
  clear ho;go_enter Tryz.func53,Tryz.ntmps53;go_wp2_with fail
  refine(QA _ w HZ.out).mono ?_;rintro e u1 ⟨he,hb⟩;rw [HO.out]at he;obtain rfl:e= .returned (.tuple #[.string x,.bool true]):=he;go_wp2_with fail
  go_ret;exact⟨Qb HB.out.symm,hb⟩
theorem UC {o:Option ByteArray} {e:Ending} (h:opA o e): ∃t ok,e= .returned (.tuple #[.string t,.bool ok]):=by
 cases o with
 | none=>exact⟨_,_,h⟩
 | some t=>exact⟨_,_,h⟩
theorem Kw {A:Option Addr} {n cap:Nat} {K C R:Nat→Int} {T:Nat→ByteArray} {M:Nat→Int} (w:World) (h:MsRow w A n K C R T M) (hT: ∀i,i<n→(T i).size≤1048576):
  Calls Tryz.prog 20 #[.slice A n cap] w fun e w'=>e= .returned (.bool (Zb K C R T M n))∧Below w.heap.size w w':=by
 have HR:Hid (MsRow w A n K C R T M):=h;have HT:Hid (∀i,i<n→(T i).size≤1048576):=hT;have hn:=h.1;unfold maxLen at hn;clear h hT;by_cases hbig:(30:Int)<(n:Int)
 ·have HF:Hid (Zb K C R T M n=false):=Qhh (by omega);go_enter Tryz.func20,Tryz.ntmps20;go_wp2_with fail
  go_ret;exact⟨Qb HF.out.symm,by go_grown⟩
 go_enter Tryz.func20,Tryz.ntmps20;go_wp2_with fail
 go_loopw [3] (fun i wr=> ∃k:Nat,k≤n∧i= .int .i64 k∧(∀i,i<k→Zt (K i) (C i) (R i) (T i) (M i) i ((n:Int)-1-i)=true)∧Below w.heap.size w wr) (fun i _=>n-(intOf i).toNat)
 case atStart=>exact⟨0,Nat.zero_le _,rfl,fun i hi=>by omega,Below.refl _ _⟩
 case round=>
  obtain⟨k,hk0,rfl,hr,hbel⟩:=hrel;have HI:Hid (∀i,i<k→Zt (K i) (C i) (R i) (T i) (M i) i ((n:Int)-1-i)=true):=hr;clear hr;by_cases hlt:k<n
  ·obtain⟨b,o,rfl,hl,c0,c1,c2,c3,c4,_⟩:=HR.out.2 k hlt;have HTk:Hid ((T k).size≤1048576):=HT.out k hlt;have HTm:Hid ((T k).size≤maxLen):=by have:=HTk.out;exact(by unfold maxLen;omega:(T k).size≤maxLen)
   have hs:=hbel.size;rw [←hbel.cell (p:=⟨_,_,none⟩) hl]at c0 c1 c2 c3 c4;have hl2:b<wr.heap.size:=Nat.lt_of_lt_of_le hl hs;have h0:(0:Int)≤(k:Int):=by omega
   have h1:(k:Int)<(n:Int):=by omega
   have hw1:IntKind.i64.wrap ((n:Int)-1)=(n:Int)-1:=by rw [IntKind.wrap_i64];omega
   have hw2:IntKind.i64.wrap ((n:Int)-1-(k:Int))=(n:Int)-1-(k:Int):=by rw [IntKind.wrap_i64];omega
   by_cases hK1:K k=1
   ·have hK:=hK1;rw [hK]at c0;have HKK:Hid (K k=1):=hK;clear hK1 hK;cases ho:Qg (C k) (R k)
    ·have HO0:Hid (∀x y,C k=x→R k=y→Qg x y=false):=fun x y h1 h2=>by rw [←h1,←h2];exact ho
     have HF:Hid (Zb K C R T M n=false):=Zg hlt (by unfold Zt;rw [HKK.out];simp [ho]);clear ho;by_cases hc0:C k=0<;>by_cases hr0:R k=0
     all_goals
      go_wp2_with (first
       | (go_at_call 52;refine(Qp _ _ _).mono ?_;rintro e w1 ⟨rfl,hb⟩;(first | rw [HO0.out _ _ hc0 hr0] | rw [HO0.out _ _ hc0 rfl] | rw [HO0.out _ _ rfl hr0] | rw [HO0.out _ _ rfl rfl]);first | (have hk2:=Qc hk hb;have hc2:=(kp hb).1;have hz2:=Nat.le_trans hz hb.size;clear hb) | (obtain⟨hc,hf,hC,hF,hz,hk,l0⟩:=bk1 (w:=wr) (by go_grown) (by go_size) hb;clear hb)))
      go_ret;exact⟨Qb HF.out.symm,Qc hbel (by go_grown)⟩
    have HO:Hid (Qg (C k) (R k)=true):=ho;have hc0: ¬C k=0:=by simp only [Qg,decide_eq_true_eq]at ho;omega
    have hc1:(C k==0)=false:=by simpa using hc0
    by_cases hm:M k=0
    rotate_left
    ·have hm1:(M k !=0)=true:=by simpa using hm
     have HF:Hid (Zb K C R T M n=false):=Zg hlt (by unfold Zt;rw [HKK.out];simp [hm]);clear ho
     go_wp2_with (first
      | (go_at_call 52;refine(Qp _ _ _).mono ?_;rintro e w1 ⟨rfl,hb⟩;rw [HO.out];first | (have hk2:=Qc hk hb;have hc2:=(kp hb).1;have hz2:=Nat.le_trans hz hb.size;clear hb) | (obtain⟨hc,hf,hC,hF,hz,hk,l0⟩:=bk1 (w:=wr) (by go_grown) (by go_size) hb;clear hb)))
     go_ret;exact⟨Qb HF.out.symm,Qc hbel (by go_grown)⟩
    have hm1:(M k !=0)=false:=by simpa using hm
    cases hw:wrB (T k)
    ·have HW:Hid (_=_):=hw;have HF:Hid (Zb K C R T M n=false):=Zg hlt (by unfold Zt;rw [HKK.out];simp [hw]);clear ho hw
     go_wp2_with (first
      | (go_at_call 52;refine(Qp _ _ _).mono ?_;rintro e w1 ⟨rfl,hb⟩;rw [HO.out];first | (have hk2:=Qc hk hb;have hc2:=(kp hb).1;have hz2:=Nat.le_trans hz hb.size;clear hb) | (obtain⟨hc,hf,hC,hF,hz,hk,l0⟩:=bk1 (w:=wr) (by go_grown) (by go_size) hb;clear hb))
      | (go_at_call 53;refine(QH _ _ HTk.out).mono ?_;rintro e w2 ⟨rfl,hb⟩;rw [HW.out];first | (have hk2:=Qc hk hb;have hc2:=(kp hb).1;have hz2:=Nat.le_trans hz hb.size;clear hb) | (obtain⟨hc,hf,hC,hF,hz,hk,l0⟩:=bk1 (w:=wr) (by go_grown) (by go_size) hb;clear hb)))
     go_ret;exact⟨Qb HF.out.symm,Qc hbel (by go_grown)⟩
    ·have HW:Hid (_=_):=hw
     have HI':Hid (∀i,i<k+1→Zt (K i) (C i) (R i) (T i) (M i) i ((n:Int)-1-i)=true):=fun i hi=>by
      by_cases e:i=k
      ·subst e;unfold Zt;rw [HKK.out];simp [ho,hw,hm]
      ·exact HI.out i (by omega)
     clear ho hw
     go_wp2_with (first
      | (go_at_call 52;refine(Qp _ _ _).mono ?_;rintro e w1 ⟨rfl,hb⟩;rw [HO.out];first | (have hk2:=Qc hk hb;have hc2:=(kp hb).1;have hz2:=Nat.le_trans hz hb.size;clear hb) | (obtain⟨hc,hf,hC,hF,hz,hk,l0⟩:=bk1 (w:=wr) (by go_grown) (by go_size) hb;clear hb))
      | (go_at_call 53;refine(QH _ _ HTk.out).mono ?_;rintro e w2 ⟨rfl,hb⟩;rw [HW.out];first | (have hk2:=Qc hk hb;have hc2:=(kp hb).1;have hz2:=Nat.le_trans hz hb.size;clear hb) | (obtain⟨hc,hf,hC,hF,hz,hk,l0⟩:=bk1 (w:=wr) (by go_grown) (by go_size) hb;clear hb)))
     go_roundw
     case rel=>exact⟨k+1,by omega,by go_num,HI'.out,Qc hbel (by go_grown)⟩
     case measure=>simp [intOf];omega
   by_cases hK2:K k=2
   ·have hK:=hK2;rw [hK]at c0;have HKK:Hid (K k=2):=hK;clear hK2 hK;cases ho:Qg (C k) (R k)
    ·have HO0:Hid (∀x y,C k=x→R k=y→Qg x y=false):=fun x y h1 h2=>by rw [←h1,←h2];exact ho
     have HF:Hid (Zb K C R T M n=false):=Zg hlt (by unfold Zt;rw [HKK.out];simp [ho]);clear ho;by_cases hc0:C k=0<;>by_cases hr0:R k=0
     all_goals
      go_wp2_with (first
       | (go_at_call 52;refine(Qp _ _ _).mono ?_;rintro e w1 ⟨rfl,hb⟩;(first | rw [HO0.out _ _ hc0 hr0] | rw [HO0.out _ _ hc0 rfl] | rw [HO0.out _ _ rfl hr0] | rw [HO0.out _ _ rfl rfl]);first | (have hk2:=Qc hk hb;have hc2:=(kp hb).1;have hz2:=Nat.le_trans hz hb.size;clear hb) | (obtain⟨hc,hf,hC,hF,hz,hk,l0⟩:=bk1 (w:=wr) (by go_grown) (by go_size) hb;clear hb))
       | (go_at_call 54;refine(QA _ _ HTm.out).mono ?_;rintro e w3 ⟨he,hb⟩;obtain⟨txt,ok,rfl⟩:=UC he;clear he;first | (have hk2:=Qc hk hb;have hc2:=(kp hb).1;have hz2:=Nat.le_trans hz hb.size;clear hb) | (obtain⟨hc,hf,hC,hF,hz,hk,l0⟩:=bk1 (w:=wr) (by go_grown) (by go_size) hb;clear hb)))
      go_ret;exact⟨Qb HF.out.symm,Qc hbel (by go_grown)⟩
    have HO:Hid (Qg (C k) (R k)=true):=ho;have hc0: ¬C k=0:=by simp only [Qg,decide_eq_true_eq]at ho;omega
    have hc1:(C k==0)=false:=by simpa using hc0
    by_cases hm:M k=0
    rotate_left
    ·have hm1:(M k !=0)=true:=by simpa using hm
     have HF:Hid (Zb K C R T M n=false):=Zg hlt (by unfold Zt;rw [HKK.out];simp [hm]);clear ho
     go_wp2_with (first
      | (go_at_call 52;refine(Qp _ _ _).mono ?_;rintro e w1 ⟨rfl,hb⟩;rw [HO.out];first | (have hk2:=Qc hk hb;have hc2:=(kp hb).1;have hz2:=Nat.le_trans hz hb.size;clear hb) | (obtain⟨hc,hf,hC,hF,hz,hk,l0⟩:=bk1 (w:=wr) (by go_grown) (by go_size) hb;clear hb))
      | (go_at_call 54;refine(QA _ _ HTm.out).mono ?_;rintro e w3 ⟨he,hb⟩;obtain⟨txt,ok,rfl⟩:=UC he;clear he;first | (have hk2:=Qc hk hb;have hc2:=(kp hb).1;have hz2:=Nat.le_trans hz hb.size;clear hb) | (obtain⟨hc,hf,hC,hF,hz,hk,l0⟩:=bk1 (w:=wr) (by go_grown) (by go_size) hb;clear hb)))
     go_ret;exact⟨Qb HF.out.symm,Qc hbel (by go_grown)⟩
    have hm1:(M k !=0)=false:=by simpa using hm
    cases hin:inF (T k)with
    | none=>
     have HIN:Hid (inF (T k)=none):=hin;have HF:Hid (Zb K C R T M n=false):=Zg hlt (by unfold Zt;rw [HKK.out];simp [Jr,hin]);clear ho hin
     go_wp2_with (first
      | (go_at_call 52;refine(Qp _ _ _).mono ?_;rintro e w1 ⟨rfl,hb⟩;rw [HO.out];first | (have hk2:=Qc hk hb;have hc2:=(kp hb).1;have hz2:=Nat.le_trans hz hb.size;clear hb) | (obtain⟨hc,hf,hC,hF,hz,hk,l0⟩:=bk1 (w:=wr) (by go_grown) (by go_size) hb;clear hb))
      | (go_at_call 54;refine(QA _ _ HTm.out).mono ?_;rintro e w3 ⟨he,hb⟩;rw [HIN.out]at he;obtain rfl:e= .returned (.tuple #[.string ⟨#[]⟩,.bool false]):=he;first | (have hk2:=Qc hk hb;have hc2:=(kp hb).1;have hz2:=Nat.le_trans hz hb.size;clear hb) | (obtain⟨hc,hf,hC,hF,hz,hk,l0⟩:=bk1 (w:=wr) (by go_grown) (by go_size) hb;clear hb)))
     go_ret;exact⟨Qb HF.out.symm,Qc hbel (by go_grown)⟩
    | some x=>
     have HIN:Hid (inF (T k)=some x):=hin;cases hq:(x.toList==(T k).toList)
     ·have hq2: ¬x.toList=(T k).toList:=by simpa using hq
      have HF:Hid (Zb K C R T M n=false):=Zg hlt (by unfold Zt;rw [HKK.out];simp [Jr,hin,hq2]);clear ho hin hq2
      go_wp2_with (first
       | (go_at_call 52;refine(Qp _ _ _).mono ?_;rintro e w1 ⟨rfl,hb⟩;rw [HO.out];first | (have hk2:=Qc hk hb;have hc2:=(kp hb).1;have hz2:=Nat.le_trans hz hb.size;clear hb) | (obtain⟨hc,hf,hC,hF,hz,hk,l0⟩:=bk1 (w:=wr) (by go_grown) (by go_size) hb;clear hb))
       | (go_at_call 54;refine(QA _ _ HTm.out).mono ?_;rintro e w3 ⟨he,hb⟩;rw [HIN.out]at he;obtain rfl:e= .returned (.tuple #[.string x,.bool true]):=he;first | (have hk2:=Qc hk hb;have hc2:=(kp hb).1;have hz2:=Nat.le_trans hz hb.size;clear hb) | (obtain⟨hc,hf,hC,hF,hz,hk,l0⟩:=bk1 (w:=wr) (by go_grown) (by go_size) hb;clear hb)))
      go_ret;exact⟨Qb HF.out.symm,Qc hbel (by go_grown)⟩
     ·have hq2:x.toList=(T k).toList:=by simpa using hq
      have HI':Hid (∀i,i<k+1→Zt (K i) (C i) (R i) (T i) (M i) i ((n:Int)-1-i)=true):=fun i hi=>by
       by_cases e:i=k
       ·subst e;unfold Zt;rw [HKK.out];simp [Jr,hin,hq2,ho,hm]
       ·exact HI.out i (by omega)
      clear ho hin hq2
      go_wp2_with (first
       | (go_at_call 52;refine(Qp _ _ _).mono ?_;rintro e w1 ⟨rfl,hb⟩;rw [HO.out];first | (have hk2:=Qc hk hb;have hc2:=(kp hb).1;have hz2:=Nat.le_trans hz hb.size;clear hb) | (obtain⟨hc,hf,hC,hF,hz,hk,l0⟩:=bk1 (w:=wr) (by go_grown) (by go_size) hb;clear hb))
       | (go_at_call 54;refine(QA _ _ HTm.out).mono ?_;rintro e w3 ⟨he,hb⟩;rw [HIN.out]at he;obtain rfl:e= .returned (.tuple #[.string x,.bool true]):=he;first | (have hk2:=Qc hk hb;have hc2:=(kp hb).1;have hz2:=Nat.le_trans hz hb.size;clear hb) | (obtain⟨hc,hf,hC,hF,hz,hk,l0⟩:=bk1 (w:=wr) (by go_grown) (by go_size) hb;clear hb)))
      go_roundw
      case rel=>exact⟨k+1,by omega,by go_num,HI'.out,Qc hbel (by go_grown)⟩
      case measure=>simp [intOf];omega
   by_cases hK3:K k=3
   ·have hK:=hK3;rw [hK]at c0;have HKK:Hid (K k=3):=hK;clear hK3 hK;by_cases hc0:C k=0
    rotate_left
    ·have hc1:(C k==0)=false:=by simpa using hc0
     have HF:Hid (Zb K C R T M n=false):=Zg hlt (by unfold Zt;rw [HKK.out];simp [MD,hc0]);go_wp2_with fail
     go_ret;exact⟨Qb HF.out.symm,Qc hbel (by go_grown)⟩
    by_cases hr0:R k=0
    rotate_left
    ·have hr1:(R k==0)=false:=by simpa using hr0
     have HF:Hid (Zb K C R T M n=false):=Zg hlt (by unfold Zt;rw [HKK.out];simp [MD,hr0]);go_wp2_with fail
     go_ret;exact⟨Qb HF.out.symm,Qc hbel (by go_grown)⟩
    cases hib:inB (M k) 1 ((n:Int)-1-(k:Int))
    ·have HIB:Hid (_=_):=hib;have hx: ¬(1≤M k∧M k≤(n:Int)-1-(k:Int)):=by simpa [inB]using hib
     have HF:Hid (Zb K C R T M n=false):=Zg hlt (by unfold Zt;rw [HKK.out];simp [hx]);clear hib hx
     go_wp2_with (first
      | (go_at_call 55;refine(Zm _ _ _ _).mono ?_;rintro e w2 ⟨rfl,rfl⟩;rw [HIB.out]))
     go_ret;exact⟨Qb HF.out.symm,Qc hbel (by go_grown)⟩
    have HIB:Hid (inB (M k) 1 ((n:Int)-1-(k:Int))=true):=hib;have hx:1≤M k∧M k≤(n:Int)-1-(k:Int):=by simpa [inB]using hib
    cases hw:wrB (T k)
    ·have HW:Hid (_=_):=hw;have HF:Hid (Zb K C R T M n=false):=Zg hlt (by unfold Zt;rw [HKK.out];simp [hw]);clear hib hx hw
     go_wp2_with (first
      | (go_at_call 55;refine(Zm _ _ _ _).mono ?_;rintro e w2 ⟨rfl,rfl⟩;rw [HIB.out])
      | (go_at_call 53;refine(QH _ _ HTk.out).mono ?_;rintro e w2 ⟨rfl,hb⟩;rw [HW.out];first | (have hk2:=Qc hk hb;have hc2:=(kp hb).1;have hz2:=Nat.le_trans hz hb.size;clear hb) | (obtain⟨hc,hf,hC,hF,hz,hk,l0⟩:=bk1 (w:=wr) (by go_grown) (by go_size) hb;clear hb)))
     go_ret;exact⟨Qb HF.out.symm,Qc hbel (by go_grown)⟩
    ·have HW:Hid (_=_):=hw
     have HI':Hid (∀i,i<k+1→Zt (K i) (C i) (R i) (T i) (M i) i ((n:Int)-1-i)=true):=fun i hi=>by
      by_cases e:i=k
      ·subst e;unfold Zt;rw [HKK.out];simp [MD,hc0,hr0,hw,hx]
      ·exact HI.out i (by omega)
     clear hib hx hw
     go_wp2_with (first
      | (go_at_call 55;refine(Zm _ _ _ _).mono ?_;rintro e w2 ⟨rfl,rfl⟩;rw [HIB.out])
      | (go_at_call 53;refine(QH _ _ HTk.out).mono ?_;rintro e w2 ⟨rfl,hb⟩;rw [HW.out];first | (have hk2:=Qc hk hb;have hc2:=(kp hb).1;have hz2:=Nat.le_trans hz hb.size;clear hb) | (obtain⟨hc,hf,hC,hF,hz,hk,l0⟩:=bk1 (w:=wr) (by go_grown) (by go_size) hb;clear hb)))
     go_roundw
     case rel=>exact⟨k+1,by omega,by go_num,HI'.out,Qc hbel (by go_grown)⟩
     case measure=>simp [intOf];omega
   by_cases hK4:K k=4
   ·have hK:=hK4;rw [hK]at c0;have HKK:Hid (K k=4):=hK;clear hK4 hK;by_cases hc0:C k=0
    rotate_left
    ·have hc1:(C k==0)=false:=by simpa using hc0
     have HF:Hid (Zb K C R T M n=false):=Zg hlt (by unfold Zt;rw [HKK.out];simp [MD,hc0]);go_wp2_with fail
     go_ret;exact⟨Qb HF.out.symm,Qc hbel (by go_grown)⟩
    by_cases hr0:R k=0
    rotate_left
    ·have hr1:(R k==0)=false:=by simpa using hr0
     have HF:Hid (Zb K C R T M n=false):=Zg hlt (by unfold Zt;rw [HKK.out];simp [MD,hr0]);go_wp2_with fail
     go_ret;exact⟨Qb HF.out.symm,Qc hbel (by go_grown)⟩
    cases hib:inB (M k) 1 ((k:Int))
    ·have HIB:Hid (_=_):=hib;have hx: ¬(1≤M k∧M k≤(k:Int)):=by simpa [inB]using hib
     have HF:Hid (Zb K C R T M n=false):=Zg hlt (by unfold Zt;rw [HKK.out];simp [hx]);clear hib hx
     go_wp2_with (first
      | (go_at_call 55;refine(Zm _ _ _ _).mono ?_;rintro e w2 ⟨rfl,rfl⟩;rw [HIB.out]))
     go_ret;exact⟨Qb HF.out.symm,Qc hbel (by go_grown)⟩
    have HIB:Hid (inB (M k) 1 ((k:Int))=true):=hib;have hx:1≤M k∧M k≤(k:Int):=by simpa [inB]using hib
    cases hw:wrB (T k)
    ·have HW:Hid (_=_):=hw;have HF:Hid (Zb K C R T M n=false):=Zg hlt (by unfold Zt;rw [HKK.out];simp [hw]);clear hib hx hw
     go_wp2_with (first
      | (go_at_call 55;refine(Zm _ _ _ _).mono ?_;rintro e w2 ⟨rfl,rfl⟩;rw [HIB.out])
      | (go_at_call 53;refine(QH _ _ HTk.out).mono ?_;rintro e w2 ⟨rfl,hb⟩;rw [HW.out];first | (have hk2:=Qc hk hb;have hc2:=(kp hb).1;have hz2:=Nat.le_trans hz hb.size;clear hb) | (obtain⟨hc,hf,hC,hF,hz,hk,l0⟩:=bk1 (w:=wr) (by go_grown) (by go_size) hb;clear hb)))
     go_ret;exact⟨Qb HF.out.symm,Qc hbel (by go_grown)⟩
    ·have HW:Hid (_=_):=hw
     have HI':Hid (∀i,i<k+1→Zt (K i) (C i) (R i) (T i) (M i) i ((n:Int)-1-i)=true):=fun i hi=>by
      by_cases e:i=k
      ·subst e;unfold Zt;rw [HKK.out];simp [MD,hc0,hr0,hw,hx]
      ·exact HI.out i (by omega)
     clear hib hx hw
     go_wp2_with (first
      | (go_at_call 55;refine(Zm _ _ _ _).mono ?_;rintro e w2 ⟨rfl,rfl⟩;rw [HIB.out])
      | (go_at_call 53;refine(QH _ _ HTk.out).mono ?_;rintro e w2 ⟨rfl,hb⟩;rw [HW.out];first | (have hk2:=Qc hk hb;have hc2:=(kp hb).1;have hz2:=Nat.le_trans hz hb.size;clear hb) | (obtain⟨hc,hf,hC,hF,hz,hk,l0⟩:=bk1 (w:=wr) (by go_grown) (by go_size) hb;clear hb)))
     go_roundw
     case rel=>exact⟨k+1,by omega,by go_num,HI'.out,Qc hbel (by go_grown)⟩
     case measure=>simp [intOf];omega
   by_cases hK5:K k=5
   ·have hK:=hK5;rw [hK]at c0;have HKK:Hid (K k=5):=hK;clear hK5 hK;by_cases hc0:C k=0
    rotate_left
    ·have hc1:(C k==0)=false:=by simpa using hc0
     have HF:Hid (Zb K C R T M n=false):=Zg hlt (by unfold Zt;rw [HKK.out];simp [MD,hc0]);go_wp2_with fail
     go_ret;exact⟨Qb HF.out.symm,Qc hbel (by go_grown)⟩
    by_cases hr0:R k=0
    rotate_left
    ·have hr1:(R k==0)=false:=by simpa using hr0
     have HF:Hid (Zb K C R T M n=false):=Zg hlt (by unfold Zt;rw [HKK.out];simp [MD,hr0]);go_wp2_with fail
     go_ret;exact⟨Qb HF.out.symm,Qc hbel (by go_grown)⟩
    by_cases hm:M k=0
    rotate_left
    ·have hm1:(M k !=0)=true:=by simpa using hm
     have HF:Hid (Zb K C R T M n=false):=Zg hlt (by unfold Zt;rw [HKK.out];simp [hm]);go_wp2_with fail
     go_ret;exact⟨Qb HF.out.symm,Qc hbel (by go_grown)⟩
    have hm1:(M k !=0)=false:=by simpa using hm
    cases hw:wrB (T k)
    ·have HW:Hid (_=_):=hw;have HF:Hid (Zb K C R T M n=false):=Zg hlt (by unfold Zt;rw [HKK.out];simp [hw]);clear hw
     go_wp2_with (first
      | (go_at_call 53;refine(QH _ _ HTk.out).mono ?_;rintro e w2 ⟨rfl,hb⟩;rw [HW.out];first | (have hk2:=Qc hk hb;have hc2:=(kp hb).1;have hz2:=Nat.le_trans hz hb.size;clear hb) | (obtain⟨hc,hf,hC,hF,hz,hk,l0⟩:=bk1 (w:=wr) (by go_grown) (by go_size) hb;clear hb)))
     go_ret;exact⟨Qb HF.out.symm,Qc hbel (by go_grown)⟩
    ·have HW:Hid (_=_):=hw
     have HI':Hid (∀i,i<k+1→Zt (K i) (C i) (R i) (T i) (M i) i ((n:Int)-1-i)=true):=fun i hi=>by
      by_cases e:i=k
      ·subst e;unfold Zt;rw [HKK.out];simp [MD,hc0,hr0,hw,hm]
      ·exact HI.out i (by omega)
     clear hw
     go_wp2_with (first
      | (go_at_call 53;refine(QH _ _ HTk.out).mono ?_;rintro e w2 ⟨rfl,hb⟩;rw [HW.out];first | (have hk2:=Qc hk hb;have hc2:=(kp hb).1;have hz2:=Nat.le_trans hz hb.size;clear hb) | (obtain⟨hc,hf,hC,hF,hz,hk,l0⟩:=bk1 (w:=wr) (by go_grown) (by go_size) hb;clear hb)))
     go_roundw
     case rel=>exact⟨k+1,by omega,by go_num,HI'.out,Qc hbel (by go_grown)⟩
     case measure=>simp [intOf];omega
   have HF:Hid (Zb K C R T M n=false):=Zg hlt (by unfold Zt;rw [if_neg hK1,if_neg hK2,if_neg hK3,if_neg hK4,if_neg hK5]);have n1:(K k==1)=false:=by simpa using hK1
   have n2:(K k==2)=false:=by simpa using hK2
   have n3:(K k==3)=false:=by simpa using hK3
   have n4:(K k==4)=false:=by simpa using hK4
   have n5:(K k==5)=false:=by simpa using hK5
   go_wp2_with fail
   all_goals
    go_ret;exact⟨Qb HF.out.symm,Qc hbel (by go_grown)⟩
  ·have h1: ¬(k:Int)<(n:Int):=by omega
   obtain rfl:k=n:=by omega
   go_wp2_with fail
   go_ret;exact⟨Qb (EF (by omega) HI.out).symm,hbel⟩
end Go.Proofs.YtejbnnacghbhoaaGreatDoor
