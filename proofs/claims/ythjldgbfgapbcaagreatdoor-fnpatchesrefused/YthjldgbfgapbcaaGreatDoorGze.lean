import Derived.Test.YthjldgbfgapbcaaGreatDoorGzj
import Derived.Test.YthjldgbfgapbcaaGreatDoorGaa
import Derived.Test.YthjldgbfgapbcaaGreatDoorGad
import Derived.Test.YthjldgbfgapbcaaGreatDoorMn
import Derived.Test.YthjldgbfgapbcaaGreatDoorGbg
set_option linter.unusedSimpArgs false
set_option linter.unusedVariables false
set_option maxHeartbeats 8000000
set_option maxRecDepth 100000
namespace Go.Proofs.YthjldgbfgapbcaaGreatDoor
open Go.RowKit
def ClRow (W:World) (A:Option Addr) (n:Nat) (C R:Nat→Int) (S:Nat→ByteArray):Prop:=
 n≤maxLen∧ ∀i,i<n→ ∃b o,A=some ⟨b,o,none⟩∧b<W.heap.size∧W.cell? ⟨b,o+i*3,none⟩=some (.int .i64 (C i))∧W.cell? ⟨b,o+i*3+1,none⟩=some (.int .i64 (R i))∧
  W.cell? ⟨b,o+i*3+2,none⟩=some (.string (S i))∧(S i).size≤maxLen
theorem ClRow.below {W W':World} {A:Option Addr} {n:Nat} {C R:Nat→Int} {S:Nat→ByteArray} (h:ClRow W A n C R S) (hb:Below W.heap.size W W'):ClRow W' A n C R S:=
 ⟨h.1,fun i hi=>by
  obtain⟨b,o,e,hl,c0,c1,c2,hs⟩:=h.2 i hi
  exact⟨b,o,e,Nat.lt_of_lt_of_le hl hb.size,(hb.cell (p:=⟨b,_,none⟩) hl).trans c0,(hb.cell (p:=⟨b,_,none⟩) hl).trans c1,(hb.cell (p:=⟨b,_,none⟩) hl).trans c2,hs⟩⟩
def clX (C R:Nat→Int) (S:Nat→ByteArray) (m:Nat):List Value:=(List.range m).flatMap fun i=> [.int .i64 (C i),.int .i64 (R i),.string (S i)]
theorem Mj (C R:Nat→Int) (S:Nat→ByteArray) (m:Nat):clX C R S (m+1)=clX C R S m++ [.int .i64 (C m),.int .i64 (R m),.string (S m)]:=by
 simp [clX,List.range_succ,List.flatMap_append]
theorem Oy (C R:Nat→Int) (S:Nat→ByteArray) (m:Nat):(clX C R S m).length=m*3:=by
 induction m with
 | zero=>rfl
 | succ m ih=>rw [Mj,List.length_append,ih];simp;omega
theorem Dw (C R:Nat→Int) (S:Nat→ByteArray) (m i j:Nat) (hi:i<m) (hj:j<3):
  (clX C R S m)[i*3+j]? = [Value.int .i64 (C i),.int .i64 (R i),.string (S i)][j]?:=by
 induction m with
 | zero=>omega
 | succ m ih=>
  rw [Mj];have hl:=Oy C R S m;by_cases h:i<m
  ·rw [List.getElem?_append_left (by omega)];exact ih h
  ·obtain rfl:i=m:=by omega
   rw [List.getElem?_append_right (by omega),hl];congr 1
   omega
theorem Qax:(Tryz.prog.info? 49).map (fun i=>(i.zero,i.size,i.bytes))=some (some (.agg #[.int .i64 0,.int .i64 0,.string ⟨#[]⟩]),3,32):=by kernel_rfl
theorem Qej {W:World} {B n:Nat} {A:Option Addr} {cap:Nat} {C R:Nat→Int} {S:Nat→ByteArray} (h:W.ownsRow B 49 3 (.slice A n cap) n (clX C R S n)) (hs: ∀i,i<n→(S i).size≤maxLen):ClRow W A n C R S:=by
 obtain⟨A',cap',e,hn,hc⟩:=Qr h;cases e
 refine⟨hn,fun i hi=> ?_⟩;obtain⟨g,rfl,_,hl,c0,_⟩:=hc (i*3) (by omega);obtain⟨g1,e1,_,_,c1,_⟩:=hc (i*3+1) (by omega);obtain⟨g2,e2,_,_,c2,_⟩:=hc (i*3+2) (by omega);cases e1
 cases e2
 refine⟨g,0,rfl,hl,?_,?_,?_,hs i hi⟩
 ·rw [Nat.zero_add,c0];exact Dw C R S n i 0 hi (by omega)
 ·rw [Nat.zero_add,c1];exact Dw C R S n i 1 hi (by omega)
 ·rw [Nat.zero_add,c2];exact Dw C R S n i 2 hi (by omega)
theorem Ym (c r:Int) (s:ByteArray) (w:World):Calls Tryz.prog 42 #[.agg #[.int .i64 c,.int .i64 r,.string s]] w fun e w'=>
  e= .returned (.agg #[.int .i64 c,.int .i64 r])∧Below w.heap.size w w':=by
 go_enter Tryz.func42,Tryz.ntmps42;go_wp2
 go_returns
 exact⟨rfl,by go_grown⟩
def QY (C R:Nat→Int) (i:Nat):Bool:=Qj (C i) (R i)&&(decide (i=0) || ZT (C (i-1)) (R (i-1)) (C i) (R i))
def Je (C R:Nat→Int) (n:Nat):Bool:=(List.range n).all (QY C R)
theorem Qey {n:Nat} {w X w':World} (h0:Below w.heap.size w X) (h:Below (w.heap.size+n) X w'):Below w.heap.size w w':=h0.trans (h.mono (Nat.le_add_right _ _))
theorem Hu {f:Nat→Bool} {n k:Nat} (hk:k<n) (h:f k=false):(List.range n).all f=false:=by
 rw [List.all_eq_false];exact⟨k,List.mem_range.2 hk,by simp [h]⟩
theorem Hc {f:Nat→Bool} {n:Nat} (h: ∀i,i<n→f i=true):(List.range n).all f=true:=by
 rw [List.all_eq_true];exact fun i hi=>h i (List.mem_range.1 hi)
theorem YZ {A:Option Addr} {n cap:Nat} {C R:Nat→Int} {S:Nat→ByteArray} (w:World) (h:ClRow w A n C R S):
  Calls Tryz.prog 41 #[.slice A n cap,.func (.func 42) #[] #[]] w fun e w'=>e= .returned (.bool (Je C R n))∧Below w.heap.size w w':=by
 have HR:Hid (ClRow w A n C R S):=h;have hn:=h.1;unfold maxLen at hn;clear h;go_enter Tryz.func41,Tryz.ntmps41;go_wp2_with fail
 go_loopw [9] (fun i wr=> ∃k:Nat,k≤n∧i= .int .i64 k∧(∀i,i<k→QY C R i=true)∧Below w.heap.size w wr) (fun i _=>n-(intOf i).toNat)
 case atStart=>exact⟨0,Nat.zero_le _,rfl,fun i hi=>by omega,Below.refl _ _⟩
 case round=>
  obtain⟨k,hk,rfl,hr,hbel⟩:=hrel;have HI:Hid (∀i,i<k→QY C R i=true):=hr;clear hr;by_cases hlt:k<n
  ·obtain⟨b,o,rfl,hl,c0,c1,c2,_⟩:=HR.out.2 k hlt;have hs:=hbel.size;rw [←hbel.cell (p:=⟨_,_,none⟩) hl]at c0 c1 c2;have hl2:b<wr.heap.size:=Nat.lt_of_lt_of_le hl hs;have hl3:b<wr.heap.size+1:=Nat.lt_succ_of_lt hl2;have h0:(0:Int)≤(k:Int):=by omega
   have h1:(k:Int)<(n:Int):=by omega
   cases ho:Qj (C k) (R k)
   ·have HO:Hid (Qj (C k) (R k)=false):=ho;have HF:Hid (Je C R n=false):=Hu hlt (by simp [QY,ho]);clear ho;go_wp2_with fail
    refine wp_region_held_drew (S:=(fun w'=>(∀bq oq,bq<wr.heap.size+1→w'.cell? ⟨bq,oq,none⟩=(wr.alloc (.cells #[.int .i64 (C k),.int .i64 (R k),.string (S k)] 49)).cell? ⟨bq,oq,none⟩)∧wr.heap.size+1≤w'.heap.size∧Below (wr.heap.size+1) (wr.alloc (.cells #[.int .i64 (C k),.int .i64 (R k),.string (S k)] 49)) w')) (by kernel_rfl) (Qm (by go_size) (by go_grown)) (fun hHeld=> ?_);refine tkA 0 ?_;refine tkB 1 ?_;refine rqA 2 (fun Kq hKq=> ?_);go_simp
    (refine(Ym _ _ _ _).mono ?_;rintro e w1 ⟨rfl,hb⟩;obtain⟨hk1,hz1⟩:=Qi (B:=wr.heap.size+1) (X:=(wr.alloc (.cells #[.int .i64 (C k),.int .i64 (R k),.string (S k)] 49))) (by go_grown) (by go_size) hb;have hC:=fun b o h=>hk1.cell (p:=⟨b,o,none⟩) h;clear hb)
    refine hkB hKq (Qm (by go_size) (by go_grown)) fun hHeld=> ?_;clear hKq Kq;refine rqA 3 (fun Kq hKq=> ?_);go_simp
    (refine(QN _ _ _).mono ?_;rintro e w1 ⟨rfl,hb⟩;rw [HO.out];obtain⟨hk1,hz1⟩:=Qi (B:=wr.heap.size+1) (X:=(wr.alloc (.cells #[.int .i64 (C k),.int .i64 (R k),.string (S k)] 49))) (by go_grown) (by go_size) hb;have hC:=fun b o h=>hk1.cell (p:=⟨b,o,none⟩) h;clear hb)
    refine hkB hKq (Qm (by go_size) (by go_grown)) fun hHeld=> ?_;clear hKq Kq;refine tkA 4 ?_;refine tkB 5 ?_;refine tnA 6 ?_;refine tnB 7 ?_;refine tnA 8 ?_
    refine tnB 9 ?_;refine tnA 10 ?_;refine tnB 11 ?_;refine tnA 12 ?_;refine tnB 13 ?_;refine tnA 14 ?_;refine tnB 15 ?_
    refine tnA 16 ?_;refine tnB 17 ?_;refine tnA 18 ?_;refine tnB 19 ?_;refine tnA 20 ?_;refine tnB 21 ?_;refine tkB 22 ?_
    refine wpAnyH_done (by kernel_rfl) ?_ _;all_goals go_wp2_with fail
    all_goals
     go_ret;exact⟨Qb HF.out.symm,(hbel.trans (Below.mono (Qey (n:=1) (X:=(wr.alloc (.cells #[.int .i64 (C k),.int .i64 (R k),.string (S k)] 49))) (by go_grown) (by go_grown)) hs))⟩
   have HO:Hid (Qj (C k) (R k)=true):=ho;clear ho;match k,hk,hlt,HI,HO,c0,c1,c2,h0,h1 with
   | 0,hk,hlt,HI,HO,c0,c1,c2,h0,h1=>
    have hR:QY C R 0=true:=by simp [QY,HO.out]
    have HI':Hid (∀i,i<0+1→QY C R i=true):=fun i hi=>by rw [show i=0 by omega];exact hR
    simp only [Nat.zero_mul,Nat.add_zero]at c0 c1 c2;clear hR;go_wp2_with fail
    refine wp_region_held_drew (S:=(fun w'=>(∀bq oq,bq<wr.heap.size+1→w'.cell? ⟨bq,oq,none⟩=(wr.alloc (.cells #[.int .i64 (C 0),.int .i64 (R 0),.string (S 0)] 49)).cell? ⟨bq,oq,none⟩)∧wr.heap.size+1≤w'.heap.size∧Below (wr.heap.size+1) (wr.alloc (.cells #[.int .i64 (C 0),.int .i64 (R 0),.string (S 0)] 49)) w')) (by kernel_rfl) (Qm (by go_size) (by go_grown)) (fun hHeld=> ?_);refine tkA 0 ?_;refine tkB 1 ?_;refine rqA 2 (fun Kq hKq=> ?_);go_simp
    (refine(Ym _ _ _ _).mono ?_;rintro e w1 ⟨rfl,hb⟩;obtain⟨hk1,hz1⟩:=Qi (B:=wr.heap.size+1) (X:=(wr.alloc (.cells #[.int .i64 (C 0),.int .i64 (R 0),.string (S 0)] 49))) (by go_grown) (by go_size) hb;have hC:=fun b o h=>hk1.cell (p:=⟨b,o,none⟩) h;clear hb)
    refine hkB hKq (Qm (by go_size) (by go_grown)) fun hHeld=> ?_;clear hKq Kq;refine rqA 3 (fun Kq hKq=> ?_);go_simp
    (refine(QN _ _ _).mono ?_;rintro e w1 ⟨rfl,hb⟩;rw [HO.out];obtain⟨hk1,hz1⟩:=Qi (B:=wr.heap.size+1) (X:=(wr.alloc (.cells #[.int .i64 (C 0),.int .i64 (R 0),.string (S 0)] 49))) (by go_grown) (by go_size) hb;have hC:=fun b o h=>hk1.cell (p:=⟨b,o,none⟩) h;clear hb)
    refine hkB hKq (Qm (by go_size) (by go_grown)) fun hHeld=> ?_;clear hKq Kq;refine tkA 4 ?_;refine tkB 5 ?_;refine tkA 6 ?_;refine tkB 7 ?_;refine tkA 8 ?_
    refine tnB 9 ?_;refine tnA 10 ?_;refine tnB 11 ?_;refine tnA 12 ?_;refine tnB 13 ?_;refine tnA 14 ?_;refine tnB 15 ?_
    refine tnA 16 ?_;refine tnB 17 ?_;refine tnA 18 ?_;refine tnB 19 ?_;refine tnA 20 ?_;refine tkB 21 ?_;refine tkB 22 ?_
    refine wpAnyH_done (by kernel_rfl) ?_ _;all_goals go_wp2_with fail
    all_goals
     go_roundw
     case rel=>exact⟨0+1,by omega,by go_num,HI'.out,(hbel.trans (Below.mono (Qey (n:=1) (X:=(wr.alloc (.cells #[.int .i64 (C 0),.int .i64 (R 0),.string (S 0)] 49))) (by go_grown) (by go_grown)) hs))⟩
     case measure=>simp [intOf];omega
   | m+1,hk,hlt,HI,HO,c0,c1,c2,h0,h1=>
    obtain⟨b',o',e',_,d0,d1,d2,_⟩:=HR.out.2 m (by omega);cases e'
    rw [←hbel.cell (p:=⟨_,_,none⟩) hl]at d0 d1 d2;have p0:(0:Int)≤(m:Int):=by omega
    have p1:(m:Int)<(n:Int):=by omega
    have p2:IntKind.i64.wrap (m:Int)=(m:Int):=by rw [IntKind.wrap_i64];omega
    have p3:IntKind.i64.wrap ((m:Int)+1-1)=(m:Int):=by rw [IntKind.wrap_i64];omega
    cases ha:ZT (C m) (R m) (C (m+1)) (R (m+1))
    ·have HA:Hid (0≤Qai (C m) (R m) (C (m+1)) (R (m+1))):=(Ki _ _ _ _).2 ha;have hA:=HA.out;have HF:Hid (Je C R n=false):=Hu hlt (by simp [QY,ha]);clear ha;go_wp2_with fail
     go_region_held3 (fun w'=>(∀bq oq,bq<wr.heap.size+1→w'.cell? ⟨bq,oq,none⟩=(wr.alloc (.cells #[.int .i64 (C (m+1)),.int .i64 (R (m+1)),.string (S (m+1))] 49)).cell? ⟨bq,oq,none⟩)∧wr.heap.size+1≤w'.heap.size∧Below (wr.heap.size+1) (wr.alloc (.cells #[.int .i64 (C (m+1)),.int .i64 (R (m+1)),.string (S (m+1))] 49)) w')
      (exact Qm (by go_size) (by go_grown))
      (first
      | (go_at_call 42;refine(Ym _ _ _ _).mono ?_;rintro e w1 ⟨rfl,hb⟩;obtain⟨hk1,hz1⟩:=Qi (B:=wr.heap.size+1) (X:=(wr.alloc (.cells #[.int .i64 (C (m+1)),.int .i64 (R (m+1)),.string (S (m+1))] 49))) (by go_grown) (by go_size) hb;have hC:=fun b o h=>hk1.cell (p:=⟨b,o,none⟩) h;clear hb)
      | (go_at_call 33;refine(QN _ _ _).mono ?_;rintro e w1 ⟨rfl,hb⟩;rw [HO.out];obtain⟨hk1,hz1⟩:=Qi (B:=wr.heap.size+1) (X:=(wr.alloc (.cells #[.int .i64 (C (m+1)),.int .i64 (R (m+1)),.string (S (m+1))] 49))) (by go_grown) (by go_size) hb;have hC:=fun b o h=>hk1.cell (p:=⟨b,o,none⟩) h;clear hb)
      | (go_at_call 58;refine(XA _ _ _ _ _).mono ?_;rintro e w1 ⟨rfl,hb⟩;obtain⟨hk1,hz1⟩:=Qi (B:=wr.heap.size+1) (X:=(wr.alloc (.cells #[.int .i64 (C (m+1)),.int .i64 (R (m+1)),.string (S (m+1))] 49))) (by go_grown) (by go_size) hb;have hC:=fun b o h=>hk1.cell (p:=⟨b,o,none⟩) h;clear hb))
     all_goals go_wp2_with fail
     all_goals
      go_ret;exact⟨Qb HF.out.symm,(hbel.trans (Below.mono (Qey (n:=1) (X:=(wr.alloc (.cells #[.int .i64 (C (m+1)),.int .i64 (R (m+1)),.string (S (m+1))] 49))) (by go_grown) (by go_grown)) hs))⟩
    ·have hA: ¬0≤Qai (C m) (R m) (C (m+1)) (R (m+1)):=fun h=>by rw [(Ki _ _ _ _).1 h]at ha;cases ha
     have hR:QY C R (m+1)=true:=by simp [QY,HO.out,ha]
     have HI':Hid (∀i,i<m+1+1→QY C R i=true):=fun i hi=>by
      by_cases e:i=m+1
      ·subst e;exact hR
      ·exact HI.out i (by omega)
     clear ha hR;go_wp2_with fail
     go_region_held3 (fun w'=>(∀bq oq,bq<wr.heap.size+1→w'.cell? ⟨bq,oq,none⟩=(wr.alloc (.cells #[.int .i64 (C (m+1)),.int .i64 (R (m+1)),.string (S (m+1))] 49)).cell? ⟨bq,oq,none⟩)∧wr.heap.size+1≤w'.heap.size∧Below (wr.heap.size+1) (wr.alloc (.cells #[.int .i64 (C (m+1)),.int .i64 (R (m+1)),.string (S (m+1))] 49)) w')
      (exact Qm (by go_size) (by go_grown))
      (first
      | (go_at_call 42;refine(Ym _ _ _ _).mono ?_;rintro e w1 ⟨rfl,hb⟩;obtain⟨hk1,hz1⟩:=Qi (B:=wr.heap.size+1) (X:=(wr.alloc (.cells #[.int .i64 (C (m+1)),.int .i64 (R (m+1)),.string (S (m+1))] 49))) (by go_grown) (by go_size) hb;have hC:=fun b o h=>hk1.cell (p:=⟨b,o,none⟩) h;clear hb)
      | (go_at_call 33;refine(QN _ _ _).mono ?_;rintro e w1 ⟨rfl,hb⟩;rw [HO.out];obtain⟨hk1,hz1⟩:=Qi (B:=wr.heap.size+1) (X:=(wr.alloc (.cells #[.int .i64 (C (m+1)),.int .i64 (R (m+1)),.string (S (m+1))] 49))) (by go_grown) (by go_size) hb;have hC:=fun b o h=>hk1.cell (p:=⟨b,o,none⟩) h;clear hb)
      | (go_at_call 58;refine(XA _ _ _ _ _).mono ?_;rintro e w1 ⟨rfl,hb⟩;obtain⟨hk1,hz1⟩:=Qi (B:=wr.heap.size+1) (X:=(wr.alloc (.cells #[.int .i64 (C (m+1)),.int .i64 (R (m+1)),.string (S (m+1))] 49))) (by go_grown) (by go_size) hb;have hC:=fun b o h=>hk1.cell (p:=⟨b,o,none⟩) h;clear hb))
     all_goals go_wp2_with fail
     all_goals
      go_roundw
      case rel=>exact⟨m+1+1,by omega,by go_num,HI'.out,(hbel.trans (Below.mono (Qey (n:=1) (X:=(wr.alloc (.cells #[.int .i64 (C (m+1)),.int .i64 (R (m+1)),.string (S (m+1))] 49))) (by go_grown) (by go_grown)) hs))⟩
      case measure=>simp [intOf];omega
  ·have h1: ¬(k:Int)<(n:Int):=by omega
   obtain rfl:k=n:=by omega
   go_wp2_with fail
   go_ret;exact⟨Qb (Hc HI.out).symm,hbel⟩
def JQ (s:ByteArray):Bool:=match inF s with
 | some t=>t.toList==s.toList
 | none=>false
def YA (S:Nat→ByteArray) (i:Nat):Bool:= !(S i).toList.isEmpty&&JQ (S i)
def QC (C R:Nat→Int) (S:Nat→ByteArray) (n:Nat):Bool:=decide (n≤120)&&Je C R n&&(List.range n).all (YA S)
theorem Ef {C R:Nat→Int} {S:Nat→ByteArray} {n:Nat} (h:120<n):QC C R S n=false:=by
 have e:decide (n≤120)=false:=by simp;omega
 simp [QC,e]
theorem Gf {C R:Nat→Int} {S:Nat→ByteArray} {n:Nat} (h:Je C R n=false):QC C R S n=false:=by
 simp [QC,h]
theorem Vb {C R:Nat→Int} {S:Nat→ByteArray} {n k:Nat} (hk:k<n) (h:YA S k=false):QC C R S n=false:=by
 have e:(List.range n).all (YA S)=false:=Hu hk h;simp [QC,e]
theorem Ee {C R:Nat→Int} {S:Nat→ByteArray} {n:Nat} (h:n≤120) (hr:Je C R n=true) (hv:(List.range n).all (YA S)=true):QC C R S n=true:=by
 simp [QC,h,hr,hv]
theorem Zk (s:ByteArray) (w:World) (hs:s.size≤maxLen) (hg:GI w):Calls Tryz.prog 34 #[.string s] w fun e w'=>e= .returned (.bool (JQ s))∧Below w.heap.size w w':=by
 have HG:Hid (GI w):=hg;clear hg;cases ho:inF s with
 | none=>
  have HO:Hid (inF s=none):=ho;have HB:Hid (JQ s=false):=by show _=_;unfold JQ;rw [ho]
  clear ho;go_enter Tryz.func34,Tryz.ntmps34;go_wp2_with fail
  refine(Kp s w hs HG.out).mono ?_;rintro e u1 ⟨he,hb⟩;rw [HO.out]at he;obtain rfl:e= .returned (.tuple #[.string ⟨#[]⟩,.bool false]):=he;go_wp2_with fail
  go_ret;exact⟨Qb HB.out.symm,hb⟩
 | some t=>
  have HO:Hid (inF s=some t):=ho;have HB:Hid (JQ s=(t.toList==s.toList)):=by show _=_;unfold JQ;rw [ho]
  clear ho;go_enter Tryz.func34,Tryz.ntmps34;go_wp2_with fail
  refine(Kp s w hs HG.out).mono ?_;rintro e u1 ⟨he,hb⟩;rw [HO.out]at he;obtain rfl:e= .returned (.tuple #[.string t,.bool true]):=he;go_wp2_with fail
  go_ret;exact⟨Qb HB.out.symm,hb⟩
theorem Jb {A:Option Addr} {n cap:Nat} {C R:Nat→Int} {S:Nat→ByteArray} (w:World) (h:ClRow w A n C R S) (hg:GI w):
  Calls Tryz.prog 18 #[.slice A n cap] w fun e w'=>e= .returned (.bool (QC C R S n))∧Below w.heap.size w w':=by
 have HR:Hid (ClRow w A n C R S):=h;have HG:Hid (GI w):=hg;have hn:=h.1;unfold maxLen at hn;clear h hg;by_cases hbig:(120:Int)<(n:Int)
 ·have HF:Hid (QC C R S n=false):=Ef (by omega);go_enter Tryz.func18,Tryz.ntmps18;go_wp2_with fail
  go_ret;exact⟨Qb HF.out.symm,by go_grown⟩
 cases hrs:Je C R n
 ·have HRS:Hid (Je C R n=false):=hrs;have HF:Hid (QC C R S n=false):=Gf hrs;clear hrs;go_enter Tryz.func18,Tryz.ntmps18;go_wp2_with (go_at_call 41;refine(YZ _ HR.out).mono ?_;rintro e w1 ⟨rfl,hb⟩;rw [HRS.out])
  go_ret;exact⟨Qb HF.out.symm,by go_grown⟩
 have HRS:Hid (Je C R n=true):=hrs;clear hrs;go_enter Tryz.func18,Tryz.ntmps18;go_wp2_with fail
 refine(YZ _ HR.out).mono ?_;rintro e w1 ⟨rfl,hb1⟩;rw [HRS.out];go_wp2_with fail
 go_loopw [15] (fun i wr=> ∃k:Nat,k≤n∧i= .int .i64 k∧(∀i,i<k→YA S i=true)∧Below w.heap.size w wr) (fun i _=>n-(intOf i).toNat)
 case atStart=>exact⟨0,Nat.zero_le _,rfl,fun i hi=>by omega,hb1⟩
 case round=>
  clear hb1;obtain⟨k,hk,rfl,hr,hbel⟩:=hrel;have HI:Hid (∀i,i<k→YA S i=true):=hr;clear hr;by_cases hlt:k<n
  ·obtain⟨b,o,rfl,hl,c0,c1,c2,hsz⟩:=HR.out.2 k hlt;have HS:Hid ((S k).size≤maxLen):=hsz;clear hsz;have hs:=hbel.size;have HGr:=hd (HG.out.below hbel);rw [←hbel.cell (p:=⟨_,_,none⟩) hl]at c0 c1 c2;have hl2:b<wr.heap.size:=Nat.lt_of_lt_of_le hl hs
   have h0:(0:Int)≤(k:Int):=by omega
   have h1:(k:Int)<(n:Int):=by omega
   cases he:(S k).toList.isEmpty
   ·cases hv:JQ (S k)
    ·have HV:Hid (JQ (S k)=false):=hv;have HF:Hid (QC C R S n=false):=Vb hlt (by simp [YA,hv]);clear hv;go_wp2_with (go_at_call 34;refine(Zk _ _ HS.out (HGr.out.below (by go_grown))).mono ?_;rintro e w2 ⟨rfl,hb⟩;rw [HV.out];have hk1:=Qe (w:=wr) (by go_grown) hb;clear hb)
     go_ret;exact⟨Qb HF.out.symm,Qe hbel (by go_grown)⟩
    ·have HV:Hid (JQ (S k)=true):=hv;have HT:Hid (YA S k=true):=by show _=_;simp [YA,hv,he]
     clear hv;go_wp2_with (go_at_call 34;refine(Zk _ _ HS.out (HGr.out.below (by go_grown))).mono ?_;rintro e w2 ⟨rfl,hb⟩;rw [HV.out];have hk1:=Qe (w:=wr) (by go_grown) hb;clear hb)
     go_roundw
     case rel=>exact⟨k+1,by omega,by go_num,fun i hi=>by
      by_cases e:i=k
      ·subst e;exact HT.out
      ·exact HI.out i (by omega),Qe hbel (by go_grown)⟩
     case measure=>simp [intOf];omega
   ·have HF:Hid (QC C R S n=false):=Vb hlt (by simp [YA,he]);go_wp2_with fail
    go_ret;exact⟨Qb HF.out.symm,Qe hbel (by go_grown)⟩
  ·have h1: ¬(k:Int)<(n:Int):=by omega
   obtain rfl:k=n:=by omega
   go_wp2_with fail
   go_ret;exact⟨Qb (Ee (by omega) HRS.out (Hc HI.out)).symm,hbel⟩
theorem Qdu {o:Option ByteArray} {e:Ending} (h:opA o e): ∃t ok,e= .returned (.tuple #[.string t,.bool ok]):=by
 cases o with
 | none=>exact⟨_,_,h⟩
 | some t=>exact⟨_,_,h⟩
theorem YX {A:Option Addr} {n cap:Nat} {C R:Nat→Int} {S:Nat→ByteArray} (w:World) (h:ClRow w A n C R S):
  Calls Tryz.prog 11 #[.slice A n cap] w fun e w'=>e= .returned (.bool (QC C R S n))∧Below w.heap.size w w':=by
 have HR:Hid (ClRow w A n C R S):=h;have hn:=h.1;unfold maxLen at hn;clear h;by_cases hbig:(120:Int)<(n:Int)
 ·have HF:Hid (QC C R S n=false):=Ef (by omega);go_enter Tryz.func11,Tryz.ntmps11;go_wp2_with fail
  go_ret;exact⟨Qb HF.out.symm,by go_grown⟩
 go_enter Tryz.func11,Tryz.ntmps11;go_wp2_with fail
 go_loopw [3] (fun i wr=> ∃k:Nat,k≤n∧i= .int .i64 k∧(∀i,i<k→QY C R i=true∧YA S i=true)∧Below w.heap.size w wr) (fun i _=>n-(intOf i).toNat)
 case atStart=>exact⟨0,Nat.zero_le _,rfl,fun i hi=>by omega,Below.refl _ _⟩
 case round=>
  obtain⟨k,hk,rfl,hr,hbel⟩:=hrel;have HI:Hid (∀i,i<k→QY C R i=true∧YA S i=true):=hr;clear hr;by_cases hlt:k<n
  ·obtain⟨b,o,rfl,hl,c0,c1,c2,hsz⟩:=HR.out.2 k hlt;have HS:Hid ((S k).size≤maxLen):=hsz;clear hsz;have hs:=hbel.size;rw [←hbel.cell (p:=⟨_,_,none⟩) hl]at c0 c1 c2;have hl2:b<wr.heap.size:=Nat.lt_of_lt_of_le hl hs;have h0:(0:Int)≤(k:Int):=by omega
   have h1:(k:Int)<(n:Int):=by omega
   cases ho:Qj (C k) (R k)
   ·have HO:Hid (Qj (C k) (R k)=false):=ho;have HF:Hid (QC C R S n=false):=Gf (Hu hlt (by simp [QY,ho]));clear ho;go_wp2_with fail
    refine(Zg (S k) _ HS.out).mono ?_;rintro e w3 ⟨he,hb⟩;obtain⟨txt,ok,rfl⟩:=Qdu he;have K3:Hid (Below wr.heap.size wr w3):=hb;rw [←hb.cell (p:=⟨_,_,none⟩) hl2]at c0 c1 c2;have hl3:b<w3.heap.size:=Nat.lt_of_lt_of_le hl2 hb.size;clear hb he
    go_wp2_with fail
    refine wp_region_held_drew (S:=(fun w'=>(∀bq oq,bq<w3.heap.size→w'.cell? ⟨bq,oq,none⟩=w3.cell? ⟨bq,oq,none⟩)∧w3.heap.size≤w'.heap.size∧Below w3.heap.size w3 w')) (by kernel_rfl) (Qm (by go_size) (by go_grown)) (fun hHeld=> ?_);refine tkA 0 ?_;refine tkB 1 ?_;refine tkA 2 ?_;refine tkB 3 ?_;refine tkB 4 ?_;refine rqA 5 (fun Kq hKq=> ?_)
    go_simp
    (refine(Qu _ _ _).mono ?_;rintro e w1 ⟨rfl,hb⟩;rw [HO.out];obtain⟨hk1,hz1⟩:=Qi (B:=w3.heap.size) (X:=w3) (by go_grown) (by go_size) hb;have hC:=fun b o h=>hk1.cell (p:=⟨b,o,none⟩) h;clear hb)
    refine hkB hKq (Qm (by go_size) (by go_grown)) fun hHeld=> ?_;clear hKq Kq;refine tkA 6 ?_;refine tkB 7 ?_;refine tnA 8 ?_;refine tnA 9 ?_;refine tkB 10 ?_
    refine tkA 11 ?_;refine tnA 12 ?_;refine tnB 13 ?_;refine tnA 14 ?_;refine tnA 15 ?_;refine tnA 16 ?_;refine tnB 17 ?_
    refine tkA 18 ?_;refine tkB 19 ?_;refine tnA 20 ?_;refine tnA 21 ?_;refine tnA 22 ?_;refine tnB 23 ?_;refine tnA 24 ?_
    refine tnA 25 ?_;refine tnB 26 ?_;refine tkA 27 ?_;refine tkB 28 ?_;refine tnA 29 ?_;refine tnA 30 ?_;refine tnA 31 ?_
    refine tnB 32 ?_;refine tnA 33 ?_;refine tnA 34 ?_;refine tnA 35 ?_;refine tnB 36 ?_;refine tnA 37 ?_;refine tnA 38 ?_
    refine tnA 39 ?_;refine tnB 40 ?_;refine tnA 41 ?_;refine tnA 42 ?_;refine tnA 43 ?_;refine tnB 44 ?_;refine tnA 45 ?_
    refine tkB 46 ?_;refine wpAnyH_done (by kernel_rfl) ?_ _;go_wp2_with fail
    go_ret;exact⟨Qb HF.out.symm,Qe (Qe hbel K3.out) (by go_grown)⟩
   have HO:Hid (Qj (C k) (R k)=true):=ho;clear ho;cases hin:inF (S k)with
   | none=>
    have HIN:Hid (inF (S k)=none):=hin;have HF:Hid (QC C R S n=false):=Vb hlt (by simp [YA,JQ,hin]);clear hin;go_wp2_with fail
    refine(Zg (S k) _ HS.out).mono ?_;rintro e w3 ⟨he,hb⟩;rw [HIN.out]at he;obtain rfl:e= .returned (.tuple #[.string ⟨#[]⟩,.bool false]):=he;have K3:Hid (Below wr.heap.size wr w3):=hb;rw [←hb.cell (p:=⟨_,_,none⟩) hl2]at c0 c1 c2;have hl3:b<w3.heap.size:=Nat.lt_of_lt_of_le hl2 hb.size
    clear hb;go_wp2_with fail
    refine wp_region_held_drew (S:=(fun w'=>(∀bq oq,bq<w3.heap.size→w'.cell? ⟨bq,oq,none⟩=w3.cell? ⟨bq,oq,none⟩)∧w3.heap.size≤w'.heap.size∧Below w3.heap.size w3 w')) (by kernel_rfl) (Qm (by go_size) (by go_grown)) (fun hHeld=> ?_);refine tkA 0 ?_;refine tkB 1 ?_;refine tkA 2 ?_;refine tkB 3 ?_;refine tkB 4 ?_;refine rqA 5 (fun Kq hKq=> ?_)
    go_simp
    (refine(Qu _ _ _).mono ?_;rintro e w1 ⟨rfl,hb⟩;rw [HO.out];obtain⟨hk1,hz1⟩:=Qi (B:=w3.heap.size) (X:=w3) (by go_grown) (by go_size) hb;have hC:=fun b o h=>hk1.cell (p:=⟨b,o,none⟩) h;clear hb)
    refine hkB hKq (Qm (by go_size) (by go_grown)) fun hHeld=> ?_;clear hKq Kq;refine tkA 6 ?_;refine tkB 7 ?_;refine tkA 8 ?_;refine tkB 9 ?_;refine tkA 10 ?_
    refine tkB 11 ?_;refine tnA 12 ?_;refine tnA 13 ?_;refine tnA 14 ?_;refine tnB 15 ?_;refine tnA 16 ?_;refine tnA 17 ?_
    refine tkB 18 ?_;refine tkA 19 ?_;refine tnA 20 ?_;refine tnB 21 ?_;refine tnA 22 ?_;refine tnA 23 ?_;refine tnA 24 ?_
    refine tnB 25 ?_;refine tnA 26 ?_;refine tkB 27 ?_;refine tkA 28 ?_;refine tnA 29 ?_;refine tnB 30 ?_;refine tnA 31 ?_
    refine tnA 32 ?_;refine tnA 33 ?_;refine tnB 34 ?_;refine tnA 35 ?_;refine tnA 36 ?_;refine tnA 37 ?_;refine tnB 38 ?_
    refine tnA 39 ?_;refine tnA 40 ?_;refine tnA 41 ?_;refine tnB 42 ?_;refine tnA 43 ?_;refine tnA 44 ?_;refine tnB 45 ?_
    refine tkB 46 ?_;refine wpAnyH_done (by kernel_rfl) ?_ _;go_wp2_with fail
    go_ret;exact⟨Qb HF.out.symm,Qe (Qe hbel K3.out) (by go_grown)⟩
   | some t=>
    have HIN:Hid (inF (S k)=some t):=hin;cases he:(S k).toList.isEmpty
    rotate_left
    ·have HF:Hid (QC C R S n=false):=Vb hlt (by simp [YA,he]);clear hin;go_wp2_with fail
     refine(Zg (S k) _ HS.out).mono ?_;rintro e w3 ⟨he,hb⟩;rw [HIN.out]at he;obtain rfl:e= .returned (.tuple #[.string t,.bool true]):=he;have K3:Hid (Below wr.heap.size wr w3):=hb;rw [←hb.cell (p:=⟨_,_,none⟩) hl2]at c0 c1 c2;have hl3:b<w3.heap.size:=Nat.lt_of_lt_of_le hl2 hb.size
     clear hb;go_wp2_with fail
     refine wp_region_held_drew (S:=(fun w'=>(∀bq oq,bq<w3.heap.size→w'.cell? ⟨bq,oq,none⟩=w3.cell? ⟨bq,oq,none⟩)∧w3.heap.size≤w'.heap.size∧Below w3.heap.size w3 w')) (by kernel_rfl) (Qm (by go_size) (by go_grown)) (fun hHeld=> ?_);refine tkA 0 ?_;refine tkB 1 ?_;refine tkA 2 ?_;refine tkB 3 ?_;refine tkB 4 ?_;refine rqA 5 (fun Kq hKq=> ?_)
     go_simp
     (refine(Qu _ _ _).mono ?_;rintro e w1 ⟨rfl,hb⟩;rw [HO.out];obtain⟨hk1,hz1⟩:=Qi (B:=w3.heap.size) (X:=w3) (by go_grown) (by go_size) hb;have hC:=fun b o h=>hk1.cell (p:=⟨b,o,none⟩) h;clear hb)
     refine hkB hKq (Qm (by go_size) (by go_grown)) fun hHeld=> ?_;clear hKq Kq;refine tkA 6 ?_;refine tkB 7 ?_;refine tkA 8 ?_;refine tkB 9 ?_;refine tkA 10 ?_
     refine tkB 11 ?_;refine tkA 12 ?_;refine tkB 13 ?_;refine tkA 14 ?_;refine tkB 15 ?_;refine tkA 16 ?_;refine tkB 17 ?_
     refine tkA 18 ?_;refine tkB 19 ?_;refine tnA 20 ?_;refine tnA 21 ?_;refine tnA 22 ?_;refine tnB 23 ?_;refine tnA 24 ?_
     refine tnA 25 ?_;refine tnB 26 ?_;refine tkA 27 ?_;refine tkB 28 ?_;refine tnA 29 ?_;refine tnA 30 ?_;refine tnA 31 ?_
     refine tnB 32 ?_;refine tnA 33 ?_;refine tnA 34 ?_;refine tnA 35 ?_;refine tnB 36 ?_;refine tnA 37 ?_;refine tnA 38 ?_
     refine tnA 39 ?_;refine tnB 40 ?_;refine tnA 41 ?_;refine tnA 42 ?_;refine tnA 43 ?_;refine tnB 44 ?_;refine tnA 45 ?_
     refine tkB 46 ?_;refine wpAnyH_done (by kernel_rfl) ?_ _;go_wp2_with fail
     go_ret;exact⟨Qb HF.out.symm,Qe (Qe hbel K3.out) (by go_grown)⟩
    cases hq:(t.toList==(S k).toList)
    ·have HF:Hid (QC C R S n=false):=Vb hlt (by simp [YA,JQ,hin];intro _;simpa using hq);clear hin;go_wp2_with fail
     refine(Zg (S k) _ HS.out).mono ?_;rintro e w3 ⟨he,hb⟩;rw [HIN.out]at he;obtain rfl:e= .returned (.tuple #[.string t,.bool true]):=he;have K3:Hid (Below wr.heap.size wr w3):=hb;rw [←hb.cell (p:=⟨_,_,none⟩) hl2]at c0 c1 c2;have hl3:b<w3.heap.size:=Nat.lt_of_lt_of_le hl2 hb.size
     clear hb;go_wp2_with fail
     refine wp_region_held_drew (S:=(fun w'=>(∀bq oq,bq<w3.heap.size→w'.cell? ⟨bq,oq,none⟩=w3.cell? ⟨bq,oq,none⟩)∧w3.heap.size≤w'.heap.size∧Below w3.heap.size w3 w')) (by kernel_rfl) (Qm (by go_size) (by go_grown)) (fun hHeld=> ?_);refine tkA 0 ?_;refine tkB 1 ?_;refine tkA 2 ?_;refine tkB 3 ?_;refine tkB 4 ?_;refine rqA 5 (fun Kq hKq=> ?_)
     go_simp
     (refine(Qu _ _ _).mono ?_;rintro e w1 ⟨rfl,hb⟩;rw [HO.out];obtain⟨hk1,hz1⟩:=Qi (B:=w3.heap.size) (X:=w3) (by go_grown) (by go_size) hb;have hC:=fun b o h=>hk1.cell (p:=⟨b,o,none⟩) h;clear hb)
     refine hkB hKq (Qm (by go_size) (by go_grown)) fun hHeld=> ?_;clear hKq Kq;refine tkA 6 ?_;refine tkB 7 ?_;refine tkA 8 ?_;refine tkB 9 ?_;refine tkA 10 ?_
     refine tkB 11 ?_;refine tkA 12 ?_;refine tkB 13 ?_;refine tkA 14 ?_;refine tkB 15 ?_;refine tkA 16 ?_;refine tkB 17 ?_
     refine tkA 18 ?_;refine tkB 19 ?_;refine tkA 20 ?_;refine tkB 21 ?_;refine tkA 22 ?_;refine tkB 23 ?_;refine tkA 24 ?_
     refine tkB 25 ?_;refine tkA 26 ?_;refine tkB 27 ?_;refine tkA 28 ?_;refine tnA 29 ?_;refine tnB 30 ?_;refine tnA 31 ?_
     refine tnA 32 ?_;refine tnA 33 ?_;refine tnB 34 ?_;refine tnA 35 ?_;refine tnA 36 ?_;refine tnA 37 ?_;refine tnB 38 ?_
     refine tnA 39 ?_;refine tnA 40 ?_;refine tnA 41 ?_;refine tnB 42 ?_;refine tnA 43 ?_;refine tnA 44 ?_;refine tnB 45 ?_
     refine tkB 46 ?_;refine wpAnyH_done (by kernel_rfl) ?_ _;go_wp2_with fail
     go_ret;exact⟨Qb HF.out.symm,Qe (Qe hbel K3.out) (by go_grown)⟩
    have HSK:Hid (YA S k=true):=by show _=_;unfold YA JQ;rw [hin,he];exact hq
    clear hin;match k,hk,hlt,HI,HO,HS,HIN,HSK,he,hq,c0,c1,c2,h0,h1 with
    | 0,hk,hlt,HI,HO,HS,HIN,HSK,he,hq,c0,c1,c2,h0,h1=>
     have hR:QY C R 0=true:=by simp [QY,HO.out]
     have HI':Hid (∀i,i<0+1→QY C R i=true∧YA S i=true):=fun i hi=>by rw [show i=0 by omega];exact⟨hR,HSK.out⟩
     simp only [Nat.zero_mul,Nat.add_zero]at c0 c1 c2;clear hR;go_wp2_with fail
     refine(Zg (S 0) _ HS.out).mono ?_;rintro e w3 ⟨he,hb⟩;rw [HIN.out]at he;obtain rfl:e= .returned (.tuple #[.string t,.bool true]):=he;have K3:Hid (Below wr.heap.size wr w3):=hb;rw [←hb.cell (p:=⟨_,_,none⟩) hl2]at c0 c1 c2;have hl3:b<w3.heap.size:=Nat.lt_of_lt_of_le hl2 hb.size
     clear hb;go_wp2_with fail
     refine wp_region_held_drew (S:=(fun w'=>(∀bq oq,bq<w3.heap.size→w'.cell? ⟨bq,oq,none⟩=w3.cell? ⟨bq,oq,none⟩)∧w3.heap.size≤w'.heap.size∧Below w3.heap.size w3 w')) (by kernel_rfl) (Qm (by go_size) (by go_grown)) (fun hHeld=> ?_);refine tkA 0 ?_;refine tkB 1 ?_;refine tkA 2 ?_;refine tkB 3 ?_;refine tkB 4 ?_;refine rqA 5 (fun Kq hKq=> ?_)
     go_simp
     (refine(Qu _ _ _).mono ?_;rintro e w1 ⟨rfl,hb⟩;rw [HO.out];obtain⟨hk1,hz1⟩:=Qi (B:=w3.heap.size) (X:=w3) (by go_grown) (by go_size) hb;have hC:=fun b o h=>hk1.cell (p:=⟨b,o,none⟩) h;clear hb)
     refine hkB hKq (Qm (by go_size) (by go_grown)) fun hHeld=> ?_;clear hKq Kq;refine tkA 6 ?_;refine tkB 7 ?_;refine tkA 8 ?_;refine tkB 9 ?_;refine tkA 10 ?_
     refine tkB 11 ?_;refine tkA 12 ?_;refine tkB 13 ?_;refine tkA 14 ?_;refine tkB 15 ?_;refine tkA 16 ?_;refine tkB 17 ?_
     refine tkA 18 ?_;refine tkB 19 ?_;refine tkA 20 ?_;refine tkB 21 ?_;refine tkA 22 ?_;refine tkB 23 ?_;refine tkA 24 ?_
     refine tkB 25 ?_;refine tkA 26 ?_;refine tkB 27 ?_;refine tkA 28 ?_;refine tkB 29 ?_;refine tkA 30 ?_;refine tkB 31 ?_
     refine tnA 32 ?_;refine tnA 33 ?_;refine tnA 34 ?_;refine tnB 35 ?_;refine tnA 36 ?_;refine tnA 37 ?_;refine tnA 38 ?_
     refine tnB 39 ?_;refine tnA 40 ?_;refine tnA 41 ?_;refine tnA 42 ?_;refine tnB 43 ?_;refine tnA 44 ?_;refine tkB 45 ?_
     refine tkB 46 ?_;refine wpAnyH_done (by kernel_rfl) ?_ _;go_wp2_with fail
     go_roundw
     case rel=>exact⟨0+1,by omega,by go_num,HI'.out,Qe (Qe hbel K3.out) (by go_grown)⟩
     case measure=>simp [intOf];omega
    | m+1,hk,hlt,HI,HO,HS,HIN,HSK,he,hq,c0,c1,c2,h0,h1=>
     obtain⟨b',o',e',_,d0,d1,d2,_⟩:=HR.out.2 m (by omega);cases e'
     rw [←hbel.cell (p:=⟨_,_,none⟩) hl]at d0 d1 d2;have p0:(0:Int)≤(m:Int):=by omega
     have p1:(m:Int)<(n:Int):=by omega
     have p4:(0:Int)≤(m:Int)+1:=by omega
     have p5:(m:Int)+1<(n:Int):=by omega
     have p2:IntKind.i64.wrap (m:Int)=(m:Int):=by rw [IntKind.wrap_i64];omega
     have p3:IntKind.i64.wrap ((m:Int)+1-1)=(m:Int):=by rw [IntKind.wrap_i64];omega
     obtain⟨ah,HA⟩: ∃x,Hid (ZT (C m) (R m) (C (m+1)) (R (m+1))=x):=⟨_,rfl⟩;go_wp2_with fail
     refine(Zg (S (m+1)) _ HS.out).mono ?_;rintro e w3 ⟨he,hb⟩;rw [HIN.out]at he;obtain rfl:e= .returned (.tuple #[.string t,.bool true]):=he;have K3:Hid (Below wr.heap.size wr w3):=hb;rw [←hb.cell (p:=⟨_,_,none⟩) hl2]at c0 c1 c2 d0 d1 d2;have hl3:b<w3.heap.size:=Nat.lt_of_lt_of_le hl2 hb.size
     clear hb;go_wp2_with fail
     refine wp_region_held_drew (S:=(fun w'=>(∀bq oq,bq<w3.heap.size→w'.cell? ⟨bq,oq,none⟩=w3.cell? ⟨bq,oq,none⟩)∧w3.heap.size≤w'.heap.size∧Below w3.heap.size w3 w')) (by kernel_rfl) (Qm (by go_size) (by go_grown)) (fun hHeld=> ?_);refine tkA 0 ?_;refine tkB 1 ?_;refine tkA 2 ?_;refine tkB 3 ?_;refine tkB 4 ?_;refine rqA 5 (fun Kq hKq=> ?_)
     go_simp
     (refine(Qu _ _ _).mono ?_;rintro e w1 ⟨rfl,hb⟩;rw [HO.out];obtain⟨hk1,hz1⟩:=Qi (B:=w3.heap.size) (X:=w3) (by go_grown) (by go_size) hb;have hC:=fun b o h=>hk1.cell (p:=⟨b,o,none⟩) h;clear hb)
     refine hkB hKq (Qm (by go_size) (by go_grown)) fun hHeld=> ?_;clear hKq Kq;refine tkA 6 ?_;refine tkB 7 ?_;refine tkA 8 ?_;refine tkB 9 ?_;refine tkA 10 ?_
     refine tkB 11 ?_;refine tkA 12 ?_;refine tkB 13 ?_;refine tkA 14 ?_;refine tkB 15 ?_;refine tkA 16 ?_;refine tkB 17 ?_
     refine tkA 18 ?_;refine tkB 19 ?_;refine tkA 20 ?_;refine tkB 21 ?_;refine tkA 22 ?_;refine tkB 23 ?_;refine tkA 24 ?_
     refine tkB 25 ?_;refine tkA 26 ?_;refine tkB 27 ?_;refine tkA 28 ?_;refine tkB 29 ?_;refine tkA 30 ?_;refine tkB 31 ?_
     refine tkA 32 ?_;refine tkB 33 ?_;refine tkA 34 ?_;refine tkB 35 ?_;refine tkA 36 ?_;refine tkB 37 ?_;refine tkA 38 ?_
     refine tkB 39 ?_;refine tkA 40 ?_;refine tkB 41 ?_;refine tkB 42 ?_;refine rqA 43 (fun Kq hKq=> ?_);go_simp
     (refine(ZD _ _ _ _ _).mono ?_;rintro e w1 ⟨rfl,hb⟩;rw [HA.out];obtain⟨hk1,hz1⟩:=Qi (B:=w3.heap.size) (X:=w3) (by go_grown) (by go_size) hb;have hC:=fun b o h=>hk1.cell (p:=⟨b,o,none⟩) h;clear hb)
     refine hkB hKq (Qm (by go_size) (by go_grown)) fun hHeld=> ?_;clear hKq Kq;refine tkA 44 ?_;refine tkB 45 ?_;refine tkB 46 ?_;refine wpAnyH_done (by kernel_rfl) ?_ _;cases ah
     ·have HF:Hid (QC C R S n=false):=Gf (Hu hlt (by simp [QY,HA.out]));go_wp2_with fail
      go_ret;exact⟨Qb HF.out.symm,Qe (Qe hbel K3.out) (by go_grown)⟩
     ·have hR:QY C R (m+1)=true:=by simp [QY,HO.out,HA.out]
      have HI':Hid (∀i,i<m+1+1→QY C R i=true∧YA S i=true):=fun i hi=>by
       by_cases e:i=m+1
       ·subst e;exact⟨hR,HSK.out⟩
       ·exact HI.out i (by omega)
      clear hR;go_wp2_with fail
      go_roundw
      case rel=>exact⟨m+1+1,by omega,by go_num,HI'.out,Qe (Qe hbel K3.out) (by go_grown)⟩
      case measure=>simp [intOf];omega
  ·have h1: ¬(k:Int)<(n:Int):=by omega
   obtain rfl:k=n:=by omega
   go_wp2_with fail
   go_ret;exact⟨Qb (Ee (by omega) (Hc fun i hi=>(HI.out i hi).1) (Hc fun i hi=>(HI.out i hi).2)).symm,hbel⟩
end Go.Proofs.YthjldgbfgapbcaaGreatDoor
