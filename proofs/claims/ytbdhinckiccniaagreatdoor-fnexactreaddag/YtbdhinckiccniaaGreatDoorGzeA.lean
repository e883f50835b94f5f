import Derived.Test.YtbdhinckiccniaaGreatDoorGzj
import Derived.Test.YtbdhinckiccniaaGreatDoorGaa
import Derived.Test.YtbdhinckiccniaaGreatDoorGad
import Derived.Test.YtbdhinckiccniaaGreatDoorMn
set_option linter.unusedSimpArgs false
set_option linter.unusedVariables false
set_option maxHeartbeats 4000000
set_option maxRecDepth 100000
namespace Go.Proofs.YtbdhinckiccniaaGreatDoor
open Go.RowKit
def ClRow (W:World) (A:Option Addr) (n:Nat) (C R:Nat→Int) (S:Nat→ByteArray):Prop:=
 n≤maxLen∧ ∀i,i<n→ ∃b o,A=some ⟨b,o,none⟩∧b<W.heap.size∧W.cell? ⟨b,o+i*3,none⟩=some (.int .i64 (C i))∧W.cell? ⟨b,o+i*3+1,none⟩=some (.int .i64 (R i))∧
  W.cell? ⟨b,o+i*3+2,none⟩=some (.string (S i))∧(S i).size≤maxLen
theorem ClRow.below {W W':World} {A:Option Addr} {n:Nat} {C R:Nat→Int} {S:Nat→ByteArray} (h:ClRow W A n C R S) (hb:Below W.heap.size W W'):ClRow W' A n C R S:=
 ⟨h.1,fun i hi=>by
  obtain⟨b,o,e,hl,c0,c1,c2,hs⟩:=h.2 i hi
  exact⟨b,o,e,Nat.lt_of_lt_of_le hl hb.size,(hb.cell (p:=⟨b,_,none⟩) hl).trans c0,(hb.cell (p:=⟨b,_,none⟩) hl).trans c1,(hb.cell (p:=⟨b,_,none⟩) hl).trans c2,hs⟩⟩
def clX (C R:Nat→Int) (S:Nat→ByteArray) (m:Nat):List Value:=(List.range m).flatMap fun i=> [.int .i64 (C i),.int .i64 (R i),.string (S i)]
theorem Nw (C R:Nat→Int) (S:Nat→ByteArray) (m:Nat):clX C R S (m+1)=clX C R S m++ [.int .i64 (C m),.int .i64 (R m),.string (S m)]:=by
 simp [clX,List.range_succ,List.flatMap_append]
theorem Qq2 (C R:Nat→Int) (S:Nat→ByteArray) (m:Nat):(clX C R S m).length=m*3:=by
 induction m with
 | zero=>rfl
 | succ m ih=>rw [Nw,List.length_append,ih];simp;omega
theorem Qey (C R:Nat→Int) (S:Nat→ByteArray) (m i j:Nat) (hi:i<m) (hj:j<3):
  (clX C R S m)[i*3+j]? = [Value.int .i64 (C i),.int .i64 (R i),.string (S i)][j]?:=by
 induction m with
 | zero=>omega
 | succ m ih=>
  rw [Nw];have hl:=Qq2 C R S m;by_cases h:i<m
  ·rw [List.getElem?_append_left (by omega)];exact ih h
  ·obtain rfl:i=m:=by omega
   rw [List.getElem?_append_right (by omega),hl];congr 1
   omega
theorem Qmz:(Tryz.prog.info? 37).map (fun i=>(i.zero,i.size,i.bytes))=some (some (.agg #[.int .i64 0,.int .i64 0,.string ⟨#[]⟩]),3,32):=by kernel_rfl
theorem DN {W:World} {B n:Nat} {A:Option Addr} {cap:Nat} {C R:Nat→Int} {S:Nat→ByteArray} (h:W.ownsRow B 37 3 (.slice A n cap) n (clX C R S n)) (hs: ∀i,i<n→(S i).size≤maxLen):ClRow W A n C R S:=by
 obtain⟨A',cap',e,hn,hc⟩:=Qo h;cases e
 refine⟨hn,fun i hi=> ?_⟩;obtain⟨g,rfl,_,hl,c0,_⟩:=hc (i*3) (by omega);obtain⟨g1,e1,_,_,c1,_⟩:=hc (i*3+1) (by omega);obtain⟨g2,e2,_,_,c2,_⟩:=hc (i*3+2) (by omega);cases e1
 cases e2
 refine⟨g,0,rfl,hl,?_,?_,?_,hs i hi⟩
 ·rw [Nat.zero_add,c0];exact Qey C R S n i 0 hi (by omega)
 ·rw [Nat.zero_add,c1];exact Qey C R S n i 1 hi (by omega)
 ·rw [Nat.zero_add,c2];exact Qey C R S n i 2 hi (by omega)
theorem Qat (c r:Int) (s:ByteArray) (w:World):Calls Tryz.prog 198 #[.agg #[.int .i64 c,.int .i64 r,.string s],.agg #[.int .i64 c,.int .i64 r,.string s]] w fun e w'=>
  e= .returned (.bool true)∧Below w.heap.size w w':=by
 go_enter Tryz.func198,Tryz.ntmps198
 go_wp2_with (first
  | (go_at_call 242;refine(Qdq _ _ _).mono ?_;rintro e w1 ⟨rfl,hb⟩;obtain⟨hc,hf,hC,hF,hz,hk,l0,l1⟩:=bk2 (w:=w) (by go_grown) (by go_size) hb;clear hb))
 go_ret;exact⟨rfl,by go_grown⟩
theorem Yp (c r:Int) (s:ByteArray) (w:World):Calls Tryz.prog 50 #[.agg #[.int .i64 c,.int .i64 r,.string s]] w fun e w'=>
  e= .returned (.agg #[.int .i64 c,.int .i64 r])∧Below w.heap.size w w':=by
 go_enter Tryz.func50,Tryz.ntmps50;go_wp2
 go_returns
 exact⟨rfl,by go_grown⟩
theorem Bq {A A':Option Addr} {n cap cap':Nat} {C R:Nat→Int} {S:Nat→ByteArray} (w:World) (h:ClRow w A n C R S) (h':ClRow w A' n C R S):
  Calls Tryz.prog 147 #[.slice A n cap,.slice A' n cap'] w fun e w'=>e= .returned (.bool true)∧Below w.heap.size w w':=by
 have HR:Hid (ClRow w A n C R S):=h;have HR':Hid (ClRow w A' n C R S):=h';have hn:=h.1;unfold maxLen at hn;clear h h';go_enter Tryz.func147,Tryz.ntmps147;go_wp2_with fail
 go_loopw [5] (fun i wr=> ∃k:Nat,k≤n∧i= .int .i64 k∧Below w.heap.size w wr) (fun i _=>n-(intOf i).toNat)
 case atStart=>exact⟨0,Nat.zero_le _,rfl,Below.refl _ _⟩
 case round=>
  obtain⟨k,hk,rfl,hbel⟩:=hrel;by_cases hlt:k<n
  ·obtain⟨b,o,rfl,hl,c0,c1,c2,hs⟩:=HR.out.2 k hlt;obtain⟨b',o',rfl,hl',c0',c1',c2',_⟩:=HR'.out.2 k hlt;have hs:=hbel.size;have hW:=fun b o h=>hbel.cell (p:=⟨b,o,none⟩) h;have h0:(0:Int)≤(k:Int):=by omega
   have h1:(k:Int)<(n:Int):=by omega
   go_wp2_with fail
   go_region_held3 (fun w'=>(∀bq oq,bq<w.heap.size→w'.cell? ⟨bq,oq,none⟩=w.cell? ⟨bq,oq,none⟩)∧w.heap.size≤w'.heap.size∧Below w.heap.size w w')
    (exact Qp (Nat.le_refl _) (by go_grown))
    (first
    | (go_at_call 198;refine(Qat (C k) (R k) (S k) _).mono ?_;rintro e w1 ⟨rfl,hb⟩;obtain⟨hk1,hz1⟩:=Qg (B:=w.heap.size) (X:=w) (by go_grown) (by go_size) hb;clear hb))
   all_goals go_wp2_with fail
   all_goals
    go_roundw
    case rel=>exact⟨k+1,by omega,by go_num,by go_grown⟩
    case measure=>simp [intOf];omega
  ·have h1: ¬(k:Int)<(n:Int):=by omega
   go_wp2_with fail
   go_ret;exact⟨rfl,hbel⟩
def QS (C R:Nat→Int) (i:Nat):Bool:=Qh (C i) (R i)&&(decide (i=0) || Yi (C (i-1)) (R (i-1)) (C i) (R i))
def XN (C R:Nat→Int) (n:Nat):Bool:=(List.range n).all (QS C R)
theorem Qi3 {n:Nat} {w X w':World} (h0:Below w.heap.size w X) (h:Below (w.heap.size+n) X w'):Below w.heap.size w w':=h0.trans (h.mono (Nat.le_add_right _ _))
theorem Gw {f:Nat→Bool} {n k:Nat} (hk:k<n) (h:f k=false):(List.range n).all f=false:=by
 rw [List.all_eq_false];exact⟨k,List.mem_range.2 hk,by simp [h]⟩
theorem Hv {f:Nat→Bool} {n:Nat} (h: ∀i,i<n→f i=true):(List.range n).all f=true:=by
 rw [List.all_eq_true];exact fun i hi=>h i (List.mem_range.1 hi)
theorem Xb {A:Option Addr} {n cap:Nat} {C R:Nat→Int} {S:Nat→ByteArray} (w:World) (h:ClRow w A n C R S):
  Calls Tryz.prog 49 #[.slice A n cap,.func (.func 50) #[] #[]] w fun e w'=>e= .returned (.bool (XN C R n))∧Below w.heap.size w w':=by
 have HR:Hid (ClRow w A n C R S):=h;have hn:=h.1;unfold maxLen at hn;clear h;go_enter Tryz.func49,Tryz.ntmps49;go_wp2_with fail
 go_loopw [9] (fun i wr=> ∃k:Nat,k≤n∧i= .int .i64 k∧(∀i,i<k→QS C R i=true)∧Below w.heap.size w wr) (fun i _=>n-(intOf i).toNat)
 case atStart=>exact⟨0,Nat.zero_le _,rfl,fun i hi=>by omega,Below.refl _ _⟩
 case round=>
  obtain⟨k,hk,rfl,hr,hbel⟩:=hrel;have HI:Hid (∀i,i<k→QS C R i=true):=hr;clear hr;by_cases hlt:k<n
  ·obtain⟨b,o,rfl,hl,c0,c1,c2,_⟩:=HR.out.2 k hlt;have hs:=hbel.size;rw [←hbel.cell (p:=⟨_,_,none⟩) hl]at c0 c1 c2;have hl2:b<wr.heap.size:=Nat.lt_of_lt_of_le hl hs;have hl3:b<wr.heap.size+1:=Nat.lt_succ_of_lt hl2;have h0:(0:Int)≤(k:Int):=by omega
   have h1:(k:Int)<(n:Int):=by omega
   cases ho:Qh (C k) (R k)
   ·have HO:Hid (Qh (C k) (R k)=false):=ho;have HF:Hid (XN C R n=false):=Gw hlt (by simp [QS,ho]);clear ho;go_wp2_with fail
    refine wp_region_held_drew (S:=(fun w'=>(∀bq oq,bq<wr.heap.size+1→w'.cell? ⟨bq,oq,none⟩=(wr.alloc (.cells #[.int .i64 (C k),.int .i64 (R k),.string (S k)] 37)).cell? ⟨bq,oq,none⟩)∧wr.heap.size+1≤w'.heap.size∧Below (wr.heap.size+1) (wr.alloc (.cells #[.int .i64 (C k),.int .i64 (R k),.string (S k)] 37)) w')) (by kernel_rfl) (Qp (by go_size) (by go_grown)) (fun hHeld=> ?_);refine tkA 0 ?_;refine tkB 1 ?_;refine rqA 2 (fun Kq hKq=> ?_);go_simp
    (refine(Yp _ _ _ _).mono ?_;rintro e w1 ⟨rfl,hb⟩;obtain⟨hk1,hz1⟩:=Qg (B:=wr.heap.size+1) (X:=(wr.alloc (.cells #[.int .i64 (C k),.int .i64 (R k),.string (S k)] 37))) (by go_grown) (by go_size) hb;have hC:=fun b o h=>hk1.cell (p:=⟨b,o,none⟩) h;clear hb)
    refine hkB hKq (Qp (by go_size) (by go_grown)) fun hHeld=> ?_;clear hKq Kq;refine rqA 3 (fun Kq hKq=> ?_);go_simp
    (refine(Zi _ _ _).mono ?_;rintro e w1 ⟨rfl,hb⟩;rw [HO.out];obtain⟨hk1,hz1⟩:=Qg (B:=wr.heap.size+1) (X:=(wr.alloc (.cells #[.int .i64 (C k),.int .i64 (R k),.string (S k)] 37))) (by go_grown) (by go_size) hb;have hC:=fun b o h=>hk1.cell (p:=⟨b,o,none⟩) h;clear hb)
    refine hkB hKq (Qp (by go_size) (by go_grown)) fun hHeld=> ?_;clear hKq Kq;refine tkA 4 ?_;refine tkB 5 ?_;refine tnA 6 ?_;refine tnB 7 ?_;refine tnA 8 ?_
    refine tnB 9 ?_;refine tnA 10 ?_;refine tnB 11 ?_;refine tnA 12 ?_;refine tnB 13 ?_;refine tnA 14 ?_;refine tnB 15 ?_
    refine tnA 16 ?_;refine tnB 17 ?_;refine tnA 18 ?_;refine tnB 19 ?_;refine tnA 20 ?_;refine tnB 21 ?_;refine tkB 22 ?_
    refine wpAnyH_done (by kernel_rfl) ?_ _;all_goals go_wp2_with fail
    all_goals
     go_ret;exact⟨Qb HF.out.symm,(hbel.trans (Below.mono (Qi3 (n:=1) (X:=(wr.alloc (.cells #[.int .i64 (C k),.int .i64 (R k),.string (S k)] 37))) (by go_grown) (by go_grown)) hs))⟩
   have HO:Hid (Qh (C k) (R k)=true):=ho;clear ho;match k,hk,hlt,HI,HO,c0,c1,c2,h0,h1 with
   | 0,hk,hlt,HI,HO,c0,c1,c2,h0,h1=>
    have hR:QS C R 0=true:=by simp [QS,HO.out]
    have HI':Hid (∀i,i<0+1→QS C R i=true):=fun i hi=>by rw [show i=0 by omega];exact hR
    simp only [Nat.zero_mul,Nat.add_zero]at c0 c1 c2;clear hR;go_wp2_with fail
    refine wp_region_held_drew (S:=(fun w'=>(∀bq oq,bq<wr.heap.size+1→w'.cell? ⟨bq,oq,none⟩=(wr.alloc (.cells #[.int .i64 (C 0),.int .i64 (R 0),.string (S 0)] 37)).cell? ⟨bq,oq,none⟩)∧wr.heap.size+1≤w'.heap.size∧Below (wr.heap.size+1) (wr.alloc (.cells #[.int .i64 (C 0),.int .i64 (R 0),.string (S 0)] 37)) w')) (by kernel_rfl) (Qp (by go_size) (by go_grown)) (fun hHeld=> ?_);refine tkA 0 ?_;refine tkB 1 ?_;refine rqA 2 (fun Kq hKq=> ?_);go_simp
    (refine(Yp _ _ _ _).mono ?_;rintro e w1 ⟨rfl,hb⟩;obtain⟨hk1,hz1⟩:=Qg (B:=wr.heap.size+1) (X:=(wr.alloc (.cells #[.int .i64 (C 0),.int .i64 (R 0),.string (S 0)] 37))) (by go_grown) (by go_size) hb;have hC:=fun b o h=>hk1.cell (p:=⟨b,o,none⟩) h;clear hb)
    refine hkB hKq (Qp (by go_size) (by go_grown)) fun hHeld=> ?_;clear hKq Kq;refine rqA 3 (fun Kq hKq=> ?_);go_simp
    (refine(Zi _ _ _).mono ?_;rintro e w1 ⟨rfl,hb⟩;rw [HO.out];obtain⟨hk1,hz1⟩:=Qg (B:=wr.heap.size+1) (X:=(wr.alloc (.cells #[.int .i64 (C 0),.int .i64 (R 0),.string (S 0)] 37))) (by go_grown) (by go_size) hb;have hC:=fun b o h=>hk1.cell (p:=⟨b,o,none⟩) h;clear hb)
    refine hkB hKq (Qp (by go_size) (by go_grown)) fun hHeld=> ?_;clear hKq Kq;refine tkA 4 ?_;refine tkB 5 ?_;refine tkA 6 ?_;refine tkB 7 ?_;refine tkA 8 ?_
    refine tnB 9 ?_;refine tnA 10 ?_;refine tnB 11 ?_;refine tnA 12 ?_;refine tnB 13 ?_;refine tnA 14 ?_;refine tnB 15 ?_
    refine tnA 16 ?_;refine tnB 17 ?_;refine tnA 18 ?_;refine tnB 19 ?_;refine tnA 20 ?_;refine tkB 21 ?_;refine tkB 22 ?_
    refine wpAnyH_done (by kernel_rfl) ?_ _;all_goals go_wp2_with fail
    all_goals
     go_roundw
     case rel=>exact⟨0+1,by omega,by go_num,HI'.out,(hbel.trans (Below.mono (Qi3 (n:=1) (X:=(wr.alloc (.cells #[.int .i64 (C 0),.int .i64 (R 0),.string (S 0)] 37))) (by go_grown) (by go_grown)) hs))⟩
     case measure=>simp [intOf];omega
   | m+1,hk,hlt,HI,HO,c0,c1,c2,h0,h1=>
    obtain⟨b',o',e',_,d0,d1,d2,_⟩:=HR.out.2 m (by omega);cases e'
    rw [←hbel.cell (p:=⟨_,_,none⟩) hl]at d0 d1 d2;have p0:(0:Int)≤(m:Int):=by omega
    have p1:(m:Int)<(n:Int):=by omega
    have p2:IntKind.i64.wrap (m:Int)=(m:Int):=by rw [IntKind.wrap_i64];omega
    have p3:IntKind.i64.wrap ((m:Int)+1-1)=(m:Int):=by rw [IntKind.wrap_i64];omega
    cases ha:Yi (C m) (R m) (C (m+1)) (R (m+1))
    ·have HA:Hid (0≤Qed (C m) (R m) (C (m+1)) (R (m+1))):=(Kv _ _ _ _).2 ha;have hA:=HA.out;have HF:Hid (XN C R n=false):=Gw hlt (by simp [QS,ha]);clear ha;go_wp2_with fail
     go_region_held3 (fun w'=>(∀bq oq,bq<wr.heap.size+1→w'.cell? ⟨bq,oq,none⟩=(wr.alloc (.cells #[.int .i64 (C (m+1)),.int .i64 (R (m+1)),.string (S (m+1))] 37)).cell? ⟨bq,oq,none⟩)∧wr.heap.size+1≤w'.heap.size∧Below (wr.heap.size+1) (wr.alloc (.cells #[.int .i64 (C (m+1)),.int .i64 (R (m+1)),.string (S (m+1))] 37)) w')
      (exact Qp (by go_size) (by go_grown))
      (first
      | (go_at_call 50;refine(Yp _ _ _ _).mono ?_;rintro e w1 ⟨rfl,hb⟩;obtain⟨hk1,hz1⟩:=Qg (B:=wr.heap.size+1) (X:=(wr.alloc (.cells #[.int .i64 (C (m+1)),.int .i64 (R (m+1)),.string (S (m+1))] 37))) (by go_grown) (by go_size) hb;have hC:=fun b o h=>hk1.cell (p:=⟨b,o,none⟩) h;clear hb)
      | (go_at_call 95;refine(Zi _ _ _).mono ?_;rintro e w1 ⟨rfl,hb⟩;rw [HO.out];obtain⟨hk1,hz1⟩:=Qg (B:=wr.heap.size+1) (X:=(wr.alloc (.cells #[.int .i64 (C (m+1)),.int .i64 (R (m+1)),.string (S (m+1))] 37))) (by go_grown) (by go_size) hb;have hC:=fun b o h=>hk1.cell (p:=⟨b,o,none⟩) h;clear hb)
      | (go_at_call 96;refine(XJ _ _ _ _ _).mono ?_;rintro e w1 ⟨rfl,hb⟩;obtain⟨hk1,hz1⟩:=Qg (B:=wr.heap.size+1) (X:=(wr.alloc (.cells #[.int .i64 (C (m+1)),.int .i64 (R (m+1)),.string (S (m+1))] 37))) (by go_grown) (by go_size) hb;have hC:=fun b o h=>hk1.cell (p:=⟨b,o,none⟩) h;clear hb))
     all_goals go_wp2_with fail
     all_goals
      go_ret;exact⟨Qb HF.out.symm,(hbel.trans (Below.mono (Qi3 (n:=1) (X:=(wr.alloc (.cells #[.int .i64 (C (m+1)),.int .i64 (R (m+1)),.string (S (m+1))] 37))) (by go_grown) (by go_grown)) hs))⟩
    ·have hA: ¬0≤Qed (C m) (R m) (C (m+1)) (R (m+1)):=fun h=>by rw [(Kv _ _ _ _).1 h]at ha;cases ha
     have hR:QS C R (m+1)=true:=by simp [QS,HO.out,ha]
     have HI':Hid (∀i,i<m+1+1→QS C R i=true):=fun i hi=>by
      by_cases e:i=m+1
      ·subst e;exact hR
      ·exact HI.out i (by omega)
     clear ha hR;go_wp2_with fail
     go_region_held3 (fun w'=>(∀bq oq,bq<wr.heap.size+1→w'.cell? ⟨bq,oq,none⟩=(wr.alloc (.cells #[.int .i64 (C (m+1)),.int .i64 (R (m+1)),.string (S (m+1))] 37)).cell? ⟨bq,oq,none⟩)∧wr.heap.size+1≤w'.heap.size∧Below (wr.heap.size+1) (wr.alloc (.cells #[.int .i64 (C (m+1)),.int .i64 (R (m+1)),.string (S (m+1))] 37)) w')
      (exact Qp (by go_size) (by go_grown))
      (first
      | (go_at_call 50;refine(Yp _ _ _ _).mono ?_;rintro e w1 ⟨rfl,hb⟩;obtain⟨hk1,hz1⟩:=Qg (B:=wr.heap.size+1) (X:=(wr.alloc (.cells #[.int .i64 (C (m+1)),.int .i64 (R (m+1)),.string (S (m+1))] 37))) (by go_grown) (by go_size) hb;have hC:=fun b o h=>hk1.cell (p:=⟨b,o,none⟩) h;clear hb)
      | (go_at_call 95;refine(Zi _ _ _).mono ?_;rintro e w1 ⟨rfl,hb⟩;rw [HO.out];obtain⟨hk1,hz1⟩:=Qg (B:=wr.heap.size+1) (X:=(wr.alloc (.cells #[.int .i64 (C (m+1)),.int .i64 (R (m+1)),.string (S (m+1))] 37))) (by go_grown) (by go_size) hb;have hC:=fun b o h=>hk1.cell (p:=⟨b,o,none⟩) h;clear hb)
      | (go_at_call 96;refine(XJ _ _ _ _ _).mono ?_;rintro e w1 ⟨rfl,hb⟩;obtain⟨hk1,hz1⟩:=Qg (B:=wr.heap.size+1) (X:=(wr.alloc (.cells #[.int .i64 (C (m+1)),.int .i64 (R (m+1)),.string (S (m+1))] 37))) (by go_grown) (by go_size) hb;have hC:=fun b o h=>hk1.cell (p:=⟨b,o,none⟩) h;clear hb))
     all_goals go_wp2_with fail
     all_goals
      go_roundw
      case rel=>exact⟨m+1+1,by omega,by go_num,HI'.out,(hbel.trans (Below.mono (Qi3 (n:=1) (X:=(wr.alloc (.cells #[.int .i64 (C (m+1)),.int .i64 (R (m+1)),.string (S (m+1))] 37))) (by go_grown) (by go_grown)) hs))⟩
      case measure=>simp [intOf];omega
  ·have h1: ¬(k:Int)<(n:Int):=by omega
   obtain rfl:k=n:=by omega
   go_wp2_with fail
   go_ret;exact⟨Qb (Hv HI.out).symm,hbel⟩
end Go.Proofs.YtbdhinckiccniaaGreatDoor
