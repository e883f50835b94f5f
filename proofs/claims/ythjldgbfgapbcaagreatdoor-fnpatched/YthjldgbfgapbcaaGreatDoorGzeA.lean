import Derived.Test.YthjldgbfgapbcaaGreatDoorGzj
import Derived.Test.YthjldgbfgapbcaaGreatDoorGaa
import Derived.Test.YthjldgbfgapbcaaGreatDoorGad
import Derived.Test.YthjldgbfgapbcaaGreatDoorMn
import Derived.Maps.Own
import Derived.Maps.OwnOps
import Derived.Maps.OwnSet
import Derived.DeepKeys4
set_option linter.unusedSimpArgs false
set_option linter.unusedVariables false
set_option maxHeartbeats 4000000
set_option maxRecDepth 100000
namespace Go.Proofs.YthjldgbfgapbcaaGreatDoor
open Go.RowKit
def ClRow (W:World) (A:Option Addr) (n:Nat) (C R:Nat→Int) (S:Nat→ByteArray):Prop:=
 n≤maxLen∧ ∀i,i<n→ ∃b o,A=some ⟨b,o,none⟩∧b<W.heap.size∧W.cell? ⟨b,o+i*3,none⟩=some (.int .i64 (C i))∧W.cell? ⟨b,o+i*3+1,none⟩=some (.int .i64 (R i))∧
  W.cell? ⟨b,o+i*3+2,none⟩=some (.string (S i))∧(S i).size≤maxLen
theorem ClRow.below {W W':World} {A:Option Addr} {n:Nat} {C R:Nat→Int} {S:Nat→ByteArray} (h:ClRow W A n C R S) (hb:Below W.heap.size W W'):ClRow W' A n C R S:=
 ⟨h.1,fun i hi=>by
  obtain⟨b,o,e,hl,c0,c1,c2,hs⟩:=h.2 i hi
  exact⟨b,o,e,Nat.lt_of_lt_of_le hl hb.size,(hb.cell (p:=⟨b,_,none⟩) hl).trans c0,(hb.cell (p:=⟨b,_,none⟩) hl).trans c1,(hb.cell (p:=⟨b,_,none⟩) hl).trans c2,hs⟩⟩
def clX (C R:Nat→Int) (S:Nat→ByteArray) (m:Nat):List Value:=(List.range m).flatMap fun i=> [.int .i64 (C i),.int .i64 (R i),.string (S i)]
theorem Nl (C R:Nat→Int) (S:Nat→ByteArray) (m:Nat):clX C R S (m+1)=clX C R S m++ [.int .i64 (C m),.int .i64 (R m),.string (S m)]:=by
 simp [clX,List.range_succ,List.flatMap_append]
theorem MR (C R:Nat→Int) (S:Nat→ByteArray) (m:Nat):(clX C R S m).length=m*3:=by
 induction m with
 | zero=>rfl
 | succ m ih=>rw [Nl,List.length_append,ih];simp;omega
theorem Ea (C R:Nat→Int) (S:Nat→ByteArray) (m i j:Nat) (hi:i<m) (hj:j<3):
  (clX C R S m)[i*3+j]? = [Value.int .i64 (C i),.int .i64 (R i),.string (S i)][j]?:=by
 induction m with
 | zero=>omega
 | succ m ih=>
  rw [Nl];have hl:=MR C R S m;by_cases h:i<m
  ·rw [List.getElem?_append_left (by omega)];exact ih h
  ·obtain rfl:i=m:=by omega
   rw [List.getElem?_append_right (by omega),hl];congr 1
   omega
theorem NM:(Tryz.prog.info? 49).map (fun i=>(i.zero,i.size,i.bytes))=some (some (.agg #[.int .i64 0,.int .i64 0,.string ⟨#[]⟩]),3,32):=by kernel_rfl
theorem Qgt {W:World} {B n:Nat} {A:Option Addr} {cap:Nat} {C R:Nat→Int} {S:Nat→ByteArray} (h:W.ownsRow B 49 3 (.slice A n cap) n (clX C R S n)) (hs: ∀i,i<n→(S i).size≤maxLen):ClRow W A n C R S:=by
 obtain⟨A',cap',e,hn,hc⟩:=Qh h;cases e
 refine⟨hn,fun i hi=> ?_⟩;obtain⟨g,rfl,_,hl,c0,_⟩:=hc (i*3) (by omega);obtain⟨g1,e1,_,_,c1,_⟩:=hc (i*3+1) (by omega);obtain⟨g2,e2,_,_,c2,_⟩:=hc (i*3+2) (by omega);cases e1
 cases e2
 refine⟨g,0,rfl,hl,?_,?_,?_,hs i hi⟩
 ·rw [Nat.zero_add,c0];exact Ea C R S n i 0 hi (by omega)
 ·rw [Nat.zero_add,c1];exact Ea C R S n i 1 hi (by omega)
 ·rw [Nat.zero_add,c2];exact Ea C R S n i 2 hi (by omega)
theorem YD (c r:Int) (s:ByteArray) (w:World):Calls Tryz.prog 42 #[.agg #[.int .i64 c,.int .i64 r,.string s]] w fun e w'=>
  e= .returned (.agg #[.int .i64 c,.int .i64 r])∧Below w.heap.size w w':=by
 go_enter Tryz.func42,Tryz.ntmps42;go_wp2
 go_returns
 exact⟨rfl,by go_grown⟩
def Za (C R:Nat→Int) (i:Nat):Bool:=Qi (C i) (R i)&&(decide (i=0) || QF (C (i-1)) (R (i-1)) (C i) (R i))
def Jd (C R:Nat→Int) (n:Nat):Bool:=(List.range n).all (Za C R)
theorem Qg9 {n:Nat} {w X w':World} (h0:Below w.heap.size w X) (h:Below (w.heap.size+n) X w'):Below w.heap.size w w':=h0.trans (h.mono (Nat.le_add_right _ _))
theorem GS {f:Nat→Bool} {n k:Nat} (hk:k<n) (h:f k=false):(List.range n).all f=false:=by
 rw [List.all_eq_false];exact⟨k,List.mem_range.2 hk,by simp [h]⟩
theorem Gu {f:Nat→Bool} {n:Nat} (h: ∀i,i<n→f i=true):(List.range n).all f=true:=by
 rw [List.all_eq_true];exact fun i hi=>h i (List.mem_range.1 hi)
theorem Xj {A:Option Addr} {n cap:Nat} {C R:Nat→Int} {S:Nat→ByteArray} (w:World) (h:ClRow w A n C R S):
  Calls Tryz.prog 41 #[.slice A n cap,.func (.func 42) #[] #[]] w fun e w'=>e= .returned (.bool (Jd C R n))∧Below w.heap.size w w':=by
 have HR:Hid (ClRow w A n C R S):=h;have hn:=h.1;unfold maxLen at hn;clear h;go_enter Tryz.func41,Tryz.ntmps41;go_wp2_with fail
 go_loopw [9] (fun i wr=> ∃k:Nat,k≤n∧i= .int .i64 k∧(∀i,i<k→Za C R i=true)∧Below w.heap.size w wr) (fun i _=>n-(intOf i).toNat)
 case atStart=>exact⟨0,Nat.zero_le _,rfl,fun i hi=>by omega,Below.refl _ _⟩
 case round=>
  obtain⟨k,hk,rfl,hr,hbel⟩:=hrel;have HI:Hid (∀i,i<k→Za C R i=true):=hr;clear hr;by_cases hlt:k<n
  ·obtain⟨b,o,rfl,hl,c0,c1,c2,_⟩:=HR.out.2 k hlt;have hs:=hbel.size;rw [←hbel.cell (p:=⟨_,_,none⟩) hl]at c0 c1 c2;have hl2:b<wr.heap.size:=Nat.lt_of_lt_of_le hl hs;have hl3:b<wr.heap.size+1:=Nat.lt_succ_of_lt hl2;have h0:(0:Int)≤(k:Int):=by omega
   have h1:(k:Int)<(n:Int):=by omega
   cases ho:Qi (C k) (R k)
   ·have HO:Hid (Qi (C k) (R k)=false):=ho;have HF:Hid (Jd C R n=false):=GS hlt (by simp [Za,ho]);clear ho;go_wp2_with fail
    refine wp_region_held_drew (S:=(fun w'=>(∀bq oq,bq<wr.heap.size+1→w'.cell? ⟨bq,oq,none⟩=(wr.alloc (.cells #[.int .i64 (C k),.int .i64 (R k),.string (S k)] 49)).cell? ⟨bq,oq,none⟩)∧wr.heap.size+1≤w'.heap.size∧Below (wr.heap.size+1) (wr.alloc (.cells #[.int .i64 (C k),.int .i64 (R k),.string (S k)] 49)) w')) (by kernel_rfl) (Qk (by go_size) (by go_grown)) (fun hHeld=> ?_);refine tkA 0 ?_;refine tkB 1 ?_;refine rqA 2 (fun Kq hKq=> ?_);go_simp
    (refine(YD _ _ _ _).mono ?_;rintro e w1 ⟨rfl,hb⟩;obtain⟨hk1,hz1⟩:=Qg (B:=wr.heap.size+1) (X:=(wr.alloc (.cells #[.int .i64 (C k),.int .i64 (R k),.string (S k)] 49))) (by go_grown) (by go_size) hb;have hC:=fun b o h=>hk1.cell (p:=⟨b,o,none⟩) h;clear hb)
    refine hkB hKq (Qk (by go_size) (by go_grown)) fun hHeld=> ?_;clear hKq Kq;refine rqA 3 (fun Kq hKq=> ?_);go_simp
    (refine(QT _ _ _).mono ?_;rintro e w1 ⟨rfl,hb⟩;rw [HO.out];obtain⟨hk1,hz1⟩:=Qg (B:=wr.heap.size+1) (X:=(wr.alloc (.cells #[.int .i64 (C k),.int .i64 (R k),.string (S k)] 49))) (by go_grown) (by go_size) hb;have hC:=fun b o h=>hk1.cell (p:=⟨b,o,none⟩) h;clear hb)
    refine hkB hKq (Qk (by go_size) (by go_grown)) fun hHeld=> ?_;clear hKq Kq;refine tkA 4 ?_;refine tkB 5 ?_;refine tnA 6 ?_;refine tnB 7 ?_;refine tnA 8 ?_
    refine tnB 9 ?_;refine tnA 10 ?_;refine tnB 11 ?_;refine tnA 12 ?_;refine tnB 13 ?_;refine tnA 14 ?_;refine tnB 15 ?_
    refine tnA 16 ?_;refine tnB 17 ?_;refine tnA 18 ?_;refine tnB 19 ?_;refine tnA 20 ?_;refine tnB 21 ?_;refine tkB 22 ?_
    refine wpAnyH_done (by kernel_rfl) ?_ _;all_goals go_wp2_with fail
    all_goals
     go_ret;exact⟨Qc HF.out.symm,(hbel.trans (Below.mono (Qg9 (n:=1) (X:=(wr.alloc (.cells #[.int .i64 (C k),.int .i64 (R k),.string (S k)] 49))) (by go_grown) (by go_grown)) hs))⟩
   have HO:Hid (Qi (C k) (R k)=true):=ho;clear ho;match k,hk,hlt,HI,HO,c0,c1,c2,h0,h1 with
   | 0,hk,hlt,HI,HO,c0,c1,c2,h0,h1=>
    have hR:Za C R 0=true:=by simp [Za,HO.out]
    have HI':Hid (∀i,i<0+1→Za C R i=true):=fun i hi=>by rw [show i=0 by omega];exact hR
    simp only [Nat.zero_mul,Nat.add_zero]at c0 c1 c2;clear hR;go_wp2_with fail
    refine wp_region_held_drew (S:=(fun w'=>(∀bq oq,bq<wr.heap.size+1→w'.cell? ⟨bq,oq,none⟩=(wr.alloc (.cells #[.int .i64 (C 0),.int .i64 (R 0),.string (S 0)] 49)).cell? ⟨bq,oq,none⟩)∧wr.heap.size+1≤w'.heap.size∧Below (wr.heap.size+1) (wr.alloc (.cells #[.int .i64 (C 0),.int .i64 (R 0),.string (S 0)] 49)) w')) (by kernel_rfl) (Qk (by go_size) (by go_grown)) (fun hHeld=> ?_);refine tkA 0 ?_;refine tkB 1 ?_;refine rqA 2 (fun Kq hKq=> ?_);go_simp
    (refine(YD _ _ _ _).mono ?_;rintro e w1 ⟨rfl,hb⟩;obtain⟨hk1,hz1⟩:=Qg (B:=wr.heap.size+1) (X:=(wr.alloc (.cells #[.int .i64 (C 0),.int .i64 (R 0),.string (S 0)] 49))) (by go_grown) (by go_size) hb;have hC:=fun b o h=>hk1.cell (p:=⟨b,o,none⟩) h;clear hb)
    refine hkB hKq (Qk (by go_size) (by go_grown)) fun hHeld=> ?_;clear hKq Kq;refine rqA 3 (fun Kq hKq=> ?_);go_simp
    (refine(QT _ _ _).mono ?_;rintro e w1 ⟨rfl,hb⟩;rw [HO.out];obtain⟨hk1,hz1⟩:=Qg (B:=wr.heap.size+1) (X:=(wr.alloc (.cells #[.int .i64 (C 0),.int .i64 (R 0),.string (S 0)] 49))) (by go_grown) (by go_size) hb;have hC:=fun b o h=>hk1.cell (p:=⟨b,o,none⟩) h;clear hb)
    refine hkB hKq (Qk (by go_size) (by go_grown)) fun hHeld=> ?_;clear hKq Kq;refine tkA 4 ?_;refine tkB 5 ?_;refine tkA 6 ?_;refine tkB 7 ?_;refine tkA 8 ?_
    refine tnB 9 ?_;refine tnA 10 ?_;refine tnB 11 ?_;refine tnA 12 ?_;refine tnB 13 ?_;refine tnA 14 ?_;refine tnB 15 ?_
    refine tnA 16 ?_;refine tnB 17 ?_;refine tnA 18 ?_;refine tnB 19 ?_;refine tnA 20 ?_;refine tkB 21 ?_;refine tkB 22 ?_
    refine wpAnyH_done (by kernel_rfl) ?_ _;all_goals go_wp2_with fail
    all_goals
     go_roundw
     case rel=>exact⟨0+1,by omega,by go_num,HI'.out,(hbel.trans (Below.mono (Qg9 (n:=1) (X:=(wr.alloc (.cells #[.int .i64 (C 0),.int .i64 (R 0),.string (S 0)] 49))) (by go_grown) (by go_grown)) hs))⟩
     case measure=>simp [intOf];omega
   | m+1,hk,hlt,HI,HO,c0,c1,c2,h0,h1=>
    obtain⟨b',o',e',_,d0,d1,d2,_⟩:=HR.out.2 m (by omega);cases e'
    rw [←hbel.cell (p:=⟨_,_,none⟩) hl]at d0 d1 d2;have p0:(0:Int)≤(m:Int):=by omega
    have p1:(m:Int)<(n:Int):=by omega
    have p2:IntKind.i64.wrap (m:Int)=(m:Int):=by rw [IntKind.wrap_i64];omega
    have p3:IntKind.i64.wrap ((m:Int)+1-1)=(m:Int):=by rw [IntKind.wrap_i64];omega
    cases ha:QF (C m) (R m) (C (m+1)) (R (m+1))
    ·have HA:Hid (0≤Qck (C m) (R m) (C (m+1)) (R (m+1))):=(KP _ _ _ _).2 ha;have hA:=HA.out;have HF:Hid (Jd C R n=false):=GS hlt (by simp [Za,ha]);clear ha;go_wp2_with fail
     go_region_held3 (fun w'=>(∀bq oq,bq<wr.heap.size+1→w'.cell? ⟨bq,oq,none⟩=(wr.alloc (.cells #[.int .i64 (C (m+1)),.int .i64 (R (m+1)),.string (S (m+1))] 49)).cell? ⟨bq,oq,none⟩)∧wr.heap.size+1≤w'.heap.size∧Below (wr.heap.size+1) (wr.alloc (.cells #[.int .i64 (C (m+1)),.int .i64 (R (m+1)),.string (S (m+1))] 49)) w')
      (exact Qk (by go_size) (by go_grown))
      (first
      | (go_at_call 42;refine(YD _ _ _ _).mono ?_;rintro e w1 ⟨rfl,hb⟩;obtain⟨hk1,hz1⟩:=Qg (B:=wr.heap.size+1) (X:=(wr.alloc (.cells #[.int .i64 (C (m+1)),.int .i64 (R (m+1)),.string (S (m+1))] 49))) (by go_grown) (by go_size) hb;have hC:=fun b o h=>hk1.cell (p:=⟨b,o,none⟩) h;clear hb)
      | (go_at_call 33;refine(QT _ _ _).mono ?_;rintro e w1 ⟨rfl,hb⟩;rw [HO.out];obtain⟨hk1,hz1⟩:=Qg (B:=wr.heap.size+1) (X:=(wr.alloc (.cells #[.int .i64 (C (m+1)),.int .i64 (R (m+1)),.string (S (m+1))] 49))) (by go_grown) (by go_size) hb;have hC:=fun b o h=>hk1.cell (p:=⟨b,o,none⟩) h;clear hb)
      | (go_at_call 58;refine(XV _ _ _ _ _).mono ?_;rintro e w1 ⟨rfl,hb⟩;obtain⟨hk1,hz1⟩:=Qg (B:=wr.heap.size+1) (X:=(wr.alloc (.cells #[.int .i64 (C (m+1)),.int .i64 (R (m+1)),.string (S (m+1))] 49))) (by go_grown) (by go_size) hb;have hC:=fun b o h=>hk1.cell (p:=⟨b,o,none⟩) h;clear hb))
     all_goals go_wp2_with fail
     all_goals
      go_ret;exact⟨Qc HF.out.symm,(hbel.trans (Below.mono (Qg9 (n:=1) (X:=(wr.alloc (.cells #[.int .i64 (C (m+1)),.int .i64 (R (m+1)),.string (S (m+1))] 49))) (by go_grown) (by go_grown)) hs))⟩
    ·have hA: ¬0≤Qck (C m) (R m) (C (m+1)) (R (m+1)):=fun h=>by rw [(KP _ _ _ _).1 h]at ha;cases ha
     have hR:Za C R (m+1)=true:=by simp [Za,HO.out,ha]
     have HI':Hid (∀i,i<m+1+1→Za C R i=true):=fun i hi=>by
      by_cases e:i=m+1
      ·subst e;exact hR
      ·exact HI.out i (by omega)
     clear ha hR;go_wp2_with fail
     go_region_held3 (fun w'=>(∀bq oq,bq<wr.heap.size+1→w'.cell? ⟨bq,oq,none⟩=(wr.alloc (.cells #[.int .i64 (C (m+1)),.int .i64 (R (m+1)),.string (S (m+1))] 49)).cell? ⟨bq,oq,none⟩)∧wr.heap.size+1≤w'.heap.size∧Below (wr.heap.size+1) (wr.alloc (.cells #[.int .i64 (C (m+1)),.int .i64 (R (m+1)),.string (S (m+1))] 49)) w')
      (exact Qk (by go_size) (by go_grown))
      (first
      | (go_at_call 42;refine(YD _ _ _ _).mono ?_;rintro e w1 ⟨rfl,hb⟩;obtain⟨hk1,hz1⟩:=Qg (B:=wr.heap.size+1) (X:=(wr.alloc (.cells #[.int .i64 (C (m+1)),.int .i64 (R (m+1)),.string (S (m+1))] 49))) (by go_grown) (by go_size) hb;have hC:=fun b o h=>hk1.cell (p:=⟨b,o,none⟩) h;clear hb)
      | (go_at_call 33;refine(QT _ _ _).mono ?_;rintro e w1 ⟨rfl,hb⟩;rw [HO.out];obtain⟨hk1,hz1⟩:=Qg (B:=wr.heap.size+1) (X:=(wr.alloc (.cells #[.int .i64 (C (m+1)),.int .i64 (R (m+1)),.string (S (m+1))] 49))) (by go_grown) (by go_size) hb;have hC:=fun b o h=>hk1.cell (p:=⟨b,o,none⟩) h;clear hb)
      | (go_at_call 58;refine(XV _ _ _ _ _).mono ?_;rintro e w1 ⟨rfl,hb⟩;obtain⟨hk1,hz1⟩:=Qg (B:=wr.heap.size+1) (X:=(wr.alloc (.cells #[.int .i64 (C (m+1)),.int .i64 (R (m+1)),.string (S (m+1))] 49))) (by go_grown) (by go_size) hb;have hC:=fun b o h=>hk1.cell (p:=⟨b,o,none⟩) h;clear hb))
     all_goals go_wp2_with fail
     all_goals
      go_roundw
      case rel=>exact⟨m+1+1,by omega,by go_num,HI'.out,(hbel.trans (Below.mono (Qg9 (n:=1) (X:=(wr.alloc (.cells #[.int .i64 (C (m+1)),.int .i64 (R (m+1)),.string (S (m+1))] 49))) (by go_grown) (by go_grown)) hs))⟩
      case measure=>simp [intOf];omega
  ·have h1: ¬(k:Int)<(n:Int):=by omega
   obtain rfl:k=n:=by omega
   go_wp2_with fail
   go_ret;exact⟨Qc (Gu HI.out).symm,hbel⟩
end Go.Proofs.YthjldgbfgapbcaaGreatDoor
namespace Go.Proofs.YthjldgbfgapbcaaGreatDoor
open Go.RowKit Go.Maps
theorem Qki:38<Tryz.prog.types.size:=by decide+kernel
theorem Ql4:(match Tryz.prog.underlying 38 with | some (.array _ _) | some (.struct _)=>true | _=>false)=true:=by kernel_rfl
theorem Qsv:Tryz.prog.keyTypeAt 2 38=true:=by kernel_rfl
theorem keyedRef:Keyed Tryz.prog 38:=Keyed.of_law (deep_law_laid Qoe (m:=2) (by omega) Qki Qsv Ql4)
theorem Di:Tryz.prog.cellsOf 38=2:=by kernel_rfl
theorem Qgv:Tryz.prog.cellsOf 2=1:=by kernel_rfl
theorem Qoj:Tryz.prog.keyType 38=true:=by kernel_rfl
theorem Bl (c r:Int) (hc:(Lit.int .i64 c).wf=true) (hr:(Lit.int .i64 r).wf=true): ∃l,keyOf Tryz.prog 38 (.agg #[.int .i64 c,.int .i64 r])=some l:=by
 have hF:Value.formed Tryz.prog 38 (Value.agg #[Value.int IntKind.i64 c,Value.int IntKind.i64 r])=true:=by
  simp [Value.formed,Tryz.underlying38,Di]
 obtain⟨d,hd⟩: ∃d,Tryz.prog.types.size=d+1:=⟨Tryz.prog.types.size-1,by have:=Qki;omega⟩;unfold keyOf;simp only [Tryz.underlying38,Qoj,hF,Bool.and_true,if_true,Value.cells];rw [hd];simp [Program.keyLits,Tryz.underlying38,Tryz.underlying2,Di,Qgv,hc,hr]
def Zs (v:Value):Option (DataW Value × List MemPlace):=some (.held v,[])
def clD (kl:Nat→Lit) (C R:Nat→Int) (S:Nat→ByteArray):Nat→DataW Value
 | 0=> .map []
 | n+1=>(clD kl C R S n).put (kl n) (.held (.agg #[.int .i64 (C n),.int .i64 (R n),.string (S n)]))
theorem Ui (kl:Nat→Lit) (C R:Nat→Int) (S:Nat→ByteArray): ∀n,IsMap (clD kl C R S n)
 | 0=>⟨_,rfl⟩
 | n+1=>by
  obtain⟨es,he⟩:=Ui kl C R S n;unfold clD;rw [he];exact⟨_,rfl⟩
theorem Xm {A:Option Addr} {n cap:Nat} {C R:Nat→Int} {S:Nat→ByteArray} {kl:Nat→Lit} (w:World) (h:ClRow w A n C R S) (hn:n≤120) (hkl: ∀i,i<n→keyOf Tryz.prog 38 (.agg #[.int .i64 (C i),.int .i64 (R i)])=some (kl i)):
  Calls Tryz.prog 32 #[.slice A n cap] w fun e w'=>e= .returned (.map (some w.heap.size))∧w'.ownsMap Tryz.prog 38 Zs w.heap.size n (clD kl C R S n)∧Below w.heap.size w w':=by
 have HR:Hid (ClRow w A n C R S):=h;have HK:Hid (∀i,i<n→keyOf Tryz.prog 38 (.agg #[.int .i64 (C i),.int .i64 (R i)])=some (kl i)):=hkl;clear h hkl;have hmm:= @run_makeMap Tryz.prog;go_enter Tryz.func32,Tryz.ntmps32;go_wp2_with fail
 go_loopw [9] (fun i wr=> ∃k:Nat,k≤n∧i= .int .i64 k∧wr.ownsMap Tryz.prog 38 Zs w.heap.size k (clD kl C R S k)∧Below w.heap.size w wr) (fun i _=>n-(intOf i).toNat)
 case atStart=>exact⟨0,Nat.zero_le _,rfl,World.ownsMap_made _ _ _ _,by go_grown⟩
 case round=>
  obtain⟨k,hk,rfl,hown,hbel⟩:=hrel;have HW:Hid (wr.ownsMap Tryz.prog 38 Zs w.heap.size k (clD kl C R S k)):=hown;clear hown;by_cases hlt:k<n
  ·obtain⟨b,o,rfl,hl,c0,c1,c2,_⟩:=HR.out.2 k hlt;have hs:=hbel.size;rw [←hbel.cell (p:=⟨_,_,none⟩) hl]at c0 c1 c2;have hl2:b<wr.heap.size:=Nat.lt_of_lt_of_le hl hs;have h0:(0:Int)≤(k:Int):=by omega
   have h1:(k:Int)<(n:Int):=by omega
   go_wp2_with (first
    | (at_mapUpdate;refine wpList_mapUpdate_own _ rfl _ _ _ 61 rfl 38 49 keyedRef Tryz.underlying61 Zs w.heap.size k _ rfl (HW.out.alloc _) (by unfold maxLen;omega) _ _ (kl k) rfl rfl (HK.out k hlt) _ [] rfl ?_;intro w1 hown1 hgrow1)
    | go_in)
   have R2:Below w.heap.size w w1:=Below.grown (hbel.alloc hs _) hgrow1 (by simp;omega) (fun j hj=>by cases hj;exact Nat.le_refl _);go_roundw
   case rel=>exact⟨k+1,by omega,by go_num,hown1,R2⟩
   case measure=>simp [intOf];omega
  ·have h1: ¬(k:Int)<(n:Int):=by omega
   obtain rfl:k=n:=by omega
   go_wp2_with fail
   go_ret;exact⟨rfl,HW.out,hbel⟩
theorem Hv {n:Int} (h1:0≤n) (h2:n≤1000):(Lit.int .i64 n).wf=true:=WalkArith.wf_i64 (by omega)
theorem DZ {C R:Nat→Int} {n:Nat} (h: ∀i,i<n→Qi (C i) (R i)=true): ∃kl:Nat→Lit,∀i,i<n→keyOf Tryz.prog 38 (.agg #[.int .i64 (C i),.int .i64 (R i)])=some (kl i):=by
 have key: ∀i,∃l,i<n→keyOf Tryz.prog 38 (.agg #[.int .i64 (C i),.int .i64 (R i)])=some l:=fun i=>by
  by_cases hi:i<n
  ·have h1:=h i hi;simp only [Qi,decide_eq_true_eq]at h1;obtain⟨l,hl⟩:=Bl (C i) (R i) (Hv (by omega) (by omega)) (Hv (by omega) (by omega));exact⟨l,fun _=>hl⟩
  ·exact⟨.bool true,fun h=>absurd h hi⟩
 exact⟨fun i=>Classical.choose (key i),fun i hi=>Classical.choose_spec (key i) hi⟩
def Nz (C R:Nat→Int) (S:Nat→ByteArray) (p q:Int):Nat→ByteArray
 | 0=>⟨#[]⟩
 | n+1=>if C n=p∧R n=q then S n else Nz C R S p q n
theorem Qlk {C R:Nat→Int} {S:Nat→ByteArray} {kl:Nat→Lit} {p q:Int} {l:Lit} (hl:keyOf Tryz.prog 38 (.agg #[.int .i64 p,.int .i64 q])=some l): ∀n:Nat,(∀i,i<n→keyOf Tryz.prog 38 (.agg #[.int .i64 (C i),.int .i64 (R i)])=some (kl i))→
  ∃c r,(clD kl C R S n).atKey l (.held (.agg #[.int .i64 0,.int .i64 0,.string ⟨#[]⟩]))= .held (.agg #[.int .i64 c,.int .i64 r,.string (Nz C R S p q n)])
 | 0,_=>⟨0,0,rfl⟩
 | n+1,h=>by
  unfold clD;by_cases e:C n=p∧R n=q
  ·have hk:=h n (by omega);rw [e.1,e.2,hl]at hk;rw [←Option.some.inj hk,atKey_put_same (Ui kl C R S n) (keyedRef.key hl)];exact⟨C n,R n,by rw [Nz,if_pos e]⟩
  ·have hne:l≠kl n:=fun e2=>by
    have hk:=h n (by omega);rw [←e2]at hk;have:=keyedRef.inj hk hl;simp at this;exact e this
   rw [atKey_put_other hne];obtain⟨c,r,hcr⟩:=Qlk hl n (fun i hi=>h i (by omega));exact⟨c,r,by rw [hcr,Nz,if_neg e]⟩
end Go.Proofs.YthjldgbfgapbcaaGreatDoor
namespace Go.Proofs.YthjldgbfgapbcaaGreatDoor
open Go.RowKit
def Xq (C R:Nat→Int) (S:Nat→ByteArray) (n:Nat) (C' R':Nat→Int) (S':Nat→ByteArray) (m:Nat):Bool:=decide (n=m)&&(List.range n).all fun i=>decide (C i=C' i)&&decide (R i=R' i)&&decide (S i=S' i)
theorem Qfi {C R:Nat→Int} {S:Nat→ByteArray} {n:Nat} {C' R':Nat→Int} {S':Nat→ByteArray} {m:Nat} (h:n≠m):Xq C R S n C' R' S' m=false:=by simp [Xq,h]
theorem Qh1 {C R:Nat→Int} {S:Nat→ByteArray} {n k:Nat} {C' R':Nat→Int} {S':Nat→ByteArray} (hk:k<n) (h: ¬(C k=C' k∧R k=R' k∧S k=S' k)):Xq C R S n C' R' S' n=false:=by
 unfold Xq;rw [Bool.and_eq_false_iff];right
 rw [List.all_eq_false];refine⟨k,List.mem_range.2 hk,fun e=>h ?_⟩;simp only [Bool.and_eq_true,decide_eq_true_eq]at e;exact⟨e.1.1,e.1.2,e.2⟩
theorem Zv {C R:Nat→Int} {S:Nat→ByteArray} {n:Nat} {C' R':Nat→Int} {S':Nat→ByteArray} (h: ∀k,k<n→C k=C' k∧R k=R' k∧S k=S' k):Xq C R S n C' R' S' n=true:=by
 unfold Xq;rw [decide_eq_true rfl,Bool.true_and,List.all_eq_true];intro i hi;obtain⟨h1,h2,h3⟩:=h i (List.mem_range.1 hi);simp [h1,h2,h3]
theorem Qe8 {a b:ByteArray} (h: ¬a=b):(a.toList==b.toList)=false:=by
 rw [beq_eq_false_iff_ne];intro e;apply h;rw [ByteArray.toList_eq,ByteArray.toList_eq]at e;exact ByteArray.ext (Array.ext' e)
theorem Vn {a b:Bool} (h:b=a):Ending.returned (.bool a)= .returned (.bool b):=by rw [h]
theorem QD {A A':Option Addr} {n cap m cap':Nat} {C R:Nat→Int} {S:Nat→ByteArray} {C' R':Nat→Int} {S':Nat→ByteArray} (w:World) (h:ClRow w A n C R S) (h':ClRow w A' m C' R' S'):
  Calls Tryz.prog 14 #[.slice A n cap,.slice A' m cap'] w fun e w'=>e= .returned (.bool (Xq C R S n C' R' S' m))∧Below w.heap.size w w':=by
 have HR:Hid (ClRow w A n C R S):=h;have HR':Hid (ClRow w A' m C' R' S'):=h';have hn:=h.1;have hm:=h'.1;unfold maxLen at hn hm;clear h h';by_cases hnm:n=m
 rotate_left
 ·have HF:Hid (Xq C R S n C' R' S' m=false):=Qfi hnm;have q0:((n:Int)==(m:Int))=false:=by simp;omega
  go_enter Tryz.func14,Tryz.ntmps14;go_wp2_with fail
  go_ret;exact⟨Vn HF.out,by go_grown⟩
 subst hnm;go_enter Tryz.func14,Tryz.ntmps14;go_wp2_with fail
 go_loopw [5] (fun i wr=> ∃k:Nat,k≤n∧i= .int .i64 k∧(∀j,j<k→C j=C' j∧R j=R' j∧S j=S' j)∧Below w.heap.size w wr) (fun i _=>n-(intOf i).toNat)
 case atStart=>exact⟨0,Nat.zero_le _,rfl,fun j hj=>absurd hj (Nat.not_lt_zero _),Below.refl _ _⟩
 case round=>
  obtain⟨k,hk,rfl,hall,hbel⟩:=hrel;have HAL:Hid (∀j,j<k→C j=C' j∧R j=R' j∧S j=S' j):=hall;clear hall;by_cases hlt:k<n
  ·obtain⟨b,o,rfl,hl,c0,c1,c2,_⟩:=HR.out.2 k hlt;obtain⟨b',o',rfl,hl',c0',c1',c2',_⟩:=HR'.out.2 k hlt;rw [←hbel.cell (p:=⟨_,_,none⟩) hl]at c0 c1 c2;rw [←hbel.cell (p:=⟨_,_,none⟩) hl']at c0' c1' c2';have h0:(0:Int)≤(k:Int):=by omega
   have h1:(k:Int)<(n:Int):=by omega
   have HNO:Hid (¬(C k=C' k∧R k=R' k∧S k=S' k)→Xq C R S n C' R' S' n=false):=fun h=>Qh1 hlt h
   have HYE:Hid ((C k=C' k∧R k=R' k∧S k=S' k)→ ∀j,j<k+1→C j=C' j∧R j=R' j∧S j=S' j):=fun h j hj=>by
    by_cases e:j=k
    ·subst e;exact h
    ·exact HAL.out j (by omega)
   obtain⟨x1,E1⟩: ∃x,Hid (C k=x):=⟨_,rfl⟩;obtain⟨x2,E2⟩: ∃x,Hid (R k=x):=⟨_,rfl⟩;obtain⟨x3,E3⟩: ∃x,Hid (S k=x):=⟨_,rfl⟩;obtain⟨y1,F1⟩: ∃x,Hid (C' k=x):=⟨_,rfl⟩;obtain⟨y2,F2⟩: ∃x,Hid (R' k=x):=⟨_,rfl⟩;obtain⟨y3,F3⟩: ∃x,Hid (S' k=x):=⟨_,rfl⟩;rw [E1.out,F1.out,E2.out,F2.out,E3.out,F3.out]at HNO HYE
   rw [E1.out]at c0;rw [E2.out]at c1;rw [E3.out]at c2;rw [F1.out]at c0';rw [F2.out]at c1';rw [F3.out]at c2';have HB:Hid (Below w.heap.size w wr):=hbel
   by_cases e1:x1=y1
   rotate_left
   ·have HF:=HNO.out (fun e=>e1 e.1);have hne:(x1==y1)=false:=by simpa using e1
    go_wp2_with fail
    go_region
    all_goals go_wp2_with fail
    all_goals
     go_ret;exact⟨Vn HF,by go_grown⟩
   by_cases e2:x2=y2
   rotate_left
   ·have HF:=HNO.out (fun e=>e2 e.2.1);have hne:(x2==y2)=false:=by simpa using e2
    subst e1;go_wp2_with fail
    go_region
    all_goals go_wp2_with fail
    all_goals
     go_ret;exact⟨Vn HF,by go_grown⟩
   by_cases e3:x3=y3
   rotate_left
   ·have HF:=HNO.out (fun e=>e3 e.2.2);have hne:(x3.toList==y3.toList)=false:=Qe8 e3;subst e1 e2;go_wp2_with fail
    go_region
    all_goals go_wp2_with fail
    all_goals
     go_ret;exact⟨Vn HF,by go_grown⟩
   have HK:=HYE.out ⟨e1,e2,e3⟩;subst e1 e2 e3;have hss:(x3.toList==x3.toList)=true:=by simp
   have HKH:Hid (∀j,j<k+1→C j=C' j∧R j=R' j∧S j=S' j):=HK;clear HK;go_wp2_with fail
   go_region
   all_goals go_wp2_with fail
   all_goals
    go_roundw
    case rel=>exact⟨k+1,by omega,by go_num,HKH.out,by go_grown⟩
    case measure=>simp [intOf];omega
  ·have h1: ¬(k:Int)<(n:Int):=by omega
   have HF:Hid (Xq C R S n C' R' S' n=true):=Zv (fun j hj=>HAL.out j (by omega));go_wp2_with fail
   go_ret;exact⟨Vn HF.out,hbel⟩
end Go.Proofs.YthjldgbfgapbcaaGreatDoor
