import Derived.Test.YthpmmfmanaefgaaGreatDoorGzj
import Derived.Test.YthpmmfmanaefgaaGreatDoorGaa
import Derived.Test.YthpmmfmanaefgaaGreatDoorGad
import Derived.Test.YthpmmfmanaefgaaGreatDoorMn
import Derived.Test.YthpmmfmanaefgaaGreatDoorGbg
set_option linter.unusedSimpArgs false
set_option linter.unusedVariables false
set_option maxHeartbeats 8000000
set_option maxRecDepth 100000
namespace Go.Proofs.YthpmmfmanaefgaaGreatDoor
open Go.RowKit
def ClRow (W:World) (A:Option Addr) (n:Nat) (C R:Nat→Int) (S:Nat→ByteArray):Prop:=
 n≤maxLen∧ ∀i,i<n→ ∃b o,A=some ⟨b,o,none⟩∧b<W.heap.size∧W.cell? ⟨b,o+i*3,none⟩=some (.int .i64 (C i))∧W.cell? ⟨b,o+i*3+1,none⟩=some (.int .i64 (R i))∧
  W.cell? ⟨b,o+i*3+2,none⟩=some (.string (S i))∧(S i).size≤maxLen
theorem ClRow.below {W W':World} {A:Option Addr} {n:Nat} {C R:Nat→Int} {S:Nat→ByteArray} (h:ClRow W A n C R S) (hb:Below W.heap.size W W'):ClRow W' A n C R S:=
 ⟨h.1,fun i hi=>by
  obtain⟨b,o,e,hl,c0,c1,c2,hs⟩:=h.2 i hi
  exact⟨b,o,e,Nat.lt_of_lt_of_le hl hb.size,(hb.cell (p:=⟨b,_,none⟩) hl).trans c0,(hb.cell (p:=⟨b,_,none⟩) hl).trans c1,(hb.cell (p:=⟨b,_,none⟩) hl).trans c2,hs⟩⟩
def clX (C R:Nat→Int) (S:Nat→ByteArray) (m:Nat):List Value:=(List.range m).flatMap fun i=> [.int .i64 (C i),.int .i64 (R i),.string (S i)]
theorem clX_succ (C R:Nat→Int) (S:Nat→ByteArray) (m:Nat):clX C R S (m+1)=clX C R S m++ [.int .i64 (C m),.int .i64 (R m),.string (S m)]:=by
 simp [clX,List.range_succ,List.flatMap_append]
theorem clX_len (C R:Nat→Int) (S:Nat→ByteArray) (m:Nat):(clX C R S m).length=m*3:=by
 induction m with
 | zero=>rfl
 | succ m ih=>rw [clX_succ,List.length_append,ih];simp;omega
theorem clX_at (C R:Nat→Int) (S:Nat→ByteArray) (m i j:Nat) (hi:i<m) (hj:j<3):
  (clX C R S m)[i*3+j]? = [Value.int .i64 (C i),.int .i64 (R i),.string (S i)][j]?:=by
 induction m with
 | zero=>omega
 | succ m ih=>
  rw [clX_succ]
  have hl:=clX_len C R S m
  by_cases h:i<m
  ·rw [List.getElem?_append_left (by omega)]
   exact ih h
  ·obtain rfl:i=m:=by omega
   rw [List.getElem?_append_right (by omega),hl]
   congr 1
   omega
theorem infoCl:(Tryz.prog.info? 37).map (fun i=>(i.zero,i.size,i.bytes))=some (some (.agg #[.int .i64 0,.int .i64 0,.string ⟨#[]⟩]),3,32):=by kernel_rfl
theorem cl_of_own {W:World} {B n:Nat} {A:Option Addr} {cap:Nat} {C R:Nat→Int} {S:Nat→ByteArray} (h:W.ownsRow B 37 3 (.slice A n cap) n (clX C R S n)) (hs: ∀i,i<n→(S i).size≤maxLen):ClRow W A n C R S:=by
 obtain⟨A',cap',e,hn,hc⟩:=own_shape h
 cases e
 refine⟨hn,fun i hi=> ?_⟩
 obtain⟨g,rfl,_,hl,c0,_⟩:=hc (i*3) (by omega)
 obtain⟨g1,e1,_,_,c1,_⟩:=hc (i*3+1) (by omega)
 obtain⟨g2,e2,_,_,c2,_⟩:=hc (i*3+2) (by omega)
 cases e1
 cases e2
 refine⟨g,0,rfl,hl,?_,?_,?_,hs i hi⟩
 ·rw [Nat.zero_add,c0];exact clX_at C R S n i 0 hi (by omega)
 ·rw [Nat.zero_add,c1];exact clX_at C R S n i 1 hi (by omega)
 ·rw [Nat.zero_add,c2];exact clX_at C R S n i 2 hi (by omega)
theorem impl_cellPlace (c r:Int) (s:ByteArray) (w:World):Calls Tryz.prog 29 #[.agg #[.int .i64 c,.int .i64 r,.string s]] w fun e w'=>
  e= .returned (.agg #[.int .i64 c,.int .i64 r])∧Below w.heap.size w w':=by
 go_enter Tryz.func29,Tryz.ntmps29
 go_wp2
 go_returns
 exact⟨rfl,by go_grown⟩
def riseAt (C R:Nat→Int) (i:Nat):Bool:=refOkB (C i) (R i)&&(decide (i=0) || aheadB (C (i-1)) (R (i-1)) (C i) (R i))
def riseB (C R:Nat→Int) (n:Nat):Bool:=(List.range n).all (riseAt C R)
theorem bfin0 {n:Nat} {w X w':World} (h0:Below w.heap.size w X) (h:Below (w.heap.size+n) X w'):Below w.heap.size w w':=h0.trans (h.mono (Nat.le_add_right _ _))
theorem all_noC {f:Nat→Bool} {n k:Nat} (hk:k<n) (h:f k=false):(List.range n).all f=false:=by
 rw [List.all_eq_false]
 exact⟨k,List.mem_range.2 hk,by simp [h]⟩
theorem all_yesC {f:Nat→Bool} {n:Nat} (h: ∀i,i<n→f i=true):(List.range n).all f=true:=by
 rw [List.all_eq_true]
 exact fun i hi=>h i (List.mem_range.1 hi)
theorem impl_placesRise_Cl {A:Option Addr} {n cap:Nat} {C R:Nat→Int} {S:Nat→ByteArray} (w:World) (h:ClRow w A n C R S):
  Calls Tryz.prog 28 #[.slice A n cap,.func (.func 29) #[] #[]] w fun e w'=>e= .returned (.bool (riseB C R n))∧Below w.heap.size w w':=by
 have HR:Hid (ClRow w A n C R S):=h
 have hn:=h.1
 unfold maxLen at hn
 clear h
 go_enter Tryz.func28,Tryz.ntmps28
 go_wp2_with fail
 go_loopw [9] (fun i wr=> ∃k:Nat,k≤n∧i= .int .i64 k∧(∀i,i<k→riseAt C R i=true)∧Below w.heap.size w wr) (fun i _=>n-(intOf i).toNat)
 case atStart=>exact⟨0,Nat.zero_le _,rfl,fun i hi=>by omega,Below.refl _ _⟩
 case round=>
  obtain⟨k,hk,rfl,hr,hbel⟩:=hrel
  have HI:Hid (∀i,i<k→riseAt C R i=true):=hr
  clear hr
  by_cases hlt:k<n
  ·obtain⟨b,o,rfl,hl,c0,c1,c2,_⟩:=HR.out.2 k hlt
   have hs:=hbel.size
   rw [←hbel.cell (p:=⟨_,_,none⟩) hl]at c0 c1 c2
   have hl2:b<wr.heap.size:=Nat.lt_of_lt_of_le hl hs
   have hl3:b<wr.heap.size+1:=Nat.lt_succ_of_lt hl2
   have h0:(0:Int)≤(k:Int):=by omega
   have h1:(k:Int)<(n:Int):=by omega
   cases ho:refOkB (C k) (R k)
   ·have HO:Hid (refOkB (C k) (R k)=false):=ho
    have HF:Hid (riseB C R n=false):=all_noC hlt (by simp [riseAt,ho])
    clear ho
    go_wp2_with fail
    refine wp_region_held_drew (S:=(fun w'=>(∀bq oq,bq<wr.heap.size+1→w'.cell? ⟨bq,oq,none⟩=(wr.alloc (.cells #[.int .i64 (C k),.int .i64 (R k),.string (S k)] 37)).cell? ⟨bq,oq,none⟩)∧wr.heap.size+1≤w'.heap.size∧Below (wr.heap.size+1) (wr.alloc (.cells #[.int .i64 (C k),.int .i64 (R k),.string (S k)] 37)) w')) (by kernel_rfl) (sc_of (by go_size) (by go_grown)) (fun hHeld=> ?_)
    refine tkA 0 ?_
    refine tkB 1 ?_
    refine rqA 2 (fun Kq hKq=> ?_)
    go_simp
    (refine(impl_cellPlace _ _ _ _).mono ?_;rintro e w1 ⟨rfl,hb⟩;obtain⟨hk1,hz1⟩:=bframe (B:=wr.heap.size+1) (X:=(wr.alloc (.cells #[.int .i64 (C k),.int .i64 (R k),.string (S k)] 37))) (by go_grown) (by go_size) hb;have hC:=fun b o h=>hk1.cell (p:=⟨b,o,none⟩) h;clear hb)
    refine hKq.out _ _ ?_ (fun hHeld=> ?_)
    ·exact sc_of (by go_size) (by go_grown)
    clear hKq Kq
    try simp only [Act.put,List.getElem_toArray,List.getElem_cons_zero,List.getElem_cons_succ,List.setIfInBounds_toArray,List.set_cons_zero,List.set_cons_succ]
    refine rqA 3 (fun Kq hKq=> ?_)
    go_simp
    (refine(impl_RefOk _ _ _).mono ?_;rintro e w1 ⟨rfl,hb⟩;rw [HO.out];obtain⟨hk1,hz1⟩:=bframe (B:=wr.heap.size+1) (X:=(wr.alloc (.cells #[.int .i64 (C k),.int .i64 (R k),.string (S k)] 37))) (by go_grown) (by go_size) hb;have hC:=fun b o h=>hk1.cell (p:=⟨b,o,none⟩) h;clear hb)
    refine hKq.out _ _ ?_ (fun hHeld=> ?_)
    ·exact sc_of (by go_size) (by go_grown)
    clear hKq Kq
    try simp only [Act.put,List.getElem_toArray,List.getElem_cons_zero,List.getElem_cons_succ,List.setIfInBounds_toArray,List.set_cons_zero,List.set_cons_succ]
    refine tkA 4 ?_
    refine tkB 5 ?_
    refine tnA 6 ?_
    refine tnB 7 ?_
    refine tnA 8 ?_
    refine tnB 9 ?_
    refine tnA 10 ?_
    refine tnB 11 ?_
    refine tnA 12 ?_
    refine tnB 13 ?_
    refine tnA 14 ?_
    refine tnB 15 ?_
    refine tnA 16 ?_
    refine tnB 17 ?_
    refine tnA 18 ?_
    refine tnB 19 ?_
    refine tnA 20 ?_
    refine tnB 21 ?_
    refine tkB 22 ?_
    refine wpAnyH_done (by kernel_rfl) ?_ _
    all_goals go_wp2_with fail
    all_goals
     go_ret
     exact⟨ret_bool HF.out.symm,(hbel.trans (Below.mono (bfin0 (n:=1) (X:=(wr.alloc (.cells #[.int .i64 (C k),.int .i64 (R k),.string (S k)] 37))) (by go_grown) (by go_grown)) hs))⟩
   have HO:Hid (refOkB (C k) (R k)=true):=ho
   clear ho
   match k,hk,hlt,HI,HO,c0,c1,c2,h0,h1 with
   | 0,hk,hlt,HI,HO,c0,c1,c2,h0,h1=>
    have hR:riseAt C R 0=true:=by simp [riseAt,HO.out]
    have HI':Hid (∀i,i<0+1→riseAt C R i=true):=fun i hi=>by rw [show i=0 by omega];exact hR
    simp only [Nat.zero_mul,Nat.add_zero]at c0 c1 c2
    clear hR
    go_wp2_with fail
    refine wp_region_held_drew (S:=(fun w'=>(∀bq oq,bq<wr.heap.size+1→w'.cell? ⟨bq,oq,none⟩=(wr.alloc (.cells #[.int .i64 (C 0),.int .i64 (R 0),.string (S 0)] 37)).cell? ⟨bq,oq,none⟩)∧wr.heap.size+1≤w'.heap.size∧Below (wr.heap.size+1) (wr.alloc (.cells #[.int .i64 (C 0),.int .i64 (R 0),.string (S 0)] 37)) w')) (by kernel_rfl) (sc_of (by go_size) (by go_grown)) (fun hHeld=> ?_)
    refine tkA 0 ?_
    refine tkB 1 ?_
    refine rqA 2 (fun Kq hKq=> ?_)
    go_simp
    (refine(impl_cellPlace _ _ _ _).mono ?_;rintro e w1 ⟨rfl,hb⟩;obtain⟨hk1,hz1⟩:=bframe (B:=wr.heap.size+1) (X:=(wr.alloc (.cells #[.int .i64 (C 0),.int .i64 (R 0),.string (S 0)] 37))) (by go_grown) (by go_size) hb;have hC:=fun b o h=>hk1.cell (p:=⟨b,o,none⟩) h;clear hb)
    refine hKq.out _ _ ?_ (fun hHeld=> ?_)
    ·exact sc_of (by go_size) (by go_grown)
    clear hKq Kq
    try simp only [Act.put,List.getElem_toArray,List.getElem_cons_zero,List.getElem_cons_succ,List.setIfInBounds_toArray,List.set_cons_zero,List.set_cons_succ]
    refine rqA 3 (fun Kq hKq=> ?_)
    go_simp
    (refine(impl_RefOk _ _ _).mono ?_;rintro e w1 ⟨rfl,hb⟩;rw [HO.out];obtain⟨hk1,hz1⟩:=bframe (B:=wr.heap.size+1) (X:=(wr.alloc (.cells #[.int .i64 (C 0),.int .i64 (R 0),.string (S 0)] 37))) (by go_grown) (by go_size) hb;have hC:=fun b o h=>hk1.cell (p:=⟨b,o,none⟩) h;clear hb)
    refine hKq.out _ _ ?_ (fun hHeld=> ?_)
    ·exact sc_of (by go_size) (by go_grown)
    clear hKq Kq
    try simp only [Act.put,List.getElem_toArray,List.getElem_cons_zero,List.getElem_cons_succ,List.setIfInBounds_toArray,List.set_cons_zero,List.set_cons_succ]
    refine tkA 4 ?_
    refine tkB 5 ?_
    refine tkA 6 ?_
    refine tkB 7 ?_
    refine tkA 8 ?_
    refine tnB 9 ?_
    refine tnA 10 ?_
    refine tnB 11 ?_
    refine tnA 12 ?_
    refine tnB 13 ?_
    refine tnA 14 ?_
    refine tnB 15 ?_
    refine tnA 16 ?_
    refine tnB 17 ?_
    refine tnA 18 ?_
    refine tnB 19 ?_
    refine tnA 20 ?_
    refine tkB 21 ?_
    refine tkB 22 ?_
    refine wpAnyH_done (by kernel_rfl) ?_ _
    all_goals go_wp2_with fail
    all_goals
     go_roundw
     case rel=>exact⟨0+1,by omega,by go_num,HI'.out,(hbel.trans (Below.mono (bfin0 (n:=1) (X:=(wr.alloc (.cells #[.int .i64 (C 0),.int .i64 (R 0),.string (S 0)] 37))) (by go_grown) (by go_grown)) hs))⟩
     case measure=>simp [intOf];omega
   | m+1,hk,hlt,HI,HO,c0,c1,c2,h0,h1=>
    obtain⟨b',o',e',_,d0,d1,d2,_⟩:=HR.out.2 m (by omega)
    cases e'
    rw [←hbel.cell (p:=⟨_,_,none⟩) hl]at d0 d1 d2
    have p0:(0:Int)≤(m:Int):=by omega
    have p1:(m:Int)<(n:Int):=by omega
    have p2:IntKind.i64.wrap (m:Int)=(m:Int):=by rw [IntKind.wrap_i64];omega
    have p3:IntKind.i64.wrap ((m:Int)+1-1)=(m:Int):=by rw [IntKind.wrap_i64];omega
    cases ha:aheadB (C m) (R m) (C (m+1)) (R (m+1))
    ·have HA:Hid (0≤cmpR (C m) (R m) (C (m+1)) (R (m+1))):=(cmpR_ahead _ _ _ _).2 ha
     have hA:=HA.out
     have HF:Hid (riseB C R n=false):=all_noC hlt (by simp [riseAt,ha])
     clear ha
     go_wp2_with fail
     go_region_held3 (fun w'=>(∀bq oq,bq<wr.heap.size+1→w'.cell? ⟨bq,oq,none⟩=(wr.alloc (.cells #[.int .i64 (C (m+1)),.int .i64 (R (m+1)),.string (S (m+1))] 37)).cell? ⟨bq,oq,none⟩)∧wr.heap.size+1≤w'.heap.size∧Below (wr.heap.size+1) (wr.alloc (.cells #[.int .i64 (C (m+1)),.int .i64 (R (m+1)),.string (S (m+1))] 37)) w')
      (exact sc_of (by go_size) (by go_grown))
      (first
      | (go_at_call 29;refine(impl_cellPlace _ _ _ _).mono ?_;rintro e w1 ⟨rfl,hb⟩;obtain⟨hk1,hz1⟩:=bframe (B:=wr.heap.size+1) (X:=(wr.alloc (.cells #[.int .i64 (C (m+1)),.int .i64 (R (m+1)),.string (S (m+1))] 37))) (by go_grown) (by go_size) hb;have hC:=fun b o h=>hk1.cell (p:=⟨b,o,none⟩) h;clear hb)
      | (go_at_call 18;refine(impl_RefOk _ _ _).mono ?_;rintro e w1 ⟨rfl,hb⟩;rw [HO.out];obtain⟨hk1,hz1⟩:=bframe (B:=wr.heap.size+1) (X:=(wr.alloc (.cells #[.int .i64 (C (m+1)),.int .i64 (R (m+1)),.string (S (m+1))] 37))) (by go_grown) (by go_size) hb;have hC:=fun b o h=>hk1.cell (p:=⟨b,o,none⟩) h;clear hb)
      | (go_at_call 38;refine(impl_compareRefs _ _ _ _ _).mono ?_;rintro e w1 ⟨rfl,hb⟩;obtain⟨hk1,hz1⟩:=bframe (B:=wr.heap.size+1) (X:=(wr.alloc (.cells #[.int .i64 (C (m+1)),.int .i64 (R (m+1)),.string (S (m+1))] 37))) (by go_grown) (by go_size) hb;have hC:=fun b o h=>hk1.cell (p:=⟨b,o,none⟩) h;clear hb))
     all_goals go_wp2_with fail
     all_goals
      go_ret
      exact⟨ret_bool HF.out.symm,(hbel.trans (Below.mono (bfin0 (n:=1) (X:=(wr.alloc (.cells #[.int .i64 (C (m+1)),.int .i64 (R (m+1)),.string (S (m+1))] 37))) (by go_grown) (by go_grown)) hs))⟩
    ·have hA: ¬0≤cmpR (C m) (R m) (C (m+1)) (R (m+1)):=fun h=>by rw [(cmpR_ahead _ _ _ _).1 h]at ha;cases ha
     have hR:riseAt C R (m+1)=true:=by simp [riseAt,HO.out,ha]
     have HI':Hid (∀i,i<m+1+1→riseAt C R i=true):=fun i hi=>by
      by_cases e:i=m+1
      ·subst e;exact hR
      ·exact HI.out i (by omega)
     clear ha hR
     go_wp2_with fail
     go_region_held3 (fun w'=>(∀bq oq,bq<wr.heap.size+1→w'.cell? ⟨bq,oq,none⟩=(wr.alloc (.cells #[.int .i64 (C (m+1)),.int .i64 (R (m+1)),.string (S (m+1))] 37)).cell? ⟨bq,oq,none⟩)∧wr.heap.size+1≤w'.heap.size∧Below (wr.heap.size+1) (wr.alloc (.cells #[.int .i64 (C (m+1)),.int .i64 (R (m+1)),.string (S (m+1))] 37)) w')
      (exact sc_of (by go_size) (by go_grown))
      (first
      | (go_at_call 29;refine(impl_cellPlace _ _ _ _).mono ?_;rintro e w1 ⟨rfl,hb⟩;obtain⟨hk1,hz1⟩:=bframe (B:=wr.heap.size+1) (X:=(wr.alloc (.cells #[.int .i64 (C (m+1)),.int .i64 (R (m+1)),.string (S (m+1))] 37))) (by go_grown) (by go_size) hb;have hC:=fun b o h=>hk1.cell (p:=⟨b,o,none⟩) h;clear hb)
      | (go_at_call 18;refine(impl_RefOk _ _ _).mono ?_;rintro e w1 ⟨rfl,hb⟩;rw [HO.out];obtain⟨hk1,hz1⟩:=bframe (B:=wr.heap.size+1) (X:=(wr.alloc (.cells #[.int .i64 (C (m+1)),.int .i64 (R (m+1)),.string (S (m+1))] 37))) (by go_grown) (by go_size) hb;have hC:=fun b o h=>hk1.cell (p:=⟨b,o,none⟩) h;clear hb)
      | (go_at_call 38;refine(impl_compareRefs _ _ _ _ _).mono ?_;rintro e w1 ⟨rfl,hb⟩;obtain⟨hk1,hz1⟩:=bframe (B:=wr.heap.size+1) (X:=(wr.alloc (.cells #[.int .i64 (C (m+1)),.int .i64 (R (m+1)),.string (S (m+1))] 37))) (by go_grown) (by go_size) hb;have hC:=fun b o h=>hk1.cell (p:=⟨b,o,none⟩) h;clear hb))
     all_goals go_wp2_with fail
     all_goals
      go_roundw
      case rel=>exact⟨m+1+1,by omega,by go_num,HI'.out,(hbel.trans (Below.mono (bfin0 (n:=1) (X:=(wr.alloc (.cells #[.int .i64 (C (m+1)),.int .i64 (R (m+1)),.string (S (m+1))] 37))) (by go_grown) (by go_grown)) hs))⟩
      case measure=>simp [intOf];omega
  ·have h1: ¬(k:Int)<(n:Int):=by omega
   obtain rfl:k=n:=by omega
   go_wp2_with fail
   go_ret
   exact⟨ret_bool (all_yesC HI.out).symm,hbel⟩
def ownB (s:ByteArray):Bool:=match inF s with
 | some t=>t.toList==s.toList
 | none=>false
def srcAt (S:Nat→ByteArray) (i:Nat):Bool:= !(S i).toList.isEmpty&&ownB (S i)
def clOkB (C R:Nat→Int) (S:Nat→ByteArray) (n:Nat):Bool:=decide (n≤120)&&riseB C R n&&(List.range n).all (srcAt S)
theorem clOk_big {C R:Nat→Int} {S:Nat→ByteArray} {n:Nat} (h:120<n):clOkB C R S n=false:=by
 have e:decide (n≤120)=false:=by simp;omega
 simp [clOkB,e]
theorem clOk_rise {C R:Nat→Int} {S:Nat→ByteArray} {n:Nat} (h:riseB C R n=false):clOkB C R S n=false:=by
 simp [clOkB,h]
theorem clOk_src {C R:Nat→Int} {S:Nat→ByteArray} {n k:Nat} (hk:k<n) (h:srcAt S k=false):clOkB C R S n=false:=by
 have e:(List.range n).all (srcAt S)=false:=all_noC hk h
 simp [clOkB,e]
theorem clOk_yes {C R:Nat→Int} {S:Nat→ByteArray} {n:Nat} (h:n≤120) (hr:riseB C R n=true) (hv:(List.range n).all (srcAt S)=true):clOkB C R S n=true:=by
 simp [clOkB,h,hr,hv]
theorem impl_isOwnSource (s:ByteArray) (w:World) (hs:s.size≤maxLen) (hg:GI w):Calls Tryz.prog 30 #[.string s] w fun e w'=>e= .returned (.bool (ownB s))∧Below w.heap.size w w':=by
 have HG:Hid (GI w):=hg
 clear hg
 cases ho:inF s with
 | none=>
  have HO:Hid (inF s=none):=ho
  have HB:Hid (ownB s=false):=by show _=_;unfold ownB;rw [ho]
  clear ho
  go_enter Tryz.func30,Tryz.ntmps30
  go_wp2_with fail
  refine(impl_InputOf s w hs HG.out).mono ?_
  rintro e u1 ⟨he,hb⟩
  rw [HO.out]at he
  obtain rfl:e= .returned (.tuple #[.string ⟨#[]⟩,.bool false]):=he
  go_wp2_with fail
  go_ret
  exact⟨ret_bool HB.out.symm,hb⟩
 | some t=>
  have HO:Hid (inF s=some t):=ho
  have HB:Hid (ownB s=(t.toList==s.toList)):=by show _=_;unfold ownB;rw [ho]
  clear ho
  go_enter Tryz.func30,Tryz.ntmps30
  go_wp2_with fail
  refine(impl_InputOf s w hs HG.out).mono ?_
  rintro e u1 ⟨he,hb⟩
  rw [HO.out]at he
  obtain rfl:e= .returned (.tuple #[.string t,.bool true]):=he
  go_wp2_with fail
  go_ret
  exact⟨ret_bool HB.out.symm,hb⟩
theorem impl_SheetOk {A:Option Addr} {n cap:Nat} {C R:Nat→Int} {S:Nat→ByteArray} (w:World) (h:ClRow w A n C R S) (hg:GI w):
  Calls Tryz.prog 11 #[.slice A n cap] w fun e w'=>e= .returned (.bool (clOkB C R S n))∧Below w.heap.size w w':=by
 have HR:Hid (ClRow w A n C R S):=h
 have HG:Hid (GI w):=hg
 have hn:=h.1
 unfold maxLen at hn
 clear h hg
 by_cases hbig:(120:Int)<(n:Int)
 ·have HF:Hid (clOkB C R S n=false):=clOk_big (by omega)
  go_enter Tryz.func11,Tryz.ntmps11
  go_wp2_with fail
  go_ret
  exact⟨ret_bool HF.out.symm,by go_grown⟩
 cases hrs:riseB C R n
 ·have HRS:Hid (riseB C R n=false):=hrs
  have HF:Hid (clOkB C R S n=false):=clOk_rise hrs
  clear hrs
  go_enter Tryz.func11,Tryz.ntmps11
  go_wp2_with (go_at_call 28;refine(impl_placesRise_Cl _ HR.out).mono ?_;rintro e w1 ⟨rfl,hb⟩;rw [HRS.out])
  go_ret
  exact⟨ret_bool HF.out.symm,by go_grown⟩
 have HRS:Hid (riseB C R n=true):=hrs
 clear hrs
 go_enter Tryz.func11,Tryz.ntmps11
 go_wp2_with fail
 refine(impl_placesRise_Cl _ HR.out).mono ?_
 rintro e w1 ⟨rfl,hb1⟩
 rw [HRS.out]
 go_wp2_with fail
 go_loopw [15] (fun i wr=> ∃k:Nat,k≤n∧i= .int .i64 k∧(∀i,i<k→srcAt S i=true)∧Below w.heap.size w wr) (fun i _=>n-(intOf i).toNat)
 case atStart=>exact⟨0,Nat.zero_le _,rfl,fun i hi=>by omega,hb1⟩
 case round=>
  clear hb1
  obtain⟨k,hk,rfl,hr,hbel⟩:=hrel
  have HI:Hid (∀i,i<k→srcAt S i=true):=hr
  clear hr
  by_cases hlt:k<n
  ·obtain⟨b,o,rfl,hl,c0,c1,c2,hsz⟩:=HR.out.2 k hlt
   have HS:Hid ((S k).size≤maxLen):=hsz
   clear hsz
   have hs:=hbel.size
   have HGr:Hid (GI wr):=HG.out.below hbel
   rw [←hbel.cell (p:=⟨_,_,none⟩) hl]at c0 c1 c2
   have hl2:b<wr.heap.size:=Nat.lt_of_lt_of_le hl hs
   have h0:(0:Int)≤(k:Int):=by omega
   have h1:(k:Int)<(n:Int):=by omega
   cases he:(S k).toList.isEmpty
   ·cases hv:ownB (S k)
    ·have HV:Hid (ownB (S k)=false):=hv
     have HF:Hid (clOkB C R S n=false):=clOk_src hlt (by simp [srcAt,hv])
     clear hv
     go_wp2_with (go_at_call 30;refine(impl_isOwnSource _ _ HS.out (HGr.out.below (by go_grown))).mono ?_;rintro e w2 ⟨rfl,hb⟩;rw [HV.out];have hk1:=bchain (w:=wr) (by go_grown) hb;clear hb)
     go_ret
     exact⟨ret_bool HF.out.symm,bchain hbel (by go_grown)⟩
    ·have HV:Hid (ownB (S k)=true):=hv
     have HT:Hid (srcAt S k=true):=by show _=_;simp [srcAt,hv,he]
     clear hv
     go_wp2_with (go_at_call 30;refine(impl_isOwnSource _ _ HS.out (HGr.out.below (by go_grown))).mono ?_;rintro e w2 ⟨rfl,hb⟩;rw [HV.out];have hk1:=bchain (w:=wr) (by go_grown) hb;clear hb)
     go_roundw
     case rel=>exact⟨k+1,by omega,by go_num,fun i hi=>by
      by_cases e:i=k
      ·subst e;exact HT.out
      ·exact HI.out i (by omega),bchain hbel (by go_grown)⟩
     case measure=>simp [intOf];omega
   ·have HF:Hid (clOkB C R S n=false):=clOk_src hlt (by simp [srcAt,he])
    go_wp2_with fail
    go_ret
    exact⟨ret_bool HF.out.symm,bchain hbel (by go_grown)⟩
  ·have h1: ¬(k:Int)<(n:Int):=by omega
   obtain rfl:k=n:=by omega
   go_wp2_with fail
   go_ret
   exact⟨ret_bool (clOk_yes (by omega) HRS.out (all_yesC HI.out)).symm,hbel⟩
theorem opA_shape {o:Option ByteArray} {e:Ending} (h:opA o e): ∃t ok,e= .returned (.tuple #[.string t,.bool ok]):=by
 cases o with
 | none=>exact⟨_,_,h⟩
 | some t=>exact⟨_,_,h⟩
theorem spec_SheetOk {A:Option Addr} {n cap:Nat} {C R:Nat→Int} {S:Nat→ByteArray} (w:World) (h:ClRow w A n C R S):
  Calls Tryz.prog 23 #[.slice A n cap] w fun e w'=>e= .returned (.bool (clOkB C R S n))∧Below w.heap.size w w':=by
 have HR:Hid (ClRow w A n C R S):=h
 have hn:=h.1
 unfold maxLen at hn
 clear h
 by_cases hbig:(120:Int)<(n:Int)
 ·have HF:Hid (clOkB C R S n=false):=clOk_big (by omega)
  go_enter Tryz.func23,Tryz.ntmps23
  go_wp2_with fail
  go_ret
  exact⟨ret_bool HF.out.symm,by go_grown⟩
 go_enter Tryz.func23,Tryz.ntmps23
 go_wp2_with fail
 go_loopw [3] (fun i wr=> ∃k:Nat,k≤n∧i= .int .i64 k∧(∀i,i<k→riseAt C R i=true∧srcAt S i=true)∧Below w.heap.size w wr) (fun i _=>n-(intOf i).toNat)
 case atStart=>exact⟨0,Nat.zero_le _,rfl,fun i hi=>by omega,Below.refl _ _⟩
 case round=>
  obtain⟨k,hk,rfl,hr,hbel⟩:=hrel
  have HI:Hid (∀i,i<k→riseAt C R i=true∧srcAt S i=true):=hr
  clear hr
  by_cases hlt:k<n
  ·obtain⟨b,o,rfl,hl,c0,c1,c2,hsz⟩:=HR.out.2 k hlt
   have HS:Hid ((S k).size≤maxLen):=hsz
   clear hsz
   have hs:=hbel.size
   rw [←hbel.cell (p:=⟨_,_,none⟩) hl]at c0 c1 c2
   have hl2:b<wr.heap.size:=Nat.lt_of_lt_of_le hl hs
   have h0:(0:Int)≤(k:Int):=by omega
   have h1:(k:Int)<(n:Int):=by omega
   cases ho:refOkB (C k) (R k)
   ·have HO:Hid (refOkB (C k) (R k)=false):=ho
    have HF:Hid (clOkB C R S n=false):=clOk_rise (all_noC hlt (by simp [riseAt,ho]))
    clear ho
    go_wp2_with fail
    refine(spec_InputOf (S k) _ HS.out).mono ?_
    rintro e w3 ⟨he,hb⟩
    obtain⟨txt,ok,rfl⟩:=opA_shape he
    have K3:Hid (Below wr.heap.size wr w3):=hb
    rw [←hb.cell (p:=⟨_,_,none⟩) hl2]at c0 c1 c2
    have hl3:b<w3.heap.size:=Nat.lt_of_lt_of_le hl2 hb.size
    clear hb he
    go_wp2_with fail
    refine wp_region_held_drew (S:=(fun w'=>(∀bq oq,bq<w3.heap.size→w'.cell? ⟨bq,oq,none⟩=w3.cell? ⟨bq,oq,none⟩)∧w3.heap.size≤w'.heap.size∧Below w3.heap.size w3 w')) (by kernel_rfl) (sc_of (by go_size) (by go_grown)) (fun hHeld=> ?_)
    refine tkA 0 ?_
    refine tkB 1 ?_
    refine tkA 2 ?_
    refine tkB 3 ?_
    refine tkB 4 ?_
    refine rqA 5 (fun Kq hKq=> ?_)
    go_simp
    (refine(spec_RefOk _ _ _).mono ?_;rintro e w1 ⟨rfl,hb⟩;rw [HO.out];obtain⟨hk1,hz1⟩:=bframe (B:=w3.heap.size) (X:=w3) (by go_grown) (by go_size) hb;have hC:=fun b o h=>hk1.cell (p:=⟨b,o,none⟩) h;clear hb)
    refine hKq.out _ _ ?_ (fun hHeld=> ?_)
    ·exact sc_of (by go_size) (by go_grown)
    clear hKq Kq
    try simp only [Act.put,List.getElem_toArray,List.getElem_cons_zero,List.getElem_cons_succ,List.setIfInBounds_toArray,List.set_cons_zero,List.set_cons_succ]
    refine tkA 6 ?_
    refine tkB 7 ?_
    refine tnA 8 ?_
    refine tnA 9 ?_
    refine tkB 10 ?_
    refine tkA 11 ?_
    refine tnA 12 ?_
    refine tnB 13 ?_
    refine tnA 14 ?_
    refine tnA 15 ?_
    refine tnA 16 ?_
    refine tnB 17 ?_
    refine tkA 18 ?_
    refine tkB 19 ?_
    refine tnA 20 ?_
    refine tnA 21 ?_
    refine tnA 22 ?_
    refine tnB 23 ?_
    refine tnA 24 ?_
    refine tnA 25 ?_
    refine tnB 26 ?_
    refine tkA 27 ?_
    refine tkB 28 ?_
    refine tnA 29 ?_
    refine tnA 30 ?_
    refine tnA 31 ?_
    refine tnB 32 ?_
    refine tnA 33 ?_
    refine tnA 34 ?_
    refine tnA 35 ?_
    refine tnB 36 ?_
    refine tnA 37 ?_
    refine tnA 38 ?_
    refine tnA 39 ?_
    refine tnB 40 ?_
    refine tnA 41 ?_
    refine tnA 42 ?_
    refine tnA 43 ?_
    refine tnB 44 ?_
    refine tnA 45 ?_
    refine tkB 46 ?_
    refine wpAnyH_done (by kernel_rfl) ?_ _
    go_wp2_with fail
    go_ret
    exact⟨ret_bool HF.out.symm,bchain (bchain hbel K3.out) (by go_grown)⟩
   have HO:Hid (refOkB (C k) (R k)=true):=ho
   clear ho
   cases hin:inF (S k)with
   | none=>
    have HIN:Hid (inF (S k)=none):=hin
    have HF:Hid (clOkB C R S n=false):=clOk_src hlt (by simp [srcAt,ownB,hin])
    clear hin
    go_wp2_with fail
    refine(spec_InputOf (S k) _ HS.out).mono ?_
    rintro e w3 ⟨he,hb⟩
    rw [HIN.out]at he
    obtain rfl:e= .returned (.tuple #[.string ⟨#[]⟩,.bool false]):=he
    have K3:Hid (Below wr.heap.size wr w3):=hb
    rw [←hb.cell (p:=⟨_,_,none⟩) hl2]at c0 c1 c2
    have hl3:b<w3.heap.size:=Nat.lt_of_lt_of_le hl2 hb.size
    clear hb
    go_wp2_with fail
    refine wp_region_held_drew (S:=(fun w'=>(∀bq oq,bq<w3.heap.size→w'.cell? ⟨bq,oq,none⟩=w3.cell? ⟨bq,oq,none⟩)∧w3.heap.size≤w'.heap.size∧Below w3.heap.size w3 w')) (by kernel_rfl) (sc_of (by go_size) (by go_grown)) (fun hHeld=> ?_)
    refine tkA 0 ?_
    refine tkB 1 ?_
    refine tkA 2 ?_
    refine tkB 3 ?_
    refine tkB 4 ?_
    refine rqA 5 (fun Kq hKq=> ?_)
    go_simp
    (refine(spec_RefOk _ _ _).mono ?_;rintro e w1 ⟨rfl,hb⟩;rw [HO.out];obtain⟨hk1,hz1⟩:=bframe (B:=w3.heap.size) (X:=w3) (by go_grown) (by go_size) hb;have hC:=fun b o h=>hk1.cell (p:=⟨b,o,none⟩) h;clear hb)
    refine hKq.out _ _ ?_ (fun hHeld=> ?_)
    ·exact sc_of (by go_size) (by go_grown)
    clear hKq Kq
    try simp only [Act.put,List.getElem_toArray,List.getElem_cons_zero,List.getElem_cons_succ,List.setIfInBounds_toArray,List.set_cons_zero,List.set_cons_succ]
    refine tkA 6 ?_
    refine tkB 7 ?_
    refine tkA 8 ?_
    refine tkB 9 ?_
    refine tkA 10 ?_
    refine tkB 11 ?_
    refine tnA 12 ?_
    refine tnA 13 ?_
    refine tnA 14 ?_
    refine tnB 15 ?_
    refine tnA 16 ?_
    refine tnA 17 ?_
    refine tkB 18 ?_
    refine tkA 19 ?_
    refine tnA 20 ?_
    refine tnB 21 ?_
    refine tnA 22 ?_
    refine tnA 23 ?_
    refine tnA 24 ?_
    refine tnB 25 ?_
    refine tnA 26 ?_
    refine tkB 27 ?_
    refine tkA 28 ?_
    refine tnA 29 ?_
    refine tnB 30 ?_
    refine tnA 31 ?_
    refine tnA 32 ?_
    refine tnA 33 ?_
    refine tnB 34 ?_
    refine tnA 35 ?_
    refine tnA 36 ?_
    refine tnA 37 ?_
    refine tnB 38 ?_
    refine tnA 39 ?_
    refine tnA 40 ?_
    refine tnA 41 ?_
    refine tnB 42 ?_
    refine tnA 43 ?_
    refine tnA 44 ?_
    refine tnB 45 ?_
    refine tkB 46 ?_
    refine wpAnyH_done (by kernel_rfl) ?_ _
    go_wp2_with fail
    go_ret
    exact⟨ret_bool HF.out.symm,bchain (bchain hbel K3.out) (by go_grown)⟩
   | some t=>
    have HIN:Hid (inF (S k)=some t):=hin
    cases he:(S k).toList.isEmpty
    rotate_left
    ·have HF:Hid (clOkB C R S n=false):=clOk_src hlt (by simp [srcAt,he])
     clear hin
     go_wp2_with fail
     refine(spec_InputOf (S k) _ HS.out).mono ?_
     rintro e w3 ⟨he,hb⟩
     rw [HIN.out]at he
     obtain rfl:e= .returned (.tuple #[.string t,.bool true]):=he
     have K3:Hid (Below wr.heap.size wr w3):=hb
     rw [←hb.cell (p:=⟨_,_,none⟩) hl2]at c0 c1 c2
     have hl3:b<w3.heap.size:=Nat.lt_of_lt_of_le hl2 hb.size
     clear hb
     go_wp2_with fail
     refine wp_region_held_drew (S:=(fun w'=>(∀bq oq,bq<w3.heap.size→w'.cell? ⟨bq,oq,none⟩=w3.cell? ⟨bq,oq,none⟩)∧w3.heap.size≤w'.heap.size∧Below w3.heap.size w3 w')) (by kernel_rfl) (sc_of (by go_size) (by go_grown)) (fun hHeld=> ?_)
     refine tkA 0 ?_
     refine tkB 1 ?_
     refine tkA 2 ?_
     refine tkB 3 ?_
     refine tkB 4 ?_
     refine rqA 5 (fun Kq hKq=> ?_)
     go_simp
     (refine(spec_RefOk _ _ _).mono ?_;rintro e w1 ⟨rfl,hb⟩;rw [HO.out];obtain⟨hk1,hz1⟩:=bframe (B:=w3.heap.size) (X:=w3) (by go_grown) (by go_size) hb;have hC:=fun b o h=>hk1.cell (p:=⟨b,o,none⟩) h;clear hb)
     refine hKq.out _ _ ?_ (fun hHeld=> ?_)
     ·exact sc_of (by go_size) (by go_grown)
     clear hKq Kq
     try simp only [Act.put,List.getElem_toArray,List.getElem_cons_zero,List.getElem_cons_succ,List.setIfInBounds_toArray,List.set_cons_zero,List.set_cons_succ]
     refine tkA 6 ?_
     refine tkB 7 ?_
     refine tkA 8 ?_
     refine tkB 9 ?_
     refine tkA 10 ?_
     refine tkB 11 ?_
     refine tkA 12 ?_
     refine tkB 13 ?_
     refine tkA 14 ?_
     refine tkB 15 ?_
     refine tkA 16 ?_
     refine tkB 17 ?_
     refine tkA 18 ?_
     refine tkB 19 ?_
     refine tnA 20 ?_
     refine tnA 21 ?_
     refine tnA 22 ?_
     refine tnB 23 ?_
     refine tnA 24 ?_
     refine tnA 25 ?_
     refine tnB 26 ?_
     refine tkA 27 ?_
     refine tkB 28 ?_
     refine tnA 29 ?_
     refine tnA 30 ?_
     refine tnA 31 ?_
     refine tnB 32 ?_
     refine tnA 33 ?_
     refine tnA 34 ?_
     refine tnA 35 ?_
     refine tnB 36 ?_
     refine tnA 37 ?_
     refine tnA 38 ?_
     refine tnA 39 ?_
     refine tnB 40 ?_
     refine tnA 41 ?_
     refine tnA 42 ?_
     refine tnA 43 ?_
     refine tnB 44 ?_
     refine tnA 45 ?_
     refine tkB 46 ?_
     refine wpAnyH_done (by kernel_rfl) ?_ _
     go_wp2_with fail
     go_ret
     exact⟨ret_bool HF.out.symm,bchain (bchain hbel K3.out) (by go_grown)⟩
    cases hq:(t.toList==(S k).toList)
    ·have HF:Hid (clOkB C R S n=false):=clOk_src hlt (by simp [srcAt,ownB,hin];intro _;simpa using hq)
     clear hin
     go_wp2_with fail
     refine(spec_InputOf (S k) _ HS.out).mono ?_
     rintro e w3 ⟨he,hb⟩
     rw [HIN.out]at he
     obtain rfl:e= .returned (.tuple #[.string t,.bool true]):=he
     have K3:Hid (Below wr.heap.size wr w3):=hb
     rw [←hb.cell (p:=⟨_,_,none⟩) hl2]at c0 c1 c2
     have hl3:b<w3.heap.size:=Nat.lt_of_lt_of_le hl2 hb.size
     clear hb
     go_wp2_with fail
     refine wp_region_held_drew (S:=(fun w'=>(∀bq oq,bq<w3.heap.size→w'.cell? ⟨bq,oq,none⟩=w3.cell? ⟨bq,oq,none⟩)∧w3.heap.size≤w'.heap.size∧Below w3.heap.size w3 w')) (by kernel_rfl) (sc_of (by go_size) (by go_grown)) (fun hHeld=> ?_)
     refine tkA 0 ?_
     refine tkB 1 ?_
     refine tkA 2 ?_
     refine tkB 3 ?_
     refine tkB 4 ?_
     refine rqA 5 (fun Kq hKq=> ?_)
     go_simp
     (refine(spec_RefOk _ _ _).mono ?_;rintro e w1 ⟨rfl,hb⟩;rw [HO.out];obtain⟨hk1,hz1⟩:=bframe (B:=w3.heap.size) (X:=w3) (by go_grown) (by go_size) hb;have hC:=fun b o h=>hk1.cell (p:=⟨b,o,none⟩) h;clear hb)
     refine hKq.out _ _ ?_ (fun hHeld=> ?_)
     ·exact sc_of (by go_size) (by go_grown)
     clear hKq Kq
     try simp only [Act.put,List.getElem_toArray,List.getElem_cons_zero,List.getElem_cons_succ,List.setIfInBounds_toArray,List.set_cons_zero,List.set_cons_succ]
     refine tkA 6 ?_
     refine tkB 7 ?_
     refine tkA 8 ?_
     refine tkB 9 ?_
     refine tkA 10 ?_
     refine tkB 11 ?_
     refine tkA 12 ?_
     refine tkB 13 ?_
     refine tkA 14 ?_
     refine tkB 15 ?_
     refine tkA 16 ?_
     refine tkB 17 ?_
     refine tkA 18 ?_
     refine tkB 19 ?_
     refine tkA 20 ?_
     refine tkB 21 ?_
     refine tkA 22 ?_
     refine tkB 23 ?_
     refine tkA 24 ?_
     refine tkB 25 ?_
     refine tkA 26 ?_
     refine tkB 27 ?_
     refine tkA 28 ?_
     refine tnA 29 ?_
     refine tnB 30 ?_
     refine tnA 31 ?_
     refine tnA 32 ?_
     refine tnA 33 ?_
     refine tnB 34 ?_
     refine tnA 35 ?_
     refine tnA 36 ?_
     refine tnA 37 ?_
     refine tnB 38 ?_
     refine tnA 39 ?_
     refine tnA 40 ?_
     refine tnA 41 ?_
     refine tnB 42 ?_
     refine tnA 43 ?_
     refine tnA 44 ?_
     refine tnB 45 ?_
     refine tkB 46 ?_
     refine wpAnyH_done (by kernel_rfl) ?_ _
     go_wp2_with fail
     go_ret
     exact⟨ret_bool HF.out.symm,bchain (bchain hbel K3.out) (by go_grown)⟩
    have HSK:Hid (srcAt S k=true):=by show _=_;unfold srcAt ownB;rw [hin,he];exact hq
    clear hin
    match k,hk,hlt,HI,HO,HS,HIN,HSK,he,hq,c0,c1,c2,h0,h1 with
    | 0,hk,hlt,HI,HO,HS,HIN,HSK,he,hq,c0,c1,c2,h0,h1=>
     have hR:riseAt C R 0=true:=by simp [riseAt,HO.out]
     have HI':Hid (∀i,i<0+1→riseAt C R i=true∧srcAt S i=true):=fun i hi=>by rw [show i=0 by omega];exact⟨hR,HSK.out⟩
     simp only [Nat.zero_mul,Nat.add_zero]at c0 c1 c2
     clear hR
     go_wp2_with fail
     refine(spec_InputOf (S 0) _ HS.out).mono ?_
     rintro e w3 ⟨he,hb⟩
     rw [HIN.out]at he
     obtain rfl:e= .returned (.tuple #[.string t,.bool true]):=he
     have K3:Hid (Below wr.heap.size wr w3):=hb
     rw [←hb.cell (p:=⟨_,_,none⟩) hl2]at c0 c1 c2
     have hl3:b<w3.heap.size:=Nat.lt_of_lt_of_le hl2 hb.size
     clear hb
     go_wp2_with fail
     refine wp_region_held_drew (S:=(fun w'=>(∀bq oq,bq<w3.heap.size→w'.cell? ⟨bq,oq,none⟩=w3.cell? ⟨bq,oq,none⟩)∧w3.heap.size≤w'.heap.size∧Below w3.heap.size w3 w')) (by kernel_rfl) (sc_of (by go_size) (by go_grown)) (fun hHeld=> ?_)
     refine tkA 0 ?_
     refine tkB 1 ?_
     refine tkA 2 ?_
     refine tkB 3 ?_
     refine tkB 4 ?_
     refine rqA 5 (fun Kq hKq=> ?_)
     go_simp
     (refine(spec_RefOk _ _ _).mono ?_;rintro e w1 ⟨rfl,hb⟩;rw [HO.out];obtain⟨hk1,hz1⟩:=bframe (B:=w3.heap.size) (X:=w3) (by go_grown) (by go_size) hb;have hC:=fun b o h=>hk1.cell (p:=⟨b,o,none⟩) h;clear hb)
     refine hKq.out _ _ ?_ (fun hHeld=> ?_)
     ·exact sc_of (by go_size) (by go_grown)
     clear hKq Kq
     try simp only [Act.put,List.getElem_toArray,List.getElem_cons_zero,List.getElem_cons_succ,List.setIfInBounds_toArray,List.set_cons_zero,List.set_cons_succ]
     refine tkA 6 ?_
     refine tkB 7 ?_
     refine tkA 8 ?_
     refine tkB 9 ?_
     refine tkA 10 ?_
     refine tkB 11 ?_
     refine tkA 12 ?_
     refine tkB 13 ?_
     refine tkA 14 ?_
     refine tkB 15 ?_
     refine tkA 16 ?_
     refine tkB 17 ?_
     refine tkA 18 ?_
     refine tkB 19 ?_
     refine tkA 20 ?_
     refine tkB 21 ?_
     refine tkA 22 ?_
     refine tkB 23 ?_
     refine tkA 24 ?_
     refine tkB 25 ?_
     refine tkA 26 ?_
     refine tkB 27 ?_
     refine tkA 28 ?_
     refine tkB 29 ?_
     refine tkA 30 ?_
     refine tkB 31 ?_
     refine tnA 32 ?_
     refine tnA 33 ?_
     refine tnA 34 ?_
     refine tnB 35 ?_
     refine tnA 36 ?_
     refine tnA 37 ?_
     refine tnA 38 ?_
     refine tnB 39 ?_
     refine tnA 40 ?_
     refine tnA 41 ?_
     refine tnA 42 ?_
     refine tnB 43 ?_
     refine tnA 44 ?_
     refine tkB 45 ?_
     refine tkB 46 ?_
     refine wpAnyH_done (by kernel_rfl) ?_ _
     go_wp2_with fail
     go_roundw
     case rel=>exact⟨0+1,by omega,by go_num,HI'.out,bchain (bchain hbel K3.out) (by go_grown)⟩
     case measure=>simp [intOf];omega
    | m+1,hk,hlt,HI,HO,HS,HIN,HSK,he,hq,c0,c1,c2,h0,h1=>
     obtain⟨b',o',e',_,d0,d1,d2,_⟩:=HR.out.2 m (by omega)
     cases e'
     rw [←hbel.cell (p:=⟨_,_,none⟩) hl]at d0 d1 d2
     have p0:(0:Int)≤(m:Int):=by omega
     have p1:(m:Int)<(n:Int):=by omega
     have p4:(0:Int)≤(m:Int)+1:=by omega
     have p5:(m:Int)+1<(n:Int):=by omega
     have p2:IntKind.i64.wrap (m:Int)=(m:Int):=by rw [IntKind.wrap_i64];omega
     have p3:IntKind.i64.wrap ((m:Int)+1-1)=(m:Int):=by rw [IntKind.wrap_i64];omega
     obtain⟨ah,HA⟩: ∃x,Hid (aheadB (C m) (R m) (C (m+1)) (R (m+1))=x):=⟨_,rfl⟩
     go_wp2_with fail
     refine(spec_InputOf (S (m+1)) _ HS.out).mono ?_
     rintro e w3 ⟨he,hb⟩
     rw [HIN.out]at he
     obtain rfl:e= .returned (.tuple #[.string t,.bool true]):=he
     have K3:Hid (Below wr.heap.size wr w3):=hb
     rw [←hb.cell (p:=⟨_,_,none⟩) hl2]at c0 c1 c2 d0 d1 d2
     have hl3:b<w3.heap.size:=Nat.lt_of_lt_of_le hl2 hb.size
     clear hb
     go_wp2_with fail
     refine wp_region_held_drew (S:=(fun w'=>(∀bq oq,bq<w3.heap.size→w'.cell? ⟨bq,oq,none⟩=w3.cell? ⟨bq,oq,none⟩)∧w3.heap.size≤w'.heap.size∧Below w3.heap.size w3 w')) (by kernel_rfl) (sc_of (by go_size) (by go_grown)) (fun hHeld=> ?_)
     refine tkA 0 ?_
     refine tkB 1 ?_
     refine tkA 2 ?_
     refine tkB 3 ?_
     refine tkB 4 ?_
     refine rqA 5 (fun Kq hKq=> ?_)
     go_simp
     (refine(spec_RefOk _ _ _).mono ?_;rintro e w1 ⟨rfl,hb⟩;rw [HO.out];obtain⟨hk1,hz1⟩:=bframe (B:=w3.heap.size) (X:=w3) (by go_grown) (by go_size) hb;have hC:=fun b o h=>hk1.cell (p:=⟨b,o,none⟩) h;clear hb)
     refine hKq.out _ _ ?_ (fun hHeld=> ?_)
     ·exact sc_of (by go_size) (by go_grown)
     clear hKq Kq
     try simp only [Act.put,List.getElem_toArray,List.getElem_cons_zero,List.getElem_cons_succ,List.setIfInBounds_toArray,List.set_cons_zero,List.set_cons_succ]
     refine tkA 6 ?_
     refine tkB 7 ?_
     refine tkA 8 ?_
     refine tkB 9 ?_
     refine tkA 10 ?_
     refine tkB 11 ?_
     refine tkA 12 ?_
     refine tkB 13 ?_
     refine tkA 14 ?_
     refine tkB 15 ?_
     refine tkA 16 ?_
     refine tkB 17 ?_
     refine tkA 18 ?_
     refine tkB 19 ?_
     refine tkA 20 ?_
     refine tkB 21 ?_
     refine tkA 22 ?_
     refine tkB 23 ?_
     refine tkA 24 ?_
     refine tkB 25 ?_
     refine tkA 26 ?_
     refine tkB 27 ?_
     refine tkA 28 ?_
     refine tkB 29 ?_
     refine tkA 30 ?_
     refine tkB 31 ?_
     refine tkA 32 ?_
     refine tkB 33 ?_
     refine tkA 34 ?_
     refine tkB 35 ?_
     refine tkA 36 ?_
     refine tkB 37 ?_
     refine tkA 38 ?_
     refine tkB 39 ?_
     refine tkA 40 ?_
     refine tkB 41 ?_
     refine tkB 42 ?_
     refine rqA 43 (fun Kq hKq=> ?_)
     go_simp
     (refine(spec_l1Ahead _ _ _ _ _).mono ?_;rintro e w1 ⟨rfl,hb⟩;rw [HA.out];obtain⟨hk1,hz1⟩:=bframe (B:=w3.heap.size) (X:=w3) (by go_grown) (by go_size) hb;have hC:=fun b o h=>hk1.cell (p:=⟨b,o,none⟩) h;clear hb)
     refine hKq.out _ _ ?_ (fun hHeld=> ?_)
     ·exact sc_of (by go_size) (by go_grown)
     clear hKq Kq
     try simp only [Act.put,List.getElem_toArray,List.getElem_cons_zero,List.getElem_cons_succ,List.setIfInBounds_toArray,List.set_cons_zero,List.set_cons_succ]
     refine tkA 44 ?_
     refine tkB 45 ?_
     refine tkB 46 ?_
     refine wpAnyH_done (by kernel_rfl) ?_ _
     cases ah
     ·have HF:Hid (clOkB C R S n=false):=clOk_rise (all_noC hlt (by simp [riseAt,HA.out]))
      go_wp2_with fail
      go_ret
      exact⟨ret_bool HF.out.symm,bchain (bchain hbel K3.out) (by go_grown)⟩
     ·have hR:riseAt C R (m+1)=true:=by simp [riseAt,HO.out,HA.out]
      have HI':Hid (∀i,i<m+1+1→riseAt C R i=true∧srcAt S i=true):=fun i hi=>by
       by_cases e:i=m+1
       ·subst e;exact⟨hR,HSK.out⟩
       ·exact HI.out i (by omega)
      clear hR
      go_wp2_with fail
      go_roundw
      case rel=>exact⟨m+1+1,by omega,by go_num,HI'.out,bchain (bchain hbel K3.out) (by go_grown)⟩
      case measure=>simp [intOf];omega
  ·have h1: ¬(k:Int)<(n:Int):=by omega
   obtain rfl:k=n:=by omega
   go_wp2_with fail
   go_ret
   exact⟨ret_bool (clOk_yes (by omega) (all_yesC fun i hi=>(HI.out i hi).1) (all_yesC fun i hi=>(HI.out i hi).2)).symm,hbel⟩
end Go.Proofs.YthpmmfmanaefgaaGreatDoor
