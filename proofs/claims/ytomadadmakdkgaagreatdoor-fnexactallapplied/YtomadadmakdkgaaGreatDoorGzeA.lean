import Derived.Test.YtomadadmakdkgaaGreatDoorGzj
import Derived.Test.YtomadadmakdkgaaGreatDoorGaa
import Derived.Test.YtomadadmakdkgaaGreatDoorGad
import Derived.Test.YtomadadmakdkgaaGreatDoorMn
open Go.Proofs.Tryz
open Go.Value renaming int → a, string → l, slice → G, agg → H, bool → I
open Go.IntKind renaming i64 → d, wrap_i64 → E
open Go.Obj renaming cells → t
open Go.RowKit renaming Below → u
open Go renaming World → v, wp_region_held_drew → z
open List renaming range → x, mem_range → F
open Go.RowKit.Below renaming mono → y
open Go.Ending renaming returned → D
set_option linter.unusedSimpArgs false
set_option linter.unusedVariables false
set_option maxHeartbeats 4000000
set_option maxRecDepth 100000
namespace Go.Proofs.YtomadadmakdkgaaGreatDoor
open Go.RowKit
variable {A:Option Addr} {n cap:Nat} {C R:Nat->Int} {S:Nat->ByteArray}
def ClRow(W:v)(A:Option Addr)(n:Nat)(C R:Nat->Int)(S:Nat->ByteArray):Prop:=
 n<=maxLen/\ ∀i,i<n-> ∃b o,A=some ⟨b,o,none⟩/\b<W.heap.size/\W.cell? ⟨b,o+i*3,none⟩=some (a d (C i))/\W.cell? ⟨b,o+i*3+1,none⟩=some (a d (R i))/\
  W.cell? ⟨b,o+i*3+2,none⟩=some (l (S i))/\(S i).size<=maxLen
theorem ClRow.below{W W':v}(h:ClRow W A n C R S)(hb:u W.heap.size W W'):ClRow W' A n C R S:=
 ⟨h.1,fun i hi=>by
  obtain⟨b,o,e,hl,c0,c1,c2,hs⟩:=h.2 i hi
  exact⟨b,o,e,Nat.lt_of_lt_of_le hl hb.size,(hb.cell (p:=⟨b,_,none⟩) hl).trans c0,(hb.cell (p:=⟨b,_,none⟩) hl).trans c1,(hb.cell (p:=⟨b,_,none⟩) hl).trans c2,hs⟩⟩
def clX(C R:Nat->Int)(S:Nat->ByteArray)(m:Nat):List Value:=(x m).flatMap fun i=> [a d (C i),a d (R i),l (S i)]
theorem Df(C R:Nat->Int)(S:Nat->ByteArray)(m:Nat):clX C R S (m+1)=clX C R S m++ [a d (C m),a d (R m),l (S m)]:=by
 simp[clX,List.range_succ,List.flatMap_append]
theorem Qr7(C R:Nat->Int)(S:Nat->ByteArray)(m:Nat):(clX C R S m).length=m*3:=by
 induction m with
 | zero=>rfl
 | succ m ih=>rw[Df,List.length_append,ih];simp;omega
theorem Qfl(C R:Nat->Int)(S:Nat->ByteArray)(m i j:Nat)(hi:i<m)(hj:j<3):
  (clX C R S m)[i*3+j]? = [Value.int .i64 (C i),a d (R i),l (S i)][j]?:=by
 induction m with
 | zero=>omega
 | succ m ih=>
  rw[Df];have hl:=Qr7 C R S m;by_cases h:i<m
  ·rw[List.getElem?_append_left (by omega)];exact ih h
  ·obtain rfl:i=m:=by omega
   rw[List.getElem?_append_right (by omega),hl];congr 1
   omega
theorem Qn3:(prog.info? 70).map (fun i=>(i.zero,i.size,i.bytes))=some (some (H #[a d 0,a d 0,l ⟨#[]⟩]),3,32):=by kernel_rfl
theorem Qjj{W:v}{B:Nat}(h:W.ownsRow B 70 3 (G A n cap) n (clX C R S n))(hs: ∀i,i<n->(S i).size<=maxLen):ClRow W A n C R S:=by
 obtain⟨A',cap',e,hn,hc⟩:=Qr h;cases e
 refine⟨hn,fun i hi=> ?_⟩;obtain⟨g,rfl,_,hl,c0,_⟩:=hc (i*3) (by omega);obtain⟨g1,e1,_,_,c1,_⟩:=hc (i*3+1) (by omega);obtain⟨g2,e2,_,_,c2,_⟩:=hc (i*3+2) (by omega);cases e1
 cases e2
 refine⟨g,0,rfl,hl,?_,?_,?_,hs i hi⟩
 ·rw[Nat.zero_add,c0];exact Qfl C R S n i 0 hi (by omega)
 ·rw[Nat.zero_add,c1];exact Qfl C R S n i 1 hi (by omega)
 ·rw[Nat.zero_add,c2];exact Qfl C R S n i 2 hi (by omega)
theorem Qbz(c r:Int)(s:ByteArray)(w:v):Calls prog 48 #[H #[a d c,a d r,l s],H #[a d c,a d r,l s]] w fun e w'=>
  e= D (I true)/\u w.heap.size w w':=by
 go_enter func48,ntmps48
 go_wp2_with (first
  | (go_at_call 76;refine(Qef _ _ _).mono ?_;rintro e w1 ⟨rfl,hb⟩;obtain⟨hc,hf,hC,hF,hz,hk,l0,l1⟩:=bk2 (w:=w) hb;clear hb))
 go_ret;exact⟨rfl,by go_grown⟩
theorem YS(c r:Int)(s:ByteArray)(w:v):Calls prog 38 #[H #[a d c,a d r,l s]] w fun e w'=>
  e= D (H #[a d c,a d r])/\u w.heap.size w w':=by
 go_enter func38,ntmps38;go_wp2
 go_returns
 exact⟨rfl,by go_grown⟩
theorem Ey{A':Option Addr}{cap':Nat}(w:v)(h:ClRow w A n C R S)(h':ClRow w A' n C R S):
  Calls prog 22 #[G A n cap,G A' n cap'] w fun e w'=>e= D (I true)/\u w.heap.size w w':=by
 have HR:Hid (ClRow w A n C R S):=h;have h4:Hid (ClRow w A' n C R S):=h';have hn:=h.1;unfold maxLen at hn;clear h h';go_enter func22,ntmps22;go_wp2_with fail
 go_loopw [5] (fun i wr=> ∃k:Nat,k<=n/\i= a d k/\u w.heap.size w wr) (fun i _=>n-(intOf i).toNat)
 case atStart=>exact⟨0,Nat.zero_le _,rfl,Below.refl _ _⟩
 case round=>
  obtain⟨k,hk,rfl,h2⟩:=hrel;by_cases h3:k<n
  ·obtain⟨b,o,rfl,hl,c0,c1,c2,hs⟩:=HR.out.2 k h3;obtain⟨b',o',rfl,hl',c0',c1',c2',_⟩:=h4.out.2 k h3;have hs:=h2.size;have hW:=fun b o h=>h2.cell (p:=⟨b,o,none⟩) h;have h0:(0:Int)<=(k:Int):=by omega
   have h1:(k:Int)<(n:Int):=by omega
   go_wp2_with fail
   go_region_held3 (fun w'=>(∀bq oq,bq<w.heap.size->w'.cell? ⟨bq,oq,none⟩=w.cell? ⟨bq,oq,none⟩)/\w.heap.size<=w'.heap.size/\u w.heap.size w w')
    (exact QE (Nat.le_refl _) (by go_grown))
    (first
    | (go_at_call 48;refine(Qbz (C k) (R k) (S k) _).mono ?_;rintro e w1 ⟨rfl,hb⟩;obtain⟨hk1,hz1⟩:=Qk (B:=w.heap.size) (X:=w) (by go_grown) (by go_size) hb;clear hb))
   all_goals go_wp2_with fail
   all_goals
    go_roundw
    case rel=>exact⟨k+1,by omega,by go_num,by go_grown⟩
    case measure=>simp[intOf];omega
  ·have h1: ¬(k:Int)<(n:Int):=by omega
   go_wp2_with fail
   go_ret;exact⟨rfl,h2⟩
def Zs(C R:Nat->Int)(i:Nat):Bool:=Qf (C i) (R i)&&(decide (i=0) || YL (C (i-1)) (R (i-1)) (C i) (R i))
def Gw(C R:Nat->Int)(n:Nat):Bool:=(x n).all (Zs C R)
theorem Qj6{w X w':v}(h0:u w.heap.size w X)(h:u (w.heap.size+n) X w'):u w.heap.size w w':=h0.trans (h.mono (Nat.le_add_right _ _))
theorem UU{f:Nat->Bool}{k:Nat}(hk:k<n)(h:f k=false):(x n).all f=false:=by
 rw[List.all_eq_false];exact⟨k,F.2 hk,by simp[h]⟩
theorem Ux{f:Nat->Bool}(h: ∀i,i<n->f i=true):(x n).all f=true:=by
 rw[List.all_eq_true];exact fun i hi=>h i (F.1 hi)
theorem XW(w:v)(h:ClRow w A n C R S):
  Calls prog 37 #[G A n cap,.func (.func 38) #[] #[]] w fun e w'=>e= D (I (Gw C R n))/\u w.heap.size w w':=by
 have HR:Hid (ClRow w A n C R S):=h;have hn:=h.1;unfold maxLen at hn;clear h;go_enter func37,ntmps37;go_wp2_with fail
 go_loopw [9] (fun i wr=> ∃k:Nat,k<=n/\i= a d k/\(∀i,i<k->Zs C R i=true)/\u w.heap.size w wr) (fun i _=>n-(intOf i).toNat)
 case atStart=>exact⟨0,Nat.zero_le _,rfl,fun i hi=>by omega,Below.refl _ _⟩
 case round=>
  obtain⟨k,hk,rfl,hr,h3⟩:=hrel;have HI:Hid (∀i,i<k->Zs C R i=true):=hr;clear hr;by_cases h5:k<n
  ·obtain⟨b,o,rfl,hl,c0,c1,c2,_⟩:=HR.out.2 k h5;have hs:=h3.size;rw[<-h3.cell (p:=⟨_,_,none⟩) hl]at c0 c1 c2;have h7:b<wr.heap.size:=Nat.lt_of_lt_of_le hl hs;have hl3:b<wr.heap.size+1:=Nat.lt_succ_of_lt h7;have h0:(0:Int)<=(k:Int):=by omega
   have h1:(k:Int)<(n:Int):=by omega
   cases ho:Qf (C k) (R k)
   ·have HO:Hid (Qf (C k) (R k)=false):=ho;have HF:Hid (Gw C R n=false):=UU h5 (by simp[Zs,ho]);clear ho;go_wp2_with fail
    refine z (S:=(fun w'=>(∀bq oq,bq<wr.heap.size+1->w'.cell? ⟨bq,oq,none⟩=(wr.alloc (t #[a d (C k),a d (R k),l (S k)] 70)).cell? ⟨bq,oq,none⟩)/\wr.heap.size+1<=w'.heap.size/\u (wr.heap.size+1) (wr.alloc (t #[a d (C k),a d (R k),l (S k)] 70)) w')) (by kernel_rfl) (QE (by go_size) (by go_grown)) (fun hHeld=> ?_);refine tkA 0 ?_;refine tkB 1 ?_;refine rqA 2 (fun Kq hKq=> ?_);go_simp
    (refine(YS _ _ _ _).mono ?_;rintro e w1 ⟨rfl,hb⟩;obtain⟨h2,h4⟩:=Qk (B:=wr.heap.size+1) (X:=(wr.alloc (t #[a d (C k),a d (R k),l (S k)] 70))) (by go_grown) (by go_size) hb;have hC:=fun b o h=>h2.cell (p:=⟨b,o,none⟩) h;clear hb)
    refine hkB hKq (QE (by go_size) (by go_grown)) fun hHeld=> ?_;clear hKq Kq;refine rqA 3 (fun Kq hKq=> ?_);go_simp
    (refine(Zu _ _ _).mono ?_;rintro e w1 ⟨rfl,hb⟩;rw[HO.out];obtain⟨h2,h4⟩:=Qk (B:=wr.heap.size+1) (X:=(wr.alloc (t #[a d (C k),a d (R k),l (S k)] 70))) (by go_grown) (by go_size) hb;have hC:=fun b o h=>h2.cell (p:=⟨b,o,none⟩) h;clear hb)
    refine hkB hKq (QE (by go_size) (by go_grown)) fun hHeld=> ?_;clear hKq Kq;refine tkA 4 ?_;refine tkB 5 ?_;refine tnA 6 ?_;refine tnB 7 ?_;refine tnA 8 ?_
    refine tnB 9 ?_;refine tnA 10 ?_;refine tnB 11 ?_;refine tnA 12 ?_;refine tnB 13 ?_;refine tnA 14 ?_;refine tnB 15 ?_
    refine tnA 16 ?_;refine tnB 17 ?_;refine tnA 18 ?_;refine tnB 19 ?_;refine tnA 20 ?_;refine tnB 21 ?_;refine tkB 22 ?_
    refine wpAnyH_done (by kernel_rfl) ?_ _;all_goals go_wp2_with fail
    all_goals
     go_ret;exact⟨Qc HF.out.symm,(h3.trans (y (Qj6 (n:=1) (X:=(wr.alloc (t #[a d (C k),a d (R k),l (S k)] 70))) (by go_grown) (by go_grown)) hs))⟩
   have HO:Hid (Qf (C k) (R k)=true):=ho;clear ho;match k,hk,h5,HI,HO,c0,c1,c2,h0,h1 with
   | 0,hk,h5,HI,HO,c0,c1,c2,h0,h1=>
    have hR:Zs C R 0=true:=by simp[Zs,HO.out]
    have h6:Hid (∀i,i<0+1->Zs C R i=true):=fun i hi=>by rw[show i=0 by omega];exact hR
    simp only[Nat.zero_mul,Nat.add_zero]at c0 c1 c2;clear hR;go_wp2_with fail
    refine z (S:=(fun w'=>(∀bq oq,bq<wr.heap.size+1->w'.cell? ⟨bq,oq,none⟩=(wr.alloc (t #[a d (C 0),a d (R 0),l (S 0)] 70)).cell? ⟨bq,oq,none⟩)/\wr.heap.size+1<=w'.heap.size/\u (wr.heap.size+1) (wr.alloc (t #[a d (C 0),a d (R 0),l (S 0)] 70)) w')) (by kernel_rfl) (QE (by go_size) (by go_grown)) (fun hHeld=> ?_);refine tkA 0 ?_;refine tkB 1 ?_;refine rqA 2 (fun Kq hKq=> ?_);go_simp
    (refine(YS _ _ _ _).mono ?_;rintro e w1 ⟨rfl,hb⟩;obtain⟨h2,h4⟩:=Qk (B:=wr.heap.size+1) (X:=(wr.alloc (t #[a d (C 0),a d (R 0),l (S 0)] 70))) (by go_grown) (by go_size) hb;have hC:=fun b o h=>h2.cell (p:=⟨b,o,none⟩) h;clear hb)
    refine hkB hKq (QE (by go_size) (by go_grown)) fun hHeld=> ?_;clear hKq Kq;refine rqA 3 (fun Kq hKq=> ?_);go_simp
    (refine(Zu _ _ _).mono ?_;rintro e w1 ⟨rfl,hb⟩;rw[HO.out];obtain⟨h2,h4⟩:=Qk (B:=wr.heap.size+1) (X:=(wr.alloc (t #[a d (C 0),a d (R 0),l (S 0)] 70))) (by go_grown) (by go_size) hb;have hC:=fun b o h=>h2.cell (p:=⟨b,o,none⟩) h;clear hb)
    refine hkB hKq (QE (by go_size) (by go_grown)) fun hHeld=> ?_;clear hKq Kq;refine tkA 4 ?_;refine tkB 5 ?_;refine tkA 6 ?_;refine tkB 7 ?_;refine tkA 8 ?_
    refine tnB 9 ?_;refine tnA 10 ?_;refine tnB 11 ?_;refine tnA 12 ?_;refine tnB 13 ?_;refine tnA 14 ?_;refine tnB 15 ?_
    refine tnA 16 ?_;refine tnB 17 ?_;refine tnA 18 ?_;refine tnB 19 ?_;refine tnA 20 ?_;refine tkB 21 ?_;refine tkB 22 ?_
    refine wpAnyH_done (by kernel_rfl) ?_ _;all_goals go_wp2_with fail
    all_goals
     go_roundw
     case rel=>exact⟨0+1,by omega,by go_num,h6.out,(h3.trans (y (Qj6 (n:=1) (X:=(wr.alloc (t #[a d (C 0),a d (R 0),l (S 0)] 70))) (by go_grown) (by go_grown)) hs))⟩
     case measure=>simp[intOf];omega
   | m+1,hk,h5,HI,HO,c0,c1,c2,h0,h1=>
    obtain⟨b',o',e',_,d0,d1,d2,_⟩:=HR.out.2 m (by omega);cases e'
    rw[<-h3.cell (p:=⟨_,_,none⟩) hl]at d0 d1 d2;have p0:(0:Int)<=(m:Int):=by omega
    have p1:(m:Int)<(n:Int):=by omega
    have p2:IntKind.i64.wrap (m:Int)=(m:Int):=by rw[E];omega
    have p3:IntKind.i64.wrap ((m:Int)+1-1)=(m:Int):=by rw[E];omega
    cases ha:YL (C m) (R m) (C (m+1)) (R (m+1))
    ·have HA:Hid (0<=Qe1 (C m) (R m) (C (m+1)) (R (m+1))):=(GE _ _ _ _).2 ha;have hA:=HA.out;have HF:Hid (Gw C R n=false):=UU h5 (by simp[Zs,ha]);clear ha;go_wp2_with fail
     go_region_held3 (fun w'=>(∀bq oq,bq<wr.heap.size+1->w'.cell? ⟨bq,oq,none⟩=(wr.alloc (t #[a d (C (m+1)),a d (R (m+1)),l (S (m+1))] 70)).cell? ⟨bq,oq,none⟩)/\wr.heap.size+1<=w'.heap.size/\u (wr.heap.size+1) (wr.alloc (t #[a d (C (m+1)),a d (R (m+1)),l (S (m+1))] 70)) w')
      (exact QE (by go_size) (by go_grown))
      (first
      | (go_at_call 38;refine(YS _ _ _ _).mono ?_;rintro e w1 ⟨rfl,hb⟩;obtain⟨h2,h4⟩:=Qk (B:=wr.heap.size+1) (X:=(wr.alloc (t #[a d (C (m+1)),a d (R (m+1)),l (S (m+1))] 70))) (by go_grown) (by go_size) hb;have hC:=fun b o h=>h2.cell (p:=⟨b,o,none⟩) h;clear hb)
      | (go_at_call 67;refine(Zu _ _ _).mono ?_;rintro e w1 ⟨rfl,hb⟩;rw[HO.out];obtain⟨h2,h4⟩:=Qk (B:=wr.heap.size+1) (X:=(wr.alloc (t #[a d (C (m+1)),a d (R (m+1)),l (S (m+1))] 70))) (by go_grown) (by go_size) hb;have hC:=fun b o h=>h2.cell (p:=⟨b,o,none⟩) h;clear hb)
      | (go_at_call 68;refine(JC _ _ _ _ _).mono ?_;rintro e w1 ⟨rfl,hb⟩;obtain⟨h2,h4⟩:=Qk (B:=wr.heap.size+1) (X:=(wr.alloc (t #[a d (C (m+1)),a d (R (m+1)),l (S (m+1))] 70))) (by go_grown) (by go_size) hb;have hC:=fun b o h=>h2.cell (p:=⟨b,o,none⟩) h;clear hb))
     all_goals go_wp2_with fail
     all_goals
      go_ret;exact⟨Qc HF.out.symm,(h3.trans (y (Qj6 (n:=1) (X:=(wr.alloc (t #[a d (C (m+1)),a d (R (m+1)),l (S (m+1))] 70))) (by go_grown) (by go_grown)) hs))⟩
    ·have hA: ¬0<=Qe1 (C m) (R m) (C (m+1)) (R (m+1)):=fun h=>by rw[(GE _ _ _ _).1 h]at ha;cases ha
     have hR:Zs C R (m+1)=true:=by simp[Zs,HO.out,ha]
     have h6:Hid (∀i,i<m+1+1->Zs C R i=true):=fun i hi=>by
      by_cases e:i=m+1
      ·subst e;exact hR
      ·exact HI.out i (by omega)
     clear ha hR;go_wp2_with fail
     go_region_held3 (fun w'=>(∀bq oq,bq<wr.heap.size+1->w'.cell? ⟨bq,oq,none⟩=(wr.alloc (t #[a d (C (m+1)),a d (R (m+1)),l (S (m+1))] 70)).cell? ⟨bq,oq,none⟩)/\wr.heap.size+1<=w'.heap.size/\u (wr.heap.size+1) (wr.alloc (t #[a d (C (m+1)),a d (R (m+1)),l (S (m+1))] 70)) w')
      (exact QE (by go_size) (by go_grown))
      (first
      | (go_at_call 38;refine(YS _ _ _ _).mono ?_;rintro e w1 ⟨rfl,hb⟩;obtain⟨h2,h4⟩:=Qk (B:=wr.heap.size+1) (X:=(wr.alloc (t #[a d (C (m+1)),a d (R (m+1)),l (S (m+1))] 70))) (by go_grown) (by go_size) hb;have hC:=fun b o h=>h2.cell (p:=⟨b,o,none⟩) h;clear hb)
      | (go_at_call 67;refine(Zu _ _ _).mono ?_;rintro e w1 ⟨rfl,hb⟩;rw[HO.out];obtain⟨h2,h4⟩:=Qk (B:=wr.heap.size+1) (X:=(wr.alloc (t #[a d (C (m+1)),a d (R (m+1)),l (S (m+1))] 70))) (by go_grown) (by go_size) hb;have hC:=fun b o h=>h2.cell (p:=⟨b,o,none⟩) h;clear hb)
      | (go_at_call 68;refine(JC _ _ _ _ _).mono ?_;rintro e w1 ⟨rfl,hb⟩;obtain⟨h2,h4⟩:=Qk (B:=wr.heap.size+1) (X:=(wr.alloc (t #[a d (C (m+1)),a d (R (m+1)),l (S (m+1))] 70))) (by go_grown) (by go_size) hb;have hC:=fun b o h=>h2.cell (p:=⟨b,o,none⟩) h;clear hb))
     all_goals go_wp2_with fail
     all_goals
      go_roundw
      case rel=>exact⟨m+1+1,by omega,by go_num,h6.out,(h3.trans (y (Qj6 (n:=1) (X:=(wr.alloc (t #[a d (C (m+1)),a d (R (m+1)),l (S (m+1))] 70))) (by go_grown) (by go_grown)) hs))⟩
      case measure=>simp[intOf];omega
  ·have h1: ¬(k:Int)<(n:Int):=by omega
   obtain rfl:k=n:=by omega
   go_wp2_with fail
   go_ret;exact⟨Qc (Ux HI.out).symm,h3⟩
end Go.Proofs.YtomadadmakdkgaaGreatDoor
