import Derived.Test.YtomadadmakdkgaaGreatDoorGzeA
import Derived.Test.YtomadadmakdkgaaGreatDoorGbg
import Derived.Test.YtomadadmakdkgaaGreatDoorMn
open Go.Proofs.Tryz
open Go renaming wp_region_held_drew → a, wpAnyH_done → f
open Go.Ending renaming returned → c
open Go.RowKit renaming Below → d
open Go.Value renaming string → g, bool → j, tuple → l, int → v, slice → z
open Go.IntKind renaming wrap_i64 → r, i64 → y
open List renaming range → u
set_option linter.unusedSimpArgs false
set_option linter.unusedVariables false
set_option maxHeartbeats 8000000
set_option maxRecDepth 100000
namespace Go.Proofs.YtomadadmakdkgaaGreatDoor
open Go.RowKit
variable {C R:Nat->Int} {S:Nat->ByteArray} {n:Nat}
def Vn(s:ByteArray):Bool:=match inF s with
 | some t=>t.toList==s.toList
 | none=>false
def YA(S:Nat->ByteArray)(i:Nat):Bool:= !(S i).toList.isEmpty&&Vn (S i)
def QA(C R:Nat->Int)(S:Nat->ByteArray)(n:Nat):Bool:=decide (n<=120)&&Gw C R n&&(u n).all (YA S)
theorem Qdb(h:120<n):QA C R S n=false:=by
 have e:decide (n<=120)=false:=by simp;omega
 simp[QA,e]
theorem Mi(h:Gw C R n=false):QA C R S n=false:=by
 simp[QA,h]
theorem KM{k:Nat}(hk:k<n)(h:YA S k=false):QA C R S n=false:=by
 have e:(u n).all (YA S)=false:=UU hk h;simp[QA,e]
theorem Uu(h:n<=120)(hr:Gw C R n=true)(hv:(u n).all (YA S)=true):QA C R S n=true:=by
 simp[QA,h,hr,hv]
theorem JB(s:ByteArray)(w:World)(hs:s.size<=maxLen)(hg:GI w):Calls prog 39 #[g s] w fun e w'=>e= c (j (Vn s))/\d w.heap.size w w':=by
 have HG:Hid (GI w):=hg;clear hg;cases ho:inF s with
 | none=>
  have HO:Hid (inF s=none):=ho;have HB:Hid (Vn s=false):=by show _=_;unfold Vn;rw[ho]
  clear ho;go_enter func39,ntmps39;go_wp2_with fail
  refine(Vk s w hs HG.out).mono ?_;rintro e u1 ⟨he,hb⟩;rw[HO.out]at he;obtain rfl:e= c (l #[g ⟨#[]⟩,j false]):=he;go_wp2_with fail
  go_ret;exact⟨Qc HB.out.symm,hb⟩
 | some t=>
  have HO:Hid (inF s=some t):=ho;have HB:Hid (Vn s=(t.toList==s.toList)):=by show _=_;unfold Vn;rw[ho]
  clear ho;go_enter func39,ntmps39;go_wp2_with fail
  refine(Vk s w hs HG.out).mono ?_;rintro e u1 ⟨he,hb⟩;rw[HO.out]at he;obtain rfl:e= c (l #[g t,j true]):=he;go_wp2_with fail
  go_ret;exact⟨Qc HB.out.symm,hb⟩
theorem YZ{A:Option Addr}{cap:Nat}(w:World)(h:ClRow w A n C R S)(hg:GI w):
  Calls prog 15 #[z A n cap] w fun e w'=>e= c (j (QA C R S n))/\d w.heap.size w w':=by
 have HR:Hid (ClRow w A n C R S):=h;have HG:Hid (GI w):=hg;have hn:=h.1;unfold maxLen at hn;clear h hg;by_cases hbig:(120:Int)<(n:Int)
 ·have HF:Hid (QA C R S n=false):=Qdb (by omega);go_enter func15,ntmps15;go_wp2_with fail
  go_ret;exact⟨Qc HF.out.symm,by go_grown⟩
 cases hrs:Gw C R n
 ·have h3:Hid (Gw C R n=false):=hrs;have HF:Hid (QA C R S n=false):=Mi hrs;clear hrs;go_enter func15,ntmps15;go_wp2_with (go_at_call 37;refine(XW _ HR.out).mono ?_;rintro e w1 ⟨rfl,hb⟩;rw[h3.out])
  go_ret;exact⟨Qc HF.out.symm,by go_grown⟩
 have h3:Hid (Gw C R n=true):=hrs;clear hrs;go_enter func15,ntmps15;go_wp2_with fail
 refine(XW _ HR.out).mono ?_;rintro e w1 ⟨rfl,hb1⟩;rw[h3.out];go_wp2_with fail
 go_loopw [15] (fun i wr=> ∃k:Nat,k<=n/\i= v y k/\(∀i,i<k->YA S i=true)/\d w.heap.size w wr) (fun i _=>n-(intOf i).toNat)
 case atStart=>exact⟨0,Nat.zero_le _,rfl,fun i hi=>by omega,hb1⟩
 case round=>
  clear hb1;obtain⟨k,hk,rfl,hr,h2⟩:=hrel;have HI:Hid (∀i,i<k->YA S i=true):=hr;clear hr;by_cases h4:k<n
  ·obtain⟨b,o,rfl,hl,c0,c1,c2,h5⟩:=HR.out.2 k h4;have HS:Hid ((S k).size<=maxLen):=h5;clear h5;have hs:=h2.size;have h6:=hd (HG.out.below h2);rw[<-h2.cell (p:=⟨_,_,none⟩) hl]at c0 c1 c2;have hl2:b<wr.heap.size:=Nat.lt_of_lt_of_le hl hs
   have h0:(0:Int)<=(k:Int):=by omega
   have h1:(k:Int)<(n:Int):=by omega
   cases he:(S k).toList.isEmpty
   ·cases hv:Vn (S k)
    ·have HV:Hid (Vn (S k)=false):=hv;have HF:Hid (QA C R S n=false):=KM h4 (by simp[YA,hv]);clear hv;go_wp2_with (go_at_call 39;refine(JB _ _ HS.out (h6.out.below (by go_grown))).mono ?_;rintro e w2 ⟨rfl,hb⟩;rw[HV.out];have h7:=Qb (w:=wr) (by go_grown) hb;clear hb)
     go_ret;exact⟨Qc HF.out.symm,Qb h2 (by go_grown)⟩
    ·have HV:Hid (Vn (S k)=true):=hv;have HT:Hid (YA S k=true):=by show _=_;simp[YA,hv,he]
     clear hv;go_wp2_with (go_at_call 39;refine(JB _ _ HS.out (h6.out.below (by go_grown))).mono ?_;rintro e w2 ⟨rfl,hb⟩;rw[HV.out];have h7:=Qb (w:=wr) (by go_grown) hb;clear hb)
     go_roundw
     case rel=>exact⟨k+1,by omega,by go_num,fun i hi=>by
      by_cases e:i=k
      ·subst e;exact HT.out
      ·exact HI.out i (by omega),Qb h2 (by go_grown)⟩
     case measure=>simp[intOf];omega
   ·have HF:Hid (QA C R S n=false):=KM h4 (by simp[YA,he]);go_wp2_with fail
    go_ret;exact⟨Qc HF.out.symm,Qb h2 (by go_grown)⟩
  ·have h1: ¬(k:Int)<(n:Int):=by omega
   obtain rfl:k=n:=by omega
   go_wp2_with fail
   go_ret;exact⟨Qc (Uu (by omega) h3.out (Ux HI.out)).symm,h2⟩
theorem Qiq{o:Option ByteArray}{e:Ending}(h:opA o e): ∃t ok,e= c (l #[g t,j ok]):=by
 cases o with
 | none=>exact⟨_,_,h⟩
 | some t=>exact⟨_,_,h⟩
theorem Ve{A:Option Addr}{cap:Nat}(w:World)(h:ClRow w A n C R S):
  Calls prog 34 #[z A n cap] w fun e w'=>e= c (j (QA C R S n))/\d w.heap.size w w':=by
 have HR:Hid (ClRow w A n C R S):=h;have hn:=h.1;unfold maxLen at hn;clear h;by_cases hbig:(120:Int)<(n:Int)
 ·have HF:Hid (QA C R S n=false):=Qdb (by omega);go_enter func34,ntmps34;go_wp2_with fail
  go_ret;exact⟨Qc HF.out.symm,by go_grown⟩
 go_enter func34,ntmps34;go_wp2_with fail
 go_loopw [3] (fun i wr=> ∃k:Nat,k<=n/\i= v y k/\(∀i,i<k->Zs C R i=true/\YA S i=true)/\d w.heap.size w wr) (fun i _=>n-(intOf i).toNat)
 case atStart=>exact⟨0,Nat.zero_le _,rfl,fun i hi=>by omega,Below.refl _ _⟩
 case round=>
  obtain⟨k,hk,rfl,hr,h2⟩:=hrel;have HI:Hid (∀i,i<k->Zs C R i=true/\YA S i=true):=hr;clear hr;by_cases h5:k<n
  ·obtain⟨b,o,rfl,hl,c0,c1,c2,H1⟩:=HR.out.2 k h5;have HS:Hid ((S k).size<=maxLen):=H1;clear H1;have hs:=h2.size;rw[<-h2.cell (p:=⟨_,_,none⟩) hl]at c0 c1 c2;have h4:b<wr.heap.size:=Nat.lt_of_lt_of_le hl hs;have h0:(0:Int)<=(k:Int):=by omega
   have h1:(k:Int)<(n:Int):=by omega
   cases ho:Qf (C k) (R k)
   ·have HO:Hid (Qf (C k) (R k)=false):=ho;have HF:Hid (QA C R S n=false):=Mi (UU h5 (by simp[Zs,ho]));clear ho;go_wp2_with fail
    refine(ZP (S k) _ HS.out).mono ?_;rintro e w3 ⟨he,hb⟩;obtain⟨txt,ok,rfl⟩:=Qiq he;have K3:Hid (d wr.heap.size wr w3):=hb;rw[<-hb.cell (p:=⟨_,_,none⟩) h4]at c0 c1 c2;have h8:b<w3.heap.size:=Nat.lt_of_lt_of_le h4 hb.size;clear hb he
    go_wp2_with fail
    refine a (S:=(fun w'=>(∀bq oq,bq<w3.heap.size->w'.cell? ⟨bq,oq,none⟩=w3.cell? ⟨bq,oq,none⟩)/\w3.heap.size<=w'.heap.size/\d w3.heap.size w3 w')) (by kernel_rfl) (QE (by go_size) (by go_grown)) (fun hHeld=> ?_);refine tkA 0 ?_;refine tkB 1 ?_;refine tkA 2 ?_;refine tkB 3 ?_;refine tkB 4 ?_;refine rqA 5 (fun Kq hKq=> ?_)
    go_simp
    (refine(Qz _ _ _).mono ?_;rintro e w1 ⟨rfl,hb⟩;rw[HO.out];obtain⟨h3,h7⟩:=Qk (B:=w3.heap.size) (X:=w3) (by go_grown) (by go_size) hb;have hC:=fun b o h=>h3.cell (p:=⟨b,o,none⟩) h;clear hb)
    refine hkB hKq (QE (by go_size) (by go_grown)) fun hHeld=> ?_;clear hKq Kq;refine tkA 6 ?_;refine tkB 7 ?_;refine tnA 8 ?_;refine tnA 9 ?_;refine tkB 10 ?_
    refine tkA 11 ?_;refine tnA 12 ?_;refine tnB 13 ?_;refine tnA 14 ?_;refine tnA 15 ?_;refine tnA 16 ?_;refine tnB 17 ?_
    refine tkA 18 ?_;refine tkB 19 ?_;refine tnA 20 ?_;refine tnA 21 ?_;refine tnA 22 ?_;refine tnB 23 ?_;refine tnA 24 ?_
    refine tnA 25 ?_;refine tnB 26 ?_;refine tkA 27 ?_;refine tkB 28 ?_;refine tnA 29 ?_;refine tnA 30 ?_;refine tnA 31 ?_
    refine tnB 32 ?_;refine tnA 33 ?_;refine tnA 34 ?_;refine tnA 35 ?_;refine tnB 36 ?_;refine tnA 37 ?_;refine tnA 38 ?_
    refine tnA 39 ?_;refine tnB 40 ?_;refine tnA 41 ?_;refine tnA 42 ?_;refine tnA 43 ?_;refine tnB 44 ?_;refine tnA 45 ?_
    refine tkB 46 ?_;refine f (by kernel_rfl) ?_ _;go_wp2_with fail
    go_ret;exact⟨Qc HF.out.symm,Qb (Qb h2 K3.out) (by go_grown)⟩
   have HO:Hid (Qf (C k) (R k)=true):=ho;clear ho;cases hin:inF (S k)with
   | none=>
    have h6:Hid (inF (S k)=none):=hin;have HF:Hid (QA C R S n=false):=KM h5 (by simp[YA,Vn,hin]);clear hin;go_wp2_with fail
    refine(ZP (S k) _ HS.out).mono ?_;rintro e w3 ⟨he,hb⟩;rw[h6.out]at he;obtain rfl:e= c (l #[g ⟨#[]⟩,j false]):=he;have K3:Hid (d wr.heap.size wr w3):=hb;rw[<-hb.cell (p:=⟨_,_,none⟩) h4]at c0 c1 c2;have h8:b<w3.heap.size:=Nat.lt_of_lt_of_le h4 hb.size
    clear hb;go_wp2_with fail
    refine a (S:=(fun w'=>(∀bq oq,bq<w3.heap.size->w'.cell? ⟨bq,oq,none⟩=w3.cell? ⟨bq,oq,none⟩)/\w3.heap.size<=w'.heap.size/\d w3.heap.size w3 w')) (by kernel_rfl) (QE (by go_size) (by go_grown)) (fun hHeld=> ?_);refine tkA 0 ?_;refine tkB 1 ?_;refine tkA 2 ?_;refine tkB 3 ?_;refine tkB 4 ?_;refine rqA 5 (fun Kq hKq=> ?_)
    go_simp
    (refine(Qz _ _ _).mono ?_;rintro e w1 ⟨rfl,hb⟩;rw[HO.out];obtain⟨h3,h7⟩:=Qk (B:=w3.heap.size) (X:=w3) (by go_grown) (by go_size) hb;have hC:=fun b o h=>h3.cell (p:=⟨b,o,none⟩) h;clear hb)
    refine hkB hKq (QE (by go_size) (by go_grown)) fun hHeld=> ?_;clear hKq Kq;refine tkA 6 ?_;refine tkB 7 ?_;refine tkA 8 ?_;refine tkB 9 ?_;refine tkA 10 ?_
    refine tkB 11 ?_;refine tnA 12 ?_;refine tnA 13 ?_;refine tnA 14 ?_;refine tnB 15 ?_;refine tnA 16 ?_;refine tnA 17 ?_
    refine tkB 18 ?_;refine tkA 19 ?_;refine tnA 20 ?_;refine tnB 21 ?_;refine tnA 22 ?_;refine tnA 23 ?_;refine tnA 24 ?_
    refine tnB 25 ?_;refine tnA 26 ?_;refine tkB 27 ?_;refine tkA 28 ?_;refine tnA 29 ?_;refine tnB 30 ?_;refine tnA 31 ?_
    refine tnA 32 ?_;refine tnA 33 ?_;refine tnB 34 ?_;refine tnA 35 ?_;refine tnA 36 ?_;refine tnA 37 ?_;refine tnB 38 ?_
    refine tnA 39 ?_;refine tnA 40 ?_;refine tnA 41 ?_;refine tnB 42 ?_;refine tnA 43 ?_;refine tnA 44 ?_;refine tnB 45 ?_
    refine tkB 46 ?_;refine f (by kernel_rfl) ?_ _;go_wp2_with fail
    go_ret;exact⟨Qc HF.out.symm,Qb (Qb h2 K3.out) (by go_grown)⟩
   | some t=>
    have h6:Hid (inF (S k)=some t):=hin;cases he:(S k).toList.isEmpty
    rotate_left
    ·have HF:Hid (QA C R S n=false):=KM h5 (by simp[YA,he]);clear hin;go_wp2_with fail
     refine(ZP (S k) _ HS.out).mono ?_;rintro e w3 ⟨he,hb⟩;rw[h6.out]at he;obtain rfl:e= c (l #[g t,j true]):=he;have K3:Hid (d wr.heap.size wr w3):=hb;rw[<-hb.cell (p:=⟨_,_,none⟩) h4]at c0 c1 c2;have h8:b<w3.heap.size:=Nat.lt_of_lt_of_le h4 hb.size
     clear hb;go_wp2_with fail
     refine a (S:=(fun w'=>(∀bq oq,bq<w3.heap.size->w'.cell? ⟨bq,oq,none⟩=w3.cell? ⟨bq,oq,none⟩)/\w3.heap.size<=w'.heap.size/\d w3.heap.size w3 w')) (by kernel_rfl) (QE (by go_size) (by go_grown)) (fun hHeld=> ?_);refine tkA 0 ?_;refine tkB 1 ?_;refine tkA 2 ?_;refine tkB 3 ?_;refine tkB 4 ?_;refine rqA 5 (fun Kq hKq=> ?_)
     go_simp
     (refine(Qz _ _ _).mono ?_;rintro e w1 ⟨rfl,hb⟩;rw[HO.out];obtain⟨h3,h7⟩:=Qk (B:=w3.heap.size) (X:=w3) (by go_grown) (by go_size) hb;have hC:=fun b o h=>h3.cell (p:=⟨b,o,none⟩) h;clear hb)
     refine hkB hKq (QE (by go_size) (by go_grown)) fun hHeld=> ?_;clear hKq Kq;refine tkA 6 ?_;refine tkB 7 ?_;refine tkA 8 ?_;refine tkB 9 ?_;refine tkA 10 ?_
     refine tkB 11 ?_;refine tkA 12 ?_;refine tkB 13 ?_;refine tkA 14 ?_;refine tkB 15 ?_;refine tkA 16 ?_;refine tkB 17 ?_
     refine tkA 18 ?_;refine tkB 19 ?_;refine tnA 20 ?_;refine tnA 21 ?_;refine tnA 22 ?_;refine tnB 23 ?_;refine tnA 24 ?_
     refine tnA 25 ?_;refine tnB 26 ?_;refine tkA 27 ?_;refine tkB 28 ?_;refine tnA 29 ?_;refine tnA 30 ?_;refine tnA 31 ?_
     refine tnB 32 ?_;refine tnA 33 ?_;refine tnA 34 ?_;refine tnA 35 ?_;refine tnB 36 ?_;refine tnA 37 ?_;refine tnA 38 ?_
     refine tnA 39 ?_;refine tnB 40 ?_;refine tnA 41 ?_;refine tnA 42 ?_;refine tnA 43 ?_;refine tnB 44 ?_;refine tnA 45 ?_
     refine tkB 46 ?_;refine f (by kernel_rfl) ?_ _;go_wp2_with fail
     go_ret;exact⟨Qc HF.out.symm,Qb (Qb h2 K3.out) (by go_grown)⟩
    cases hq:(t.toList==(S k).toList)
    ·have HF:Hid (QA C R S n=false):=KM h5 (by simp[YA,Vn,hin];intro _;simpa using hq);clear hin;go_wp2_with fail
     refine(ZP (S k) _ HS.out).mono ?_;rintro e w3 ⟨he,hb⟩;rw[h6.out]at he;obtain rfl:e= c (l #[g t,j true]):=he;have K3:Hid (d wr.heap.size wr w3):=hb;rw[<-hb.cell (p:=⟨_,_,none⟩) h4]at c0 c1 c2;have h8:b<w3.heap.size:=Nat.lt_of_lt_of_le h4 hb.size
     clear hb;go_wp2_with fail
     refine a (S:=(fun w'=>(∀bq oq,bq<w3.heap.size->w'.cell? ⟨bq,oq,none⟩=w3.cell? ⟨bq,oq,none⟩)/\w3.heap.size<=w'.heap.size/\d w3.heap.size w3 w')) (by kernel_rfl) (QE (by go_size) (by go_grown)) (fun hHeld=> ?_);refine tkA 0 ?_;refine tkB 1 ?_;refine tkA 2 ?_;refine tkB 3 ?_;refine tkB 4 ?_;refine rqA 5 (fun Kq hKq=> ?_)
     go_simp
     (refine(Qz _ _ _).mono ?_;rintro e w1 ⟨rfl,hb⟩;rw[HO.out];obtain⟨h3,h7⟩:=Qk (B:=w3.heap.size) (X:=w3) (by go_grown) (by go_size) hb;have hC:=fun b o h=>h3.cell (p:=⟨b,o,none⟩) h;clear hb)
     refine hkB hKq (QE (by go_size) (by go_grown)) fun hHeld=> ?_;clear hKq Kq;refine tkA 6 ?_;refine tkB 7 ?_;refine tkA 8 ?_;refine tkB 9 ?_;refine tkA 10 ?_
     refine tkB 11 ?_;refine tkA 12 ?_;refine tkB 13 ?_;refine tkA 14 ?_;refine tkB 15 ?_;refine tkA 16 ?_;refine tkB 17 ?_
     refine tkA 18 ?_;refine tkB 19 ?_;refine tkA 20 ?_;refine tkB 21 ?_;refine tkA 22 ?_;refine tkB 23 ?_;refine tkA 24 ?_
     refine tkB 25 ?_;refine tkA 26 ?_;refine tkB 27 ?_;refine tkA 28 ?_;refine tnA 29 ?_;refine tnB 30 ?_;refine tnA 31 ?_
     refine tnA 32 ?_;refine tnA 33 ?_;refine tnB 34 ?_;refine tnA 35 ?_;refine tnA 36 ?_;refine tnA 37 ?_;refine tnB 38 ?_
     refine tnA 39 ?_;refine tnA 40 ?_;refine tnA 41 ?_;refine tnB 42 ?_;refine tnA 43 ?_;refine tnA 44 ?_;refine tnB 45 ?_
     refine tkB 46 ?_;refine f (by kernel_rfl) ?_ _;go_wp2_with fail
     go_ret;exact⟨Qc HF.out.symm,Qb (Qb h2 K3.out) (by go_grown)⟩
    have h9:Hid (YA S k=true):=by show _=_;unfold YA Vn;rw[hin,he];exact hq
    clear hin;match k,hk,h5,HI,HO,HS,h6,h9,he,hq,c0,c1,c2,h0,h1 with
    | 0,hk,h5,HI,HO,HS,h6,h9,he,hq,c0,c1,c2,h0,h1=>
     have hR:Zs C R 0=true:=by simp[Zs,HO.out]
     have H0:Hid (∀i,i<0+1->Zs C R i=true/\YA S i=true):=fun i hi=>by rw[show i=0 by omega];exact⟨hR,h9.out⟩
     simp only[Nat.zero_mul,Nat.add_zero]at c0 c1 c2;clear hR;go_wp2_with fail
     refine(ZP (S 0) _ HS.out).mono ?_;rintro e w3 ⟨he,hb⟩;rw[h6.out]at he;obtain rfl:e= c (l #[g t,j true]):=he;have K3:Hid (d wr.heap.size wr w3):=hb;rw[<-hb.cell (p:=⟨_,_,none⟩) h4]at c0 c1 c2;have h8:b<w3.heap.size:=Nat.lt_of_lt_of_le h4 hb.size
     clear hb;go_wp2_with fail
     refine a (S:=(fun w'=>(∀bq oq,bq<w3.heap.size->w'.cell? ⟨bq,oq,none⟩=w3.cell? ⟨bq,oq,none⟩)/\w3.heap.size<=w'.heap.size/\d w3.heap.size w3 w')) (by kernel_rfl) (QE (by go_size) (by go_grown)) (fun hHeld=> ?_);refine tkA 0 ?_;refine tkB 1 ?_;refine tkA 2 ?_;refine tkB 3 ?_;refine tkB 4 ?_;refine rqA 5 (fun Kq hKq=> ?_)
     go_simp
     (refine(Qz _ _ _).mono ?_;rintro e w1 ⟨rfl,hb⟩;rw[HO.out];obtain⟨h3,h7⟩:=Qk (B:=w3.heap.size) (X:=w3) (by go_grown) (by go_size) hb;have hC:=fun b o h=>h3.cell (p:=⟨b,o,none⟩) h;clear hb)
     refine hkB hKq (QE (by go_size) (by go_grown)) fun hHeld=> ?_;clear hKq Kq;refine tkA 6 ?_;refine tkB 7 ?_;refine tkA 8 ?_;refine tkB 9 ?_;refine tkA 10 ?_
     refine tkB 11 ?_;refine tkA 12 ?_;refine tkB 13 ?_;refine tkA 14 ?_;refine tkB 15 ?_;refine tkA 16 ?_;refine tkB 17 ?_
     refine tkA 18 ?_;refine tkB 19 ?_;refine tkA 20 ?_;refine tkB 21 ?_;refine tkA 22 ?_;refine tkB 23 ?_;refine tkA 24 ?_
     refine tkB 25 ?_;refine tkA 26 ?_;refine tkB 27 ?_;refine tkA 28 ?_;refine tkB 29 ?_;refine tkA 30 ?_;refine tkB 31 ?_
     refine tnA 32 ?_;refine tnA 33 ?_;refine tnA 34 ?_;refine tnB 35 ?_;refine tnA 36 ?_;refine tnA 37 ?_;refine tnA 38 ?_
     refine tnB 39 ?_;refine tnA 40 ?_;refine tnA 41 ?_;refine tnA 42 ?_;refine tnB 43 ?_;refine tnA 44 ?_;refine tkB 45 ?_
     refine tkB 46 ?_;refine f (by kernel_rfl) ?_ _;go_wp2_with fail
     go_roundw
     case rel=>exact⟨0+1,by omega,by go_num,H0.out,Qb (Qb h2 K3.out) (by go_grown)⟩
     case measure=>simp[intOf];omega
    | m+1,hk,h5,HI,HO,HS,h6,h9,he,hq,c0,c1,c2,h0,h1=>
     obtain⟨b',o',e',_,d0,d1,d2,_⟩:=HR.out.2 m (by omega);cases e'
     rw[<-h2.cell (p:=⟨_,_,none⟩) hl]at d0 d1 d2;have p0:(0:Int)<=(m:Int):=by omega
     have p1:(m:Int)<(n:Int):=by omega
     have p4:(0:Int)<=(m:Int)+1:=by omega
     have p5:(m:Int)+1<(n:Int):=by omega
     have p2:IntKind.i64.wrap (m:Int)=(m:Int):=by rw[r];omega
     have p3:IntKind.i64.wrap ((m:Int)+1-1)=(m:Int):=by rw[r];omega
     obtain⟨ah,HA⟩: ∃x,Hid (YL (C m) (R m) (C (m+1)) (R (m+1))=x):=⟨_,rfl⟩;go_wp2_with fail
     refine(ZP (S (m+1)) _ HS.out).mono ?_;rintro e w3 ⟨he,hb⟩;rw[h6.out]at he;obtain rfl:e= c (l #[g t,j true]):=he;have K3:Hid (d wr.heap.size wr w3):=hb;rw[<-hb.cell (p:=⟨_,_,none⟩) h4]at c0 c1 c2 d0 d1 d2;have h8:b<w3.heap.size:=Nat.lt_of_lt_of_le h4 hb.size
     clear hb;go_wp2_with fail
     refine a (S:=(fun w'=>(∀bq oq,bq<w3.heap.size->w'.cell? ⟨bq,oq,none⟩=w3.cell? ⟨bq,oq,none⟩)/\w3.heap.size<=w'.heap.size/\d w3.heap.size w3 w')) (by kernel_rfl) (QE (by go_size) (by go_grown)) (fun hHeld=> ?_);refine tkA 0 ?_;refine tkB 1 ?_;refine tkA 2 ?_;refine tkB 3 ?_;refine tkB 4 ?_;refine rqA 5 (fun Kq hKq=> ?_)
     go_simp
     (refine(Qz _ _ _).mono ?_;rintro e w1 ⟨rfl,hb⟩;rw[HO.out];obtain⟨h3,h7⟩:=Qk (B:=w3.heap.size) (X:=w3) (by go_grown) (by go_size) hb;have hC:=fun b o h=>h3.cell (p:=⟨b,o,none⟩) h;clear hb)
     refine hkB hKq (QE (by go_size) (by go_grown)) fun hHeld=> ?_;clear hKq Kq;refine tkA 6 ?_;refine tkB 7 ?_;refine tkA 8 ?_;refine tkB 9 ?_;refine tkA 10 ?_
     refine tkB 11 ?_;refine tkA 12 ?_;refine tkB 13 ?_;refine tkA 14 ?_;refine tkB 15 ?_;refine tkA 16 ?_;refine tkB 17 ?_
     refine tkA 18 ?_;refine tkB 19 ?_;refine tkA 20 ?_;refine tkB 21 ?_;refine tkA 22 ?_;refine tkB 23 ?_;refine tkA 24 ?_
     refine tkB 25 ?_;refine tkA 26 ?_;refine tkB 27 ?_;refine tkA 28 ?_;refine tkB 29 ?_;refine tkA 30 ?_;refine tkB 31 ?_
     refine tkA 32 ?_;refine tkB 33 ?_;refine tkA 34 ?_;refine tkB 35 ?_;refine tkA 36 ?_;refine tkB 37 ?_;refine tkA 38 ?_
     refine tkB 39 ?_;refine tkA 40 ?_;refine tkB 41 ?_;refine tkB 42 ?_;refine rqA 43 (fun Kq hKq=> ?_);go_simp
     (refine(GQ _ _ _ _ _).mono ?_;rintro e w1 ⟨rfl,hb⟩;rw[HA.out];obtain⟨h3,h7⟩:=Qk (B:=w3.heap.size) (X:=w3) (by go_grown) (by go_size) hb;have hC:=fun b o h=>h3.cell (p:=⟨b,o,none⟩) h;clear hb)
     refine hkB hKq (QE (by go_size) (by go_grown)) fun hHeld=> ?_;clear hKq Kq;refine tkA 44 ?_;refine tkB 45 ?_;refine tkB 46 ?_;refine f (by kernel_rfl) ?_ _;cases ah
     ·have HF:Hid (QA C R S n=false):=Mi (UU h5 (by simp[Zs,HA.out]));go_wp2_with fail
      go_ret;exact⟨Qc HF.out.symm,Qb (Qb h2 K3.out) (by go_grown)⟩
     ·have hR:Zs C R (m+1)=true:=by simp[Zs,HO.out,HA.out]
      have H0:Hid (∀i,i<m+1+1->Zs C R i=true/\YA S i=true):=fun i hi=>by
       by_cases e:i=m+1
       ·subst e;exact⟨hR,h9.out⟩
       ·exact HI.out i (by omega)
      clear hR;go_wp2_with fail
      go_roundw
      case rel=>exact⟨m+1+1,by omega,by go_num,H0.out,Qb (Qb h2 K3.out) (by go_grown)⟩
      case measure=>simp[intOf];omega
  ·have h1: ¬(k:Int)<(n:Int):=by omega
   obtain rfl:k=n:=by omega
   go_wp2_with fail
   go_ret;exact⟨Qc (Uu (by omega) (Ux fun i hi=>(HI.out i hi).1) (Ux fun i hi=>(HI.out i hi).2)).symm,h2⟩
end Go.Proofs.YtomadadmakdkgaaGreatDoor
