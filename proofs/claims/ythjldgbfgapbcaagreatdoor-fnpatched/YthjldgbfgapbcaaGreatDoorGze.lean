import Derived.Test.YthjldgbfgapbcaaGreatDoorGzeA
import Derived.Test.YthjldgbfgapbcaaGreatDoorGbg
import Derived.Test.YthjldgbfgapbcaaGreatDoorMn
set_option linter.unusedSimpArgs false
set_option linter.unusedVariables false
set_option maxHeartbeats 8000000
set_option maxRecDepth 100000
namespace Go.Proofs.YthjldgbfgapbcaaGreatDoor
open Go.RowKit
def YQ (s:ByteArray):Bool:=match inF s with
 | some t=>t.toList==s.toList
 | none=>false
def Yz (S:Nat→ByteArray) (i:Nat):Bool:= !(S i).toList.isEmpty&&YQ (S i)
def Qm (C R:Nat→Int) (S:Nat→ByteArray) (n:Nat):Bool:=decide (n≤120)&&Jd C R n&&(List.range n).all (Yz S)
theorem Qa2 {C R:Nat→Int} {S:Nat→ByteArray} {n:Nat} (h:120<n):Qm C R S n=false:=by
 have e:decide (n≤120)=false:=by simp;omega
 simp [Qm,e]
theorem Uh {C R:Nat→Int} {S:Nat→ByteArray} {n:Nat} (h:Jd C R n=false):Qm C R S n=false:=by
 simp [Qm,h]
theorem Vv {C R:Nat→Int} {S:Nat→ByteArray} {n k:Nat} (hk:k<n) (h:Yz S k=false):Qm C R S n=false:=by
 have e:(List.range n).all (Yz S)=false:=GS hk h;simp [Qm,e]
theorem Nm {C R:Nat→Int} {S:Nat→ByteArray} {n:Nat} (h:n≤120) (hr:Jd C R n=true) (hv:(List.range n).all (Yz S)=true):Qm C R S n=true:=by
 simp [Qm,h,hr,hv]
theorem Zq (s:ByteArray) (w:World) (hs:s.size≤maxLen) (hg:GI w):Calls Tryz.prog 34 #[.string s] w fun e w'=>e= .returned (.bool (YQ s))∧Below w.heap.size w w':=by
 have HG:Hid (GI w):=hg;clear hg;cases ho:inF s with
 | none=>
  have HO:Hid (inF s=none):=ho;have HB:Hid (YQ s=false):=by show _=_;unfold YQ;rw [ho]
  clear ho;go_enter Tryz.func34,Tryz.ntmps34;go_wp2_with fail
  refine(Hn s w hs HG.out).mono ?_;rintro e u1 ⟨he,hb⟩;rw [HO.out]at he;obtain rfl:e= .returned (.tuple #[.string ⟨#[]⟩,.bool false]):=he;go_wp2_with fail
  go_ret;exact⟨Qc HB.out.symm,hb⟩
 | some t=>
  have HO:Hid (inF s=some t):=ho;have HB:Hid (YQ s=(t.toList==s.toList)):=by show _=_;unfold YQ;rw [ho]
  clear ho;go_enter Tryz.func34,Tryz.ntmps34;go_wp2_with fail
  refine(Hn s w hs HG.out).mono ?_;rintro e u1 ⟨he,hb⟩;rw [HO.out]at he;obtain rfl:e= .returned (.tuple #[.string t,.bool true]):=he;go_wp2_with fail
  go_ret;exact⟨Qc HB.out.symm,hb⟩
theorem Zk {A:Option Addr} {n cap:Nat} {C R:Nat→Int} {S:Nat→ByteArray} (w:World) (h:ClRow w A n C R S) (hg:GI w):
  Calls Tryz.prog 18 #[.slice A n cap] w fun e w'=>e= .returned (.bool (Qm C R S n))∧Below w.heap.size w w':=by
 have HR:Hid (ClRow w A n C R S):=h;have HG:Hid (GI w):=hg;have hn:=h.1;unfold maxLen at hn;clear h hg;by_cases hbig:(120:Int)<(n:Int)
 ·have HF:Hid (Qm C R S n=false):=Qa2 (by omega);go_enter Tryz.func18,Tryz.ntmps18;go_wp2_with fail
  go_ret;exact⟨Qc HF.out.symm,by go_grown⟩
 cases hrs:Jd C R n
 ·have HRS:Hid (Jd C R n=false):=hrs;have HF:Hid (Qm C R S n=false):=Uh hrs;clear hrs;go_enter Tryz.func18,Tryz.ntmps18;go_wp2_with (go_at_call 41;refine(Xj _ HR.out).mono ?_;rintro e w1 ⟨rfl,hb⟩;rw [HRS.out])
  go_ret;exact⟨Qc HF.out.symm,by go_grown⟩
 have HRS:Hid (Jd C R n=true):=hrs;clear hrs;go_enter Tryz.func18,Tryz.ntmps18;go_wp2_with fail
 refine(Xj _ HR.out).mono ?_;rintro e w1 ⟨rfl,hb1⟩;rw [HRS.out];go_wp2_with fail
 go_loopw [15] (fun i wr=> ∃k:Nat,k≤n∧i= .int .i64 k∧(∀i,i<k→Yz S i=true)∧Below w.heap.size w wr) (fun i _=>n-(intOf i).toNat)
 case atStart=>exact⟨0,Nat.zero_le _,rfl,fun i hi=>by omega,hb1⟩
 case round=>
  clear hb1;obtain⟨k,hk,rfl,hr,hbel⟩:=hrel;have HI:Hid (∀i,i<k→Yz S i=true):=hr;clear hr;by_cases hlt:k<n
  ·obtain⟨b,o,rfl,hl,c0,c1,c2,hsz⟩:=HR.out.2 k hlt;have HS:Hid ((S k).size≤maxLen):=hsz;clear hsz;have hs:=hbel.size;have HGr:=hd (HG.out.below hbel);rw [←hbel.cell (p:=⟨_,_,none⟩) hl]at c0 c1 c2;have hl2:b<wr.heap.size:=Nat.lt_of_lt_of_le hl hs
   have h0:(0:Int)≤(k:Int):=by omega
   have h1:(k:Int)<(n:Int):=by omega
   cases he:(S k).toList.isEmpty
   ·cases hv:YQ (S k)
    ·have HV:Hid (YQ (S k)=false):=hv;have HF:Hid (Qm C R S n=false):=Vv hlt (by simp [Yz,hv]);clear hv;go_wp2_with (go_at_call 34;refine(Zq _ _ HS.out (HGr.out.below (by go_grown))).mono ?_;rintro e w2 ⟨rfl,hb⟩;rw [HV.out];have hk1:=Qb (w:=wr) (by go_grown) hb;clear hb)
     go_ret;exact⟨Qc HF.out.symm,Qb hbel (by go_grown)⟩
    ·have HV:Hid (YQ (S k)=true):=hv;have HT:Hid (Yz S k=true):=by show _=_;simp [Yz,hv,he]
     clear hv;go_wp2_with (go_at_call 34;refine(Zq _ _ HS.out (HGr.out.below (by go_grown))).mono ?_;rintro e w2 ⟨rfl,hb⟩;rw [HV.out];have hk1:=Qb (w:=wr) (by go_grown) hb;clear hb)
     go_roundw
     case rel=>exact⟨k+1,by omega,by go_num,fun i hi=>by
      by_cases e:i=k
      ·subst e;exact HT.out
      ·exact HI.out i (by omega),Qb hbel (by go_grown)⟩
     case measure=>simp [intOf];omega
   ·have HF:Hid (Qm C R S n=false):=Vv hlt (by simp [Yz,he]);go_wp2_with fail
    go_ret;exact⟨Qc HF.out.symm,Qb hbel (by go_grown)⟩
  ·have h1: ¬(k:Int)<(n:Int):=by omega
   obtain rfl:k=n:=by omega
   go_wp2_with fail
   go_ret;exact⟨Qc (Nm (by omega) HRS.out (Gu HI.out)).symm,hbel⟩
theorem Qfy {o:Option ByteArray} {e:Ending} (h:opA o e): ∃t ok,e= .returned (.tuple #[.string t,.bool ok]):=by
 cases o with
 | none=>exact⟨_,_,h⟩
 | some t=>exact⟨_,_,h⟩
theorem QI {A:Option Addr} {n cap:Nat} {C R:Nat→Int} {S:Nat→ByteArray} (w:World) (h:ClRow w A n C R S):
  Calls Tryz.prog 11 #[.slice A n cap] w fun e w'=>e= .returned (.bool (Qm C R S n))∧Below w.heap.size w w':=by
 have HR:Hid (ClRow w A n C R S):=h;have hn:=h.1;unfold maxLen at hn;clear h;by_cases hbig:(120:Int)<(n:Int)
 ·have HF:Hid (Qm C R S n=false):=Qa2 (by omega);go_enter Tryz.func11,Tryz.ntmps11;go_wp2_with fail
  go_ret;exact⟨Qc HF.out.symm,by go_grown⟩
 go_enter Tryz.func11,Tryz.ntmps11;go_wp2_with fail
 go_loopw [3] (fun i wr=> ∃k:Nat,k≤n∧i= .int .i64 k∧(∀i,i<k→Za C R i=true∧Yz S i=true)∧Below w.heap.size w wr) (fun i _=>n-(intOf i).toNat)
 case atStart=>exact⟨0,Nat.zero_le _,rfl,fun i hi=>by omega,Below.refl _ _⟩
 case round=>
  obtain⟨k,hk,rfl,hr,hbel⟩:=hrel;have HI:Hid (∀i,i<k→Za C R i=true∧Yz S i=true):=hr;clear hr;by_cases hlt:k<n
  ·obtain⟨b,o,rfl,hl,c0,c1,c2,hsz⟩:=HR.out.2 k hlt;have HS:Hid ((S k).size≤maxLen):=hsz;clear hsz;have hs:=hbel.size;rw [←hbel.cell (p:=⟨_,_,none⟩) hl]at c0 c1 c2;have hl2:b<wr.heap.size:=Nat.lt_of_lt_of_le hl hs;have h0:(0:Int)≤(k:Int):=by omega
   have h1:(k:Int)<(n:Int):=by omega
   cases ho:Qi (C k) (R k)
   ·have HO:Hid (Qi (C k) (R k)=false):=ho;have HF:Hid (Qm C R S n=false):=Uh (GS hlt (by simp [Za,ho]));clear ho;go_wp2_with fail
    refine(ZD (S k) _ HS.out).mono ?_;rintro e w3 ⟨he,hb⟩;obtain⟨txt,ok,rfl⟩:=Qfy he;have K3:Hid (Below wr.heap.size wr w3):=hb;rw [←hb.cell (p:=⟨_,_,none⟩) hl2]at c0 c1 c2;have hl3:b<w3.heap.size:=Nat.lt_of_lt_of_le hl2 hb.size;clear hb he
    go_wp2_with fail
    refine wp_region_held_drew (S:=(fun w'=>(∀bq oq,bq<w3.heap.size→w'.cell? ⟨bq,oq,none⟩=w3.cell? ⟨bq,oq,none⟩)∧w3.heap.size≤w'.heap.size∧Below w3.heap.size w3 w')) (by kernel_rfl) (Qk (by go_size) (by go_grown)) (fun hHeld=> ?_);refine tkA 0 ?_;refine tkB 1 ?_;refine tkA 2 ?_;refine tkB 3 ?_;refine tkB 4 ?_;refine rqA 5 (fun Kq hKq=> ?_)
    go_simp
    (refine(QE _ _ _).mono ?_;rintro e w1 ⟨rfl,hb⟩;rw [HO.out];obtain⟨hk1,hz1⟩:=Qg (B:=w3.heap.size) (X:=w3) (by go_grown) (by go_size) hb;have hC:=fun b o h=>hk1.cell (p:=⟨b,o,none⟩) h;clear hb)
    refine hkB hKq (Qk (by go_size) (by go_grown)) fun hHeld=> ?_;clear hKq Kq;refine tkA 6 ?_;refine tkB 7 ?_;refine tnA 8 ?_;refine tnA 9 ?_;refine tkB 10 ?_
    refine tkA 11 ?_;refine tnA 12 ?_;refine tnB 13 ?_;refine tnA 14 ?_;refine tnA 15 ?_;refine tnA 16 ?_;refine tnB 17 ?_
    refine tkA 18 ?_;refine tkB 19 ?_;refine tnA 20 ?_;refine tnA 21 ?_;refine tnA 22 ?_;refine tnB 23 ?_;refine tnA 24 ?_
    refine tnA 25 ?_;refine tnB 26 ?_;refine tkA 27 ?_;refine tkB 28 ?_;refine tnA 29 ?_;refine tnA 30 ?_;refine tnA 31 ?_
    refine tnB 32 ?_;refine tnA 33 ?_;refine tnA 34 ?_;refine tnA 35 ?_;refine tnB 36 ?_;refine tnA 37 ?_;refine tnA 38 ?_
    refine tnA 39 ?_;refine tnB 40 ?_;refine tnA 41 ?_;refine tnA 42 ?_;refine tnA 43 ?_;refine tnB 44 ?_;refine tnA 45 ?_
    refine tkB 46 ?_;refine wpAnyH_done (by kernel_rfl) ?_ _;go_wp2_with fail
    go_ret;exact⟨Qc HF.out.symm,Qb (Qb hbel K3.out) (by go_grown)⟩
   have HO:Hid (Qi (C k) (R k)=true):=ho;clear ho;cases hin:inF (S k)with
   | none=>
    have HIN:Hid (inF (S k)=none):=hin;have HF:Hid (Qm C R S n=false):=Vv hlt (by simp [Yz,YQ,hin]);clear hin;go_wp2_with fail
    refine(ZD (S k) _ HS.out).mono ?_;rintro e w3 ⟨he,hb⟩;rw [HIN.out]at he;obtain rfl:e= .returned (.tuple #[.string ⟨#[]⟩,.bool false]):=he;have K3:Hid (Below wr.heap.size wr w3):=hb;rw [←hb.cell (p:=⟨_,_,none⟩) hl2]at c0 c1 c2;have hl3:b<w3.heap.size:=Nat.lt_of_lt_of_le hl2 hb.size
    clear hb;go_wp2_with fail
    refine wp_region_held_drew (S:=(fun w'=>(∀bq oq,bq<w3.heap.size→w'.cell? ⟨bq,oq,none⟩=w3.cell? ⟨bq,oq,none⟩)∧w3.heap.size≤w'.heap.size∧Below w3.heap.size w3 w')) (by kernel_rfl) (Qk (by go_size) (by go_grown)) (fun hHeld=> ?_);refine tkA 0 ?_;refine tkB 1 ?_;refine tkA 2 ?_;refine tkB 3 ?_;refine tkB 4 ?_;refine rqA 5 (fun Kq hKq=> ?_)
    go_simp
    (refine(QE _ _ _).mono ?_;rintro e w1 ⟨rfl,hb⟩;rw [HO.out];obtain⟨hk1,hz1⟩:=Qg (B:=w3.heap.size) (X:=w3) (by go_grown) (by go_size) hb;have hC:=fun b o h=>hk1.cell (p:=⟨b,o,none⟩) h;clear hb)
    refine hkB hKq (Qk (by go_size) (by go_grown)) fun hHeld=> ?_;clear hKq Kq;refine tkA 6 ?_;refine tkB 7 ?_;refine tkA 8 ?_;refine tkB 9 ?_;refine tkA 10 ?_
    refine tkB 11 ?_;refine tnA 12 ?_;refine tnA 13 ?_;refine tnA 14 ?_;refine tnB 15 ?_;refine tnA 16 ?_;refine tnA 17 ?_
    refine tkB 18 ?_;refine tkA 19 ?_;refine tnA 20 ?_;refine tnB 21 ?_;refine tnA 22 ?_;refine tnA 23 ?_;refine tnA 24 ?_
    refine tnB 25 ?_;refine tnA 26 ?_;refine tkB 27 ?_;refine tkA 28 ?_;refine tnA 29 ?_;refine tnB 30 ?_;refine tnA 31 ?_
    refine tnA 32 ?_;refine tnA 33 ?_;refine tnB 34 ?_;refine tnA 35 ?_;refine tnA 36 ?_;refine tnA 37 ?_;refine tnB 38 ?_
    refine tnA 39 ?_;refine tnA 40 ?_;refine tnA 41 ?_;refine tnB 42 ?_;refine tnA 43 ?_;refine tnA 44 ?_;refine tnB 45 ?_
    refine tkB 46 ?_;refine wpAnyH_done (by kernel_rfl) ?_ _;go_wp2_with fail
    go_ret;exact⟨Qc HF.out.symm,Qb (Qb hbel K3.out) (by go_grown)⟩
   | some t=>
    have HIN:Hid (inF (S k)=some t):=hin;cases he:(S k).toList.isEmpty
    rotate_left
    ·have HF:Hid (Qm C R S n=false):=Vv hlt (by simp [Yz,he]);clear hin;go_wp2_with fail
     refine(ZD (S k) _ HS.out).mono ?_;rintro e w3 ⟨he,hb⟩;rw [HIN.out]at he;obtain rfl:e= .returned (.tuple #[.string t,.bool true]):=he;have K3:Hid (Below wr.heap.size wr w3):=hb;rw [←hb.cell (p:=⟨_,_,none⟩) hl2]at c0 c1 c2;have hl3:b<w3.heap.size:=Nat.lt_of_lt_of_le hl2 hb.size
     clear hb;go_wp2_with fail
     refine wp_region_held_drew (S:=(fun w'=>(∀bq oq,bq<w3.heap.size→w'.cell? ⟨bq,oq,none⟩=w3.cell? ⟨bq,oq,none⟩)∧w3.heap.size≤w'.heap.size∧Below w3.heap.size w3 w')) (by kernel_rfl) (Qk (by go_size) (by go_grown)) (fun hHeld=> ?_);refine tkA 0 ?_;refine tkB 1 ?_;refine tkA 2 ?_;refine tkB 3 ?_;refine tkB 4 ?_;refine rqA 5 (fun Kq hKq=> ?_)
     go_simp
     (refine(QE _ _ _).mono ?_;rintro e w1 ⟨rfl,hb⟩;rw [HO.out];obtain⟨hk1,hz1⟩:=Qg (B:=w3.heap.size) (X:=w3) (by go_grown) (by go_size) hb;have hC:=fun b o h=>hk1.cell (p:=⟨b,o,none⟩) h;clear hb)
     refine hkB hKq (Qk (by go_size) (by go_grown)) fun hHeld=> ?_;clear hKq Kq;refine tkA 6 ?_;refine tkB 7 ?_;refine tkA 8 ?_;refine tkB 9 ?_;refine tkA 10 ?_
     refine tkB 11 ?_;refine tkA 12 ?_;refine tkB 13 ?_;refine tkA 14 ?_;refine tkB 15 ?_;refine tkA 16 ?_;refine tkB 17 ?_
     refine tkA 18 ?_;refine tkB 19 ?_;refine tnA 20 ?_;refine tnA 21 ?_;refine tnA 22 ?_;refine tnB 23 ?_;refine tnA 24 ?_
     refine tnA 25 ?_;refine tnB 26 ?_;refine tkA 27 ?_;refine tkB 28 ?_;refine tnA 29 ?_;refine tnA 30 ?_;refine tnA 31 ?_
     refine tnB 32 ?_;refine tnA 33 ?_;refine tnA 34 ?_;refine tnA 35 ?_;refine tnB 36 ?_;refine tnA 37 ?_;refine tnA 38 ?_
     refine tnA 39 ?_;refine tnB 40 ?_;refine tnA 41 ?_;refine tnA 42 ?_;refine tnA 43 ?_;refine tnB 44 ?_;refine tnA 45 ?_
     refine tkB 46 ?_;refine wpAnyH_done (by kernel_rfl) ?_ _;go_wp2_with fail
     go_ret;exact⟨Qc HF.out.symm,Qb (Qb hbel K3.out) (by go_grown)⟩
    cases hq:(t.toList==(S k).toList)
    ·have HF:Hid (Qm C R S n=false):=Vv hlt (by simp [Yz,YQ,hin];intro _;simpa using hq);clear hin;go_wp2_with fail
     refine(ZD (S k) _ HS.out).mono ?_;rintro e w3 ⟨he,hb⟩;rw [HIN.out]at he;obtain rfl:e= .returned (.tuple #[.string t,.bool true]):=he;have K3:Hid (Below wr.heap.size wr w3):=hb;rw [←hb.cell (p:=⟨_,_,none⟩) hl2]at c0 c1 c2;have hl3:b<w3.heap.size:=Nat.lt_of_lt_of_le hl2 hb.size
     clear hb;go_wp2_with fail
     refine wp_region_held_drew (S:=(fun w'=>(∀bq oq,bq<w3.heap.size→w'.cell? ⟨bq,oq,none⟩=w3.cell? ⟨bq,oq,none⟩)∧w3.heap.size≤w'.heap.size∧Below w3.heap.size w3 w')) (by kernel_rfl) (Qk (by go_size) (by go_grown)) (fun hHeld=> ?_);refine tkA 0 ?_;refine tkB 1 ?_;refine tkA 2 ?_;refine tkB 3 ?_;refine tkB 4 ?_;refine rqA 5 (fun Kq hKq=> ?_)
     go_simp
     (refine(QE _ _ _).mono ?_;rintro e w1 ⟨rfl,hb⟩;rw [HO.out];obtain⟨hk1,hz1⟩:=Qg (B:=w3.heap.size) (X:=w3) (by go_grown) (by go_size) hb;have hC:=fun b o h=>hk1.cell (p:=⟨b,o,none⟩) h;clear hb)
     refine hkB hKq (Qk (by go_size) (by go_grown)) fun hHeld=> ?_;clear hKq Kq;refine tkA 6 ?_;refine tkB 7 ?_;refine tkA 8 ?_;refine tkB 9 ?_;refine tkA 10 ?_
     refine tkB 11 ?_;refine tkA 12 ?_;refine tkB 13 ?_;refine tkA 14 ?_;refine tkB 15 ?_;refine tkA 16 ?_;refine tkB 17 ?_
     refine tkA 18 ?_;refine tkB 19 ?_;refine tkA 20 ?_;refine tkB 21 ?_;refine tkA 22 ?_;refine tkB 23 ?_;refine tkA 24 ?_
     refine tkB 25 ?_;refine tkA 26 ?_;refine tkB 27 ?_;refine tkA 28 ?_;refine tnA 29 ?_;refine tnB 30 ?_;refine tnA 31 ?_
     refine tnA 32 ?_;refine tnA 33 ?_;refine tnB 34 ?_;refine tnA 35 ?_;refine tnA 36 ?_;refine tnA 37 ?_;refine tnB 38 ?_
     refine tnA 39 ?_;refine tnA 40 ?_;refine tnA 41 ?_;refine tnB 42 ?_;refine tnA 43 ?_;refine tnA 44 ?_;refine tnB 45 ?_
     refine tkB 46 ?_;refine wpAnyH_done (by kernel_rfl) ?_ _;go_wp2_with fail
     go_ret;exact⟨Qc HF.out.symm,Qb (Qb hbel K3.out) (by go_grown)⟩
    have HSK:Hid (Yz S k=true):=by show _=_;unfold Yz YQ;rw [hin,he];exact hq
    clear hin;match k,hk,hlt,HI,HO,HS,HIN,HSK,he,hq,c0,c1,c2,h0,h1 with
    | 0,hk,hlt,HI,HO,HS,HIN,HSK,he,hq,c0,c1,c2,h0,h1=>
     have hR:Za C R 0=true:=by simp [Za,HO.out]
     have HI':Hid (∀i,i<0+1→Za C R i=true∧Yz S i=true):=fun i hi=>by rw [show i=0 by omega];exact⟨hR,HSK.out⟩
     simp only [Nat.zero_mul,Nat.add_zero]at c0 c1 c2;clear hR;go_wp2_with fail
     refine(ZD (S 0) _ HS.out).mono ?_;rintro e w3 ⟨he,hb⟩;rw [HIN.out]at he;obtain rfl:e= .returned (.tuple #[.string t,.bool true]):=he;have K3:Hid (Below wr.heap.size wr w3):=hb;rw [←hb.cell (p:=⟨_,_,none⟩) hl2]at c0 c1 c2;have hl3:b<w3.heap.size:=Nat.lt_of_lt_of_le hl2 hb.size
     clear hb;go_wp2_with fail
     refine wp_region_held_drew (S:=(fun w'=>(∀bq oq,bq<w3.heap.size→w'.cell? ⟨bq,oq,none⟩=w3.cell? ⟨bq,oq,none⟩)∧w3.heap.size≤w'.heap.size∧Below w3.heap.size w3 w')) (by kernel_rfl) (Qk (by go_size) (by go_grown)) (fun hHeld=> ?_);refine tkA 0 ?_;refine tkB 1 ?_;refine tkA 2 ?_;refine tkB 3 ?_;refine tkB 4 ?_;refine rqA 5 (fun Kq hKq=> ?_)
     go_simp
     (refine(QE _ _ _).mono ?_;rintro e w1 ⟨rfl,hb⟩;rw [HO.out];obtain⟨hk1,hz1⟩:=Qg (B:=w3.heap.size) (X:=w3) (by go_grown) (by go_size) hb;have hC:=fun b o h=>hk1.cell (p:=⟨b,o,none⟩) h;clear hb)
     refine hkB hKq (Qk (by go_size) (by go_grown)) fun hHeld=> ?_;clear hKq Kq;refine tkA 6 ?_;refine tkB 7 ?_;refine tkA 8 ?_;refine tkB 9 ?_;refine tkA 10 ?_
     refine tkB 11 ?_;refine tkA 12 ?_;refine tkB 13 ?_;refine tkA 14 ?_;refine tkB 15 ?_;refine tkA 16 ?_;refine tkB 17 ?_
     refine tkA 18 ?_;refine tkB 19 ?_;refine tkA 20 ?_;refine tkB 21 ?_;refine tkA 22 ?_;refine tkB 23 ?_;refine tkA 24 ?_
     refine tkB 25 ?_;refine tkA 26 ?_;refine tkB 27 ?_;refine tkA 28 ?_;refine tkB 29 ?_;refine tkA 30 ?_;refine tkB 31 ?_
     refine tnA 32 ?_;refine tnA 33 ?_;refine tnA 34 ?_;refine tnB 35 ?_;refine tnA 36 ?_;refine tnA 37 ?_;refine tnA 38 ?_
     refine tnB 39 ?_;refine tnA 40 ?_;refine tnA 41 ?_;refine tnA 42 ?_;refine tnB 43 ?_;refine tnA 44 ?_;refine tkB 45 ?_
     refine tkB 46 ?_;refine wpAnyH_done (by kernel_rfl) ?_ _;go_wp2_with fail
     go_roundw
     case rel=>exact⟨0+1,by omega,by go_num,HI'.out,Qb (Qb hbel K3.out) (by go_grown)⟩
     case measure=>simp [intOf];omega
    | m+1,hk,hlt,HI,HO,HS,HIN,HSK,he,hq,c0,c1,c2,h0,h1=>
     obtain⟨b',o',e',_,d0,d1,d2,_⟩:=HR.out.2 m (by omega);cases e'
     rw [←hbel.cell (p:=⟨_,_,none⟩) hl]at d0 d1 d2;have p0:(0:Int)≤(m:Int):=by omega
     have p1:(m:Int)<(n:Int):=by omega
     have p4:(0:Int)≤(m:Int)+1:=by omega
     have p5:(m:Int)+1<(n:Int):=by omega
     have p2:IntKind.i64.wrap (m:Int)=(m:Int):=by rw [IntKind.wrap_i64];omega
     have p3:IntKind.i64.wrap ((m:Int)+1-1)=(m:Int):=by rw [IntKind.wrap_i64];omega
     obtain⟨ah,HA⟩: ∃x,Hid (QF (C m) (R m) (C (m+1)) (R (m+1))=x):=⟨_,rfl⟩;go_wp2_with fail
     refine(ZD (S (m+1)) _ HS.out).mono ?_;rintro e w3 ⟨he,hb⟩;rw [HIN.out]at he;obtain rfl:e= .returned (.tuple #[.string t,.bool true]):=he;have K3:Hid (Below wr.heap.size wr w3):=hb;rw [←hb.cell (p:=⟨_,_,none⟩) hl2]at c0 c1 c2 d0 d1 d2;have hl3:b<w3.heap.size:=Nat.lt_of_lt_of_le hl2 hb.size
     clear hb;go_wp2_with fail
     refine wp_region_held_drew (S:=(fun w'=>(∀bq oq,bq<w3.heap.size→w'.cell? ⟨bq,oq,none⟩=w3.cell? ⟨bq,oq,none⟩)∧w3.heap.size≤w'.heap.size∧Below w3.heap.size w3 w')) (by kernel_rfl) (Qk (by go_size) (by go_grown)) (fun hHeld=> ?_);refine tkA 0 ?_;refine tkB 1 ?_;refine tkA 2 ?_;refine tkB 3 ?_;refine tkB 4 ?_;refine rqA 5 (fun Kq hKq=> ?_)
     go_simp
     (refine(QE _ _ _).mono ?_;rintro e w1 ⟨rfl,hb⟩;rw [HO.out];obtain⟨hk1,hz1⟩:=Qg (B:=w3.heap.size) (X:=w3) (by go_grown) (by go_size) hb;have hC:=fun b o h=>hk1.cell (p:=⟨b,o,none⟩) h;clear hb)
     refine hkB hKq (Qk (by go_size) (by go_grown)) fun hHeld=> ?_;clear hKq Kq;refine tkA 6 ?_;refine tkB 7 ?_;refine tkA 8 ?_;refine tkB 9 ?_;refine tkA 10 ?_
     refine tkB 11 ?_;refine tkA 12 ?_;refine tkB 13 ?_;refine tkA 14 ?_;refine tkB 15 ?_;refine tkA 16 ?_;refine tkB 17 ?_
     refine tkA 18 ?_;refine tkB 19 ?_;refine tkA 20 ?_;refine tkB 21 ?_;refine tkA 22 ?_;refine tkB 23 ?_;refine tkA 24 ?_
     refine tkB 25 ?_;refine tkA 26 ?_;refine tkB 27 ?_;refine tkA 28 ?_;refine tkB 29 ?_;refine tkA 30 ?_;refine tkB 31 ?_
     refine tkA 32 ?_;refine tkB 33 ?_;refine tkA 34 ?_;refine tkB 35 ?_;refine tkA 36 ?_;refine tkB 37 ?_;refine tkA 38 ?_
     refine tkB 39 ?_;refine tkA 40 ?_;refine tkB 41 ?_;refine tkB 42 ?_;refine rqA 43 (fun Kq hKq=> ?_);go_simp
     (refine(ZS _ _ _ _ _).mono ?_;rintro e w1 ⟨rfl,hb⟩;rw [HA.out];obtain⟨hk1,hz1⟩:=Qg (B:=w3.heap.size) (X:=w3) (by go_grown) (by go_size) hb;have hC:=fun b o h=>hk1.cell (p:=⟨b,o,none⟩) h;clear hb)
     refine hkB hKq (Qk (by go_size) (by go_grown)) fun hHeld=> ?_;clear hKq Kq;refine tkA 44 ?_;refine tkB 45 ?_;refine tkB 46 ?_;refine wpAnyH_done (by kernel_rfl) ?_ _;cases ah
     ·have HF:Hid (Qm C R S n=false):=Uh (GS hlt (by simp [Za,HA.out]));go_wp2_with fail
      go_ret;exact⟨Qc HF.out.symm,Qb (Qb hbel K3.out) (by go_grown)⟩
     ·have hR:Za C R (m+1)=true:=by simp [Za,HO.out,HA.out]
      have HI':Hid (∀i,i<m+1+1→Za C R i=true∧Yz S i=true):=fun i hi=>by
       by_cases e:i=m+1
       ·subst e;exact⟨hR,HSK.out⟩
       ·exact HI.out i (by omega)
      clear hR;go_wp2_with fail
      go_roundw
      case rel=>exact⟨m+1+1,by omega,by go_num,HI'.out,Qb (Qb hbel K3.out) (by go_grown)⟩
      case measure=>simp [intOf];omega
  ·have h1: ¬(k:Int)<(n:Int):=by omega
   obtain rfl:k=n:=by omega
   go_wp2_with fail
   go_ret;exact⟨Qc (Nm (by omega) (Gu fun i hi=>(HI.out i hi).1) (Gu fun i hi=>(HI.out i hi).2)).symm,hbel⟩
end Go.Proofs.YthjldgbfgapbcaaGreatDoor
namespace Go.Proofs.YthjldgbfgapbcaaGreatDoor
open Go.RowKit Go.Maps
theorem Qhd (w:World):(zeroValue 49).run Tryz.prog w= .ok (.agg #[.int .i64 0,.int .i64 0,.string ⟨#[]⟩]) w:=by kernel_rfl
theorem Qj3 (c r:Int) (s:ByteArray) (w:World):(Instr.field 49 (.agg #[.int .i64 c,.int .i64 r,.string s]) 1).run Tryz.prog w= .ok (.string s) w:=by kernel_rfl
theorem Qcm {C R:Nat→Int} {S:Nat→ByteArray} {n:Nat} (h:Qm C R S n=true):n≤120∧Jd C R n=true:=by
 unfold Qm at h;simp only [Bool.and_eq_true,decide_eq_true_eq]at h;exact h.1
theorem Qh7 {C R:Nat→Int} {n:Nat} (h:Jd C R n=true): ∀i,i<n→Za C R i=true:=by
 unfold Jd at h;rw [List.all_eq_true]at h;exact fun i hi=>h i (List.mem_range.2 hi)
theorem Qh6 {C R:Nat→Int} {n:Nat} (h:Jd C R n=true): ∀i,i<n→Qi (C i) (R i)=true:=fun i hi=>by
 have:=Qh7 h i hi;unfold Za at this;simp only [Bool.and_eq_true]at this;exact this.1
def Oh (C R:Nat→Int) (S:Nat→ByteArray) (n:Nat) (p q:Int):ByteArray:=if Qm C R S n then Nz C R S p q n else⟨#[]⟩
theorem Qga {W:World} {b n:Nat} {D:DataW Value} {p q:Int} {l:Lit} {v:Value} (hown:W.ownsMap Tryz.prog 38 Zs b n D) (hl:keyOf Tryz.prog 38 (.agg #[.int .i64 p,.int .i64 q])=some l)
  (hv:D.atKey l (.held (.agg #[.int .i64 0,.int .i64 0,.string ⟨#[]⟩]))= .held v):(Instr.lookup 61 (.map (some b)) (.agg #[.int .i64 p,.int .i64 q]) false).run Tryz.prog W= .ok v W:=by
 obtain⟨u,ps,h1,h2⟩:=hown.lookup keyedRef Tryz.underlying61 (Qhd W) (rfl:Zs _=some (.held _,[])) hl;rw [hv]at h2;unfold Zs at h2;simp at h2;rw [h1,h2.1]
theorem Ze {A:Option Addr} {n cap:Nat} {C R:Nat→Int} {S:Nat→ByteArray} (p q:Int) (w:World) (h:ClRow w A n C R S) (hg:GI w) (hp:(Lit.int .i64 p).wf=true) (hq:(Lit.int .i64 q).wf=true):
  Calls Tryz.prog 17 #[.slice A n cap,.agg #[.int .i64 p,.int .i64 q]] w fun e w'=>e= .returned (.string (Oh C R S n p q))∧Below w.heap.size w w':=by
 have HR:Hid (ClRow w A n C R S):=h;have HG:Hid (GI w):=hg;clear h hg;cases hok:Qm C R S n
 ·have HOK:Hid (Qm C R S n=false):=hok;have HF:Hid (Oh C R S n p q=⟨#[]⟩):=by show _=_;unfold Oh;rw [hok];exact(rfl:_=_)
  clear hok;go_enter Tryz.func17,Tryz.ntmps17;go_wp2_with (go_at_call 18;refine(Zk _ (HR.out.below (by go_grown)) (HG.out.below (by go_grown))).mono ?_;rintro e w1 ⟨rfl,hb⟩;rw [HOK.out];obtain⟨hc,hf,hC,hF,hz,hk,l0⟩:=bk1 (w:=w) (by go_grown) (by go_size) hb;clear hb)
  go_ret;exact⟨Qt HF.out.symm,by go_grown⟩
 have HOK:Hid (Qm C R S n=true):=hok;have HF:Hid (Oh C R S n p q=Nz C R S p q n):=by show _=_;unfold Oh;rw [hok,if_pos rfl]
 obtain⟨h120,hrs⟩:=Qcm hok;obtain⟨kl,hkl⟩:=DZ (Qh6 hrs);obtain⟨l,hl⟩:=Bl p q hp hq;obtain⟨c,r,hcr⟩:=Qlk (S:=S) hl n hkl;have HKL:Hid (∀i,i<n→keyOf Tryz.prog 38 (.agg #[.int .i64 (C i),.int .i64 (R i)])=some (kl i)):=hkl;have HL:Hid (keyOf Tryz.prog 38 (.agg #[.int .i64 p,.int .i64 q])=some l):=hl;have HCR:Hid (_=_):=hcr
 clear hok hrs hkl hl hcr;obtain⟨s,HS⟩: ∃s:ByteArray,Hid (s=Nz C R S p q n):=⟨_,rfl⟩;rw [←HS.out]at HCR HF;go_enter Tryz.func17,Tryz.ntmps17;go_wp2_with (go_at_call 18;refine(Zk _ (HR.out.below (by go_grown)) (HG.out.below (by go_grown))).mono ?_;rintro e w1 ⟨rfl,hb⟩;rw [HOK.out];have HR1:Hid (ClRow w1 A n C R S):=(HR.out.below (by go_grown)).below hb;obtain⟨hc,hf,hC,hF,hz,hk,l0⟩:=bk1 (w:=w) (by go_grown) (by go_size) hb;clear hb)
 have d0:w1.cell? ⟨w.heap.size,0,none⟩=some (.int .i64 p):=by rw [hc _ _ (by omega)];simp
 have d1:w1.cell? ⟨w.heap.size,1,none⟩=some (.int .i64 q):=by rw [hc _ _ (by omega)];simp
 refine wp_region_held_drew (S:=(fun w'=>(∀bq oq,bq<w1.heap.size→w'.cell? ⟨bq,oq,none⟩=w1.cell? ⟨bq,oq,none⟩)∧w1.heap.size≤w'.heap.size∧Below w1.heap.size w1 w')) (by kernel_rfl) (Qk (by go_size) (by go_grown)) (fun hHeld=> ?_);refine tkA 0 ?_;refine tkB 2 ?_;refine rqA 1 (fun Kq hKq=> ?_);go_simp;refine(Xm _ (HR1.out.below (by go_grown)) h120 HKL.out).mono ?_;rintro e w2 ⟨rfl,hown,hb⟩
 have hrun:(Instr.lookup 61 (.map (some w1.heap.size)) (.agg #[.int .i64 p,.int .i64 q]) false).run Tryz.prog w2= .ok (.agg #[.int .i64 c,.int .i64 r,.string s]) w2:=Qga hown HL.out HCR.out;obtain⟨hk1,hz1⟩:=Qg (B:=w1.heap.size) (X:=w1) (by go_grown) (by go_size) hb;clear hb hown;refine hKq.out _ _ (Qk (by go_size) (by go_grown)) (fun hHeld=> ?_);clear hKq Kq;try simp only [Act.put,List.getElem_toArray,List.getElem_cons_zero,List.getElem_cons_succ,List.setIfInBounds_toArray,List.set_cons_zero,List.set_cons_succ]
 refine rqA 3 (fun Kq hKq=> ?_);go_simp;refine hKq.out _ _ (Qk (by go_size) (by go_grown)) (fun hHeld=> ?_);clear hKq Kq;try simp only [Act.put,List.getElem_toArray,List.getElem_cons_zero,List.getElem_cons_succ,List.setIfInBounds_toArray,List.set_cons_zero,List.set_cons_succ]
 have hfl:=Qj3 c r s;refine tkA 4 ?_;refine tkB 5 ?_;refine wpAnyH_done (by kernel_rfl) ?_ _;go_wp2_with fail
 go_ret;exact⟨Qt HF.out.symm,Qb hk (by go_grown)⟩
end Go.Proofs.YthjldgbfgapbcaaGreatDoor
