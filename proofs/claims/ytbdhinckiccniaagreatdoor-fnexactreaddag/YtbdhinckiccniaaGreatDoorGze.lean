import Derived.Test.YtbdhinckiccniaaGreatDoorGzeA
import Derived.Test.YtbdhinckiccniaaGreatDoorGbg
import Derived.Test.YtbdhinckiccniaaGreatDoorMn
set_option linter.unusedSimpArgs false
set_option linter.unusedVariables false
set_option maxHeartbeats 8000000
set_option maxRecDepth 100000
namespace Go.Proofs.YtbdhinckiccniaaGreatDoor
open Go.RowKit
def Mu (s:ByteArray):Bool:=match inF s with
 | some t=>t.toList==s.toList
 | none=>false
def Yl (S:Nat→ByteArray) (i:Nat):Bool:= !(S i).toList.isEmpty&&Mu (S i)
def Qx (C R:Nat→Int) (S:Nat→ByteArray) (n:Nat):Bool:=decide (n≤120)&&XN C R n&&(List.range n).all (Yl S)
theorem Qcq {C R:Nat→Int} {S:Nat→ByteArray} {n:Nat} (h:120<n):Qx C R S n=false:=by
 have e:decide (n≤120)=false:=by simp;omega
 simp [Qx,e]
theorem GL {C R:Nat→Int} {S:Nat→ByteArray} {n:Nat} (h:XN C R n=false):Qx C R S n=false:=by
 simp [Qx,h]
theorem Vk {C R:Nat→Int} {S:Nat→ByteArray} {n k:Nat} (hk:k<n) (h:Yl S k=false):Qx C R S n=false:=by
 have e:(List.range n).all (Yl S)=false:=Gw hk h;simp [Qx,e]
theorem Nx {C R:Nat→Int} {S:Nat→ByteArray} {n:Nat} (h:n≤120) (hr:XN C R n=true) (hv:(List.range n).all (Yl S)=true):Qx C R S n=true:=by
 simp [Qx,h,hr,hv]
theorem XI (s:ByteArray) (w:World) (hs:s.size≤maxLen) (hg:GI w):Calls Tryz.prog 51 #[.string s] w fun e w'=>e= .returned (.bool (Mu s))∧Below w.heap.size w w':=by
 have HG:Hid (GI w):=hg;clear hg;cases ho:inF s with
 | none=>
  have HO:Hid (inF s=none):=ho;have HB:Hid (Mu s=false):=by show _=_;unfold Mu;rw [ho]
  clear ho;go_enter Tryz.func51,Tryz.ntmps51;go_wp2_with fail
  refine(Hb s w hs HG.out).mono ?_;rintro e u1 ⟨he,hb⟩;rw [HO.out]at he;obtain rfl:e= .returned (.tuple #[.string ⟨#[]⟩,.bool false]):=he;go_wp2_with fail
  go_ret;exact⟨Qb HB.out.symm,hb⟩
 | some t=>
  have HO:Hid (inF s=some t):=ho;have HB:Hid (Mu s=(t.toList==s.toList)):=by show _=_;unfold Mu;rw [ho]
  clear ho;go_enter Tryz.func51,Tryz.ntmps51;go_wp2_with fail
  refine(Hb s w hs HG.out).mono ?_;rintro e u1 ⟨he,hb⟩;rw [HO.out]at he;obtain rfl:e= .returned (.tuple #[.string t,.bool true]):=he;go_wp2_with fail
  go_ret;exact⟨Qb HB.out.symm,hb⟩
theorem Ys {A:Option Addr} {n cap:Nat} {C R:Nat→Int} {S:Nat→ByteArray} (w:World) (h:ClRow w A n C R S) (hg:GI w):
  Calls Tryz.prog 21 #[.slice A n cap] w fun e w'=>e= .returned (.bool (Qx C R S n))∧Below w.heap.size w w':=by
 have HR:Hid (ClRow w A n C R S):=h;have HG:Hid (GI w):=hg;have hn:=h.1;unfold maxLen at hn;clear h hg;by_cases hbig:(120:Int)<(n:Int)
 ·have HF:Hid (Qx C R S n=false):=Qcq (by omega);go_enter Tryz.func21,Tryz.ntmps21;go_wp2_with fail
  go_ret;exact⟨Qb HF.out.symm,by go_grown⟩
 cases hrs:XN C R n
 ·have HRS:Hid (XN C R n=false):=hrs;have HF:Hid (Qx C R S n=false):=GL hrs;clear hrs;go_enter Tryz.func21,Tryz.ntmps21;go_wp2_with (go_at_call 49;refine(Xb _ HR.out).mono ?_;rintro e w1 ⟨rfl,hb⟩;rw [HRS.out])
  go_ret;exact⟨Qb HF.out.symm,by go_grown⟩
 have HRS:Hid (XN C R n=true):=hrs;clear hrs;go_enter Tryz.func21,Tryz.ntmps21;go_wp2_with fail
 refine(Xb _ HR.out).mono ?_;rintro e w1 ⟨rfl,hb1⟩;rw [HRS.out];go_wp2_with fail
 go_loopw [15] (fun i wr=> ∃k:Nat,k≤n∧i= .int .i64 k∧(∀i,i<k→Yl S i=true)∧Below w.heap.size w wr) (fun i _=>n-(intOf i).toNat)
 case atStart=>exact⟨0,Nat.zero_le _,rfl,fun i hi=>by omega,hb1⟩
 case round=>
  clear hb1;obtain⟨k,hk,rfl,hr,hbel⟩:=hrel;have HI:Hid (∀i,i<k→Yl S i=true):=hr;clear hr;by_cases hlt:k<n
  ·obtain⟨b,o,rfl,hl,c0,c1,c2,hsz⟩:=HR.out.2 k hlt;have HS:Hid ((S k).size≤maxLen):=hsz;clear hsz;have hs:=hbel.size;have HGr:=hd (HG.out.below hbel);rw [←hbel.cell (p:=⟨_,_,none⟩) hl]at c0 c1 c2;have hl2:b<wr.heap.size:=Nat.lt_of_lt_of_le hl hs
   have h0:(0:Int)≤(k:Int):=by omega
   have h1:(k:Int)<(n:Int):=by omega
   cases he:(S k).toList.isEmpty
   ·cases hv:Mu (S k)
    ·have HV:Hid (Mu (S k)=false):=hv;have HF:Hid (Qx C R S n=false):=Vk hlt (by simp [Yl,hv]);clear hv;go_wp2_with (go_at_call 51;refine(XI _ _ HS.out (HGr.out.below (by go_grown))).mono ?_;rintro e w2 ⟨rfl,hb⟩;rw [HV.out];have hk1:=Qc (w:=wr) (by go_grown) hb;clear hb)
     go_ret;exact⟨Qb HF.out.symm,Qc hbel (by go_grown)⟩
    ·have HV:Hid (Mu (S k)=true):=hv;have HT:Hid (Yl S k=true):=by show _=_;simp [Yl,hv,he]
     clear hv;go_wp2_with (go_at_call 51;refine(XI _ _ HS.out (HGr.out.below (by go_grown))).mono ?_;rintro e w2 ⟨rfl,hb⟩;rw [HV.out];have hk1:=Qc (w:=wr) (by go_grown) hb;clear hb)
     go_roundw
     case rel=>exact⟨k+1,by omega,by go_num,fun i hi=>by
      by_cases e:i=k
      ·subst e;exact HT.out
      ·exact HI.out i (by omega),Qc hbel (by go_grown)⟩
     case measure=>simp [intOf];omega
   ·have HF:Hid (Qx C R S n=false):=Vk hlt (by simp [Yl,he]);go_wp2_with fail
    go_ret;exact⟨Qb HF.out.symm,Qc hbel (by go_grown)⟩
  ·have h1: ¬(k:Int)<(n:Int):=by omega
   obtain rfl:k=n:=by omega
   go_wp2_with fail
   go_ret;exact⟨Qb (Nx (by omega) HRS.out (Hv HI.out)).symm,hbel⟩
theorem Qhx {o:Option ByteArray} {e:Ending} (h:opA o e): ∃t ok,e= .returned (.tuple #[.string t,.bool ok]):=by
 cases o with
 | none=>exact⟨_,_,h⟩
 | some t=>exact⟨_,_,h⟩
theorem YY {A:Option Addr} {n cap:Nat} {C R:Nat→Int} {S:Nat→ByteArray} (w:World) (h:ClRow w A n C R S):
  Calls Tryz.prog 24 #[.slice A n cap] w fun e w'=>e= .returned (.bool (Qx C R S n))∧Below w.heap.size w w':=by
 have HR:Hid (ClRow w A n C R S):=h;have hn:=h.1;unfold maxLen at hn;clear h;by_cases hbig:(120:Int)<(n:Int)
 ·have HF:Hid (Qx C R S n=false):=Qcq (by omega);go_enter Tryz.func24,Tryz.ntmps24;go_wp2_with fail
  go_ret;exact⟨Qb HF.out.symm,by go_grown⟩
 go_enter Tryz.func24,Tryz.ntmps24;go_wp2_with fail
 go_loopw [3] (fun i wr=> ∃k:Nat,k≤n∧i= .int .i64 k∧(∀i,i<k→QS C R i=true∧Yl S i=true)∧Below w.heap.size w wr) (fun i _=>n-(intOf i).toNat)
 case atStart=>exact⟨0,Nat.zero_le _,rfl,fun i hi=>by omega,Below.refl _ _⟩
 case round=>
  obtain⟨k,hk,rfl,hr,hbel⟩:=hrel;have HI:Hid (∀i,i<k→QS C R i=true∧Yl S i=true):=hr;clear hr;by_cases hlt:k<n
  ·obtain⟨b,o,rfl,hl,c0,c1,c2,hsz⟩:=HR.out.2 k hlt;have HS:Hid ((S k).size≤maxLen):=hsz;clear hsz;have hs:=hbel.size;rw [←hbel.cell (p:=⟨_,_,none⟩) hl]at c0 c1 c2;have hl2:b<wr.heap.size:=Nat.lt_of_lt_of_le hl hs;have h0:(0:Int)≤(k:Int):=by omega
   have h1:(k:Int)<(n:Int):=by omega
   cases ho:Qh (C k) (R k)
   ·have HO:Hid (Qh (C k) (R k)=false):=ho;have HF:Hid (Qx C R S n=false):=GL (Gw hlt (by simp [QS,ho]));clear ho;go_wp2_with fail
    refine(Zo (S k) _ HS.out).mono ?_;rintro e w3 ⟨he,hb⟩;obtain⟨txt,ok,rfl⟩:=Qhx he;have K3:Hid (Below wr.heap.size wr w3):=hb;rw [←hb.cell (p:=⟨_,_,none⟩) hl2]at c0 c1 c2;have hl3:b<w3.heap.size:=Nat.lt_of_lt_of_le hl2 hb.size;clear hb he
    go_wp2_with fail
    refine wp_region_held_drew (S:=(fun w'=>(∀bq oq,bq<w3.heap.size→w'.cell? ⟨bq,oq,none⟩=w3.cell? ⟨bq,oq,none⟩)∧w3.heap.size≤w'.heap.size∧Below w3.heap.size w3 w')) (by kernel_rfl) (Qp (by go_size) (by go_grown)) (fun hHeld=> ?_);refine tkA 0 ?_;refine tkB 1 ?_;refine tkA 2 ?_;refine tkB 3 ?_;refine tkB 4 ?_;refine rqA 5 (fun Kq hKq=> ?_)
    go_simp
    (refine(Qz _ _ _).mono ?_;rintro e w1 ⟨rfl,hb⟩;rw [HO.out];obtain⟨hk1,hz1⟩:=Qg (B:=w3.heap.size) (X:=w3) (by go_grown) (by go_size) hb;have hC:=fun b o h=>hk1.cell (p:=⟨b,o,none⟩) h;clear hb)
    refine hkB hKq (Qp (by go_size) (by go_grown)) fun hHeld=> ?_;clear hKq Kq;refine tkA 6 ?_;refine tkB 7 ?_;refine tnA 8 ?_;refine tnA 9 ?_;refine tkB 10 ?_
    refine tkA 11 ?_;refine tnA 12 ?_;refine tnB 13 ?_;refine tnA 14 ?_;refine tnA 15 ?_;refine tnA 16 ?_;refine tnB 17 ?_
    refine tkA 18 ?_;refine tkB 19 ?_;refine tnA 20 ?_;refine tnA 21 ?_;refine tnA 22 ?_;refine tnB 23 ?_;refine tnA 24 ?_
    refine tnA 25 ?_;refine tnB 26 ?_;refine tkA 27 ?_;refine tkB 28 ?_;refine tnA 29 ?_;refine tnA 30 ?_;refine tnA 31 ?_
    refine tnB 32 ?_;refine tnA 33 ?_;refine tnA 34 ?_;refine tnA 35 ?_;refine tnB 36 ?_;refine tnA 37 ?_;refine tnA 38 ?_
    refine tnA 39 ?_;refine tnB 40 ?_;refine tnA 41 ?_;refine tnA 42 ?_;refine tnA 43 ?_;refine tnB 44 ?_;refine tnA 45 ?_
    refine tkB 46 ?_;refine wpAnyH_done (by kernel_rfl) ?_ _;go_wp2_with fail
    go_ret;exact⟨Qb HF.out.symm,Qc (Qc hbel K3.out) (by go_grown)⟩
   have HO:Hid (Qh (C k) (R k)=true):=ho;clear ho;cases hin:inF (S k)with
   | none=>
    have HIN:Hid (inF (S k)=none):=hin;have HF:Hid (Qx C R S n=false):=Vk hlt (by simp [Yl,Mu,hin]);clear hin;go_wp2_with fail
    refine(Zo (S k) _ HS.out).mono ?_;rintro e w3 ⟨he,hb⟩;rw [HIN.out]at he;obtain rfl:e= .returned (.tuple #[.string ⟨#[]⟩,.bool false]):=he;have K3:Hid (Below wr.heap.size wr w3):=hb;rw [←hb.cell (p:=⟨_,_,none⟩) hl2]at c0 c1 c2;have hl3:b<w3.heap.size:=Nat.lt_of_lt_of_le hl2 hb.size
    clear hb;go_wp2_with fail
    refine wp_region_held_drew (S:=(fun w'=>(∀bq oq,bq<w3.heap.size→w'.cell? ⟨bq,oq,none⟩=w3.cell? ⟨bq,oq,none⟩)∧w3.heap.size≤w'.heap.size∧Below w3.heap.size w3 w')) (by kernel_rfl) (Qp (by go_size) (by go_grown)) (fun hHeld=> ?_);refine tkA 0 ?_;refine tkB 1 ?_;refine tkA 2 ?_;refine tkB 3 ?_;refine tkB 4 ?_;refine rqA 5 (fun Kq hKq=> ?_)
    go_simp
    (refine(Qz _ _ _).mono ?_;rintro e w1 ⟨rfl,hb⟩;rw [HO.out];obtain⟨hk1,hz1⟩:=Qg (B:=w3.heap.size) (X:=w3) (by go_grown) (by go_size) hb;have hC:=fun b o h=>hk1.cell (p:=⟨b,o,none⟩) h;clear hb)
    refine hkB hKq (Qp (by go_size) (by go_grown)) fun hHeld=> ?_;clear hKq Kq;refine tkA 6 ?_;refine tkB 7 ?_;refine tkA 8 ?_;refine tkB 9 ?_;refine tkA 10 ?_
    refine tkB 11 ?_;refine tnA 12 ?_;refine tnA 13 ?_;refine tnA 14 ?_;refine tnB 15 ?_;refine tnA 16 ?_;refine tnA 17 ?_
    refine tkB 18 ?_;refine tkA 19 ?_;refine tnA 20 ?_;refine tnB 21 ?_;refine tnA 22 ?_;refine tnA 23 ?_;refine tnA 24 ?_
    refine tnB 25 ?_;refine tnA 26 ?_;refine tkB 27 ?_;refine tkA 28 ?_;refine tnA 29 ?_;refine tnB 30 ?_;refine tnA 31 ?_
    refine tnA 32 ?_;refine tnA 33 ?_;refine tnB 34 ?_;refine tnA 35 ?_;refine tnA 36 ?_;refine tnA 37 ?_;refine tnB 38 ?_
    refine tnA 39 ?_;refine tnA 40 ?_;refine tnA 41 ?_;refine tnB 42 ?_;refine tnA 43 ?_;refine tnA 44 ?_;refine tnB 45 ?_
    refine tkB 46 ?_;refine wpAnyH_done (by kernel_rfl) ?_ _;go_wp2_with fail
    go_ret;exact⟨Qb HF.out.symm,Qc (Qc hbel K3.out) (by go_grown)⟩
   | some t=>
    have HIN:Hid (inF (S k)=some t):=hin;cases he:(S k).toList.isEmpty
    rotate_left
    ·have HF:Hid (Qx C R S n=false):=Vk hlt (by simp [Yl,he]);clear hin;go_wp2_with fail
     refine(Zo (S k) _ HS.out).mono ?_;rintro e w3 ⟨he,hb⟩;rw [HIN.out]at he;obtain rfl:e= .returned (.tuple #[.string t,.bool true]):=he;have K3:Hid (Below wr.heap.size wr w3):=hb;rw [←hb.cell (p:=⟨_,_,none⟩) hl2]at c0 c1 c2;have hl3:b<w3.heap.size:=Nat.lt_of_lt_of_le hl2 hb.size
     clear hb;go_wp2_with fail
     refine wp_region_held_drew (S:=(fun w'=>(∀bq oq,bq<w3.heap.size→w'.cell? ⟨bq,oq,none⟩=w3.cell? ⟨bq,oq,none⟩)∧w3.heap.size≤w'.heap.size∧Below w3.heap.size w3 w')) (by kernel_rfl) (Qp (by go_size) (by go_grown)) (fun hHeld=> ?_);refine tkA 0 ?_;refine tkB 1 ?_;refine tkA 2 ?_;refine tkB 3 ?_;refine tkB 4 ?_;refine rqA 5 (fun Kq hKq=> ?_)
     go_simp
     (refine(Qz _ _ _).mono ?_;rintro e w1 ⟨rfl,hb⟩;rw [HO.out];obtain⟨hk1,hz1⟩:=Qg (B:=w3.heap.size) (X:=w3) (by go_grown) (by go_size) hb;have hC:=fun b o h=>hk1.cell (p:=⟨b,o,none⟩) h;clear hb)
     refine hkB hKq (Qp (by go_size) (by go_grown)) fun hHeld=> ?_;clear hKq Kq;refine tkA 6 ?_;refine tkB 7 ?_;refine tkA 8 ?_;refine tkB 9 ?_;refine tkA 10 ?_
     refine tkB 11 ?_;refine tkA 12 ?_;refine tkB 13 ?_;refine tkA 14 ?_;refine tkB 15 ?_;refine tkA 16 ?_;refine tkB 17 ?_
     refine tkA 18 ?_;refine tkB 19 ?_;refine tnA 20 ?_;refine tnA 21 ?_;refine tnA 22 ?_;refine tnB 23 ?_;refine tnA 24 ?_
     refine tnA 25 ?_;refine tnB 26 ?_;refine tkA 27 ?_;refine tkB 28 ?_;refine tnA 29 ?_;refine tnA 30 ?_;refine tnA 31 ?_
     refine tnB 32 ?_;refine tnA 33 ?_;refine tnA 34 ?_;refine tnA 35 ?_;refine tnB 36 ?_;refine tnA 37 ?_;refine tnA 38 ?_
     refine tnA 39 ?_;refine tnB 40 ?_;refine tnA 41 ?_;refine tnA 42 ?_;refine tnA 43 ?_;refine tnB 44 ?_;refine tnA 45 ?_
     refine tkB 46 ?_;refine wpAnyH_done (by kernel_rfl) ?_ _;go_wp2_with fail
     go_ret;exact⟨Qb HF.out.symm,Qc (Qc hbel K3.out) (by go_grown)⟩
    cases hq:(t.toList==(S k).toList)
    ·have HF:Hid (Qx C R S n=false):=Vk hlt (by simp [Yl,Mu,hin];intro _;simpa using hq);clear hin;go_wp2_with fail
     refine(Zo (S k) _ HS.out).mono ?_;rintro e w3 ⟨he,hb⟩;rw [HIN.out]at he;obtain rfl:e= .returned (.tuple #[.string t,.bool true]):=he;have K3:Hid (Below wr.heap.size wr w3):=hb;rw [←hb.cell (p:=⟨_,_,none⟩) hl2]at c0 c1 c2;have hl3:b<w3.heap.size:=Nat.lt_of_lt_of_le hl2 hb.size
     clear hb;go_wp2_with fail
     refine wp_region_held_drew (S:=(fun w'=>(∀bq oq,bq<w3.heap.size→w'.cell? ⟨bq,oq,none⟩=w3.cell? ⟨bq,oq,none⟩)∧w3.heap.size≤w'.heap.size∧Below w3.heap.size w3 w')) (by kernel_rfl) (Qp (by go_size) (by go_grown)) (fun hHeld=> ?_);refine tkA 0 ?_;refine tkB 1 ?_;refine tkA 2 ?_;refine tkB 3 ?_;refine tkB 4 ?_;refine rqA 5 (fun Kq hKq=> ?_)
     go_simp
     (refine(Qz _ _ _).mono ?_;rintro e w1 ⟨rfl,hb⟩;rw [HO.out];obtain⟨hk1,hz1⟩:=Qg (B:=w3.heap.size) (X:=w3) (by go_grown) (by go_size) hb;have hC:=fun b o h=>hk1.cell (p:=⟨b,o,none⟩) h;clear hb)
     refine hkB hKq (Qp (by go_size) (by go_grown)) fun hHeld=> ?_;clear hKq Kq;refine tkA 6 ?_;refine tkB 7 ?_;refine tkA 8 ?_;refine tkB 9 ?_;refine tkA 10 ?_
     refine tkB 11 ?_;refine tkA 12 ?_;refine tkB 13 ?_;refine tkA 14 ?_;refine tkB 15 ?_;refine tkA 16 ?_;refine tkB 17 ?_
     refine tkA 18 ?_;refine tkB 19 ?_;refine tkA 20 ?_;refine tkB 21 ?_;refine tkA 22 ?_;refine tkB 23 ?_;refine tkA 24 ?_
     refine tkB 25 ?_;refine tkA 26 ?_;refine tkB 27 ?_;refine tkA 28 ?_;refine tnA 29 ?_;refine tnB 30 ?_;refine tnA 31 ?_
     refine tnA 32 ?_;refine tnA 33 ?_;refine tnB 34 ?_;refine tnA 35 ?_;refine tnA 36 ?_;refine tnA 37 ?_;refine tnB 38 ?_
     refine tnA 39 ?_;refine tnA 40 ?_;refine tnA 41 ?_;refine tnB 42 ?_;refine tnA 43 ?_;refine tnA 44 ?_;refine tnB 45 ?_
     refine tkB 46 ?_;refine wpAnyH_done (by kernel_rfl) ?_ _;go_wp2_with fail
     go_ret;exact⟨Qb HF.out.symm,Qc (Qc hbel K3.out) (by go_grown)⟩
    have HSK:Hid (Yl S k=true):=by show _=_;unfold Yl Mu;rw [hin,he];exact hq
    clear hin;match k,hk,hlt,HI,HO,HS,HIN,HSK,he,hq,c0,c1,c2,h0,h1 with
    | 0,hk,hlt,HI,HO,HS,HIN,HSK,he,hq,c0,c1,c2,h0,h1=>
     have hR:QS C R 0=true:=by simp [QS,HO.out]
     have HI':Hid (∀i,i<0+1→QS C R i=true∧Yl S i=true):=fun i hi=>by rw [show i=0 by omega];exact⟨hR,HSK.out⟩
     simp only [Nat.zero_mul,Nat.add_zero]at c0 c1 c2;clear hR;go_wp2_with fail
     refine(Zo (S 0) _ HS.out).mono ?_;rintro e w3 ⟨he,hb⟩;rw [HIN.out]at he;obtain rfl:e= .returned (.tuple #[.string t,.bool true]):=he;have K3:Hid (Below wr.heap.size wr w3):=hb;rw [←hb.cell (p:=⟨_,_,none⟩) hl2]at c0 c1 c2;have hl3:b<w3.heap.size:=Nat.lt_of_lt_of_le hl2 hb.size
     clear hb;go_wp2_with fail
     refine wp_region_held_drew (S:=(fun w'=>(∀bq oq,bq<w3.heap.size→w'.cell? ⟨bq,oq,none⟩=w3.cell? ⟨bq,oq,none⟩)∧w3.heap.size≤w'.heap.size∧Below w3.heap.size w3 w')) (by kernel_rfl) (Qp (by go_size) (by go_grown)) (fun hHeld=> ?_);refine tkA 0 ?_;refine tkB 1 ?_;refine tkA 2 ?_;refine tkB 3 ?_;refine tkB 4 ?_;refine rqA 5 (fun Kq hKq=> ?_)
     go_simp
     (refine(Qz _ _ _).mono ?_;rintro e w1 ⟨rfl,hb⟩;rw [HO.out];obtain⟨hk1,hz1⟩:=Qg (B:=w3.heap.size) (X:=w3) (by go_grown) (by go_size) hb;have hC:=fun b o h=>hk1.cell (p:=⟨b,o,none⟩) h;clear hb)
     refine hkB hKq (Qp (by go_size) (by go_grown)) fun hHeld=> ?_;clear hKq Kq;refine tkA 6 ?_;refine tkB 7 ?_;refine tkA 8 ?_;refine tkB 9 ?_;refine tkA 10 ?_
     refine tkB 11 ?_;refine tkA 12 ?_;refine tkB 13 ?_;refine tkA 14 ?_;refine tkB 15 ?_;refine tkA 16 ?_;refine tkB 17 ?_
     refine tkA 18 ?_;refine tkB 19 ?_;refine tkA 20 ?_;refine tkB 21 ?_;refine tkA 22 ?_;refine tkB 23 ?_;refine tkA 24 ?_
     refine tkB 25 ?_;refine tkA 26 ?_;refine tkB 27 ?_;refine tkA 28 ?_;refine tkB 29 ?_;refine tkA 30 ?_;refine tkB 31 ?_
     refine tnA 32 ?_;refine tnA 33 ?_;refine tnA 34 ?_;refine tnB 35 ?_;refine tnA 36 ?_;refine tnA 37 ?_;refine tnA 38 ?_
     refine tnB 39 ?_;refine tnA 40 ?_;refine tnA 41 ?_;refine tnA 42 ?_;refine tnB 43 ?_;refine tnA 44 ?_;refine tkB 45 ?_
     refine tkB 46 ?_;refine wpAnyH_done (by kernel_rfl) ?_ _;go_wp2_with fail
     go_roundw
     case rel=>exact⟨0+1,by omega,by go_num,HI'.out,Qc (Qc hbel K3.out) (by go_grown)⟩
     case measure=>simp [intOf];omega
    | m+1,hk,hlt,HI,HO,HS,HIN,HSK,he,hq,c0,c1,c2,h0,h1=>
     obtain⟨b',o',e',_,d0,d1,d2,_⟩:=HR.out.2 m (by omega);cases e'
     rw [←hbel.cell (p:=⟨_,_,none⟩) hl]at d0 d1 d2;have p0:(0:Int)≤(m:Int):=by omega
     have p1:(m:Int)<(n:Int):=by omega
     have p4:(0:Int)≤(m:Int)+1:=by omega
     have p5:(m:Int)+1<(n:Int):=by omega
     have p2:IntKind.i64.wrap (m:Int)=(m:Int):=by rw [IntKind.wrap_i64];omega
     have p3:IntKind.i64.wrap ((m:Int)+1-1)=(m:Int):=by rw [IntKind.wrap_i64];omega
     obtain⟨ah,HA⟩: ∃x,Hid (Yi (C m) (R m) (C (m+1)) (R (m+1))=x):=⟨_,rfl⟩;go_wp2_with fail
     refine(Zo (S (m+1)) _ HS.out).mono ?_;rintro e w3 ⟨he,hb⟩;rw [HIN.out]at he;obtain rfl:e= .returned (.tuple #[.string t,.bool true]):=he;have K3:Hid (Below wr.heap.size wr w3):=hb;rw [←hb.cell (p:=⟨_,_,none⟩) hl2]at c0 c1 c2 d0 d1 d2;have hl3:b<w3.heap.size:=Nat.lt_of_lt_of_le hl2 hb.size
     clear hb;go_wp2_with fail
     refine wp_region_held_drew (S:=(fun w'=>(∀bq oq,bq<w3.heap.size→w'.cell? ⟨bq,oq,none⟩=w3.cell? ⟨bq,oq,none⟩)∧w3.heap.size≤w'.heap.size∧Below w3.heap.size w3 w')) (by kernel_rfl) (Qp (by go_size) (by go_grown)) (fun hHeld=> ?_);refine tkA 0 ?_;refine tkB 1 ?_;refine tkA 2 ?_;refine tkB 3 ?_;refine tkB 4 ?_;refine rqA 5 (fun Kq hKq=> ?_)
     go_simp
     (refine(Qz _ _ _).mono ?_;rintro e w1 ⟨rfl,hb⟩;rw [HO.out];obtain⟨hk1,hz1⟩:=Qg (B:=w3.heap.size) (X:=w3) (by go_grown) (by go_size) hb;have hC:=fun b o h=>hk1.cell (p:=⟨b,o,none⟩) h;clear hb)
     refine hkB hKq (Qp (by go_size) (by go_grown)) fun hHeld=> ?_;clear hKq Kq;refine tkA 6 ?_;refine tkB 7 ?_;refine tkA 8 ?_;refine tkB 9 ?_;refine tkA 10 ?_
     refine tkB 11 ?_;refine tkA 12 ?_;refine tkB 13 ?_;refine tkA 14 ?_;refine tkB 15 ?_;refine tkA 16 ?_;refine tkB 17 ?_
     refine tkA 18 ?_;refine tkB 19 ?_;refine tkA 20 ?_;refine tkB 21 ?_;refine tkA 22 ?_;refine tkB 23 ?_;refine tkA 24 ?_
     refine tkB 25 ?_;refine tkA 26 ?_;refine tkB 27 ?_;refine tkA 28 ?_;refine tkB 29 ?_;refine tkA 30 ?_;refine tkB 31 ?_
     refine tkA 32 ?_;refine tkB 33 ?_;refine tkA 34 ?_;refine tkB 35 ?_;refine tkA 36 ?_;refine tkB 37 ?_;refine tkA 38 ?_
     refine tkB 39 ?_;refine tkA 40 ?_;refine tkB 41 ?_;refine tkB 42 ?_;refine rqA 43 (fun Kq hKq=> ?_);go_simp
     (refine(KP _ _ _ _ _).mono ?_;rintro e w1 ⟨rfl,hb⟩;rw [HA.out];obtain⟨hk1,hz1⟩:=Qg (B:=w3.heap.size) (X:=w3) (by go_grown) (by go_size) hb;have hC:=fun b o h=>hk1.cell (p:=⟨b,o,none⟩) h;clear hb)
     refine hkB hKq (Qp (by go_size) (by go_grown)) fun hHeld=> ?_;clear hKq Kq;refine tkA 44 ?_;refine tkB 45 ?_;refine tkB 46 ?_;refine wpAnyH_done (by kernel_rfl) ?_ _;cases ah
     ·have HF:Hid (Qx C R S n=false):=GL (Gw hlt (by simp [QS,HA.out]));go_wp2_with fail
      go_ret;exact⟨Qb HF.out.symm,Qc (Qc hbel K3.out) (by go_grown)⟩
     ·have hR:QS C R (m+1)=true:=by simp [QS,HO.out,HA.out]
      have HI':Hid (∀i,i<m+1+1→QS C R i=true∧Yl S i=true):=fun i hi=>by
       by_cases e:i=m+1
       ·subst e;exact⟨hR,HSK.out⟩
       ·exact HI.out i (by omega)
      clear hR;go_wp2_with fail
      go_roundw
      case rel=>exact⟨m+1+1,by omega,by go_num,HI'.out,Qc (Qc hbel K3.out) (by go_grown)⟩
      case measure=>simp [intOf];omega
  ·have h1: ¬(k:Int)<(n:Int):=by omega
   obtain rfl:k=n:=by omega
   go_wp2_with fail
   go_ret;exact⟨Qb (Nx (by omega) (Hv fun i hi=>(HI.out i hi).1) (Hv fun i hi=>(HI.out i hi).2)).symm,hbel⟩
end Go.Proofs.YtbdhinckiccniaaGreatDoor
