import Derived.Test.YtejbnnacghbhoaaGreatDoorGaa
import Derived.Test.YtejbnnacghbhoaaGreatDoorMn
import Derived.BigQuiet
import Derived.Deep.DeepCutAuto
import Derived.Deep.RegionHeld3
import Derived.Laws.Concat
import Derived.Test.YtejbnnacghbhoaaGreatDoorMa
import Derived.Test.YtejbnnacghbhoaaGreatDoorMc
import Derived.Test.YtejbnnacghbhoaaGreatDoorGar
import Derived.Lib.ItoaLen
import Derived.Test.YtejbnnacghbhoaaGreatDoorMf
import Derived.Test.YtejbnnacghbhoaaGreatDoorMg
import Derived.Test.YtejbnnacghbhoaaGreatDoorMd
set_option linter.unusedSimpArgs false
set_option linter.unusedVariables false
set_option maxHeartbeats 8000000
set_option maxRecDepth 100000
namespace Go.Proofs.YtejbnnacghbhoaaGreatDoor
open Go.RowKit
def Qml (b:UInt8):Bool:=decide (97≤b.toNat∧b.toNat≤122)
def GD (s:ByteArray) (k:Nat):Prop:= ∀j (h:j<s.size),j<k→Qml (s[j]'h)=true
theorem UK (s:ByteArray):GD s 0:=fun j _ h=>absurd h (Nat.not_lt_zero _)
theorem UL {s:ByteArray} {k:Nat} (h:k<s.size) (hl:GD s k) (h1:97≤(s[k]'h).toNat) (h2:(s[k]'h).toNat≤122):GD s (k+1):=fun j hj hk=>by
 by_cases e:j=k
 ·subst e;exact decide_eq_true ⟨h1,h2⟩
 ·exact hl j hj (by omega)
def nmB (s:ByteArray):Bool:=decide (1≤s.size∧s.size≤12)&&s.data.toList.all Qml
theorem Qmf {s:ByteArray} (h:GD s s.size):s.data.toList.all Qml=true:=by
 rw [List.all_eq_true];intro b hb;obtain⟨i,hi,rfl⟩:=List.mem_iff_getElem.1 hb;exact h i (by simpa using hi) (by simpa using hi)
theorem DU {s:ByteArray} {k:Nat} (h:k<s.size) (hl:(s[k]'h).toNat<97∨122<(s[k]'h).toNat):nmB s=false:=by
 have e:s.data.toList.all Qml=false:=by
  cases e:s.data.toList.all Qml with
  | false=>rfl
  | true=>
   have h9:=List.all_eq_true.1 e (s[k]'h) (List.mem_iff_getElem.2 ⟨k,by simpa using h,rfl⟩);have:=of_decide_eq_true h9;omega
 rw [nmB,e,Bool.and_false]
theorem UH {s:ByteArray} (h:s.size<1∨12<s.size):nmB s=false:=by
 rw [nmB,decide_eq_false (by omega),Bool.false_and]
theorem Qc3 {s:ByteArray} (h:GD s s.size) (h1:1≤s.size) (h2:s.size≤12):nmB s=true:=by
 rw [nmB,Qmf h,decide_eq_true ⟨h1,h2⟩];rfl
theorem YZ {s:ByteArray} (h:nmB s=true):1≤s.size∧s.size≤12:=by
 simp only [nmB,Bool.and_eq_true,decide_eq_true_eq]at h;exact h.1
theorem YU (s:ByteArray) (w:World) (hs:s.size≤maxLen):Calls Tryz.prog 140 #[.string s] w fun e w'=>e= .returned (.bool (nmB s))∧w'=w:=by
 unfold maxLen at hs;go_enter Tryz.func140,Tryz.ntmps140;go_wp2_with fail
 go_loopw [6] (fun i wr=> ∃k:Nat,k≤s.size∧i= .int .i64 k∧GD s k∧wr=w) (fun i _=>s.size-(intOf i).toNat)
 case atStart=>exact⟨0,Nat.zero_le _,rfl,UK s,rfl⟩
 case round=>
  obtain⟨k,hk,rfl,hall,hw⟩:=hrel;subst wr;have HA:Hid (GD s k):=hall;clear hall;by_cases hlt:k<s.size
  ·have h0:(0:Int)≤(k:Int):=by omega
   have h1:(k:Int)<(s.size:Int):=by omega
   by_cases hlo:((s[k]'hlt).toNat:Int)<97
   ·go_wp2_with fail
    go_ret;exact⟨Qb (DU hlt (Or.inl (by omega))).symm,rfl⟩
   by_cases hhi:(122:Int)<((s[k]'hlt).toNat:Int)
   ·go_wp2_with fail
    go_ret;exact⟨Qb (DU hlt (Or.inr (by omega))).symm,rfl⟩
   go_wp2_with fail
   go_roundw
   case rel=>exact⟨k+1,by omega,by go_num,UL hlt HA.out (by omega) (by omega),trivial⟩
   case measure=>simp [intOf];omega
  ·have h1: ¬(k:Int)<(s.size:Int):=by omega
   obtain rfl:k=s.size:=by omega
   by_cases g1:1≤(s.size:Int)
   ·by_cases g2:(s.size:Int)≤12
    ·go_wp2_with fail
     go_ret;exact⟨Qb (Qc3 HA.out (by omega) (by omega)).symm,rfl⟩
    ·go_wp2_with fail
     go_ret;exact⟨Qb (UH (Or.inr (by omega))).symm,rfl⟩
   ·go_wp2_with fail
    go_ret;exact⟨Qb (UH (Or.inl (by omega))).symm,rfl⟩
theorem Qw (s:ByteArray) (w:World) (hs:s.size≤maxLen):Calls Tryz.prog 136 #[.string s] w fun e w'=>e= .returned (.bool (nmB s))∧w'=w:=by
 unfold maxLen at hs;by_cases g1:(s.size:Int)<1
 ·go_enter Tryz.func136,Tryz.ntmps136;go_wp2_with fail
  go_ret;exact⟨Qb (UH (Or.inl (by omega))).symm,rfl⟩
 by_cases g2:(12:Int)<(s.size:Int)
 ·go_enter Tryz.func136,Tryz.ntmps136;go_wp2_with fail
  go_ret;exact⟨Qb (UH (Or.inr (by omega))).symm,rfl⟩
 go_enter Tryz.func136,Tryz.ntmps136;go_wp2_with fail
 go_loopw [3] (fun i wr=> ∃k:Nat,k≤s.size∧i= .int .i64 k∧GD s k∧wr=w) (fun i _=>s.size-(intOf i).toNat)
 case atStart=>exact⟨0,Nat.zero_le _,rfl,UK s,rfl⟩
 case round=>
  obtain⟨k,hk,rfl,hall,hw⟩:=hrel;subst wr;have HA:Hid (GD s k):=hall;clear hall;by_cases hlt:k<s.size
  ·have h0:(0:Int)≤(k:Int):=by omega
   have h1:(k:Int)<(s.size:Int):=by omega
   by_cases hlo:((s[k]'hlt).toNat:Int)<97
   ·go_wp2_with fail
    go_ret;exact⟨Qb (DU hlt (Or.inl (by omega))).symm,rfl⟩
   by_cases hhi:(122:Int)<((s[k]'hlt).toNat:Int)
   ·go_wp2_with fail
    go_ret;exact⟨Qb (DU hlt (Or.inr (by omega))).symm,rfl⟩
   go_wp2_with fail
   go_roundw
   case rel=>exact⟨k+1,by omega,by go_num,UL hlt HA.out (by omega) (by omega),trivial⟩
   case measure=>simp [intOf];omega
  ·have h1: ¬(k:Int)<(s.size:Int):=by omega
   obtain rfl:k=s.size:=by omega
   go_wp2_with fail
   go_ret;exact⟨Qb (Qc3 HA.out (by omega) (by omega)).symm,rfl⟩
def cmC (k:Int) (nb b1 b2 b0 mb zb eo en ob:Bool):Bool:=if k=1 then nb&&(b1&&(b2&&(mb&&eo)))else if k=2 then nb&&(b1&&(b2&&(zb&&eo)))else if k=3 then nb&&(b0&&(zb&&ob))else if k=4 then en&&(b0&&(zb&&eo))else false
def cmB (k:Int) (s o:ByteArray) (b:Int) (mb:Bool) (n:Nat):Bool:=cmC k (nmB s) (decide (1≤b)) (decide (b≤1000000000)) (decide (b=0)) mb (decide (n=0)) o.toList.isEmpty s.toList.isEmpty (nmB o)
theorem Jb (w:World) (k:Int) (s o:ByteArray) (b:Int) (A:Option Addr) (n cap:Nat): ∃X,Hid (w.alloc (.cells #[.int .i64 k,.string s,.string o,.int .i64 b,.slice A n cap] 45)=X)∧X.cell? ⟨w.heap.size,0,none⟩=some (.int .i64 k)∧X.cell? ⟨w.heap.size,1,none⟩=some (.string s)∧X.cell? ⟨w.heap.size,2,none⟩=some (.string o)∧
  X.cell? ⟨w.heap.size,3,none⟩=some (.int .i64 b)∧X.cell? ⟨w.heap.size,4,none⟩=some (.slice A n cap)∧w.heap.size<X.heap.size∧Hid (Below w.heap.size w X):=
 ⟨_,rfl,by go_simp,by go_simp,by go_simp,by go_simp,by go_simp,by simp,by show Below _ _ _;go_grown⟩
theorem Qd {B:Nat} {w X:World} (h:Below B w X) (n:Nat):Below B w (X.drewN n):=⟨h.1,h.2,h.3,h.4,h.5⟩
theorem Ou (k:Int) (s o:ByteArray) (b:Int) (A:Option Addr) (n cap:Nat) (mb:Bool) (w:World) (hs:s.size≤maxLen) (ho:o.size≤maxLen)
  (HM: ∀W,Below w.heap.size w W→Calls Tryz.prog 19 #[.slice A n cap] W fun e w'=>e= .returned (.bool mb)∧Below W.heap.size W w'):
  Calls Tryz.prog 109 #[.agg #[.int .i64 k,.string s,.string o,.int .i64 b,.slice A n cap]] w fun e w'=>e= .returned (.bool (cmB k s o b mb n))∧Below w.heap.size w w':=by
 have HMM:Hid (∀W,Below w.heap.size w W→Calls Tryz.prog 19 #[.slice A n cap] W fun e w'=>e= .returned (.bool mb)∧Below W.heap.size W w'):=HM;have HS:Hid (s.size≤maxLen):=hs;have HO:Hid (o.size≤maxLen):=ho;obtain⟨nb,HNB⟩: ∃b,Hid (nmB s=b):=⟨_,rfl⟩;obtain⟨ob,HOB⟩: ∃b,Hid (nmB o=b):=⟨_,rfl⟩;clear HM hs ho;by_cases hb1:1≤b
 ·by_cases hb2:b≤1000000000
  ·have hb0: ¬b=0:=by omega
   have hbq:(b==0)=false:=by simpa using hb0
   go_enter Tryz.func109,Tryz.ntmps109;go_upto_region 1 with fail
   obtain⟨X,HX,c_0,c_1,c_2,c_3,c_4,zX,KX⟩:=Jb w k s o b A n cap;rw [HX.out];clear HX
   go_region_held3 (fun w'=>(∀bq oq,bq<X.heap.size→w'.cell? ⟨bq,oq,none⟩=X.cell? ⟨bq,oq,none⟩)∧X.heap.size≤w'.heap.size∧Below X.heap.size X w')
    (exact Qq (Nat.le_refl _) (by go_grown))
    (first | (go_at_call 140;refine(YU s _ HS.out).mono ?_;rintro e w1 ⟨rfl,hw⟩;subst w1;rw [HNB.out]))
   by_cases e1:k=1
   ·subst e1;cases nb
    ·go_wp2_with fail
     go_ret;exact⟨Qb (by simp [cmB,cmC,HNB.out,HOB.out, *]<;>(intros;omega)),by first | exact KX.out | exact Qd KX.out _⟩
    ·go_wp2_with fail
     refine(HMM.out _ (by first | exact KX.out | exact Qd KX.out _)).mono ?_;rintro e u ⟨rfl,hb⟩;replace c_2:u.cell? ⟨w.heap.size,2,none⟩=some (.string o):=cy hb c_2;have KU:Hid (Below w.heap.size w u):=Qc (by first | exact KX.out | exact Qd KX.out _) hb;have zU:w.heap.size<u.heap.size:=Nat.lt_of_lt_of_le zX hb.size;clear hb c_0 c_1 c_3 c_4;cases mb
     ·go_wp2_with fail
      go_ret;exact⟨Qb (by simp [cmB,cmC,HNB.out,HOB.out, *]<;>(intros;omega)),by first | exact KU.out | exact Qd KU.out _⟩
     ·cases eo:o.toList.isEmpty
      ·go_wp2_with fail
       go_ret;exact⟨Qb (by simp [cmB,cmC,HNB.out,HOB.out, *]<;>(intros;omega)),by first | exact KU.out | exact Qd KU.out _⟩
      ·go_wp2_with fail
       go_ret;exact⟨Qb (by simp [cmB,cmC,HNB.out,HOB.out, *]<;>(intros;omega)),by first | exact KU.out | exact Qd KU.out _⟩
   by_cases e2:k=2
   ·subst e2;cases nb
    ·go_wp2_with fail
     go_ret;exact⟨Qb (by simp [cmB,cmC,HNB.out,HOB.out, *]<;>(intros;omega)),by first | exact KX.out | exact Qd KX.out _⟩
    ·by_cases hn0:(n:Int)=0
     ·have hnn:n=0:=by omega
      have hnx:((n:Int)==0)=true:=by simpa using hn0
      cases eo:o.toList.isEmpty
      ·go_wp2_with fail
       go_ret;exact⟨Qb (by simp [cmB,cmC,HNB.out,HOB.out, *]<;>(intros;omega)),by first | exact KX.out | exact Qd KX.out _⟩
      ·go_wp2_with fail
       go_ret;exact⟨Qb (by simp [cmB,cmC,HNB.out,HOB.out, *]<;>(intros;omega)),by first | exact KX.out | exact Qd KX.out _⟩
     ·have hnn: ¬n=0:=by omega
      have hnx:((n:Int)==0)=false:=by simpa using hn0
      go_wp2_with fail
      go_ret;exact⟨Qb (by simp [cmB,cmC,HNB.out,HOB.out, *]<;>(intros;omega)),by first | exact KX.out | exact Qd KX.out _⟩
   by_cases e3:k=3
   ·subst e3;cases nb
    ·go_wp2_with fail
     go_ret;exact⟨Qb (by simp [cmB,cmC,HNB.out,HOB.out, *]<;>(intros;omega)),by first | exact KX.out | exact Qd KX.out _⟩
    ·go_wp2_with fail
     go_ret;exact⟨Qb (by simp [cmB,cmC,HNB.out,HOB.out, *]<;>(intros;omega)),by first | exact KX.out | exact Qd KX.out _⟩
   by_cases e4:k=4
   ·subst e4;cases en:s.toList.isEmpty
    ·go_wp2_with fail
     go_ret;exact⟨Qb (by simp [cmB,cmC,HNB.out,HOB.out, *]<;>(intros;omega)),by first | exact KX.out | exact Qd KX.out _⟩
    ·go_wp2_with fail
     go_ret;exact⟨Qb (by simp [cmB,cmC,HNB.out,HOB.out, *]<;>(intros;omega)),by first | exact KX.out | exact Qd KX.out _⟩
   have f1:(k==1)=false:=by simpa using e1
   have f2:(k==2)=false:=by simpa using e2
   have f3:(k==3)=false:=by simpa using e3
   have f4:(k==4)=false:=by simpa using e4
   go_wp2_with fail
   go_ret;exact⟨Qb (by simp [cmB,cmC,HNB.out,HOB.out, *]<;>(intros;omega)),by first | exact KX.out | exact Qd KX.out _⟩
  ·have hb0: ¬b=0:=by omega
   have hbq:(b==0)=false:=by simpa using hb0
   go_enter Tryz.func109,Tryz.ntmps109;go_upto_region 1 with fail
   obtain⟨X,HX,c_0,c_1,c_2,c_3,c_4,zX,KX⟩:=Jb w k s o b A n cap;rw [HX.out];clear HX
   go_region_held3 (fun w'=>(∀bq oq,bq<X.heap.size→w'.cell? ⟨bq,oq,none⟩=X.cell? ⟨bq,oq,none⟩)∧X.heap.size≤w'.heap.size∧Below X.heap.size X w')
    (exact Qq (Nat.le_refl _) (by go_grown))
    (first | (go_at_call 140;refine(YU s _ HS.out).mono ?_;rintro e w1 ⟨rfl,hw⟩;subst w1;rw [HNB.out]))
   by_cases e1:k=1
   ·subst e1;cases nb
    ·go_wp2_with fail
     go_ret;exact⟨Qb (by simp [cmB,cmC,HNB.out,HOB.out, *]<;>(intros;omega)),by first | exact KX.out | exact Qd KX.out _⟩
    ·go_wp2_with fail
     go_ret;exact⟨Qb (by simp [cmB,cmC,HNB.out,HOB.out, *]<;>(intros;omega)),by first | exact KX.out | exact Qd KX.out _⟩
   by_cases e2:k=2
   ·subst e2;cases nb
    ·go_wp2_with fail
     go_ret;exact⟨Qb (by simp [cmB,cmC,HNB.out,HOB.out, *]<;>(intros;omega)),by first | exact KX.out | exact Qd KX.out _⟩
    ·go_wp2_with fail
     go_ret;exact⟨Qb (by simp [cmB,cmC,HNB.out,HOB.out, *]<;>(intros;omega)),by first | exact KX.out | exact Qd KX.out _⟩
   by_cases e3:k=3
   ·subst e3;cases nb
    ·go_wp2_with fail
     go_ret;exact⟨Qb (by simp [cmB,cmC,HNB.out,HOB.out, *]<;>(intros;omega)),by first | exact KX.out | exact Qd KX.out _⟩
    ·go_wp2_with fail
     go_ret;exact⟨Qb (by simp [cmB,cmC,HNB.out,HOB.out, *]<;>(intros;omega)),by first | exact KX.out | exact Qd KX.out _⟩
   by_cases e4:k=4
   ·subst e4;cases en:s.toList.isEmpty
    ·go_wp2_with fail
     go_ret;exact⟨Qb (by simp [cmB,cmC,HNB.out,HOB.out, *]<;>(intros;omega)),by first | exact KX.out | exact Qd KX.out _⟩
    ·go_wp2_with fail
     go_ret;exact⟨Qb (by simp [cmB,cmC,HNB.out,HOB.out, *]<;>(intros;omega)),by first | exact KX.out | exact Qd KX.out _⟩
   have f1:(k==1)=false:=by simpa using e1
   have f2:(k==2)=false:=by simpa using e2
   have f3:(k==3)=false:=by simpa using e3
   have f4:(k==4)=false:=by simpa using e4
   go_wp2_with fail
   go_ret;exact⟨Qb (by simp [cmB,cmC,HNB.out,HOB.out, *]<;>(intros;omega)),by first | exact KX.out | exact Qd KX.out _⟩
 ·by_cases hb0:b=0
  ·subst hb0;go_enter Tryz.func109,Tryz.ntmps109;go_upto_region 1 with fail
   obtain⟨X,HX,c_0,c_1,c_2,c_3,c_4,zX,KX⟩:=Jb w k s o 0 A n cap;rw [HX.out];clear HX;refine wp_region_held_drew (S:=(fun w'=>(∀bq oq,bq<X.heap.size→w'.cell? ⟨bq,oq,none⟩=X.cell? ⟨bq,oq,none⟩)∧X.heap.size≤w'.heap.size∧Below X.heap.size X w')) (by kernel_rfl) (Qq (Nat.le_refl _) (Below.refl _ _).drew) (fun hHeld=> ?_);refine tkA 0 ?_;refine tkB 1 ?_;refine tkA 3 ?_
   refine tkB 4 ?_;refine tkB 5 ?_;refine rqA 2 (fun Kq hKq=> ?_);go_simp;refine(YU s _ HS.out).mono ?_;rintro e w1 ⟨rfl,hw⟩;subst w1
   rw [HNB.out];refine hkB hKq (Qq (Nat.le_refl _) (by go_grown)) fun hHeld=> ?_;clear hKq Kq;refine tkA 6 ?_;refine tnB 7 ?_;refine tnA 8 ?_;refine tnB 9 ?_
   refine tkA 10 ?_;refine tkB 11 ?_;refine tkB 12 ?_;refine wpAnyH_done (by kernel_rfl) ?_ _;clear hHeld;by_cases e1:k=1
   ·subst e1;cases nb
    ·go_wp2_with fail
     go_ret;exact⟨Qb (by simp [cmB,cmC,HNB.out,HOB.out, *]<;>(intros;omega)),by first | exact KX.out | exact Qd KX.out _⟩
    ·go_wp2_with fail
     go_ret;exact⟨Qb (by simp [cmB,cmC,HNB.out,HOB.out, *]<;>(intros;omega)),by first | exact KX.out | exact Qd KX.out _⟩
   by_cases e2:k=2
   ·subst e2;cases nb
    ·go_wp2_with fail
     go_ret;exact⟨Qb (by simp [cmB,cmC,HNB.out,HOB.out, *]<;>(intros;omega)),by first | exact KX.out | exact Qd KX.out _⟩
    ·go_wp2_with fail
     go_ret;exact⟨Qb (by simp [cmB,cmC,HNB.out,HOB.out, *]<;>(intros;omega)),by first | exact KX.out | exact Qd KX.out _⟩
   by_cases e3:k=3
   ·subst e3;cases nb
    ·go_wp2_with fail
     go_ret;exact⟨Qb (by simp [cmB,cmC,HNB.out,HOB.out, *]<;>(intros;omega)),by first | exact KX.out | exact Qd KX.out _⟩
    ·by_cases hn0:(n:Int)=0
     ·have hnn:n=0:=by omega
      have hnx:((n:Int)==0)=true:=by simpa using hn0
      go_wp2_with fail
      refine(YU o _ HO.out).mono ?_;rintro e u ⟨rfl,hw⟩;subst u;rw [HOB.out];go_wp2_with fail
      go_ret;exact⟨Qb (by simp [cmB,cmC,HNB.out,HOB.out, *]<;>(intros;omega)),by first | exact KX.out | exact Qd KX.out _⟩
     ·have hnn: ¬n=0:=by omega
      have hnx:((n:Int)==0)=false:=by simpa using hn0
      go_wp2_with fail
      go_ret;exact⟨Qb (by simp [cmB,cmC,HNB.out,HOB.out, *]<;>(intros;omega)),by first | exact KX.out | exact Qd KX.out _⟩
   by_cases e4:k=4
   ·subst e4;cases en:s.toList.isEmpty
    ·go_wp2_with fail
     go_ret;exact⟨Qb (by simp [cmB,cmC,HNB.out,HOB.out, *]<;>(intros;omega)),by first | exact KX.out | exact Qd KX.out _⟩
    ·by_cases hn0:(n:Int)=0
     ·have hnn:n=0:=by omega
      have hnx:((n:Int)==0)=true:=by simpa using hn0
      cases eo:o.toList.isEmpty
      ·go_wp2_with fail
       go_ret;exact⟨Qb (by simp [cmB,cmC,HNB.out,HOB.out, *]<;>(intros;omega)),by first | exact KX.out | exact Qd KX.out _⟩
      ·go_wp2_with fail
       go_ret;exact⟨Qb (by simp [cmB,cmC,HNB.out,HOB.out, *]<;>(intros;omega)),by first | exact KX.out | exact Qd KX.out _⟩
     ·have hnn: ¬n=0:=by omega
      have hnx:((n:Int)==0)=false:=by simpa using hn0
      go_wp2_with fail
      go_ret;exact⟨Qb (by simp [cmB,cmC,HNB.out,HOB.out, *]<;>(intros;omega)),by first | exact KX.out | exact Qd KX.out _⟩
   have f1:(k==1)=false:=by simpa using e1
   have f2:(k==2)=false:=by simpa using e2
   have f3:(k==3)=false:=by simpa using e3
   have f4:(k==4)=false:=by simpa using e4
   go_wp2_with fail
   go_ret;exact⟨Qb (by simp [cmB,cmC,HNB.out,HOB.out, *]<;>(intros;omega)),by first | exact KX.out | exact Qd KX.out _⟩
  ·have hbq:(b==0)=false:=by simpa using hb0
   go_enter Tryz.func109,Tryz.ntmps109;go_upto_region 1 with fail
   obtain⟨X,HX,c_0,c_1,c_2,c_3,c_4,zX,KX⟩:=Jb w k s o b A n cap;rw [HX.out];clear HX;refine wp_region_held_drew (S:=(fun w'=>(∀bq oq,bq<X.heap.size→w'.cell? ⟨bq,oq,none⟩=X.cell? ⟨bq,oq,none⟩)∧X.heap.size≤w'.heap.size∧Below X.heap.size X w')) (by kernel_rfl) (Qq (Nat.le_refl _) (Below.refl _ _).drew) (fun hHeld=> ?_);refine tkA 0 ?_;refine tkB 1 ?_;refine tkA 3 ?_
   refine tkB 4 ?_;refine tkB 5 ?_;refine rqA 2 (fun Kq hKq=> ?_);go_simp;refine(YU s _ HS.out).mono ?_;rintro e w1 ⟨rfl,hw⟩;subst w1
   rw [HNB.out];refine hkB hKq (Qq (Nat.le_refl _) (by go_grown)) fun hHeld=> ?_;clear hKq Kq;refine tkA 6 ?_;refine tnB 7 ?_;refine tnA 8 ?_;refine tnB 9 ?_
   refine tkA 10 ?_;refine tkB 11 ?_;refine tkB 12 ?_;refine wpAnyH_done (by kernel_rfl) ?_ _;clear hHeld;by_cases e1:k=1
   ·subst e1;cases nb
    ·go_wp2_with fail
     go_ret;exact⟨Qb (by simp [cmB,cmC,HNB.out,HOB.out, *]<;>(intros;omega)),by first | exact KX.out | exact Qd KX.out _⟩
    ·go_wp2_with fail
     go_ret;exact⟨Qb (by simp [cmB,cmC,HNB.out,HOB.out, *]<;>(intros;omega)),by first | exact KX.out | exact Qd KX.out _⟩
   by_cases e2:k=2
   ·subst e2;cases nb
    ·go_wp2_with fail
     go_ret;exact⟨Qb (by simp [cmB,cmC,HNB.out,HOB.out, *]<;>(intros;omega)),by first | exact KX.out | exact Qd KX.out _⟩
    ·go_wp2_with fail
     go_ret;exact⟨Qb (by simp [cmB,cmC,HNB.out,HOB.out, *]<;>(intros;omega)),by first | exact KX.out | exact Qd KX.out _⟩
   by_cases e3:k=3
   ·subst e3;cases nb
    ·go_wp2_with fail
     go_ret;exact⟨Qb (by simp [cmB,cmC,HNB.out,HOB.out, *]<;>(intros;omega)),by first | exact KX.out | exact Qd KX.out _⟩
    ·go_wp2_with fail
     go_ret;exact⟨Qb (by simp [cmB,cmC,HNB.out,HOB.out, *]<;>(intros;omega)),by first | exact KX.out | exact Qd KX.out _⟩
   by_cases e4:k=4
   ·subst e4;cases en:s.toList.isEmpty
    ·go_wp2_with fail
     go_ret;exact⟨Qb (by simp [cmB,cmC,HNB.out,HOB.out, *]<;>(intros;omega)),by first | exact KX.out | exact Qd KX.out _⟩
    ·go_wp2_with fail
     go_ret;exact⟨Qb (by simp [cmB,cmC,HNB.out,HOB.out, *]<;>(intros;omega)),by first | exact KX.out | exact Qd KX.out _⟩
   have f1:(k==1)=false:=by simpa using e1
   have f2:(k==2)=false:=by simpa using e2
   have f3:(k==3)=false:=by simpa using e3
   have f4:(k==4)=false:=by simpa using e4
   go_wp2_with fail
   go_ret;exact⟨Qb (by simp [cmB,cmC,HNB.out,HOB.out, *]<;>(intros;omega)),by first | exact KX.out | exact Qd KX.out _⟩
theorem ZL (n lo hi:Int) (w:World):Calls Tryz.prog 55 #[.int .i64 n,.int .i64 lo,.int .i64 hi] w fun e w'=>e= .returned (.bool (decide (lo≤n)&&decide (n≤hi)))∧w'=w:=by
 by_cases h1:lo≤n
 ·by_cases h2:n≤hi
  ·go_enter Tryz.func55,Tryz.ntmps55;go_wp2_with fail
   go_ret;exact⟨Qb (by simp [h1,h2]),rfl⟩
  ·go_enter Tryz.func55,Tryz.ntmps55;go_wp2_with fail
   go_ret;exact⟨Qb (by simp;omega),rfl⟩
 ·go_enter Tryz.func55,Tryz.ntmps55;go_wp2_with fail
  go_ret;exact⟨Qb (by simp;omega),rfl⟩
theorem Ok (k:Int) (s o:ByteArray) (b:Int) (A:Option Addr) (n cap:Nat) (mb:Bool) (w:World) (hs:s.size≤maxLen) (ho:o.size≤maxLen)
  (HM: ∀W,Below w.heap.size w W→Calls Tryz.prog 20 #[.slice A n cap] W fun e w'=>e= .returned (.bool mb)∧Below W.heap.size W w'):
  Calls Tryz.prog 105 #[.agg #[.int .i64 k,.string s,.string o,.int .i64 b,.slice A n cap]] w fun e w'=>e= .returned (.bool (cmB k s o b mb n))∧Below w.heap.size w w':=by
 have HMM:Hid (∀W,Below w.heap.size w W→Calls Tryz.prog 20 #[.slice A n cap] W fun e w'=>e= .returned (.bool mb)∧Below W.heap.size W w'):=HM;have HS:Hid (s.size≤maxLen):=hs;have HO:Hid (o.size≤maxLen):=ho;obtain⟨nb,HNB⟩: ∃b,Hid (nmB s=b):=⟨_,rfl⟩;obtain⟨ob,HOB⟩: ∃b,Hid (nmB o=b):=⟨_,rfl⟩;clear HM hs ho;by_cases hb1:1≤b
 ·by_cases hb2:b≤1000000000
  ·have hb0: ¬b=0:=by omega
   have hbq:(b==0)=false:=by simpa using hb0
   go_enter Tryz.func105,Tryz.ntmps105;go_upto_region 1 with fail
   obtain⟨X,HX,c_0,c_1,c_2,c_3,c_4,zX,KX⟩:=Jb w k s o b A n cap;rw [HX.out];clear HX;by_cases e1:k=1
   ·subst e1;go_wp2_with fail
    refine(Qw s _ HS.out).mono ?_;rintro e u ⟨rfl,hw⟩;subst u;rw [HNB.out];cases nb
    ·go_wp2_with fail
     go_ret;exact⟨Qb (by simp [cmB,cmC,HNB.out,HOB.out, *]<;>(intros;omega)),by first | exact KX.out | exact Qd KX.out _⟩
    ·cases eo:o.toList.isEmpty
     ·go_wp2_with fail
      go_ret;exact⟨Qb (by simp [cmB,cmC,HNB.out,HOB.out, *]<;>(intros;omega)),by first | exact KX.out | exact Qd KX.out _⟩
     ·go_wp2_with fail
      refine(ZL b 1 1000000000 _).mono ?_;rintro e u ⟨rfl,hw⟩;subst u;go_wp2_with fail
      refine(HMM.out _ (by first | exact KX.out | exact Qd KX.out _)).mono ?_;rintro e u ⟨rfl,hb⟩;replace c_2:u.cell? ⟨w.heap.size,2,none⟩=some (.string o):=cy hb c_2;have KU:Hid (Below w.heap.size w u):=Qc (by first | exact KX.out | exact Qd KX.out _) hb;have zU:w.heap.size<u.heap.size:=Nat.lt_of_lt_of_le zX hb.size;clear hb c_0 c_1 c_3 c_4;cases mb
      ·go_wp2_with fail
       go_ret;exact⟨Qb (by simp [cmB,cmC,HNB.out,HOB.out, *]<;>(intros;omega)),by first | exact KU.out | exact Qd KU.out _⟩
      ·go_wp2_with fail
       go_ret;exact⟨Qb (by simp [cmB,cmC,HNB.out,HOB.out, *]<;>(intros;omega)),by first | exact KU.out | exact Qd KU.out _⟩
   by_cases e2:k=2
   ·subst e2;go_wp2_with fail
    refine(Qw s _ HS.out).mono ?_;rintro e u ⟨rfl,hw⟩;subst u;rw [HNB.out];cases nb
    ·go_wp2_with fail
     go_ret;exact⟨Qb (by simp [cmB,cmC,HNB.out,HOB.out, *]<;>(intros;omega)),by first | exact KX.out | exact Qd KX.out _⟩
    ·cases eo:o.toList.isEmpty
     ·go_wp2_with fail
      go_ret;exact⟨Qb (by simp [cmB,cmC,HNB.out,HOB.out, *]<;>(intros;omega)),by first | exact KX.out | exact Qd KX.out _⟩
     ·go_wp2_with fail
      refine(ZL b 1 1000000000 _).mono ?_;rintro e u ⟨rfl,hw⟩;subst u;by_cases hn0:(n:Int)=0
      ·have hnn:n=0:=by omega
       have hnx:((n:Int)==0)=true:=by simpa using hn0
       go_wp2_with fail
       go_ret;exact⟨Qb (by simp [cmB,cmC,HNB.out,HOB.out, *]<;>(intros;omega)),by first | exact KX.out | exact Qd KX.out _⟩
      ·have hnn: ¬n=0:=by omega
       have hnx:((n:Int)==0)=false:=by simpa using hn0
       go_wp2_with fail
       go_ret;exact⟨Qb (by simp [cmB,cmC,HNB.out,HOB.out, *]<;>(intros;omega)),by first | exact KX.out | exact Qd KX.out _⟩
   by_cases e3:k=3
   ·subst e3;go_wp2_with fail
    refine(Qw s _ HS.out).mono ?_;rintro e u ⟨rfl,hw⟩;subst u;rw [HNB.out];cases nb
    ·go_wp2_with fail
     go_ret;exact⟨Qb (by simp [cmB,cmC,HNB.out,HOB.out, *]<;>(intros;omega)),by first | exact KX.out | exact Qd KX.out _⟩
    ·go_wp2_with fail
     refine(Qw o _ HO.out).mono ?_;rintro e u ⟨rfl,hw⟩;subst u;rw [HOB.out];cases ob
     ·go_wp2_with fail
      go_ret;exact⟨Qb (by simp [cmB,cmC,HNB.out,HOB.out, *]<;>(intros;omega)),by first | exact KX.out | exact Qd KX.out _⟩
     ·go_wp2_with fail
      go_ret;exact⟨Qb (by simp [cmB,cmC,HNB.out,HOB.out, *]<;>(intros;omega)),by first | exact KX.out | exact Qd KX.out _⟩
   by_cases e4:k=4
   ·subst e4;cases en:s.toList.isEmpty
    ·go_wp2_with fail
     go_ret;exact⟨Qb (by simp [cmB,cmC,HNB.out,HOB.out, *]<;>(intros;omega)),by first | exact KX.out | exact Qd KX.out _⟩
    ·cases eo:o.toList.isEmpty
     ·go_wp2_with fail
      go_ret;exact⟨Qb (by simp [cmB,cmC,HNB.out,HOB.out, *]<;>(intros;omega)),by first | exact KX.out | exact Qd KX.out _⟩
     ·go_wp2_with fail
      go_ret;exact⟨Qb (by simp [cmB,cmC,HNB.out,HOB.out, *]<;>(intros;omega)),by first | exact KX.out | exact Qd KX.out _⟩
   have f1:(k==1)=false:=by simpa using e1
   have f2:(k==2)=false:=by simpa using e2
   have f3:(k==3)=false:=by simpa using e3
   have f4:(k==4)=false:=by simpa using e4
   go_wp2_with fail
   go_ret;exact⟨Qb (by simp [cmB,cmC,HNB.out,HOB.out, *]<;>(intros;omega)),by first | exact KX.out | exact Qd KX.out _⟩
  ·have hb0: ¬b=0:=by omega
   have hbq:(b==0)=false:=by simpa using hb0
   go_enter Tryz.func105,Tryz.ntmps105;go_upto_region 1 with fail
   obtain⟨X,HX,c_0,c_1,c_2,c_3,c_4,zX,KX⟩:=Jb w k s o b A n cap;rw [HX.out];clear HX;by_cases e1:k=1
   ·subst e1;go_wp2_with fail
    refine(Qw s _ HS.out).mono ?_;rintro e u ⟨rfl,hw⟩;subst u;rw [HNB.out];cases nb
    ·go_wp2_with fail
     go_ret;exact⟨Qb (by simp [cmB,cmC,HNB.out,HOB.out, *]<;>(intros;omega)),by first | exact KX.out | exact Qd KX.out _⟩
    ·cases eo:o.toList.isEmpty
     ·go_wp2_with fail
      go_ret;exact⟨Qb (by simp [cmB,cmC,HNB.out,HOB.out, *]<;>(intros;omega)),by first | exact KX.out | exact Qd KX.out _⟩
     ·go_wp2_with fail
      refine(ZL b 1 1000000000 _).mono ?_;rintro e u ⟨rfl,hw⟩;subst u;go_wp2_with fail
      go_ret;exact⟨Qb (by simp [cmB,cmC,HNB.out,HOB.out, *]<;>(intros;omega)),by first | exact KX.out | exact Qd KX.out _⟩
   by_cases e2:k=2
   ·subst e2;go_wp2_with fail
    refine(Qw s _ HS.out).mono ?_;rintro e u ⟨rfl,hw⟩;subst u;rw [HNB.out];cases nb
    ·go_wp2_with fail
     go_ret;exact⟨Qb (by simp [cmB,cmC,HNB.out,HOB.out, *]<;>(intros;omega)),by first | exact KX.out | exact Qd KX.out _⟩
    ·cases eo:o.toList.isEmpty
     ·go_wp2_with fail
      go_ret;exact⟨Qb (by simp [cmB,cmC,HNB.out,HOB.out, *]<;>(intros;omega)),by first | exact KX.out | exact Qd KX.out _⟩
     ·go_wp2_with fail
      refine(ZL b 1 1000000000 _).mono ?_;rintro e u ⟨rfl,hw⟩;subst u;go_wp2_with fail
      go_ret;exact⟨Qb (by simp [cmB,cmC,HNB.out,HOB.out, *]<;>(intros;omega)),by first | exact KX.out | exact Qd KX.out _⟩
   by_cases e3:k=3
   ·subst e3;go_wp2_with fail
    refine(Qw s _ HS.out).mono ?_;rintro e u ⟨rfl,hw⟩;subst u;rw [HNB.out];cases nb
    ·go_wp2_with fail
     go_ret;exact⟨Qb (by simp [cmB,cmC,HNB.out,HOB.out, *]<;>(intros;omega)),by first | exact KX.out | exact Qd KX.out _⟩
    ·go_wp2_with fail
     refine(Qw o _ HO.out).mono ?_;rintro e u ⟨rfl,hw⟩;subst u;rw [HOB.out];cases ob
     ·go_wp2_with fail
      go_ret;exact⟨Qb (by simp [cmB,cmC,HNB.out,HOB.out, *]<;>(intros;omega)),by first | exact KX.out | exact Qd KX.out _⟩
     ·go_wp2_with fail
      go_ret;exact⟨Qb (by simp [cmB,cmC,HNB.out,HOB.out, *]<;>(intros;omega)),by first | exact KX.out | exact Qd KX.out _⟩
   by_cases e4:k=4
   ·subst e4;cases en:s.toList.isEmpty
    ·go_wp2_with fail
     go_ret;exact⟨Qb (by simp [cmB,cmC,HNB.out,HOB.out, *]<;>(intros;omega)),by first | exact KX.out | exact Qd KX.out _⟩
    ·cases eo:o.toList.isEmpty
     ·go_wp2_with fail
      go_ret;exact⟨Qb (by simp [cmB,cmC,HNB.out,HOB.out, *]<;>(intros;omega)),by first | exact KX.out | exact Qd KX.out _⟩
     ·go_wp2_with fail
      go_ret;exact⟨Qb (by simp [cmB,cmC,HNB.out,HOB.out, *]<;>(intros;omega)),by first | exact KX.out | exact Qd KX.out _⟩
   have f1:(k==1)=false:=by simpa using e1
   have f2:(k==2)=false:=by simpa using e2
   have f3:(k==3)=false:=by simpa using e3
   have f4:(k==4)=false:=by simpa using e4
   go_wp2_with fail
   go_ret;exact⟨Qb (by simp [cmB,cmC,HNB.out,HOB.out, *]<;>(intros;omega)),by first | exact KX.out | exact Qd KX.out _⟩
 ·by_cases hb0:b=0
  ·subst hb0;go_enter Tryz.func105,Tryz.ntmps105;go_upto_region 1 with fail
   obtain⟨X,HX,c_0,c_1,c_2,c_3,c_4,zX,KX⟩:=Jb w k s o 0 A n cap;rw [HX.out];clear HX;by_cases e1:k=1
   ·subst e1;go_wp2_with fail
    refine(Qw s _ HS.out).mono ?_;rintro e u ⟨rfl,hw⟩;subst u;rw [HNB.out];cases nb
    ·go_wp2_with fail
     go_ret;exact⟨Qb (by simp [cmB,cmC,HNB.out,HOB.out, *]<;>(intros;omega)),by first | exact KX.out | exact Qd KX.out _⟩
    ·cases eo:o.toList.isEmpty
     ·go_wp2_with fail
      go_ret;exact⟨Qb (by simp [cmB,cmC,HNB.out,HOB.out, *]<;>(intros;omega)),by first | exact KX.out | exact Qd KX.out _⟩
     ·go_wp2_with fail
      refine(ZL 0 1 1000000000 _).mono ?_;rintro e u ⟨rfl,hw⟩;subst u;go_wp2_with fail
      go_ret;exact⟨Qb (by simp [cmB,cmC,HNB.out,HOB.out, *]<;>(intros;omega)),by first | exact KX.out | exact Qd KX.out _⟩
   by_cases e2:k=2
   ·subst e2;go_wp2_with fail
    refine(Qw s _ HS.out).mono ?_;rintro e u ⟨rfl,hw⟩;subst u;rw [HNB.out];cases nb
    ·go_wp2_with fail
     go_ret;exact⟨Qb (by simp [cmB,cmC,HNB.out,HOB.out, *]<;>(intros;omega)),by first | exact KX.out | exact Qd KX.out _⟩
    ·cases eo:o.toList.isEmpty
     ·go_wp2_with fail
      go_ret;exact⟨Qb (by simp [cmB,cmC,HNB.out,HOB.out, *]<;>(intros;omega)),by first | exact KX.out | exact Qd KX.out _⟩
     ·go_wp2_with fail
      refine(ZL 0 1 1000000000 _).mono ?_;rintro e u ⟨rfl,hw⟩;subst u;go_wp2_with fail
      go_ret;exact⟨Qb (by simp [cmB,cmC,HNB.out,HOB.out, *]<;>(intros;omega)),by first | exact KX.out | exact Qd KX.out _⟩
   by_cases e3:k=3
   ·subst e3;go_wp2_with fail
    refine(Qw s _ HS.out).mono ?_;rintro e u ⟨rfl,hw⟩;subst u;rw [HNB.out];cases nb
    ·go_wp2_with fail
     go_ret;exact⟨Qb (by simp [cmB,cmC,HNB.out,HOB.out, *]<;>(intros;omega)),by first | exact KX.out | exact Qd KX.out _⟩
    ·go_wp2_with fail
     refine(Qw o _ HO.out).mono ?_;rintro e u ⟨rfl,hw⟩;subst u;rw [HOB.out];cases ob
     ·go_wp2_with fail
      go_ret;exact⟨Qb (by simp [cmB,cmC,HNB.out,HOB.out, *]<;>(intros;omega)),by first | exact KX.out | exact Qd KX.out _⟩
     ·by_cases hn0:(n:Int)=0
      ·have hnn:n=0:=by omega
       have hnx:((n:Int)==0)=true:=by simpa using hn0
       go_wp2_with fail
       go_ret;exact⟨Qb (by simp [cmB,cmC,HNB.out,HOB.out, *]<;>(intros;omega)),by first | exact KX.out | exact Qd KX.out _⟩
      ·have hnn: ¬n=0:=by omega
       have hnx:((n:Int)==0)=false:=by simpa using hn0
       go_wp2_with fail
       go_ret;exact⟨Qb (by simp [cmB,cmC,HNB.out,HOB.out, *]<;>(intros;omega)),by first | exact KX.out | exact Qd KX.out _⟩
   by_cases e4:k=4
   ·subst e4;cases en:s.toList.isEmpty
    ·go_wp2_with fail
     go_ret;exact⟨Qb (by simp [cmB,cmC,HNB.out,HOB.out, *]<;>(intros;omega)),by first | exact KX.out | exact Qd KX.out _⟩
    ·cases eo:o.toList.isEmpty
     ·go_wp2_with fail
      go_ret;exact⟨Qb (by simp [cmB,cmC,HNB.out,HOB.out, *]<;>(intros;omega)),by first | exact KX.out | exact Qd KX.out _⟩
     ·by_cases hn0:(n:Int)=0
      ·have hnn:n=0:=by omega
       have hnx:((n:Int)==0)=true:=by simpa using hn0
       go_wp2_with fail
       go_ret;exact⟨Qb (by simp [cmB,cmC,HNB.out,HOB.out, *]<;>(intros;omega)),by first | exact KX.out | exact Qd KX.out _⟩
      ·have hnn: ¬n=0:=by omega
       have hnx:((n:Int)==0)=false:=by simpa using hn0
       go_wp2_with fail
       go_ret;exact⟨Qb (by simp [cmB,cmC,HNB.out,HOB.out, *]<;>(intros;omega)),by first | exact KX.out | exact Qd KX.out _⟩
   have f1:(k==1)=false:=by simpa using e1
   have f2:(k==2)=false:=by simpa using e2
   have f3:(k==3)=false:=by simpa using e3
   have f4:(k==4)=false:=by simpa using e4
   go_wp2_with fail
   go_ret;exact⟨Qb (by simp [cmB,cmC,HNB.out,HOB.out, *]<;>(intros;omega)),by first | exact KX.out | exact Qd KX.out _⟩
  ·have hbq:(b==0)=false:=by simpa using hb0
   go_enter Tryz.func105,Tryz.ntmps105;go_upto_region 1 with fail
   obtain⟨X,HX,c_0,c_1,c_2,c_3,c_4,zX,KX⟩:=Jb w k s o b A n cap;rw [HX.out];clear HX;by_cases e1:k=1
   ·subst e1;go_wp2_with fail
    refine(Qw s _ HS.out).mono ?_;rintro e u ⟨rfl,hw⟩;subst u;rw [HNB.out];cases nb
    ·go_wp2_with fail
     go_ret;exact⟨Qb (by simp [cmB,cmC,HNB.out,HOB.out, *]<;>(intros;omega)),by first | exact KX.out | exact Qd KX.out _⟩
    ·cases eo:o.toList.isEmpty
     ·go_wp2_with fail
      go_ret;exact⟨Qb (by simp [cmB,cmC,HNB.out,HOB.out, *]<;>(intros;omega)),by first | exact KX.out | exact Qd KX.out _⟩
     ·go_wp2_with fail
      refine(ZL b 1 1000000000 _).mono ?_;rintro e u ⟨rfl,hw⟩;subst u;go_wp2_with fail
      go_ret;exact⟨Qb (by simp [cmB,cmC,HNB.out,HOB.out, *]<;>(intros;omega)),by first | exact KX.out | exact Qd KX.out _⟩
   by_cases e2:k=2
   ·subst e2;go_wp2_with fail
    refine(Qw s _ HS.out).mono ?_;rintro e u ⟨rfl,hw⟩;subst u;rw [HNB.out];cases nb
    ·go_wp2_with fail
     go_ret;exact⟨Qb (by simp [cmB,cmC,HNB.out,HOB.out, *]<;>(intros;omega)),by first | exact KX.out | exact Qd KX.out _⟩
    ·cases eo:o.toList.isEmpty
     ·go_wp2_with fail
      go_ret;exact⟨Qb (by simp [cmB,cmC,HNB.out,HOB.out, *]<;>(intros;omega)),by first | exact KX.out | exact Qd KX.out _⟩
     ·go_wp2_with fail
      refine(ZL b 1 1000000000 _).mono ?_;rintro e u ⟨rfl,hw⟩;subst u;go_wp2_with fail
      go_ret;exact⟨Qb (by simp [cmB,cmC,HNB.out,HOB.out, *]<;>(intros;omega)),by first | exact KX.out | exact Qd KX.out _⟩
   by_cases e3:k=3
   ·subst e3;go_wp2_with fail
    refine(Qw s _ HS.out).mono ?_;rintro e u ⟨rfl,hw⟩;subst u;rw [HNB.out];cases nb
    ·go_wp2_with fail
     go_ret;exact⟨Qb (by simp [cmB,cmC,HNB.out,HOB.out, *]<;>(intros;omega)),by first | exact KX.out | exact Qd KX.out _⟩
    ·go_wp2_with fail
     refine(Qw o _ HO.out).mono ?_;rintro e u ⟨rfl,hw⟩;subst u;rw [HOB.out];cases ob
     ·go_wp2_with fail
      go_ret;exact⟨Qb (by simp [cmB,cmC,HNB.out,HOB.out, *]<;>(intros;omega)),by first | exact KX.out | exact Qd KX.out _⟩
     ·go_wp2_with fail
      go_ret;exact⟨Qb (by simp [cmB,cmC,HNB.out,HOB.out, *]<;>(intros;omega)),by first | exact KX.out | exact Qd KX.out _⟩
   by_cases e4:k=4
   ·subst e4;cases en:s.toList.isEmpty
    ·go_wp2_with fail
     go_ret;exact⟨Qb (by simp [cmB,cmC,HNB.out,HOB.out, *]<;>(intros;omega)),by first | exact KX.out | exact Qd KX.out _⟩
    ·cases eo:o.toList.isEmpty
     ·go_wp2_with fail
      go_ret;exact⟨Qb (by simp [cmB,cmC,HNB.out,HOB.out, *]<;>(intros;omega)),by first | exact KX.out | exact Qd KX.out _⟩
     ·go_wp2_with fail
      go_ret;exact⟨Qb (by simp [cmB,cmC,HNB.out,HOB.out, *]<;>(intros;omega)),by first | exact KX.out | exact Qd KX.out _⟩
   have f1:(k==1)=false:=by simpa using e1
   have f2:(k==2)=false:=by simpa using e2
   have f3:(k==3)=false:=by simpa using e3
   have f4:(k==4)=false:=by simpa using e4
   go_wp2_with fail
   go_ret;exact⟨Qb (by simp [cmB,cmC,HNB.out,HOB.out, *]<;>(intros;omega)),by first | exact KX.out | exact Qd KX.out _⟩
def cmX (k:Int) (s o D M:ByteArray):ByteArray:=if k=1 then(⟨#[114,117,110,32]⟩:ByteArray)++s++⟨#[32]⟩++D++⟨#[10]⟩++M else if k=2 then(⟨#[98,114,97,110,99,104,32]⟩:ByteArray)++s++⟨#[32]⟩++D++⟨#[10]⟩else if k=3 then(⟨#[109,101,114,103,101,32]⟩:ByteArray)++s++⟨#[32]⟩++o++⟨#[10]⟩else⟨#[115,119,101,101,112,10]⟩
def cmT (k:Int) (s o:ByteArray) (b:Int) (mb:Bool) (n:Nat) (D M:ByteArray):ByteArray:=if cmB k s o b mb n=true then cmX k s o D M else⟨#[]⟩
theorem Qj6 {k:Int} {s o:ByteArray} {b:Int} {mb:Bool} {n:Nat} {D M:ByteArray} (h:cmB k s o b mb n=false):cmT k s o b mb n D M=⟨#[]⟩:=by rw [cmT,if_neg (by rw [h];simp)]
theorem Qdt {k:Int} {s o:ByteArray} {b:Int} {mb:Bool} {n:Nat} {D M:ByteArray} (h:cmB k s o b mb n=true):cmT k s o b mb n D M=cmX k s o D M:=by rw [cmT,if_pos h]
theorem Qds {k:Int} {s o:ByteArray} {b:Int} {mb:Bool} {n:Nat} (h:cmB k s o b mb n=true):(k=1∧nmB s=true∧1≤b∧b≤1000000000∧mb=true)∨(k=2∧nmB s=true∧1≤b∧b≤1000000000)∨(k=3∧nmB s=true∧nmB o=true)∨k=4:=by
 unfold cmB cmC at h;by_cases e1:k=1
 ·rw [if_pos e1]at h;simp only [Bool.and_eq_true,decide_eq_true_eq]at h;exact Or.inl ⟨e1,h.1,h.2.1,h.2.2.1,h.2.2.2.1⟩
 rw [if_neg e1]at h;by_cases e2:k=2
 ·rw [if_pos e2]at h;simp only [Bool.and_eq_true,decide_eq_true_eq]at h;exact Or.inr (Or.inl ⟨e2,h.1,h.2.1,h.2.2.1⟩)
 rw [if_neg e2]at h;by_cases e3:k=3
 ·rw [if_pos e3]at h;simp only [Bool.and_eq_true,decide_eq_true_eq]at h;exact Or.inr (Or.inr (Or.inl ⟨e3,h.1,h.2.2.2⟩))
 rw [if_neg e3]at h;by_cases e4:k=4
 ·exact Or.inr (Or.inr (Or.inr e4))
 rw [if_neg e4]at h;cases h
theorem YW {a b:ByteArray} (h:a=b):Ending.returned (.string a)= .returned (.string b):=by rw [h]
theorem Qko (k:Int) (s o:ByteArray) (b:Int) (A:Option Addr) (n cap:Nat) (mb:Bool) (D M:ByteArray) (w:World) (hs:s.size≤maxLen) (ho:o.size≤maxLen) (hD:D.size≤30) (hM:M.size≤100000000)
  (HM: ∀W,Below w.heap.size w W→Calls Tryz.prog 19 #[.slice A n cap] W fun e w'=>e= .returned (.bool mb)∧Below W.heap.size W w')
  (HD:1≤b→b≤1000000000→ ∀W,Below w.heap.size w W→Calls Tryz.prog 84 #[.int .i64 b] W fun e w'=>e= .returned (.string D)∧Below W.heap.size W w')
  (HT:mb=true→ ∀W,Below w.heap.size w W→Calls Tryz.prog 16 #[.slice A n cap] W fun e w'=>e= .returned (.string M)∧Below W.heap.size W w'):
  Calls Tryz.prog 66 #[.agg #[.int .i64 k,.string s,.string o,.int .i64 b,.slice A n cap]] w fun e w'=>e= .returned (.string (cmT k s o b mb n D M))∧Below w.heap.size w w':=by
 have HCR:Hid (∀W,Below w.heap.size w W→Calls Tryz.prog 109 #[.agg #[.int .i64 k,.string s,.string o,.int .i64 b,.slice A n cap]] W fun e w'=>e= .returned (.bool (cmB k s o b mb n))∧Below W.heap.size W w'):=fun W hW=>Ou k s o b A n cap mb W hs ho (fun W' hW'=>HM W' (Qc hW hW'));have HDD:Hid (1≤b→b≤1000000000→ ∀W,Below w.heap.size w W→Calls Tryz.prog 84 #[.int .i64 b] W fun e w'=>e= .returned (.string D)∧Below W.heap.size W w'):=HD;have HTT:Hid (mb=true→ ∀W,Below w.heap.size w W→Calls Tryz.prog 16 #[.slice A n cap] W fun e w'=>e= .returned (.string M)∧Below W.heap.size W w'):=HT;have HDS:Hid (D.size≤30):=hD;have HMS:Hid (M.size≤100000000):=hM;clear HM HD HT hs ho hD hM;obtain⟨cb,HCB⟩: ∃c,Hid (cmB k s o b mb n=c):=⟨_,rfl⟩
 go_enter Tryz.func66,Tryz.ntmps66;go_wp2_with fail
 obtain⟨X,HX,c_0,c_1,c_2,c_3,c_4,zX,KX⟩:=Jb w k s o b A n cap;rw [HX.out];clear HX;refine(HCR.out _ KX.out).mono ?_;rintro e u ⟨rfl,hb⟩;rw [HCB.out];replace c_0:=cy hb c_0
 replace c_1:=cy hb c_1;replace c_2:=cy hb c_2;replace c_3:=cy hb c_3;replace c_4:=cy hb c_4;replace zX:w.heap.size<u.heap.size:=Nat.lt_of_lt_of_le zX hb.size;have KU:=hd (Qc KX.out hb);clear hb HCR KX
 cases cb
 ·go_wp2_with fail
  go_ret;exact⟨YW (Qj6 HCB.out).symm,KU.out⟩
 have HE:Hid (cmT k s o b mb n D M=cmX k s o D M):=Qdt HCB.out;rcases Qds HCB.out with⟨rfl,hn,hb1,hb2,hmb⟩ | ⟨rfl,hn,hb1,hb2⟩ | ⟨rfl,hn,hno⟩ | rfl
 ·have hsz:=(YZ hn).2;have hD:=HDS.out;have hM:=HMS.out;have q1:(⟨#[114,117,110,32]⟩:ByteArray).size=4:=rfl;have q2:(⟨#[32]⟩:ByteArray).size=1:=rfl;have q3:(⟨#[10]⟩:ByteArray).size=1:=rfl;have r1: ∀W,(Op.stringOp .add (⟨#[114,117,110,32]⟩:ByteArray) s).run Tryz.prog W= .ok (.string ((⟨#[114,117,110,32]⟩:ByteArray)++s)) W:=fun W=>run_string_add_sum W _ _ (by rw [q1];omega)
  have r2: ∀W,(Op.stringOp .add ((⟨#[114,117,110,32]⟩:ByteArray)++s) (⟨#[32]⟩:ByteArray)).run Tryz.prog W= .ok (.string ((⟨#[114,117,110,32]⟩:ByteArray)++s++(⟨#[32]⟩:ByteArray))) W:=fun W=>run_string_add_sum W _ _ (by simp only [ByteArray.size_append,q1,q2];omega);have r3: ∀W,(Op.stringOp .add ((⟨#[114,117,110,32]⟩:ByteArray)++s++(⟨#[32]⟩:ByteArray)) D).run Tryz.prog W= .ok (.string ((⟨#[114,117,110,32]⟩:ByteArray)++s++(⟨#[32]⟩:ByteArray)++D)) W:=fun W=>run_string_add_sum W _ _ (by simp only [ByteArray.size_append,q1,q2];omega);have r4: ∀W,(Op.stringOp .add ((⟨#[114,117,110,32]⟩:ByteArray)++s++(⟨#[32]⟩:ByteArray)++D) (⟨#[10]⟩:ByteArray)).run Tryz.prog W= .ok (.string ((⟨#[114,117,110,32]⟩:ByteArray)++s++(⟨#[32]⟩:ByteArray)++D++(⟨#[10]⟩:ByteArray))) W:=fun W=>run_string_add_sum W _ _ (by simp only [ByteArray.size_append,q1,q2,q3];omega);have r5: ∀W,(Op.stringOp .add ((⟨#[114,117,110,32]⟩:ByteArray)++s++(⟨#[32]⟩:ByteArray)++D++(⟨#[10]⟩:ByteArray)) M).run Tryz.prog W= .ok (.string ((⟨#[114,117,110,32]⟩:ByteArray)++s++(⟨#[32]⟩:ByteArray)++D++(⟨#[10]⟩:ByteArray)++M)) W:=fun W=>run_string_add_sum W _ _ (by simp only [ByteArray.size_append,q1,q2,q3];omega);have HE1:Hid (cmX 1 s o D M=(⟨#[114,117,110,32]⟩:ByteArray)++s++(⟨#[32]⟩:ByteArray)++D++(⟨#[10]⟩:ByteArray)++M):=rfl;have HB1:Hid (1≤b):=hb1;have HB2:Hid (b≤1000000000):=hb2
  have HMB:Hid (mb=true):=hmb;clear hsz hD hM q1 q2 q3 hb1 hb2 hmb hn;go_wp2_with fail
  go_region_held3 (fun w'=>(∀bq oq,bq<u.heap.size→w'.cell? ⟨bq,oq,none⟩=u.cell? ⟨bq,oq,none⟩)∧u.heap.size≤w'.heap.size∧Below u.heap.size u w')
   (exact Qq (Nat.le_refl _) (by go_grown))
   (first
   | (go_at_call 84;refine(HDD.out HB1.out HB2.out _ (Qc KU.out (by go_grown))).mono ?_;rintro e y1 ⟨rfl,hb⟩;obtain⟨hk1,hz1⟩:=Qh (B:=u.heap.size) (X:=u) (by go_grown) (by go_size) hb;clear hb)
   | (go_at_call 16;refine(HTT.out HMB.out _ (Qc KU.out (by go_grown))).mono ?_;rintro e y2 ⟨rfl,hb⟩;obtain⟨hk2,hz2⟩:=Qh (B:=u.heap.size) (X:=u) (by go_grown) (by go_size) hb;clear hb))
  all_goals
   go_wp2_with fail
   go_ret;exact⟨YW (HE.out.trans HE1.out).symm,Qc KU.out (by go_grown)⟩
 ·have hsz:=(YZ hn).2;have hD:=HDS.out;have q1:(⟨#[98,114,97,110,99,104,32]⟩:ByteArray).size=7:=rfl;have q2:(⟨#[32]⟩:ByteArray).size=1:=rfl;have q3:(⟨#[10]⟩:ByteArray).size=1:=rfl;have r1: ∀W,(Op.stringOp .add (⟨#[98,114,97,110,99,104,32]⟩:ByteArray) s).run Tryz.prog W= .ok (.string ((⟨#[98,114,97,110,99,104,32]⟩:ByteArray)++s)) W:=fun W=>run_string_add_sum W _ _ (by rw [q1];omega);have r2: ∀W,(Op.stringOp .add ((⟨#[98,114,97,110,99,104,32]⟩:ByteArray)++s) (⟨#[32]⟩:ByteArray)).run Tryz.prog W= .ok (.string ((⟨#[98,114,97,110,99,104,32]⟩:ByteArray)++s++(⟨#[32]⟩:ByteArray))) W:=fun W=>run_string_add_sum W _ _ (by simp only [ByteArray.size_append,q1,q2];omega)
  have r3: ∀W,(Op.stringOp .add ((⟨#[98,114,97,110,99,104,32]⟩:ByteArray)++s++(⟨#[32]⟩:ByteArray)) D).run Tryz.prog W= .ok (.string ((⟨#[98,114,97,110,99,104,32]⟩:ByteArray)++s++(⟨#[32]⟩:ByteArray)++D)) W:=fun W=>run_string_add_sum W _ _ (by simp only [ByteArray.size_append,q1,q2];omega);have r4: ∀W,(Op.stringOp .add ((⟨#[98,114,97,110,99,104,32]⟩:ByteArray)++s++(⟨#[32]⟩:ByteArray)++D) (⟨#[10]⟩:ByteArray)).run Tryz.prog W= .ok (.string ((⟨#[98,114,97,110,99,104,32]⟩:ByteArray)++s++(⟨#[32]⟩:ByteArray)++D++(⟨#[10]⟩:ByteArray))) W:=fun W=>run_string_add_sum W _ _ (by simp only [ByteArray.size_append,q1,q2,q3];omega);have HE1:Hid (cmX 2 s o D M=(⟨#[98,114,97,110,99,104,32]⟩:ByteArray)++s++(⟨#[32]⟩:ByteArray)++D++(⟨#[10]⟩:ByteArray)):=rfl;have HB1:Hid (1≤b):=hb1;have HB2:Hid (b≤1000000000):=hb2;clear hsz hD q1 q2 q3 hb1 hb2 hn;go_wp2_with fail
  go_region_held3 (fun w'=>(∀bq oq,bq<u.heap.size→w'.cell? ⟨bq,oq,none⟩=u.cell? ⟨bq,oq,none⟩)∧u.heap.size≤w'.heap.size∧Below u.heap.size u w')
   (exact Qq (Nat.le_refl _) (by go_grown))
   (first
   | (go_at_call 84;refine(HDD.out HB1.out HB2.out _ (Qc KU.out (by go_grown))).mono ?_;rintro e y1 ⟨rfl,hb⟩;obtain⟨hk1,hz1⟩:=Qh (B:=u.heap.size) (X:=u) (by go_grown) (by go_size) hb;clear hb))
  all_goals
   go_wp2_with fail
   go_ret;exact⟨YW (HE.out.trans HE1.out).symm,Qc KU.out (by go_grown)⟩
 ·have hsz:=(YZ hn).2;have hoz:=(YZ hno).2;have q1:(⟨#[109,101,114,103,101,32]⟩:ByteArray).size=6:=rfl;have q2:(⟨#[32]⟩:ByteArray).size=1:=rfl;have q3:(⟨#[10]⟩:ByteArray).size=1:=rfl;have r1: ∀W,(Op.stringOp .add (⟨#[109,101,114,103,101,32]⟩:ByteArray) s).run Tryz.prog W= .ok (.string ((⟨#[109,101,114,103,101,32]⟩:ByteArray)++s)) W:=fun W=>run_string_add_sum W _ _ (by rw [q1];omega);have r2: ∀W,(Op.stringOp .add ((⟨#[109,101,114,103,101,32]⟩:ByteArray)++s) (⟨#[32]⟩:ByteArray)).run Tryz.prog W= .ok (.string ((⟨#[109,101,114,103,101,32]⟩:ByteArray)++s++(⟨#[32]⟩:ByteArray))) W:=fun W=>run_string_add_sum W _ _ (by simp only [ByteArray.size_append,q1,q2];omega)
  have r3: ∀W,(Op.stringOp .add ((⟨#[109,101,114,103,101,32]⟩:ByteArray)++s++(⟨#[32]⟩:ByteArray)) o).run Tryz.prog W= .ok (.string ((⟨#[109,101,114,103,101,32]⟩:ByteArray)++s++(⟨#[32]⟩:ByteArray)++o)) W:=fun W=>run_string_add_sum W _ _ (by simp only [ByteArray.size_append,q1,q2];omega);have r4: ∀W,(Op.stringOp .add ((⟨#[109,101,114,103,101,32]⟩:ByteArray)++s++(⟨#[32]⟩:ByteArray)++o) (⟨#[10]⟩:ByteArray)).run Tryz.prog W= .ok (.string ((⟨#[109,101,114,103,101,32]⟩:ByteArray)++s++(⟨#[32]⟩:ByteArray)++o++(⟨#[10]⟩:ByteArray))) W:=fun W=>run_string_add_sum W _ _ (by simp only [ByteArray.size_append,q1,q2,q3];omega);have HE1:Hid (cmX 3 s o D M=(⟨#[109,101,114,103,101,32]⟩:ByteArray)++s++(⟨#[32]⟩:ByteArray)++o++(⟨#[10]⟩:ByteArray)):=rfl;clear hsz hoz q1 q2 q3 hn hno;go_wp2_with fail
  go_ret;exact⟨YW (HE.out.trans HE1.out).symm,by first | exact KU.out | exact Qd KU.out _⟩
 ·have HE1:Hid (cmX 4 s o D M=(⟨#[115,119,101,101,112,10]⟩:ByteArray)):=rfl;go_wp2_with fail
  go_ret;exact⟨YW (HE.out.trans HE1.out).symm,by first | exact KU.out | exact Qd KU.out _⟩
theorem Qkm (k:Int) (s o:ByteArray) (b:Int) (A:Option Addr) (n cap:Nat) (mb:Bool) (D M:ByteArray) (w:World) (hs:s.size≤maxLen) (ho:o.size≤maxLen) (hD:D.size≤30) (hM:M.size≤100000000)
  (HM: ∀W,Below w.heap.size w W→Calls Tryz.prog 20 #[.slice A n cap] W fun e w'=>e= .returned (.bool mb)∧Below W.heap.size W w')
  (HD:1≤b→b≤1000000000→ ∀W,Below w.heap.size w W→Calls Tryz.prog 50 #[.int .i64 b] W fun e w'=>e= .returned (.string D)∧Below W.heap.size W w')
  (HT:mb=true→ ∀W,Below w.heap.size w W→Calls Tryz.prog 18 #[.slice A n cap] W fun e w'=>e= .returned (.string M)∧Below W.heap.size W w'):
  Calls Tryz.prog 63 #[.agg #[.int .i64 k,.string s,.string o,.int .i64 b,.slice A n cap]] w fun e w'=>e= .returned (.string (cmT k s o b mb n D M))∧Below w.heap.size w w':=by
 have HCR:Hid (∀W,Below w.heap.size w W→Calls Tryz.prog 105 #[.agg #[.int .i64 k,.string s,.string o,.int .i64 b,.slice A n cap]] W fun e w'=>e= .returned (.bool (cmB k s o b mb n))∧Below W.heap.size W w'):=fun W hW=>Ok k s o b A n cap mb W hs ho (fun W' hW'=>HM W' (Qc hW hW'));have HDD:Hid (1≤b→b≤1000000000→ ∀W,Below w.heap.size w W→Calls Tryz.prog 50 #[.int .i64 b] W fun e w'=>e= .returned (.string D)∧Below W.heap.size W w'):=HD;have HTT:Hid (mb=true→ ∀W,Below w.heap.size w W→Calls Tryz.prog 18 #[.slice A n cap] W fun e w'=>e= .returned (.string M)∧Below W.heap.size W w'):=HT;have HDS:Hid (D.size≤30):=hD;have HMS:Hid (M.size≤100000000):=hM;clear HM HD HT hs ho hD hM;obtain⟨cb,HCB⟩: ∃c,Hid (cmB k s o b mb n=c):=⟨_,rfl⟩
 go_enter Tryz.func63,Tryz.ntmps63;go_wp2_with fail
 obtain⟨X,HX,c_0,c_1,c_2,c_3,c_4,zX,KX⟩:=Jb w k s o b A n cap;rw [HX.out];clear HX;refine(HCR.out _ KX.out).mono ?_;rintro e u ⟨rfl,hb⟩;rw [HCB.out];replace c_0:=cy hb c_0
 replace c_1:=cy hb c_1;replace c_2:=cy hb c_2;replace c_3:=cy hb c_3;replace c_4:=cy hb c_4;replace zX:w.heap.size<u.heap.size:=Nat.lt_of_lt_of_le zX hb.size;have KU:=hd (Qc KX.out hb);clear hb HCR KX
 cases cb
 ·go_wp2_with fail
  go_ret;exact⟨YW (Qj6 HCB.out).symm,KU.out⟩
 have HE:Hid (cmT k s o b mb n D M=cmX k s o D M):=Qdt HCB.out;rcases Qds HCB.out with⟨rfl,hn,hb1,hb2,hmb⟩ | ⟨rfl,hn,hb1,hb2⟩ | ⟨rfl,hn,hno⟩ | rfl
 ·have hsz:=(YZ hn).2;have hD:=HDS.out;have hM:=HMS.out;have q1:(⟨#[114,117,110,32]⟩:ByteArray).size=4:=rfl;have q2:(⟨#[32]⟩:ByteArray).size=1:=rfl;have q3:(⟨#[10]⟩:ByteArray).size=1:=rfl;have r1: ∀W,(Op.stringOp .add (⟨#[114,117,110,32]⟩:ByteArray) s).run Tryz.prog W= .ok (.string ((⟨#[114,117,110,32]⟩:ByteArray)++s)) W:=fun W=>run_string_add_sum W _ _ (by rw [q1];omega)
  have r2: ∀W,(Op.stringOp .add ((⟨#[114,117,110,32]⟩:ByteArray)++s) (⟨#[32]⟩:ByteArray)).run Tryz.prog W= .ok (.string ((⟨#[114,117,110,32]⟩:ByteArray)++s++(⟨#[32]⟩:ByteArray))) W:=fun W=>run_string_add_sum W _ _ (by simp only [ByteArray.size_append,q1,q2];omega);have r3: ∀W,(Op.stringOp .add ((⟨#[114,117,110,32]⟩:ByteArray)++s++(⟨#[32]⟩:ByteArray)) D).run Tryz.prog W= .ok (.string ((⟨#[114,117,110,32]⟩:ByteArray)++s++(⟨#[32]⟩:ByteArray)++D)) W:=fun W=>run_string_add_sum W _ _ (by simp only [ByteArray.size_append,q1,q2];omega);have r4: ∀W,(Op.stringOp .add ((⟨#[114,117,110,32]⟩:ByteArray)++s++(⟨#[32]⟩:ByteArray)++D) (⟨#[10]⟩:ByteArray)).run Tryz.prog W= .ok (.string ((⟨#[114,117,110,32]⟩:ByteArray)++s++(⟨#[32]⟩:ByteArray)++D++(⟨#[10]⟩:ByteArray))) W:=fun W=>run_string_add_sum W _ _ (by simp only [ByteArray.size_append,q1,q2,q3];omega);have r5: ∀W,(Op.stringOp .add ((⟨#[114,117,110,32]⟩:ByteArray)++s++(⟨#[32]⟩:ByteArray)++D++(⟨#[10]⟩:ByteArray)) M).run Tryz.prog W= .ok (.string ((⟨#[114,117,110,32]⟩:ByteArray)++s++(⟨#[32]⟩:ByteArray)++D++(⟨#[10]⟩:ByteArray)++M)) W:=fun W=>run_string_add_sum W _ _ (by simp only [ByteArray.size_append,q1,q2,q3];omega);have HE1:Hid (cmX 1 s o D M=(⟨#[114,117,110,32]⟩:ByteArray)++s++(⟨#[32]⟩:ByteArray)++D++(⟨#[10]⟩:ByteArray)++M):=rfl;have HB1:Hid (1≤b):=hb1;have HB2:Hid (b≤1000000000):=hb2
  have HMB:Hid (mb=true):=hmb;clear hsz hD hM q1 q2 q3 hb1 hb2 hmb hn;go_wp2_with fail
  go_region_held3 (fun w'=>(∀bq oq,bq<u.heap.size→w'.cell? ⟨bq,oq,none⟩=u.cell? ⟨bq,oq,none⟩)∧u.heap.size≤w'.heap.size∧Below u.heap.size u w')
   (exact Qq (Nat.le_refl _) (by go_grown))
   (first
   | (go_at_call 50;refine(HDD.out HB1.out HB2.out _ (Qc KU.out (by go_grown))).mono ?_;rintro e y1 ⟨rfl,hb⟩;obtain⟨hk1,hz1⟩:=Qh (B:=u.heap.size) (X:=u) (by go_grown) (by go_size) hb;clear hb)
   | (go_at_call 18;refine(HTT.out HMB.out _ (Qc KU.out (by go_grown))).mono ?_;rintro e y2 ⟨rfl,hb⟩;obtain⟨hk2,hz2⟩:=Qh (B:=u.heap.size) (X:=u) (by go_grown) (by go_size) hb;clear hb))
  all_goals
   go_wp2_with fail
   go_ret;exact⟨YW (HE.out.trans HE1.out).symm,Qc KU.out (by go_grown)⟩
 ·have hsz:=(YZ hn).2;have hD:=HDS.out;have q1:(⟨#[98,114,97,110,99,104,32]⟩:ByteArray).size=7:=rfl;have q2:(⟨#[32]⟩:ByteArray).size=1:=rfl;have q3:(⟨#[10]⟩:ByteArray).size=1:=rfl;have r1: ∀W,(Op.stringOp .add (⟨#[98,114,97,110,99,104,32]⟩:ByteArray) s).run Tryz.prog W= .ok (.string ((⟨#[98,114,97,110,99,104,32]⟩:ByteArray)++s)) W:=fun W=>run_string_add_sum W _ _ (by rw [q1];omega);have r2: ∀W,(Op.stringOp .add ((⟨#[98,114,97,110,99,104,32]⟩:ByteArray)++s) (⟨#[32]⟩:ByteArray)).run Tryz.prog W= .ok (.string ((⟨#[98,114,97,110,99,104,32]⟩:ByteArray)++s++(⟨#[32]⟩:ByteArray))) W:=fun W=>run_string_add_sum W _ _ (by simp only [ByteArray.size_append,q1,q2];omega)
  have r3: ∀W,(Op.stringOp .add ((⟨#[98,114,97,110,99,104,32]⟩:ByteArray)++s++(⟨#[32]⟩:ByteArray)) D).run Tryz.prog W= .ok (.string ((⟨#[98,114,97,110,99,104,32]⟩:ByteArray)++s++(⟨#[32]⟩:ByteArray)++D)) W:=fun W=>run_string_add_sum W _ _ (by simp only [ByteArray.size_append,q1,q2];omega);have r4: ∀W,(Op.stringOp .add ((⟨#[98,114,97,110,99,104,32]⟩:ByteArray)++s++(⟨#[32]⟩:ByteArray)++D) (⟨#[10]⟩:ByteArray)).run Tryz.prog W= .ok (.string ((⟨#[98,114,97,110,99,104,32]⟩:ByteArray)++s++(⟨#[32]⟩:ByteArray)++D++(⟨#[10]⟩:ByteArray))) W:=fun W=>run_string_add_sum W _ _ (by simp only [ByteArray.size_append,q1,q2,q3];omega);have HE1:Hid (cmX 2 s o D M=(⟨#[98,114,97,110,99,104,32]⟩:ByteArray)++s++(⟨#[32]⟩:ByteArray)++D++(⟨#[10]⟩:ByteArray)):=rfl;have HB1:Hid (1≤b):=hb1;have HB2:Hid (b≤1000000000):=hb2;clear hsz hD q1 q2 q3 hb1 hb2 hn;go_wp2_with fail
  go_region_held3 (fun w'=>(∀bq oq,bq<u.heap.size→w'.cell? ⟨bq,oq,none⟩=u.cell? ⟨bq,oq,none⟩)∧u.heap.size≤w'.heap.size∧Below u.heap.size u w')
   (exact Qq (Nat.le_refl _) (by go_grown))
   (first
   | (go_at_call 50;refine(HDD.out HB1.out HB2.out _ (Qc KU.out (by go_grown))).mono ?_;rintro e y1 ⟨rfl,hb⟩;obtain⟨hk1,hz1⟩:=Qh (B:=u.heap.size) (X:=u) (by go_grown) (by go_size) hb;clear hb))
  all_goals
   go_wp2_with fail
   go_ret;exact⟨YW (HE.out.trans HE1.out).symm,Qc KU.out (by go_grown)⟩
 ·have hsz:=(YZ hn).2;have hoz:=(YZ hno).2;have q1:(⟨#[109,101,114,103,101,32]⟩:ByteArray).size=6:=rfl;have q2:(⟨#[32]⟩:ByteArray).size=1:=rfl;have q3:(⟨#[10]⟩:ByteArray).size=1:=rfl;have r1: ∀W,(Op.stringOp .add (⟨#[109,101,114,103,101,32]⟩:ByteArray) s).run Tryz.prog W= .ok (.string ((⟨#[109,101,114,103,101,32]⟩:ByteArray)++s)) W:=fun W=>run_string_add_sum W _ _ (by rw [q1];omega);have r2: ∀W,(Op.stringOp .add ((⟨#[109,101,114,103,101,32]⟩:ByteArray)++s) (⟨#[32]⟩:ByteArray)).run Tryz.prog W= .ok (.string ((⟨#[109,101,114,103,101,32]⟩:ByteArray)++s++(⟨#[32]⟩:ByteArray))) W:=fun W=>run_string_add_sum W _ _ (by simp only [ByteArray.size_append,q1,q2];omega)
  have r3: ∀W,(Op.stringOp .add ((⟨#[109,101,114,103,101,32]⟩:ByteArray)++s++(⟨#[32]⟩:ByteArray)) o).run Tryz.prog W= .ok (.string ((⟨#[109,101,114,103,101,32]⟩:ByteArray)++s++(⟨#[32]⟩:ByteArray)++o)) W:=fun W=>run_string_add_sum W _ _ (by simp only [ByteArray.size_append,q1,q2];omega);have r4: ∀W,(Op.stringOp .add ((⟨#[109,101,114,103,101,32]⟩:ByteArray)++s++(⟨#[32]⟩:ByteArray)++o) (⟨#[10]⟩:ByteArray)).run Tryz.prog W= .ok (.string ((⟨#[109,101,114,103,101,32]⟩:ByteArray)++s++(⟨#[32]⟩:ByteArray)++o++(⟨#[10]⟩:ByteArray))) W:=fun W=>run_string_add_sum W _ _ (by simp only [ByteArray.size_append,q1,q2,q3];omega);have HE1:Hid (cmX 3 s o D M=(⟨#[109,101,114,103,101,32]⟩:ByteArray)++s++(⟨#[32]⟩:ByteArray)++o++(⟨#[10]⟩:ByteArray)):=rfl;clear hsz hoz q1 q2 q3 hn hno;go_wp2_with fail
  go_ret;exact⟨YW (HE.out.trans HE1.out).symm,by first | exact KU.out | exact Qd KU.out _⟩
 ·have HE1:Hid (cmX 4 s o D M=(⟨#[115,119,101,101,112,10]⟩:ByteArray)):=rfl;go_wp2_with fail
  go_ret;exact⟨YW (HE.out.trans HE1.out).symm,by first | exact KU.out | exact Qd KU.out _⟩
theorem Qoi (k:Int) (s o:ByteArray) (b:Int) {A A':Option Addr} {n cap cap':Nat} {K C R:Nat→Int} {T:Nat→ByteArray} {M:Nat→Int} (w:World) (h:MsRow w A n K C R T M) (h':MsRow w A' n K C R T M):
  Calls Tryz.prog 29 #[.agg #[.int .i64 k,.string s,.string o,.int .i64 b,.slice A n cap],.agg #[.int .i64 k,.string s,.string o,.int .i64 b,.slice A' n cap']] w fun e w'=>e= .returned (.bool true)∧Below w.heap.size w w':=by
 have HR:Hid (MsRow w A n K C R T M):=h;have HR':Hid (MsRow w A' n K C R T M):=h';have e1:(s.toList==s.toList)=true:=by simp
 have e2:(o.toList==o.toList)=true:=by simp
 clear h h';go_enter Tryz.func29,Tryz.ntmps29;go_wp2_with fail
 refine(Oo _ (HR.out.below (by go_grown)) (HR'.out.below (by go_grown))).mono ?_;rintro e u ⟨rfl,hb⟩;have KU:Hid (Below w.heap.size w u):=Below.trans (by go_grown) (hb.mono (by simp;try omega));clear hb;go_wp2_with fail
 go_ret;exact⟨rfl,KU.out⟩
theorem rdec_it {n:Int} (h:Yi n=true):Yh (itB n).data.toList=some n:=by
 have hb:=Qb4 h;have h1:=NM n (by omega) (by omega);obtain⟨h2,h3⟩:=Nt h1;exact De (l:=Lib.itoa n) h3 h2
theorem dig_all (m:Nat): ∀b∈Lib.decDigits m,48≤b.toNat∧b.toNat≤57:=by
 induction m using Nat.strongRecOn with
 | ind m ih=>
  intro b hb;rw [Lib.decDigits]at hb;split at hb
  ·rw [List.mem_singleton]at hb;rw [hb];simp;omega
  ·rcases List.mem_append.1 hb with hb | hb
   ·exact ih (m/10) (by omega) b hb
   ·rw [List.mem_singleton]at hb;rw [hb];simp;omega
theorem it_list {n:Int} (h:0≤n):(itB n).data.toList=Lib.decDigits n.toNat:=by
 have:=Lib.itoa_nonneg n.toNat;rw [show((n.toNat:Nat):Int)=n by omega]at this;rw [←this];rfl
def lX (l:List UInt8):Option Nat:=if l.length≤10 then l16 l else none
theorem lX_no {s:ByteArray} (h:s.size<1∨10<s.size):lX s.data.toList=none:=by
 have e:s.data.toList.length=s.size:=rfl;unfold lX;split
 ·unfold l16;rw [if_pos (by omega)]
 ·rfl
theorem lX_zero {s:ByteArray} (h:1<s.size) (h0:(s[0]'(by omega)).toNat=48):lX s.data.toList=none:=by
 have e:s.data.toList.length=s.size:=rfl;unfold lX;split
 ·unfold l16;rw [if_pos];right;right
  refine⟨?_,by omega⟩;rw [YE (by omega)];congr 1
  apply UInt8.toNat_inj.1;rw [h0];rfl
 ·rfl
theorem lX_yes {s:ByteArray} (h0:0<s.size) (hX:s.size≤10) (h:(s[0]'h0).toNat≠48∨s.size=1):lX s.data.toList=Zr s.data.toList 0:=by
 have e:s.data.toList.length=s.size:=rfl;unfold lX;rw [if_pos (by omega)];unfold l16;rw [if_neg];rintro(hh | hh | ⟨hh,hl⟩)
 ·omega
 ·omega
 ·rw [YE h0]at hh;have hb:s[0]'h0=48:=by simpa using hh
  have:(s[0]'h0).toNat=48:=by rw [hb];rfl
  omega
theorem l1Int_loopX (s:ByteArray) (w:World) (hs:s.size≤281474976710656) (hp:0<s.size) (hX:s.size≤10) (hz:(s[0]'hp).toNat≠48∨s.size=1):Calls Tryz.prog 60 #[.string s,.int .i64 10] w fun e w'=>
  e= .returned (o16 (Zr s.data.toList 0))∧w'=w:=by
 have k1: ¬(s.size:Int)<1:=by omega
 have k2: ¬(10:Int)<(s.size:Int):=by omega
 have k3:(0:Int)<(s.size:Int):=by omega
 by_cases h0:(s[0]'hp).toNat=48
 ·have h1: ¬(1:Int)<(s.size:Int):=by omega
  have h0':((s[0]'hp).toNat:Int)=48:=by omega
  have HE:Hid (Zr s.data.toList 0=some 0):=BK (by omega) h0;go_enter Tryz.func60,Tryz.ntmps60;go_wp2_with fail
  refine wp_loop_rounds 4 ?_;rw [rounds_succ];go_wp2
  rw [rounds_succ];go_wp2
  refine bodyPost_ret (v:= .tuple #[.int .i64 0,.bool true]) ?_ rfl ⟨by rw [HE.out];rfl,rfl⟩;simp (maxDischargeDepth:=9) [results,Tryz.results60,go_sem, *]
 have n0: ¬((s[0]'hp).toNat:Int)=48:=by omega
 have m0:(((s[0]'hp).toNat:Int)==48)=false:=by simpa using n0
 go_enter Tryz.func60,Tryz.ntmps60;go_wp2_with fail
 go_loop [6,7] (fun v6 v7=> ∃(k m:Nat),k≤s.size∧v6= .int .i64 m∧v7= .int .i64 k∧m<10^k∧Zr (s.data.toList.drop k) m=Zr s.data.toList 0) (fun _ v7=>s.size-(intOf v7).toNat)
 case atStart=>exact⟨0,0,Nat.zero_le _,rfl,rfl,by simp,rfl⟩
 case round=>
  obtain⟨k,m,hk,rfl,rfl,hm,hr⟩:=hrel;have HR:Hid (Zr (s.data.toList.drop k) m=Zr s.data.toList 0):=hr;have HM:Hid (m<10^k):=hm
  have hm2:m<10000000000000000:=by
   have:10^k≤10^16:=Nat.pow_le_pow_right (by omega) (by omega);have e:(10:Nat)^16=10000000000000000:=rfl;omega
  clear hr hm;have q0:(0:Int)≤(k:Int):=by omega
  by_cases hlt:k<s.size
  ·have q1:(k:Int)<(s.size:Int):=by omega
   have HD:Hid (Zr (s.data.toList.drop k) m=if 48≤s[k].toNat∧s[k].toNat≤57 then Zr (s.data.toList.drop (k+1)) (m*10+(s[k].toNat-48))else none):=Qfo hlt m;by_cases ha:s[k].toNat<48
   ·have ha':(s[k].toNat:Int)<48:=by omega
    have HE:Hid (Zr s.data.toList 0=none):=by show _=_;rw [←HR.out,HD.out,if_neg (by omega)]
    go_wp2_with fail
    refine bodyPost_ret (v:= .tuple #[.int .i64 0,.bool false]) ?_ rfl ⟨by rw [HE.out];rfl,rfl⟩;simp (maxDischargeDepth:=9) [results,Tryz.results60,go_sem, *]
   have na: ¬(s[k].toNat:Int)<48:=by omega
   by_cases hb:57<s[k].toNat
   ·have hb':57<(s[k].toNat:Int):=by omega
    have HE:Hid (Zr s.data.toList 0=none):=by show _=_;rw [←HR.out,HD.out,if_neg (by omega)]
    go_wp2_with fail
    refine bodyPost_ret (v:= .tuple #[.int .i64 0,.bool false]) ?_ rfl ⟨by rw [HE.out];rfl,rfl⟩;simp (maxDischargeDepth:=9) [results,Tryz.results60,go_sem, *]
   have nb: ¬57<(s[k].toNat:Int):=by omega
   have HE:Hid (Zr (s.data.toList.drop (k+1)) (m*10+(s[k].toNat-48))=Zr s.data.toList 0):=by show _=_;rw [←HR.out,HD.out,if_pos (by omega)]
   go_wp2_with fail
   all_goals
    go_round
    case rel=>exact⟨k+1,m*10+(s[k].toNat-48),by omega,by congr 1;omega,by go_num,by have:=HM.out;rw [Nat.pow_succ];omega,HE.out⟩
    case measure=>simp [intOf];omega
  ·have q1: ¬(k:Int)<(s.size:Int):=by omega
   have HE:Hid (Zr s.data.toList 0=some m):=by show _=_;rw [←HR.out,List.drop_of_length_le (by simp;omega)];rfl
   go_wp2_with fail
   refine bodyPost_ret (v:= .tuple #[.int .i64 m,.bool true]) ?_ rfl ⟨by rw [HE.out];rfl,rfl⟩;simp (maxDischargeDepth:=9) [results,Tryz.results60,go_sem, *]
theorem spec_l1Int10 (s:ByteArray) (w:World) (hs:s.size≤281474976710656):Calls Tryz.prog 60 #[.string s,.int .i64 10] w fun e w'=>
  e= .returned (o16 (lX s.data.toList))∧w'=w:=by
 by_cases h0:s.size<1
 ·have HE:Hid (lX s.data.toList=none):=lX_no (Or.inl h0);have h1:(s.size:Int)<1:=by omega
  go_enter Tryz.func60,Tryz.ntmps60;go_wp2
  refine bodyPost_ret (v:= .tuple #[.int .i64 0,.bool false]) ?_ rfl ⟨by rw [HE.out];rfl,rfl⟩;simp (maxDischargeDepth:=9) [results,Tryz.results60,go_sem, *]
 have k1: ¬(s.size:Int)<1:=by omega
 by_cases hX:10<s.size
 ·have HE:Hid (lX s.data.toList=none):=lX_no (Or.inr hX);have h1:(10:Int)<(s.size:Int):=by omega
  go_enter Tryz.func60,Tryz.ntmps60;go_wp2
  refine bodyPost_ret (v:= .tuple #[.int .i64 0,.bool false]) ?_ rfl ⟨by rw [HE.out];rfl,rfl⟩;simp (maxDischargeDepth:=9) [results,Tryz.results60,go_sem, *]
 have k2: ¬(10:Int)<(s.size:Int):=by omega
 have hp:0<s.size:=by omega
 have k3:(0:Int)<(s.size:Int):=by omega
 by_cases hz:(s[0]'hp).toNat=48∧1<s.size
 ·have HE:Hid (lX s.data.toList=none):=lX_zero hz.2 hz.1;have h1:(1:Int)<(s.size:Int):=by omega
  have h2:((s[0]'hp).toNat:Int)=48:=by omega
  clear hz;go_enter Tryz.func60,Tryz.ntmps60;go_wp2
  refine bodyPost_ret (v:= .tuple #[.int .i64 0,.bool false]) ?_ rfl ⟨by rw [HE.out];rfl,rfl⟩;simp (maxDischargeDepth:=9) [results,Tryz.results60,go_sem, *]
 ·have hz':(s[0]'hp).toNat≠48∨s.size=1:=by omega
  rw [lX_yes hp (by omega) hz'];exact l1Int_loopX s w hs hp (by omega) hz'
structure CR where
 k:Int
 s:ByteArray
 o:ByteArray
 b:Int
 L:List SR
def dcC (b:Int):ByteArray:=if 1≤b∧b≤1000000000 then itB b else⟨#[]⟩
def cmL (c:CR):ByteArray:=cmT c.k c.s c.o c.b (DW c.L) c.L.length (dcC c.b) (mtL c.L)
def cmI (l:List UInt8):CR:=
 if cw 32 (cw 10 l)= [114,117,110]then⟨1,bs (cw 32 (cr 32 (cw 10 l))),⟨#[]⟩,(Yh (cr 32 (cr 32 (cw 10 l)))).getD 0,rmF (bs (cr 10 l))⟩
 else if cw 32 (cw 10 l)= [98,114,97,110,99,104]then⟨2,bs (cw 32 (cr 32 (cw 10 l))),⟨#[]⟩,(Yh (cr 32 (cr 32 (cw 10 l)))).getD 0,[]⟩
 else if cw 32 (cw 10 l)= [109,101,114,103,101]then⟨3,bs (cw 32 (cr 32 (cw 10 l))),bs (cr 32 (cr 32 (cw 10 l))),0,[]⟩
 else if cw 32 (cw 10 l)= [115,119,101,101,112]then⟨4,⟨#[]⟩,⟨#[]⟩,0,[]⟩else⟨0,⟨#[]⟩,⟨#[]⟩,0,[]⟩
def cmS (l:List UInt8):CR:=
 if cw 32 (cw 10 l)= [114,117,110]then(if(cw 10 l).length<l.length then⟨1,bs (cw 32 (cr 32 (cw 10 l))),⟨#[]⟩,(((lX (cr 32 (cr 32 (cw 10 l)))).getD 0:Nat):Int),rmF (bs (cr 10 l))⟩else⟨2,bs (cw 32 (cr 32 (cw 10 l))),⟨#[]⟩,(((lX (cr 32 (cr 32 (cw 10 l)))).getD 0:Nat):Int),[]⟩)
 else if cw 32 (cw 10 l)= [98,114,97,110,99,104]then⟨2,bs (cw 32 (cr 32 (cw 10 l))),⟨#[]⟩,(((lX (cr 32 (cr 32 (cw 10 l)))).getD 0:Nat):Int),[]⟩
 else if cw 32 (cw 10 l)= [109,101,114,103,101]then⟨3,bs (cw 32 (cr 32 (cw 10 l))),bs (cr 32 (cr 32 (cw 10 l))),0,[]⟩
 else if cw 32 (cw 10 l)= [115,119,101,101,112]then⟨4,⟨#[]⟩,⟨#[]⟩,0,[]⟩else⟨0,⟨#[]⟩,⟨#[]⟩,0,[]⟩
theorem bs_self (s:ByteArray):bs s.data.toList=s:=by
 rcases s with⟨⟨l⟩⟩
 rfl
theorem mt_readsC {L:List SR} {t:ByteArray} (hk:DW L=true) (ht:mtL L=t):rmF t=L:=by
 have hT:mtT (sK L) (sC L) (sR L) (sT L) (sM L) L.length=t:=by
  rw [←ht];unfold mtL mtO;unfold DW at hk;rw [if_pos hk]
 obtain⟨h30,_,h1,h2,_,hc⟩:=Dj (L:=L) hk hT;have hI:rmI t=L:=by unfold rmI;rw [h1,h2]
 have hB:rmB t=true:=by
  unfold rmB;rw [hI,Bool.and_eq_true];exact⟨decide_eq_true (by omega),ba_tl.2 ht⟩
 unfold rmF;rw [if_pos hB,hI]
theorem nm_plain {s:ByteArray} (h:nmB s=true): ∀z∈s.data.toList,z≠32∧z≠10:=by
 unfold nmB at h;simp only [Bool.and_eq_true,List.all_eq_true]at h;intro z hz;have h9:=h.2 z hz;unfold Qml at h9;have h8:=of_decide_eq_true h9;constructor
 ·rintro rfl;exact absurd h8.1 (by decide)
 ·rintro rfl;exact absurd h8.1 (by decide)
theorem it_back {b:Int} (h0:1≤b) (h1:b≤1000000000):Yh (itB b).data.toList=some b∧lX (itB b).data.toList=some b.toNat∧ ∀z∈(itB b).data.toList,z≠32∧z≠10:=by
 obtain⟨m,rfl⟩: ∃m:Nat,b=(m:Int):=⟨b.toNat,by omega⟩;have e:(itB (m:Int)).data.toList=Lib.decDigits m:=by rw [it_list (by omega)];rfl
 refine⟨rdec_it (decide_eq_true ⟨by omega,by omega⟩),?_,?_⟩
 ·rw [e];unfold lX;rw [if_pos (Dv 9 m (by have:(10:Nat)^(9+1)=10000000000:=rfl;omega))];exact Dw m (by omega)
 ·rw [e];intro z hz;have h9:=dig_all m z hz;constructor
  ·rintro rfl;exact absurd h9.1 (by decide)
  ·rintro rfl;exact absurd h9.1 (by decide)
theorem emp_nilC {s:ByteArray} (h:s.toList.isEmpty=true):s=⟨#[]⟩:=by
 have h1:s.toList= []:=List.isEmpty_iff.1 h;refine ba_tl.1 ?_;rw [h1];simp
theorem cut_three {w s d m:List UInt8} (hw: ∀z∈w,z≠32∧z≠10) (hs: ∀z∈s,z≠32∧z≠10) (hdq: ∀z∈d,z≠32∧z≠10) {l:List UInt8} (hl:l=w++32::(s++32::d)++10::m):
  cw 10 l=w++32::(s++32::d)∧cr 10 l=m∧cw 32 (cw 10 l)=w∧cw 32 (cr 32 (cw 10 l))=s∧cr 32 (cr 32 (cw 10 l))=d∧(cw 10 l).length<l.length:=by
 have h10: ∀z∈w++32::(s++32::d),z≠10:=by
  intro z hz;simp only [List.mem_append,List.mem_cons]at hz;rcases hz with hz | rfl | hz | rfl | hz
  ·exact(hw z hz).2
  ·decide
  ·exact(hs z hz).2
  ·decide
  ·exact(hdq z hz).2
 obtain⟨e1,e2⟩:=XK (b:=10) (x:=w++32::(s++32::d)) m h10;obtain⟨e3,e4⟩:=XK (b:=32) (x:=w) (s++32::d) (fun z hz=>(hw z hz).1);obtain⟨e5,e6⟩:=XK (b:=32) (x:=s) d (fun z hz=>(hs z hz).1);rw [←hl]at e1 e2;rw [e1,e2,e3,e4,e5,e6];refine⟨rfl,rfl,rfl,rfl,rfl,?_⟩;rw [hl]
 simp
theorem cm_back {c:CR} {t:ByteArray} (h:cmB c.k c.s c.o c.b (DW c.L) c.L.length=true) (ht:cmL c=t):cmI t.data.toList=c∧cmS t.data.toList=c:=by
 unfold cmL at ht;rw [Qdt h]at ht;obtain⟨k,s,o,b,L⟩:=c;simp only at h ht;unfold cmB cmC at h;by_cases k1:k=1
 ·subst k1;rw [if_pos rfl]at h;simp only [Bool.and_eq_true,decide_eq_true_eq]at h;obtain⟨hn,h1,h2,hm,ho⟩:=h;obtain rfl:=emp_nilC ho;obtain⟨b1,b2,b3⟩:=it_back h1 h2
  have hl:t.data.toList= [114,117,110]++32::(s.data.toList++32::(itB b).data.toList)++10::(mtL L).data.toList:=by
   rw [←ht];unfold cmX dcC;rw [if_pos rfl,if_pos ⟨h1,h2⟩];simp [ByteArray.data_append]
  obtain⟨e1,e2,e3,e4,e5,e6⟩:=cut_three (by decide) (nm_plain hn) b3 hl;unfold cmI cmS;rw [e3,e4,e5,e2,if_pos rfl,if_pos rfl,if_pos e6,b1,b2,bs_self,bs_self,mt_readsC hm rfl];simp only [Option.getD_some,Int.toNat_of_nonneg (show 0≤b by omega),and_self]
 by_cases k2:k=2
 ·subst k2;rw [if_neg (by decide),if_pos rfl]at h;simp only [Bool.and_eq_true,decide_eq_true_eq]at h;obtain⟨hn,h1,h2,hz,ho⟩:=h;obtain rfl:=emp_nilC ho;obtain rfl:=List.eq_nil_of_length_eq_zero hz;obtain⟨b1,b2,b3⟩:=it_back h1 h2
  have hl:t.data.toList= [98,114,97,110,99,104]++32::(s.data.toList++32::(itB b).data.toList)++10:: []:=by
   rw [←ht];unfold cmX dcC;rw [if_neg (by decide),if_pos rfl,if_pos ⟨h1,h2⟩];simp [ByteArray.data_append]
  obtain⟨e1,e2,e3,e4,e5,e6⟩:=cut_three (by decide) (nm_plain hn) b3 hl;unfold cmI cmS;rw [e3,e4,e5,b1,b2];simp [bs_self];omega
 by_cases k3:k=3
 ·subst k3;rw [if_neg (by decide),if_neg (by decide),if_pos rfl]at h;simp only [Bool.and_eq_true,decide_eq_true_eq]at h;obtain⟨hn,hb,hz,ho⟩:=h;subst hb;obtain rfl:=List.eq_nil_of_length_eq_zero hz
  have hl:t.data.toList= [109,101,114,103,101]++32::(s.data.toList++32::o.data.toList)++10:: []:=by
   rw [←ht];unfold cmX;rw [if_neg (by decide),if_neg (by decide),if_pos rfl];simp [ByteArray.data_append]
  obtain⟨e1,e2,e3,e4,e5,e6⟩:=cut_three (by decide) (nm_plain hn) (nm_plain ho) hl;unfold cmI cmS;rw [e3,e4,e5];simp [bs_self]
 rw [if_neg k1,if_neg k2,if_neg k3]at h;by_cases k4:k=4
 ·subst k4;rw [if_pos rfl]at h;simp only [Bool.and_eq_true,decide_eq_true_eq]at h;obtain⟨hn,hb,hz,ho⟩:=h;subst hb;obtain rfl:=List.eq_nil_of_length_eq_zero hz;obtain rfl:=emp_nilC hn
  obtain rfl:=emp_nilC ho
  have hl:t.data.toList= [115,119,101,101,112,10]:=by
   rw [←ht];unfold cmX;rw [if_neg (by decide),if_neg (by decide),if_neg (by decide)]
  rw [hl];exact⟨rfl,rfl⟩
 ·rw [if_neg k4]at h;cases h
theorem cm_good {c:CR} {t:ByteArray} (ht:cmL c=t) (hn:t.data.toList≠ []):cmI t.data.toList=c∧cmS t.data.toList=c:=by
 refine cm_back ?_ ht;cases h:cmB c.k c.s c.o c.b (DW c.L) c.L.length
 ·unfold cmL at ht;rw [Qj6 h]at ht;exact absurd (by rw [←ht]) hn
 ·rfl
def rcB (s:ByteArray):Bool:= !s.toList.isEmpty&&(cmL (cmI s.data.toList)).toList==s.toList
theorem rc_same (s:ByteArray):(!s.toList.isEmpty&&(cmL (cmS s.data.toList)).toList==s.toList)=rcB s∧(rcB s=true→cmS s.data.toList=cmI s.data.toList):=by
 have key: ∀c,cmL c=s→s.toList.isEmpty=false→cmI s.data.toList=c∧cmS s.data.toList=c:=fun c hc hn=>cm_good hc (fun e=>by
  have e9:s=⟨#[]⟩:=by rw [←bs_self s,e];rfl
  rw [e9]at hn
  simp at hn)
 unfold rcB;cases he:s.toList.isEmpty
 ·rw [Bool.not_false,Bool.true_and,Bool.true_and];constructor
  ·apply Bool.eq_iff_iff.2;constructor
   ·intro h;have h9:=key _ (ba_tl.1 h) he;rw [h9.1];exact h
   ·intro h;have h9:=key _ (ba_tl.1 h) he;rw [h9.2];exact h
  ·intro h;exact(key _ (ba_tl.1 h) he).2
 ·exact⟨rfl,fun h=>by cases h⟩
theorem infoCm5:(Tryz.prog.info? 45).map (·.size)=some 5:=by kernel_rfl
theorem dcC_size (b:Int):(dcC b).size≤30:=by
 unfold dcC;split
 ·rename_i h
  obtain⟨m,rfl⟩: ∃m:Nat,b=(m:Int):=⟨b.toNat,by omega⟩;exact Nat.le_trans (JX (by omega)) (by omega)
 ·exact Nat.zero_le _
theorem mtL_size {L:List SR} (h: ∀i,i<L.length→(sT L i).size≤1048576):(mtL L).size≤100000000:=by
 unfold mtL mtO;split
 ·rename_i hk
  have h1:=(EH hk).1;have h2:=ED (K:=sK L) (C:=sC L) (R:=sR L) (T:=sT L) (M:=sM L) L.length h;omega
 ·exact Nat.zero_le _
theorem impl_decimalR (n:Int) (w:World) (h0: -9223372036854775808≤n) (h1:n≤9223372036854775807) (hv:VarT w):Calls Tryz.prog 84 #[.int .i64 n] w fun e w'=>e= .returned (.string (itB n))∧Below w.heap.size w w':=by
 have HV:Hid (VarT w):=hv;clear hv;go_enter Tryz.func84,Tryz.ntmps84;go_wp2_with fail
 refine(Tryz.strconv_FormatInt_10 n h0 h1 _ HV.out).mono ?_;rintro e w2 ⟨rfl,k,os,rfl⟩;have hb2:=Lib.below_grow w.heap.size w (Nat.le_refl _) k os;go_wp2_with fail
 go_ret;exact⟨rfl,hb2⟩
theorem impl_CmdTextR (k:Int) (s o:ByteArray) (b:Int) {A:Option Addr} {n cap:Nat} {L:List SR} (w:World) (hs:s.size≤maxLen) (ho:o.size≤maxLen) (hL:L.length=n) (h:MsRow w A n (sK L) (sC L) (sR L) (sT L) (sM L)) (hT: ∀i,i<L.length→(sT L i).size≤1048576) (hg:RG w):
  Calls Tryz.prog 66 #[.agg #[.int .i64 k,.string s,.string o,.int .i64 b,.slice A n cap]] w fun e w'=>e= .returned (.string (cmL ⟨k,s,o,b,L⟩))∧Below w.heap.size w w':=by
 subst hL
 exact Qko k s o b A L.length cap _ _ _ w hs ho (dcC_size b) (mtL_size hT)
  (fun W hW=>impl_MacroOk W (h.below hW) hT (hg.below hW).gi)
  (fun b1 b2 W hW=>by rw [dcC,if_pos ⟨b1,b2⟩];exact impl_decimalR b W (by omega) (by omega) (hg.below hW).gi.gt.vt)
  (fun hm W hW=>impl_MacroText W (h.below hW) hT (hg.below hW).gi (hg.below hW).sw)
theorem spec_CmdTextR (k:Int) (s o:ByteArray) (b:Int) {A:Option Addr} {n cap:Nat} {L:List SR} (w:World) (hs:s.size≤maxLen) (ho:o.size≤maxLen) (hL:L.length=n) (h:MsRow w A n (sK L) (sC L) (sR L) (sT L) (sM L)) (hT: ∀i,i<L.length→(sT L i).size≤1048576):
  Calls Tryz.prog 63 #[.agg #[.int .i64 k,.string s,.string o,.int .i64 b,.slice A n cap]] w fun e w'=>e= .returned (.string (cmL ⟨k,s,o,b,L⟩))∧Below w.heap.size w w':=by
 subst hL
 exact Qkm k s o b A L.length cap _ _ _ w hs ho (dcC_size b) (mtL_size hT)
  (fun W hW=>Kw W (h.below hW) hT)
  (fun b1 b2 W hW=>by rw [dcC,if_pos ⟨b1,b2⟩];exact Xt b W (decide_eq_true ⟨by omega,by omega⟩))
  (fun hm W hW=>Qgb W (h.below hW) hT)
def rcF (s:ByteArray):CR:=if rcB s then cmI s.data.toList else⟨0,⟨#[]⟩,⟨#[]⟩,0,[]⟩
def PostRC (s:ByteArray) (B:Nat) (w':World) (e:Ending):Prop:=
 ∃A n cap,e= .returned (.tuple #[.agg #[.int .i64 (rcF s).k,.string (rcF s).s,.string (rcF s).o,.int .i64 (rcF s).b,.slice A n cap],.bool (rcB s)])∧(rcF s).L.length=n∧w'.ownsRow B 69 5 (.slice A n cap) n (QC srC (rcF s).L)
theorem post_no {s:ByteArray} {B:Nat} {w':World} {e:Ending} (h:rcB s=false) (he:e= .returned (.tuple #[.agg #[.int .i64 0,.string ⟨#[]⟩,.string ⟨#[]⟩,.int .i64 0,.slice none 0 0],.bool false])):PostRC s B w' e:=by
 have hF:rcF s=⟨0,⟨#[]⟩,⟨#[]⟩,0,[]⟩:=by unfold rcF;rw [if_neg (by rw [h];simp)]
 unfold PostRC;rw [hF,h];exact⟨none,0,0,he,rfl,World.ownsRow_nil _ _ _ _⟩
theorem post_yes {s:ByteArray} {B:Nat} {w':World} {e:Ending} {k b:Int} {p q:ByteArray} {L:List SR} {A:Option Addr} {n cap:Nat} (h:rcB s=true) (hc:cmI s.data.toList=⟨k,p,q,b,L⟩) (hL:L.length=n) (ho:w'.ownsRow B 69 5 (.slice A n cap) n (QC srC L))
  (he:e= .returned (.tuple #[.agg #[.int .i64 k,.string p,.string q,.int .i64 b,.slice A n cap],.bool true])):PostRC s B w' e:=by
 have hF:rcF s=⟨k,p,q,b,L⟩:=by unfold rcF;rw [if_pos h,hc]
 unfold PostRC;rw [hF,h];exact⟨A,n,cap,he,hL,ho⟩
theorem rc_yes {s:ByteArray} {c:CR} {t:ByteArray} (hc:cmI s.data.toList=c) (ht:cmL c=t) (h0:t.toList.isEmpty=false) (h1:(t.toList==s.toList)=true):rcB s=true:=by
 unfold rcB;rw [hc,ht,h1,←ba_tl.1 h1,h0];rfl
theorem rc_none {s:ByteArray} {c:CR} {t:ByteArray} (hc:cmI s.data.toList=c) (ht:cmL c=t) (h0:t.toList.isEmpty=true):rcB s=false:=by
 unfold rcB;rw [hc,ht];cases h1:t.toList==s.toList
 ·rw [Bool.and_false]
 ·rw [←ba_tl.1 h1,h0];rfl
theorem rc_other {s:ByteArray} {c:CR} {t:ByteArray} (hc:cmI s.data.toList=c) (ht:cmL c=t) (h1:(t.toList==s.toList)=false):rcB s=false:=by
 unfold rcB;rw [hc,ht,h1,Bool.and_false]
theorem bs_szC (l:List UInt8):(bs l).size=l.length:=Qz l
theorem own_setC {B b:Nat} {W Y:World} {e:TypeId} {size n:Nat} {v:Value} {xs:List Value} (h:W.ownsRow B e size v n xs) (hb:b<B) (hbe:Below b W Y) (hz:Y.heap.size=W.heap.size) (hk: ∀k,k≠b→Y.heap[k]? =W.heap[k]?):Y.ownsRow B e size v n xs:=by
 refine h.kept ⟨hbe.1,hbe.2,hbe.3,by omega,fun k hk1 hk2=>hk k (fun e9=>hk2 (by rw [e9]))⟩ ?_;cases hv:v.ownBlock with
 | none=>exact Or.inl rfl
 | some g=>
  right
  intro e9;cases e9
  have:=(h.lt b hv).1;omega
theorem ne_lit {x:ByteArray} {y:ByteArray} {l:List UInt8} (e:y.data.toList=l) (h: ¬x.data.toList=l):(x.toList==y.toList)=false:=by
 cases h9:x.toList==y.toList
 ·rfl
 ·exact absurd (by rw [ba_tl.1 h9];exact e) h
theorem rmF_szM {s:ByteArray} (hs:s.size≤1048576): ∀i,i<(rmF s).length→(sT (rmF s) i).size≤1048576:=by
 intro i hi;unfold rmF at hi ⊢;split
 ·rename_i h
  rw [if_pos h]at hi;exact rmT_sz hs i hi
 ·rename_i h
  rw [if_neg h]at hi;exact absurd hi (Nat.not_lt_zero _)
end Go.Proofs.YtejbnnacghbhoaaGreatDoor
