import Derived.Test.YtbdhinckiccniaaGreatDoorGap
import Derived.Test.YtbdhinckiccniaaGreatDoorGai
import Derived.Test.YtbdhinckiccniaaGreatDoorShelf
set_option linter.unusedSimpArgs false
set_option linter.unusedVariables false
set_option maxHeartbeats 2000000
namespace Go.Proofs.YtbdhinckiccniaaGreatDoor
open Go.RowKit
theorem Qqd (b:UInt8):isW b=(decide (65≤(b.toNat:Int)∧(b.toNat:Int)≤90) || decide (48≤(b.toNat:Int)∧(b.toNat:Int)≤57) || decide ((b.toNat:Int)=36)):=by
 unfold isW;have h1:decide (65≤b.toNat∧b.toNat≤90)=decide (65≤(b.toNat:Int)∧(b.toNat:Int)≤90):=by rw [decide_eq_decide];omega
 have h2:decide (48≤b.toNat∧b.toNat≤57)=decide (48≤(b.toNat:Int)∧(b.toNat:Int)≤57):=by rw [decide_eq_decide];omega
 have h3:(b==36)=decide ((b.toNat:Int)=36):=by
  rw [Bool.eq_iff_iff];simp only [beq_iff_eq,decide_eq_true_eq];constructor
  ·intro e;rw [e];rfl
  ·intro e;apply UInt8.toNat_inj.1;have:(36:UInt8).toNat=36:=rfl;omega
 rw [h1,h2,h3]
theorem YH (b:UInt8) (w:World):Calls Tryz.prog 316 #[.int .u8 (b.toNat:Int)] w fun e w'=>
  e= .returned (.bool (isW b))∧w'=w:=by
 have HW:Hid (isW b=(decide (65≤(b.toNat:Int)∧(b.toNat:Int)≤90) || decide (48≤(b.toNat:Int)∧(b.toNat:Int)≤57) || decide ((b.toNat:Int)=36))):=Qqd b;obtain⟨n,hn⟩: ∃n:Int,(b.toNat:Int)=n:=⟨_,rfl⟩;rw [hn]at HW ⊢;clear hn;go_enter Tryz.func316,Tryz.ntmps316;go_wp2_with (go_at_call 237;refine(YG _ _).mono ?_;rintro e w1 ⟨rfl,rfl⟩)
 all_goals
  go_ret;refine⟨Qb ?_,rfl⟩;rw [HW.out,Bool.eq_iff_iff];simp only [Bool.or_eq_true,decide_eq_true_eq]
  first
   | (simp;omega)
   | (simp_all;done)
   | (simp_all;omega)
theorem Qn6 (s:ByteArray) (k:Nat) (h:k<s.size) (hw:isW s[k]=true):((rest s k).takeWhile isW).length=((rest s (k+1)).takeWhile isW).length+1:=by
 rw [QU s k h,List.takeWhile_cons,if_pos hw];rfl
theorem Qn5 (s:ByteArray) (k:Nat) (h:k<s.size) (hw:isW s[k]=false):((rest s k).takeWhile isW).length=0:=by
 rw [QU s k h,List.takeWhile_cons,if_neg (by rw [hw];simp)];rfl
theorem UT (s:ByteArray) (w:World) (hs:s.size≤1000):Calls Tryz.prog 317 #[.string s] w fun e w'=>
  e= .returned (.int .i64 (((rest s 0).takeWhile isW).length:Nat))∧w'=w:=by
 go_enter Tryz.func317,Tryz.ntmps317;go_wp2_with fail
 go_loop [3] (fun v=> ∃k:Nat,k≤s.size∧v= .int .i64 k∧((rest s 0).takeWhile isW).length=k+((rest s k).takeWhile isW).length) (fun v=>s.size-(intOf v).toNat)
 case atStart=>exact⟨0,Nat.zero_le _,rfl,by omega⟩
 case round=>
  obtain⟨k,hk,rfl,hr⟩:=hrel;have HR:Hid (((rest s 0).takeWhile isW).length=k+((rest s k).takeWhile isW).length):=hr;clear hr;have q0:(0:Int)≤(k:Int):=by omega
  by_cases hlt:k<s.size
  ·have q1:(k:Int)<(s.size:Int):=by omega
   cases hw:isW s[k]
   ·have HE:Hid (((rest s 0).takeWhile isW).length=k):=by show _=_;rw [HR.out,Qn5 s k hlt hw];rfl
    have HW:Hid (isW s[k]=false):=hw;clear hw;go_wp2_with (go_at_call 316;refine(YH s[k] _).mono ?_;rintro e w1 ⟨rfl,rfl⟩;rw [HW.out])
    go_ret;exact⟨by rw [HE.out];rfl,rfl⟩
   ·have HE:Hid (((rest s 0).takeWhile isW).length=k+1+((rest s (k+1)).takeWhile isW).length):=by show _=_;rw [HR.out,Qn6 s k hlt hw];omega
    have HW:Hid (isW s[k]=true):=hw;clear hw;go_wp2_with (go_at_call 316;refine(YH s[k] _).mono ?_;rintro e w1 ⟨rfl,rfl⟩;rw [HW.out])
    exact⟨⟨k+1,by omega,by simp,HE.out⟩,by simp [intOf];omega⟩
  ·have q1: ¬(k:Int)<(s.size:Int):=by omega
   have HE:Hid (((rest s 0).takeWhile isW).length=k):=by show _=_;rw [HR.out,YS s k (by omega)];rfl
   go_wp2_with fail
   go_ret;exact⟨by rw [HE.out];rfl,rfl⟩
def qNo (n:Nat) (q:Option (List UInt8 × List UInt8)):Nat:=match q with
 | some x=>n-x.2.length
 | none=>0
theorem Qfs (n:Nat) (o:List UInt8) (q:Option (List UInt8 × List UInt8)):qNo n (Mp o q)=qNo n q:=by
 cases q<;>rfl
def qN (s:ByteArray) (i:Nat):Nat:=qNo s.size (Zh (rest s i))
theorem Zu (s:ByteArray) (i:Nat):(rest s i).length=s.size-i:=by
 unfold rest;rw [List.length_drop];rfl
theorem Qj8 {s:ByteArray} {i:Nat} (h:i<s.size) (hb:s[i]≠34):qN s i=qN s (i+1):=by
 unfold qN;rw [QU s i h,Mo hb,Qfs]
theorem Qsi {s:ByteArray} {i:Nat} (h:i+1<s.size) (hb:s[i]=34) (hc:s[i+1]=34):qN s i=qN s (i+2):=by
 unfold qN;rw [QU s i (by omega),QU s (i+1) h,hb,hc,Qbu,Qfs]
theorem Qo6 {s:ByteArray} {i:Nat} (h:i<s.size) (hb:s[i]=34) (hc: ¬ ∃h:i+1<s.size,s[i+1]=34):qN s i=i+1:=by
 unfold qN;rw [QU s i h,hb,Dk]
 ·show s.size-(rest s (i+1)).length=i+1;rw [Zu];omega
 ·by_cases h2:i+1<s.size
  ·rw [QU s (i+1) h2];intro e;exact hc ⟨h2,by simpa using e⟩
  ·rw [YS s (i+1) (by omega)];simp
theorem Qsj {s:ByteArray} {i:Nat} (h:s.size≤i):qN s i=0:=by
 unfold qN;rw [YS s i h];rfl
theorem Gn (s:ByteArray) (w:World) (hs:s.size≤1000) (h0:1≤s.size):Calls Tryz.prog 314 #[.string s] w fun e w'=>
  e= .returned (.int .i64 (qN s 1:Nat))∧w'=w:=by
 go_enter Tryz.func314,Tryz.ntmps314;go_wp2_with fail
 go_loop [3] (fun v=> ∃k:Nat,k≤s.size∧v= .int .i64 k∧qN s 1=qN s k) (fun v=>s.size-(intOf v).toNat)
 case atStart=>exact⟨1,h0,rfl,rfl⟩
 case round=>
  obtain⟨k,hk,rfl,hr⟩:=hrel;have HR:Hid (qN s 1=qN s k):=hr;clear hr;have q0:(0:Int)≤(k:Int):=by omega
  have hw1:IntKind.i64.wrap ((k:Int)+1)=(k:Int)+1:=by rw [IntKind.wrap_i64];omega
  by_cases hlt:k<s.size
  ·have q1:(k:Int)<(s.size:Int):=by omega
   by_cases hb:s[k]=34
   ·have hb1:(s[k].toNat:Int)=34:=by rw [hb];rfl
    by_cases h2: ∃h:k+1<s.size,s[k+1]=34
    ·obtain⟨hlt2,hb2⟩:=h2;have hb3:(s[k+1].toNat:Int)=34:=by rw [hb2];rfl
     have q2:(k:Int)+1<(s.size:Int):=by omega
     have q3:(0:Int)≤(k:Int)+1:=by omega
     have q4:((k:Int)+1).toNat=k+1:=by omega
     have hw2:IntKind.i64.wrap ((k:Int)+1+1)=(k:Int)+1+1:=by rw [IntKind.wrap_i64];omega
     have HE:Hid (qN s 1=qN s (k+2)):=by show _=_;rw [HR.out,Qsi hlt2 hb hb2]
     go_wp2_with fail
     exact⟨⟨k+2,by omega,by congr 1,HE.out⟩,by simp [intOf];omega⟩
    ·have HE:Hid (qN s 1=k+1):=by show _=_;rw [HR.out,Qo6 hlt hb h2]
     by_cases hlt2:k+1<s.size
     ·have hb3: ¬(s[k+1].toNat:Int)=34:=fun e=>h2 ⟨hlt2,by apply UInt8.toNat_inj.1;have:(34:UInt8).toNat=34:=rfl;omega⟩;have q2:(k:Int)+1<(s.size:Int):=by omega
      have q3:(0:Int)≤(k:Int)+1:=by omega
      have q4:((k:Int)+1).toNat=k+1:=by omega
      clear h2;go_wp2_with fail
      go_ret;exact⟨by rw [HE.out];rfl,rfl⟩
     ·have q2: ¬(k:Int)+1<(s.size:Int):=by omega
      clear h2;go_wp2_with fail
      go_ret;exact⟨by rw [HE.out];rfl,rfl⟩
   ·have hb1: ¬(s[k].toNat:Int)=34:=fun e=>hb (by apply UInt8.toNat_inj.1;have:(34:UInt8).toNat=34:=rfl;omega);have HE:Hid (qN s 1=qN s (k+1)):=by show _=_;rw [HR.out,Qj8 hlt hb]
    clear hb;go_wp2_with fail
    exact⟨⟨k+1,by omega,by congr 1,HE.out⟩,by simp [intOf];omega⟩
  ·have q1: ¬(k:Int)<(s.size:Int):=by omega
   have HE:Hid (qN s 1=0):=by show _=_;rw [HR.out,Qsj (by omega)]
   go_wp2_with fail
   go_ret;exact⟨by rw [HE.out];rfl,rfl⟩
theorem Qgl (n:Nat) (h1:1≤n) (h5:n≤5):(erT (n:Int)).data.toList=erL n:=by
 have hk:n=1∨n=2∨n=3∨n=4∨n=5:=by omega
 rcases hk with rfl | rfl | rfl | rfl | rfl<;>rfl
theorem Qqp (n:Nat) (h1:1≤n) (h5:n≤5):(erT (n:Int)).size=(erL n).length:=by
 rw [←Qgl n h1 h5];rfl
theorem Uq (s:ByteArray) (w:World):Calls Tryz.prog 315 #[.string s] w fun e w'=>
  e= .returned (.int .i64 ((erL (YJ s.data.toList)).length:Nat))∧w'=w:=by
 go_enter Tryz.func315,Tryz.ntmps315;go_wp2_with fail
 go_loop [3] (fun v=> ∃n:Nat,v= .int .i64 n∧1≤n∧n≤6∧ ∀i,1≤i→i<n→(erL i).isPrefixOf s.data.toList=false) (fun v=>6-(intOf v).toNat)
 case atStart=>exact⟨1,rfl,by omega,by omega,fun i h1 h2=>by omega⟩
 case round=>
  obtain⟨n,rfl,hn1,hn6,hno⟩:=hrel;have HNO:Hid (∀i,1≤i→i<n→(erL i).isPrefixOf s.data.toList=false):=hno;clear hno;by_cases hn5:n≤5
  ·have q:(n:Int)≤5:=by omega
   have hw1:IntKind.i64.wrap ((n:Int)+1)=(n:Int)+1:=by rw [IntKind.wrap_i64];omega
   obtain⟨t,HT⟩: ∃t,Hid (erT (n:Int)=t):=⟨_,rfl⟩;have HTL:Hid (t.data.toList=erL n):=by show _=_;rw [←HT.out];exact Qgl n hn1 hn5
   have HTZ:Hid (t.size=(erL n).length):=by show _=_;rw [←HT.out];exact Qqp n hn1 hn5
   cases hp:(erL n).isPrefixOf s.data.toList
   ·have HP:Hid (Lib.hasPrefix s.data.toList t.data.toList=false):=by show _=_;rw [Lib.hasPrefix,HTL.out,hp]
    have HPN:Hid ((erL n).isPrefixOf s.data.toList=false):=hp;clear hp
    go_wp2_with (first
     | (go_at_call 284;refine(Qd _ _).mono ?_;rintro e w1 ⟨rfl,rfl⟩;rw [HT.out])
     | (go_at_call 323;refine(Tryz.strings_HasPrefix _ _ _).mono ?_;rintro e w1 ⟨rfl,rfl⟩;rw [HP.out]))
    exact⟨⟨n+1,by congr 1,by omega,by omega,fun i h1 h2=>by rcases Nat.lt_succ_iff_lt_or_eq.1 h2 with h3 | rfl;exact HNO.out i h1 h3;exact HPN.out⟩,by simp [intOf];omega⟩
   ·have HP:Hid (Lib.hasPrefix s.data.toList t.data.toList=true):=by show _=_;rw [Lib.hasPrefix,HTL.out,hp]
    have HE:Hid (YJ s.data.toList=n):=Qgm hn1 hn5 hp HNO.out;clear hp
    go_wp2_with (first
     | (go_at_call 284;refine(Qd _ _).mono ?_;rintro e w1 ⟨rfl,rfl⟩;rw [HT.out])
     | (go_at_call 323;refine(Tryz.strings_HasPrefix _ _ _).mono ?_;rintro e w1 ⟨rfl,rfl⟩;rw [HP.out]))
    go_ret;exact⟨by rw [HE.out,←HTZ.out];rfl,rfl⟩
  ·obtain rfl:n=6:=by omega
   have q: ¬((6:Nat):Int)≤5:=by omega
   have HE:Hid (YJ s.data.toList=0):=Dz HNO.out;go_wp2_with fail
   go_ret;exact⟨by rw [HE.out];rfl,rfl⟩
end Go.Proofs.YtbdhinckiccniaaGreatDoor
