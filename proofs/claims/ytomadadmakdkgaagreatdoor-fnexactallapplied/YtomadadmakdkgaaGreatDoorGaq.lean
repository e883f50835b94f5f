import Derived.Test.YtomadadmakdkgaaGreatDoorGap
import Derived.Test.YtomadadmakdkgaaGreatDoorGai
import Derived.Test.YtomadadmakdkgaaGreatDoorShelf
open Go.Proofs.Tryz
open Go.Lib renaming hasPrefix → a
open Go.IntKind renaming wrap_i64 → c, i64 → j
open UInt8 renaming toNat_inj → d
open List renaming takeWhile_cons → f
open Go.Value renaming int → g, string → p, bool → r
open Go.Ending renaming returned → l
open Bool renaming eq_iff_iff → m
set_option linter.unusedSimpArgs false
set_option linter.unusedVariables false
set_option maxHeartbeats 2000000
namespace Go.Proofs.YtomadadmakdkgaaGreatDoor
open Go.RowKit
variable {s:ByteArray} {i:Nat}
theorem Qri(b:UInt8):isW b=(decide (65<=(b.toNat:Int)/\(b.toNat:Int)<=90) || decide (48<=(b.toNat:Int)/\(b.toNat:Int)<=57) || decide ((b.toNat:Int)=36)):=by
 unfold isW;have h1:decide (65<=b.toNat/\b.toNat<=90)=decide (65<=(b.toNat:Int)/\(b.toNat:Int)<=90):=by rw[decide_eq_decide];omega
 have h2:decide (48<=b.toNat/\b.toNat<=57)=decide (48<=(b.toNat:Int)/\(b.toNat:Int)<=57):=by rw[decide_eq_decide];omega
 have h3:(b==36)=decide ((b.toNat:Int)=36):=by
  rw[m];simp only[beq_iff_eq,decide_eq_true_eq];constructor
  ·intro e;rw[e];rfl
  ·intro e;apply d.1;have:(36:UInt8).toNat=36:=rfl;omega
 rw[h1,h2,h3]
theorem Xu(b:UInt8)(w:World):Calls prog 262 #[.int .u8 (b.toNat:Int)] w fun e w'=>
  e= l (r (isW b))/\w'=w:=by
 have HW:Hid (isW b=(decide (65<=(b.toNat:Int)/\(b.toNat:Int)<=90) || decide (48<=(b.toNat:Int)/\(b.toNat:Int)<=57) || decide ((b.toNat:Int)=36))):=Qri b;obtain⟨n,hn⟩: ∃n:Int,(b.toNat:Int)=n:=⟨_,rfl⟩;rw[hn]at HW ⊢;clear hn;go_enter func262,ntmps262;go_wp2_with (go_at_call 278;refine(Xt _ _).mono ?_;rintro e w1 ⟨rfl,rfl⟩)
 all_goals
  go_ret;refine⟨Qc ?_,rfl⟩;rw[HW.out,m];simp only[Bool.or_eq_true,decide_eq_true_eq]
  first
   | (simp;omega)
   | (simp_all;done)
   | (simp_all;omega)
theorem Qo9(s:ByteArray)(k:Nat)(h:k<s.size)(hw:isW s[k]=true):((rest s k).takeWhile isW).length=((rest s (k+1)).takeWhile isW).length+1:=by
 rw[Zk s k h,f,pS hw];rfl
theorem Qo8(s:ByteArray)(k:Nat)(h:k<s.size)(hw:isW s[k]=false):((rest s k).takeWhile isW).length=0:=by
 rw[Zk s k h,f,nG (by rw[hw];simp)];rfl
theorem Ni(s:ByteArray)(w:World)(hs:s.size<=1000):Calls prog 263 #[p s] w fun e w'=>
  e= l (g j (((rest s 0).takeWhile isW).length:Nat))/\w'=w:=by
 go_enter func263,ntmps263;go_wp2_with fail
 go_loop [3] (fun v=> ∃k:Nat,k<=s.size/\v= g j k/\((rest s 0).takeWhile isW).length=k+((rest s k).takeWhile isW).length) (fun v=>s.size-(intOf v).toNat)
 case atStart=>exact⟨0,Nat.zero_le _,rfl,by omega⟩
 case round=>
  obtain⟨k,hk,rfl,hr⟩:=hrel;have HR:Hid (((rest s 0).takeWhile isW).length=k+((rest s k).takeWhile isW).length):=hr;clear hr;have q0:(0:Int)<=(k:Int):=by omega
  by_cases h0:k<s.size
  ·have q1:(k:Int)<(s.size:Int):=by omega
   cases hw:isW s[k]
   ·have HE:Hid (((rest s 0).takeWhile isW).length=k):=by show _=_;rw[HR.out,Qo8 s k h0 hw];rfl
    have HW:Hid (isW s[k]=false):=hw;clear hw;go_wp2_with (go_at_call 262;refine(Xu s[k] _).mono ?_;rintro e w1 ⟨rfl,rfl⟩;rw[HW.out])
    go_ret;exact⟨by rw[HE.out];rfl,rfl⟩
   ·have HE:Hid (((rest s 0).takeWhile isW).length=k+1+((rest s (k+1)).takeWhile isW).length):=by show _=_;rw[HR.out,Qo9 s k h0 hw];omega
    have HW:Hid (isW s[k]=true):=hw;clear hw;go_wp2_with (go_at_call 262;refine(Xu s[k] _).mono ?_;rintro e w1 ⟨rfl,rfl⟩;rw[HW.out])
    exact⟨⟨k+1,by omega,by simp,HE.out⟩,by simp[intOf];omega⟩
  ·have q1: ¬(k:Int)<(s.size:Int):=by omega
   have HE:Hid (((rest s 0).takeWhile isW).length=k):=by show _=_;rw[HR.out,XK s k (by omega)];rfl
   go_wp2_with fail
   go_ret;exact⟨by rw[HE.out];rfl,rfl⟩
def qNo(n:Nat)(q:Option (List UInt8 × List UInt8)):Nat:=match q with
 | some x=>n-x.2.length
 | none=>0
theorem Qgd(n:Nat)(o:List UInt8)(q:Option (List UInt8 × List UInt8)):qNo n (NI o q)=qNo n q:=by
 cases q<;>rfl
def qN(s:ByteArray)(i:Nat):Nat:=qNo s.size (ZE (rest s i))
theorem Ye(s:ByteArray)(i:Nat):(rest s i).length=s.size-i:=by
 unfold rest;rw[List.length_drop];rfl
theorem Qk7(h:i<s.size)(hb:s[i]≠34):qN s i=qN s (i+1):=by
 unfold qN;rw[Zk s i h,NF hb,Qgd]
theorem Qt7(h:i+1<s.size)(hb:s[i]=34)(hc:s[i+1]=34):qN s i=qN s (i+2):=by
 unfold qN;rw[Zk s i (by omega),Zk s (i+1) h,hb,hc,Qcm,Qgd]
theorem Qqj(h:i<s.size)(hb:s[i]=34)(hc: ¬ ∃h:i+1<s.size,s[i+1]=34):qN s i=i+1:=by
 unfold qN;rw[Zk s i h,hb,Bu]
 ·show s.size-(rest s (i+1)).length=i+1;rw[Ye];omega
 ·by_cases h2:i+1<s.size
  ·rw[Zk s (i+1) h2];intro e;exact hc ⟨h2,by simpa using e⟩
  ·rw[XK s (i+1) (by omega)];simp
theorem Qt8(h:s.size<=i):qN s i=0:=by
 unfold qN;rw[XK s i h];rfl
theorem UM(s:ByteArray)(w:World)(hs:s.size<=1000)(h0:1<=s.size):Calls prog 260 #[p s] w fun e w'=>
  e= l (g j (qN s 1:Nat))/\w'=w:=by
 go_enter func260,ntmps260;go_wp2_with fail
 go_loop [3] (fun v=> ∃k:Nat,k<=s.size/\v= g j k/\qN s 1=qN s k) (fun v=>s.size-(intOf v).toNat)
 case atStart=>exact⟨1,h0,rfl,rfl⟩
 case round=>
  obtain⟨k,hk,rfl,hr⟩:=hrel;have HR:Hid (qN s 1=qN s k):=hr;clear hr;have q0:(0:Int)<=(k:Int):=by omega
  have hw1:IntKind.i64.wrap ((k:Int)+1)=(k:Int)+1:=by rw[c];omega
  by_cases h3:k<s.size
  ·have q1:(k:Int)<(s.size:Int):=by omega
   by_cases hb:s[k]=34
   ·have h6:(s[k].toNat:Int)=34:=by rw[hb];rfl
    by_cases h2: ∃h:k+1<s.size,s[k+1]=34
    ·obtain⟨h1,h4⟩:=h2;have h5:(s[k+1].toNat:Int)=34:=by rw[h4];rfl
     have q2:(k:Int)+1<(s.size:Int):=by omega
     have q3:(0:Int)<=(k:Int)+1:=by omega
     have q4:((k:Int)+1).toNat=k+1:=by omega
     have hw2:IntKind.i64.wrap ((k:Int)+1+1)=(k:Int)+1+1:=by rw[c];omega
     have HE:Hid (qN s 1=qN s (k+2)):=by show _=_;rw[HR.out,Qt7 h1 hb h4]
     go_wp2_with fail
     exact⟨⟨k+2,by omega,by congr 1,HE.out⟩,by simp[intOf];omega⟩
    ·have HE:Hid (qN s 1=k+1):=by show _=_;rw[HR.out,Qqj h3 hb h2]
     by_cases h1:k+1<s.size
     ·have h5: ¬(s[k+1].toNat:Int)=34:=fun e=>h2 ⟨h1,by apply d.1;have:(34:UInt8).toNat=34:=rfl;omega⟩;have q2:(k:Int)+1<(s.size:Int):=by omega
      have q3:(0:Int)<=(k:Int)+1:=by omega
      have q4:((k:Int)+1).toNat=k+1:=by omega
      clear h2;go_wp2_with fail
      go_ret;exact⟨by rw[HE.out];rfl,rfl⟩
     ·have q2: ¬(k:Int)+1<(s.size:Int):=by omega
      clear h2;go_wp2_with fail
      go_ret;exact⟨by rw[HE.out];rfl,rfl⟩
   ·have h6: ¬(s[k].toNat:Int)=34:=fun e=>hb (by apply d.1;have:(34:UInt8).toNat=34:=rfl;omega);have HE:Hid (qN s 1=qN s (k+1)):=by show _=_;rw[HR.out,Qk7 h3 hb]
    clear hb;go_wp2_with fail
    exact⟨⟨k+1,by omega,by congr 1,HE.out⟩,by simp[intOf];omega⟩
  ·have q1: ¬(k:Int)<(s.size:Int):=by omega
   have HE:Hid (qN s 1=0):=by show _=_;rw[HR.out,Qt8 (by omega)]
   go_wp2_with fail
   go_ret;exact⟨by rw[HE.out];rfl,rfl⟩
theorem Qg5(n:Nat)(h1:1<=n)(h5:n<=5):(erT (n:Int)).data.toList=erL n:=by
 have hk:n=1\/n=2\/n=3\/n=4\/n=5:=by omega
 rcases hk with rfl | rfl | rfl | rfl | rfl<;>rfl
theorem Qrt(n:Nat)(h1:1<=n)(h5:n<=5):(erT (n:Int)).size=(erL n).length:=by
 rw[<-Qg5 n h1 h5];rfl
theorem MD(s:ByteArray)(w:World):Calls prog 261 #[p s] w fun e w'=>
  e= l (g j ((erL (Xd s.data.toList)).length:Nat))/\w'=w:=by
 go_enter func261,ntmps261;go_wp2_with fail
 go_loop [3] (fun v=> ∃n:Nat,v= g j n/\1<=n/\n<=6/\ ∀i,1<=i->i<n->(erL i).isPrefixOf s.data.toList=false) (fun v=>6-(intOf v).toNat)
 case atStart=>exact⟨1,rfl,by omega,by omega,fun i h1 h2=>by omega⟩
 case round=>
  obtain⟨n,rfl,h4,hn6,h6⟩:=hrel;have h5:Hid (∀i,1<=i->i<n->(erL i).isPrefixOf s.data.toList=false):=h6;clear h6;by_cases h0:n<=5
  ·have q:(n:Int)<=5:=by omega
   have hw1:IntKind.i64.wrap ((n:Int)+1)=(n:Int)+1:=by rw[c];omega
   obtain⟨t,HT⟩: ∃t,Hid (erT (n:Int)=t):=⟨_,rfl⟩;have h7:Hid (t.data.toList=erL n):=by show _=_;rw[<-HT.out];exact Qg5 n h4 h0
   have h8:Hid (t.size=(erL n).length):=by show _=_;rw[<-HT.out];exact Qrt n h4 h0
   cases hp:(erL n).isPrefixOf s.data.toList
   ·have HP:Hid (a s.data.toList t.data.toList=false):=by show _=_;rw[a,h7.out,hp]
    have h9:Hid ((erL n).isPrefixOf s.data.toList=false):=hp;clear hp
    go_wp2_with (first
     | (go_at_call 213;refine(Qg _ _).mono ?_;rintro e w1 ⟨rfl,rfl⟩;rw[HT.out])
     | (go_at_call 277;refine(Tryz.strings_HasPrefix _ _ _).mono ?_;rintro e w1 ⟨rfl,rfl⟩;rw[HP.out]))
    exact⟨⟨n+1,by congr 1,by omega,by omega,fun i h1 h2=>by rcases Nat.lt_succ_iff_lt_or_eq.1 h2 with h3 | rfl;exact h5.out i h1 h3;exact h9.out⟩,by simp[intOf];omega⟩
   ·have HP:Hid (a s.data.toList t.data.toList=true):=by show _=_;rw[a,h7.out,hp]
    have HE:Hid (Xd s.data.toList=n):=Qg7 h4 h0 hp h5.out;clear hp
    go_wp2_with (first
     | (go_at_call 213;refine(Qg _ _).mono ?_;rintro e w1 ⟨rfl,rfl⟩;rw[HT.out])
     | (go_at_call 277;refine(Tryz.strings_HasPrefix _ _ _).mono ?_;rintro e w1 ⟨rfl,rfl⟩;rw[HP.out]))
    go_ret;exact⟨by rw[HE.out,<-h8.out];rfl,rfl⟩
  ·obtain rfl:n=6:=by omega
   have q: ¬((6:Nat):Int)<=5:=by omega
   have HE:Hid (Xd s.data.toList=0):=BT h5.out;go_wp2_with fail
   go_ret;exact⟨by rw[HE.out];rfl,rfl⟩
end Go.Proofs.YtomadadmakdkgaaGreatDoor
