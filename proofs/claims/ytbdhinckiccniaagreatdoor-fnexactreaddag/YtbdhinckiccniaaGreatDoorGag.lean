import Derived.Test.YtbdhinckiccniaaGreatDoorShelf
import Derived.Test.YtbdhinckiccniaaGreatDoorGaa
import Derived.Lib.LaidTab
import Derived.Stop.LaidErr
import Derived.Lib.AppendIntMem
import Derived.Lib.AtoiErrMem
import Derived.Test.YtbdhinckiccniaaGreatDoorBase
import Derived.Lib.ParseIntBCases
import Derived.Lib.ItoaMem
import Derived.Test.YtbdhinckiccniaaGreatDoorGac
import Derived.Test.YtbdhinckiccniaaGreatDoorGad
set_option linter.unusedSimpArgs false
set_option linter.unusedVariables false
set_option maxHeartbeats 4000000
namespace Go.Proofs.YtbdhinckiccniaaGreatDoor
open Go.RowKit
theorem XW {P:Program} {W w':World} {n:String} {cs:Array Value} (h:W.var? P n=some cs) (hb:Below W.heap.size W w'):w'.var? P n=some cs:=by
 unfold World.var? at h ⊢;cases hg:P.globalNamed n with
 | none=>rw [hg]at h;cases h
 | some g=>
  rw [hg]at h;simp only [Option.bind_some]at h ⊢
  have hl:g<W.heap.size:=by
   cases hq:W.heap[g]? with
   | none=>rw [hq]at h;cases h
   | some o=>exact(Array.getElem?_eq_some_iff.1 hq).1
  rw [hb.block g hl];exact h
def Vars (W : World) : Prop := Lib.TabIs Tryz.prog W "internal/strconv.uint64pow10" .u64 Lib.pow10Tab ∧ (∃ tp p, W.var? Tryz.prog "strconv.ErrSyntax" = some #[.iface tp p]) ∧ (∃ tp p, W.var? Tryz.prog "strconv.ErrRange" = some #[.iface tp p])
theorem Vars.below {W w':World} (h:Vars W) (hb:Below W.heap.size W w'):Vars w':=by
 obtain⟨h1,⟨t2,p2,h2⟩,⟨t3,p3,h3⟩⟩:=h;exact⟨XW h1 hb,⟨t2,p2,XW h2 hb⟩,⟨t3,p3,XW h3 hb⟩⟩
def Yt (l:List UInt8):Option Int:=match Lib.parseIntB 64 l with
 | .ok v=>if Lib.itoa v=l then some v else none
 | _=>none
theorem Ef {l:List UInt8} {v:Int} (h:Lib.parseIntB 64 l= .ok v) (h':Lib.itoa v=l):Yt l=some v:=by rw [Yt,h];exact if_pos h'
theorem Qoz {l:List UInt8} {v:Int} (h:Lib.parseIntB 64 l= .ok v) (h': ¬Lib.itoa v=l):Yt l=none:=by rw [Yt,h];exact if_neg h'
theorem Yy (s:ByteArray) (w:World) (hs:s.size≤281474976710656) (hv:Vars w):Calls Tryz.prog 75 #[.string s] w fun e w'=>
  e= .returned (.tuple #[.int .i64 ((Yt s.data.toList).getD 0),.bool (Yt s.data.toList).isSome])∧Below w.heap.size w w':=by
 have HV:Hid (Vars w):=hv;clear hv;cases hp:Lib.parseIntB 64 s.data.toList with
 | ok v=>
  have hbd: -9223372036854775808≤v∧v≤9223372036854775807:=by have:=Lib.parseIntB_bounds hp;omega
  by_cases hi:Lib.itoa v=s.data.toList
  ·have HE:Hid (Yt s.data.toList=some v):=Ef hp hi;have hq:(⟨(Lib.itoa v).toArray⟩:ByteArray)=s:=by rw [hi]
   go_enter Tryz.func75,Tryz.ntmps75
   go_wp2_with (first
    | (go_at_call 134;refine(Tryz.strconv_ParseInt_10_at64_ok s (by omega) v hp _).mono ?_;rintro e w1 ⟨rfl,hw⟩;have hb:Below w.heap.size w w1:=(by rcases hw with rfl | ⟨t,rfl⟩;exact Below.refl _ _;exact Lib.bytesWorld_below _ _ _);have HW1:Hid (Vars w1):=HV.out.below hb;clear hw)
    | (go_at_call 135;refine(Tryz.strconv_FormatInt_10 v hbd.1 hbd.2 _ HW1.out.1).mono ?_;rintro e w2 ⟨rfl,k,os,rfl⟩;rw [hq];have hb2:=Lib.below_grow w1.heap.size w1 (Nat.le_refl _) k os))
   all_goals
    refine bodyPost_ret (v:= .tuple #[.int .i64 v,.bool true]) ?_ rfl ⟨by rw [HE.out];rfl,Qc hb hb2⟩;simp (maxDischargeDepth:=9) [results,Tryz.results75,go_sem, *]
  ·have HE:Hid (Yt s.data.toList=none):=Qoz hp hi;have hq2: ¬Lib.itoa v=s.toList:=by rw [ByteArray.toList_eq];exact hi
   have hq:(Lib.itoa v==s.toList)=false:=by simpa using hq2
   go_enter Tryz.func75,Tryz.ntmps75
   go_wp2_with (first
    | (go_at_call 134;refine(Tryz.strconv_ParseInt_10_at64_ok s (by omega) v hp _).mono ?_;rintro e w1 ⟨rfl,hw⟩;have hb:Below w.heap.size w w1:=(by rcases hw with rfl | ⟨t,rfl⟩;exact Below.refl _ _;exact Lib.bytesWorld_below _ _ _);have HW1:Hid (Vars w1):=HV.out.below hb;clear hw)
    | (go_at_call 135;refine(Tryz.strconv_FormatInt_10 v hbd.1 hbd.2 _ HW1.out.1).mono ?_;rintro e w2 ⟨rfl,k,os,rfl⟩;have hb2:=Lib.below_grow w1.heap.size w1 (Nat.le_refl _) k os))
   all_goals
    refine bodyPost_ret (v:= .tuple #[.int .i64 0,.bool false]) ?_ rfl ⟨by rw [HE.out];rfl,Qc hb hb2⟩;simp (maxDischargeDepth:=9) [results,Tryz.results75,go_sem, *]
 | «syntax»=>
  obtain⟨tp,p,h2⟩:=HV.out.2.1;have HE:Hid (Yt s.data.toList=none):=by show Yt _=none;rw [Yt,hp]
  have HQ : Hid (w.var? Tryz.prog "strconv.ErrSyntax" = some #[.iface tp p]) := h2
  clear h2;go_enter Tryz.func75,Tryz.ntmps75
  go_wp2_with (first
   | (go_at_call 134;refine(Tryz.strconv_ParseInt_10_at64_syntax_var s hs hp tp p _ HQ.out).mono ?_;rintro e w1 ⟨N,rfl,hN,hh,hb⟩;clear hh hN))
  all_goals
   refine bodyPost_ret (v:= .tuple #[.int .i64 0,.bool false]) ?_ rfl ⟨by rw [HE.out];rfl,by go_grown⟩;simp (maxDischargeDepth:=9) [results,Tryz.results75,go_sem, *]
 | range=>
  obtain⟨tp,p,h2⟩:=HV.out.2.2;have HE:Hid (Yt s.data.toList=none):=by show Yt _=none;rw [Yt,hp]
  have HQ : Hid (w.var? Tryz.prog "strconv.ErrRange" = some #[.iface tp p]) := h2
  clear h2;go_enter Tryz.func75,Tryz.ntmps75
  go_wp2_with (first
   | (go_at_call 134;refine(Tryz.strconv_ParseInt_10_at64_range_var s hs hp tp p _ HQ.out).mono ?_;rintro e w1 ⟨N,rfl,hN,hh,hb⟩;clear hh hN))
  all_goals
   refine bodyPost_ret (v:= .tuple #[.int .i64 0,.bool false]) ?_ rfl ⟨by rw [HE.out];rfl,by go_grown⟩;simp (maxDischargeDepth:=9) [results,Tryz.results75,go_sem, *]
def Zm:List UInt8→Nat→Option Nat
 | [],n=>some n
 | b::t,n=>if 48≤b.toNat∧b.toNat≤57 then Zm t (n*10+(b.toNat-48))else none
def l16 (l:List UInt8):Option Nat:=if l.length<1∨16<l.length∨(l.head? =some 48∧1<l.length)then none else Zm l 0
theorem Nq: ∀(l:List UInt8) (b:UInt8) (n:Nat),Zm (l++ [b]) n=(Zm l n).bind fun m=>if 48≤b.toNat∧b.toNat≤57 then some (m*10+(b.toNat-48))else none
 | [],b,n=>by simp only [List.nil_append,Zm,Option.bind_some]
 | a::l,b,n=>by
  simp only [List.cons_append,Zm];split
  ·exact Nq l b _
  ·rfl
theorem Qgo: ∀(l:List UInt8) (n m:Nat),Zm l n=some m→n≤m
 | [],n,m,h=>by simp only [Zm]at h;cases h;exact Nat.le_refl _
 | a::l,n,m,h=>by
  simp only [Zm]at h;split at h
  ·have:=Qgo l _ m h;omega
  ·cases h
theorem Qgn: ∀(l:List UInt8) (n m:Nat),Zm l n=some m→m<(n+1)*10^l.length
 | [],n,m,h=>by simp only [Zm]at h;cases h;simp
 | a::l,n,m,h=>by
  simp only [Zm]at h;split at h
  ·have h1:=Qgn l _ m h;rename_i hd
   have h2:n*10+(a.toNat-48)+1≤(n+1)*10:=by omega
   have h3:(n*10+(a.toNat-48)+1)*10^l.length≤(n+1)*10*10^l.length:=Nat.mul_le_mul_right _ h2
   have h4:(n+1)*10^(a::l).length=(n+1)*10*10^l.length:=by
    rw [List.length_cons,Nat.pow_succ,Nat.mul_comm (10^l.length) 10,Nat.mul_assoc]
   omega
  ·cases h
theorem Jv: ∀(l:List UInt8) (n m:Nat),Zm l n=some m→m<1844674407370955162→Lib.parseUintM (2^64-1) n l= .ok m
 | [],n,m,h,_=>by simp only [Zm]at h;cases h;rfl
 | a::l,n,m,h,hm=>by
  simp only [Zm]at h;split at h
  ·rename_i hd
   have h1:=Qgo l _ m h;simp only [Lib.parseUintM];rw [if_pos hd,if_neg (by omega),if_neg (by omega)];exact Jv l _ m h hm
  ·cases h
theorem Qcs (b:UInt8) (n:Nat) (h:b.toNat=48+n):UInt8.ofNat (48+n)=b:=by rw [←h];simp
theorem Qck (l:List UInt8): ∀(m:Nat),Zm l 0=some m→l≠ []→l.head?≠some 48→1≤m∧Lib.decDigits m=l:=by
 generalize hk:l.length=k
 induction k generalizing l with
 | zero=>intro m _ h;exact absurd (List.length_eq_zero_iff.1 hk) h
 | succ k ih=>
  intro m hm hne hh;rcases List.eq_nil_or_concat l with rfl | ⟨l',b,rfl⟩
  ·exact absurd rfl hne
  rw [List.concat_eq_append]at*;rw [Nq]at hm;cases hd:Zm l' 0 with
  | none=>rw [hd]at hm;cases hm
  | some q=>
   rw [hd]at hm;simp only [Option.bind_some]at hm;split at hm
   ·rename_i hb
    have hm':=Option.some.inj hm;obtain⟨x,hx⟩: ∃x,b.toNat=48+x:=⟨b.toNat-48,by omega⟩;by_cases hl:l'= []
    ·subst hl;simp only [Zm]at hd;cases hd
     have hb48:b≠48:=fun e=>hh (by simp [e]);have hx0:x≠0:=fun e=>hb48 (by apply UInt8.toNat_inj.1;rw [hx,e];rfl);have hmx:m=x:=by omega
     subst hmx;exact⟨by omega,by rw [Lib.decDigits_one (by omega),Qcs b m hx];rfl⟩
    ·obtain⟨h1,h2⟩:=ih l' (by simp at hk;omega) q hd hl (fun e=>hh (by
      cases l' with
      | nil=>exact absurd rfl hl
      | cons a t=>simpa using e))
     have hmq:m=q*10+x:=by omega
     refine⟨by omega,?_⟩;rw [Lib.decDigits,dif_neg (by omega),show m/10=q by omega,h2,show m%10=x by omega,Qcs b x hx]
   ·cases hm
theorem Qcl (m:Nat):Zm (Lib.decDigits m) 0=some m:=by
 induction m using Nat.strongRecOn with
 | ind m ih=>
  by_cases h:m<10
  ·rw [Lib.decDigits_one h];have e:(UInt8.ofNat (48+m)).toNat=48+m:=by simp;omega
   simp only [Zm,e];rw [if_pos (by omega)];simp
  ·rw [Lib.decDigits,dif_neg h,Nq,ih (m/10) (by omega)];have e:(UInt8.ofNat (48+m%10)).toNat=48+m%10:=by simp;omega
   simp only [Option.bind_some,e];rw [if_pos (by omega)];congr 1
   omega
theorem Qlq (m:Nat) (h:1≤m):(Lib.decDigits m).head?≠some 48:=by
 induction m using Nat.strongRecOn with
 | ind m ih=>
  by_cases h9:m<10
  ·rw [Lib.decDigits_one h9];intro e;have e1:UInt8.ofNat (48+m)=48:=by simpa using e
   have e2:=congrArg UInt8.toNat e1;have e3:(UInt8.ofNat (48+m)).toNat=48+m:=by simp;omega
   rw [e3]at e2;have e4:(48:UInt8).toNat=48:=rfl;omega
  ·rw [Lib.decDigits,dif_neg h9];have:=ih (m/10) (by omega) (by omega);cases hd:Lib.decDigits (m/10)with
   | nil=>
    have:=Lib.decDigits_length (m/10);have:=Lib.nDigits_pos (m/10);rw [hd]at*;simp at*;omega
   | cons a t=>rw [hd]at this;simpa using this
theorem Ex: ∀(k m:Nat),m<10^(k+1)→(Lib.decDigits m).length≤k+1
 | 0,m,h=>by rw [Lib.decDigits_one (by simpa using h)];simp
 | k+1,m,h=>by
  by_cases h9:m<10
  ·rw [Lib.decDigits_one h9];simp
  ·rw [Lib.decDigits,dif_neg h9,List.length_append];have:=Ex k (m/10) (by rw [Nat.pow_succ]at h;omega);simp only [List.length_cons,List.length_nil];omega
theorem DF (m:Nat): ∀c,(Lib.decDigits m).head? =some c→48≤c.toNat∧c.toNat≤57:=by
 intro c hc;have h:=Qcl m;cases hd:Lib.decDigits m with
 | nil=>rw [hd]at hc;cases hc
 | cons a t=>
  rw [hd]at hc h;simp only [List.head?_cons,Option.some.injEq]at hc;subst hc;simp only [Zm]at h;split at h
  ·assumption
  ·cases h
theorem Ey (m:Nat) (h:m<10000000000000000):l16 (Lib.decDigits m)=some m:=by
 have h1:=Ex 15 m (by simpa using h);have h0:=Lib.decDigits_length m;have h2:=Lib.nDigits_pos m;unfold l16;rw [if_neg,Qcl];rintro(hh | hh | ⟨hh,hl⟩)
 ·omega
 ·omega
 ·by_cases hm:1≤m
  ·exact Qlq m hm hh
  ·obtain rfl:m=0:=by omega
   rw [Lib.decDigits_one (by omega)]at hl;simp at hl
theorem Xk {l:List UInt8} {m:Nat} (h:l16 l=some m):Lib.decDigits m=l∧m<10000000000000000∧Zm l 0=some m∧(∃c t,l=c::t∧48≤c.toNat∧c.toNat≤57):=by
 unfold l16 at h;split at h
 ·cases h
 ·rename_i hn
  have hlt:=Qgn l 0 m h;have hp:10^l.length≤10^16:=Nat.pow_le_pow_right (by omega) (by omega);have hlt2:m<10000000000000000:=by have e:(10:Nat)^16=10000000000000000:=rfl;omega
  match l,h,hn with
  | [],_,hn=>simp at hn
  | c::t,h,hn=>
   have hc:48≤c.toNat∧c.toNat≤57:=by
    have h':=h;simp only [Zm]at h';split at h'
    ·assumption
    ·cases h'
   refine⟨?_,hlt2,h,c,t,rfl,hc⟩;by_cases hz:c=48
   ·subst hz
    have ht:t= []:=by
     cases t with
     | nil=>rfl
     | cons a t'=>exact absurd (Or.inr (Or.inr ⟨rfl,by simp⟩)) hn
    subst ht;simp [Zm]at h;subst h;rw [Lib.decDigits_one (by omega)];rfl
   ·exact(Qck _ m h (by simp) (by simpa using hz)).2
def NS (l:List UInt8):Option Int:=
 if l.head? =some 45 then(match l16 l.tail with
  | some n=>if n=0 then none else some (-(n:Int))
  | none=>none)else(match l16 l with
  | some n=>some (n:Int)
  | none=>none)
theorem Dc {l:List UInt8} {v:Int} (h:NS l=some v):Lib.itoa v=l∧Lib.parseIntB 64 l= .ok v:=by
 unfold NS at h;split at h
 ·rename_i hh
  cases hq:l16 l.tail with
  | none=>rw [hq]at h;cases h
  | some n=>
   rw [hq]at h;simp only at h;split at h
   ·cases h
   ·rename_i hn
    cases h
    obtain⟨h1,h2,h3,c,t,h4,_⟩:=Xk hq
    obtain⟨r,rfl⟩: ∃r,l=45::r:=by
     cases l with
     | nil=>cases hh
     | cons a r=>exact⟨r,by rw [show a=45 by simpa using hh]⟩
    ·simp only [List.tail_cons]at h1 h3 h4;refine⟨by rw [Lib.itoa_neg n (by omega),h1],?_⟩;rw [Lib.parseIntB_minus]
     have e:Lib.parseUintB 64 r= .ok n:=by
      unfold Lib.parseUintB;rw [if_neg (by rw [h4];simp)];exact Jv r 0 n h3 (by omega)
     rw [e];simp only [Lib.signedC];rw [if_neg (by have e2:(2:Nat)^(64-1)=9223372036854775808:=rfl;omega)]
 ·rename_i hh
  cases hq:l16 l with
  | none=>rw [hq]at h;cases h
  | some n=>
   rw [hq]at h;cases h
   obtain⟨h1,h2,h3,c,t,h4,h5⟩:=Xk hq;refine⟨by rw [Lib.itoa_nonneg n,h1],?_⟩;rw [h4,Lib.parseIntB_plain 64 c t (by omega) (by omega),←h4]
   have e:Lib.parseUintB 64 l= .ok n:=by
    unfold Lib.parseUintB;rw [if_neg (by rw [h4];simp)];exact Jv l 0 n h3 (by omega)
   rw [e];simp only [Lib.signlessC];rw [if_neg (by have e2:(2:Nat)^(64-1)=9223372036854775808:=rfl;omega)]
theorem Du (v:Int) (h0: -10000000000000000<v) (h1:v<10000000000000000):NS (Lib.itoa v)=some v:=by
 by_cases hn:v<0
 ·obtain⟨n,rfl⟩: ∃n:Nat,v= -(n:Int):=⟨v.natAbs,by omega⟩;rw [Lib.itoa_neg n (by omega)];unfold NS;rw [if_pos (by simp),List.tail_cons,Ey n (by omega)];simp only;rw [if_neg (by omega)]
 ·obtain⟨n,rfl⟩: ∃n:Nat,v=(n:Int):=⟨v.toNat,by omega⟩;rw [Lib.itoa_nonneg n];unfold NS;rw [if_neg,Ey n (by omega)];intro e;have:=(DF n 45 e).1;have e4:(45:UInt8).toNat=45:=rfl
  omega
def trT (n:Int):ByteArray:=if n=0 then⟨#[70,65,76,83,69]⟩else⟨#[84,82,85,69]⟩
def erT (n:Int):ByteArray:=
 if n=1 then⟨#[35,68,73,86,33]⟩else if n=2 then⟨#[35,84,89,80,69,33]⟩else if n=3 then⟨#[35,82,69,70,33]⟩
 else if n=4 then⟨#[35,79,86,69,82,33]⟩else if n=5 then⟨#[35,67,89,67,76,69,33]⟩else⟨#[]⟩
theorem Qe (n:Int) (w:World):Calls Tryz.prog 283 #[.int .i64 n] w fun e w'=>
  e= .returned (.string (trT n))∧w'=w:=by
 by_cases h0:n=0
 ·subst h0;go_enter Tryz.func283,Tryz.ntmps283;go_wp2
  go_ret;exact⟨rfl,rfl⟩
 ·have e0:(n==0)=false:=by simpa using h0
  go_enter Tryz.func283,Tryz.ntmps283;go_wp2
  go_ret;exact⟨Qr (by simp [trT,h0]),rfl⟩
theorem Qd (n:Int) (w:World):Calls Tryz.prog 284 #[.int .i64 n] w fun e w'=>
  e= .returned (.string (erT n))∧w'=w:=by
 by_cases h1:n=1
 ·subst h1;go_enter Tryz.func284,Tryz.ntmps284;go_wp2
  go_ret;exact⟨rfl,rfl⟩
 by_cases h2:n=2
 ·subst h2;go_enter Tryz.func284,Tryz.ntmps284;go_wp2
  go_ret;exact⟨rfl,rfl⟩
 by_cases h3:n=3
 ·subst h3;go_enter Tryz.func284,Tryz.ntmps284;go_wp2
  go_ret;exact⟨rfl,rfl⟩
 by_cases h4:n=4
 ·subst h4;go_enter Tryz.func284,Tryz.ntmps284;go_wp2
  go_ret;exact⟨rfl,rfl⟩
 by_cases h5:n=5
 ·subst h5;go_enter Tryz.func284,Tryz.ntmps284;go_wp2
  go_ret;exact⟨rfl,rfl⟩
 ·have e1:(n==1)=false:=by simpa using h1
  have e2:(n==2)=false:=by simpa using h2
  have e3:(n==3)=false:=by simpa using h3
  have e4:(n==4)=false:=by simpa using h4
  have e5:(n==5)=false:=by simpa using h5
  go_enter Tryz.func284,Tryz.ntmps284;go_wp2
  go_ret;exact⟨Qr (by simp [erT,h1,h2,h3,h4,h5]),rfl⟩
theorem QZ (n:Int) (w:World) (h0:0≤n) (h5:n≤5):Calls Tryz.prog 173 #[.int .i64 n] w fun e w'=>
  e= .returned (.string (erT n))∧Below w.heap.size w w':=by
 have hn:n=0∨n=1∨n=2∨n=3∨n=4∨n=5:=by omega
 clear h0 h5;rcases hn with rfl | rfl | rfl | rfl | rfl | rfl
 all_goals
  go_enter Tryz.func173,Tryz.ntmps173;go_wp2
  go_ret;exact⟨rfl,by go_grown⟩
theorem Qin {s:ByteArray} {k:Nat} (h:k<s.size) (n:Nat):Zm (s.data.toList.drop k) n=if 48≤s[k].toNat∧s[k].toNat≤57 then Zm (s.data.toList.drop (k+1)) (n*10+(s[k].toNat-48))else none:=by
 have e:s.data.toList.drop k=s[k]::s.data.toList.drop (k+1):=List.drop_eq_getElem_cons (by simpa using h);rw [e,Zm]
theorem Qmu {s:ByteArray} (h:s.size<1∨16<s.size):l16 s.data.toList=none:=by
 have e:s.data.toList.length=s.size:=rfl;unfold l16;rw [if_pos (by omega)]
theorem Yz {s:ByteArray} (h:0<s.size):s.data.toList.head? =some s[0]:=by
 obtain⟨⟨l⟩⟩:=s;match l,h with
 | a::l',_=>rfl
theorem Qkr {s:ByteArray} (h:1<s.size) (h0:(s[0]'(by omega)).toNat=48):l16 s.data.toList=none:=by
 have e:s.data.toList.length=s.size:=rfl;unfold l16;rw [if_pos];right;right
 refine⟨?_,by omega⟩;rw [Yz (by omega)];congr 1
 apply UInt8.toNat_inj.1;rw [h0];rfl
theorem Qp7 {s:ByteArray} (h0:0<s.size) (h16:s.size≤16) (h:(s[0]'h0).toNat≠48∨s.size=1):l16 s.data.toList=Zm s.data.toList 0:=by
 have e:s.data.toList.length=s.size:=rfl;unfold l16;rw [if_neg];rintro(hh | hh | ⟨hh,hl⟩)
 ·omega
 ·omega
 ·rw [Yz h0]at hh;have hb:s[0]'h0=48:=by simpa using hh
  have:(s[0]'h0).toNat=48:=by rw [hb];rfl
  omega
theorem Qa2 {s:ByteArray} (h:s.size=1) (h0:(s[0]'(by omega)).toNat=48):Zm s.data.toList 0=some 0:=by
 obtain⟨⟨l⟩⟩:=s;match l,h,h0 with
 | [a],_,h0=>
  have ha:a.toNat=48:=h0;simp only [Zm,ha];rfl
def o16 (o:Option Nat):Value:= .tuple #[.int .i64 ((o.getD 0:Nat):Int),.bool o.isSome]
theorem Qdr (s:ByteArray) (w:World) (hs:s.size≤281474976710656) (hp:0<s.size) (h16:s.size≤16) (hz:(s[0]'hp).toNat≠48∨s.size=1):Calls Tryz.prog 29 #[.string s,.int .i64 16] w fun e w'=>
  e= .returned (o16 (Zm s.data.toList 0))∧w'=w:=by
 have k1: ¬(s.size:Int)<1:=by omega
 have k2: ¬(16:Int)<(s.size:Int):=by omega
 have k3:(0:Int)<(s.size:Int):=by omega
 by_cases h0:(s[0]'hp).toNat=48
 ·have h1: ¬(1:Int)<(s.size:Int):=by omega
  have h0':((s[0]'hp).toNat:Int)=48:=by omega
  have HE:Hid (Zm s.data.toList 0=some 0):=Qa2 (by omega) h0;go_enter Tryz.func29,Tryz.ntmps29;go_wp2_with fail
  refine wp_loop_rounds 4 ?_;rw [rounds_succ];go_wp2
  rw [rounds_succ];go_wp2
  refine bodyPost_ret (v:= .tuple #[.int .i64 0,.bool true]) ?_ rfl ⟨by rw [HE.out];rfl,rfl⟩;simp (maxDischargeDepth:=9) [results,Tryz.results29,go_sem, *]
 have n0: ¬((s[0]'hp).toNat:Int)=48:=by omega
 have m0:(((s[0]'hp).toNat:Int)==48)=false:=by simpa using n0
 go_enter Tryz.func29,Tryz.ntmps29;go_wp2_with fail
 go_loop [6,7] (fun v6 v7=> ∃(k m:Nat),k≤s.size∧v6= .int .i64 m∧v7= .int .i64 k∧m<10^k∧Zm (s.data.toList.drop k) m=Zm s.data.toList 0) (fun _ v7=>s.size-(intOf v7).toNat)
 case atStart=>exact⟨0,0,Nat.zero_le _,rfl,rfl,by simp,rfl⟩
 case round=>
  obtain⟨k,m,hk,rfl,rfl,hm,hr⟩:=hrel;have HR:Hid (Zm (s.data.toList.drop k) m=Zm s.data.toList 0):=hr;have HM:Hid (m<10^k):=hm
  have hm2:m<10000000000000000:=by
   have:10^k≤10^16:=Nat.pow_le_pow_right (by omega) (by omega);have e:(10:Nat)^16=10000000000000000:=rfl;omega
  clear hr hm;have q0:(0:Int)≤(k:Int):=by omega
  by_cases hlt:k<s.size
  ·have q1:(k:Int)<(s.size:Int):=by omega
   have HD:Hid (Zm (s.data.toList.drop k) m=if 48≤s[k].toNat∧s[k].toNat≤57 then Zm (s.data.toList.drop (k+1)) (m*10+(s[k].toNat-48))else none):=Qin hlt m;by_cases ha:s[k].toNat<48
   ·have ha':(s[k].toNat:Int)<48:=by omega
    have HE:Hid (Zm s.data.toList 0=none):=by show _=_;rw [←HR.out,HD.out,if_neg (by omega)]
    go_wp2_with fail
    refine bodyPost_ret (v:= .tuple #[.int .i64 0,.bool false]) ?_ rfl ⟨by rw [HE.out];rfl,rfl⟩;simp (maxDischargeDepth:=9) [results,Tryz.results29,go_sem, *]
   have na: ¬(s[k].toNat:Int)<48:=by omega
   by_cases hb:57<s[k].toNat
   ·have hb':57<(s[k].toNat:Int):=by omega
    have HE:Hid (Zm s.data.toList 0=none):=by show _=_;rw [←HR.out,HD.out,if_neg (by omega)]
    go_wp2_with fail
    refine bodyPost_ret (v:= .tuple #[.int .i64 0,.bool false]) ?_ rfl ⟨by rw [HE.out];rfl,rfl⟩;simp (maxDischargeDepth:=9) [results,Tryz.results29,go_sem, *]
   have nb: ¬57<(s[k].toNat:Int):=by omega
   have HE:Hid (Zm (s.data.toList.drop (k+1)) (m*10+(s[k].toNat-48))=Zm s.data.toList 0):=by show _=_;rw [←HR.out,HD.out,if_pos (by omega)]
   go_wp2_with fail
   all_goals
    go_round
    case rel=>exact⟨k+1,m*10+(s[k].toNat-48),by omega,by congr 1;omega,by go_num,by have:=HM.out;rw [Nat.pow_succ];omega,HE.out⟩
    case measure=>simp [intOf];omega
  ·have q1: ¬(k:Int)<(s.size:Int):=by omega
   have HE:Hid (Zm s.data.toList 0=some m):=by show _=_;rw [←HR.out,List.drop_of_length_le (by simp;omega)];rfl
   go_wp2_with fail
   refine bodyPost_ret (v:= .tuple #[.int .i64 m,.bool true]) ?_ rfl ⟨by rw [HE.out];rfl,rfl⟩;simp (maxDischargeDepth:=9) [results,Tryz.results29,go_sem, *]
theorem QF (s:ByteArray) (w:World) (hs:s.size≤281474976710656):Calls Tryz.prog 29 #[.string s,.int .i64 16] w fun e w'=>
  e= .returned (o16 (l16 s.data.toList))∧w'=w:=by
 by_cases h0:s.size<1
 ·have HE:Hid (l16 s.data.toList=none):=Qmu (Or.inl h0);have h1:(s.size:Int)<1:=by omega
  go_enter Tryz.func29,Tryz.ntmps29;go_wp2
  refine bodyPost_ret (v:= .tuple #[.int .i64 0,.bool false]) ?_ rfl ⟨by rw [HE.out];rfl,rfl⟩;simp (maxDischargeDepth:=9) [results,Tryz.results29,go_sem, *]
 have k1: ¬(s.size:Int)<1:=by omega
 by_cases h16:16<s.size
 ·have HE:Hid (l16 s.data.toList=none):=Qmu (Or.inr h16);have h1:(16:Int)<(s.size:Int):=by omega
  go_enter Tryz.func29,Tryz.ntmps29;go_wp2
  refine bodyPost_ret (v:= .tuple #[.int .i64 0,.bool false]) ?_ rfl ⟨by rw [HE.out];rfl,rfl⟩;simp (maxDischargeDepth:=9) [results,Tryz.results29,go_sem, *]
 have k2: ¬(16:Int)<(s.size:Int):=by omega
 have hp:0<s.size:=by omega
 have k3:(0:Int)<(s.size:Int):=by omega
 by_cases hz:(s[0]'hp).toNat=48∧1<s.size
 ·have HE:Hid (l16 s.data.toList=none):=Qkr hz.2 hz.1;have h1:(1:Int)<(s.size:Int):=by omega
  have h2:((s[0]'hp).toNat:Int)=48:=by omega
  clear hz;go_enter Tryz.func29,Tryz.ntmps29;go_wp2
  refine bodyPost_ret (v:= .tuple #[.int .i64 0,.bool false]) ?_ rfl ⟨by rw [HE.out];rfl,rfl⟩;simp (maxDischargeDepth:=9) [results,Tryz.results29,go_sem, *]
 ·have hz':(s[0]'hp).toNat≠48∨s.size=1:=by omega
  rw [Qp7 hp (by omega) hz'];exact Qdr s w hs hp (by omega) hz'
def Qm1 (o:Option Int):Int × Int × ByteArray:=match o with
 | some n=>(1,n,⟨#[]⟩)
 | none=>(5,0,⟨#[]⟩)
def VQ (s:ByteArray):Int × Int × ByteArray:=
 if s=trT 0 then(3,0,⟨#[]⟩)else if s=trT 1 then(3,1,⟨#[]⟩)else if s=erT 1 then(4,1,⟨#[]⟩)else if s=erT 2 then(4,2,⟨#[]⟩)else if s=erT 3 then(4,3,⟨#[]⟩)
 else if s=erT 4 then(4,4,⟨#[]⟩)else if s=erT 5 then(4,5,⟨#[]⟩)else Qm1 (Yt s.data.toList)
def Qu (s:ByteArray):Int × Int × ByteArray:=
 if h:0<s.size then(if s[0].toNat=39 then(2,0,s.extract 1 s.size)else VQ s)else(0,0,⟨#[]⟩)
def MO (g:Int × Int × ByteArray):Value:=mBK g.1 g.2.1 g.2.2
def gOk (g:Int × Int × ByteArray):Bool:=if g.1=0 then true else if g.1=1 then ZP g.2.1 else if g.1=2 then QE g.2.2 else if g.1=3 then YE g.2.1 else if g.1=4 then XO g.2.1 else false
def rvT (g:Int × Int × ByteArray):Value:=if gOk g then .tuple #[.agg #[.int .i64 g.1,.int .i64 g.2.1,.string g.2.2],.bool true]else .tuple #[.agg #[.int .i64 0,.int .i64 0,.string ⟨#[]⟩],.bool false]
theorem Zg {s:ByteArray} (h:s.size=0):s=⟨#[]⟩:=by
 obtain⟨⟨l⟩⟩:=s;match l,h with
 | [],_=>rfl
theorem Zz {s:ByteArray} (h:0<s.size):(s.toList==(⟨#[]⟩:ByteArray).toList)=false:=QD (fun e=>by rw [e]at h;exact absurd h (by decide))
theorem QL {s:ByteArray} (h:0<s.size):s.toList.isEmpty=false:=by
 rw [ByteArray.toList_eq];obtain⟨⟨l⟩⟩:=s;match l,h with
 | a::l',_=>rfl
theorem Qaz (w:World):Calls Tryz.prog 246 #[.string ⟨#[]⟩] w fun e w'=>e= .returned (mBK 0 0 ⟨#[]⟩)∧w'=w:=by
 go_enter Tryz.func246,Tryz.ntmps246;go_wp2
 go_ret;exact⟨rfl,rfl⟩
theorem BF (s:ByteArray) (w:World) (hs:s.size≤281474976710656) (h:0<s.size) (h39:s[0].toNat=39):Calls Tryz.prog 246 #[.string s] w fun e w'=>e= .returned (mBK 2 0 (s.extract 1 s.size))∧w'=w:=by
 have e1:=Zz h;have e2:=QL h;have h1:((s[0].toNat:Nat):Int)=39:=by omega
 have h2:(0:Int)<(s.size:Int):=by omega
 have h3:(1:Int)≤(s.size:Int):=by omega
 go_enter Tryz.func246,Tryz.ntmps246;go_wp2
 go_ret;exact⟨rfl,rfl⟩
theorem Qd9 (s:ByteArray) (w:World) (hs:s.size≤281474976710656) (h:0<s.size) (h39:s[0].toNat≠39) (hh:trT 0=s):Calls Tryz.prog 246 #[.string s] w fun e w'=>e= .returned (mBK 3 0 ⟨#[]⟩)∧Below w.heap.size w w':=by
 have z1:=Zz h;have z2:=QL h;have h1: ¬((s[0].toNat:Nat):Int)=39:=by omega
 have h1':(((s[0].toNat:Nat):Int)==39)=false:=by simpa using h1
 have h2:(0:Int)<(s.size:Int):=by omega
 have e9:=JF hh;clear hh;go_enter Tryz.func246,Tryz.ntmps246;go_wp2_with fail
 refine wp_loop_rounds 4 ?_;rw [rounds_succ]
 go_wp2_with (first
  | (go_at_call 283;refine(Qe _ _).mono ?_;rintro e w1 ⟨rfl,rfl⟩)
  | (go_at_call 284;refine(Qd _ _).mono ?_;rintro e w1 ⟨rfl,rfl⟩))
 go_ret;exact⟨rfl,Below.refl _ _⟩
theorem Qd8 (s:ByteArray) (w:World) (hs:s.size≤281474976710656) (h:0<s.size) (h39:s[0].toNat≠39) (n0:trT 0≠s) (hh:trT 1=s):Calls Tryz.prog 246 #[.string s] w fun e w'=>e= .returned (mBK 3 1 ⟨#[]⟩)∧Below w.heap.size w w':=by
 have z1:=Zz h;have z2:=QL h;have h1: ¬((s[0].toNat:Nat):Int)=39:=by omega
 have h1':(((s[0].toNat:Nat):Int)==39)=false:=by simpa using h1
 have h2:(0:Int)<(s.size:Int):=by omega
 have e0:=QD n0;clear n0;have e9:=JF hh;clear hh;go_enter Tryz.func246,Tryz.ntmps246;go_wp2_with fail
 refine wp_loop_rounds 4 ?_;rw [rounds_succ]
 go_wp2_with (first
  | (go_at_call 283;refine(Qe _ _).mono ?_;rintro e w1 ⟨rfl,rfl⟩)
  | (go_at_call 284;refine(Qd _ _).mono ?_;rintro e w1 ⟨rfl,rfl⟩))
 rw [rounds_succ]
 go_wp2_with (first
  | (go_at_call 283;refine(Qe _ _).mono ?_;rintro e w1 ⟨rfl,rfl⟩)
  | (go_at_call 284;refine(Qd _ _).mono ?_;rintro e w1 ⟨rfl,rfl⟩))
 go_ret;exact⟨rfl,Below.refl _ _⟩
theorem Qd7 (s:ByteArray) (w:World) (hs:s.size≤281474976710656) (h:0<s.size) (h39:s[0].toNat≠39) (n0:trT 0≠s) (n1:trT 1≠s) (hh:erT 1=s):Calls Tryz.prog 246 #[.string s] w fun e w'=>e= .returned (mBK 4 1 ⟨#[]⟩)∧Below w.heap.size w w':=by
 have z1:=Zz h;have z2:=QL h;have h1: ¬((s[0].toNat:Nat):Int)=39:=by omega
 have h1':(((s[0].toNat:Nat):Int)==39)=false:=by simpa using h1
 have h2:(0:Int)<(s.size:Int):=by omega
 have e0:=QD n0;clear n0;have e1:=QD n1;clear n1;have e9:=JF hh;clear hh;go_enter Tryz.func246,Tryz.ntmps246
 go_wp2_with fail
 refine wp_loop_rounds 4 ?_;rw [rounds_succ]
 go_wp2_with (first
  | (go_at_call 283;refine(Qe _ _).mono ?_;rintro e w1 ⟨rfl,rfl⟩)
  | (go_at_call 284;refine(Qd _ _).mono ?_;rintro e w1 ⟨rfl,rfl⟩))
 rw [rounds_succ]
 go_wp2_with (first
  | (go_at_call 283;refine(Qe _ _).mono ?_;rintro e w1 ⟨rfl,rfl⟩)
  | (go_at_call 284;refine(Qd _ _).mono ?_;rintro e w1 ⟨rfl,rfl⟩))
 rw [rounds_succ]
 go_wp2_with (first
  | (go_at_call 283;refine(Qe _ _).mono ?_;rintro e w1 ⟨rfl,rfl⟩)
  | (go_at_call 284;refine(Qd _ _).mono ?_;rintro e w1 ⟨rfl,rfl⟩))
 refine wp_loop_rounds 8 ?_;rw [rounds_succ]
 go_wp2_with (first
  | (go_at_call 283;refine(Qe _ _).mono ?_;rintro e w1 ⟨rfl,rfl⟩)
  | (go_at_call 284;refine(Qd _ _).mono ?_;rintro e w1 ⟨rfl,rfl⟩))
 go_ret;exact⟨rfl,Below.refl _ _⟩
theorem Qd6 (s:ByteArray) (w:World) (hs:s.size≤281474976710656) (h:0<s.size) (h39:s[0].toNat≠39) (n0:trT 0≠s) (n1:trT 1≠s) (n2:erT 1≠s) (hh:erT 2=s):Calls Tryz.prog 246 #[.string s] w fun e w'=>e= .returned (mBK 4 2 ⟨#[]⟩)∧Below w.heap.size w w':=by
 have z1:=Zz h;have z2:=QL h;have h1: ¬((s[0].toNat:Nat):Int)=39:=by omega
 have h1':(((s[0].toNat:Nat):Int)==39)=false:=by simpa using h1
 have h2:(0:Int)<(s.size:Int):=by omega
 have e0:=QD n0;clear n0;have e1:=QD n1;clear n1;have e2:=QD n2;clear n2;have e9:=JF hh
 clear hh;go_enter Tryz.func246,Tryz.ntmps246;go_wp2_with fail
 refine wp_loop_rounds 4 ?_;rw [rounds_succ]
 go_wp2_with (first
  | (go_at_call 283;refine(Qe _ _).mono ?_;rintro e w1 ⟨rfl,rfl⟩)
  | (go_at_call 284;refine(Qd _ _).mono ?_;rintro e w1 ⟨rfl,rfl⟩))
 rw [rounds_succ]
 go_wp2_with (first
  | (go_at_call 283;refine(Qe _ _).mono ?_;rintro e w1 ⟨rfl,rfl⟩)
  | (go_at_call 284;refine(Qd _ _).mono ?_;rintro e w1 ⟨rfl,rfl⟩))
 rw [rounds_succ]
 go_wp2_with (first
  | (go_at_call 283;refine(Qe _ _).mono ?_;rintro e w1 ⟨rfl,rfl⟩)
  | (go_at_call 284;refine(Qd _ _).mono ?_;rintro e w1 ⟨rfl,rfl⟩))
 refine wp_loop_rounds 8 ?_;rw [rounds_succ]
 go_wp2_with (first
  | (go_at_call 283;refine(Qe _ _).mono ?_;rintro e w1 ⟨rfl,rfl⟩)
  | (go_at_call 284;refine(Qd _ _).mono ?_;rintro e w1 ⟨rfl,rfl⟩))
 rw [rounds_succ]
 go_wp2_with (first
  | (go_at_call 283;refine(Qe _ _).mono ?_;rintro e w1 ⟨rfl,rfl⟩)
  | (go_at_call 284;refine(Qd _ _).mono ?_;rintro e w1 ⟨rfl,rfl⟩))
 go_ret;exact⟨rfl,Below.refl _ _⟩
theorem Qd5 (s:ByteArray) (w:World) (hs:s.size≤281474976710656) (h:0<s.size) (h39:s[0].toNat≠39) (n0:trT 0≠s) (n1:trT 1≠s) (n2:erT 1≠s) (n3:erT 2≠s) (hh:erT 3=s):Calls Tryz.prog 246 #[.string s] w fun e w'=>e= .returned (mBK 4 3 ⟨#[]⟩)∧Below w.heap.size w w':=by
 have z1:=Zz h;have z2:=QL h;have h1: ¬((s[0].toNat:Nat):Int)=39:=by omega
 have h1':(((s[0].toNat:Nat):Int)==39)=false:=by simpa using h1
 have h2:(0:Int)<(s.size:Int):=by omega
 have e0:=QD n0;clear n0;have e1:=QD n1;clear n1;have e2:=QD n2;clear n2;have e3:=QD n3
 clear n3;have e9:=JF hh;clear hh;go_enter Tryz.func246,Tryz.ntmps246;go_wp2_with fail
 refine wp_loop_rounds 4 ?_;rw [rounds_succ]
 go_wp2_with (first
  | (go_at_call 283;refine(Qe _ _).mono ?_;rintro e w1 ⟨rfl,rfl⟩)
  | (go_at_call 284;refine(Qd _ _).mono ?_;rintro e w1 ⟨rfl,rfl⟩))
 rw [rounds_succ]
 go_wp2_with (first
  | (go_at_call 283;refine(Qe _ _).mono ?_;rintro e w1 ⟨rfl,rfl⟩)
  | (go_at_call 284;refine(Qd _ _).mono ?_;rintro e w1 ⟨rfl,rfl⟩))
 rw [rounds_succ]
 go_wp2_with (first
  | (go_at_call 283;refine(Qe _ _).mono ?_;rintro e w1 ⟨rfl,rfl⟩)
  | (go_at_call 284;refine(Qd _ _).mono ?_;rintro e w1 ⟨rfl,rfl⟩))
 refine wp_loop_rounds 8 ?_;rw [rounds_succ]
 go_wp2_with (first
  | (go_at_call 283;refine(Qe _ _).mono ?_;rintro e w1 ⟨rfl,rfl⟩)
  | (go_at_call 284;refine(Qd _ _).mono ?_;rintro e w1 ⟨rfl,rfl⟩))
 rw [rounds_succ]
 go_wp2_with (first
  | (go_at_call 283;refine(Qe _ _).mono ?_;rintro e w1 ⟨rfl,rfl⟩)
  | (go_at_call 284;refine(Qd _ _).mono ?_;rintro e w1 ⟨rfl,rfl⟩))
 rw [rounds_succ]
 go_wp2_with (first
  | (go_at_call 283;refine(Qe _ _).mono ?_;rintro e w1 ⟨rfl,rfl⟩)
  | (go_at_call 284;refine(Qd _ _).mono ?_;rintro e w1 ⟨rfl,rfl⟩))
 go_ret;exact⟨rfl,Below.refl _ _⟩
theorem Qd4 (s:ByteArray) (w:World) (hs:s.size≤281474976710656) (h:0<s.size) (h39:s[0].toNat≠39) (n0:trT 0≠s) (n1:trT 1≠s) (n2:erT 1≠s) (n3:erT 2≠s) (n4:erT 3≠s) (hh:erT 4=s):Calls Tryz.prog 246 #[.string s] w fun e w'=>e= .returned (mBK 4 4 ⟨#[]⟩)∧Below w.heap.size w w':=by
 have z1:=Zz h;have z2:=QL h;have h1: ¬((s[0].toNat:Nat):Int)=39:=by omega
 have h1':(((s[0].toNat:Nat):Int)==39)=false:=by simpa using h1
 have h2:(0:Int)<(s.size:Int):=by omega
 have e0:=QD n0;clear n0;have e1:=QD n1;clear n1;have e2:=QD n2;clear n2;have e3:=QD n3
 clear n3;have e4:=QD n4;clear n4;have e9:=JF hh;clear hh;go_enter Tryz.func246,Tryz.ntmps246;go_wp2_with fail
 refine wp_loop_rounds 4 ?_;rw [rounds_succ]
 go_wp2_with (first
  | (go_at_call 283;refine(Qe _ _).mono ?_;rintro e w1 ⟨rfl,rfl⟩)
  | (go_at_call 284;refine(Qd _ _).mono ?_;rintro e w1 ⟨rfl,rfl⟩))
 rw [rounds_succ]
 go_wp2_with (first
  | (go_at_call 283;refine(Qe _ _).mono ?_;rintro e w1 ⟨rfl,rfl⟩)
  | (go_at_call 284;refine(Qd _ _).mono ?_;rintro e w1 ⟨rfl,rfl⟩))
 rw [rounds_succ]
 go_wp2_with (first
  | (go_at_call 283;refine(Qe _ _).mono ?_;rintro e w1 ⟨rfl,rfl⟩)
  | (go_at_call 284;refine(Qd _ _).mono ?_;rintro e w1 ⟨rfl,rfl⟩))
 refine wp_loop_rounds 8 ?_;rw [rounds_succ]
 go_wp2_with (first
  | (go_at_call 283;refine(Qe _ _).mono ?_;rintro e w1 ⟨rfl,rfl⟩)
  | (go_at_call 284;refine(Qd _ _).mono ?_;rintro e w1 ⟨rfl,rfl⟩))
 rw [rounds_succ]
 go_wp2_with (first
  | (go_at_call 283;refine(Qe _ _).mono ?_;rintro e w1 ⟨rfl,rfl⟩)
  | (go_at_call 284;refine(Qd _ _).mono ?_;rintro e w1 ⟨rfl,rfl⟩))
 rw [rounds_succ]
 go_wp2_with (first
  | (go_at_call 283;refine(Qe _ _).mono ?_;rintro e w1 ⟨rfl,rfl⟩)
  | (go_at_call 284;refine(Qd _ _).mono ?_;rintro e w1 ⟨rfl,rfl⟩))
 rw [rounds_succ]
 go_wp2_with (first
  | (go_at_call 283;refine(Qe _ _).mono ?_;rintro e w1 ⟨rfl,rfl⟩)
  | (go_at_call 284;refine(Qd _ _).mono ?_;rintro e w1 ⟨rfl,rfl⟩))
 go_ret;exact⟨rfl,Below.refl _ _⟩
theorem Qd3 (s:ByteArray) (w:World) (hs:s.size≤281474976710656) (h:0<s.size) (h39:s[0].toNat≠39) (n0:trT 0≠s) (n1:trT 1≠s) (n2:erT 1≠s) (n3:erT 2≠s) (n4:erT 3≠s) (n5:erT 4≠s) (hh:erT 5=s):Calls Tryz.prog 246 #[.string s] w fun e w'=>e= .returned (mBK 4 5 ⟨#[]⟩)∧Below w.heap.size w w':=by
 have z1:=Zz h;have z2:=QL h;have h1: ¬((s[0].toNat:Nat):Int)=39:=by omega
 have h1':(((s[0].toNat:Nat):Int)==39)=false:=by simpa using h1
 have h2:(0:Int)<(s.size:Int):=by omega
 have e0:=QD n0;clear n0;have e1:=QD n1;clear n1;have e2:=QD n2;clear n2;have e3:=QD n3
 clear n3;have e4:=QD n4;clear n4;have e5:=QD n5;clear n5;have e9:=JF hh;clear hh
 go_enter Tryz.func246,Tryz.ntmps246;go_wp2_with fail
 refine wp_loop_rounds 4 ?_;rw [rounds_succ]
 go_wp2_with (first
  | (go_at_call 283;refine(Qe _ _).mono ?_;rintro e w1 ⟨rfl,rfl⟩)
  | (go_at_call 284;refine(Qd _ _).mono ?_;rintro e w1 ⟨rfl,rfl⟩))
 rw [rounds_succ]
 go_wp2_with (first
  | (go_at_call 283;refine(Qe _ _).mono ?_;rintro e w1 ⟨rfl,rfl⟩)
  | (go_at_call 284;refine(Qd _ _).mono ?_;rintro e w1 ⟨rfl,rfl⟩))
 rw [rounds_succ]
 go_wp2_with (first
  | (go_at_call 283;refine(Qe _ _).mono ?_;rintro e w1 ⟨rfl,rfl⟩)
  | (go_at_call 284;refine(Qd _ _).mono ?_;rintro e w1 ⟨rfl,rfl⟩))
 refine wp_loop_rounds 8 ?_;rw [rounds_succ]
 go_wp2_with (first
  | (go_at_call 283;refine(Qe _ _).mono ?_;rintro e w1 ⟨rfl,rfl⟩)
  | (go_at_call 284;refine(Qd _ _).mono ?_;rintro e w1 ⟨rfl,rfl⟩))
 rw [rounds_succ]
 go_wp2_with (first
  | (go_at_call 283;refine(Qe _ _).mono ?_;rintro e w1 ⟨rfl,rfl⟩)
  | (go_at_call 284;refine(Qd _ _).mono ?_;rintro e w1 ⟨rfl,rfl⟩))
 rw [rounds_succ]
 go_wp2_with (first
  | (go_at_call 283;refine(Qe _ _).mono ?_;rintro e w1 ⟨rfl,rfl⟩)
  | (go_at_call 284;refine(Qd _ _).mono ?_;rintro e w1 ⟨rfl,rfl⟩))
 rw [rounds_succ]
 go_wp2_with (first
  | (go_at_call 283;refine(Qe _ _).mono ?_;rintro e w1 ⟨rfl,rfl⟩)
  | (go_at_call 284;refine(Qd _ _).mono ?_;rintro e w1 ⟨rfl,rfl⟩))
 rw [rounds_succ]
 go_wp2_with (first
  | (go_at_call 283;refine(Qe _ _).mono ?_;rintro e w1 ⟨rfl,rfl⟩)
  | (go_at_call 284;refine(Qd _ _).mono ?_;rintro e w1 ⟨rfl,rfl⟩))
 go_ret;exact⟨rfl,Below.refl _ _⟩
theorem BH (s:ByteArray) (w:World) (hs:s.size≤281474976710656) (h:0<s.size) (h39:s[0].toNat≠39) (n0:trT 0≠s) (n1:trT 1≠s) (n2:erT 1≠s) (n3:erT 2≠s) (n4:erT 3≠s) (n5:erT 4≠s) (n6:erT 5≠s) (hv:Vars w):Calls Tryz.prog 246 #[.string s] w fun e w'=>e= .returned (MO (Qm1 (Yt s.data.toList)))∧Below w.heap.size w w':=by
 have HV:Hid (Vars w):=hv;clear hv;have z1:=Zz h;have z2:=QL h;have h1: ¬((s[0].toNat:Nat):Int)=39:=by omega
 have h1':(((s[0].toNat:Nat):Int)==39)=false:=by simpa using h1
 have h2:(0:Int)<(s.size:Int):=by omega
 have e0:=QD n0;clear n0;have e1:=QD n1;clear n1;have e2:=QD n2;clear n2;have e3:=QD n3
 clear n3;have e4:=QD n4;clear n4;have e5:=QD n5;clear n5;have e6:=QD n6;clear n6
 go_enter Tryz.func246,Tryz.ntmps246;go_wp2_with fail
 refine wp_loop_rounds 4 ?_;rw [rounds_succ]
 go_wp2_with (first
  | (go_at_call 283;refine(Qe _ _).mono ?_;rintro e w1 ⟨rfl,rfl⟩)
  | (go_at_call 284;refine(Qd _ _).mono ?_;rintro e w1 ⟨rfl,rfl⟩))
 rw [rounds_succ]
 go_wp2_with (first
  | (go_at_call 283;refine(Qe _ _).mono ?_;rintro e w1 ⟨rfl,rfl⟩)
  | (go_at_call 284;refine(Qd _ _).mono ?_;rintro e w1 ⟨rfl,rfl⟩))
 rw [rounds_succ]
 go_wp2_with (first
  | (go_at_call 283;refine(Qe _ _).mono ?_;rintro e w1 ⟨rfl,rfl⟩)
  | (go_at_call 284;refine(Qd _ _).mono ?_;rintro e w1 ⟨rfl,rfl⟩))
 refine wp_loop_rounds 8 ?_;rw [rounds_succ]
 go_wp2_with (first
  | (go_at_call 283;refine(Qe _ _).mono ?_;rintro e w1 ⟨rfl,rfl⟩)
  | (go_at_call 284;refine(Qd _ _).mono ?_;rintro e w1 ⟨rfl,rfl⟩))
 rw [rounds_succ]
 go_wp2_with (first
  | (go_at_call 283;refine(Qe _ _).mono ?_;rintro e w1 ⟨rfl,rfl⟩)
  | (go_at_call 284;refine(Qd _ _).mono ?_;rintro e w1 ⟨rfl,rfl⟩))
 rw [rounds_succ]
 go_wp2_with (first
  | (go_at_call 283;refine(Qe _ _).mono ?_;rintro e w1 ⟨rfl,rfl⟩)
  | (go_at_call 284;refine(Qd _ _).mono ?_;rintro e w1 ⟨rfl,rfl⟩))
 rw [rounds_succ]
 go_wp2_with (first
  | (go_at_call 283;refine(Qe _ _).mono ?_;rintro e w1 ⟨rfl,rfl⟩)
  | (go_at_call 284;refine(Qd _ _).mono ?_;rintro e w1 ⟨rfl,rfl⟩))
 rw [rounds_succ]
 go_wp2_with (first
  | (go_at_call 283;refine(Qe _ _).mono ?_;rintro e w1 ⟨rfl,rfl⟩)
  | (go_at_call 284;refine(Qd _ _).mono ?_;rintro e w1 ⟨rfl,rfl⟩))
 rw [rounds_succ]
 go_wp2_with (first
  | (go_at_call 283;refine(Qe _ _).mono ?_;rintro e w1 ⟨rfl,rfl⟩)
  | (go_at_call 284;refine(Qd _ _).mono ?_;rintro e w1 ⟨rfl,rfl⟩))
 refine(Yy s _ hs HV.out).mono ?_;rintro e w1 ⟨rfl,hb⟩;cases hr:Yt s.data.toList with
 | none=>
  simp only [Option.getD_none,Option.isSome_none];go_wp2_with fail
  go_ret;exact⟨XE (by first | rfl | (rw [hr];rfl)),hb⟩
 | some n=>
  simp only [Option.getD_some,Option.isSome_some];go_wp2_with fail
  go_ret;exact⟨XE (by first | rfl | (rw [hr];rfl)),hb⟩
theorem QP (s:ByteArray) (w:World) (hs:s.size≤281474976710656) (hv:Vars w):Calls Tryz.prog 246 #[.string s] w fun e w'=>e= .returned (MO (Qu s))∧Below w.heap.size w w':=by
 by_cases h:0<s.size
 ·by_cases h39:s[0].toNat=39
  ·rw [show Qu s=(2,0,s.extract 1 s.size) by unfold Qu;rw [dif_pos h,if_pos h39]];exact(BF s w hs h h39).mono fun _ _ q=>⟨q.1,by rw [q.2];exact Below.refl _ _⟩
  rw [show Qu s=VQ s by unfold Qu;rw [dif_pos h,if_neg h39]];unfold VQ;by_cases n0:s=trT 0
  ·rw [if_pos n0];exact Qd9 s w hs h h39 n0.symm
  by_cases n1:s=trT 1
  ·rw [if_neg n0,if_pos n1];exact Qd8 s w hs h h39 (Ne.symm n0) n1.symm
  by_cases n2:s=erT 1
  ·rw [if_neg n0,if_neg n1,if_pos n2];exact Qd7 s w hs h h39 (Ne.symm n0) (Ne.symm n1) n2.symm
  by_cases n3:s=erT 2
  ·rw [if_neg n0,if_neg n1,if_neg n2,if_pos n3];exact Qd6 s w hs h h39 (Ne.symm n0) (Ne.symm n1) (Ne.symm n2) n3.symm
  by_cases n4:s=erT 3
  ·rw [if_neg n0,if_neg n1,if_neg n2,if_neg n3,if_pos n4];exact Qd5 s w hs h h39 (Ne.symm n0) (Ne.symm n1) (Ne.symm n2) (Ne.symm n3) n4.symm
  by_cases n5:s=erT 4
  ·rw [if_neg n0,if_neg n1,if_neg n2,if_neg n3,if_neg n4,if_pos n5];exact Qd4 s w hs h h39 (Ne.symm n0) (Ne.symm n1) (Ne.symm n2) (Ne.symm n3) (Ne.symm n4) n5.symm
  by_cases n6:s=erT 5
  ·rw [if_neg n0,if_neg n1,if_neg n2,if_neg n3,if_neg n4,if_neg n5,if_pos n6];exact Qd3 s w hs h h39 (Ne.symm n0) (Ne.symm n1) (Ne.symm n2) (Ne.symm n3) (Ne.symm n4) (Ne.symm n5) n6.symm
  rw [if_neg n0,if_neg n1,if_neg n2,if_neg n3,if_neg n4,if_neg n5,if_neg n6];exact BH s w hs h h39 (Ne.symm n0) (Ne.symm n1) (Ne.symm n2) (Ne.symm n3) (Ne.symm n4) (Ne.symm n5) (Ne.symm n6) hv
 ·rw [show Qu s=(0,0,⟨#[]⟩) by unfold Qu;rw [dif_neg h]];obtain rfl:=Zg (s:=s) (by omega);exact(Qaz w).mono fun _ _ q=>⟨q.1,by rw [q.2];exact Below.refl _ _⟩
theorem Qjz (s:ByteArray) (w:World) (hs:s.size≤281474976710656) (hv:Vars w) (hg:Qu s=(0,0,⟨#[]⟩)):Calls Tryz.prog 203 #[.string s] w fun e w'=>e= .returned (rvT (0,0,⟨#[]⟩))∧Below w.heap.size w w':=by
 have HG:Hid (MO (Qu s)= .iface 287 (.agg #[])):=by show MO _=_;rw [hg];rfl
 have HV:Hid (Vars w):=hv;clear hg hv;have HE:Hid (rvT (0,0,⟨#[]⟩)= .tuple #[.agg #[.int .i64 0,.int .i64 0,.string ⟨#[]⟩],.bool true]):=by show rvT _=_;simp [rvT,gOk]
 go_enter Tryz.func203,Tryz.ntmps203;go_wp2_with fail
 refine(QP s _ hs (HV.out.below (by go_grown))).mono ?_;rintro e w1 ⟨rfl,hb⟩;rw [HG.out];obtain⟨hc,hf,hC,hF,hz,hk,l0⟩:=bk1 (w:=w) (by go_grown) (by go_size) hb;clear hb
 go_wp2_with (first
  | (go_at_call 364;refine(YO _).mono ?_;rintro e w2 ⟨rfl,hb⟩;obtain⟨hc,hf,hC,hF,hz,hk,l0⟩:=bk1 (w:=w) (by go_grown) (by go_size) hb;clear hb)
  | (go_at_call 366;refine(Xu _).mono ?_;rintro e w3 ⟨rfl,hb⟩;obtain⟨hc,hf,hC,hF,hz,hk,l0⟩:=bk1 (w:=w) (by go_grown) (by go_size) hb;clear hb))
 all_goals
  refine bodyPost_ret (v:= .tuple #[.agg #[.int .i64 0,.int .i64 0,.string ⟨#[]⟩],.bool true]) ?_ rfl ⟨by rw [HE.out],by go_grown⟩;simp (maxDischargeDepth:=9) [results,Tryz.results203,go_sem, *]
theorem Qr8 (s:ByteArray) (w:World) (hs:s.size≤281474976710656) (hv:Vars w) (n:Int) (hg:Qu s=(1,n,⟨#[]⟩)):Calls Tryz.prog 203 #[.string s] w fun e w'=>e= .returned (rvT (1,n,⟨#[]⟩))∧Below w.heap.size w w':=by
 have HG:Hid (MO (Qu s)= .iface 253 (.int .i64 n)):=by show MO _=_;rw [hg];rfl
 have HV:Hid (Vars w):=hv;clear hg hv;cases ho:ZP n
 ·have HOK:Hid (ZP n=false):=ho;clear ho;have HE:Hid (rvT (1,n,⟨#[]⟩)= .tuple #[.agg #[.int .i64 0,.int .i64 0,.string ⟨#[]⟩],.bool false]):=by show rvT _=_;simp [rvT,gOk,HOK.out]
  go_enter Tryz.func203,Tryz.ntmps203;go_wp2_with fail
  refine(QP s _ hs (HV.out.below (by go_grown))).mono ?_;rintro e w1 ⟨rfl,hb⟩;rw [HG.out];obtain⟨hc,hf,hC,hF,hz,hk,l0⟩:=bk1 (w:=w) (by go_grown) (by go_size) hb;clear hb
  go_wp2_with (first
   | (go_at_call 359;refine(Zx _ _).mono ?_;rintro e w2 ⟨rfl,rfl⟩;rw [HOK.out]))
  all_goals
   refine bodyPost_ret (v:= .tuple #[.agg #[.int .i64 0,.int .i64 0,.string ⟨#[]⟩],.bool false]) ?_ rfl ⟨by rw [HE.out],by go_grown⟩;simp (maxDischargeDepth:=9) [results,Tryz.results203,go_sem, *]
 ·have HOK:Hid (ZP n=true):=ho;clear ho;have HE:Hid (rvT (1,n,⟨#[]⟩)= .tuple #[.agg #[.int .i64 1,.int .i64 n,.string ⟨#[]⟩],.bool true]):=by show rvT _=_;simp [rvT,gOk,HOK.out]
  go_enter Tryz.func203,Tryz.ntmps203;go_wp2_with fail
  refine(QP s _ hs (HV.out.below (by go_grown))).mono ?_;rintro e w1 ⟨rfl,hb⟩;rw [HG.out];obtain⟨hc,hf,hC,hF,hz,hk,l0⟩:=bk1 (w:=w) (by go_grown) (by go_size) hb;clear hb
  go_wp2_with (first
   | (go_at_call 359;refine(Zx _ _).mono ?_;rintro e w2 ⟨rfl,rfl⟩;rw [HOK.out])
   | (go_at_call 243;refine(YX _ _).mono ?_;rintro e w3 ⟨rfl,hb⟩;obtain⟨hc,hf,hC,hF,hz,hk,l0⟩:=bk1 (w:=w) (by go_grown) (by go_size) hb;clear hb))
  all_goals
   refine bodyPost_ret (v:= .tuple #[.agg #[.int .i64 1,.int .i64 n,.string ⟨#[]⟩],.bool true]) ?_ rfl ⟨by rw [HE.out],by go_grown⟩;simp (maxDischargeDepth:=9) [results,Tryz.results203,go_sem, *]
theorem Qom (s:ByteArray) (w:World) (hs:s.size≤281474976710656) (hv:Vars w) (s2:ByteArray) (hs2:s2.size≤maxLen) (hg:Qu s=(2,0,s2)):Calls Tryz.prog 203 #[.string s] w fun e w'=>e= .returned (rvT (2,0,s2))∧Below w.heap.size w w':=by
 have HG:Hid (MO (Qu s)= .iface 219 (.string s2)):=by show MO _=_;rw [hg];rfl
 have HV:Hid (Vars w):=hv;clear hg hv;cases ho:QE s2
 ·have HOK:Hid (QE s2=false):=ho;clear ho;have HE:Hid (rvT (2,0,s2)= .tuple #[.agg #[.int .i64 0,.int .i64 0,.string ⟨#[]⟩],.bool false]):=by show rvT _=_;simp [rvT,gOk,HOK.out]
  go_enter Tryz.func203,Tryz.ntmps203;go_wp2_with fail
  refine(QP s _ hs (HV.out.below (by go_grown))).mono ?_;rintro e w1 ⟨rfl,hb⟩;rw [HG.out];obtain⟨hc,hf,hC,hF,hz,hk,l0⟩:=bk1 (w:=w) (by go_grown) (by go_size) hb;clear hb
  go_wp2_with (first
   | (go_at_call 356;refine(Zq _ _ hs2).mono ?_;rintro e w2 ⟨rfl,rfl⟩;rw [HOK.out]))
  all_goals
   refine bodyPost_ret (v:= .tuple #[.agg #[.int .i64 0,.int .i64 0,.string ⟨#[]⟩],.bool false]) ?_ rfl ⟨by rw [HE.out],by go_grown⟩;simp (maxDischargeDepth:=9) [results,Tryz.results203,go_sem, *]
 ·have HOK:Hid (QE s2=true):=ho;clear ho;have HE:Hid (rvT (2,0,s2)= .tuple #[.agg #[.int .i64 2,.int .i64 0,.string s2],.bool true]):=by show rvT _=_;simp [rvT,gOk,HOK.out]
  go_enter Tryz.func203,Tryz.ntmps203;go_wp2_with fail
  refine(QP s _ hs (HV.out.below (by go_grown))).mono ?_;rintro e w1 ⟨rfl,hb⟩;rw [HG.out];obtain⟨hc,hf,hC,hF,hz,hk,l0⟩:=bk1 (w:=w) (by go_grown) (by go_size) hb;clear hb
  go_wp2_with (first
   | (go_at_call 356;refine(Zq _ _ hs2).mono ?_;rintro e w2 ⟨rfl,rfl⟩;rw [HOK.out])
   | (go_at_call 326;refine(YA _ _).mono ?_;rintro e w3 ⟨rfl,hb⟩;obtain⟨hc,hf,hC,hF,hz,hk,l0⟩:=bk1 (w:=w) (by go_grown) (by go_size) hb;clear hb))
  all_goals
   refine bodyPost_ret (v:= .tuple #[.agg #[.int .i64 2,.int .i64 0,.string s2],.bool true]) ?_ rfl ⟨by rw [HE.out],by go_grown⟩;simp (maxDischargeDepth:=9) [results,Tryz.results203,go_sem, *]
theorem Qjy (s:ByteArray) (w:World) (hs:s.size≤281474976710656) (hv:Vars w) (n:Int) (hg:Qu s=(3,n,⟨#[]⟩)):Calls Tryz.prog 203 #[.string s] w fun e w'=>e= .returned (rvT (3,n,⟨#[]⟩))∧Below w.heap.size w w':=by
 have HG:Hid (MO (Qu s)= .iface 288 (.int .i64 n)):=by show MO _=_;rw [hg];rfl
 have HV:Hid (Vars w):=hv;clear hg hv;cases ho:YE n
 ·have HOK:Hid (YE n=false):=ho;clear ho;have HE:Hid (rvT (3,n,⟨#[]⟩)= .tuple #[.agg #[.int .i64 0,.int .i64 0,.string ⟨#[]⟩],.bool false]):=by show rvT _=_;simp [rvT,gOk,HOK.out]
  go_enter Tryz.func203,Tryz.ntmps203;go_wp2_with fail
  refine(QP s _ hs (HV.out.below (by go_grown))).mono ?_;rintro e w1 ⟨rfl,hb⟩;rw [HG.out];obtain⟨hc,hf,hC,hF,hz,hk,l0⟩:=bk1 (w:=w) (by go_grown) (by go_size) hb;clear hb
  go_wp2_with (first
   | (go_at_call 367;refine(Yh _ _).mono ?_;rintro e w2 ⟨rfl,rfl⟩;rw [HOK.out]))
  all_goals
   refine bodyPost_ret (v:= .tuple #[.agg #[.int .i64 0,.int .i64 0,.string ⟨#[]⟩],.bool false]) ?_ rfl ⟨by rw [HE.out],by go_grown⟩;simp (maxDischargeDepth:=9) [results,Tryz.results203,go_sem, *]
 ·have HOK:Hid (YE n=true):=ho;clear ho;have HE:Hid (rvT (3,n,⟨#[]⟩)= .tuple #[.agg #[.int .i64 3,.int .i64 n,.string ⟨#[]⟩],.bool true]):=by show rvT _=_;simp [rvT,gOk,HOK.out]
  go_enter Tryz.func203,Tryz.ntmps203;go_wp2_with fail
  refine(QP s _ hs (HV.out.below (by go_grown))).mono ?_;rintro e w1 ⟨rfl,hb⟩;rw [HG.out];obtain⟨hc,hf,hC,hF,hz,hk,l0⟩:=bk1 (w:=w) (by go_grown) (by go_size) hb;clear hb
  go_wp2_with (first
   | (go_at_call 367;refine(Yh _ _).mono ?_;rintro e w2 ⟨rfl,rfl⟩;rw [HOK.out])
   | (go_at_call 368;refine(JW _ _).mono ?_;rintro e w3 ⟨rfl,hb⟩;obtain⟨hc,hf,hC,hF,hz,hk,l0⟩:=bk1 (w:=w) (by go_grown) (by go_size) hb;clear hb))
  all_goals
   refine bodyPost_ret (v:= .tuple #[.agg #[.int .i64 3,.int .i64 n,.string ⟨#[]⟩],.bool true]) ?_ rfl ⟨by rw [HE.out],by go_grown⟩;simp (maxDischargeDepth:=9) [results,Tryz.results203,go_sem, *]
theorem Qoo (s:ByteArray) (w:World) (hs:s.size≤281474976710656) (hv:Vars w) (n:Int) (hg:Qu s=(4,n,⟨#[]⟩)):Calls Tryz.prog 203 #[.string s] w fun e w'=>e= .returned (rvT (4,n,⟨#[]⟩))∧Below w.heap.size w w':=by
 have HG:Hid (MO (Qu s)= .iface 289 (.int .i64 n)):=by show MO _=_;rw [hg];rfl
 have HV:Hid (Vars w):=hv;clear hg hv;cases ho:XO n
 ·have HOK:Hid (XO n=false):=ho;clear ho;have HE:Hid (rvT (4,n,⟨#[]⟩)= .tuple #[.agg #[.int .i64 0,.int .i64 0,.string ⟨#[]⟩],.bool false]):=by show rvT _=_;simp [rvT,gOk,HOK.out]
  go_enter Tryz.func203,Tryz.ntmps203;go_wp2_with fail
  refine(QP s _ hs (HV.out.below (by go_grown))).mono ?_;rintro e w1 ⟨rfl,hb⟩;rw [HG.out];obtain⟨hc,hf,hC,hF,hz,hk,l0⟩:=bk1 (w:=w) (by go_grown) (by go_size) hb;clear hb
  go_wp2_with (first
   | (go_at_call 369;refine(Zr _ _).mono ?_;rintro e w2 ⟨rfl,rfl⟩;rw [HOK.out]))
  all_goals
   refine bodyPost_ret (v:= .tuple #[.agg #[.int .i64 0,.int .i64 0,.string ⟨#[]⟩],.bool false]) ?_ rfl ⟨by rw [HE.out],by go_grown⟩;simp (maxDischargeDepth:=9) [results,Tryz.results203,go_sem, *]
 ·have HOK:Hid (XO n=true):=ho;clear ho;have HE:Hid (rvT (4,n,⟨#[]⟩)= .tuple #[.agg #[.int .i64 4,.int .i64 n,.string ⟨#[]⟩],.bool true]):=by show rvT _=_;simp [rvT,gOk,HOK.out]
  go_enter Tryz.func203,Tryz.ntmps203;go_wp2_with fail
  refine(QP s _ hs (HV.out.below (by go_grown))).mono ?_;rintro e w1 ⟨rfl,hb⟩;rw [HG.out];obtain⟨hc,hf,hC,hF,hz,hk,l0⟩:=bk1 (w:=w) (by go_grown) (by go_size) hb;clear hb
  go_wp2_with (first
   | (go_at_call 369;refine(Zr _ _).mono ?_;rintro e w2 ⟨rfl,rfl⟩;rw [HOK.out])
   | (go_at_call 291;refine(Xz _ _).mono ?_;rintro e w3 ⟨rfl,hb⟩;obtain⟨hc,hf,hC,hF,hz,hk,l0⟩:=bk1 (w:=w) (by go_grown) (by go_size) hb;clear hb))
  all_goals
   refine bodyPost_ret (v:= .tuple #[.agg #[.int .i64 4,.int .i64 n,.string ⟨#[]⟩],.bool true]) ?_ rfl ⟨by rw [HE.out],by go_grown⟩;simp (maxDischargeDepth:=9) [results,Tryz.results203,go_sem, *]
theorem Qhj (s:ByteArray) (w:World) (hs:s.size≤281474976710656) (hv:Vars w) (hg:Qu s=(5,0,⟨#[]⟩)):Calls Tryz.prog 203 #[.string s] w fun e w'=>e= .returned (rvT (5,0,⟨#[]⟩))∧Below w.heap.size w w':=by
 have HG:Hid (MO (Qu s)= .iface 286 (.agg #[])):=by show MO _=_;rw [hg];rfl
 have HV:Hid (Vars w):=hv;clear hg hv;have HE:Hid (rvT (5,0,⟨#[]⟩)= .tuple #[.agg #[.int .i64 0,.int .i64 0,.string ⟨#[]⟩],.bool false]):=by show rvT _=_;simp [rvT,gOk]
 go_enter Tryz.func203,Tryz.ntmps203;go_wp2_with fail
 refine(QP s _ hs (HV.out.below (by go_grown))).mono ?_;rintro e w1 ⟨rfl,hb⟩;rw [HG.out];obtain⟨hc,hf,hC,hF,hz,hk,l0⟩:=bk1 (w:=w) (by go_grown) (by go_size) hb;clear hb
 go_wp2_with (first
  | (go_at_call 361;refine(Jk _).mono ?_;rintro e w2 ⟨rfl,hb⟩;obtain⟨hc,hf,hC,hF,hz,hk,l0⟩:=bk1 (w:=w) (by go_grown) (by go_size) hb;clear hb))
 all_goals
  refine bodyPost_ret (v:= .tuple #[.agg #[.int .i64 0,.int .i64 0,.string ⟨#[]⟩],.bool false]) ?_ rfl ⟨by rw [HE.out],by go_grown⟩;simp (maxDischargeDepth:=9) [results,Tryz.results203,go_sem, *]
theorem Uc (s : ByteArray) : Qu s = (0, 0, ⟨#[]⟩) ∨ (∃ n, Qu s = (1, n, ⟨#[]⟩)) ∨ (∃ s2, s2.size ≤ s.size ∧ Qu s = (2, 0, s2)) ∨ (∃ n, Qu s = (3, n, ⟨#[]⟩)) ∨ (∃ n, Qu s = (4, n, ⟨#[]⟩)) ∨ Qu s = (5, 0, ⟨#[]⟩) := by
  unfold Qu;split
  · split
    · exact Or.inr (Or.inr (Or.inl ⟨_, by rw [ByteArray.size_extract]; omega, rfl⟩))
    · unfold VQ
      repeat' split
      all_goals first
        | exact Or.inr (Or.inr (Or.inr (Or.inl ⟨_, rfl⟩)))
        | exact Or.inr (Or.inr (Or.inr (Or.inr (Or.inl ⟨_, rfl⟩))))
        | (unfold Qm1
           split
           · exact Or.inr (Or.inl ⟨_, rfl⟩)
           · exact Or.inr (Or.inr (Or.inr (Or.inr (Or.inr rfl)))))
  · exact Or.inl rfl
theorem JT (s:ByteArray) (w:World) (hs:s.size≤281474976710656) (hv:Vars w):Calls Tryz.prog 203 #[.string s] w fun e w'=>e= .returned (rvT (Qu s))∧Below w.heap.size w w':=by
 rcases Uc s with h | ⟨n,h⟩ | ⟨s2,h2,h⟩ | ⟨n,h⟩ | ⟨n,h⟩ | h
 ·rw [h];exact Qjz s w hs hv h
 ·rw [h];exact Qr8 s w hs hv n h
 ·rw [h];exact Qom s w hs hv s2 (by unfold maxLen;omega) h
 ·rw [h];exact Qjy s w hs hv n h
 ·rw [h];exact Qoo s w hs hv n h
 ·rw [h];exact Qhj s w hs hv h
end Go.Proofs.YtbdhinckiccniaaGreatDoor
