import Derived.Test.YtomadadmakdkgaaGreatDoorShelf
import Derived.Test.YtomadadmakdkgaaGreatDoorGaa
import Derived.Lib.LaidTab
import Derived.Stop.LaidErr
import Derived.Lib.AppendIntMem
import Derived.Lib.AtoiErrMem
import Derived.Test.YtomadadmakdkgaaGreatDoorBase
import Derived.Lib.ParseIntBCases
import Derived.Lib.ItoaMem
import Derived.Test.YtomadadmakdkgaaGreatDoorGac
import Derived.Test.YtomadadmakdkgaaGreatDoorGad
open Go.Proofs.Tryz
open Go renaming rounds_succ → d, bodyPost_ret → u, wp_loop_rounds → y, results → C, World → E, Calls → F
open Go.Value renaming int → f, string → j, tuple → B, bool → D, agg → J
open Go.IntKind renaming i64 → i
open Ne renaming symm → z
open Go.Ending renaming returned → A
open Go.RowKit renaming Below → G
open Go.RowKit.Below renaming refl → H
open Or renaming inr → I, inl → M
open Option renaming bind_some → K
open Go.ByteArray renaming toList_eq → L
set_option linter.unusedSimpArgs false
set_option linter.unusedVariables false
set_option maxHeartbeats 4000000
namespace Go.Proofs.YtomadadmakdkgaaGreatDoor
open Go.RowKit
variable {l:List UInt8} {v:Int} {s:ByteArray}
theorem JR{P:Program}{W w':E}{n:String}{cs:Array Value}(h:W.var? P n=some cs)(hb:G W.heap.size W w'):w'.var? P n=some cs:=by
 unfold World.var? at h ⊢;cases hg:P.globalNamed n with
 | none=>rw[hg]at h;cases h
 | some g=>
  rw[hg]at h;simp only[K]at h ⊢
  have hl:g<W.heap.size:=by
   cases hq:W.heap[g]? with
   | none=>rw[hq]at h;cases h
   | some o=>exact(Array.getElem?_eq_some_iff.1 hq).1
  rw[hb.block g hl];exact h
def Vars (W : E) : Prop := Lib.TabIs prog W "internal/strconv.uint64pow10" .u64 Lib.pow10Tab /\ (∃ tp p, W.var? prog "strconv.ErrSyntax" = some #[.iface tp p]) /\ (∃ tp p, W.var? prog "strconv.ErrRange" = some #[.iface tp p])
theorem Vars.below{W w':E}(h:Vars W)(hb:G W.heap.size W w'):Vars w':=by
 obtain⟨h1,⟨t2,p2,h2⟩,⟨t3,p3,h3⟩⟩:=h;exact⟨JR h1 hb,⟨t2,p2,JR h2 hb⟩,⟨t3,p3,JR h3 hb⟩⟩
def YW(l:List UInt8):Option Int:=match Lib.parseIntB 64 l with
 | .ok v=>if Lib.itoa v=l then some v else none
 | _=>none
theorem NC(h:Lib.parseIntB 64 l= .ok v)(h':Lib.itoa v=l):YW l=some v:=by rw[YW,h];exact pS h'
theorem Qqa(h:Lib.parseIntB 64 l= .ok v)(h': ¬Lib.itoa v=l):YW l=none:=by rw[YW,h];exact nG h'
theorem JA(s:ByteArray)(w:E)(hs:s.size<=281474976710656)(hv:Vars w):F prog 214 #[j s] w fun e w'=>
  e= A (B #[f i ((YW s.data.toList).getD 0),D (YW s.data.toList).isSome])/\G w.heap.size w w':=by
 have HV:Hid (Vars w):=hv;clear hv;cases hp:Lib.parseIntB 64 s.data.toList with
 | ok v=>
  have h0: -9223372036854775808<=v/\v<=9223372036854775807:=by have:=Lib.parseIntB_bounds hp;omega
  by_cases hi:Lib.itoa v=s.data.toList
  ·have HE:Hid (YW s.data.toList=some v):=NC hp hi;have hq:(⟨(Lib.itoa v).toArray⟩:ByteArray)=s:=by rw[hi]
   go_enter func214,ntmps214
   go_wp2_with (first
    | (go_at_call 175;refine(Tryz.strconv_ParseInt_10_at64_ok s (by omega) v hp _).mono ?_;rintro e w1 ⟨rfl,hw⟩;have hb:G w.heap.size w w1:=(by rcases hw with rfl | ⟨t,rfl⟩;exact H _ _;exact Lib.bytesWorld_below _ _ _);have h3:Hid (Vars w1):=HV.out.below hb;clear hw)
    | (go_at_call 223;refine(Tryz.strconv_FormatInt_10 v h0.1 h0.2 _ h3.out.1).mono ?_;rintro e w2 ⟨rfl,k,os,rfl⟩;rw[hq];have h1:=Lib.below_grow w1.heap.size w1 (Nat.le_refl _) k os))
   all_goals
    refine u (v:= B #[f i v,D true]) ?_ rfl ⟨by rw[HE.out];rfl,Qb hb h1⟩;simp (maxDischargeDepth:=9) [C,results214,go_sem, *]
  ·have HE:Hid (YW s.data.toList=none):=Qqa hp hi;have h4: ¬Lib.itoa v=s.toList:=by rw[L];exact hi
   have hq:(Lib.itoa v==s.toList)=false:=by simpa using h4
   go_enter func214,ntmps214
   go_wp2_with (first
    | (go_at_call 175;refine(Tryz.strconv_ParseInt_10_at64_ok s (by omega) v hp _).mono ?_;rintro e w1 ⟨rfl,hw⟩;have hb:G w.heap.size w w1:=(by rcases hw with rfl | ⟨t,rfl⟩;exact H _ _;exact Lib.bytesWorld_below _ _ _);have h3:Hid (Vars w1):=HV.out.below hb;clear hw)
    | (go_at_call 223;refine(Tryz.strconv_FormatInt_10 v h0.1 h0.2 _ h3.out.1).mono ?_;rintro e w2 ⟨rfl,k,os,rfl⟩;have h1:=Lib.below_grow w1.heap.size w1 (Nat.le_refl _) k os))
   all_goals
    refine u (v:= B #[f i 0,D false]) ?_ rfl ⟨by rw[HE.out];rfl,Qb hb h1⟩;simp (maxDischargeDepth:=9) [C,results214,go_sem, *]
 | «syntax»=>
  obtain⟨tp,p,h2⟩:=HV.out.2.1;have HE:Hid (YW s.data.toList=none):=by show YW _=none;rw[YW,hp]
  have HQ : Hid (w.var? prog "strconv.ErrSyntax" = some #[.iface tp p]) := h2
  clear h2;go_enter func214,ntmps214
  go_wp2_with (first
   | (go_at_call 175;refine(Tryz.strconv_ParseInt_10_at64_syntax_var s hs hp tp p _ HQ.out).mono ?_;rintro e w1 ⟨N,rfl,hN,hh,hb⟩;clear hh hN))
  all_goals
   refine u (v:= B #[f i 0,D false]) ?_ rfl ⟨by rw[HE.out];rfl,by go_grown⟩;simp (maxDischargeDepth:=9) [C,results214,go_sem, *]
 | range=>
  obtain⟨tp,p,h2⟩:=HV.out.2.2;have HE:Hid (YW s.data.toList=none):=by show YW _=none;rw[YW,hp]
  have HQ : Hid (w.var? prog "strconv.ErrRange" = some #[.iface tp p]) := h2
  clear h2;go_enter func214,ntmps214
  go_wp2_with (first
   | (go_at_call 175;refine(Tryz.strconv_ParseInt_10_at64_range_var s hs hp tp p _ HQ.out).mono ?_;rintro e w1 ⟨N,rfl,hN,hh,hb⟩;clear hh hN))
  all_goals
   refine u (v:= B #[f i 0,D false]) ?_ rfl ⟨by rw[HE.out];rfl,by go_grown⟩;simp (maxDischargeDepth:=9) [C,results214,go_sem, *]
def ZL:List UInt8->Nat->Option Nat
 | [],n=>some n
 | b::t,n=>if 48<=b.toNat/\b.toNat<=57 then ZL t (n*10+(b.toNat-48))else none
def l16(l:List UInt8):Option Nat:=if l.length<1\/16<l.length\/(l.head? =some 48/\1<l.length)then none else ZL l 0
theorem Dc: ∀(l:List UInt8) (b:UInt8) (n:Nat),ZL (l++ [b]) n=(ZL l n).bind fun m=>if 48<=b.toNat/\b.toNat<=57 then some (m*10+(b.toNat-48))else none
 | [],b,n=>by simp only[List.nil_append,ZL,K]
 | a::l,b,n=>by
  simp only[List.cons_append,ZL];split
  ·exact Dc l b _
  ·rfl
theorem Qhd: ∀(l:List UInt8) (n m:Nat),ZL l n=some m->n<=m
 | [],n,m,h=>by simp only[ZL]at h;cases h;exact Nat.le_refl _
 | a::l,n,m,h=>by
  simp only[ZL]at h;split at h
  ·have:=Qhd l _ m h;omega
  ·cases h
theorem Qhc: ∀(l:List UInt8) (n m:Nat),ZL l n=some m->m<(n+1)*10^l.length
 | [],n,m,h=>by simp only[ZL]at h;cases h;simp
 | a::l,n,m,h=>by
  simp only[ZL]at h;split at h
  ·have h1:=Qhc l _ m h;rename_i hd
   have h2:n*10+(a.toNat-48)+1<=(n+1)*10:=by omega
   have h3:(n*10+(a.toNat-48)+1)*10^l.length<=(n+1)*10*10^l.length:=Nat.mul_le_mul_right _ h2
   have h4:(n+1)*10^(a::l).length=(n+1)*10*10^l.length:=by
    rw[List.length_cons,Nat.pow_succ,Nat.mul_comm (10^l.length) 10,Nat.mul_assoc]
   omega
  ·cases h
theorem Vr: ∀(l:List UInt8) (n m:Nat),ZL l n=some m->m<1844674407370955162->Lib.parseUintM (2^64-1) n l= .ok m
 | [],n,m,h,_=>by simp only[ZL]at h;cases h;rfl
 | a::l,n,m,h,hm=>by
  simp only[ZL]at h;split at h
  ·rename_i hd
   have h1:=Qhd l _ m h;simp only[Lib.parseUintM];rw[pS hd,nG (by omega),nG (by omega)];exact Vr l _ m h hm
  ·cases h
theorem Qde(b:UInt8)(n:Nat)(h:b.toNat=48+n):UInt8.ofNat (48+n)=b:=by rw[<-h];simp
theorem Qc7(l:List UInt8): ∀(m:Nat),ZL l 0=some m->l≠ []->l.head?≠some 48->1<=m/\Lib.decDigits m=l:=by
 generalize hk:l.length=k
 induction k generalizing l with
 | zero=>intro m _ h;exact absurd (List.length_eq_zero_iff.1 hk) h
 | succ k ih=>
  intro m hm hne hh;rcases List.eq_nil_or_concat l with rfl | ⟨l',b,rfl⟩
  ·exact absurd rfl hne
  rw[List.concat_eq_append]at*;rw[Dc]at hm;cases hd:ZL l' 0 with
  | none=>rw[hd]at hm;cases hm
  | some q=>
   rw[hd]at hm;simp only[K]at hm;split at hm
   ·rename_i hb
    have hm':=Option.some.inj hm;obtain⟨x,hx⟩: ∃x,b.toNat=48+x:=⟨b.toNat-48,by omega⟩;by_cases hl:l'= []
    ·subst hl;simp only[ZL]at hd;cases hd
     have h0:b≠48:=fun e=>hh (by simp[e]);have hx0:x≠0:=fun e=>h0 (by apply UInt8.toNat_inj.1;rw[hx,e];rfl);have h3:m=x:=by omega
     subst h3;exact⟨by omega,by rw[Lib.decDigits_one (by omega),Qde b m hx];rfl⟩
    ·obtain⟨h1,h2⟩:=ih l' (by simp at hk;omega) q hd hl (fun e=>hh (by
      cases l' with
      | nil=>exact absurd rfl hl
      | cons a t=>simpa using e))
     have hmq:m=q*10+x:=by omega
     refine⟨by omega,?_⟩;rw[Lib.decDigits,dif_neg (by omega),show m/10=q by omega,h2,show m%10=x by omega,Qde b x hx]
   ·cases hm
theorem Qc8(m:Nat):ZL (Lib.decDigits m) 0=some m:=by
 induction m using Nat.strongRecOn with
 | ind m ih=>
  by_cases h:m<10
  ·rw[Lib.decDigits_one h];have e:(UInt8.ofNat (48+m)).toNat=48+m:=by simp;omega
   simp only[ZL,e];rw[pS (by omega)];simp
  ·rw[Lib.decDigits,dif_neg h,Dc,ih (m/10) (by omega)];have e:(UInt8.ofNat (48+m%10)).toNat=48+m%10:=by simp;omega
   simp only[K,e];rw[pS (by omega)];congr 1
   omega
theorem Qmu(m:Nat)(h:1<=m):(Lib.decDigits m).head?≠some 48:=by
 induction m using Nat.strongRecOn with
 | ind m ih=>
  by_cases h9:m<10
  ·rw[Lib.decDigits_one h9];intro e;have e1:UInt8.ofNat (48+m)=48:=by simpa using e
   have e2:=congrArg UInt8.toNat e1;have e3:(UInt8.ofNat (48+m)).toNat=48+m:=by simp;omega
   rw[e3]at e2;have e4:(48:UInt8).toNat=48:=rfl;omega
  ·rw[Lib.decDigits,dif_neg h9];have:=ih (m/10) (by omega) (by omega);cases hd:Lib.decDigits (m/10)with
   | nil=>
    have:=Lib.decDigits_length (m/10);have:=Lib.nDigits_pos (m/10);rw[hd]at*;simp at*;omega
   | cons a t=>rw[hd]at this;simpa using this
theorem Qap: ∀(k m:Nat),m<10^(k+1)->(Lib.decDigits m).length<=k+1
 | 0,m,h=>by rw[Lib.decDigits_one (by simpa using h)];simp
 | k+1,m,h=>by
  by_cases h9:m<10
  ·rw[Lib.decDigits_one h9];simp
  ·rw[Lib.decDigits,dif_neg h9,List.length_append];have:=Qap k (m/10) (by rw[Nat.pow_succ]at h;omega);simp only[List.length_cons,List.length_nil];omega
theorem Ec(m:Nat): ∀c,(Lib.decDigits m).head? =some c->48<=c.toNat/\c.toNat<=57:=by
 intro c hc;have h:=Qc8 m;cases hd:Lib.decDigits m with
 | nil=>rw[hd]at hc;cases hc
 | cons a t=>
  rw[hd]at hc h;simp only[List.head?_cons,Option.some.injEq]at hc;subst hc;simp only[ZL]at h;split at h
  ·assumption
  ·cases h
theorem Qaq(m:Nat)(h:m<10000000000000000):l16 (Lib.decDigits m)=some m:=by
 have h1:=Qap 15 m (by simpa using h);have h0:=Lib.decDigits_length m;have h2:=Lib.nDigits_pos m;unfold l16;rw[nG,Qc8];rintro(hh | hh | ⟨hh,hl⟩)
 ·omega
 ·omega
 ·by_cases hm:1<=m
  ·exact Qmu m hm hh
  ·obtain rfl:m=0:=by omega
   rw[Lib.decDigits_one (by omega)]at hl;simp at hl
theorem Jg{m:Nat}(h:l16 l=some m):Lib.decDigits m=l/\m<10000000000000000/\ZL l 0=some m/\(∃c t,l=c::t/\48<=c.toNat/\c.toNat<=57):=by
 unfold l16 at h;split at h
 ·cases h
 ·rename_i hn
  have hlt:=Qhc l 0 m h;have hp:10^l.length<=10^16:=Nat.pow_le_pow_right (by omega) (by omega);have h0:m<10000000000000000:=by have e:(10:Nat)^16=10000000000000000:=rfl;omega
  match l,h,hn with
  | [],_,hn=>simp at hn
  | c::t,h,hn=>
   have hc:48<=c.toNat/\c.toNat<=57:=by
    have h':=h;simp only[ZL]at h';split at h'
    ·assumption
    ·cases h'
   refine⟨?_,h0,h,c,t,rfl,hc⟩;by_cases hz:c=48
   ·subst hz
    have ht:t= []:=by
     cases t with
     | nil=>rfl
     | cons a t'=>exact absurd (I (I ⟨rfl,by simp⟩)) hn
    subst ht;simp[ZL]at h;subst h;rw[Lib.decDigits_one (by omega)];rfl
   ·exact(Qc7 _ m h (by simp) (by simpa using hz)).2
def MW(l:List UInt8):Option Int:=
 if l.head? =some 45 then(match l16 l.tail with
  | some n=>if n=0 then none else some (-(n:Int))
  | none=>none)else(match l16 l with
  | some n=>some (n:Int)
  | none=>none)
theorem KO(h:MW l=some v):Lib.itoa v=l/\Lib.parseIntB 64 l= .ok v:=by
 unfold MW at h;split at h
 ·rename_i hh
  cases hq:l16 l.tail with
  | none=>rw[hq]at h;cases h
  | some n=>
   rw[hq]at h;simp only at h;split at h
   ·cases h
   ·rename_i hn
    cases h
    obtain⟨h1,h2,h3,c,t,h4,_⟩:=Jg hq
    obtain⟨r,rfl⟩: ∃r,l=45::r:=by
     cases l with
     | nil=>cases hh
     | cons a r=>exact⟨r,by rw[show a=45 by simpa using hh]⟩
    ·simp only[List.tail_cons]at h1 h3 h4;refine⟨by rw[Lib.itoa_neg n (by omega),h1],?_⟩;rw[Lib.parseIntB_minus]
     have e:Lib.parseUintB 64 r= .ok n:=by
      unfold Lib.parseUintB;rw[nG (by rw[h4];simp)];exact Vr r 0 n h3 (by omega)
     rw[e];simp only[Lib.signedC];rw[nG (by have e2:(2:Nat)^(64-1)=9223372036854775808:=rfl;omega)]
 ·rename_i hh
  cases hq:l16 l with
  | none=>rw[hq]at h;cases h
  | some n=>
   rw[hq]at h;cases h
   obtain⟨h1,h2,h3,c,t,h4,h5⟩:=Jg hq;refine⟨by rw[Lib.itoa_nonneg n,h1],?_⟩;rw[h4,Lib.parseIntB_plain 64 c t (by omega) (by omega),<-h4]
   have e:Lib.parseUintB 64 l= .ok n:=by
    unfold Lib.parseUintB;rw[nG (by rw[h4];simp)];exact Vr l 0 n h3 (by omega)
   rw[e];simp only[Lib.signlessC];rw[nG (by have e2:(2:Nat)^(64-1)=9223372036854775808:=rfl;omega)]
theorem Mg(v:Int)(h0: -10000000000000000<v)(h1:v<10000000000000000):MW (Lib.itoa v)=some v:=by
 by_cases hn:v<0
 ·obtain⟨n,rfl⟩: ∃n:Nat,v= -(n:Int):=⟨v.natAbs,by omega⟩;rw[Lib.itoa_neg n (by omega)];unfold MW;rw[pS (by simp),List.tail_cons,Qaq n (by omega)];simp only;rw[nG (by omega)]
 ·obtain⟨n,rfl⟩: ∃n:Nat,v=(n:Int):=⟨v.toNat,by omega⟩;rw[Lib.itoa_nonneg n];unfold MW;rw[nG,Qaq n (by omega)];intro e;have:=(Ec n 45 e).1;have e4:(45:UInt8).toNat=45:=rfl
  omega
def trT(n:Int):ByteArray:=if n=0 then⟨#[70,65,76,83,69]⟩else⟨#[84,82,85,69]⟩
def erT(n:Int):ByteArray:=
 if n=1 then⟨#[35,68,73,86,33]⟩else if n=2 then⟨#[35,84,89,80,69,33]⟩else if n=3 then⟨#[35,82,69,70,33]⟩
 else if n=4 then⟨#[35,79,86,69,82,33]⟩else if n=5 then⟨#[35,67,89,67,76,69,33]⟩else⟨#[]⟩
theorem Qj(n:Int)(w:E):F prog 212 #[f i n] w fun e w'=>
  e= A (j (trT n))/\w'=w:=by
 by_cases h0:n=0
 ·subst h0;go_enter func212,ntmps212;go_wp2
  go_ret;exact⟨rfl,rfl⟩
 ·have e0:(n==0)=false:=by simpa using h0
  go_enter func212,ntmps212;go_wp2
  go_ret;exact⟨QC (by simp[trT,h0]),rfl⟩
theorem Qg(n:Int)(w:E):F prog 213 #[f i n] w fun e w'=>
  e= A (j (erT n))/\w'=w:=by
 by_cases h1:n=1
 ·subst h1;go_enter func213,ntmps213;go_wp2
  go_ret;exact⟨rfl,rfl⟩
 by_cases h2:n=2
 ·subst h2;go_enter func213,ntmps213;go_wp2
  go_ret;exact⟨rfl,rfl⟩
 by_cases h3:n=3
 ·subst h3;go_enter func213,ntmps213;go_wp2
  go_ret;exact⟨rfl,rfl⟩
 by_cases h4:n=4
 ·subst h4;go_enter func213,ntmps213;go_wp2
  go_ret;exact⟨rfl,rfl⟩
 by_cases h5:n=5
 ·subst h5;go_enter func213,ntmps213;go_wp2
  go_ret;exact⟨rfl,rfl⟩
 ·have e1:(n==1)=false:=by simpa using h1
  have e2:(n==2)=false:=by simpa using h2
  have e3:(n==3)=false:=by simpa using h3
  have e4:(n==4)=false:=by simpa using h4
  have e5:(n==5)=false:=by simpa using h5
  go_enter func213,ntmps213;go_wp2
  go_ret;exact⟨QC (by simp[erT,h1,h2,h3,h4,h5]),rfl⟩
theorem Zo(n:Int)(w:E)(h0:0<=n)(h5:n<=5):F prog 138 #[f i n] w fun e w'=>
  e= A (j (erT n))/\G w.heap.size w w':=by
 have hn:n=0\/n=1\/n=2\/n=3\/n=4\/n=5:=by omega
 clear h0 h5;rcases hn with rfl | rfl | rfl | rfl | rfl | rfl
 all_goals
  go_enter func138,ntmps138;go_wp2
  go_ret;exact⟨rfl,by go_grown⟩
theorem Qjh{k:Nat}(h:k<s.size)(n:Nat):ZL (s.data.toList.drop k) n=if 48<=s[k].toNat/\s[k].toNat<=57 then ZL (s.data.toList.drop (k+1)) (n*10+(s[k].toNat-48))else none:=by
 have e:s.data.toList.drop k=s[k]::s.data.toList.drop (k+1):=List.drop_eq_getElem_cons (by simpa using h);rw[e,ZL]
theorem Qny(h:s.size<1\/16<s.size):l16 s.data.toList=none:=by
 have e:s.data.toList.length=s.size:=rfl;unfold l16;rw[pS (by omega)]
theorem Yx(h:0<s.size):s.data.toList.head? =some s[0]:=by
 obtain⟨⟨l⟩⟩:=s;match l,h with
 | a::l',_=>rfl
theorem Qlu(h:1<s.size)(h0:(s[0]'(by omega)).toNat=48):l16 s.data.toList=none:=by
 have e:s.data.toList.length=s.size:=rfl;unfold l16;rw[pS];right;right
 refine⟨?_,by omega⟩;rw[Yx (by omega)];congr 1
 apply UInt8.toNat_inj.1;rw[h0];rfl
theorem Qrb(h0:0<s.size)(h16:s.size<=16)(h:(s[0]'h0).toNat≠48\/s.size=1):l16 s.data.toList=ZL s.data.toList 0:=by
 have e:s.data.toList.length=s.size:=rfl;unfold l16;rw[nG];rintro(hh | hh | ⟨hh,hl⟩)
 ·omega
 ·omega
 ·rw[Yx h0]at hh;have hb:s[0]'h0=48:=by simpa using hh
  have:(s[0]'h0).toNat=48:=by rw[hb];rfl
  omega
theorem Qb4(h:s.size=1)(h0:(s[0]'(by omega)).toNat=48):ZL s.data.toList 0=some 0:=by
 obtain⟨⟨l⟩⟩:=s;match l,h,h0 with
 | [a],_,h0=>
  have ha:a.toNat=48:=h0;simp only[ZL,ha];rfl
def o16(o:Option Nat):Value:= B #[f i ((o.getD 0:Nat):Int),D o.isSome]
theorem Qeg(s:ByteArray)(w:E)(hs:s.size<=281474976710656)(hp:0<s.size)(h16:s.size<=16)(hz:(s[0]'hp).toNat≠48\/s.size=1):F prog 135 #[j s,f i 16] w fun e w'=>
  e= A (o16 (ZL s.data.toList 0))/\w'=w:=by
 have k1: ¬(s.size:Int)<1:=by omega
 have k2: ¬(16:Int)<(s.size:Int):=by omega
 have k3:(0:Int)<(s.size:Int):=by omega
 by_cases h0:(s[0]'hp).toNat=48
 ·have h1: ¬(1:Int)<(s.size:Int):=by omega
  have h0':((s[0]'hp).toNat:Int)=48:=by omega
  have HE:Hid (ZL s.data.toList 0=some 0):=Qb4 (by omega) h0;go_enter func135,ntmps135;go_wp2_with fail
  refine y 4 ?_;rw[d];go_wp2
  rw[d];go_wp2
  refine u (v:= B #[f i 0,D true]) ?_ rfl ⟨by rw[HE.out];rfl,rfl⟩;simp (maxDischargeDepth:=9) [C,results135,go_sem, *]
 have n0: ¬((s[0]'hp).toNat:Int)=48:=by omega
 have m0:(((s[0]'hp).toNat:Int)==48)=false:=by simpa using n0
 go_enter func135,ntmps135;go_wp2_with fail
 go_loop [6,7] (fun v6 v7=> ∃(k m:Nat),k<=s.size/\v6= f i m/\v7= f i k/\m<10^k/\ZL (s.data.toList.drop k) m=ZL s.data.toList 0) (fun _ v7=>s.size-(intOf v7).toNat)
 case atStart=>exact⟨0,0,Nat.zero_le _,rfl,rfl,by simp,rfl⟩
 case round=>
  obtain⟨k,m,hk,rfl,rfl,hm,hr⟩:=hrel;have HR:Hid (ZL (s.data.toList.drop k) m=ZL s.data.toList 0):=hr;have HM:Hid (m<10^k):=hm
  have hm2:m<10000000000000000:=by
   have:10^k<=10^16:=Nat.pow_le_pow_right (by omega) (by omega);have e:(10:Nat)^16=10000000000000000:=rfl;omega
  clear hr hm;have q0:(0:Int)<=(k:Int):=by omega
  by_cases h2:k<s.size
  ·have q1:(k:Int)<(s.size:Int):=by omega
   have HD:Hid (ZL (s.data.toList.drop k) m=if 48<=s[k].toNat/\s[k].toNat<=57 then ZL (s.data.toList.drop (k+1)) (m*10+(s[k].toNat-48))else none):=Qjh h2 m;by_cases ha:s[k].toNat<48
   ·have ha':(s[k].toNat:Int)<48:=by omega
    have HE:Hid (ZL s.data.toList 0=none):=by show _=_;rw[<-HR.out,HD.out,nG (by omega)]
    go_wp2_with fail
    refine u (v:= B #[f i 0,D false]) ?_ rfl ⟨by rw[HE.out];rfl,rfl⟩;simp (maxDischargeDepth:=9) [C,results135,go_sem, *]
   have na: ¬(s[k].toNat:Int)<48:=by omega
   by_cases hb:57<s[k].toNat
   ·have hb':57<(s[k].toNat:Int):=by omega
    have HE:Hid (ZL s.data.toList 0=none):=by show _=_;rw[<-HR.out,HD.out,nG (by omega)]
    go_wp2_with fail
    refine u (v:= B #[f i 0,D false]) ?_ rfl ⟨by rw[HE.out];rfl,rfl⟩;simp (maxDischargeDepth:=9) [C,results135,go_sem, *]
   have nb: ¬57<(s[k].toNat:Int):=by omega
   have HE:Hid (ZL (s.data.toList.drop (k+1)) (m*10+(s[k].toNat-48))=ZL s.data.toList 0):=by show _=_;rw[<-HR.out,HD.out,pS (by omega)]
   go_wp2_with fail
   all_goals
    go_round
    case rel=>exact⟨k+1,m*10+(s[k].toNat-48),by omega,by congr 1;omega,by go_num,by have:=HM.out;rw[Nat.pow_succ];omega,HE.out⟩
    case measure=>simp[intOf];omega
  ·have q1: ¬(k:Int)<(s.size:Int):=by omega
   have HE:Hid (ZL s.data.toList 0=some m):=by show _=_;rw[<-HR.out,List.drop_of_length_le (by simp;omega)];rfl
   go_wp2_with fail
   refine u (v:= B #[f i m,D true]) ?_ rfl ⟨by rw[HE.out];rfl,rfl⟩;simp (maxDischargeDepth:=9) [C,results135,go_sem, *]
theorem QS(s:ByteArray)(w:E)(hs:s.size<=281474976710656):F prog 135 #[j s,f i 16] w fun e w'=>
  e= A (o16 (l16 s.data.toList))/\w'=w:=by
 by_cases h0:s.size<1
 ·have HE:Hid (l16 s.data.toList=none):=Qny (M h0);have h1:(s.size:Int)<1:=by omega
  go_enter func135,ntmps135;go_wp2
  refine u (v:= B #[f i 0,D false]) ?_ rfl ⟨by rw[HE.out];rfl,rfl⟩;simp (maxDischargeDepth:=9) [C,results135,go_sem, *]
 have k1: ¬(s.size:Int)<1:=by omega
 by_cases h4:16<s.size
 ·have HE:Hid (l16 s.data.toList=none):=Qny (I h4);have h1:(16:Int)<(s.size:Int):=by omega
  go_enter func135,ntmps135;go_wp2
  refine u (v:= B #[f i 0,D false]) ?_ rfl ⟨by rw[HE.out];rfl,rfl⟩;simp (maxDischargeDepth:=9) [C,results135,go_sem, *]
 have k2: ¬(16:Int)<(s.size:Int):=by omega
 have hp:0<s.size:=by omega
 have k3:(0:Int)<(s.size:Int):=by omega
 by_cases hz:(s[0]'hp).toNat=48/\1<s.size
 ·have HE:Hid (l16 s.data.toList=none):=Qlu hz.2 hz.1;have h1:(1:Int)<(s.size:Int):=by omega
  have h2:((s[0]'hp).toNat:Int)=48:=by omega
  clear hz;go_enter func135,ntmps135;go_wp2
  refine u (v:= B #[f i 0,D false]) ?_ rfl ⟨by rw[HE.out];rfl,rfl⟩;simp (maxDischargeDepth:=9) [C,results135,go_sem, *]
 ·have h3:(s[0]'hp).toNat≠48\/s.size=1:=by omega
  rw[Qrb hp (by omega) h3];exact Qeg s w hs hp (by omega) h3
def Qn6(o:Option Int):Int × Int × ByteArray:=match o with
 | some n=>(1,n,⟨#[]⟩)
 | none=>(5,0,⟨#[]⟩)
def YK(s:ByteArray):Int × Int × ByteArray:=
 if s=trT 0 then(3,0,⟨#[]⟩)else if s=trT 1 then(3,1,⟨#[]⟩)else if s=erT 1 then(4,1,⟨#[]⟩)else if s=erT 2 then(4,2,⟨#[]⟩)else if s=erT 3 then(4,3,⟨#[]⟩)
 else if s=erT 4 then(4,4,⟨#[]⟩)else if s=erT 5 then(4,5,⟨#[]⟩)else Qn6 (YW s.data.toList)
def Qu(s:ByteArray):Int × Int × ByteArray:=
 if h:0<s.size then(if s[0].toNat=39 then(2,0,s.extract 1 s.size)else YK s)else(0,0,⟨#[]⟩)
def NX(g:Int × Int × ByteArray):Value:=mBK g.1 g.2.1 g.2.2
def gOk(g:Int × Int × ByteArray):Bool:=if g.1=0 then true else if g.1=1 then Ym g.2.1 else if g.1=2 then QJ g.2.2 else if g.1=3 then Yv g.2.1 else if g.1=4 then JH g.2.1 else false
def rvT(g:Int × Int × ByteArray):Value:=if gOk g then B #[J #[f i g.1,f i g.2.1,j g.2.2],D true]else B #[J #[f i 0,f i 0,j ⟨#[]⟩],D false]
theorem Za(h:s.size=0):s=⟨#[]⟩:=by
 obtain⟨⟨l⟩⟩:=s;match l,h with
 | [],_=>rfl
theorem Yl(h:0<s.size):(s.toList==(⟨#[]⟩:ByteArray).toList)=false:=QQ (fun e=>by rw[e]at h;exact absurd h (by decide))
theorem QZ(h:0<s.size):s.toList.isEmpty=false:=by
 rw[L];obtain⟨⟨l⟩⟩:=s;match l,h with
 | a::l',_=>rfl
theorem Qb1(w:E):F prog 179 #[j ⟨#[]⟩] w fun e w'=>e= A (mBK 0 0 ⟨#[]⟩)/\w'=w:=by
 go_enter func179,ntmps179;go_wp2
 go_ret;exact⟨rfl,rfl⟩
theorem EJ(s:ByteArray)(w:E)(hs:s.size<=281474976710656)(h:0<s.size)(h39:s[0].toNat=39):F prog 179 #[j s] w fun e w'=>e= A (mBK 2 0 (s.extract 1 s.size))/\w'=w:=by
 have e1:=Yl h;have e2:=QZ h;have h1:((s[0].toNat:Nat):Int)=39:=by omega
 have h2:(0:Int)<(s.size:Int):=by omega
 have h3:(1:Int)<=(s.size:Int):=by omega
 go_enter func179,ntmps179;go_wp2
 go_ret;exact⟨rfl,rfl⟩
theorem Qex(s:ByteArray)(w:E)(hs:s.size<=281474976710656)(h:0<s.size)(h39:s[0].toNat≠39)(hh:trT 0=s):F prog 179 #[j s] w fun e w'=>e= A (mBK 3 0 ⟨#[]⟩)/\G w.heap.size w w':=by
 have z1:=Yl h;have z2:=QZ h;have h1: ¬((s[0].toNat:Nat):Int)=39:=by omega
 have h1':(((s[0].toNat:Nat):Int)==39)=false:=by simpa using h1
 have h2:(0:Int)<(s.size:Int):=by omega
 have e9:=VF hh;clear hh;go_enter func179,ntmps179;go_wp2_with fail
 refine y 4 ?_;rw[d]
 go_wp2_with (first
  | (go_at_call 212;refine(Qj _ _).mono ?_;rintro e w1 ⟨rfl,rfl⟩)
  | (go_at_call 213;refine(Qg _ _).mono ?_;rintro e w1 ⟨rfl,rfl⟩))
 go_ret;exact⟨rfl,H _ _⟩
theorem Qew(s:ByteArray)(w:E)(hs:s.size<=281474976710656)(h:0<s.size)(h39:s[0].toNat≠39)(n0:trT 0≠s)(hh:trT 1=s):F prog 179 #[j s] w fun e w'=>e= A (mBK 3 1 ⟨#[]⟩)/\G w.heap.size w w':=by
 have z1:=Yl h;have z2:=QZ h;have h1: ¬((s[0].toNat:Nat):Int)=39:=by omega
 have h1':(((s[0].toNat:Nat):Int)==39)=false:=by simpa using h1
 have h2:(0:Int)<(s.size:Int):=by omega
 have e0:=QQ n0;clear n0;have e9:=VF hh;clear hh;go_enter func179,ntmps179;go_wp2_with fail
 refine y 4 ?_;rw[d]
 go_wp2_with (first
  | (go_at_call 212;refine(Qj _ _).mono ?_;rintro e w1 ⟨rfl,rfl⟩)
  | (go_at_call 213;refine(Qg _ _).mono ?_;rintro e w1 ⟨rfl,rfl⟩))
 rw[d]
 go_wp2_with (first
  | (go_at_call 212;refine(Qj _ _).mono ?_;rintro e w1 ⟨rfl,rfl⟩)
  | (go_at_call 213;refine(Qg _ _).mono ?_;rintro e w1 ⟨rfl,rfl⟩))
 go_ret;exact⟨rfl,H _ _⟩
theorem Qev(s:ByteArray)(w:E)(hs:s.size<=281474976710656)(h:0<s.size)(h39:s[0].toNat≠39)(n0:trT 0≠s)(n1:trT 1≠s)(hh:erT 1=s):F prog 179 #[j s] w fun e w'=>e= A (mBK 4 1 ⟨#[]⟩)/\G w.heap.size w w':=by
 have z1:=Yl h;have z2:=QZ h;have h1: ¬((s[0].toNat:Nat):Int)=39:=by omega
 have h1':(((s[0].toNat:Nat):Int)==39)=false:=by simpa using h1
 have h2:(0:Int)<(s.size:Int):=by omega
 have e0:=QQ n0;clear n0;have e1:=QQ n1;clear n1;have e9:=VF hh;clear hh;go_enter func179,ntmps179
 go_wp2_with fail
 refine y 4 ?_;rw[d]
 go_wp2_with (first
  | (go_at_call 212;refine(Qj _ _).mono ?_;rintro e w1 ⟨rfl,rfl⟩)
  | (go_at_call 213;refine(Qg _ _).mono ?_;rintro e w1 ⟨rfl,rfl⟩))
 rw[d]
 go_wp2_with (first
  | (go_at_call 212;refine(Qj _ _).mono ?_;rintro e w1 ⟨rfl,rfl⟩)
  | (go_at_call 213;refine(Qg _ _).mono ?_;rintro e w1 ⟨rfl,rfl⟩))
 rw[d]
 go_wp2_with (first
  | (go_at_call 212;refine(Qj _ _).mono ?_;rintro e w1 ⟨rfl,rfl⟩)
  | (go_at_call 213;refine(Qg _ _).mono ?_;rintro e w1 ⟨rfl,rfl⟩))
 refine y 8 ?_;rw[d]
 go_wp2_with (first
  | (go_at_call 212;refine(Qj _ _).mono ?_;rintro e w1 ⟨rfl,rfl⟩)
  | (go_at_call 213;refine(Qg _ _).mono ?_;rintro e w1 ⟨rfl,rfl⟩))
 go_ret;exact⟨rfl,H _ _⟩
theorem Qeu(s:ByteArray)(w:E)(hs:s.size<=281474976710656)(h:0<s.size)(h39:s[0].toNat≠39)(n0:trT 0≠s)(n1:trT 1≠s)(n2:erT 1≠s)(hh:erT 2=s):F prog 179 #[j s] w fun e w'=>e= A (mBK 4 2 ⟨#[]⟩)/\G w.heap.size w w':=by
 have z1:=Yl h;have z2:=QZ h;have h1: ¬((s[0].toNat:Nat):Int)=39:=by omega
 have h1':(((s[0].toNat:Nat):Int)==39)=false:=by simpa using h1
 have h2:(0:Int)<(s.size:Int):=by omega
 have e0:=QQ n0;clear n0;have e1:=QQ n1;clear n1;have e2:=QQ n2;clear n2;have e9:=VF hh
 clear hh;go_enter func179,ntmps179;go_wp2_with fail
 refine y 4 ?_;rw[d]
 go_wp2_with (first
  | (go_at_call 212;refine(Qj _ _).mono ?_;rintro e w1 ⟨rfl,rfl⟩)
  | (go_at_call 213;refine(Qg _ _).mono ?_;rintro e w1 ⟨rfl,rfl⟩))
 rw[d]
 go_wp2_with (first
  | (go_at_call 212;refine(Qj _ _).mono ?_;rintro e w1 ⟨rfl,rfl⟩)
  | (go_at_call 213;refine(Qg _ _).mono ?_;rintro e w1 ⟨rfl,rfl⟩))
 rw[d]
 go_wp2_with (first
  | (go_at_call 212;refine(Qj _ _).mono ?_;rintro e w1 ⟨rfl,rfl⟩)
  | (go_at_call 213;refine(Qg _ _).mono ?_;rintro e w1 ⟨rfl,rfl⟩))
 refine y 8 ?_;rw[d]
 go_wp2_with (first
  | (go_at_call 212;refine(Qj _ _).mono ?_;rintro e w1 ⟨rfl,rfl⟩)
  | (go_at_call 213;refine(Qg _ _).mono ?_;rintro e w1 ⟨rfl,rfl⟩))
 rw[d]
 go_wp2_with (first
  | (go_at_call 212;refine(Qj _ _).mono ?_;rintro e w1 ⟨rfl,rfl⟩)
  | (go_at_call 213;refine(Qg _ _).mono ?_;rintro e w1 ⟨rfl,rfl⟩))
 go_ret;exact⟨rfl,H _ _⟩
theorem Qet(s:ByteArray)(w:E)(hs:s.size<=281474976710656)(h:0<s.size)(h39:s[0].toNat≠39)(n0:trT 0≠s)(n1:trT 1≠s)(n2:erT 1≠s)(n3:erT 2≠s)(hh:erT 3=s):F prog 179 #[j s] w fun e w'=>e= A (mBK 4 3 ⟨#[]⟩)/\G w.heap.size w w':=by
 have z1:=Yl h;have z2:=QZ h;have h1: ¬((s[0].toNat:Nat):Int)=39:=by omega
 have h1':(((s[0].toNat:Nat):Int)==39)=false:=by simpa using h1
 have h2:(0:Int)<(s.size:Int):=by omega
 have e0:=QQ n0;clear n0;have e1:=QQ n1;clear n1;have e2:=QQ n2;clear n2;have e3:=QQ n3
 clear n3;have e9:=VF hh;clear hh;go_enter func179,ntmps179;go_wp2_with fail
 refine y 4 ?_;rw[d]
 go_wp2_with (first
  | (go_at_call 212;refine(Qj _ _).mono ?_;rintro e w1 ⟨rfl,rfl⟩)
  | (go_at_call 213;refine(Qg _ _).mono ?_;rintro e w1 ⟨rfl,rfl⟩))
 rw[d]
 go_wp2_with (first
  | (go_at_call 212;refine(Qj _ _).mono ?_;rintro e w1 ⟨rfl,rfl⟩)
  | (go_at_call 213;refine(Qg _ _).mono ?_;rintro e w1 ⟨rfl,rfl⟩))
 rw[d]
 go_wp2_with (first
  | (go_at_call 212;refine(Qj _ _).mono ?_;rintro e w1 ⟨rfl,rfl⟩)
  | (go_at_call 213;refine(Qg _ _).mono ?_;rintro e w1 ⟨rfl,rfl⟩))
 refine y 8 ?_;rw[d]
 go_wp2_with (first
  | (go_at_call 212;refine(Qj _ _).mono ?_;rintro e w1 ⟨rfl,rfl⟩)
  | (go_at_call 213;refine(Qg _ _).mono ?_;rintro e w1 ⟨rfl,rfl⟩))
 rw[d]
 go_wp2_with (first
  | (go_at_call 212;refine(Qj _ _).mono ?_;rintro e w1 ⟨rfl,rfl⟩)
  | (go_at_call 213;refine(Qg _ _).mono ?_;rintro e w1 ⟨rfl,rfl⟩))
 rw[d]
 go_wp2_with (first
  | (go_at_call 212;refine(Qj _ _).mono ?_;rintro e w1 ⟨rfl,rfl⟩)
  | (go_at_call 213;refine(Qg _ _).mono ?_;rintro e w1 ⟨rfl,rfl⟩))
 go_ret;exact⟨rfl,H _ _⟩
theorem Qes(s:ByteArray)(w:E)(hs:s.size<=281474976710656)(h:0<s.size)(h39:s[0].toNat≠39)(n0:trT 0≠s)(n1:trT 1≠s)(n2:erT 1≠s)(n3:erT 2≠s)(n4:erT 3≠s)(hh:erT 4=s):F prog 179 #[j s] w fun e w'=>e= A (mBK 4 4 ⟨#[]⟩)/\G w.heap.size w w':=by
 have z1:=Yl h;have z2:=QZ h;have h1: ¬((s[0].toNat:Nat):Int)=39:=by omega
 have h1':(((s[0].toNat:Nat):Int)==39)=false:=by simpa using h1
 have h2:(0:Int)<(s.size:Int):=by omega
 have e0:=QQ n0;clear n0;have e1:=QQ n1;clear n1;have e2:=QQ n2;clear n2;have e3:=QQ n3
 clear n3;have e4:=QQ n4;clear n4;have e9:=VF hh;clear hh;go_enter func179,ntmps179;go_wp2_with fail
 refine y 4 ?_;rw[d]
 go_wp2_with (first
  | (go_at_call 212;refine(Qj _ _).mono ?_;rintro e w1 ⟨rfl,rfl⟩)
  | (go_at_call 213;refine(Qg _ _).mono ?_;rintro e w1 ⟨rfl,rfl⟩))
 rw[d]
 go_wp2_with (first
  | (go_at_call 212;refine(Qj _ _).mono ?_;rintro e w1 ⟨rfl,rfl⟩)
  | (go_at_call 213;refine(Qg _ _).mono ?_;rintro e w1 ⟨rfl,rfl⟩))
 rw[d]
 go_wp2_with (first
  | (go_at_call 212;refine(Qj _ _).mono ?_;rintro e w1 ⟨rfl,rfl⟩)
  | (go_at_call 213;refine(Qg _ _).mono ?_;rintro e w1 ⟨rfl,rfl⟩))
 refine y 8 ?_;rw[d]
 go_wp2_with (first
  | (go_at_call 212;refine(Qj _ _).mono ?_;rintro e w1 ⟨rfl,rfl⟩)
  | (go_at_call 213;refine(Qg _ _).mono ?_;rintro e w1 ⟨rfl,rfl⟩))
 rw[d]
 go_wp2_with (first
  | (go_at_call 212;refine(Qj _ _).mono ?_;rintro e w1 ⟨rfl,rfl⟩)
  | (go_at_call 213;refine(Qg _ _).mono ?_;rintro e w1 ⟨rfl,rfl⟩))
 rw[d]
 go_wp2_with (first
  | (go_at_call 212;refine(Qj _ _).mono ?_;rintro e w1 ⟨rfl,rfl⟩)
  | (go_at_call 213;refine(Qg _ _).mono ?_;rintro e w1 ⟨rfl,rfl⟩))
 rw[d]
 go_wp2_with (first
  | (go_at_call 212;refine(Qj _ _).mono ?_;rintro e w1 ⟨rfl,rfl⟩)
  | (go_at_call 213;refine(Qg _ _).mono ?_;rintro e w1 ⟨rfl,rfl⟩))
 go_ret;exact⟨rfl,H _ _⟩
theorem Qer(s:ByteArray)(w:E)(hs:s.size<=281474976710656)(h:0<s.size)(h39:s[0].toNat≠39)(n0:trT 0≠s)(n1:trT 1≠s)(n2:erT 1≠s)(n3:erT 2≠s)(n4:erT 3≠s)(n5:erT 4≠s)(hh:erT 5=s):F prog 179 #[j s] w fun e w'=>e= A (mBK 4 5 ⟨#[]⟩)/\G w.heap.size w w':=by
 have z1:=Yl h;have z2:=QZ h;have h1: ¬((s[0].toNat:Nat):Int)=39:=by omega
 have h1':(((s[0].toNat:Nat):Int)==39)=false:=by simpa using h1
 have h2:(0:Int)<(s.size:Int):=by omega
 have e0:=QQ n0;clear n0;have e1:=QQ n1;clear n1;have e2:=QQ n2;clear n2;have e3:=QQ n3
 clear n3;have e4:=QQ n4;clear n4;have e5:=QQ n5;clear n5;have e9:=VF hh;clear hh
 go_enter func179,ntmps179;go_wp2_with fail
 refine y 4 ?_;rw[d]
 go_wp2_with (first
  | (go_at_call 212;refine(Qj _ _).mono ?_;rintro e w1 ⟨rfl,rfl⟩)
  | (go_at_call 213;refine(Qg _ _).mono ?_;rintro e w1 ⟨rfl,rfl⟩))
 rw[d]
 go_wp2_with (first
  | (go_at_call 212;refine(Qj _ _).mono ?_;rintro e w1 ⟨rfl,rfl⟩)
  | (go_at_call 213;refine(Qg _ _).mono ?_;rintro e w1 ⟨rfl,rfl⟩))
 rw[d]
 go_wp2_with (first
  | (go_at_call 212;refine(Qj _ _).mono ?_;rintro e w1 ⟨rfl,rfl⟩)
  | (go_at_call 213;refine(Qg _ _).mono ?_;rintro e w1 ⟨rfl,rfl⟩))
 refine y 8 ?_;rw[d]
 go_wp2_with (first
  | (go_at_call 212;refine(Qj _ _).mono ?_;rintro e w1 ⟨rfl,rfl⟩)
  | (go_at_call 213;refine(Qg _ _).mono ?_;rintro e w1 ⟨rfl,rfl⟩))
 rw[d]
 go_wp2_with (first
  | (go_at_call 212;refine(Qj _ _).mono ?_;rintro e w1 ⟨rfl,rfl⟩)
  | (go_at_call 213;refine(Qg _ _).mono ?_;rintro e w1 ⟨rfl,rfl⟩))
 rw[d]
 go_wp2_with (first
  | (go_at_call 212;refine(Qj _ _).mono ?_;rintro e w1 ⟨rfl,rfl⟩)
  | (go_at_call 213;refine(Qg _ _).mono ?_;rintro e w1 ⟨rfl,rfl⟩))
 rw[d]
 go_wp2_with (first
  | (go_at_call 212;refine(Qj _ _).mono ?_;rintro e w1 ⟨rfl,rfl⟩)
  | (go_at_call 213;refine(Qg _ _).mono ?_;rintro e w1 ⟨rfl,rfl⟩))
 rw[d]
 go_wp2_with (first
  | (go_at_call 212;refine(Qj _ _).mono ?_;rintro e w1 ⟨rfl,rfl⟩)
  | (go_at_call 213;refine(Qg _ _).mono ?_;rintro e w1 ⟨rfl,rfl⟩))
 go_ret;exact⟨rfl,H _ _⟩
theorem EK(s:ByteArray)(w:E)(hs:s.size<=281474976710656)(h:0<s.size)(h39:s[0].toNat≠39)(n0:trT 0≠s)(n1:trT 1≠s)(n2:erT 1≠s)(n3:erT 2≠s)(n4:erT 3≠s)(n5:erT 4≠s)(n6:erT 5≠s)(hv:Vars w):F prog 179 #[j s] w fun e w'=>e= A (NX (Qn6 (YW s.data.toList)))/\G w.heap.size w w':=by
 have HV:Hid (Vars w):=hv;clear hv;have z1:=Yl h;have z2:=QZ h;have h1: ¬((s[0].toNat:Nat):Int)=39:=by omega
 have h1':(((s[0].toNat:Nat):Int)==39)=false:=by simpa using h1
 have h2:(0:Int)<(s.size:Int):=by omega
 have e0:=QQ n0;clear n0;have e1:=QQ n1;clear n1;have e2:=QQ n2;clear n2;have e3:=QQ n3
 clear n3;have e4:=QQ n4;clear n4;have e5:=QQ n5;clear n5;have e6:=QQ n6;clear n6
 go_enter func179,ntmps179;go_wp2_with fail
 refine y 4 ?_;rw[d]
 go_wp2_with (first
  | (go_at_call 212;refine(Qj _ _).mono ?_;rintro e w1 ⟨rfl,rfl⟩)
  | (go_at_call 213;refine(Qg _ _).mono ?_;rintro e w1 ⟨rfl,rfl⟩))
 rw[d]
 go_wp2_with (first
  | (go_at_call 212;refine(Qj _ _).mono ?_;rintro e w1 ⟨rfl,rfl⟩)
  | (go_at_call 213;refine(Qg _ _).mono ?_;rintro e w1 ⟨rfl,rfl⟩))
 rw[d]
 go_wp2_with (first
  | (go_at_call 212;refine(Qj _ _).mono ?_;rintro e w1 ⟨rfl,rfl⟩)
  | (go_at_call 213;refine(Qg _ _).mono ?_;rintro e w1 ⟨rfl,rfl⟩))
 refine y 8 ?_;rw[d]
 go_wp2_with (first
  | (go_at_call 212;refine(Qj _ _).mono ?_;rintro e w1 ⟨rfl,rfl⟩)
  | (go_at_call 213;refine(Qg _ _).mono ?_;rintro e w1 ⟨rfl,rfl⟩))
 rw[d]
 go_wp2_with (first
  | (go_at_call 212;refine(Qj _ _).mono ?_;rintro e w1 ⟨rfl,rfl⟩)
  | (go_at_call 213;refine(Qg _ _).mono ?_;rintro e w1 ⟨rfl,rfl⟩))
 rw[d]
 go_wp2_with (first
  | (go_at_call 212;refine(Qj _ _).mono ?_;rintro e w1 ⟨rfl,rfl⟩)
  | (go_at_call 213;refine(Qg _ _).mono ?_;rintro e w1 ⟨rfl,rfl⟩))
 rw[d]
 go_wp2_with (first
  | (go_at_call 212;refine(Qj _ _).mono ?_;rintro e w1 ⟨rfl,rfl⟩)
  | (go_at_call 213;refine(Qg _ _).mono ?_;rintro e w1 ⟨rfl,rfl⟩))
 rw[d]
 go_wp2_with (first
  | (go_at_call 212;refine(Qj _ _).mono ?_;rintro e w1 ⟨rfl,rfl⟩)
  | (go_at_call 213;refine(Qg _ _).mono ?_;rintro e w1 ⟨rfl,rfl⟩))
 rw[d]
 go_wp2_with (first
  | (go_at_call 212;refine(Qj _ _).mono ?_;rintro e w1 ⟨rfl,rfl⟩)
  | (go_at_call 213;refine(Qg _ _).mono ?_;rintro e w1 ⟨rfl,rfl⟩))
 refine(JA s _ hs HV.out).mono ?_;rintro e w1 ⟨rfl,hb⟩;cases hr:YW s.data.toList with
 | none=>
  simp only[Option.getD_none,Option.isSome_none];go_wp2_with fail
  go_ret;exact⟨Jx (by first | rfl | (rw[hr];rfl)),hb⟩
 | some n=>
  simp only[Option.getD_some,Option.isSome_some];go_wp2_with fail
  go_ret;exact⟨Jx (by first | rfl | (rw[hr];rfl)),hb⟩
theorem Zd(s:ByteArray)(w:E)(hs:s.size<=281474976710656)(hv:Vars w):F prog 179 #[j s] w fun e w'=>e= A (NX (Qu s))/\G w.heap.size w w':=by
 by_cases h:0<s.size
 ·by_cases h0:s[0].toNat=39
  ·rw[show Qu s=(2,0,s.extract 1 s.size) by unfold Qu;rw[dif_pos h,pS h0]];exact(EJ s w hs h h0).mono fun _ _ q=>⟨q.1,by rw[q.2];exact H _ _⟩
  rw[show Qu s=YK s by unfold Qu;rw[dif_pos h,nG h0]];unfold YK;by_cases n0:s=trT 0
  ·rw[pS n0];exact Qex s w hs h h0 n0.symm
  by_cases n1:s=trT 1
  ·rw[nG n0,pS n1];exact Qew s w hs h h0 (z n0) n1.symm
  by_cases n2:s=erT 1
  ·rw[nG n0,nG n1,pS n2];exact Qev s w hs h h0 (z n0) (z n1) n2.symm
  by_cases n3:s=erT 2
  ·rw[nG n0,nG n1,nG n2,pS n3];exact Qeu s w hs h h0 (z n0) (z n1) (z n2) n3.symm
  by_cases n4:s=erT 3
  ·rw[nG n0,nG n1,nG n2,nG n3,pS n4];exact Qet s w hs h h0 (z n0) (z n1) (z n2) (z n3) n4.symm
  by_cases n5:s=erT 4
  ·rw[nG n0,nG n1,nG n2,nG n3,nG n4,pS n5];exact Qes s w hs h h0 (z n0) (z n1) (z n2) (z n3) (z n4) n5.symm
  by_cases n6:s=erT 5
  ·rw[nG n0,nG n1,nG n2,nG n3,nG n4,nG n5,pS n6];exact Qer s w hs h h0 (z n0) (z n1) (z n2) (z n3) (z n4) (z n5) n6.symm
  rw[nG n0,nG n1,nG n2,nG n3,nG n4,nG n5,nG n6];exact EK s w hs h h0 (z n0) (z n1) (z n2) (z n3) (z n4) (z n5) (z n6) hv
 ·rw[show Qu s=(0,0,⟨#[]⟩) by unfold Qu;rw[dif_neg h]];obtain rfl:=Za (s:=s) (by omega);exact(Qb1 w).mono fun _ _ q=>⟨q.1,by rw[q.2];exact H _ _⟩
theorem Qk0(s:ByteArray)(w:E)(hs:s.size<=281474976710656)(hv:Vars w)(hg:Qu s=(0,0,⟨#[]⟩)):F prog 149 #[j s] w fun e w'=>e= A (rvT (0,0,⟨#[]⟩))/\G w.heap.size w w':=by
 have HG:Hid (NX (Qu s)= .iface 241 (J #[])):=by show NX _=_;rw[hg];rfl
 have HV:Hid (Vars w):=hv;clear hg hv;have HE:Hid (rvT (0,0,⟨#[]⟩)= B #[J #[f i 0,f i 0,j ⟨#[]⟩],D true]):=by show rvT _=_;simp[rvT,gOk]
 go_enter func149,ntmps149;go_wp2_with fail
 refine(Zd s _ hs (HV.out.below (by go_grown))).mono ?_;rintro e w1 ⟨rfl,hb⟩;rw[HG.out];obtain⟨hc,hf,hC,hF,hz,hk,l0⟩:=bk1 (w:=w) hb;clear hb
 go_wp2_with (first
  | (go_at_call 337;refine(XE _).mono ?_;rintro e w2 ⟨rfl,hb⟩;obtain⟨hc,hf,hC,hF,hz,hk,l0⟩:=bk1 (w:=w) hb;clear hb)
  | (go_at_call 339;refine(Jo _).mono ?_;rintro e w3 ⟨rfl,hb⟩;obtain⟨hc,hf,hC,hF,hz,hk,l0⟩:=bk1 (w:=w) hb;clear hb))
 all_goals
  refine u (v:= B #[J #[f i 0,f i 0,j ⟨#[]⟩],D true]) ?_ rfl ⟨by rw[HE.out],by go_grown⟩;simp (maxDischargeDepth:=9) [C,results149,go_sem, *]
theorem Qtu(s:ByteArray)(w:E)(hs:s.size<=281474976710656)(hv:Vars w)(n:Int)(hg:Qu s=(1,n,⟨#[]⟩)):F prog 149 #[j s] w fun e w'=>e= A (rvT (1,n,⟨#[]⟩))/\G w.heap.size w w':=by
 have HG:Hid (NX (Qu s)= .iface 208 (f i n)):=by show NX _=_;rw[hg];rfl
 have HV:Hid (Vars w):=hv;clear hg hv;cases ho:Ym n
 ·have h0:Hid (Ym n=false):=ho;clear ho;have HE:Hid (rvT (1,n,⟨#[]⟩)= B #[J #[f i 0,f i 0,j ⟨#[]⟩],D false]):=by show rvT _=_;simp[rvT,gOk,h0.out]
  go_enter func149,ntmps149;go_wp2_with fail
  refine(Zd s _ hs (HV.out.below (by go_grown))).mono ?_;rintro e w1 ⟨rfl,hb⟩;rw[HG.out];obtain⟨hc,hf,hC,hF,hz,hk,l0⟩:=bk1 (w:=w) hb;clear hb
  go_wp2_with (first
   | (go_at_call 332;refine(Yk _ _).mono ?_;rintro e w2 ⟨rfl,rfl⟩;rw[h0.out]))
  all_goals
   refine u (v:= B #[J #[f i 0,f i 0,j ⟨#[]⟩],D false]) ?_ rfl ⟨by rw[HE.out],by go_grown⟩;simp (maxDischargeDepth:=9) [C,results149,go_sem, *]
 ·have h0:Hid (Ym n=true):=ho;clear ho;have HE:Hid (rvT (1,n,⟨#[]⟩)= B #[J #[f i 1,f i n,j ⟨#[]⟩],D true]):=by show rvT _=_;simp[rvT,gOk,h0.out]
  go_enter func149,ntmps149;go_wp2_with fail
  refine(Zd s _ hs (HV.out.below (by go_grown))).mono ?_;rintro e w1 ⟨rfl,hb⟩;rw[HG.out];obtain⟨hc,hf,hC,hF,hz,hk,l0⟩:=bk1 (w:=w) hb;clear hb
  go_wp2_with (first
   | (go_at_call 332;refine(Yk _ _).mono ?_;rintro e w2 ⟨rfl,rfl⟩;rw[h0.out])
   | (go_at_call 176;refine(XU _ _).mono ?_;rintro e w3 ⟨rfl,hb⟩;obtain⟨hc,hf,hC,hF,hz,hk,l0⟩:=bk1 (w:=w) hb;clear hb))
  all_goals
   refine u (v:= B #[J #[f i 1,f i n,j ⟨#[]⟩],D true]) ?_ rfl ⟨by rw[HE.out],by go_grown⟩;simp (maxDischargeDepth:=9) [C,results149,go_sem, *]
theorem Qpx(s:ByteArray)(w:E)(hs:s.size<=281474976710656)(hv:Vars w)(s2:ByteArray)(hs2:s2.size<=maxLen)(hg:Qu s=(2,0,s2)):F prog 149 #[j s] w fun e w'=>e= A (rvT (2,0,s2))/\G w.heap.size w w':=by
 have HG:Hid (NX (Qu s)= .iface 187 (j s2)):=by show NX _=_;rw[hg];rfl
 have HV:Hid (Vars w):=hv;clear hg hv;cases ho:QJ s2
 ·have h0:Hid (QJ s2=false):=ho;clear ho;have HE:Hid (rvT (2,0,s2)= B #[J #[f i 0,f i 0,j ⟨#[]⟩],D false]):=by show rvT _=_;simp[rvT,gOk,h0.out]
  go_enter func149,ntmps149;go_wp2_with fail
  refine(Zd s _ hs (HV.out.below (by go_grown))).mono ?_;rintro e w1 ⟨rfl,hb⟩;rw[HG.out];obtain⟨hc,hf,hC,hF,hz,hk,l0⟩:=bk1 (w:=w) hb;clear hb
  go_wp2_with (first
   | (go_at_call 331;refine(ZS _ _ hs2).mono ?_;rintro e w2 ⟨rfl,rfl⟩;rw[h0.out]))
  all_goals
   refine u (v:= B #[J #[f i 0,f i 0,j ⟨#[]⟩],D false]) ?_ rfl ⟨by rw[HE.out],by go_grown⟩;simp (maxDischargeDepth:=9) [C,results149,go_sem, *]
 ·have h0:Hid (QJ s2=true):=ho;clear ho;have HE:Hid (rvT (2,0,s2)= B #[J #[f i 2,f i 0,j s2],D true]):=by show rvT _=_;simp[rvT,gOk,h0.out]
  go_enter func149,ntmps149;go_wp2_with fail
  refine(Zd s _ hs (HV.out.below (by go_grown))).mono ?_;rintro e w1 ⟨rfl,hb⟩;rw[HG.out];obtain⟨hc,hf,hC,hF,hz,hk,l0⟩:=bk1 (w:=w) hb;clear hb
  go_wp2_with (first
   | (go_at_call 331;refine(ZS _ _ hs2).mono ?_;rintro e w2 ⟨rfl,rfl⟩;rw[h0.out])
   | (go_at_call 282;refine(Xo _ _).mono ?_;rintro e w3 ⟨rfl,hb⟩;obtain⟨hc,hf,hC,hF,hz,hk,l0⟩:=bk1 (w:=w) hb;clear hb))
  all_goals
   refine u (v:= B #[J #[f i 2,f i 0,j s2],D true]) ?_ rfl ⟨by rw[HE.out],by go_grown⟩;simp (maxDischargeDepth:=9) [C,results149,go_sem, *]
theorem Qkz(s:ByteArray)(w:E)(hs:s.size<=281474976710656)(hv:Vars w)(n:Int)(hg:Qu s=(3,n,⟨#[]⟩)):F prog 149 #[j s] w fun e w'=>e= A (rvT (3,n,⟨#[]⟩))/\G w.heap.size w w':=by
 have HG:Hid (NX (Qu s)= .iface 242 (f i n)):=by show NX _=_;rw[hg];rfl
 have HV:Hid (Vars w):=hv;clear hg hv;cases ho:Yv n
 ·have h0:Hid (Yv n=false):=ho;clear ho;have HE:Hid (rvT (3,n,⟨#[]⟩)= B #[J #[f i 0,f i 0,j ⟨#[]⟩],D false]):=by show rvT _=_;simp[rvT,gOk,h0.out]
  go_enter func149,ntmps149;go_wp2_with fail
  refine(Zd s _ hs (HV.out.below (by go_grown))).mono ?_;rintro e w1 ⟨rfl,hb⟩;rw[HG.out];obtain⟨hc,hf,hC,hF,hz,hk,l0⟩:=bk1 (w:=w) hb;clear hb
  go_wp2_with (first
   | (go_at_call 340;refine(YI _ _).mono ?_;rintro e w2 ⟨rfl,rfl⟩;rw[h0.out]))
  all_goals
   refine u (v:= B #[J #[f i 0,f i 0,j ⟨#[]⟩],D false]) ?_ rfl ⟨by rw[HE.out],by go_grown⟩;simp (maxDischargeDepth:=9) [C,results149,go_sem, *]
 ·have h0:Hid (Yv n=true):=ho;clear ho;have HE:Hid (rvT (3,n,⟨#[]⟩)= B #[J #[f i 3,f i n,j ⟨#[]⟩],D true]):=by show rvT _=_;simp[rvT,gOk,h0.out]
  go_enter func149,ntmps149;go_wp2_with fail
  refine(Zd s _ hs (HV.out.below (by go_grown))).mono ?_;rintro e w1 ⟨rfl,hb⟩;rw[HG.out];obtain⟨hc,hf,hC,hF,hz,hk,l0⟩:=bk1 (w:=w) hb;clear hb
  go_wp2_with (first
   | (go_at_call 340;refine(YI _ _).mono ?_;rintro e w2 ⟨rfl,rfl⟩;rw[h0.out])
   | (go_at_call 341;refine(Kk _ _).mono ?_;rintro e w3 ⟨rfl,hb⟩;obtain⟨hc,hf,hC,hF,hz,hk,l0⟩:=bk1 (w:=w) hb;clear hb))
  all_goals
   refine u (v:= B #[J #[f i 3,f i n,j ⟨#[]⟩],D true]) ?_ rfl ⟨by rw[HE.out],by go_grown⟩;simp (maxDischargeDepth:=9) [C,results149,go_sem, *]
theorem Qpz(s:ByteArray)(w:E)(hs:s.size<=281474976710656)(hv:Vars w)(n:Int)(hg:Qu s=(4,n,⟨#[]⟩)):F prog 149 #[j s] w fun e w'=>e= A (rvT (4,n,⟨#[]⟩))/\G w.heap.size w w':=by
 have HG:Hid (NX (Qu s)= .iface 243 (f i n)):=by show NX _=_;rw[hg];rfl
 have HV:Hid (Vars w):=hv;clear hg hv;cases ho:JH n
 ·have h0:Hid (JH n=false):=ho;clear ho;have HE:Hid (rvT (4,n,⟨#[]⟩)= B #[J #[f i 0,f i 0,j ⟨#[]⟩],D false]):=by show rvT _=_;simp[rvT,gOk,h0.out]
  go_enter func149,ntmps149;go_wp2_with fail
  refine(Zd s _ hs (HV.out.below (by go_grown))).mono ?_;rintro e w1 ⟨rfl,hb⟩;rw[HG.out];obtain⟨hc,hf,hC,hF,hz,hk,l0⟩:=bk1 (w:=w) hb;clear hb
  go_wp2_with (first
   | (go_at_call 342;refine(ZT _ _).mono ?_;rintro e w2 ⟨rfl,rfl⟩;rw[h0.out]))
  all_goals
   refine u (v:= B #[J #[f i 0,f i 0,j ⟨#[]⟩],D false]) ?_ rfl ⟨by rw[HE.out],by go_grown⟩;simp (maxDischargeDepth:=9) [C,results149,go_sem, *]
 ·have h0:Hid (JH n=true):=ho;clear ho;have HE:Hid (rvT (4,n,⟨#[]⟩)= B #[J #[f i 4,f i n,j ⟨#[]⟩],D true]):=by show rvT _=_;simp[rvT,gOk,h0.out]
  go_enter func149,ntmps149;go_wp2_with fail
  refine(Zd s _ hs (HV.out.below (by go_grown))).mono ?_;rintro e w1 ⟨rfl,hb⟩;rw[HG.out];obtain⟨hc,hf,hC,hF,hz,hk,l0⟩:=bk1 (w:=w) hb;clear hb
  go_wp2_with (first
   | (go_at_call 342;refine(ZT _ _).mono ?_;rintro e w2 ⟨rfl,rfl⟩;rw[h0.out])
   | (go_at_call 227;refine(Xp _ _).mono ?_;rintro e w3 ⟨rfl,hb⟩;obtain⟨hc,hf,hC,hF,hz,hk,l0⟩:=bk1 (w:=w) hb;clear hb))
  all_goals
   refine u (v:= B #[J #[f i 4,f i n,j ⟨#[]⟩],D true]) ?_ rfl ⟨by rw[HE.out],by go_grown⟩;simp (maxDischargeDepth:=9) [C,results149,go_sem, *]
theorem Qia(s:ByteArray)(w:E)(hs:s.size<=281474976710656)(hv:Vars w)(hg:Qu s=(5,0,⟨#[]⟩)):F prog 149 #[j s] w fun e w'=>e= A (rvT (5,0,⟨#[]⟩))/\G w.heap.size w w':=by
 have HG:Hid (NX (Qu s)= .iface 240 (J #[])):=by show NX _=_;rw[hg];rfl
 have HV:Hid (Vars w):=hv;clear hg hv;have HE:Hid (rvT (5,0,⟨#[]⟩)= B #[J #[f i 0,f i 0,j ⟨#[]⟩],D false]):=by show rvT _=_;simp[rvT,gOk]
 go_enter func149,ntmps149;go_wp2_with fail
 refine(Zd s _ hs (HV.out.below (by go_grown))).mono ?_;rintro e w1 ⟨rfl,hb⟩;rw[HG.out];obtain⟨hc,hf,hC,hF,hz,hk,l0⟩:=bk1 (w:=w) hb;clear hb
 go_wp2_with (first
  | (go_at_call 334;refine(Vg _).mono ?_;rintro e w2 ⟨rfl,hb⟩;obtain⟨hc,hf,hC,hF,hz,hk,l0⟩:=bk1 (w:=w) hb;clear hb))
 all_goals
  refine u (v:= B #[J #[f i 0,f i 0,j ⟨#[]⟩],D false]) ?_ rfl ⟨by rw[HE.out],by go_grown⟩;simp (maxDischargeDepth:=9) [C,results149,go_sem, *]
theorem Mr(s : ByteArray) : Qu s = (0, 0, ⟨#[]⟩) \/ (∃ n, Qu s = (1, n, ⟨#[]⟩)) \/ (∃ s2, s2.size <= s.size /\ Qu s = (2, 0, s2)) \/ (∃ n, Qu s = (3, n, ⟨#[]⟩)) \/ (∃ n, Qu s = (4, n, ⟨#[]⟩)) \/ Qu s = (5, 0, ⟨#[]⟩) := by
  unfold Qu;split
  · split
    · exact I (I (M ⟨_, by rw[ByteArray.size_extract]; omega, rfl⟩))
    · unfold YK
      repeat' split
      all_goals first
        | exact I (I (I (M ⟨_, rfl⟩)))
        | exact I (I (I (I (M ⟨_, rfl⟩))))
        | (unfold Qn6
           split
           · exact I (M ⟨_, rfl⟩)
           · exact I (I (I (I (I rfl)))))
  · exact M rfl
theorem Ki(s:ByteArray)(w:E)(hs:s.size<=281474976710656)(hv:Vars w):F prog 149 #[j s] w fun e w'=>e= A (rvT (Qu s))/\G w.heap.size w w':=by
 rcases Mr s with h | ⟨n,h⟩ | ⟨s2,h2,h⟩ | ⟨n,h⟩ | ⟨n,h⟩ | h
 ·rw[h];exact Qk0 s w hs hv h
 ·rw[h];exact Qtu s w hs hv n h
 ·rw[h];exact Qpx s w hs hv s2 (by unfold maxLen;omega) h
 ·rw[h];exact Qkz s w hs hv n h
 ·rw[h];exact Qpz s w hs hv n h
 ·rw[h];exact Qia s w hs hv h
end Go.Proofs.YtomadadmakdkgaaGreatDoor
