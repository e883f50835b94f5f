import Derived.Test.YtonhcgkagdpdlaaGreatDoorShelf
import Derived.Test.YtonhcgkagdpdlaaGreatDoorGaa
import Derived.Lib.LaidTab
import Derived.Stop.LaidErr
import Derived.Lib.AppendIntMem
import Derived.Lib.AtoiErrMem
import Derived.Test.YtonhcgkagdpdlaaGreatDoorBase
import Derived.Lib.ParseIntBCases
import Derived.Lib.ItoaMem
import Derived.Test.YtonhcgkagdpdlaaGreatDoorGac
import Derived.Test.YtonhcgkagdpdlaaGreatDoorGad
set_option linter.unusedSimpArgs false
set_option linter.unusedVariables false
set_option maxHeartbeats 4000000
namespace Go.Proofs.YtonhcgkagdpdlaaGreatDoor
open Go.RowKit
theorem var_keep {P:Program} {W w':World} {n:String} {cs:Array Value} (h:W.var? P n=some cs) (hb:Below W.heap.size W w'):w'.var? P n=some cs:=by
 unfold World.var? at h ⊢
 cases hg:P.globalNamed n with
 | none=>rw [hg]at h;cases h
 | some g=>
  rw [hg]at h
  simp only [Option.bind_some]at h ⊢
  have hl:g<W.heap.size:=by
   cases hq:W.heap[g]? with
   | none=>rw [hq]at h;cases h
   | some o=>exact(Array.getElem?_eq_some_iff.1 hq).1
  rw [hb.block g hl]
  exact h
def Vars (W : World) : Prop := Lib.TabIs Tryz.prog W "internal/strconv.uint64pow10" .u64 Lib.pow10Tab ∧ (∃ tp p, W.var? Tryz.prog "strconv.ErrSyntax" = some #[.iface tp p]) ∧ (∃ tp p, W.var? Tryz.prog "strconv.ErrRange" = some #[.iface tp p])
theorem Vars.below {W w':World} (h:Vars W) (hb:Below W.heap.size W w'):Vars w':=by
 obtain⟨h1,⟨t2,p2,h2⟩,⟨t3,p3,h3⟩⟩:=h
 exact⟨var_keep h1 hb,⟨t2,p2,var_keep h2 hb⟩,⟨t3,p3,var_keep h3 hb⟩⟩
def digs:List UInt8→Nat→Option Nat
 | [],n=>some n
 | b::t,n=>if 48≤b.toNat∧b.toNat≤57 then digs t (n*10+(b.toNat-48))else none
def l16 (l:List UInt8):Option Nat:=if l.length<1∨16<l.length∨(l.head? =some 48∧1<l.length)then none else digs l 0
theorem digs_app: ∀(l:List UInt8) (b:UInt8) (n:Nat),digs (l++ [b]) n=(digs l n).bind fun m=>if 48≤b.toNat∧b.toNat≤57 then some (m*10+(b.toNat-48))else none
 | [],b,n=>by simp only [List.nil_append,digs,Option.bind_some]
 | a::l,b,n=>by
  simp only [List.cons_append,digs]
  split
  ·exact digs_app l b _
  ·rfl
theorem digs_lt: ∀(l:List UInt8) (n m:Nat),digs l n=some m→m<(n+1)*10^l.length
 | [],n,m,h=>by simp only [digs]at h;cases h;simp
 | a::l,n,m,h=>by
  simp only [digs]at h
  split at h
  ·have h1:=digs_lt l _ m h
   rename_i hd
   have h2:n*10+(a.toNat-48)+1≤(n+1)*10:=by omega
   have h3:(n*10+(a.toNat-48)+1)*10^l.length≤(n+1)*10*10^l.length:=Nat.mul_le_mul_right _ h2
   have h4:(n+1)*10^(a::l).length=(n+1)*10*10^l.length:=by
    rw [List.length_cons,Nat.pow_succ,Nat.mul_comm (10^l.length) 10,Nat.mul_assoc]
   omega
  ·cases h
theorem byte_ofN (b:UInt8) (n:Nat) (h:b.toNat=48+n):UInt8.ofNat (48+n)=b:=by rw [←h];simp
theorem digs_dec (l:List UInt8): ∀(m:Nat),digs l 0=some m→l≠ []→l.head?≠some 48→1≤m∧Lib.decDigits m=l:=by
 generalize hk:l.length=k
 induction k generalizing l with
 | zero=>intro m _ h;exact absurd (List.length_eq_zero_iff.1 hk) h
 | succ k ih=>
  intro m hm hne hh
  rcases List.eq_nil_or_concat l with rfl | ⟨l',b,rfl⟩
  ·exact absurd rfl hne
  rw [List.concat_eq_append]at*
  rw [digs_app]at hm
  cases hd:digs l' 0 with
  | none=>rw [hd]at hm;cases hm
  | some q=>
   rw [hd]at hm
   simp only [Option.bind_some]at hm
   split at hm
   ·rename_i hb
    have hm':=Option.some.inj hm
    obtain⟨x,hx⟩: ∃x,b.toNat=48+x:=⟨b.toNat-48,by omega⟩
    by_cases hl:l'= []
    ·subst hl
     simp only [digs]at hd
     cases hd
     have hb48:b≠48:=fun e=>hh (by simp [e])
     have hx0:x≠0:=fun e=>hb48 (by apply UInt8.toNat_inj.1;rw [hx,e];rfl)
     have hmx:m=x:=by omega
     subst hmx
     exact⟨by omega,by rw [Lib.decDigits_one (by omega),byte_ofN b m hx];rfl⟩
    ·obtain⟨h1,h2⟩:=ih l' (by simp at hk;omega) q hd hl (fun e=>hh (by
      cases l' with
      | nil=>exact absurd rfl hl
      | cons a t=>simpa using e))
     have hmq:m=q*10+x:=by omega
     refine⟨by omega,?_⟩
     rw [Lib.decDigits,dif_neg (by omega),show m/10=q by omega,h2,show m%10=x by omega,byte_ofN b x hx]
   ·cases hm
theorem dec_len: ∀(k m:Nat),m<10^(k+1)→(Lib.decDigits m).length≤k+1
 | 0,m,h=>by rw [Lib.decDigits_one (by simpa using h)];simp
 | k+1,m,h=>by
  by_cases h9:m<10
  ·rw [Lib.decDigits_one h9];simp
  ·rw [Lib.decDigits,dif_neg h9,List.length_append]
   have:=dec_len k (m/10) (by rw [Nat.pow_succ]at h;omega)
   simp only [List.length_cons,List.length_nil]
   omega
theorem l16_dec {l:List UInt8} {m:Nat} (h:l16 l=some m):Lib.decDigits m=l∧m<10000000000000000∧digs l 0=some m∧(∃c t,l=c::t∧48≤c.toNat∧c.toNat≤57):=by
 unfold l16 at h
 split at h
 ·cases h
 ·rename_i hn
  have hlt:=digs_lt l 0 m h
  have hp:10^l.length≤10^16:=Nat.pow_le_pow_right (by omega) (by omega)
  have hlt2:m<10000000000000000:=by have e:(10:Nat)^16=10000000000000000:=rfl;omega
  match l,h,hn with
  | [],_,hn=>simp at hn
  | c::t,h,hn=>
   have hc:48≤c.toNat∧c.toNat≤57:=by
    have h':=h
    simp only [digs]at h'
    split at h'
    ·assumption
    ·cases h'
   refine⟨?_,hlt2,h,c,t,rfl,hc⟩
   by_cases hz:c=48
   ·subst hz
    have ht:t= []:=by
     cases t with
     | nil=>rfl
     | cons a t'=>exact absurd (Or.inr (Or.inr ⟨rfl,by simp⟩)) hn
    subst ht
    simp [digs]at h
    subst h
    rw [Lib.decDigits_one (by omega)]
    rfl
   ·exact(digs_dec _ m h (by simp) (by simpa using hz)).2
def sgnl (l:List UInt8):Option Int:=
 if l.head? =some 45 then(match l16 l.tail with
  | some n=>if n=0 then none else some (-(n:Int))
  | none=>none)else(match l16 l with
  | some n=>some (n:Int)
  | none=>none)
def trT (n:Int):ByteArray:=if n=0 then⟨#[70,65,76,83,69]⟩else⟨#[84,82,85,69]⟩
def erT (n:Int):ByteArray:=
 if n=1 then⟨#[35,68,73,86,33]⟩else if n=2 then⟨#[35,84,89,80,69,33]⟩else if n=3 then⟨#[35,82,69,70,33]⟩
 else if n=4 then⟨#[35,79,86,69,82,33]⟩else if n=5 then⟨#[35,67,89,67,76,69,33]⟩else⟨#[]⟩
theorem spec_l2Name (n:Int) (w:World) (h0:0≤n) (h5:n≤5):Calls Tryz.prog 74 #[.int .i64 n] w fun e w'=>
  e= .returned (.string (erT n))∧Below w.heap.size w w':=by
 have hn:n=0∨n=1∨n=2∨n=3∨n=4∨n=5:=by omega
 clear h0 h5
 rcases hn with rfl | rfl | rfl | rfl | rfl | rfl
 all_goals
  go_enter Tryz.func74,Tryz.ntmps74
  go_wp2
  go_ret
  exact⟨rfl,by go_grown⟩
theorem digs_step {s:ByteArray} {k:Nat} (h:k<s.size) (n:Nat):digs (s.data.toList.drop k) n=if 48≤s[k].toNat∧s[k].toNat≤57 then digs (s.data.toList.drop (k+1)) (n*10+(s[k].toNat-48))else none:=by
 have e:s.data.toList.drop k=s[k]::s.data.toList.drop (k+1):=List.drop_eq_getElem_cons (by simpa using h)
 rw [e,digs]
theorem l16_no {s:ByteArray} (h:s.size<1∨16<s.size):l16 s.data.toList=none:=by
 have e:s.data.toList.length=s.size:=rfl
 unfold l16
 rw [if_pos (by omega)]
theorem head_at {s:ByteArray} (h:0<s.size):s.data.toList.head? =some s[0]:=by
 obtain⟨⟨l⟩⟩:=s
 match l,h with
 | a::l',_=>rfl
theorem l16_zero {s:ByteArray} (h:1<s.size) (h0:(s[0]'(by omega)).toNat=48):l16 s.data.toList=none:=by
 have e:s.data.toList.length=s.size:=rfl
 unfold l16
 rw [if_pos]
 right;right
 refine⟨?_,by omega⟩
 rw [head_at (by omega)]
 congr 1
 apply UInt8.toNat_inj.1
 rw [h0];rfl
theorem l16_yes {s:ByteArray} (h0:0<s.size) (h16:s.size≤16) (h:(s[0]'h0).toNat≠48∨s.size=1):l16 s.data.toList=digs s.data.toList 0:=by
 have e:s.data.toList.length=s.size:=rfl
 unfold l16
 rw [if_neg]
 rintro(hh | hh | ⟨hh,hl⟩)
 ·omega
 ·omega
 ·rw [head_at h0]at hh
  have hb:s[0]'h0=48:=by simpa using hh
  have:(s[0]'h0).toNat=48:=by rw [hb];rfl
  omega
theorem digs_nought {s:ByteArray} (h:s.size=1) (h0:(s[0]'(by omega)).toNat=48):digs s.data.toList 0=some 0:=by
 obtain⟨⟨l⟩⟩:=s
 match l,h,h0 with
 | [a],_,h0=>
  have ha:a.toNat=48:=h0
  simp only [digs,ha]
  rfl
def o16 (o:Option Nat):Value:= .tuple #[.int .i64 ((o.getD 0:Nat):Int),.bool o.isSome]
theorem l1Int_loop (s:ByteArray) (w:World) (hs:s.size≤281474976710656) (hp:0<s.size) (h16:s.size≤16) (hz:(s[0]'hp).toNat≠48∨s.size=1):Calls Tryz.prog 83 #[.string s,.int .i64 16] w fun e w'=>
  e= .returned (o16 (digs s.data.toList 0))∧w'=w:=by
 have k1: ¬(s.size:Int)<1:=by omega
 have k2: ¬(16:Int)<(s.size:Int):=by omega
 have k3:(0:Int)<(s.size:Int):=by omega
 by_cases h0:(s[0]'hp).toNat=48
 ·have h1: ¬(1:Int)<(s.size:Int):=by omega
  have h0':((s[0]'hp).toNat:Int)=48:=by omega
  have HE:Hid (digs s.data.toList 0=some 0):=digs_nought (by omega) h0
  go_enter Tryz.func83,Tryz.ntmps83
  go_wp2_with fail
  refine wp_loop_rounds 4 ?_
  rw [rounds_succ]
  go_wp2
  rw [rounds_succ]
  go_wp2
  refine bodyPost_ret (v:= .tuple #[.int .i64 0,.bool true]) ?_ rfl ⟨by rw [HE.out];rfl,rfl⟩
  simp (maxDischargeDepth:=9) [results,Tryz.results83,go_sem, *]
 have n0: ¬((s[0]'hp).toNat:Int)=48:=by omega
 have m0:(((s[0]'hp).toNat:Int)==48)=false:=by simpa using n0
 go_enter Tryz.func83,Tryz.ntmps83
 go_wp2_with fail
 go_loop [6,7] (fun v6 v7=> ∃(k m:Nat),k≤s.size∧v6= .int .i64 m∧v7= .int .i64 k∧m<10^k∧digs (s.data.toList.drop k) m=digs s.data.toList 0) (fun _ v7=>s.size-(intOf v7).toNat)
 case atStart=>exact⟨0,0,Nat.zero_le _,rfl,rfl,by simp,rfl⟩
 case round=>
  obtain⟨k,m,hk,rfl,rfl,hm,hr⟩:=hrel
  have HR:Hid (digs (s.data.toList.drop k) m=digs s.data.toList 0):=hr
  have HM:Hid (m<10^k):=hm
  have hm2:m<10000000000000000:=by
   have:10^k≤10^16:=Nat.pow_le_pow_right (by omega) (by omega)
   have e:(10:Nat)^16=10000000000000000:=rfl
   omega
  clear hr hm
  have q0:(0:Int)≤(k:Int):=by omega
  by_cases hlt:k<s.size
  ·have q1:(k:Int)<(s.size:Int):=by omega
   have HD:Hid (digs (s.data.toList.drop k) m=if 48≤s[k].toNat∧s[k].toNat≤57 then digs (s.data.toList.drop (k+1)) (m*10+(s[k].toNat-48))else none):=digs_step hlt m
   by_cases ha:s[k].toNat<48
   ·have ha':(s[k].toNat:Int)<48:=by omega
    have HE:Hid (digs s.data.toList 0=none):=by show _=_;rw [←HR.out,HD.out,if_neg (by omega)]
    go_wp2_with fail
    refine bodyPost_ret (v:= .tuple #[.int .i64 0,.bool false]) ?_ rfl ⟨by rw [HE.out];rfl,rfl⟩
    simp (maxDischargeDepth:=9) [results,Tryz.results83,go_sem, *]
   have na: ¬(s[k].toNat:Int)<48:=by omega
   by_cases hb:57<s[k].toNat
   ·have hb':57<(s[k].toNat:Int):=by omega
    have HE:Hid (digs s.data.toList 0=none):=by show _=_;rw [←HR.out,HD.out,if_neg (by omega)]
    go_wp2_with fail
    refine bodyPost_ret (v:= .tuple #[.int .i64 0,.bool false]) ?_ rfl ⟨by rw [HE.out];rfl,rfl⟩
    simp (maxDischargeDepth:=9) [results,Tryz.results83,go_sem, *]
   have nb: ¬57<(s[k].toNat:Int):=by omega
   have HE:Hid (digs (s.data.toList.drop (k+1)) (m*10+(s[k].toNat-48))=digs s.data.toList 0):=by show _=_;rw [←HR.out,HD.out,if_pos (by omega)]
   go_wp2_with fail
   all_goals
    go_round
    case rel=>exact⟨k+1,m*10+(s[k].toNat-48),by omega,by congr 1;omega,by go_num,by have:=HM.out;rw [Nat.pow_succ];omega,HE.out⟩
    case measure=>simp [intOf];omega
  ·have q1: ¬(k:Int)<(s.size:Int):=by omega
   have HE:Hid (digs s.data.toList 0=some m):=by show _=_;rw [←HR.out,List.drop_of_length_le (by simp;omega)];rfl
   go_wp2_with fail
   refine bodyPost_ret (v:= .tuple #[.int .i64 m,.bool true]) ?_ rfl ⟨by rw [HE.out];rfl,rfl⟩
   simp (maxDischargeDepth:=9) [results,Tryz.results83,go_sem, *]
theorem spec_l1Int16 (s:ByteArray) (w:World) (hs:s.size≤281474976710656):Calls Tryz.prog 83 #[.string s,.int .i64 16] w fun e w'=>
  e= .returned (o16 (l16 s.data.toList))∧w'=w:=by
 by_cases h0:s.size<1
 ·have HE:Hid (l16 s.data.toList=none):=l16_no (Or.inl h0)
  have h1:(s.size:Int)<1:=by omega
  go_enter Tryz.func83,Tryz.ntmps83
  go_wp2
  refine bodyPost_ret (v:= .tuple #[.int .i64 0,.bool false]) ?_ rfl ⟨by rw [HE.out];rfl,rfl⟩
  simp (maxDischargeDepth:=9) [results,Tryz.results83,go_sem, *]
 have k1: ¬(s.size:Int)<1:=by omega
 by_cases h16:16<s.size
 ·have HE:Hid (l16 s.data.toList=none):=l16_no (Or.inr h16)
  have h1:(16:Int)<(s.size:Int):=by omega
  go_enter Tryz.func83,Tryz.ntmps83
  go_wp2
  refine bodyPost_ret (v:= .tuple #[.int .i64 0,.bool false]) ?_ rfl ⟨by rw [HE.out];rfl,rfl⟩
  simp (maxDischargeDepth:=9) [results,Tryz.results83,go_sem, *]
 have k2: ¬(16:Int)<(s.size:Int):=by omega
 have hp:0<s.size:=by omega
 have k3:(0:Int)<(s.size:Int):=by omega
 by_cases hz:(s[0]'hp).toNat=48∧1<s.size
 ·have HE:Hid (l16 s.data.toList=none):=l16_zero hz.2 hz.1
  have h1:(1:Int)<(s.size:Int):=by omega
  have h2:((s[0]'hp).toNat:Int)=48:=by omega
  clear hz
  go_enter Tryz.func83,Tryz.ntmps83
  go_wp2
  refine bodyPost_ret (v:= .tuple #[.int .i64 0,.bool false]) ?_ rfl ⟨by rw [HE.out];rfl,rfl⟩
  simp (maxDischargeDepth:=9) [results,Tryz.results83,go_sem, *]
 ·have hz':(s[0]'hp).toNat≠48∨s.size=1:=by omega
  rw [l16_yes hp (by omega) hz']
  exact l1Int_loop s w hs hp (by omega) hz'
theorem toList_nil_of {s:ByteArray} (h:s.size=0):s=⟨#[]⟩:=by
 obtain⟨⟨l⟩⟩:=s
 match l,h with
 | [],_=>rfl
theorem ne_nil {s:ByteArray} (h:0<s.size):(s.toList==(⟨#[]⟩:ByteArray).toList)=false:=str_ne (fun e=>by rw [e]at h;exact absurd h (by decide))
theorem ne_nil2 {s:ByteArray} (h:0<s.size):s.toList.isEmpty=false:=by
 rw [ByteArray.toList_eq]
 obtain⟨⟨l⟩⟩:=s
 match l,h with
 | a::l',_=>rfl
end Go.Proofs.YtonhcgkagdpdlaaGreatDoor
