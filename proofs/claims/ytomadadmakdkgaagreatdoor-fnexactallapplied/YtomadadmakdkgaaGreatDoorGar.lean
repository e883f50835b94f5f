import Derived.Test.YtomadadmakdkgaaGreatDoorGah
import Derived.Laws.BytesString
open Go.Proofs.Tryz
open Go.Value renaming string → a, int → c, agg → D, slice → F
open Go.IntKind renaming i64 → d
open Go.Ending renaming returned → f
open Go.RowKit renaming Below → g
open Go renaming World → i, Calls → u, maxLen → B
open UInt8 renaming ofNat → p
open Bool renaming and_eq_true → A
open Or renaming inr → C
open Go.Lib renaming itoa_nonneg → E
open Go.Obj renaming cells → G
set_option linter.unusedSimpArgs false
set_option linter.unusedVariables false
set_option maxHeartbeats 2000000
set_option maxRecDepth 100000
namespace Go.Proofs.YtomadadmakdkgaaGreatDoor
open Go.RowKit
variable {n:Int} {s:ByteArray} {m:Nat}
theorem Qu9(W:i)(b:Nat)(v:Int)(hv:W.cell? ⟨b,0,none⟩=some (.int .u8 v)):
  (convert 22 9 (F (some ⟨b,0,none⟩) 1 1)).run prog W= .ok (a ⟨#[p v.toNat]⟩) W:=by
 rw[run_convert_bytes_string W 22 9 5 (some ⟨b,0,none⟩) 1 1 underlying22 underlying5 underlying9]
 have hl:=run_loadCells_list (P:=prog) W ⟨b,0,none⟩ [.int .u8 v] (fun j x hj=>by
  match j,hj with
  | 0,hj=>simp at hj;simpa[Addr.add,<-hj]using hv)
 rw[run_bytesToString W ⟨b,0,none⟩ 1 1 [v] (by simpa using hl)];rfl
theorem Qu8(W:i)(v:Int):(convert 22 9 (F (some ⟨W.heap.size,0,none⟩) 1 1)).run prog (W.alloc (G #[.int .u8 v] 5))=
  .ok (a ⟨#[p v.toNat]⟩) (W.alloc (G #[.int .u8 v] 5)):=Qu9 _ _ v (by simp)
def VarT (W : i) : Prop := Lib.TabIs prog W "internal/strconv.uint64pow10" .u64 Lib.pow10Tab
theorem VarT.below{W w':i}(h:VarT W)(hb:g W.heap.size W w'):VarT w':=JR h hb
def itB(n:Int):ByteArray:=⟨(Lib.itoa n).toArray⟩
def txB(k n:Int)(s:ByteArray):ByteArray:=if k=1 then itB n else if k=2 then(⟨#[39]⟩:ByteArray)++s else if k=3 then trT n else if k=4 then erT n else⟨#[]⟩
def txV(k n:Int)(s:ByteArray):ByteArray:=if okV k n s then txB k n s else⟨#[]⟩
theorem Qbq(n:Int)(w:i)(h0: -9223372036854775808<=n)(h1:n<=9223372036854775807)(hv:VarT w):u prog 333 #[c d n] w fun e w'=>
  e= f (a (itB n))/\g w.heap.size w w':=by
 have HV:Hid (VarT w):=hv;clear hv;go_enter func333,ntmps333;go_wp2_with fail
 refine(Tryz.strconv_FormatInt_10 n h0 h1 _ HV.out).mono ?_;rintro e w2 ⟨rfl,k,os,rfl⟩;have h2:=Lib.below_grow w.heap.size w (Nat.le_refl _) k os;go_wp2_with fail
 go_ret;exact⟨rfl,h2⟩
theorem GO(s:ByteArray)(w:i)(hs:s.size<=1000):u prog 150 #[a s] w fun e w'=>
  e= f (a ((⟨#[39]⟩:ByteArray)++s))/\w'=w:=by
 have hs1: ¬9223372036854775807<1+s.size:=by omega
 go_enter func150,ntmps150;go_wp2_with fail
 go_ret;exact⟨rfl,rfl⟩
theorem Qdn(w:i):u prog 338 #[D #[]] w fun e w'=>
  e= f (a ⟨#[]⟩)/\g w.heap.size w w':=by
 go_enter func338,ntmps338;go_wp2
 go_ret;exact⟨rfl,by go_grown⟩
theorem Qbr(w:i):u prog 335 #[D #[]] w fun e w'=>
  e= f (a ⟨#[]⟩)/\g w.heap.size w w':=by
 go_enter func335,ntmps335;go_wp2
 go_ret;exact⟨rfl,by go_grown⟩
theorem Yr{k:Int}(h:okV k n s=true):(k=0/\n=0/\s=⟨#[]⟩)\/(k=1/\Ym n=true/\s=⟨#[]⟩)\/(k=2/\n=0/\QJ s=true)\/(k=3/\(n=0\/n=1)/\s=⟨#[]⟩)\/(k=4/\1<=n/\n<=5/\s=⟨#[]⟩):=by
 unfold okV at h;by_cases h0:k=0
 ·rw[pS h0,A]at h;exact Or.inl ⟨h0,of_decide_eq_true h.1,Ju h.2⟩
 by_cases h1:k=1
 ·rw[nG h0,pS h1,A]at h;exact C (Or.inl ⟨h1,h.1,Ju h.2⟩)
 by_cases h2:k=2
 ·rw[nG h0,nG h1,pS h2,A]at h;exact C (C (Or.inl ⟨h2,of_decide_eq_true h.1,h.2⟩))
 by_cases h3:k=3
 ·rw[nG h0,nG h1,nG h2,pS h3,A]at h;exact C (C (C (Or.inl ⟨h3,of_decide_eq_true h.1,Ju h.2⟩)))
 by_cases h4:k=4
 ·rw[nG h0,nG h1,nG h2,nG h3,pS h4,A]at h;have:=of_decide_eq_true h.1;exact C (C (C (C ⟨h4,this.1,this.2,Ju h.2⟩)))
 ·rw[nG h0,nG h1,nG h2,nG h3,nG h4]at h;cases h
theorem Qa6(h:Ym n=true): -1000000000000000<=n/\n<=1000000000000000:=of_decide_eq_true h
theorem Hq(h:QJ s=true):s.size<=200:=by
 unfold QJ at h;rw[A]at h;exact of_decide_eq_true h.1
theorem Qup(k n:Int)(s:ByteArray)(w:i)(hv:VarT w)(hs:Hid (s.size<=B))(hm:mOf k n s=mNo):u prog 148 #[D #[c d k,c d n,a s]] w fun e w'=>e= f (a (⟨#[]⟩))/\g w.heap.size w w':=by
 have HV:Hid (VarT w):=hv;have HM:Hid (mOf k n s=mNo):=hm;clear hv hm;go_enter func148,ntmps148
 go_wp2_with (first
  | (go_at_call 178;refine(QF _ _ _ _ hs.out).mono ?_;rintro e w1 ⟨rfl,hb⟩;rw[HM.out];unfold mNo;have K1:Hid (g w.heap.size w w1):=(Qb (by go_grown) hb);clear hb)
  | (go_at_call 335;refine(Qbr _).mono ?_;rintro e w2 ⟨rfl,hb⟩;have K2:Hid (g w.heap.size w w2):=(Qb K1.out hb);clear hb))
 go_ret;exact⟨rfl,K2.out⟩
theorem Qi5(w:i)(hv:VarT w)(hs:Hid ((⟨#[]⟩:ByteArray).size<=B))(hm:mOf 0 0 ⟨#[]⟩= .iface 241 (D #[])):u prog 148 #[D #[c d 0,c d 0,a ⟨#[]⟩]] w fun e w'=>e= f (a (⟨#[]⟩))/\g w.heap.size w w':=by
 have HV:Hid (VarT w):=hv;have HM:Hid (mOf 0 0 ⟨#[]⟩= .iface 241 (D #[])):=hm;clear hv hm;go_enter func148,ntmps148
 go_wp2_with (first
  | (go_at_call 178;refine(QF _ _ _ _ hs.out).mono ?_;rintro e w1 ⟨rfl,hb⟩;rw[HM.out];have K1:Hid (g w.heap.size w w1):=(Qb (by go_grown) hb);clear hb)
  | (go_at_call 338;refine(Qdn _).mono ?_;rintro e w2 ⟨rfl,hb⟩;have K2:Hid (g w.heap.size w w2):=(Qb K1.out hb);clear hb))
 go_ret;exact⟨rfl,K2.out⟩
theorem Qrg(n:Int)(h0: -9223372036854775808<=n)(h1:n<=9223372036854775807)(w:i)(hv:VarT w)(hs:Hid ((⟨#[]⟩:ByteArray).size<=B))(hm:mOf 1 n ⟨#[]⟩= .iface 208 (c d n)):u prog 148 #[D #[c d 1,c d n,a ⟨#[]⟩]] w fun e w'=>e= f (a (itB n))/\g w.heap.size w w':=by
 have HV:Hid (VarT w):=hv;have HM:Hid (mOf 1 n ⟨#[]⟩= .iface 208 (c d n)):=hm;clear hv hm;go_enter func148,ntmps148
 go_wp2_with (first
  | (go_at_call 178;refine(QF _ _ _ _ hs.out).mono ?_;rintro e w1 ⟨rfl,hb⟩;rw[HM.out];have K1:Hid (g w.heap.size w w1):=(Qb (by go_grown) hb);clear hb)
  | (go_at_call 333;refine(Qbq n _ h0 h1 (HV.out.below K1.out)).mono ?_;rintro e w2 ⟨rfl,hb⟩;have K2:Hid (g w.heap.size w w2):=(Qb K1.out hb);clear hb))
 go_ret;exact⟨rfl,K2.out⟩
theorem Qlv(s:ByteArray)(h2:s.size<=1000)(w:i)(hv:VarT w)(hs:Hid (s.size<=B))(hm:mOf 2 0 s= .iface 187 (a s)):u prog 148 #[D #[c d 2,c d 0,a s]] w fun e w'=>e= f (a ((⟨#[39]⟩:ByteArray)++s))/\g w.heap.size w w':=by
 have HV:Hid (VarT w):=hv;have HM:Hid (mOf 2 0 s= .iface 187 (a s)):=hm;clear hv hm;go_enter func148,ntmps148
 go_wp2_with (first
  | (go_at_call 178;refine(QF _ _ _ _ hs.out).mono ?_;rintro e w1 ⟨rfl,hb⟩;rw[HM.out];have K1:Hid (g w.heap.size w w1):=(Qb (by go_grown) hb);clear hb)
  | (go_at_call 150;refine(GO s _ h2).mono ?_;rintro e w2 ⟨rfl,hw⟩;subst w2;have K2:Hid (g w.heap.size w w1):=K1.out))
 go_ret;exact⟨rfl,K2.out⟩
theorem Qi4(n:Int)(w:i)(hv:VarT w)(hs:Hid ((⟨#[]⟩:ByteArray).size<=B))(hm:mOf 3 n ⟨#[]⟩= .iface 242 (c d n)):u prog 148 #[D #[c d 3,c d n,a ⟨#[]⟩]] w fun e w'=>e= f (a (trT n))/\g w.heap.size w w':=by
 have HV:Hid (VarT w):=hv;have HM:Hid (mOf 3 n ⟨#[]⟩= .iface 242 (c d n)):=hm;clear hv hm;go_enter func148,ntmps148
 go_wp2_with (first
  | (go_at_call 178;refine(QF _ _ _ _ hs.out).mono ?_;rintro e w1 ⟨rfl,hb⟩;rw[HM.out];have K1:Hid (g w.heap.size w w1):=(Qb (by go_grown) hb);clear hb)
  | (go_at_call 212;refine(Qj n _).mono ?_;rintro e w2 ⟨rfl,hw⟩;subst w2;have K2:Hid (g w.heap.size w w1):=K1.out))
 go_ret;exact⟨rfl,K2.out⟩
theorem Qlw(n:Int)(w:i)(hv:VarT w)(hs:Hid ((⟨#[]⟩:ByteArray).size<=B))(hm:mOf 4 n ⟨#[]⟩= .iface 243 (c d n)):u prog 148 #[D #[c d 4,c d n,a ⟨#[]⟩]] w fun e w'=>e= f (a (erT n))/\g w.heap.size w w':=by
 have HV:Hid (VarT w):=hv;have HM:Hid (mOf 4 n ⟨#[]⟩= .iface 243 (c d n)):=hm;clear hv hm;go_enter func148,ntmps148
 go_wp2_with (first
  | (go_at_call 178;refine(QF _ _ _ _ hs.out).mono ?_;rintro e w1 ⟨rfl,hb⟩;rw[HM.out];have K1:Hid (g w.heap.size w w1):=(Qb (by go_grown) hb);clear hb)
  | (go_at_call 213;refine(Qg n _).mono ?_;rintro e w2 ⟨rfl,hw⟩;subst w2;have K2:Hid (g w.heap.size w w1):=K1.out))
 go_ret;exact⟨rfl,K2.out⟩
theorem Qq2{k:Int}(h:okV k n s=true):mOf k n s=mBK k n s:=by unfold mOf;rw[h];rfl
theorem Kh(k n:Int)(s:ByteArray)(w:i)(hv:VarT w)(hs:s.size<=B):u prog 148 #[D #[c d k,c d n,a s]] w fun e w'=>e= f (a (txV k n s))/\g w.heap.size w w':=by
 cases ho:okV k n s
 ·rw[show txV k n s=⟨#[]⟩ by unfold txV;rw[ho];rfl];exact Qup k n s w hv hs (by unfold mOf;rw[ho];rfl)
 ·rw[show txV k n s=txB k n s by unfold txV;rw[ho];rfl];have hm:=Qq2 ho;rcases Yr ho with⟨rfl,rfl,rfl⟩ | ⟨rfl,hr,rfl⟩ | ⟨rfl,rfl,hr⟩ | ⟨rfl,hr,rfl⟩ | ⟨rfl,h1,h5,rfl⟩
  ·exact Qi5 w hv hs hm
  ·have:=Qa6 hr;exact Qrg n (by omega) (by omega) w hv hs hm
  ·have:=Hq hr;exact Qlv s (by omega) w hv hs hm
  ·exact Qi4 n w hv hs hm
  ·exact Qlw n w hv hs hm
def Ef(m:Nat)(s:ByteArray):ByteArray:=if h:m<10 then(⟨#[48+p m]⟩:ByteArray)++s else Ef (m/10) ((⟨#[48+p (m%10)]⟩:ByteArray)++s)
 termination_by m
 decreasing_by omega
theorem Qc9(h:m<10)(s:ByteArray):Ef m s=(⟨#[48+p m]⟩:ByteArray)++s:=by rw[Ef,dif_pos h]
theorem Ee(h: ¬m<10)(s:ByteArray):Ef m s=Ef (m/10) ((⟨#[48+p (m%10)]⟩:ByteArray)++s):=by rw[Ef,dif_neg h]
theorem Qok(l r:List UInt8):(⟨l.toArray⟩:ByteArray)++(⟨r.toArray⟩:ByteArray)=⟨(l++r).toArray⟩:=by apply ByteArray.ext;simp
theorem Qm5(x y z:ByteArray):(x++y)++z=x++(y++z):=by apply ByteArray.ext;simp[Array.append_assoc]
theorem Qhe(m:Nat)(h:m<10):(48:UInt8)+p m=p (48+m):=by
 apply UInt8.toNat_inj.1;simp[UInt8.toNat_add]
theorem Qr2(m:Nat): ∀s,Ef m s=(⟨(Lib.decDigits m).toArray⟩:ByteArray)++s:=by
 induction m using Nat.strongRecOn with
 | ind m ih=>
  intro s;by_cases h:m<10
  ·rw[Qc9 h,Lib.decDigits_one h,Qhe m h]
  ·rw[Ee h,ih (m/10) (by omega),Lib.decDigits.eq_1 m,dif_neg h,<-Qok,Qm5,Qhe (m%10) (by omega)]
theorem Qm1(x:ByteArray):x++(⟨#[]⟩:ByteArray)=x:=by apply ByteArray.ext;simp
theorem Qr1(m:Nat):Ef m ⟨#[]⟩=itB (m:Int):=by rw[Qr2,Qm1,itB,E]
theorem Quq(m:Nat)(h:1<=m):(⟨#[45]⟩:ByteArray)++itB (m:Int)=itB (-(m:Int)):=by
 unfold itB;rw[Lib.itoa_neg m h,E];exact Qok [45] _
theorem KG(h:m<10000000000000000):(itB (m:Int)).size<=16:=by
 have h1:=Qap 15 m (by simpa using h);unfold itB;rw[E];exact h1
theorem BF(m:Nat)(w:i)(hm:m<=1000000000000000):u prog 116 #[c d m] w fun e w'=>e= f (a (itB (m:Int)))/\g w.heap.size w w':=by
 have HD:Hid (Ef m ⟨#[]⟩=itB (m:Int)):=Qr1 m;have hn0: ¬(m:Int)<0:=by omega
 go_enter func116,ntmps116;go_wp2_with fail
 go_loopw [0,3] (fun q o wr=> ∃(j:Nat) (s:ByteArray),q= c d j/\o= a s/\s.size+j<=m/\Ef j s=itB (m:Int)/\g w.heap.size w wr) (fun q _ _=>(intOf q).toNat)
 case atStart=>exact⟨m,⟨#[]⟩,rfl,rfl,by show 0+m<=m;omega,HD.out,Below.refl _ _⟩
 case round=>
  clear HD;obtain⟨j,s,rfl,rfl,hsm,h2,h0⟩:=hrel;have HG:Hid (Ef j s=itB (m:Int)):=h2;clear h2;have hcv:= @Qu8;have hs1: ¬9223372036854775807<1+s.size:=by omega
  by_cases h1:j<10
  ·have hj: ¬10<=(j:Int):=by omega
   have hj':(j:Int)<10:=by omega
   have HF:Hid ((⟨#[48+p j]⟩:ByteArray)++s=itB (m:Int)):=by show _=_;rw[<-HG.out,Qc9 h1]
   go_wp2_with fail
   go_ret;exact⟨by rw[<-HF.out];rfl,by have h3:=h0.size;go_grown⟩
  ·have hj:10<=(j:Int):=by omega
   have HS:=HG.out;rw[Ee h1]at HS;have HT:Hid (Ef (j/10) ((⟨#[48+p (j%10)]⟩:ByteArray)++s)=itB (m:Int)):=HS;clear HS HG;go_wp2_with fail
   all_goals
    go_roundw
    case rel=>exact⟨j/10,_,by congr 1,rfl,by rw[ByteArray.size_append];show(1+s.size)+j/10<=m;omega,HT.out,by have h3:=h0.size;go_grown⟩
    case measure=>simp[intOf];omega
theorem Qi2(m:Nat)(w:i)(h0:1<=m)(hm:m<=1000000000000000):u prog 116 #[c d (-(m:Int))] w fun e w'=>e= f (a (itB (-(m:Int))))/\g w.heap.size w w':=by
 have HD:Hid ((⟨#[45]⟩:ByteArray)++itB (m:Int)=itB (-(m:Int))):=Quq m h0;have hz:=KG (m:=m) (by omega);obtain⟨t,HT⟩: ∃t,Hid (itB (m:Int)=t):=⟨_,rfl⟩;rw[HT.out]at hz;have hs1: ¬9223372036854775807<1+t.size:=by omega
 have hn0: -(m:Int)<0:=by omega
 have hn1:(0:Int)<(m:Int):=by omega
 have hn2:(0:Nat)<m:=by omega
 have hn3: - -(m:Int)=(m:Int):=by omega
 go_enter func116,ntmps116
 go_wp2_with (first
  | (go_at_call 116;refine(BF m _ hm).mono ?_;rintro e w1 ⟨rfl,hb⟩;rw[HT.out]))
 go_ret;exact⟨by rw[<-HD.out,HT.out];rfl,hb⟩
theorem Jq(n:Int)(w:i)(h:Ym n=true):u prog 116 #[c d n] w fun e w'=>e= f (a (itB n))/\g w.heap.size w w':=by
 have hb:=Qa6 h;by_cases hn:n<0
 ·obtain⟨m,rfl⟩: ∃m:Nat,n= -(m:Int):=⟨n.natAbs,by omega⟩;exact Qi2 m w (by omega) (by omega)
 ·obtain⟨m,rfl⟩: ∃m:Nat,n=(m:Int):=⟨n.toNat,by omega⟩;exact BF m w (by omega)
theorem Qbw(n:Int)(w:i)(h:n=0\/n=1):u prog 137 #[c d n] w fun e w'=>e= f (a (trT n))/\w'=w:=by
 rcases h with rfl | rfl
 all_goals
  go_enter func137,ntmps137;go_wp2
  go_ret;exact⟨rfl,rfl⟩
theorem Qti(k n:Int)(s:ByteArray)(w:i)(hs:Hid ((s:ByteArray).size<=B))(ho:okV k n s=false):u prog 100 #[D #[c d k,c d n,a s]] w fun e w'=>e= f (a (⟨#[]⟩))/\g w.heap.size w w':=by
 have h0:Hid (okV k n s=false):=ho;clear ho;go_enter func100,ntmps100
 go_wp2_with (first
  | (go_at_call 136;refine(Qq _ _ _ _ hs.out).mono ?_;rintro e w1 ⟨rfl,hb⟩;rw[h0.out];obtain⟨hc,hf,hC,hF,hz,hk,l0⟩:=bk1 (w:=w) hb;clear hb))
 go_ret;exact⟨rfl,by go_grown⟩
theorem Qh3(w:i)(hs:Hid ((⟨#[]⟩:ByteArray).size<=B))(ho:okV 0 0 ⟨#[]⟩=true):u prog 100 #[D #[c d 0,c d 0,a ⟨#[]⟩]] w fun e w'=>e= f (a (⟨#[]⟩))/\g w.heap.size w w':=by
 have h0:Hid (okV 0 0 ⟨#[]⟩=true):=ho;clear ho;go_enter func100,ntmps100
 go_wp2_with (first
  | (go_at_call 136;refine(Qq _ _ _ _ hs.out).mono ?_;rintro e w1 ⟨rfl,hb⟩;rw[h0.out];obtain⟨hc,hf,hC,hF,hz,hk,l0⟩:=bk1 (w:=w) hb;clear hb))
 go_ret;exact⟨rfl,by go_grown⟩
theorem Qpe(n:Int)(hr:Hid (Ym n=true))(w:i)(hs:Hid ((⟨#[]⟩:ByteArray).size<=B))(ho:okV 1 n ⟨#[]⟩=true):u prog 100 #[D #[c d 1,c d n,a ⟨#[]⟩]] w fun e w'=>e= f (a (itB n))/\g w.heap.size w w':=by
 have h0:Hid (okV 1 n ⟨#[]⟩=true):=ho;clear ho;go_enter func100,ntmps100
 go_wp2_with (first
  | (go_at_call 136;refine(Qq _ _ _ _ hs.out).mono ?_;rintro e w1 ⟨rfl,hb⟩;rw[h0.out];obtain⟨hc,hf,hC,hF,hz,hk,l0⟩:=bk1 (w:=w) hb;clear hb)
  | (go_at_call 116;refine(Jq n _ hr.out).mono ?_;rintro e w2 ⟨rfl,hb⟩;obtain⟨hc2,hf2,hC2,hF2,hz2,hk2,l02⟩:=bk1 (w:=w) hb;clear hb))
 go_ret;exact⟨rfl,by go_grown⟩
theorem Qkh(s:ByteArray)(h2:s.size<=200)(w:i)(hs:Hid ((s:ByteArray).size<=B))(ho:okV 2 0 s=true):u prog 100 #[D #[c d 2,c d 0,a s]] w fun e w'=>e= f (a ((⟨#[39]⟩:ByteArray)++s))/\g w.heap.size w w':=by
 have h0:Hid (okV 2 0 s=true):=ho;clear ho;have hs1: ¬9223372036854775807<1+s.size:=by omega
 go_enter func100,ntmps100
 go_wp2_with (first
  | (go_at_call 136;refine(Qq _ _ _ _ hs.out).mono ?_;rintro e w1 ⟨rfl,hb⟩;rw[h0.out];obtain⟨hc,hf,hC,hF,hz,hk,l0⟩:=bk1 (w:=w) hb;clear hb))
 go_ret;exact⟨rfl,by go_grown⟩
theorem Qh2(n:Int)(hr:Hid (n=0\/n=1))(w:i)(hs:Hid ((⟨#[]⟩:ByteArray).size<=B))(ho:okV 3 n ⟨#[]⟩=true):u prog 100 #[D #[c d 3,c d n,a ⟨#[]⟩]] w fun e w'=>e= f (a (trT n))/\g w.heap.size w w':=by
 have h0:Hid (okV 3 n ⟨#[]⟩=true):=ho;clear ho;go_enter func100,ntmps100
 go_wp2_with (first
  | (go_at_call 136;refine(Qq _ _ _ _ hs.out).mono ?_;rintro e w1 ⟨rfl,hb⟩;rw[h0.out];obtain⟨hc,hf,hC,hF,hz,hk,l0⟩:=bk1 (w:=w) hb;clear hb)
  | (go_at_call 137;refine(Qbw n _ hr.out).mono ?_;rintro e w2 ⟨rfl,hw⟩;subst w2))
 go_ret;exact⟨rfl,by go_grown⟩
theorem Qki(n:Int)(h1:1<=n)(h5:n<=5)(w:i)(hs:Hid ((⟨#[]⟩:ByteArray).size<=B))(ho:okV 4 n ⟨#[]⟩=true):u prog 100 #[D #[c d 4,c d n,a ⟨#[]⟩]] w fun e w'=>e= f (a (erT n))/\g w.heap.size w w':=by
 have h0:Hid (okV 4 n ⟨#[]⟩=true):=ho;clear ho;go_enter func100,ntmps100
 go_wp2_with (first
  | (go_at_call 136;refine(Qq _ _ _ _ hs.out).mono ?_;rintro e w1 ⟨rfl,hb⟩;rw[h0.out];obtain⟨hc,hf,hC,hF,hz,hk,l0⟩:=bk1 (w:=w) hb;clear hb)
  | (go_at_call 138;refine(Zo n _ (by omega) (by omega)).mono ?_;rintro e w2 ⟨rfl,hb⟩;obtain⟨hc2,hf2,hC2,hF2,hz2,hk2,l02⟩:=bk1 (w:=w) hb;clear hb))
 go_ret;exact⟨rfl,by go_grown⟩
theorem YQ(k n:Int)(s:ByteArray)(w:i)(hs:s.size<=B):u prog 100 #[D #[c d k,c d n,a s]] w fun e w'=>e= f (a (txV k n s))/\g w.heap.size w w':=by
 cases ho:okV k n s
 ·rw[show txV k n s=⟨#[]⟩ by unfold txV;rw[ho];rfl];exact Qti k n s w hs ho
 ·rw[show txV k n s=txB k n s by unfold txV;rw[ho];rfl];rcases Yr ho with⟨rfl,rfl,rfl⟩ | ⟨rfl,hr,rfl⟩ | ⟨rfl,rfl,hr⟩ | ⟨rfl,hr,rfl⟩ | ⟨rfl,h1,h5,rfl⟩
  ·exact Qh3 w hs ho
  ·exact Qpe n hr w hs ho
  ·exact Qkh s (Hq hr) w hs ho
  ·exact Qh2 n hr w hs ho
  ·exact Qki n h1 h5 w hs ho
end Go.Proofs.YtomadadmakdkgaaGreatDoor
