import Derived.Test.YtbdhinckiccniaaGreatDoorGah
import Derived.Laws.BytesString
set_option linter.unusedSimpArgs false
set_option linter.unusedVariables false
set_option maxHeartbeats 2000000
set_option maxRecDepth 100000
namespace Go.Proofs.YtbdhinckiccniaaGreatDoor
open Go.RowKit
theorem Qtl (W:World) (b:Nat) (v:Int) (hv:W.cell? ⟨b,0,none⟩=some (.int .u8 v)):
  (convert 22 9 (.slice (some ⟨b,0,none⟩) 1 1)).run Tryz.prog W= .ok (.string ⟨#[UInt8.ofNat v.toNat]⟩) W:=by
 rw [run_convert_bytes_string W 22 9 5 (some ⟨b,0,none⟩) 1 1 Tryz.underlying22 Tryz.underlying5 Tryz.underlying9]
 have hl:=run_loadCells_list (P:=Tryz.prog) W ⟨b,0,none⟩ [.int .u8 v] (fun j x hj=>by
  match j,hj with
  | 0,hj=>simp at hj;simpa [Addr.add,←hj]using hv)
 rw [run_bytesToString W ⟨b,0,none⟩ 1 1 [v] (by simpa using hl)];rfl
theorem Qtk (W:World) (v:Int):(convert 22 9 (.slice (some ⟨W.heap.size,0,none⟩) 1 1)).run Tryz.prog (W.alloc (.cells #[.int .u8 v] 5))=
  .ok (.string ⟨#[UInt8.ofNat v.toNat]⟩) (W.alloc (.cells #[.int .u8 v] 5)):=Qtl _ _ v (by simp)
def VarT (W : World) : Prop := Lib.TabIs Tryz.prog W "internal/strconv.uint64pow10" .u64 Lib.pow10Tab
theorem VarT.below {W w':World} (h:VarT W) (hb:Below W.heap.size W w'):VarT w':=XW h hb
def itB (n:Int):ByteArray:=⟨(Lib.itoa n).toArray⟩
def txB (k n:Int) (s:ByteArray):ByteArray:=if k=1 then itB n else if k=2 then(⟨#[39]⟩:ByteArray)++s else if k=3 then trT n else if k=4 then erT n else⟨#[]⟩
def txV (k n:Int) (s:ByteArray):ByteArray:=if okV k n s then txB k n s else⟨#[]⟩
theorem Qai (n:Int) (w:World) (h0: -9223372036854775808≤n) (h1:n≤9223372036854775807) (hv:VarT w):Calls Tryz.prog 360 #[.int .i64 n] w fun e w'=>
  e= .returned (.string (itB n))∧Below w.heap.size w w':=by
 have HV:Hid (VarT w):=hv;clear hv;go_enter Tryz.func360,Tryz.ntmps360;go_wp2_with fail
 refine(Tryz.strconv_FormatInt_10 n h0 h1 _ HV.out).mono ?_;rintro e w2 ⟨rfl,k,os,rfl⟩;have hb2:=Lib.below_grow w.heap.size w (Nat.le_refl _) k os;go_wp2_with fail
 go_ret;exact⟨rfl,hb2⟩
theorem KO (s:ByteArray) (w:World) (hs:s.size≤1000):Calls Tryz.prog 204 #[.string s] w fun e w'=>
  e= .returned (.string ((⟨#[39]⟩:ByteArray)++s))∧w'=w:=by
 have hs1: ¬9223372036854775807<1+s.size:=by omega
 go_enter Tryz.func204,Tryz.ntmps204;go_wp2_with fail
 go_ret;exact⟨rfl,rfl⟩
theorem Qc0 (w:World):Calls Tryz.prog 365 #[.agg #[]] w fun e w'=>
  e= .returned (.string ⟨#[]⟩)∧Below w.heap.size w w':=by
 go_enter Tryz.func365,Tryz.ntmps365;go_wp2
 go_ret;exact⟨rfl,by go_grown⟩
theorem Qaj (w:World):Calls Tryz.prog 362 #[.agg #[]] w fun e w'=>
  e= .returned (.string ⟨#[]⟩)∧Below w.heap.size w w':=by
 go_enter Tryz.func362,Tryz.ntmps362;go_wp2
 go_ret;exact⟨rfl,by go_grown⟩
theorem XS {k n:Int} {s:ByteArray} (h:okV k n s=true):(k=0∧n=0∧s=⟨#[]⟩)∨(k=1∧ZP n=true∧s=⟨#[]⟩)∨(k=2∧n=0∧QE s=true)∨(k=3∧(n=0∨n=1)∧s=⟨#[]⟩)∨(k=4∧1≤n∧n≤5∧s=⟨#[]⟩):=by
 unfold okV at h;by_cases h0:k=0
 ·rw [if_pos h0,Bool.and_eq_true]at h;exact Or.inl ⟨h0,of_decide_eq_true h.1,Jf h.2⟩
 by_cases h1:k=1
 ·rw [if_neg h0,if_pos h1,Bool.and_eq_true]at h;exact Or.inr (Or.inl ⟨h1,h.1,Jf h.2⟩)
 by_cases h2:k=2
 ·rw [if_neg h0,if_neg h1,if_pos h2,Bool.and_eq_true]at h;exact Or.inr (Or.inr (Or.inl ⟨h2,of_decide_eq_true h.1,h.2⟩))
 by_cases h3:k=3
 ·rw [if_neg h0,if_neg h1,if_neg h2,if_pos h3,Bool.and_eq_true]at h;exact Or.inr (Or.inr (Or.inr (Or.inl ⟨h3,of_decide_eq_true h.1,Jf h.2⟩)))
 by_cases h4:k=4
 ·rw [if_neg h0,if_neg h1,if_neg h2,if_neg h3,if_pos h4,Bool.and_eq_true]at h;have:=of_decide_eq_true h.1;exact Or.inr (Or.inr (Or.inr (Or.inr ⟨h4,this.1,this.2,Jf h.2⟩)))
 ·rw [if_neg h0,if_neg h1,if_neg h2,if_neg h3,if_neg h4]at h;cases h
theorem Qer {n:Int} (h:ZP n=true): -1000000000000000≤n∧n≤1000000000000000:=of_decide_eq_true h
theorem VG {s:ByteArray} (h:QE s=true):s.size≤200:=by
 unfold QE at h;rw [Bool.and_eq_true]at h;exact of_decide_eq_true h.1
theorem Qs2 (k n:Int) (s:ByteArray) (w:World) (hv:VarT w) (hs:Hid (s.size≤maxLen)) (hm:mOf k n s=mNo):Calls Tryz.prog 202 #[.agg #[.int .i64 k,.int .i64 n,.string s]] w fun e w'=>e= .returned (.string (⟨#[]⟩))∧Below w.heap.size w w':=by
 have HV:Hid (VarT w):=hv;have HM:Hid (mOf k n s=mNo):=hm;clear hv hm;go_enter Tryz.func202,Tryz.ntmps202
 go_wp2_with (first
  | (go_at_call 245;refine(Qv _ _ _ _ hs.out).mono ?_;rintro e w1 ⟨rfl,hb⟩;rw [HM.out];unfold mNo;have K1:Hid (Below w.heap.size w w1):=(Qc (by go_grown) hb);clear hb)
  | (go_at_call 362;refine(Qaj _).mono ?_;rintro e w2 ⟨rfl,hb⟩;have K2:Hid (Below w.heap.size w w2):=(Qc K1.out hb);clear hb))
 go_ret;exact⟨rfl,K2.out⟩
theorem Qic (w:World) (hv:VarT w) (hs:Hid ((⟨#[]⟩:ByteArray).size≤maxLen)) (hm:mOf 0 0 ⟨#[]⟩= .iface 287 (.agg #[])):Calls Tryz.prog 202 #[.agg #[.int .i64 0,.int .i64 0,.string ⟨#[]⟩]] w fun e w'=>e= .returned (.string (⟨#[]⟩))∧Below w.heap.size w w':=by
 have HV:Hid (VarT w):=hv;have HM:Hid (mOf 0 0 ⟨#[]⟩= .iface 287 (.agg #[])):=hm;clear hv hm;go_enter Tryz.func202,Tryz.ntmps202
 go_wp2_with (first
  | (go_at_call 245;refine(Qv _ _ _ _ hs.out).mono ?_;rintro e w1 ⟨rfl,hb⟩;rw [HM.out];have K1:Hid (Below w.heap.size w w1):=(Qc (by go_grown) hb);clear hb)
  | (go_at_call 365;refine(Qc0 _).mono ?_;rintro e w2 ⟨rfl,hb⟩;have K2:Hid (Below w.heap.size w w2):=(Qc K1.out hb);clear hb))
 go_ret;exact⟨rfl,K2.out⟩
theorem Qqc (n:Int) (h0: -9223372036854775808≤n) (h1:n≤9223372036854775807) (w:World) (hv:VarT w) (hs:Hid ((⟨#[]⟩:ByteArray).size≤maxLen)) (hm:mOf 1 n ⟨#[]⟩= .iface 253 (.int .i64 n)):Calls Tryz.prog 202 #[.agg #[.int .i64 1,.int .i64 n,.string ⟨#[]⟩]] w fun e w'=>e= .returned (.string (itB n))∧Below w.heap.size w w':=by
 have HV:Hid (VarT w):=hv;have HM:Hid (mOf 1 n ⟨#[]⟩= .iface 253 (.int .i64 n)):=hm;clear hv hm;go_enter Tryz.func202,Tryz.ntmps202
 go_wp2_with (first
  | (go_at_call 245;refine(Qv _ _ _ _ hs.out).mono ?_;rintro e w1 ⟨rfl,hb⟩;rw [HM.out];have K1:Hid (Below w.heap.size w w1):=(Qc (by go_grown) hb);clear hb)
  | (go_at_call 360;refine(Qai n _ h0 h1 (HV.out.below K1.out)).mono ?_;rintro e w2 ⟨rfl,hb⟩;have K2:Hid (Below w.heap.size w w2):=(Qc K1.out hb);clear hb))
 go_ret;exact⟨rfl,K2.out⟩
theorem Qks (s:ByteArray) (h2:s.size≤1000) (w:World) (hv:VarT w) (hs:Hid (s.size≤maxLen)) (hm:mOf 2 0 s= .iface 219 (.string s)):Calls Tryz.prog 202 #[.agg #[.int .i64 2,.int .i64 0,.string s]] w fun e w'=>e= .returned (.string ((⟨#[39]⟩:ByteArray)++s))∧Below w.heap.size w w':=by
 have HV:Hid (VarT w):=hv;have HM:Hid (mOf 2 0 s= .iface 219 (.string s)):=hm;clear hv hm;go_enter Tryz.func202,Tryz.ntmps202
 go_wp2_with (first
  | (go_at_call 245;refine(Qv _ _ _ _ hs.out).mono ?_;rintro e w1 ⟨rfl,hb⟩;rw [HM.out];have K1:Hid (Below w.heap.size w w1):=(Qc (by go_grown) hb);clear hb)
  | (go_at_call 204;refine(KO s _ h2).mono ?_;rintro e w2 ⟨rfl,hw⟩;subst w2;have K2:Hid (Below w.heap.size w w1):=K1.out))
 go_ret;exact⟨rfl,K2.out⟩
theorem Qib (n:Int) (w:World) (hv:VarT w) (hs:Hid ((⟨#[]⟩:ByteArray).size≤maxLen)) (hm:mOf 3 n ⟨#[]⟩= .iface 288 (.int .i64 n)):Calls Tryz.prog 202 #[.agg #[.int .i64 3,.int .i64 n,.string ⟨#[]⟩]] w fun e w'=>e= .returned (.string (trT n))∧Below w.heap.size w w':=by
 have HV:Hid (VarT w):=hv;have HM:Hid (mOf 3 n ⟨#[]⟩= .iface 288 (.int .i64 n)):=hm;clear hv hm;go_enter Tryz.func202,Tryz.ntmps202
 go_wp2_with (first
  | (go_at_call 245;refine(Qv _ _ _ _ hs.out).mono ?_;rintro e w1 ⟨rfl,hb⟩;rw [HM.out];have K1:Hid (Below w.heap.size w w1):=(Qc (by go_grown) hb);clear hb)
  | (go_at_call 283;refine(Qe n _).mono ?_;rintro e w2 ⟨rfl,hw⟩;subst w2;have K2:Hid (Below w.heap.size w w1):=K1.out))
 go_ret;exact⟨rfl,K2.out⟩
theorem Qkt (n:Int) (w:World) (hv:VarT w) (hs:Hid ((⟨#[]⟩:ByteArray).size≤maxLen)) (hm:mOf 4 n ⟨#[]⟩= .iface 289 (.int .i64 n)):Calls Tryz.prog 202 #[.agg #[.int .i64 4,.int .i64 n,.string ⟨#[]⟩]] w fun e w'=>e= .returned (.string (erT n))∧Below w.heap.size w w':=by
 have HV:Hid (VarT w):=hv;have HM:Hid (mOf 4 n ⟨#[]⟩= .iface 289 (.int .i64 n)):=hm;clear hv hm;go_enter Tryz.func202,Tryz.ntmps202
 go_wp2_with (first
  | (go_at_call 245;refine(Qv _ _ _ _ hs.out).mono ?_;rintro e w1 ⟨rfl,hb⟩;rw [HM.out];have K1:Hid (Below w.heap.size w w1):=(Qc (by go_grown) hb);clear hb)
  | (go_at_call 284;refine(Qd n _).mono ?_;rintro e w2 ⟨rfl,hw⟩;subst w2;have K2:Hid (Below w.heap.size w w1):=K1.out))
 go_ret;exact⟨rfl,K2.out⟩
theorem Qpv {k n:Int} {s:ByteArray} (h:okV k n s=true):mOf k n s=mBK k n s:=by unfold mOf;rw [h];rfl
theorem JS (k n:Int) (s:ByteArray) (w:World) (hv:VarT w) (hs:s.size≤maxLen):Calls Tryz.prog 202 #[.agg #[.int .i64 k,.int .i64 n,.string s]] w fun e w'=>e= .returned (.string (txV k n s))∧Below w.heap.size w w':=by
 cases ho:okV k n s
 ·rw [show txV k n s=⟨#[]⟩ by unfold txV;rw [ho];rfl];exact Qs2 k n s w hv hs (by unfold mOf;rw [ho];rfl)
 ·rw [show txV k n s=txB k n s by unfold txV;rw [ho];rfl];have hm:=Qpv ho;rcases XS ho with⟨rfl,rfl,rfl⟩ | ⟨rfl,hr,rfl⟩ | ⟨rfl,rfl,hr⟩ | ⟨rfl,hr,rfl⟩ | ⟨rfl,h1,h5,rfl⟩
  ·exact Qic w hv hs hm
  ·have:=Qer hr;exact Qqc n (by omega) (by omega) w hv hs hm
  ·have:=VG hr;exact Qks s (by omega) w hv hs hm
  ·exact Qib n w hv hs hm
  ·exact Qkt n w hv hs hm
def DI (m:Nat) (s:ByteArray):ByteArray:=if h:m<10 then(⟨#[48+UInt8.ofNat m]⟩:ByteArray)++s else DI (m/10) ((⟨#[48+UInt8.ofNat (m%10)]⟩:ByteArray)++s)
 termination_by m
 decreasing_by omega
theorem Qcm {m:Nat} (h:m<10) (s:ByteArray):DI m s=(⟨#[48+UInt8.ofNat m]⟩:ByteArray)++s:=by rw [DI,dif_pos h]
theorem DH {m:Nat} (h: ¬m<10) (s:ByteArray):DI m s=DI (m/10) ((⟨#[48+UInt8.ofNat (m%10)]⟩:ByteArray)++s):=by rw [DI,dif_neg h]
theorem Qni (l r:List UInt8):(⟨l.toArray⟩:ByteArray)++(⟨r.toArray⟩:ByteArray)=⟨(l++r).toArray⟩:=by apply ByteArray.ext;simp
theorem Ql2 (x y z:ByteArray):(x++y)++z=x++(y++z):=by apply ByteArray.ext;simp [Array.append_assoc]
theorem Qgp (m:Nat) (h:m<10):(48:UInt8)+UInt8.ofNat m=UInt8.ofNat (48+m):=by
 apply UInt8.toNat_inj.1;simp [UInt8.toNat_add]
theorem Qqz (m:Nat): ∀s,DI m s=(⟨(Lib.decDigits m).toArray⟩:ByteArray)++s:=by
 induction m using Nat.strongRecOn with
 | ind m ih=>
  intro s;by_cases h:m<10
  ·rw [Qcm h,Lib.decDigits_one h,Qgp m h]
  ·rw [DH h,ih (m/10) (by omega),Lib.decDigits.eq_1 m,dif_neg h,←Qni,Ql2,Qgp (m%10) (by omega)]
theorem Qly (x:ByteArray):x++(⟨#[]⟩:ByteArray)=x:=by apply ByteArray.ext;simp
theorem Qqy (m:Nat):DI m ⟨#[]⟩=itB (m:Int):=by rw [Qqz,Qly,itB,Lib.itoa_nonneg]
theorem Qs3 (m:Nat) (h:1≤m):(⟨#[45]⟩:ByteArray)++itB (m:Int)=itB (-(m:Int)):=by
 unfold itB;rw [Lib.itoa_neg m h,Lib.itoa_nonneg];exact Qni [45] _
theorem Jd {m:Nat} (h:m<10000000000000000):(itB (m:Int)).size≤16:=by
 have h1:=Ex 15 m (by simpa using h);unfold itB;rw [Lib.itoa_nonneg];exact h1
theorem Ds (m:Nat) (w:World) (hm:m≤1000000000000000):Calls Tryz.prog 67 #[.int .i64 m] w fun e w'=>e= .returned (.string (itB (m:Int)))∧Below w.heap.size w w':=by
 have HD:Hid (DI m ⟨#[]⟩=itB (m:Int)):=Qqy m;have hn0: ¬(m:Int)<0:=by omega
 go_enter Tryz.func67,Tryz.ntmps67;go_wp2_with fail
 go_loopw [0,3] (fun q o wr=> ∃(j:Nat) (s:ByteArray),q= .int .i64 j∧o= .string s∧s.size+j≤m∧DI j s=itB (m:Int)∧Below w.heap.size w wr) (fun q _ _=>(intOf q).toNat)
 case atStart=>exact⟨m,⟨#[]⟩,rfl,rfl,by show 0+m≤m;omega,HD.out,Below.refl _ _⟩
 case round=>
  clear HD;obtain⟨j,s,rfl,rfl,hsm,hgo,hbel⟩:=hrel;have HG:Hid (DI j s=itB (m:Int)):=hgo;clear hgo;have hcv:= @Qtk;have hs1: ¬9223372036854775807<1+s.size:=by omega
  by_cases hlo:j<10
  ·have hj: ¬10≤(j:Int):=by omega
   have hj':(j:Int)<10:=by omega
   have HF:Hid ((⟨#[48+UInt8.ofNat j]⟩:ByteArray)++s=itB (m:Int)):=by show _=_;rw [←HG.out,Qcm hlo]
   go_wp2_with fail
   go_ret;exact⟨by rw [←HF.out];rfl,by have hbs:=hbel.size;go_grown⟩
  ·have hj:10≤(j:Int):=by omega
   have HS:=HG.out;rw [DH hlo]at HS;have HT:Hid (DI (j/10) ((⟨#[48+UInt8.ofNat (j%10)]⟩:ByteArray)++s)=itB (m:Int)):=HS;clear HS HG;go_wp2_with fail
   all_goals
    go_roundw
    case rel=>exact⟨j/10,_,by congr 1,rfl,by rw [ByteArray.size_append];show(1+s.size)+j/10≤m;omega,HT.out,by have hbs:=hbel.size;go_grown⟩
    case measure=>simp [intOf];omega
theorem Qh9 (m:Nat) (w:World) (h0:1≤m) (hm:m≤1000000000000000):Calls Tryz.prog 67 #[.int .i64 (-(m:Int))] w fun e w'=>e= .returned (.string (itB (-(m:Int))))∧Below w.heap.size w w':=by
 have HD:Hid ((⟨#[45]⟩:ByteArray)++itB (m:Int)=itB (-(m:Int))):=Qs3 m h0;have hz:=Jd (m:=m) (by omega);obtain⟨t,HT⟩: ∃t,Hid (itB (m:Int)=t):=⟨_,rfl⟩;rw [HT.out]at hz;have hs1: ¬9223372036854775807<1+t.size:=by omega
 have hn0: -(m:Int)<0:=by omega
 have hn1:(0:Int)<(m:Int):=by omega
 have hn2:(0:Nat)<m:=by omega
 have hn3: - -(m:Int)=(m:Int):=by omega
 go_enter Tryz.func67,Tryz.ntmps67
 go_wp2_with (first
  | (go_at_call 67;refine(Ds m _ hm).mono ?_;rintro e w1 ⟨rfl,hb⟩;rw [HT.out]))
 go_ret;exact⟨by rw [←HD.out,HT.out];rfl,hb⟩
theorem YN (n:Int) (w:World) (h:ZP n=true):Calls Tryz.prog 67 #[.int .i64 n] w fun e w'=>e= .returned (.string (itB n))∧Below w.heap.size w w':=by
 have hb:=Qer h;by_cases hn:n<0
 ·obtain⟨m,rfl⟩: ∃m:Nat,n= -(m:Int):=⟨n.natAbs,by omega⟩;exact Qh9 m w (by omega) (by omega)
 ·obtain⟨m,rfl⟩: ∃m:Nat,n=(m:Int):=⟨n.toNat,by omega⟩;exact Ds m w (by omega)
theorem Qan (n:Int) (w:World) (h:n=0∨n=1):Calls Tryz.prog 172 #[.int .i64 n] w fun e w'=>e= .returned (.string (trT n))∧w'=w:=by
 rcases h with rfl | rfl
 all_goals
  go_enter Tryz.func172,Tryz.ntmps172;go_wp2
  go_ret;exact⟨rfl,rfl⟩
theorem Qr3 (k n:Int) (s:ByteArray) (w:World) (hs:Hid ((s:ByteArray).size≤maxLen)) (ho:okV k n s=false):Calls Tryz.prog 119 #[.agg #[.int .i64 k,.int .i64 n,.string s]] w fun e w'=>e= .returned (.string (⟨#[]⟩))∧Below w.heap.size w w':=by
 have HOK:Hid (okV k n s=false):=ho;clear ho;go_enter Tryz.func119,Tryz.ntmps119
 go_wp2_with (first
  | (go_at_call 171;refine(Ql _ _ _ _ hs.out).mono ?_;rintro e w1 ⟨rfl,hb⟩;rw [HOK.out];obtain⟨hc,hf,hC,hF,hz,hk,l0⟩:=bk1 (w:=w) (by go_grown) (by go_size) hb;clear hb))
 go_ret;exact⟨rfl,by go_grown⟩
theorem Qhc (w:World) (hs:Hid ((⟨#[]⟩:ByteArray).size≤maxLen)) (ho:okV 0 0 ⟨#[]⟩=true):Calls Tryz.prog 119 #[.agg #[.int .i64 0,.int .i64 0,.string ⟨#[]⟩]] w fun e w'=>e= .returned (.string (⟨#[]⟩))∧Below w.heap.size w w':=by
 have HOK:Hid (okV 0 0 ⟨#[]⟩=true):=ho;clear ho;go_enter Tryz.func119,Tryz.ntmps119
 go_wp2_with (first
  | (go_at_call 171;refine(Ql _ _ _ _ hs.out).mono ?_;rintro e w1 ⟨rfl,hb⟩;rw [HOK.out];obtain⟨hc,hf,hC,hF,hz,hk,l0⟩:=bk1 (w:=w) (by go_grown) (by go_size) hb;clear hb))
 go_ret;exact⟨rfl,by go_grown⟩
theorem Qoa (n:Int) (hr:Hid (ZP n=true)) (w:World) (hs:Hid ((⟨#[]⟩:ByteArray).size≤maxLen)) (ho:okV 1 n ⟨#[]⟩=true):Calls Tryz.prog 119 #[.agg #[.int .i64 1,.int .i64 n,.string ⟨#[]⟩]] w fun e w'=>e= .returned (.string (itB n))∧Below w.heap.size w w':=by
 have HOK:Hid (okV 1 n ⟨#[]⟩=true):=ho;clear ho;go_enter Tryz.func119,Tryz.ntmps119
 go_wp2_with (first
  | (go_at_call 171;refine(Ql _ _ _ _ hs.out).mono ?_;rintro e w1 ⟨rfl,hb⟩;rw [HOK.out];obtain⟨hc,hf,hC,hF,hz,hk,l0⟩:=bk1 (w:=w) (by go_grown) (by go_size) hb;clear hb)
  | (go_at_call 67;refine(YN n _ hr.out).mono ?_;rintro e w2 ⟨rfl,hb⟩;obtain⟨hc2,hf2,hC2,hF2,hz2,hk2,l02⟩:=bk1 (w:=w) (by go_grown) (by go_size) hb;clear hb))
 go_ret;exact⟨rfl,by go_grown⟩
theorem Qji (s:ByteArray) (h2:s.size≤200) (w:World) (hs:Hid ((s:ByteArray).size≤maxLen)) (ho:okV 2 0 s=true):Calls Tryz.prog 119 #[.agg #[.int .i64 2,.int .i64 0,.string s]] w fun e w'=>e= .returned (.string ((⟨#[39]⟩:ByteArray)++s))∧Below w.heap.size w w':=by
 have HOK:Hid (okV 2 0 s=true):=ho;clear ho;have hs1: ¬9223372036854775807<1+s.size:=by omega
 go_enter Tryz.func119,Tryz.ntmps119
 go_wp2_with (first
  | (go_at_call 171;refine(Ql _ _ _ _ hs.out).mono ?_;rintro e w1 ⟨rfl,hb⟩;rw [HOK.out];obtain⟨hc,hf,hC,hF,hz,hk,l0⟩:=bk1 (w:=w) (by go_grown) (by go_size) hb;clear hb))
 go_ret;exact⟨rfl,by go_grown⟩
theorem Qhb (n:Int) (hr:Hid (n=0∨n=1)) (w:World) (hs:Hid ((⟨#[]⟩:ByteArray).size≤maxLen)) (ho:okV 3 n ⟨#[]⟩=true):Calls Tryz.prog 119 #[.agg #[.int .i64 3,.int .i64 n,.string ⟨#[]⟩]] w fun e w'=>e= .returned (.string (trT n))∧Below w.heap.size w w':=by
 have HOK:Hid (okV 3 n ⟨#[]⟩=true):=ho;clear ho;go_enter Tryz.func119,Tryz.ntmps119
 go_wp2_with (first
  | (go_at_call 171;refine(Ql _ _ _ _ hs.out).mono ?_;rintro e w1 ⟨rfl,hb⟩;rw [HOK.out];obtain⟨hc,hf,hC,hF,hz,hk,l0⟩:=bk1 (w:=w) (by go_grown) (by go_size) hb;clear hb)
  | (go_at_call 172;refine(Qan n _ hr.out).mono ?_;rintro e w2 ⟨rfl,hw⟩;subst w2))
 go_ret;exact⟨rfl,by go_grown⟩
theorem Qjj (n:Int) (h1:1≤n) (h5:n≤5) (w:World) (hs:Hid ((⟨#[]⟩:ByteArray).size≤maxLen)) (ho:okV 4 n ⟨#[]⟩=true):Calls Tryz.prog 119 #[.agg #[.int .i64 4,.int .i64 n,.string ⟨#[]⟩]] w fun e w'=>e= .returned (.string (erT n))∧Below w.heap.size w w':=by
 have HOK:Hid (okV 4 n ⟨#[]⟩=true):=ho;clear ho;go_enter Tryz.func119,Tryz.ntmps119
 go_wp2_with (first
  | (go_at_call 171;refine(Ql _ _ _ _ hs.out).mono ?_;rintro e w1 ⟨rfl,hb⟩;rw [HOK.out];obtain⟨hc,hf,hC,hF,hz,hk,l0⟩:=bk1 (w:=w) (by go_grown) (by go_size) hb;clear hb)
  | (go_at_call 173;refine(QZ n _ (by omega) (by omega)).mono ?_;rintro e w2 ⟨rfl,hb⟩;obtain⟨hc2,hf2,hC2,hF2,hz2,hk2,l02⟩:=bk1 (w:=w) (by go_grown) (by go_size) hb;clear hb))
 go_ret;exact⟨rfl,by go_grown⟩
theorem Ym (k n:Int) (s:ByteArray) (w:World) (hs:s.size≤maxLen):Calls Tryz.prog 119 #[.agg #[.int .i64 k,.int .i64 n,.string s]] w fun e w'=>e= .returned (.string (txV k n s))∧Below w.heap.size w w':=by
 cases ho:okV k n s
 ·rw [show txV k n s=⟨#[]⟩ by unfold txV;rw [ho];rfl];exact Qr3 k n s w hs ho
 ·rw [show txV k n s=txB k n s by unfold txV;rw [ho];rfl];rcases XS ho with⟨rfl,rfl,rfl⟩ | ⟨rfl,hr,rfl⟩ | ⟨rfl,rfl,hr⟩ | ⟨rfl,hr,rfl⟩ | ⟨rfl,h1,h5,rfl⟩
  ·exact Qhc w hs ho
  ·exact Qoa n hr w hs ho
  ·exact Qji s (VG hr) w hs ho
  ·exact Qhb n hr w hs ho
  ·exact Qjj n h1 h5 w hs ho
end Go.Proofs.YtbdhinckiccniaaGreatDoor
