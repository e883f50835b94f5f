import Derived.Test.YtomadadmakdkgaaGreatDoorGac
import Derived.Laws.StructEq
import Derived.Deep.RegionWith
import Derived.RegionTactic
import Derived.Deep.RegionHeld3
open Go.Proofs.Tryz
open Go.Value renaming int → c, string → f, agg → t, bool → x
open Go.IntKind renaming i64 → d
open Go.Ending renaming returned → g
open Bool renaming eq_iff_iff → i, and_eq_true → o
open Go renaming World → j, Calls → m, maxLen → u
open Go.Obj renaming cells → p
open Go.RowKit renaming Below → r
set_option linter.unusedSimpArgs false
set_option linter.unusedVariables false
set_option maxHeartbeats 1000000
namespace Go.Proofs.YtomadadmakdkgaaGreatDoor
open Go.RowKit
variable {s:ByteArray}
theorem Mx(n:Int)(w:j)(hR:Ym n=false):m prog 332 #[c d n] w fun e w'=>e= g (x false)/\w'=w:=
 (Yk n w).mono fun _ _ h=>⟨by rw[h.1,hR],h.2⟩
theorem Nf(n:Int)(w:j)(hR:Yv n=false):m prog 340 #[c d n] w fun e w'=>e= g (x false)/\w'=w:=
 (YI n w).mono fun _ _ h=>⟨by rw[h.1,hR],h.2⟩
theorem UH(n:Int)(w:j)(hR:JH n=false):m prog 342 #[c d n] w fun e w'=>e= g (x false)/\w'=w:=
 (ZT n w).mono fun _ _ h=>⟨by rw[h.1,hR],h.2⟩
theorem UG(s:ByteArray)(w:j)(hs:s.size<=u)(hR:QJ s=false):m prog 331 #[f s] w fun e w'=>e= g (x false)/\w'=w:=
 (ZS s w hs).mono fun _ _ h=>⟨by rw[h.1,hR],h.2⟩
theorem Kx(n:Int)(s:ByteArray)(w:j)(hR:Ym n=false):m prog 178 #[t #[c d 1,c d n,f s]] w fun e w'=>
  e= g (mNo)/\r w.heap.size w w':=by
 go_enter func178,ntmps178
 go_wp2_with (first
  | (go_at_call 211;refine(Qm _ _ _ _).mono ?_;rintro e w1 ⟨rfl,hb⟩;have em:mBK 1 n s= .iface 208 (c d n):=rfl;rw[em];clear em;obtain⟨hk,hz⟩:=Qk (B:=w.heap.size+1) (X:=(w.alloc (p #[c d 1,c d n,f s] 144))) (by go_grown) (by go_size) hb;obtain⟨hC,hF,hL,hE⟩:=kp hb;clear hb))
 first
  | (go_region_with (first
   | (go_at_call 332;refine(Mx _ _ hR).mono ?_;rintro e w1 ⟨rfl,rfl⟩)))
  | fail
 all_goals go_wp2_with fail
 all_goals
  go_ret;exact⟨rfl,Yz (n:=1) (X:=(w.alloc (p #[c d 1,c d n,f s] 144))) (by go_grown) (by go_grown)⟩
theorem Gk(n:Int)(s:ByteArray)(w:j)(hR:Yv n=false):m prog 178 #[t #[c d 3,c d n,f s]] w fun e w'=>
  e= g (mNo)/\r w.heap.size w w':=by
 go_enter func178,ntmps178
 go_wp2_with (first
  | (go_at_call 211;refine(Qm _ _ _ _).mono ?_;rintro e w1 ⟨rfl,hb⟩;have em:mBK 3 n s= .iface 242 (c d n):=rfl;rw[em];clear em;obtain⟨hk,hz⟩:=Qk (B:=w.heap.size+1) (X:=(w.alloc (p #[c d 3,c d n,f s] 144))) (by go_grown) (by go_size) hb;obtain⟨hC,hF,hL,hE⟩:=kp hb;clear hb))
 first
  | (go_region_with (first
   | (go_at_call 340;refine(Nf _ _ hR).mono ?_;rintro e w1 ⟨rfl,rfl⟩)))
  | fail
 all_goals go_wp2_with fail
 all_goals
  go_ret;exact⟨rfl,Yz (n:=1) (X:=(w.alloc (p #[c d 3,c d n,f s] 144))) (by go_grown) (by go_grown)⟩
theorem VQ(n:Int)(s:ByteArray)(w:j)(hR:JH n=false):m prog 178 #[t #[c d 4,c d n,f s]] w fun e w'=>
  e= g (mNo)/\r w.heap.size w w':=by
 go_enter func178,ntmps178
 go_wp2_with (first
  | (go_at_call 211;refine(Qm _ _ _ _).mono ?_;rintro e w1 ⟨rfl,hb⟩;have em:mBK 4 n s= .iface 243 (c d n):=rfl;rw[em];clear em;obtain⟨hk,hz⟩:=Qk (B:=w.heap.size+1) (X:=(w.alloc (p #[c d 4,c d n,f s] 144))) (by go_grown) (by go_size) hb;obtain⟨hC,hF,hL,hE⟩:=kp hb;clear hb))
 first
  | (go_region_with (first
   | (go_at_call 342;refine(UH _ _ hR).mono ?_;rintro e w1 ⟨rfl,rfl⟩)))
  | fail
 all_goals go_wp2_with fail
 all_goals
  go_ret;exact⟨rfl,Yz (n:=1) (X:=(w.alloc (p #[c d 4,c d n,f s] 144))) (by go_grown) (by go_grown)⟩
theorem VN(n:Int)(s:ByteArray)(w:j)(hs:Hid (s.size<=u))(hR:QJ s=false):m prog 178 #[t #[c d 2,c d n,f s]] w fun e w'=>
  e= g (mNo)/\r w.heap.size w w':=by
 go_enter func178,ntmps178
 go_wp2_with (first
  | (go_at_call 211;refine(Qm _ _ _ _).mono ?_;rintro e w1 ⟨rfl,hb⟩;have em:mBK 2 n s= .iface 187 (f s):=rfl;rw[em];clear em;obtain⟨hk,hz⟩:=Qk (B:=w.heap.size+1) (X:=(w.alloc (p #[c d 2,c d n,f s] 144))) (by go_grown) (by go_size) hb;obtain⟨hC,hF,hL,hE⟩:=kp hb;clear hb))
 first
  | (go_region_with (first
   | (go_at_call 331;refine(UG _ _ hs.out hR).mono ?_;rintro e w1 ⟨rfl,rfl⟩)))
  | fail
 all_goals go_wp2_with fail
 all_goals
  go_ret;exact⟨rfl,Yz (n:=1) (X:=(w.alloc (p #[c d 2,c d n,f s] 144))) (by go_grown) (by go_grown)⟩
theorem Kz(k:Int)(n:Int)(s:ByteArray)(w:j)(HM:Hid (mBK k n s= .iface 240 (t #[]))):m prog 178 #[t #[c d k,c d n,f s]] w fun e w'=>
  e= g (mNo)/\r w.heap.size w w':=by
 go_enter func178,ntmps178
 go_wp2_with (first
  | (go_at_call 211;refine(Qm _ _ _ _).mono ?_;rintro e w1 ⟨rfl,hb⟩;rw[HM.out];obtain⟨hk,hz⟩:=Qk (B:=w.heap.size+1) (X:=(w.alloc (p #[c d k,c d n,f s] 144))) (by go_grown) (by go_size) hb;obtain⟨hC,hF,hL,hE⟩:=kp hb;clear hb))
 first
  | (go_region_with (first
   | (go_at_call 334;refine(Vg _).mono ?_;rintro e w1 ⟨rfl,hb⟩;obtain⟨hk,hz⟩:=Qk (B:=w.heap.size+1) (X:=(w.alloc (p #[c d k,c d n,f s] 144))) (by go_grown) (by go_size) hb;clear hb)))
  | fail
 all_goals go_wp2_with fail
 all_goals
  go_ret;exact⟨rfl,Yz (n:=1) (X:=(w.alloc (p #[c d k,c d n,f s] 144))) (by go_grown) (by go_grown)⟩
def emp(s:ByteArray):Bool:=s.toList.isEmpty
theorem UR(h:emp s=true):s.toList= []:=List.isEmpty_iff.1 h
theorem Qbf(h:emp s=false): ¬s.toList= []:=fun e=>by rw[emp,e]at h;cases h
theorem Ju(h:emp s=true):s=⟨#[]⟩:=by
 have e:=UR h;rw[ByteArray.toList_eq]at e;exact ByteArray.ext (Array.toList_eq_nil_iff.1 e)
def okV(k n:Int)(s:ByteArray):Bool:=
 if k=0 then decide (n=0)&&emp s else if k=1 then Ym n&&emp s else if k=2 then decide (n=0)&&QJ s
 else if k=3 then Yv n&&emp s else if k=4 then JH n&&emp s else false
def mOf(k n:Int)(s:ByteArray):Value:=if okV k n s then mBK k n s else mNo
theorem QF(k n:Int)(s:ByteArray)(w:j)(hs:s.size<=u):m prog 178 #[t #[c d k,c d n,f s]] w fun e w'=>
  e= g (mOf k n s)/\r w.heap.size w w':=by
 by_cases h0:k=0
 ·subst h0;by_cases hn:n=0
  ·subst hn;cases he:emp s
   ·rw[show mOf 0 0 s=mNo from by simp[mOf,okV,he]];exact Gn s w (Qbf he)
   ·rw[show mOf 0 0 s=mBK 0 0 s from by simp[mOf,okV,he]];exact Gm s w (UR he)
  ·rw[show mOf 0 n s=mNo from by simp[mOf,okV,hn]];exact Gp n s w (fun e=>hn e.symm)
 by_cases h1:k=1
 ·subst h1;cases hr:Ym n
  ·rw[show mOf 1 n s=mNo from by simp[mOf,okV,hr]];exact Kx n s w hr
  ·cases he:emp s
   ·rw[show mOf 1 n s=mNo from by simp[mOf,okV,he]];exact Ky n s w hr (Qbf he)
   ·rw[show mOf 1 n s=mBK 1 n s from by simp[mOf,okV,he,hr]];exact Kw n s w hr (UR he)
 by_cases h2:k=2
 ·subst h2;cases hr:QJ s
  ·rw[show mOf 2 n s=mNo from by simp[mOf,okV,hr]];exact VN n s w hs hr
  ·by_cases hn:n=0
   ·subst hn;rw[show mOf 2 0 s=mBK 2 0 s from by simp[mOf,okV,hr]];exact VM s w hs hr
   ·rw[show mOf 2 n s=mNo from by simp[mOf,okV,hn]];exact VO n s w hs hr (fun e=>hn e.symm)
 by_cases h3:k=3
 ·subst h3;cases hr:Yv n
  ·rw[show mOf 3 n s=mNo from by simp[mOf,okV,hr]];exact Gk n s w hr
  ·cases he:emp s
   ·rw[show mOf 3 n s=mNo from by simp[mOf,okV,he]];exact Gl n s w hr (Qbf he)
   ·rw[show mOf 3 n s=mBK 3 n s from by simp[mOf,okV,he,hr]];exact Gj n s w hr (UR he)
 by_cases h4:k=4
 ·subst h4;cases hr:JH n
  ·rw[show mOf 4 n s=mNo from by simp[mOf,okV,hr]];exact VQ n s w hr
  ·cases he:emp s
   ·rw[show mOf 4 n s=mNo from by simp[mOf,okV,he]];exact VT n s w hr (Qbf he)
   ·rw[show mOf 4 n s=mBK 4 n s from by simp[mOf,okV,he,hr]];exact VP n s w hr (UR he)
 ·rw[show mOf k n s=mNo from by simp[mOf,okV,h0,h1,h2,h3,h4]];exact Kz k n s w (show mBK k n s=_ by simp[mBK,h0,h1,h2,h3,h4])
theorem Qiy(k n:Int)(s:ByteArray):
  (okV k n s=false/\mOf k n s= .iface 240 (t #[]))\/
  (okV k n s=true/\k=0/\n=0/\s=⟨#[]⟩/\mOf k n s= .iface 241 (t #[]))\/
  (okV k n s=true/\k=1/\Ym n=true/\s=⟨#[]⟩/\mOf k n s= .iface 208 (c d n))\/
  (okV k n s=true/\k=2/\n=0/\QJ s=true/\mOf k n s= .iface 187 (f s))\/
  (okV k n s=true/\k=3/\Yv n=true/\s=⟨#[]⟩/\mOf k n s= .iface 242 (c d n))\/
  (okV k n s=true/\k=4/\JH n=true/\s=⟨#[]⟩/\mOf k n s= .iface 243 (c d n)):=by
 cases ho:okV k n s
 ·exact .inl ⟨rfl,by simp[mOf,ho,mNo]⟩
 ·right
  have hm:mOf k n s=mBK k n s:=by simp[mOf,ho]
  rw[hm];unfold okV at ho;split at ho
  ·rename_i h;subst h;simp only[o,decide_eq_true_eq]at ho;exact .inl ⟨rfl,rfl,ho.1,Ju ho.2,rfl⟩
  split at ho
  ·rename_i h;subst h;simp only[o]at ho;exact .inr (.inl ⟨rfl,rfl,ho.1,Ju ho.2,rfl⟩)
  split at ho
  ·rename_i h;subst h;simp only[o,decide_eq_true_eq]at ho;exact .inr (.inr (.inl ⟨rfl,rfl,ho.1,ho.2,rfl⟩))
  split at ho
  ·rename_i h;subst h;simp only[o]at ho;exact .inr (.inr (.inr (.inl ⟨rfl,rfl,ho.1,Ju ho.2,rfl⟩)))
  split at ho
  ·rename_i h;subst h;simp only[o]at ho;exact .inr (.inr (.inr (.inr ⟨rfl,rfl,ho.1,Ju ho.2,rfl⟩)))
  ·cases ho
theorem YY(k n:Int)(s:ByteArray)(w:j)(hs:s.size<=u):m prog 177 #[t #[c d k,c d n,f s]] w fun e w'=>
  e= g (x (okV k n s))/\r w.heap.size w w':=by
 rcases Qiy k n s with⟨ho,hm⟩ | ⟨ho,rfl,rfl,rfl,hm⟩ | ⟨ho,rfl,hr,rfl,hm⟩ | ⟨ho,rfl,rfl,hr,hm⟩ | ⟨ho,rfl,hr,rfl,hm⟩ | ⟨ho,rfl,hr,rfl,hm⟩
 ·have HM:Hid (mOf k n s= .iface 240 (t #[])):=hm;clear hm;go_enter func177,ntmps177
  go_wp2_with (first
   | (go_at_call 178;refine(QF _ _ _ _ hs).mono ?_;rintro e w1 ⟨rfl,hb⟩;rw[HM.out];have hk:=Qb (w:=w) (by go_grown) hb;have hz:=hk.size;obtain⟨hC,hF,hL,hE⟩:=kp hb;clear hb)
   | (go_at_call 334;refine(Vg _).mono ?_;rintro e w1 ⟨rfl,hb⟩;have hk:=Qb (w:=w) (by go_grown) hb;clear hb))
  all_goals
   go_ret;exact⟨Qc (by simp[ho]),by go_grown⟩
 ·have HM:Hid (mOf 0 0 ⟨#[]⟩= .iface 241 (t #[])):=hm;clear hm;go_enter func177,ntmps177
  go_wp2_with (first
   | (go_at_call 178;refine(QF _ _ _ _ hs).mono ?_;rintro e w1 ⟨rfl,hb⟩;rw[HM.out];have hk:=Qb (w:=w) (by go_grown) hb;have hz:=hk.size;obtain⟨hC,hF,hL,hE⟩:=kp hb;clear hb)
   | (go_at_call 337;refine(XE _).mono ?_;rintro e w1 ⟨rfl,hb⟩;have hk:=Qb (w:=w) (by go_grown) hb;clear hb))
  all_goals
   go_ret;exact⟨Qc (by simp[ho]),by go_grown⟩
 ·have HM:Hid (mOf 1 n ⟨#[]⟩= .iface 208 (c d n)):=hm;clear hm;go_enter func177,ntmps177
  go_wp2_with (first
   | (go_at_call 178;refine(QF _ _ _ _ hs).mono ?_;rintro e w1 ⟨rfl,hb⟩;rw[HM.out];have hk:=Qb (w:=w) (by go_grown) hb;have hz:=hk.size;obtain⟨hC,hF,hL,hE⟩:=kp hb;clear hb)
   | (go_at_call 332;refine(Yk _ _).mono ?_;rintro e w1 ⟨rfl,rfl⟩))
  all_goals
   go_ret;exact⟨Qc (by simp[ho]),by go_grown⟩
 ·have HM:Hid (mOf 2 0 s= .iface 187 (f s)):=hm;clear hm;go_enter func177,ntmps177
  go_wp2_with (first
   | (go_at_call 178;refine(QF _ _ _ _ hs).mono ?_;rintro e w1 ⟨rfl,hb⟩;rw[HM.out];have hk:=Qb (w:=w) (by go_grown) hb;have hz:=hk.size;obtain⟨hC,hF,hL,hE⟩:=kp hb;clear hb)
   | (go_at_call 331;refine(ZS _ _ hs).mono ?_;rintro e w1 ⟨rfl,rfl⟩))
  all_goals
   go_ret;exact⟨Qc (by simp[ho]),by go_grown⟩
 ·have HM:Hid (mOf 3 n ⟨#[]⟩= .iface 242 (c d n)):=hm;clear hm;go_enter func177,ntmps177
  go_wp2_with (first
   | (go_at_call 178;refine(QF _ _ _ _ hs).mono ?_;rintro e w1 ⟨rfl,hb⟩;rw[HM.out];have hk:=Qb (w:=w) (by go_grown) hb;have hz:=hk.size;obtain⟨hC,hF,hL,hE⟩:=kp hb;clear hb)
   | (go_at_call 340;refine(YI _ _).mono ?_;rintro e w1 ⟨rfl,rfl⟩))
  all_goals
   go_ret;exact⟨Qc (by simp[ho]),by go_grown⟩
 ·have HM:Hid (mOf 4 n ⟨#[]⟩= .iface 243 (c d n)):=hm;clear hm;go_enter func177,ntmps177
  go_wp2_with (first
   | (go_at_call 178;refine(QF _ _ _ _ hs).mono ?_;rintro e w1 ⟨rfl,hb⟩;rw[HM.out];have hk:=Qb (w:=w) (by go_grown) hb;have hz:=hk.size;obtain⟨hC,hF,hL,hE⟩:=kp hb;clear hb)
   | (go_at_call 342;refine(ZT _ _).mono ?_;rintro e w1 ⟨rfl,rfl⟩))
  all_goals
   go_ret;exact⟨Qc (by simp[ho]),by go_grown⟩
theorem QG(n l h:Int)(w:j):m prog 102 #[c d n,c d l,c d h] w fun e w'=>
  e= g (x (decide (l<=n/\n<=h)))/\w'=w:=by
 go_enter func102,ntmps102;go_wp2
 all_goals
  go_ret;refine⟨Qc ?_,rfl⟩;rw[i];simp;try omega
theorem Zy(s:ByteArray)(w:j)(hs:s.size<=u):m prog 96 #[f s] w fun e w'=>
  e= g (x (QJ s))/\w'=w:=by
 unfold u at hs;go_enter func96,ntmps96;go_wp2_with fail
 go_loop [3] (fun v=> ∃k:Nat,k<=s.size/\v= c d k/\Yb (s.data.toList.take k)=true) (fun v=>s.size-(intOf v).toNat)
 case atStart=>exact⟨0,by omega,rfl,rfl⟩
 case round=>
  obtain⟨k,hk,rfl,hr⟩:=hrel;have HR:Hid (Yb (s.data.toList.take k)=true):=hr;clear hr;by_cases h0:k<s.size
  ·have HT:Hid (Yb (s.data.toList.take (k+1))=(Yb (s.data.toList.take k)&&decide (32<=s[k].toNat/\s[k].toNat<=126))):=NJ s k h0;by_cases hb:32<=s[k].toNat/\s[k].toNat<=126
   ·have h2: ¬((s[k].toNat:Int)<32):=by omega
    have h1: ¬(126<(s[k].toNat:Int)):=by omega
    go_wp2
    all_goals
     go_round
     case rel=>exact⟨k+1,by omega,by go_num,by rw[HT.out,HR.out];simp;omega⟩
     case measure=>simp[intOf];omega
   ·have HF:Hid (QJ s=false):=by show QJ s=false;unfold QJ;rw[Qcp s k h0 hb];simp
    by_cases h2:(s[k].toNat:Int)<32
    ·go_wp2
     go_ret;exact⟨Qc HF.out.symm,rfl⟩
    ·have h1:126<(s[k].toNat:Int):=by omega
     go_wp2
     go_ret;exact⟨Qc HF.out.symm,rfl⟩
  ·have HA:=HR.out;rw[List.take_of_length_le (by simp;omega)]at HA;have HF:Hid (QJ s=decide (s.size<=200)):=by show QJ s=_;unfold QJ;rw[HA];simp
   clear HA;go_wp2
   go_ret;exact⟨Qc (by rw[HF.out];rw[i];simp;try omega),rfl⟩
theorem Qq(k n:Int)(s:ByteArray)(w:j)(hs:s.size<=u):m prog 136 #[t #[c d k,c d n,f s]] w fun e w'=>
  e= g (x (okV k n s))/\r w.heap.size w w':=by
 by_cases h0:k=0
 ·subst h0;go_enter func136,ntmps136
  go_wp2_with (first
   | (go_at_call 102;refine(QG _ _ _ _).mono ?_;rintro e w1 ⟨rfl,rfl⟩)
   | (go_at_call 96;refine(Zy _ _ hs).mono ?_;rintro e w1 ⟨rfl,rfl⟩))
  all_goals
   go_ret;refine⟨Qc ?_,by go_grown⟩;rw[i];simp_all [okV,emp]
   try omega
 by_cases h1:k=1
 ·subst h1;go_enter func136,ntmps136
  go_wp2_with (first
   | (go_at_call 102;refine(QG _ _ _ _).mono ?_;rintro e w1 ⟨rfl,rfl⟩)
   | (go_at_call 96;refine(Zy _ _ hs).mono ?_;rintro e w1 ⟨rfl,rfl⟩))
  all_goals
   go_ret;refine⟨Qc ?_,by go_grown⟩;rw[i];simp_all [okV,emp,Ym]
   try omega
 by_cases h2:k=2
 ·subst h2;go_enter func136,ntmps136
  go_wp2_with (first
   | (go_at_call 102;refine(QG _ _ _ _).mono ?_;rintro e w1 ⟨rfl,rfl⟩)
   | (go_at_call 96;refine(Zy _ _ hs).mono ?_;rintro e w1 ⟨rfl,rfl⟩))
  all_goals
   go_ret;refine⟨Qc ?_,by go_grown⟩;rw[i];simp_all [okV]
   try omega
 by_cases h3:k=3
 ·subst h3;go_enter func136,ntmps136
  go_wp2_with (first
   | (go_at_call 102;refine(QG _ _ _ _).mono ?_;rintro e w1 ⟨rfl,rfl⟩)
   | (go_at_call 96;refine(Zy _ _ hs).mono ?_;rintro e w1 ⟨rfl,rfl⟩))
  all_goals
   go_ret;refine⟨Qc ?_,by go_grown⟩;rw[i];simp_all [okV,emp,Yv]
   try omega
 by_cases h4:k=4
 ·subst h4;go_enter func136,ntmps136
  go_wp2_with (first
   | (go_at_call 102;refine(QG _ _ _ _).mono ?_;rintro e w1 ⟨rfl,rfl⟩)
   | (go_at_call 96;refine(Zy _ _ hs).mono ?_;rintro e w1 ⟨rfl,rfl⟩))
  all_goals
   go_ret;refine⟨Qc ?_,by go_grown⟩;rw[i];simp_all [okV,emp,JH]
   try omega
 ·have e0:(k==0)=false:=by simpa using h0
  have e1:(k==1)=false:=by simpa using h1
  have e2:(k==2)=false:=by simpa using h2
  have e3:(k==3)=false:=by simpa using h3
  have e4:(k==4)=false:=by simpa using h4
  go_enter func136,ntmps136
  go_wp2_with (first
   | (go_at_call 102;refine(QG _ _ _ _).mono ?_;rintro e w1 ⟨rfl,rfl⟩)
   | (go_at_call 96;refine(Zy _ _ hs).mono ?_;rintro e w1 ⟨rfl,rfl⟩))
  all_goals
   go_ret;refine⟨Qc ?_,by go_grown⟩;rw[i];simp_all [okV]
   try omega
theorem GP(n:Int)(w:j):m prog 173 #[c d n] w fun e w'=>
  e= g (t #[c d 4,c d n,f ⟨#[]⟩])/\r w.heap.size w w':=by
 go_enter func173,ntmps173;go_wp2
 go_returns
 exact⟨rfl,by go_grown⟩
def sgn(a b:Int):Int:=if a<b then-1 else if b<a then 1 else 0
theorem Qhl(a b:Int)(w:j):m prog 112 #[c d a,c d b] w fun e w'=>
  e= g (c d (sgn a b))/\w'=w:=by
 go_enter func112,ntmps112;go_wp2
 all_goals
  go_ret;refine⟨Zn ?_,rfl⟩;unfold sgn
  (repeat split)<;>omega
theorem Qtm{a b:Int}(h: ¬a=b):sgn a b=(if decide (a<b)then-1 else if true then 1 else 0)/\ ¬sgn a b=0:=by
 unfold sgn;by_cases h1:a<b
 ·simp[h1]
 ·have h2:b<a:=by omega
  simp[h1,h2]
theorem Qce(a:Int):sgn a a=0:=by unfold sgn;simp
end Go.Proofs.YtomadadmakdkgaaGreatDoor
