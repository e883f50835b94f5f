import Derived.Test.YtomadadmakdkgaaGreatDoorGaa
import Derived.Deep.RegionHeld3
import Derived.Deep.DeepCutAuto
import Derived.Laws.StructEq
open Go.Proofs.Tryz
open Go.Value renaming int → c, string → f, agg → p, bool → u
open Go.IntKind renaming i64 → d
open Go.Obj renaming cells → g
open Go.Ending renaming returned → i
open Go.RowKit renaming Below → j
open Go renaming World → m, Calls → o, maxLen → t
open Bool renaming eq_iff_iff → r
set_option linter.unusedSimpArgs false
set_option linter.unusedVariables false
set_option maxHeartbeats 1000000
namespace Go.Proofs.YtomadadmakdkgaaGreatDoor
open Go.RowKit
def Yb(l:List UInt8):Bool:=l.all fun b=>decide (32<=b.toNat/\b.toNat<=126)
def mBK(k n:Int)(s:ByteArray):Value:=
 if k=0 then .iface 241 (p #[])else if k=1 then .iface 208 (c d n)else if k=2 then .iface 187 (f s)
 else if k=3 then .iface 242 (c d n)else if k=4 then .iface 243 (c d n)else .iface 240 (p #[])
def mNo:Value:= .iface 240 (p #[])
theorem Jx{a b:Value}(h:a=b):Ending.returned a= i b:=by rw[h]
theorem Qm(k n:Int)(s:ByteArray)(w:m):o prog 211 #[p #[c d k,c d n,f s]] w fun e w'=>
  e= i (mBK k n s)/\j w.heap.size w w':=by
 by_cases h0:k=0
 ·subst h0;go_enter func211,ntmps211;go_wp2
  go_ret;exact⟨Jx (by simp[mBK]),by go_grown⟩
 by_cases h1:k=1
 ·subst h1;go_enter func211,ntmps211;go_wp2
  go_ret;exact⟨Jx (by simp[mBK]),by go_grown⟩
 by_cases h2:k=2
 ·subst h2;go_enter func211,ntmps211;go_wp2
  go_ret;exact⟨Jx (by simp[mBK]),by go_grown⟩
 by_cases h3:k=3
 ·subst h3;go_enter func211,ntmps211;go_wp2
  go_ret;exact⟨Jx (by simp[mBK]),by go_grown⟩
 by_cases h4:k=4
 ·subst h4;go_enter func211,ntmps211;go_wp2
  go_ret;exact⟨Jx (by simp[mBK]),by go_grown⟩
 ·have e0:(k==0)=false:=by simpa using h0
  have e1:(k==1)=false:=by simpa using h1
  have e2:(k==2)=false:=by simpa using h2
  have e3:(k==3)=false:=by simpa using h3
  have e4:(k==4)=false:=by simpa using h4
  go_enter func211,ntmps211;go_wp2
  go_ret;exact⟨Jx (by simp[mBK,h0,h1,h2,h3,h4]),by go_grown⟩
def Ym(n:Int):Bool:=decide (-1000000000000000<=n/\n<=1000000000000000)
def Yv(n:Int):Bool:=decide (n=0\/n=1)
def JH(n:Int):Bool:=decide (1<=n/\n<=5)
def QJ(s:ByteArray):Bool:=decide (s.size<=200)&&Yb s.data.toList
theorem Yk(n:Int)(w:m):o prog 332 #[c d n] w fun e w'=>
  e= i (u (Ym n))/\w'=w:=by
 go_enter func332,ntmps332;go_wp2
 all_goals
  go_ret;refine⟨Qc ?_,rfl⟩;rw[r];unfold Ym;simp;try omega
theorem YI(n:Int)(w:m):o prog 340 #[c d n] w fun e w'=>
  e= i (u (Yv n))/\w'=w:=by
 go_enter func340,ntmps340;go_wp2
 all_goals
  go_ret;refine⟨Qc ?_,rfl⟩;rw[r];unfold Yv;simp;try omega
theorem ZT(n:Int)(w:m):o prog 342 #[c d n] w fun e w'=>
  e= i (u (JH n))/\w'=w:=by
 go_enter func342,ntmps342;go_wp2
 all_goals
  go_ret;refine⟨Qc ?_,rfl⟩;rw[r];unfold JH;simp;try omega
theorem Vg(w:m):o prog 334 #[p #[]] w fun e w'=>
  e= i (u (false))/\j w.heap.size w w':=by
 go_enter func334,ntmps334;go_wp2
 all_goals
  go_ret;refine⟨Qc ?_,by go_grown⟩;rfl
theorem XE(w:m):o prog 337 #[p #[]] w fun e w'=>
  e= i (u (true))/\j w.heap.size w w':=by
 go_enter func337,ntmps337;go_wp2
 all_goals
  go_ret;refine⟨Qc ?_,by go_grown⟩;rfl
theorem XU(n:Int)(w:m):o prog 176 #[c d n] w fun e w'=>
  e= i (p #[c d 1,c d n,f ⟨#[]⟩])/\j w.heap.size w w':=by
 go_enter func176,ntmps176;go_wp2
 go_returns
 exact⟨rfl,by go_grown⟩
theorem Kk(n:Int)(w:m):o prog 341 #[c d n] w fun e w'=>
  e= i (p #[c d 3,c d n,f ⟨#[]⟩])/\j w.heap.size w w':=by
 go_enter func341,ntmps341;go_wp2
 go_returns
 exact⟨rfl,by go_grown⟩
theorem Xp(n:Int)(w:m):o prog 227 #[c d n] w fun e w'=>
  e= i (p #[c d 4,c d n,f ⟨#[]⟩])/\j w.heap.size w w':=by
 go_enter func227,ntmps227;go_wp2
 go_returns
 exact⟨rfl,by go_grown⟩
theorem Xo(s:ByteArray)(w:m):o prog 282 #[f s] w fun e w'=>
  e= i (p #[c d 2,c d 0,f s])/\j w.heap.size w w':=by
 go_enter func282,ntmps282;go_wp2
 go_returns
 exact⟨rfl,by go_grown⟩
theorem Jo(w:m):o prog 339 #[p #[]] w fun e w'=>
  e= i (p #[c d 0,c d 0,f ⟨#[]⟩])/\j w.heap.size w w':=by
 go_enter func339,ntmps339;go_wp2
 go_returns
 exact⟨rfl,by go_grown⟩
theorem NJ(s:ByteArray)(k:Nat)(h:k<s.size):Yb (s.data.toList.take (k+1))=(Yb (s.data.toList.take k)&&decide (32<=s[k].toNat/\s[k].toNat<=126)):=by
 have e:s.data.toList.take (k+1)=s.data.toList.take k++ [s[k]]:=by
  rw[List.take_succ_eq_append_getElem (by simpa using h)];rfl
 rw[e];simp[Yb]
theorem Qcp(s:ByteArray)(k:Nat)(h:k<s.size)(hb: ¬(32<=s[k].toNat/\s[k].toNat<=126)):Yb s.data.toList=false:=by
 cases e:Yb s.data.toList
 ·rfl
 ·have:=List.all_eq_true.1 e s[k] (Array.mem_toList_iff.2 (Array.getElem_mem h));exact absurd (of_decide_eq_true this) hb
theorem Vi(s:ByteArray)(w:m)(hs:s.size<=t):o prog 113 #[f s] w fun e w'=>
  e= i (u (Yb s.data.toList))/\w'=w:=by
 unfold t at hs;go_enter func113,ntmps113;go_wp2_with fail
 go_loop [6] (fun v=> ∃k:Nat,k<=s.size/\v= c d k/\Yb (s.data.toList.take k)=true) (fun v=>s.size-(intOf v).toNat)
 case atStart=>exact⟨0,by omega,rfl,rfl⟩
 case round=>
  obtain⟨k,hk,rfl,hr⟩:=hrel;have HR:Hid (Yb (s.data.toList.take k)=true):=hr;clear hr;by_cases h0:k<s.size
  ·have HT:Hid (Yb (s.data.toList.take (k+1))=(Yb (s.data.toList.take k)&&decide (32<=s[k].toNat/\s[k].toNat<=126))):=NJ s k h0;by_cases hb:32<=s[k].toNat/\s[k].toNat<=126
   ·have h2: ¬((s[k].toNat:Int)<32):=by omega
    have h1: ¬(126<(s[k].toNat:Int)):=by omega
    go_wp2
    all_goals
     go_round
     case rel=>exact⟨k+1,by omega,by go_num,by rw[HT.out,HR.out];simp;omega⟩
     case measure=>simp[intOf];omega
   ·have HF:Hid (Yb s.data.toList=false):=Qcp s k h0 hb;by_cases h2:(s[k].toNat:Int)<32
    ·go_wp2
     go_ret;exact⟨Qc HF.out.symm,rfl⟩
    ·have h1:126<(s[k].toNat:Int):=by omega
     go_wp2
     go_ret;exact⟨Qc HF.out.symm,rfl⟩
  ·go_wp2
   go_ret;have HA:=HR.out;rw[List.take_of_length_le (by simp;omega)]at HA;exact⟨Qc HA.symm,rfl⟩
theorem ZS(s:ByteArray)(w:m)(hs:s.size<=t):o prog 331 #[f s] w fun e w'=>
  e= i (u (QJ s))/\w'=w:=by
 have h0:=hs;unfold t at h0;go_enter func331,ntmps331
 go_wp2_with (first
  | (go_at_call 113;refine(Vi _ _ hs).mono ?_;rintro e w1 ⟨rfl,rfl⟩))
 all_goals
  go_ret;refine⟨Qc ?_,rfl⟩;unfold QJ;simp_all
  try omega
theorem Gm(s:ByteArray)(w:m)(hq:s.toList= []):o prog 178 #[p #[c d 0,c d 0,f s]] w fun e w'=>
  e= i (.iface 241 (p #[]))/\j w.heap.size w w':=by
 go_enter func178,ntmps178
 go_wp2_with (first
  | (go_at_call 211;refine(Qm _ _ _ _).mono ?_;rintro e w1 ⟨rfl,hb⟩;have em:mBK 0 0 s= .iface 241 (p #[]):=rfl;rw[em];clear em;obtain⟨hk,hz⟩:=Qk (B:=w.heap.size+1) (X:=(w.alloc (g #[c d 0,c d 0,f s] 144))) (by go_grown) (by go_size) hb;obtain⟨hC,hF,hL,hE⟩:=kp hb;clear hb))
 go_region_held3 (fun w'=>(∀bq oq,bq<w.heap.size+1->w'.cell? ⟨bq,oq,none⟩=(w.alloc (g #[c d 0,c d 0,f s] 144)).cell? ⟨bq,oq,none⟩)/\w.heap.size+1<=w'.heap.size/\j (w.heap.size+1) (w.alloc (g #[c d 0,c d 0,f s] 144)) w')
  (exact QE (by go_size) (by go_grown))
  (first
  | (go_at_call 337;refine(XE _).mono ?_;rintro e w1 ⟨rfl,hb⟩;obtain⟨hk,hz⟩:=Qk (B:=w.heap.size+1) (X:=(w.alloc (g #[c d 0,c d 0,f s] 144))) (by go_grown) (by go_size) hb;clear hb)
  | (go_at_call 339;refine(Jo _).mono ?_;rintro e w1 ⟨rfl,hb⟩;obtain⟨hk,hz⟩:=Qk (B:=w.heap.size+1) (X:=(w.alloc (g #[c d 0,c d 0,f s] 144))) (by go_grown) (by go_size) hb;clear hb))
 all_goals go_wp2_with fail
 all_goals
  go_ret;exact⟨rfl,Yz (n:=1) (X:=(w.alloc (g #[c d 0,c d 0,f s] 144))) (by go_grown) (by go_grown)⟩
theorem Gn(s:ByteArray)(w:m)(hq: ¬s.toList= []):o prog 178 #[p #[c d 0,c d 0,f s]] w fun e w'=>
  e= i (mNo)/\j w.heap.size w w':=by
 go_enter func178,ntmps178
 go_wp2_with (first
  | (go_at_call 211;refine(Qm _ _ _ _).mono ?_;rintro e w1 ⟨rfl,hb⟩;have em:mBK 0 0 s= .iface 241 (p #[]):=rfl;rw[em];clear em;obtain⟨hk,hz⟩:=Qk (B:=w.heap.size+1) (X:=(w.alloc (g #[c d 0,c d 0,f s] 144))) (by go_grown) (by go_size) hb;obtain⟨hC,hF,hL,hE⟩:=kp hb;clear hb))
 go_region_held3 (fun w'=>(∀bq oq,bq<w.heap.size+1->w'.cell? ⟨bq,oq,none⟩=(w.alloc (g #[c d 0,c d 0,f s] 144)).cell? ⟨bq,oq,none⟩)/\w.heap.size+1<=w'.heap.size/\j (w.heap.size+1) (w.alloc (g #[c d 0,c d 0,f s] 144)) w')
  (exact QE (by go_size) (by go_grown))
  (first
  | (go_at_call 337;refine(XE _).mono ?_;rintro e w1 ⟨rfl,hb⟩;obtain⟨hk,hz⟩:=Qk (B:=w.heap.size+1) (X:=(w.alloc (g #[c d 0,c d 0,f s] 144))) (by go_grown) (by go_size) hb;clear hb)
  | (go_at_call 339;refine(Jo _).mono ?_;rintro e w1 ⟨rfl,hb⟩;obtain⟨hk,hz⟩:=Qk (B:=w.heap.size+1) (X:=(w.alloc (g #[c d 0,c d 0,f s] 144))) (by go_grown) (by go_size) hb;clear hb))
 all_goals go_wp2_with fail
 all_goals
  go_ret;exact⟨rfl,Yz (n:=1) (X:=(w.alloc (g #[c d 0,c d 0,f s] 144))) (by go_grown) (by go_grown)⟩
theorem Gp(n:Int)(s:ByteArray)(w:m)(hq: ¬0=n):o prog 178 #[p #[c d 0,c d n,f s]] w fun e w'=>
  e= i (mNo)/\j w.heap.size w w':=by
 go_enter func178,ntmps178
 go_wp2_with (first
  | (go_at_call 211;refine(Qm _ _ _ _).mono ?_;rintro e w1 ⟨rfl,hb⟩;have em:mBK 0 n s= .iface 241 (p #[]):=rfl;rw[em];clear em;obtain⟨hk,hz⟩:=Qk (B:=w.heap.size+1) (X:=(w.alloc (g #[c d 0,c d n,f s] 144))) (by go_grown) (by go_size) hb;obtain⟨hC,hF,hL,hE⟩:=kp hb;clear hb))
 go_region_held3 (fun w'=>(∀bq oq,bq<w.heap.size+1->w'.cell? ⟨bq,oq,none⟩=(w.alloc (g #[c d 0,c d n,f s] 144)).cell? ⟨bq,oq,none⟩)/\w.heap.size+1<=w'.heap.size/\j (w.heap.size+1) (w.alloc (g #[c d 0,c d n,f s] 144)) w')
  (exact QE (by go_size) (by go_grown))
  (first
  | (go_at_call 337;refine(XE _).mono ?_;rintro e w1 ⟨rfl,hb⟩;obtain⟨hk,hz⟩:=Qk (B:=w.heap.size+1) (X:=(w.alloc (g #[c d 0,c d n,f s] 144))) (by go_grown) (by go_size) hb;clear hb)
  | (go_at_call 339;refine(Jo _).mono ?_;rintro e w1 ⟨rfl,hb⟩;obtain⟨hk,hz⟩:=Qk (B:=w.heap.size+1) (X:=(w.alloc (g #[c d 0,c d n,f s] 144))) (by go_grown) (by go_size) hb;clear hb))
 all_goals go_wp2_with fail
 all_goals
  go_ret;exact⟨rfl,Yz (n:=1) (X:=(w.alloc (g #[c d 0,c d n,f s] 144))) (by go_grown) (by go_grown)⟩
theorem Kw(n:Int)(s:ByteArray)(w:m)(hR:Ym n=true)(hq:s.toList= []):o prog 178 #[p #[c d 1,c d n,f s]] w fun e w'=>
  e= i (.iface 208 (c d n))/\j w.heap.size w w':=by
 go_enter func178,ntmps178
 go_wp2_with (first
  | (go_at_call 211;refine(Qm _ _ _ _).mono ?_;rintro e w1 ⟨rfl,hb⟩;have em:mBK 1 n s= .iface 208 (c d n):=rfl;rw[em];clear em;obtain⟨hk,hz⟩:=Qk (B:=w.heap.size+1) (X:=(w.alloc (g #[c d 1,c d n,f s] 144))) (by go_grown) (by go_size) hb;obtain⟨hC,hF,hL,hE⟩:=kp hb;clear hb))
 go_region_held3 (fun w'=>(∀bq oq,bq<w.heap.size+1->w'.cell? ⟨bq,oq,none⟩=(w.alloc (g #[c d 1,c d n,f s] 144)).cell? ⟨bq,oq,none⟩)/\w.heap.size+1<=w'.heap.size/\j (w.heap.size+1) (w.alloc (g #[c d 1,c d n,f s] 144)) w')
  (exact QE (by go_size) (by go_grown))
  (first
  | (go_at_call 332;refine(Yk _ _).mono ?_;rintro e w1 ⟨rfl,rfl⟩)
  | (go_at_call 176;refine(XU _ _).mono ?_;rintro e w1 ⟨rfl,hb⟩;obtain⟨hk,hz⟩:=Qk (B:=w.heap.size+1) (X:=(w.alloc (g #[c d 1,c d n,f s] 144))) (by go_grown) (by go_size) hb;clear hb))
 all_goals go_wp2_with fail
 all_goals
  go_ret;exact⟨rfl,Yz (n:=1) (X:=(w.alloc (g #[c d 1,c d n,f s] 144))) (by go_grown) (by go_grown)⟩
theorem Ky(n:Int)(s:ByteArray)(w:m)(hR:Ym n=true)(hq: ¬s.toList= []):o prog 178 #[p #[c d 1,c d n,f s]] w fun e w'=>
  e= i (mNo)/\j w.heap.size w w':=by
 go_enter func178,ntmps178
 go_wp2_with (first
  | (go_at_call 211;refine(Qm _ _ _ _).mono ?_;rintro e w1 ⟨rfl,hb⟩;have em:mBK 1 n s= .iface 208 (c d n):=rfl;rw[em];clear em;obtain⟨hk,hz⟩:=Qk (B:=w.heap.size+1) (X:=(w.alloc (g #[c d 1,c d n,f s] 144))) (by go_grown) (by go_size) hb;obtain⟨hC,hF,hL,hE⟩:=kp hb;clear hb))
 go_region_held3 (fun w'=>(∀bq oq,bq<w.heap.size+1->w'.cell? ⟨bq,oq,none⟩=(w.alloc (g #[c d 1,c d n,f s] 144)).cell? ⟨bq,oq,none⟩)/\w.heap.size+1<=w'.heap.size/\j (w.heap.size+1) (w.alloc (g #[c d 1,c d n,f s] 144)) w')
  (exact QE (by go_size) (by go_grown))
  (first
  | (go_at_call 332;refine(Yk _ _).mono ?_;rintro e w1 ⟨rfl,rfl⟩)
  | (go_at_call 176;refine(XU _ _).mono ?_;rintro e w1 ⟨rfl,hb⟩;obtain⟨hk,hz⟩:=Qk (B:=w.heap.size+1) (X:=(w.alloc (g #[c d 1,c d n,f s] 144))) (by go_grown) (by go_size) hb;clear hb))
 all_goals go_wp2_with fail
 all_goals
  go_ret;exact⟨rfl,Yz (n:=1) (X:=(w.alloc (g #[c d 1,c d n,f s] 144))) (by go_grown) (by go_grown)⟩
theorem Gj(n:Int)(s:ByteArray)(w:m)(hR:Yv n=true)(hq:s.toList= []):o prog 178 #[p #[c d 3,c d n,f s]] w fun e w'=>
  e= i (.iface 242 (c d n))/\j w.heap.size w w':=by
 go_enter func178,ntmps178
 go_wp2_with (first
  | (go_at_call 211;refine(Qm _ _ _ _).mono ?_;rintro e w1 ⟨rfl,hb⟩;have em:mBK 3 n s= .iface 242 (c d n):=rfl;rw[em];clear em;obtain⟨hk,hz⟩:=Qk (B:=w.heap.size+1) (X:=(w.alloc (g #[c d 3,c d n,f s] 144))) (by go_grown) (by go_size) hb;obtain⟨hC,hF,hL,hE⟩:=kp hb;clear hb))
 go_region_held3 (fun w'=>(∀bq oq,bq<w.heap.size+1->w'.cell? ⟨bq,oq,none⟩=(w.alloc (g #[c d 3,c d n,f s] 144)).cell? ⟨bq,oq,none⟩)/\w.heap.size+1<=w'.heap.size/\j (w.heap.size+1) (w.alloc (g #[c d 3,c d n,f s] 144)) w')
  (exact QE (by go_size) (by go_grown))
  (first
  | (go_at_call 340;refine(YI _ _).mono ?_;rintro e w1 ⟨rfl,rfl⟩)
  | (go_at_call 341;refine(Kk _ _).mono ?_;rintro e w1 ⟨rfl,hb⟩;obtain⟨hk,hz⟩:=Qk (B:=w.heap.size+1) (X:=(w.alloc (g #[c d 3,c d n,f s] 144))) (by go_grown) (by go_size) hb;clear hb))
 all_goals go_wp2_with fail
 all_goals
  go_ret;exact⟨rfl,Yz (n:=1) (X:=(w.alloc (g #[c d 3,c d n,f s] 144))) (by go_grown) (by go_grown)⟩
theorem Gl(n:Int)(s:ByteArray)(w:m)(hR:Yv n=true)(hq: ¬s.toList= []):o prog 178 #[p #[c d 3,c d n,f s]] w fun e w'=>
  e= i (mNo)/\j w.heap.size w w':=by
 go_enter func178,ntmps178
 go_wp2_with (first
  | (go_at_call 211;refine(Qm _ _ _ _).mono ?_;rintro e w1 ⟨rfl,hb⟩;have em:mBK 3 n s= .iface 242 (c d n):=rfl;rw[em];clear em;obtain⟨hk,hz⟩:=Qk (B:=w.heap.size+1) (X:=(w.alloc (g #[c d 3,c d n,f s] 144))) (by go_grown) (by go_size) hb;obtain⟨hC,hF,hL,hE⟩:=kp hb;clear hb))
 go_region_held3 (fun w'=>(∀bq oq,bq<w.heap.size+1->w'.cell? ⟨bq,oq,none⟩=(w.alloc (g #[c d 3,c d n,f s] 144)).cell? ⟨bq,oq,none⟩)/\w.heap.size+1<=w'.heap.size/\j (w.heap.size+1) (w.alloc (g #[c d 3,c d n,f s] 144)) w')
  (exact QE (by go_size) (by go_grown))
  (first
  | (go_at_call 340;refine(YI _ _).mono ?_;rintro e w1 ⟨rfl,rfl⟩)
  | (go_at_call 341;refine(Kk _ _).mono ?_;rintro e w1 ⟨rfl,hb⟩;obtain⟨hk,hz⟩:=Qk (B:=w.heap.size+1) (X:=(w.alloc (g #[c d 3,c d n,f s] 144))) (by go_grown) (by go_size) hb;clear hb))
 all_goals go_wp2_with fail
 all_goals
  go_ret;exact⟨rfl,Yz (n:=1) (X:=(w.alloc (g #[c d 3,c d n,f s] 144))) (by go_grown) (by go_grown)⟩
theorem VP(n:Int)(s:ByteArray)(w:m)(hR:JH n=true)(hq:s.toList= []):o prog 178 #[p #[c d 4,c d n,f s]] w fun e w'=>
  e= i (.iface 243 (c d n))/\j w.heap.size w w':=by
 go_enter func178,ntmps178
 go_wp2_with (first
  | (go_at_call 211;refine(Qm _ _ _ _).mono ?_;rintro e w1 ⟨rfl,hb⟩;have em:mBK 4 n s= .iface 243 (c d n):=rfl;rw[em];clear em;obtain⟨hk,hz⟩:=Qk (B:=w.heap.size+1) (X:=(w.alloc (g #[c d 4,c d n,f s] 144))) (by go_grown) (by go_size) hb;obtain⟨hC,hF,hL,hE⟩:=kp hb;clear hb))
 go_region_held3 (fun w'=>(∀bq oq,bq<w.heap.size+1->w'.cell? ⟨bq,oq,none⟩=(w.alloc (g #[c d 4,c d n,f s] 144)).cell? ⟨bq,oq,none⟩)/\w.heap.size+1<=w'.heap.size/\j (w.heap.size+1) (w.alloc (g #[c d 4,c d n,f s] 144)) w')
  (exact QE (by go_size) (by go_grown))
  (first
  | (go_at_call 342;refine(ZT _ _).mono ?_;rintro e w1 ⟨rfl,rfl⟩)
  | (go_at_call 227;refine(Xp _ _).mono ?_;rintro e w1 ⟨rfl,hb⟩;obtain⟨hk,hz⟩:=Qk (B:=w.heap.size+1) (X:=(w.alloc (g #[c d 4,c d n,f s] 144))) (by go_grown) (by go_size) hb;clear hb))
 all_goals go_wp2_with fail
 all_goals
  go_ret;exact⟨rfl,Yz (n:=1) (X:=(w.alloc (g #[c d 4,c d n,f s] 144))) (by go_grown) (by go_grown)⟩
theorem VT(n:Int)(s:ByteArray)(w:m)(hR:JH n=true)(hq: ¬s.toList= []):o prog 178 #[p #[c d 4,c d n,f s]] w fun e w'=>
  e= i (mNo)/\j w.heap.size w w':=by
 go_enter func178,ntmps178
 go_wp2_with (first
  | (go_at_call 211;refine(Qm _ _ _ _).mono ?_;rintro e w1 ⟨rfl,hb⟩;have em:mBK 4 n s= .iface 243 (c d n):=rfl;rw[em];clear em;obtain⟨hk,hz⟩:=Qk (B:=w.heap.size+1) (X:=(w.alloc (g #[c d 4,c d n,f s] 144))) (by go_grown) (by go_size) hb;obtain⟨hC,hF,hL,hE⟩:=kp hb;clear hb))
 go_region_held3 (fun w'=>(∀bq oq,bq<w.heap.size+1->w'.cell? ⟨bq,oq,none⟩=(w.alloc (g #[c d 4,c d n,f s] 144)).cell? ⟨bq,oq,none⟩)/\w.heap.size+1<=w'.heap.size/\j (w.heap.size+1) (w.alloc (g #[c d 4,c d n,f s] 144)) w')
  (exact QE (by go_size) (by go_grown))
  (first
  | (go_at_call 342;refine(ZT _ _).mono ?_;rintro e w1 ⟨rfl,rfl⟩)
  | (go_at_call 227;refine(Xp _ _).mono ?_;rintro e w1 ⟨rfl,hb⟩;obtain⟨hk,hz⟩:=Qk (B:=w.heap.size+1) (X:=(w.alloc (g #[c d 4,c d n,f s] 144))) (by go_grown) (by go_size) hb;clear hb))
 all_goals go_wp2_with fail
 all_goals
  go_ret;exact⟨rfl,Yz (n:=1) (X:=(w.alloc (g #[c d 4,c d n,f s] 144))) (by go_grown) (by go_grown)⟩
theorem VM(s:ByteArray)(w:m)(hs:Hid (s.size<=t))(hR:QJ s=true):o prog 178 #[p #[c d 2,c d 0,f s]] w fun e w'=>
  e= i (.iface 187 (f s))/\j w.heap.size w w':=by
 go_enter func178,ntmps178
 go_wp2_with (first
  | (go_at_call 211;refine(Qm _ _ _ _).mono ?_;rintro e w1 ⟨rfl,hb⟩;have em:mBK 2 0 s= .iface 187 (f s):=rfl;rw[em];clear em;obtain⟨hk,hz⟩:=Qk (B:=w.heap.size+1) (X:=(w.alloc (g #[c d 2,c d 0,f s] 144))) (by go_grown) (by go_size) hb;obtain⟨hC,hF,hL,hE⟩:=kp hb;clear hb))
 go_region_held3 (fun w'=>(∀bq oq,bq<w.heap.size+1->w'.cell? ⟨bq,oq,none⟩=(w.alloc (g #[c d 2,c d 0,f s] 144)).cell? ⟨bq,oq,none⟩)/\w.heap.size+1<=w'.heap.size/\j (w.heap.size+1) (w.alloc (g #[c d 2,c d 0,f s] 144)) w')
  (exact QE (by go_size) (by go_grown))
  (first
  | (go_at_call 331;refine(ZS _ _ hs.out).mono ?_;rintro e w1 ⟨rfl,rfl⟩)
  | (go_at_call 282;refine(Xo _ _).mono ?_;rintro e w1 ⟨rfl,hb⟩;obtain⟨hk,hz⟩:=Qk (B:=w.heap.size+1) (X:=(w.alloc (g #[c d 2,c d 0,f s] 144))) (by go_grown) (by go_size) hb;clear hb))
 all_goals go_wp2_with fail
 all_goals
  go_ret;exact⟨rfl,Yz (n:=1) (X:=(w.alloc (g #[c d 2,c d 0,f s] 144))) (by go_grown) (by go_grown)⟩
theorem VO(n:Int)(s:ByteArray)(w:m)(hs:Hid (s.size<=t))(hR:QJ s=true)(hq: ¬0=n):o prog 178 #[p #[c d 2,c d n,f s]] w fun e w'=>
  e= i (mNo)/\j w.heap.size w w':=by
 go_enter func178,ntmps178
 go_wp2_with (first
  | (go_at_call 211;refine(Qm _ _ _ _).mono ?_;rintro e w1 ⟨rfl,hb⟩;have em:mBK 2 n s= .iface 187 (f s):=rfl;rw[em];clear em;obtain⟨hk,hz⟩:=Qk (B:=w.heap.size+1) (X:=(w.alloc (g #[c d 2,c d n,f s] 144))) (by go_grown) (by go_size) hb;obtain⟨hC,hF,hL,hE⟩:=kp hb;clear hb))
 go_region_held3 (fun w'=>(∀bq oq,bq<w.heap.size+1->w'.cell? ⟨bq,oq,none⟩=(w.alloc (g #[c d 2,c d n,f s] 144)).cell? ⟨bq,oq,none⟩)/\w.heap.size+1<=w'.heap.size/\j (w.heap.size+1) (w.alloc (g #[c d 2,c d n,f s] 144)) w')
  (exact QE (by go_size) (by go_grown))
  (first
  | (go_at_call 331;refine(ZS _ _ hs.out).mono ?_;rintro e w1 ⟨rfl,rfl⟩)
  | (go_at_call 282;refine(Xo _ _).mono ?_;rintro e w1 ⟨rfl,hb⟩;obtain⟨hk,hz⟩:=Qk (B:=w.heap.size+1) (X:=(w.alloc (g #[c d 2,c d n,f s] 144))) (by go_grown) (by go_size) hb;clear hb))
 all_goals go_wp2_with fail
 all_goals
  go_ret;exact⟨rfl,Yz (n:=1) (X:=(w.alloc (g #[c d 2,c d n,f s] 144))) (by go_grown) (by go_grown)⟩
end Go.Proofs.YtomadadmakdkgaaGreatDoor
