import Derived.Test.YtbdhinckiccniaaGreatDoorGaa
import Derived.Deep.RegionHeld3
import Derived.Deep.DeepCutAuto
import Derived.Laws.StructEq
set_option linter.unusedSimpArgs false
set_option linter.unusedVariables false
set_option maxHeartbeats 1000000
namespace Go.Proofs.YtbdhinckiccniaaGreatDoor
open Go.RowKit
def Zy (l:List UInt8):Bool:=l.all fun b=>decide (32≤b.toNat∧b.toNat≤126)
def mBK (k n:Int) (s:ByteArray):Value:=
 if k=0 then .iface 287 (.agg #[])else if k=1 then .iface 253 (.int .i64 n)else if k=2 then .iface 219 (.string s)
 else if k=3 then .iface 288 (.int .i64 n)else if k=4 then .iface 289 (.int .i64 n)else .iface 286 (.agg #[])
def mNo:Value:= .iface 286 (.agg #[])
theorem XE {a b:Value} (h:a=b):Ending.returned a= .returned b:=by rw [h]
theorem Qi (k n:Int) (s:ByteArray) (w:World):Calls Tryz.prog 282 #[.agg #[.int .i64 k,.int .i64 n,.string s]] w fun e w'=>
  e= .returned (mBK k n s)∧Below w.heap.size w w':=by
 by_cases h0:k=0
 ·subst h0;go_enter Tryz.func282,Tryz.ntmps282;go_wp2
  go_ret;exact⟨XE (by simp [mBK]),by go_grown⟩
 by_cases h1:k=1
 ·subst h1;go_enter Tryz.func282,Tryz.ntmps282;go_wp2
  go_ret;exact⟨XE (by simp [mBK]),by go_grown⟩
 by_cases h2:k=2
 ·subst h2;go_enter Tryz.func282,Tryz.ntmps282;go_wp2
  go_ret;exact⟨XE (by simp [mBK]),by go_grown⟩
 by_cases h3:k=3
 ·subst h3;go_enter Tryz.func282,Tryz.ntmps282;go_wp2
  go_ret;exact⟨XE (by simp [mBK]),by go_grown⟩
 by_cases h4:k=4
 ·subst h4;go_enter Tryz.func282,Tryz.ntmps282;go_wp2
  go_ret;exact⟨XE (by simp [mBK]),by go_grown⟩
 ·have e0:(k==0)=false:=by simpa using h0
  have e1:(k==1)=false:=by simpa using h1
  have e2:(k==2)=false:=by simpa using h2
  have e3:(k==3)=false:=by simpa using h3
  have e4:(k==4)=false:=by simpa using h4
  go_enter Tryz.func282,Tryz.ntmps282;go_wp2
  go_ret;exact⟨XE (by simp [mBK,h0,h1,h2,h3,h4]),by go_grown⟩
def ZP (n:Int):Bool:=decide (-1000000000000000≤n∧n≤1000000000000000)
def YE (n:Int):Bool:=decide (n=0∨n=1)
def XO (n:Int):Bool:=decide (1≤n∧n≤5)
def QE (s:ByteArray):Bool:=decide (s.size≤200)&&Zy s.data.toList
theorem Zx (n:Int) (w:World):Calls Tryz.prog 359 #[.int .i64 n] w fun e w'=>
  e= .returned (.bool (ZP n))∧w'=w:=by
 go_enter Tryz.func359,Tryz.ntmps359;go_wp2
 all_goals
  go_ret;refine⟨Qb ?_,rfl⟩;rw [Bool.eq_iff_iff];unfold ZP;simp;try omega
theorem Yh (n:Int) (w:World):Calls Tryz.prog 367 #[.int .i64 n] w fun e w'=>
  e= .returned (.bool (YE n))∧w'=w:=by
 go_enter Tryz.func367,Tryz.ntmps367;go_wp2
 all_goals
  go_ret;refine⟨Qb ?_,rfl⟩;rw [Bool.eq_iff_iff];unfold YE;simp;try omega
theorem Zr (n:Int) (w:World):Calls Tryz.prog 369 #[.int .i64 n] w fun e w'=>
  e= .returned (.bool (XO n))∧w'=w:=by
 go_enter Tryz.func369,Tryz.ntmps369;go_wp2
 all_goals
  go_ret;refine⟨Qb ?_,rfl⟩;rw [Bool.eq_iff_iff];unfold XO;simp;try omega
theorem Jk (w:World):Calls Tryz.prog 361 #[.agg #[]] w fun e w'=>
  e= .returned (.bool (false))∧Below w.heap.size w w':=by
 go_enter Tryz.func361,Tryz.ntmps361;go_wp2
 all_goals
  go_ret;refine⟨Qb ?_,by go_grown⟩;rfl
theorem YO (w:World):Calls Tryz.prog 364 #[.agg #[]] w fun e w'=>
  e= .returned (.bool (true))∧Below w.heap.size w w':=by
 go_enter Tryz.func364,Tryz.ntmps364;go_wp2
 all_goals
  go_ret;refine⟨Qb ?_,by go_grown⟩;rfl
theorem YX (n:Int) (w:World):Calls Tryz.prog 243 #[.int .i64 n] w fun e w'=>
  e= .returned (.agg #[.int .i64 1,.int .i64 n,.string ⟨#[]⟩])∧Below w.heap.size w w':=by
 go_enter Tryz.func243,Tryz.ntmps243;go_wp2
 go_returns
 exact⟨rfl,by go_grown⟩
theorem JW (n:Int) (w:World):Calls Tryz.prog 368 #[.int .i64 n] w fun e w'=>
  e= .returned (.agg #[.int .i64 3,.int .i64 n,.string ⟨#[]⟩])∧Below w.heap.size w w':=by
 go_enter Tryz.func368,Tryz.ntmps368;go_wp2
 go_returns
 exact⟨rfl,by go_grown⟩
theorem Xz (n:Int) (w:World):Calls Tryz.prog 291 #[.int .i64 n] w fun e w'=>
  e= .returned (.agg #[.int .i64 4,.int .i64 n,.string ⟨#[]⟩])∧Below w.heap.size w w':=by
 go_enter Tryz.func291,Tryz.ntmps291;go_wp2
 go_returns
 exact⟨rfl,by go_grown⟩
theorem YA (s:ByteArray) (w:World):Calls Tryz.prog 326 #[.string s] w fun e w'=>
  e= .returned (.agg #[.int .i64 2,.int .i64 0,.string s])∧Below w.heap.size w w':=by
 go_enter Tryz.func326,Tryz.ntmps326;go_wp2
 go_returns
 exact⟨rfl,by go_grown⟩
theorem Xu (w:World):Calls Tryz.prog 366 #[.agg #[]] w fun e w'=>
  e= .returned (.agg #[.int .i64 0,.int .i64 0,.string ⟨#[]⟩])∧Below w.heap.size w w':=by
 go_enter Tryz.func366,Tryz.ntmps366;go_wp2
 go_returns
 exact⟨rfl,by go_grown⟩
theorem Mq (s:ByteArray) (k:Nat) (h:k<s.size):Zy (s.data.toList.take (k+1))=(Zy (s.data.toList.take k)&&decide (32≤s[k].toNat∧s[k].toNat≤126)):=by
 have e:s.data.toList.take (k+1)=s.data.toList.take k++ [s[k]]:=by
  rw [List.take_succ_eq_append_getElem (by simpa using h)];rfl
 rw [e];simp [Zy]
theorem Qbw (s:ByteArray) (k:Nat) (h:k<s.size) (hb: ¬(32≤s[k].toNat∧s[k].toNat≤126)):Zy s.data.toList=false:=by
 cases e:Zy s.data.toList
 ·rfl
 ·have:=List.all_eq_true.1 e s[k] (Array.mem_toList_iff.2 (Array.getElem_mem h));exact absurd (of_decide_eq_true this) hb
theorem Jm (s:ByteArray) (w:World) (hs:s.size≤maxLen):Calls Tryz.prog 152 #[.string s] w fun e w'=>
  e= .returned (.bool (Zy s.data.toList))∧w'=w:=by
 unfold maxLen at hs;go_enter Tryz.func152,Tryz.ntmps152;go_wp2_with fail
 go_loop [6] (fun v=> ∃k:Nat,k≤s.size∧v= .int .i64 k∧Zy (s.data.toList.take k)=true) (fun v=>s.size-(intOf v).toNat)
 case atStart=>exact⟨0,by omega,rfl,rfl⟩
 case round=>
  obtain⟨k,hk,rfl,hr⟩:=hrel;have HR:Hid (Zy (s.data.toList.take k)=true):=hr;clear hr;by_cases hlt:k<s.size
  ·have HT:Hid (Zy (s.data.toList.take (k+1))=(Zy (s.data.toList.take k)&&decide (32≤s[k].toNat∧s[k].toNat≤126))):=Mq s k hlt;by_cases hb:32≤s[k].toNat∧s[k].toNat≤126
   ·have hb1: ¬((s[k].toNat:Int)<32):=by omega
    have hb2: ¬(126<(s[k].toNat:Int)):=by omega
    go_wp2
    all_goals
     go_round
     case rel=>exact⟨k+1,by omega,by go_num,by rw [HT.out,HR.out];simp;omega⟩
     case measure=>simp [intOf];omega
   ·have HF:Hid (Zy s.data.toList=false):=Qbw s k hlt hb;by_cases hb1:(s[k].toNat:Int)<32
    ·go_wp2
     go_ret;exact⟨Qb HF.out.symm,rfl⟩
    ·have hb2:126<(s[k].toNat:Int):=by omega
     go_wp2
     go_ret;exact⟨Qb HF.out.symm,rfl⟩
  ·go_wp2
   go_ret;have HA:=HR.out;rw [List.take_of_length_le (by simp;omega)]at HA;exact⟨Qb HA.symm,rfl⟩
theorem Zq (s:ByteArray) (w:World) (hs:s.size≤maxLen):Calls Tryz.prog 356 #[.string s] w fun e w'=>
  e= .returned (.bool (QE s))∧w'=w:=by
 have hs':=hs;unfold maxLen at hs';go_enter Tryz.func356,Tryz.ntmps356
 go_wp2_with (first
  | (go_at_call 152;refine(Jm _ _ hs).mono ?_;rintro e w1 ⟨rfl,rfl⟩))
 all_goals
  go_ret;refine⟨Qb ?_,rfl⟩;unfold QE;simp_all
  try omega
theorem Ki (s:ByteArray) (w:World) (hq:s.toList= []):Calls Tryz.prog 245 #[.agg #[.int .i64 0,.int .i64 0,.string s]] w fun e w'=>
  e= .returned (.iface 287 (.agg #[]))∧Below w.heap.size w w':=by
 go_enter Tryz.func245,Tryz.ntmps245
 go_wp2_with (first
  | (go_at_call 282;refine(Qi _ _ _ _).mono ?_;rintro e w1 ⟨rfl,hb⟩;have em:mBK 0 0 s= .iface 287 (.agg #[]):=rfl;rw [em];clear em;obtain⟨hk,hz⟩:=Qg (B:=w.heap.size+1) (X:=(w.alloc (.cells #[.int .i64 0,.int .i64 0,.string s] 156))) (by go_grown) (by go_size) hb;obtain⟨hC,hF,hL,hE⟩:=kp hb;clear hb))
 go_region_held3 (fun w'=>(∀bq oq,bq<w.heap.size+1→w'.cell? ⟨bq,oq,none⟩=(w.alloc (.cells #[.int .i64 0,.int .i64 0,.string s] 156)).cell? ⟨bq,oq,none⟩)∧w.heap.size+1≤w'.heap.size∧Below (w.heap.size+1) (w.alloc (.cells #[.int .i64 0,.int .i64 0,.string s] 156)) w')
  (exact Qp (by go_size) (by go_grown))
  (first
  | (go_at_call 364;refine(YO _).mono ?_;rintro e w1 ⟨rfl,hb⟩;obtain⟨hk,hz⟩:=Qg (B:=w.heap.size+1) (X:=(w.alloc (.cells #[.int .i64 0,.int .i64 0,.string s] 156))) (by go_grown) (by go_size) hb;clear hb)
  | (go_at_call 366;refine(Xu _).mono ?_;rintro e w1 ⟨rfl,hb⟩;obtain⟨hk,hz⟩:=Qg (B:=w.heap.size+1) (X:=(w.alloc (.cells #[.int .i64 0,.int .i64 0,.string s] 156))) (by go_grown) (by go_size) hb;clear hb))
 all_goals go_wp2_with fail
 all_goals
  go_ret;exact⟨rfl,ZT (n:=1) (X:=(w.alloc (.cells #[.int .i64 0,.int .i64 0,.string s] 156))) (by go_grown) (by go_grown)⟩
theorem Kj (s:ByteArray) (w:World) (hq: ¬s.toList= []):Calls Tryz.prog 245 #[.agg #[.int .i64 0,.int .i64 0,.string s]] w fun e w'=>
  e= .returned (mNo)∧Below w.heap.size w w':=by
 go_enter Tryz.func245,Tryz.ntmps245
 go_wp2_with (first
  | (go_at_call 282;refine(Qi _ _ _ _).mono ?_;rintro e w1 ⟨rfl,hb⟩;have em:mBK 0 0 s= .iface 287 (.agg #[]):=rfl;rw [em];clear em;obtain⟨hk,hz⟩:=Qg (B:=w.heap.size+1) (X:=(w.alloc (.cells #[.int .i64 0,.int .i64 0,.string s] 156))) (by go_grown) (by go_size) hb;obtain⟨hC,hF,hL,hE⟩:=kp hb;clear hb))
 go_region_held3 (fun w'=>(∀bq oq,bq<w.heap.size+1→w'.cell? ⟨bq,oq,none⟩=(w.alloc (.cells #[.int .i64 0,.int .i64 0,.string s] 156)).cell? ⟨bq,oq,none⟩)∧w.heap.size+1≤w'.heap.size∧Below (w.heap.size+1) (w.alloc (.cells #[.int .i64 0,.int .i64 0,.string s] 156)) w')
  (exact Qp (by go_size) (by go_grown))
  (first
  | (go_at_call 364;refine(YO _).mono ?_;rintro e w1 ⟨rfl,hb⟩;obtain⟨hk,hz⟩:=Qg (B:=w.heap.size+1) (X:=(w.alloc (.cells #[.int .i64 0,.int .i64 0,.string s] 156))) (by go_grown) (by go_size) hb;clear hb)
  | (go_at_call 366;refine(Xu _).mono ?_;rintro e w1 ⟨rfl,hb⟩;obtain⟨hk,hz⟩:=Qg (B:=w.heap.size+1) (X:=(w.alloc (.cells #[.int .i64 0,.int .i64 0,.string s] 156))) (by go_grown) (by go_size) hb;clear hb))
 all_goals go_wp2_with fail
 all_goals
  go_ret;exact⟨rfl,ZT (n:=1) (X:=(w.alloc (.cells #[.int .i64 0,.int .i64 0,.string s] 156))) (by go_grown) (by go_grown)⟩
theorem Kk (n:Int) (s:ByteArray) (w:World) (hq: ¬0=n):Calls Tryz.prog 245 #[.agg #[.int .i64 0,.int .i64 n,.string s]] w fun e w'=>
  e= .returned (mNo)∧Below w.heap.size w w':=by
 go_enter Tryz.func245,Tryz.ntmps245
 go_wp2_with (first
  | (go_at_call 282;refine(Qi _ _ _ _).mono ?_;rintro e w1 ⟨rfl,hb⟩;have em:mBK 0 n s= .iface 287 (.agg #[]):=rfl;rw [em];clear em;obtain⟨hk,hz⟩:=Qg (B:=w.heap.size+1) (X:=(w.alloc (.cells #[.int .i64 0,.int .i64 n,.string s] 156))) (by go_grown) (by go_size) hb;obtain⟨hC,hF,hL,hE⟩:=kp hb;clear hb))
 go_region_held3 (fun w'=>(∀bq oq,bq<w.heap.size+1→w'.cell? ⟨bq,oq,none⟩=(w.alloc (.cells #[.int .i64 0,.int .i64 n,.string s] 156)).cell? ⟨bq,oq,none⟩)∧w.heap.size+1≤w'.heap.size∧Below (w.heap.size+1) (w.alloc (.cells #[.int .i64 0,.int .i64 n,.string s] 156)) w')
  (exact Qp (by go_size) (by go_grown))
  (first
  | (go_at_call 364;refine(YO _).mono ?_;rintro e w1 ⟨rfl,hb⟩;obtain⟨hk,hz⟩:=Qg (B:=w.heap.size+1) (X:=(w.alloc (.cells #[.int .i64 0,.int .i64 n,.string s] 156))) (by go_grown) (by go_size) hb;clear hb)
  | (go_at_call 366;refine(Xu _).mono ?_;rintro e w1 ⟨rfl,hb⟩;obtain⟨hk,hz⟩:=Qg (B:=w.heap.size+1) (X:=(w.alloc (.cells #[.int .i64 0,.int .i64 n,.string s] 156))) (by go_grown) (by go_size) hb;clear hb))
 all_goals go_wp2_with fail
 all_goals
  go_ret;exact⟨rfl,ZT (n:=1) (X:=(w.alloc (.cells #[.int .i64 0,.int .i64 n,.string s] 156))) (by go_grown) (by go_grown)⟩
theorem Ve (n:Int) (s:ByteArray) (w:World) (hR:ZP n=true) (hq:s.toList= []):Calls Tryz.prog 245 #[.agg #[.int .i64 1,.int .i64 n,.string s]] w fun e w'=>
  e= .returned (.iface 253 (.int .i64 n))∧Below w.heap.size w w':=by
 go_enter Tryz.func245,Tryz.ntmps245
 go_wp2_with (first
  | (go_at_call 282;refine(Qi _ _ _ _).mono ?_;rintro e w1 ⟨rfl,hb⟩;have em:mBK 1 n s= .iface 253 (.int .i64 n):=rfl;rw [em];clear em;obtain⟨hk,hz⟩:=Qg (B:=w.heap.size+1) (X:=(w.alloc (.cells #[.int .i64 1,.int .i64 n,.string s] 156))) (by go_grown) (by go_size) hb;obtain⟨hC,hF,hL,hE⟩:=kp hb;clear hb))
 go_region_held3 (fun w'=>(∀bq oq,bq<w.heap.size+1→w'.cell? ⟨bq,oq,none⟩=(w.alloc (.cells #[.int .i64 1,.int .i64 n,.string s] 156)).cell? ⟨bq,oq,none⟩)∧w.heap.size+1≤w'.heap.size∧Below (w.heap.size+1) (w.alloc (.cells #[.int .i64 1,.int .i64 n,.string s] 156)) w')
  (exact Qp (by go_size) (by go_grown))
  (first
  | (go_at_call 359;refine(Zx _ _).mono ?_;rintro e w1 ⟨rfl,rfl⟩)
  | (go_at_call 243;refine(YX _ _).mono ?_;rintro e w1 ⟨rfl,hb⟩;obtain⟨hk,hz⟩:=Qg (B:=w.heap.size+1) (X:=(w.alloc (.cells #[.int .i64 1,.int .i64 n,.string s] 156))) (by go_grown) (by go_size) hb;clear hb))
 all_goals go_wp2_with fail
 all_goals
  go_ret;exact⟨rfl,ZT (n:=1) (X:=(w.alloc (.cells #[.int .i64 1,.int .i64 n,.string s] 156))) (by go_grown) (by go_grown)⟩
theorem Vg (n:Int) (s:ByteArray) (w:World) (hR:ZP n=true) (hq: ¬s.toList= []):Calls Tryz.prog 245 #[.agg #[.int .i64 1,.int .i64 n,.string s]] w fun e w'=>
  e= .returned (mNo)∧Below w.heap.size w w':=by
 go_enter Tryz.func245,Tryz.ntmps245
 go_wp2_with (first
  | (go_at_call 282;refine(Qi _ _ _ _).mono ?_;rintro e w1 ⟨rfl,hb⟩;have em:mBK 1 n s= .iface 253 (.int .i64 n):=rfl;rw [em];clear em;obtain⟨hk,hz⟩:=Qg (B:=w.heap.size+1) (X:=(w.alloc (.cells #[.int .i64 1,.int .i64 n,.string s] 156))) (by go_grown) (by go_size) hb;obtain⟨hC,hF,hL,hE⟩:=kp hb;clear hb))
 go_region_held3 (fun w'=>(∀bq oq,bq<w.heap.size+1→w'.cell? ⟨bq,oq,none⟩=(w.alloc (.cells #[.int .i64 1,.int .i64 n,.string s] 156)).cell? ⟨bq,oq,none⟩)∧w.heap.size+1≤w'.heap.size∧Below (w.heap.size+1) (w.alloc (.cells #[.int .i64 1,.int .i64 n,.string s] 156)) w')
  (exact Qp (by go_size) (by go_grown))
  (first
  | (go_at_call 359;refine(Zx _ _).mono ?_;rintro e w1 ⟨rfl,rfl⟩)
  | (go_at_call 243;refine(YX _ _).mono ?_;rintro e w1 ⟨rfl,hb⟩;obtain⟨hk,hz⟩:=Qg (B:=w.heap.size+1) (X:=(w.alloc (.cells #[.int .i64 1,.int .i64 n,.string s] 156))) (by go_grown) (by go_size) hb;clear hb))
 all_goals go_wp2_with fail
 all_goals
  go_ret;exact⟨rfl,ZT (n:=1) (X:=(w.alloc (.cells #[.int .i64 1,.int .i64 n,.string s] 156))) (by go_grown) (by go_grown)⟩
theorem VZ (n:Int) (s:ByteArray) (w:World) (hR:YE n=true) (hq:s.toList= []):Calls Tryz.prog 245 #[.agg #[.int .i64 3,.int .i64 n,.string s]] w fun e w'=>
  e= .returned (.iface 288 (.int .i64 n))∧Below w.heap.size w w':=by
 go_enter Tryz.func245,Tryz.ntmps245
 go_wp2_with (first
  | (go_at_call 282;refine(Qi _ _ _ _).mono ?_;rintro e w1 ⟨rfl,hb⟩;have em:mBK 3 n s= .iface 288 (.int .i64 n):=rfl;rw [em];clear em;obtain⟨hk,hz⟩:=Qg (B:=w.heap.size+1) (X:=(w.alloc (.cells #[.int .i64 3,.int .i64 n,.string s] 156))) (by go_grown) (by go_size) hb;obtain⟨hC,hF,hL,hE⟩:=kp hb;clear hb))
 go_region_held3 (fun w'=>(∀bq oq,bq<w.heap.size+1→w'.cell? ⟨bq,oq,none⟩=(w.alloc (.cells #[.int .i64 3,.int .i64 n,.string s] 156)).cell? ⟨bq,oq,none⟩)∧w.heap.size+1≤w'.heap.size∧Below (w.heap.size+1) (w.alloc (.cells #[.int .i64 3,.int .i64 n,.string s] 156)) w')
  (exact Qp (by go_size) (by go_grown))
  (first
  | (go_at_call 367;refine(Yh _ _).mono ?_;rintro e w1 ⟨rfl,rfl⟩)
  | (go_at_call 368;refine(JW _ _).mono ?_;rintro e w1 ⟨rfl,hb⟩;obtain⟨hk,hz⟩:=Qg (B:=w.heap.size+1) (X:=(w.alloc (.cells #[.int .i64 3,.int .i64 n,.string s] 156))) (by go_grown) (by go_size) hb;clear hb))
 all_goals go_wp2_with fail
 all_goals
  go_ret;exact⟨rfl,ZT (n:=1) (X:=(w.alloc (.cells #[.int .i64 3,.int .i64 n,.string s] 156))) (by go_grown) (by go_grown)⟩
theorem Kh (n:Int) (s:ByteArray) (w:World) (hR:YE n=true) (hq: ¬s.toList= []):Calls Tryz.prog 245 #[.agg #[.int .i64 3,.int .i64 n,.string s]] w fun e w'=>
  e= .returned (mNo)∧Below w.heap.size w w':=by
 go_enter Tryz.func245,Tryz.ntmps245
 go_wp2_with (first
  | (go_at_call 282;refine(Qi _ _ _ _).mono ?_;rintro e w1 ⟨rfl,hb⟩;have em:mBK 3 n s= .iface 288 (.int .i64 n):=rfl;rw [em];clear em;obtain⟨hk,hz⟩:=Qg (B:=w.heap.size+1) (X:=(w.alloc (.cells #[.int .i64 3,.int .i64 n,.string s] 156))) (by go_grown) (by go_size) hb;obtain⟨hC,hF,hL,hE⟩:=kp hb;clear hb))
 go_region_held3 (fun w'=>(∀bq oq,bq<w.heap.size+1→w'.cell? ⟨bq,oq,none⟩=(w.alloc (.cells #[.int .i64 3,.int .i64 n,.string s] 156)).cell? ⟨bq,oq,none⟩)∧w.heap.size+1≤w'.heap.size∧Below (w.heap.size+1) (w.alloc (.cells #[.int .i64 3,.int .i64 n,.string s] 156)) w')
  (exact Qp (by go_size) (by go_grown))
  (first
  | (go_at_call 367;refine(Yh _ _).mono ?_;rintro e w1 ⟨rfl,rfl⟩)
  | (go_at_call 368;refine(JW _ _).mono ?_;rintro e w1 ⟨rfl,hb⟩;obtain⟨hk,hz⟩:=Qg (B:=w.heap.size+1) (X:=(w.alloc (.cells #[.int .i64 3,.int .i64 n,.string s] 156))) (by go_grown) (by go_size) hb;clear hb))
 all_goals go_wp2_with fail
 all_goals
  go_ret;exact⟨rfl,ZT (n:=1) (X:=(w.alloc (.cells #[.int .i64 3,.int .i64 n,.string s] 156))) (by go_grown) (by go_grown)⟩
theorem JN (n:Int) (s:ByteArray) (w:World) (hR:XO n=true) (hq:s.toList= []):Calls Tryz.prog 245 #[.agg #[.int .i64 4,.int .i64 n,.string s]] w fun e w'=>
  e= .returned (.iface 289 (.int .i64 n))∧Below w.heap.size w w':=by
 go_enter Tryz.func245,Tryz.ntmps245
 go_wp2_with (first
  | (go_at_call 282;refine(Qi _ _ _ _).mono ?_;rintro e w1 ⟨rfl,hb⟩;have em:mBK 4 n s= .iface 289 (.int .i64 n):=rfl;rw [em];clear em;obtain⟨hk,hz⟩:=Qg (B:=w.heap.size+1) (X:=(w.alloc (.cells #[.int .i64 4,.int .i64 n,.string s] 156))) (by go_grown) (by go_size) hb;obtain⟨hC,hF,hL,hE⟩:=kp hb;clear hb))
 go_region_held3 (fun w'=>(∀bq oq,bq<w.heap.size+1→w'.cell? ⟨bq,oq,none⟩=(w.alloc (.cells #[.int .i64 4,.int .i64 n,.string s] 156)).cell? ⟨bq,oq,none⟩)∧w.heap.size+1≤w'.heap.size∧Below (w.heap.size+1) (w.alloc (.cells #[.int .i64 4,.int .i64 n,.string s] 156)) w')
  (exact Qp (by go_size) (by go_grown))
  (first
  | (go_at_call 369;refine(Zr _ _).mono ?_;rintro e w1 ⟨rfl,rfl⟩)
  | (go_at_call 291;refine(Xz _ _).mono ?_;rintro e w1 ⟨rfl,hb⟩;obtain⟨hk,hz⟩:=Qg (B:=w.heap.size+1) (X:=(w.alloc (.cells #[.int .i64 4,.int .i64 n,.string s] 156))) (by go_grown) (by go_size) hb;clear hb))
 all_goals go_wp2_with fail
 all_goals
  go_ret;exact⟨rfl,ZT (n:=1) (X:=(w.alloc (.cells #[.int .i64 4,.int .i64 n,.string s] 156))) (by go_grown) (by go_grown)⟩
theorem JP (n:Int) (s:ByteArray) (w:World) (hR:XO n=true) (hq: ¬s.toList= []):Calls Tryz.prog 245 #[.agg #[.int .i64 4,.int .i64 n,.string s]] w fun e w'=>
  e= .returned (mNo)∧Below w.heap.size w w':=by
 go_enter Tryz.func245,Tryz.ntmps245
 go_wp2_with (first
  | (go_at_call 282;refine(Qi _ _ _ _).mono ?_;rintro e w1 ⟨rfl,hb⟩;have em:mBK 4 n s= .iface 289 (.int .i64 n):=rfl;rw [em];clear em;obtain⟨hk,hz⟩:=Qg (B:=w.heap.size+1) (X:=(w.alloc (.cells #[.int .i64 4,.int .i64 n,.string s] 156))) (by go_grown) (by go_size) hb;obtain⟨hC,hF,hL,hE⟩:=kp hb;clear hb))
 go_region_held3 (fun w'=>(∀bq oq,bq<w.heap.size+1→w'.cell? ⟨bq,oq,none⟩=(w.alloc (.cells #[.int .i64 4,.int .i64 n,.string s] 156)).cell? ⟨bq,oq,none⟩)∧w.heap.size+1≤w'.heap.size∧Below (w.heap.size+1) (w.alloc (.cells #[.int .i64 4,.int .i64 n,.string s] 156)) w')
  (exact Qp (by go_size) (by go_grown))
  (first
  | (go_at_call 369;refine(Zr _ _).mono ?_;rintro e w1 ⟨rfl,rfl⟩)
  | (go_at_call 291;refine(Xz _ _).mono ?_;rintro e w1 ⟨rfl,hb⟩;obtain⟨hk,hz⟩:=Qg (B:=w.heap.size+1) (X:=(w.alloc (.cells #[.int .i64 4,.int .i64 n,.string s] 156))) (by go_grown) (by go_size) hb;clear hb))
 all_goals go_wp2_with fail
 all_goals
  go_ret;exact⟨rfl,ZT (n:=1) (X:=(w.alloc (.cells #[.int .i64 4,.int .i64 n,.string s] 156))) (by go_grown) (by go_grown)⟩
theorem JK (s:ByteArray) (w:World) (hs:Hid (s.size≤maxLen)) (hR:QE s=true):Calls Tryz.prog 245 #[.agg #[.int .i64 2,.int .i64 0,.string s]] w fun e w'=>
  e= .returned (.iface 219 (.string s))∧Below w.heap.size w w':=by
 go_enter Tryz.func245,Tryz.ntmps245
 go_wp2_with (first
  | (go_at_call 282;refine(Qi _ _ _ _).mono ?_;rintro e w1 ⟨rfl,hb⟩;have em:mBK 2 0 s= .iface 219 (.string s):=rfl;rw [em];clear em;obtain⟨hk,hz⟩:=Qg (B:=w.heap.size+1) (X:=(w.alloc (.cells #[.int .i64 2,.int .i64 0,.string s] 156))) (by go_grown) (by go_size) hb;obtain⟨hC,hF,hL,hE⟩:=kp hb;clear hb))
 go_region_held3 (fun w'=>(∀bq oq,bq<w.heap.size+1→w'.cell? ⟨bq,oq,none⟩=(w.alloc (.cells #[.int .i64 2,.int .i64 0,.string s] 156)).cell? ⟨bq,oq,none⟩)∧w.heap.size+1≤w'.heap.size∧Below (w.heap.size+1) (w.alloc (.cells #[.int .i64 2,.int .i64 0,.string s] 156)) w')
  (exact Qp (by go_size) (by go_grown))
  (first
  | (go_at_call 356;refine(Zq _ _ hs.out).mono ?_;rintro e w1 ⟨rfl,rfl⟩)
  | (go_at_call 326;refine(YA _ _).mono ?_;rintro e w1 ⟨rfl,hb⟩;obtain⟨hk,hz⟩:=Qg (B:=w.heap.size+1) (X:=(w.alloc (.cells #[.int .i64 2,.int .i64 0,.string s] 156))) (by go_grown) (by go_size) hb;clear hb))
 all_goals go_wp2_with fail
 all_goals
  go_ret;exact⟨rfl,ZT (n:=1) (X:=(w.alloc (.cells #[.int .i64 2,.int .i64 0,.string s] 156))) (by go_grown) (by go_grown)⟩
theorem JM (n:Int) (s:ByteArray) (w:World) (hs:Hid (s.size≤maxLen)) (hR:QE s=true) (hq: ¬0=n):Calls Tryz.prog 245 #[.agg #[.int .i64 2,.int .i64 n,.string s]] w fun e w'=>
  e= .returned (mNo)∧Below w.heap.size w w':=by
 go_enter Tryz.func245,Tryz.ntmps245
 go_wp2_with (first
  | (go_at_call 282;refine(Qi _ _ _ _).mono ?_;rintro e w1 ⟨rfl,hb⟩;have em:mBK 2 n s= .iface 219 (.string s):=rfl;rw [em];clear em;obtain⟨hk,hz⟩:=Qg (B:=w.heap.size+1) (X:=(w.alloc (.cells #[.int .i64 2,.int .i64 n,.string s] 156))) (by go_grown) (by go_size) hb;obtain⟨hC,hF,hL,hE⟩:=kp hb;clear hb))
 go_region_held3 (fun w'=>(∀bq oq,bq<w.heap.size+1→w'.cell? ⟨bq,oq,none⟩=(w.alloc (.cells #[.int .i64 2,.int .i64 n,.string s] 156)).cell? ⟨bq,oq,none⟩)∧w.heap.size+1≤w'.heap.size∧Below (w.heap.size+1) (w.alloc (.cells #[.int .i64 2,.int .i64 n,.string s] 156)) w')
  (exact Qp (by go_size) (by go_grown))
  (first
  | (go_at_call 356;refine(Zq _ _ hs.out).mono ?_;rintro e w1 ⟨rfl,rfl⟩)
  | (go_at_call 326;refine(YA _ _).mono ?_;rintro e w1 ⟨rfl,hb⟩;obtain⟨hk,hz⟩:=Qg (B:=w.heap.size+1) (X:=(w.alloc (.cells #[.int .i64 2,.int .i64 n,.string s] 156))) (by go_grown) (by go_size) hb;clear hb))
 all_goals go_wp2_with fail
 all_goals
  go_ret;exact⟨rfl,ZT (n:=1) (X:=(w.alloc (.cells #[.int .i64 2,.int .i64 n,.string s] 156))) (by go_grown) (by go_grown)⟩
end Go.Proofs.YtbdhinckiccniaaGreatDoor
