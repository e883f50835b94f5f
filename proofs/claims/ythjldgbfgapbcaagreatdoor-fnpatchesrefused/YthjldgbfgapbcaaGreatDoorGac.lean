import Derived.Test.YthjldgbfgapbcaaGreatDoorGaa
import Derived.Deep.RegionHeld3
import Derived.Deep.DeepCutAuto
import Derived.Laws.StructEq
set_option linter.unusedSimpArgs false
set_option linter.unusedVariables false
set_option maxHeartbeats 1000000
namespace Go.Proofs.YthjldgbfgapbcaaGreatDoor
open Go.RowKit
def Zu (l:List UInt8):Bool:=l.all fun b=>decide (32≤b.toNat∧b.toNat≤126)
def mBK (k n:Int) (s:ByteArray):Value:=
 if k=0 then .iface 174 (.agg #[])else if k=1 then .iface 149 (.int .i64 n)else if k=2 then .iface 132 (.string s)
 else if k=3 then .iface 175 (.int .i64 n)else if k=4 then .iface 176 (.int .i64 n)else .iface 173 (.agg #[])
def mNo:Value:= .iface 173 (.agg #[])
theorem Xw {a b:Value} (h:a=b):Ending.returned a= .returned b:=by rw [h]
theorem Qk (k n:Int) (s:ByteArray) (w:World):Calls Tryz.prog 138 #[.agg #[.int .i64 k,.int .i64 n,.string s]] w fun e w'=>
  e= .returned (mBK k n s)∧Below w.heap.size w w':=by
 by_cases h0:k=0
 ·subst h0;go_enter Tryz.func138,Tryz.ntmps138;go_wp2
  go_ret;exact⟨Xw (by simp [mBK]),by go_grown⟩
 by_cases h1:k=1
 ·subst h1;go_enter Tryz.func138,Tryz.ntmps138;go_wp2
  go_ret;exact⟨Xw (by simp [mBK]),by go_grown⟩
 by_cases h2:k=2
 ·subst h2;go_enter Tryz.func138,Tryz.ntmps138;go_wp2
  go_ret;exact⟨Xw (by simp [mBK]),by go_grown⟩
 by_cases h3:k=3
 ·subst h3;go_enter Tryz.func138,Tryz.ntmps138;go_wp2
  go_ret;exact⟨Xw (by simp [mBK]),by go_grown⟩
 by_cases h4:k=4
 ·subst h4;go_enter Tryz.func138,Tryz.ntmps138;go_wp2
  go_ret;exact⟨Xw (by simp [mBK]),by go_grown⟩
 ·have e0:(k==0)=false:=by simpa using h0
  have e1:(k==1)=false:=by simpa using h1
  have e2:(k==2)=false:=by simpa using h2
  have e3:(k==3)=false:=by simpa using h3
  have e4:(k==4)=false:=by simpa using h4
  go_enter Tryz.func138,Tryz.ntmps138;go_wp2
  go_ret;exact⟨Xw (by simp [mBK,h0,h1,h2,h3,h4]),by go_grown⟩
def Zy (n:Int):Bool:=decide (-1000000000000000≤n∧n≤1000000000000000)
def ZQ (n:Int):Bool:=decide (n=0∨n=1)
def XF (n:Int):Bool:=decide (1≤n∧n≤5)
def Qz (s:ByteArray):Bool:=decide (s.size≤200)&&Zu s.data.toList
theorem ZE (n:Int) (w:World):Calls Tryz.prog 268 #[.int .i64 n] w fun e w'=>
  e= .returned (.bool (Zy n))∧w'=w:=by
 go_enter Tryz.func268,Tryz.ntmps268;go_wp2
 all_goals
  go_ret;refine⟨Qb ?_,rfl⟩;rw [Bool.eq_iff_iff];unfold Zy;simp;try omega
theorem Yg (n:Int) (w:World):Calls Tryz.prog 276 #[.int .i64 n] w fun e w'=>
  e= .returned (.bool (ZQ n))∧w'=w:=by
 go_enter Tryz.func276,Tryz.ntmps276;go_wp2
 all_goals
  go_ret;refine⟨Qb ?_,rfl⟩;rw [Bool.eq_iff_iff];unfold ZQ;simp;try omega
theorem Zt (n:Int) (w:World):Calls Tryz.prog 278 #[.int .i64 n] w fun e w'=>
  e= .returned (.bool (XF n))∧w'=w:=by
 go_enter Tryz.func278,Tryz.ntmps278;go_wp2
 all_goals
  go_ret;refine⟨Qb ?_,rfl⟩;rw [Bool.eq_iff_iff];unfold XF;simp;try omega
theorem XY (w:World):Calls Tryz.prog 270 #[.agg #[]] w fun e w'=>
  e= .returned (.bool (false))∧Below w.heap.size w w':=by
 go_enter Tryz.func270,Tryz.ntmps270;go_wp2
 all_goals
  go_ret;refine⟨Qb ?_,by go_grown⟩;rfl
theorem YK (w:World):Calls Tryz.prog 273 #[.agg #[]] w fun e w'=>
  e= .returned (.bool (true))∧Below w.heap.size w w':=by
 go_enter Tryz.func273,Tryz.ntmps273;go_wp2
 all_goals
  go_ret;refine⟨Qb ?_,by go_grown⟩;rfl
theorem YW (n:Int) (w:World):Calls Tryz.prog 115 #[.int .i64 n] w fun e w'=>
  e= .returned (.agg #[.int .i64 1,.int .i64 n,.string ⟨#[]⟩])∧Below w.heap.size w w':=by
 go_enter Tryz.func115,Tryz.ntmps115;go_wp2
 go_returns
 exact⟨rfl,by go_grown⟩
theorem JH (n:Int) (w:World):Calls Tryz.prog 277 #[.int .i64 n] w fun e w'=>
  e= .returned (.agg #[.int .i64 3,.int .i64 n,.string ⟨#[]⟩])∧Below w.heap.size w w':=by
 go_enter Tryz.func277,Tryz.ntmps277;go_wp2
 go_returns
 exact⟨rfl,by go_grown⟩
theorem Xr (n:Int) (w:World):Calls Tryz.prog 279 #[.int .i64 n] w fun e w'=>
  e= .returned (.agg #[.int .i64 4,.int .i64 n,.string ⟨#[]⟩])∧Below w.heap.size w w':=by
 go_enter Tryz.func279,Tryz.ntmps279;go_wp2
 go_returns
 exact⟨rfl,by go_grown⟩
theorem Yz (s:ByteArray) (w:World):Calls Tryz.prog 218 #[.string s] w fun e w'=>
  e= .returned (.agg #[.int .i64 2,.int .i64 0,.string s])∧Below w.heap.size w w':=by
 go_enter Tryz.func218,Tryz.ntmps218;go_wp2
 go_returns
 exact⟨rfl,by go_grown⟩
theorem Xn (w:World):Calls Tryz.prog 275 #[.agg #[]] w fun e w'=>
  e= .returned (.agg #[.int .i64 0,.int .i64 0,.string ⟨#[]⟩])∧Below w.heap.size w w':=by
 go_enter Tryz.func275,Tryz.ntmps275;go_wp2
 go_returns
 exact⟨rfl,by go_grown⟩
theorem Uq (s:ByteArray) (k:Nat) (h:k<s.size):Zu (s.data.toList.take (k+1))=(Zu (s.data.toList.take k)&&decide (32≤s[k].toNat∧s[k].toNat≤126)):=by
 have e:s.data.toList.take (k+1)=s.data.toList.take k++ [s[k]]:=by
  rw [List.take_succ_eq_append_getElem (by simpa using h)];rfl
 rw [e];simp [Zu]
theorem By (s:ByteArray) (k:Nat) (h:k<s.size) (hb: ¬(32≤s[k].toNat∧s[k].toNat≤126)):Zu s.data.toList=false:=by
 cases e:Zu s.data.toList
 ·rfl
 ·have:=List.all_eq_true.1 e s[k] (Array.mem_toList_iff.2 (Array.getElem_mem h));exact absurd (of_decide_eq_true this) hb
theorem Ja (s:ByteArray) (w:World) (hs:s.size≤maxLen):Calls Tryz.prog 72 #[.string s] w fun e w'=>
  e= .returned (.bool (Zu s.data.toList))∧w'=w:=by
 unfold maxLen at hs;go_enter Tryz.func72,Tryz.ntmps72;go_wp2_with fail
 go_loop [6] (fun v=> ∃k:Nat,k≤s.size∧v= .int .i64 k∧Zu (s.data.toList.take k)=true) (fun v=>s.size-(intOf v).toNat)
 case atStart=>exact⟨0,by omega,rfl,rfl⟩
 case round=>
  obtain⟨k,hk,rfl,hr⟩:=hrel;have HR:Hid (Zu (s.data.toList.take k)=true):=hr;clear hr;by_cases hlt:k<s.size
  ·have HT:Hid (Zu (s.data.toList.take (k+1))=(Zu (s.data.toList.take k)&&decide (32≤s[k].toNat∧s[k].toNat≤126))):=Uq s k hlt;by_cases hb:32≤s[k].toNat∧s[k].toNat≤126
   ·have hb1: ¬((s[k].toNat:Int)<32):=by omega
    have hb2: ¬(126<(s[k].toNat:Int)):=by omega
    go_wp2
    all_goals
     go_round
     case rel=>exact⟨k+1,by omega,by go_num,by rw [HT.out,HR.out];simp;omega⟩
     case measure=>simp [intOf];omega
   ·have HF:Hid (Zu s.data.toList=false):=By s k hlt hb;by_cases hb1:(s[k].toNat:Int)<32
    ·go_wp2
     go_ret;exact⟨Qb HF.out.symm,rfl⟩
    ·have hb2:126<(s[k].toNat:Int):=by omega
     go_wp2
     go_ret;exact⟨Qb HF.out.symm,rfl⟩
  ·go_wp2
   go_ret;have HA:=HR.out;rw [List.take_of_length_le (by simp;omega)]at HA;exact⟨Qb HA.symm,rfl⟩
theorem Zs (s:ByteArray) (w:World) (hs:s.size≤maxLen):Calls Tryz.prog 267 #[.string s] w fun e w'=>
  e= .returned (.bool (Qz s))∧w'=w:=by
 have hs':=hs;unfold maxLen at hs';go_enter Tryz.func267,Tryz.ntmps267
 go_wp2_with (first
  | (go_at_call 72;refine(Ja _ _ hs).mono ?_;rintro e w1 ⟨rfl,rfl⟩))
 all_goals
  go_ret;refine⟨Qb ?_,rfl⟩;unfold Qz;simp_all
  try omega
theorem VO (s:ByteArray) (w:World) (hq:s.toList= []):Calls Tryz.prog 117 #[.agg #[.int .i64 0,.int .i64 0,.string s]] w fun e w'=>
  e= .returned (.iface 174 (.agg #[]))∧Below w.heap.size w w':=by
 go_enter Tryz.func117,Tryz.ntmps117
 go_wp2_with (first
  | (go_at_call 138;refine(Qk _ _ _ _).mono ?_;rintro e w1 ⟨rfl,hb⟩;have em:mBK 0 0 s= .iface 174 (.agg #[]):=rfl;rw [em];clear em;obtain⟨hk,hz⟩:=Qi (B:=w.heap.size+1) (X:=(w.alloc (.cells #[.int .i64 0,.int .i64 0,.string s] 85))) (by go_grown) (by go_size) hb;obtain⟨hC,hF,hL,hE⟩:=kp hb;clear hb))
 go_region_held3 (fun w'=>(∀bq oq,bq<w.heap.size+1→w'.cell? ⟨bq,oq,none⟩=(w.alloc (.cells #[.int .i64 0,.int .i64 0,.string s] 85)).cell? ⟨bq,oq,none⟩)∧w.heap.size+1≤w'.heap.size∧Below (w.heap.size+1) (w.alloc (.cells #[.int .i64 0,.int .i64 0,.string s] 85)) w')
  (exact Qm (by go_size) (by go_grown))
  (first
  | (go_at_call 273;refine(YK _).mono ?_;rintro e w1 ⟨rfl,hb⟩;obtain⟨hk,hz⟩:=Qi (B:=w.heap.size+1) (X:=(w.alloc (.cells #[.int .i64 0,.int .i64 0,.string s] 85))) (by go_grown) (by go_size) hb;clear hb)
  | (go_at_call 275;refine(Xn _).mono ?_;rintro e w1 ⟨rfl,hb⟩;obtain⟨hk,hz⟩:=Qi (B:=w.heap.size+1) (X:=(w.alloc (.cells #[.int .i64 0,.int .i64 0,.string s] 85))) (by go_grown) (by go_size) hb;clear hb))
 all_goals go_wp2_with fail
 all_goals
  go_ret;exact⟨rfl,Yd (n:=1) (X:=(w.alloc (.cells #[.int .i64 0,.int .i64 0,.string s] 85))) (by go_grown) (by go_grown)⟩
theorem VP (s:ByteArray) (w:World) (hq: ¬s.toList= []):Calls Tryz.prog 117 #[.agg #[.int .i64 0,.int .i64 0,.string s]] w fun e w'=>
  e= .returned (mNo)∧Below w.heap.size w w':=by
 go_enter Tryz.func117,Tryz.ntmps117
 go_wp2_with (first
  | (go_at_call 138;refine(Qk _ _ _ _).mono ?_;rintro e w1 ⟨rfl,hb⟩;have em:mBK 0 0 s= .iface 174 (.agg #[]):=rfl;rw [em];clear em;obtain⟨hk,hz⟩:=Qi (B:=w.heap.size+1) (X:=(w.alloc (.cells #[.int .i64 0,.int .i64 0,.string s] 85))) (by go_grown) (by go_size) hb;obtain⟨hC,hF,hL,hE⟩:=kp hb;clear hb))
 go_region_held3 (fun w'=>(∀bq oq,bq<w.heap.size+1→w'.cell? ⟨bq,oq,none⟩=(w.alloc (.cells #[.int .i64 0,.int .i64 0,.string s] 85)).cell? ⟨bq,oq,none⟩)∧w.heap.size+1≤w'.heap.size∧Below (w.heap.size+1) (w.alloc (.cells #[.int .i64 0,.int .i64 0,.string s] 85)) w')
  (exact Qm (by go_size) (by go_grown))
  (first
  | (go_at_call 273;refine(YK _).mono ?_;rintro e w1 ⟨rfl,hb⟩;obtain⟨hk,hz⟩:=Qi (B:=w.heap.size+1) (X:=(w.alloc (.cells #[.int .i64 0,.int .i64 0,.string s] 85))) (by go_grown) (by go_size) hb;clear hb)
  | (go_at_call 275;refine(Xn _).mono ?_;rintro e w1 ⟨rfl,hb⟩;obtain⟨hk,hz⟩:=Qi (B:=w.heap.size+1) (X:=(w.alloc (.cells #[.int .i64 0,.int .i64 0,.string s] 85))) (by go_grown) (by go_size) hb;clear hb))
 all_goals go_wp2_with fail
 all_goals
  go_ret;exact⟨rfl,Yd (n:=1) (X:=(w.alloc (.cells #[.int .i64 0,.int .i64 0,.string s] 85))) (by go_grown) (by go_grown)⟩
theorem VQ (n:Int) (s:ByteArray) (w:World) (hq: ¬0=n):Calls Tryz.prog 117 #[.agg #[.int .i64 0,.int .i64 n,.string s]] w fun e w'=>
  e= .returned (mNo)∧Below w.heap.size w w':=by
 go_enter Tryz.func117,Tryz.ntmps117
 go_wp2_with (first
  | (go_at_call 138;refine(Qk _ _ _ _).mono ?_;rintro e w1 ⟨rfl,hb⟩;have em:mBK 0 n s= .iface 174 (.agg #[]):=rfl;rw [em];clear em;obtain⟨hk,hz⟩:=Qi (B:=w.heap.size+1) (X:=(w.alloc (.cells #[.int .i64 0,.int .i64 n,.string s] 85))) (by go_grown) (by go_size) hb;obtain⟨hC,hF,hL,hE⟩:=kp hb;clear hb))
 go_region_held3 (fun w'=>(∀bq oq,bq<w.heap.size+1→w'.cell? ⟨bq,oq,none⟩=(w.alloc (.cells #[.int .i64 0,.int .i64 n,.string s] 85)).cell? ⟨bq,oq,none⟩)∧w.heap.size+1≤w'.heap.size∧Below (w.heap.size+1) (w.alloc (.cells #[.int .i64 0,.int .i64 n,.string s] 85)) w')
  (exact Qm (by go_size) (by go_grown))
  (first
  | (go_at_call 273;refine(YK _).mono ?_;rintro e w1 ⟨rfl,hb⟩;obtain⟨hk,hz⟩:=Qi (B:=w.heap.size+1) (X:=(w.alloc (.cells #[.int .i64 0,.int .i64 n,.string s] 85))) (by go_grown) (by go_size) hb;clear hb)
  | (go_at_call 275;refine(Xn _).mono ?_;rintro e w1 ⟨rfl,hb⟩;obtain⟨hk,hz⟩:=Qi (B:=w.heap.size+1) (X:=(w.alloc (.cells #[.int .i64 0,.int .i64 n,.string s] 85))) (by go_grown) (by go_size) hb;clear hb))
 all_goals go_wp2_with fail
 all_goals
  go_ret;exact⟨rfl,Yd (n:=1) (X:=(w.alloc (.cells #[.int .i64 0,.int .i64 n,.string s] 85))) (by go_grown) (by go_grown)⟩
theorem JS (n:Int) (s:ByteArray) (w:World) (hR:Zy n=true) (hq:s.toList= []):Calls Tryz.prog 117 #[.agg #[.int .i64 1,.int .i64 n,.string s]] w fun e w'=>
  e= .returned (.iface 149 (.int .i64 n))∧Below w.heap.size w w':=by
 go_enter Tryz.func117,Tryz.ntmps117
 go_wp2_with (first
  | (go_at_call 138;refine(Qk _ _ _ _).mono ?_;rintro e w1 ⟨rfl,hb⟩;have em:mBK 1 n s= .iface 149 (.int .i64 n):=rfl;rw [em];clear em;obtain⟨hk,hz⟩:=Qi (B:=w.heap.size+1) (X:=(w.alloc (.cells #[.int .i64 1,.int .i64 n,.string s] 85))) (by go_grown) (by go_size) hb;obtain⟨hC,hF,hL,hE⟩:=kp hb;clear hb))
 go_region_held3 (fun w'=>(∀bq oq,bq<w.heap.size+1→w'.cell? ⟨bq,oq,none⟩=(w.alloc (.cells #[.int .i64 1,.int .i64 n,.string s] 85)).cell? ⟨bq,oq,none⟩)∧w.heap.size+1≤w'.heap.size∧Below (w.heap.size+1) (w.alloc (.cells #[.int .i64 1,.int .i64 n,.string s] 85)) w')
  (exact Qm (by go_size) (by go_grown))
  (first
  | (go_at_call 268;refine(ZE _ _).mono ?_;rintro e w1 ⟨rfl,rfl⟩)
  | (go_at_call 115;refine(YW _ _).mono ?_;rintro e w1 ⟨rfl,hb⟩;obtain⟨hk,hz⟩:=Qi (B:=w.heap.size+1) (X:=(w.alloc (.cells #[.int .i64 1,.int .i64 n,.string s] 85))) (by go_grown) (by go_size) hb;clear hb))
 all_goals go_wp2_with fail
 all_goals
  go_ret;exact⟨rfl,Yd (n:=1) (X:=(w.alloc (.cells #[.int .i64 1,.int .i64 n,.string s] 85))) (by go_grown) (by go_grown)⟩
theorem JU (n:Int) (s:ByteArray) (w:World) (hR:Zy n=true) (hq: ¬s.toList= []):Calls Tryz.prog 117 #[.agg #[.int .i64 1,.int .i64 n,.string s]] w fun e w'=>
  e= .returned (mNo)∧Below w.heap.size w w':=by
 go_enter Tryz.func117,Tryz.ntmps117
 go_wp2_with (first
  | (go_at_call 138;refine(Qk _ _ _ _).mono ?_;rintro e w1 ⟨rfl,hb⟩;have em:mBK 1 n s= .iface 149 (.int .i64 n):=rfl;rw [em];clear em;obtain⟨hk,hz⟩:=Qi (B:=w.heap.size+1) (X:=(w.alloc (.cells #[.int .i64 1,.int .i64 n,.string s] 85))) (by go_grown) (by go_size) hb;obtain⟨hC,hF,hL,hE⟩:=kp hb;clear hb))
 go_region_held3 (fun w'=>(∀bq oq,bq<w.heap.size+1→w'.cell? ⟨bq,oq,none⟩=(w.alloc (.cells #[.int .i64 1,.int .i64 n,.string s] 85)).cell? ⟨bq,oq,none⟩)∧w.heap.size+1≤w'.heap.size∧Below (w.heap.size+1) (w.alloc (.cells #[.int .i64 1,.int .i64 n,.string s] 85)) w')
  (exact Qm (by go_size) (by go_grown))
  (first
  | (go_at_call 268;refine(ZE _ _).mono ?_;rintro e w1 ⟨rfl,rfl⟩)
  | (go_at_call 115;refine(YW _ _).mono ?_;rintro e w1 ⟨rfl,hb⟩;obtain⟨hk,hz⟩:=Qi (B:=w.heap.size+1) (X:=(w.alloc (.cells #[.int .i64 1,.int .i64 n,.string s] 85))) (by go_grown) (by go_size) hb;clear hb))
 all_goals go_wp2_with fail
 all_goals
  go_ret;exact⟨rfl,Yd (n:=1) (X:=(w.alloc (.cells #[.int .i64 1,.int .i64 n,.string s] 85))) (by go_grown) (by go_grown)⟩
theorem VL (n:Int) (s:ByteArray) (w:World) (hR:ZQ n=true) (hq:s.toList= []):Calls Tryz.prog 117 #[.agg #[.int .i64 3,.int .i64 n,.string s]] w fun e w'=>
  e= .returned (.iface 175 (.int .i64 n))∧Below w.heap.size w w':=by
 go_enter Tryz.func117,Tryz.ntmps117
 go_wp2_with (first
  | (go_at_call 138;refine(Qk _ _ _ _).mono ?_;rintro e w1 ⟨rfl,hb⟩;have em:mBK 3 n s= .iface 175 (.int .i64 n):=rfl;rw [em];clear em;obtain⟨hk,hz⟩:=Qi (B:=w.heap.size+1) (X:=(w.alloc (.cells #[.int .i64 3,.int .i64 n,.string s] 85))) (by go_grown) (by go_size) hb;obtain⟨hC,hF,hL,hE⟩:=kp hb;clear hb))
 go_region_held3 (fun w'=>(∀bq oq,bq<w.heap.size+1→w'.cell? ⟨bq,oq,none⟩=(w.alloc (.cells #[.int .i64 3,.int .i64 n,.string s] 85)).cell? ⟨bq,oq,none⟩)∧w.heap.size+1≤w'.heap.size∧Below (w.heap.size+1) (w.alloc (.cells #[.int .i64 3,.int .i64 n,.string s] 85)) w')
  (exact Qm (by go_size) (by go_grown))
  (first
  | (go_at_call 276;refine(Yg _ _).mono ?_;rintro e w1 ⟨rfl,rfl⟩)
  | (go_at_call 277;refine(JH _ _).mono ?_;rintro e w1 ⟨rfl,hb⟩;obtain⟨hk,hz⟩:=Qi (B:=w.heap.size+1) (X:=(w.alloc (.cells #[.int .i64 3,.int .i64 n,.string s] 85))) (by go_grown) (by go_size) hb;clear hb))
 all_goals go_wp2_with fail
 all_goals
  go_ret;exact⟨rfl,Yd (n:=1) (X:=(w.alloc (.cells #[.int .i64 3,.int .i64 n,.string s] 85))) (by go_grown) (by go_grown)⟩
theorem VN (n:Int) (s:ByteArray) (w:World) (hR:ZQ n=true) (hq: ¬s.toList= []):Calls Tryz.prog 117 #[.agg #[.int .i64 3,.int .i64 n,.string s]] w fun e w'=>
  e= .returned (mNo)∧Below w.heap.size w w':=by
 go_enter Tryz.func117,Tryz.ntmps117
 go_wp2_with (first
  | (go_at_call 138;refine(Qk _ _ _ _).mono ?_;rintro e w1 ⟨rfl,hb⟩;have em:mBK 3 n s= .iface 175 (.int .i64 n):=rfl;rw [em];clear em;obtain⟨hk,hz⟩:=Qi (B:=w.heap.size+1) (X:=(w.alloc (.cells #[.int .i64 3,.int .i64 n,.string s] 85))) (by go_grown) (by go_size) hb;obtain⟨hC,hF,hL,hE⟩:=kp hb;clear hb))
 go_region_held3 (fun w'=>(∀bq oq,bq<w.heap.size+1→w'.cell? ⟨bq,oq,none⟩=(w.alloc (.cells #[.int .i64 3,.int .i64 n,.string s] 85)).cell? ⟨bq,oq,none⟩)∧w.heap.size+1≤w'.heap.size∧Below (w.heap.size+1) (w.alloc (.cells #[.int .i64 3,.int .i64 n,.string s] 85)) w')
  (exact Qm (by go_size) (by go_grown))
  (first
  | (go_at_call 276;refine(Yg _ _).mono ?_;rintro e w1 ⟨rfl,rfl⟩)
  | (go_at_call 277;refine(JH _ _).mono ?_;rintro e w1 ⟨rfl,hb⟩;obtain⟨hk,hz⟩:=Qi (B:=w.heap.size+1) (X:=(w.alloc (.cells #[.int .i64 3,.int .i64 n,.string s] 85))) (by go_grown) (by go_size) hb;clear hb))
 all_goals go_wp2_with fail
 all_goals
  go_ret;exact⟨rfl,Yd (n:=1) (X:=(w.alloc (.cells #[.int .i64 3,.int .i64 n,.string s] 85))) (by go_grown) (by go_grown)⟩
theorem Jz (n:Int) (s:ByteArray) (w:World) (hR:XF n=true) (hq:s.toList= []):Calls Tryz.prog 117 #[.agg #[.int .i64 4,.int .i64 n,.string s]] w fun e w'=>
  e= .returned (.iface 176 (.int .i64 n))∧Below w.heap.size w w':=by
 go_enter Tryz.func117,Tryz.ntmps117
 go_wp2_with (first
  | (go_at_call 138;refine(Qk _ _ _ _).mono ?_;rintro e w1 ⟨rfl,hb⟩;have em:mBK 4 n s= .iface 176 (.int .i64 n):=rfl;rw [em];clear em;obtain⟨hk,hz⟩:=Qi (B:=w.heap.size+1) (X:=(w.alloc (.cells #[.int .i64 4,.int .i64 n,.string s] 85))) (by go_grown) (by go_size) hb;obtain⟨hC,hF,hL,hE⟩:=kp hb;clear hb))
 go_region_held3 (fun w'=>(∀bq oq,bq<w.heap.size+1→w'.cell? ⟨bq,oq,none⟩=(w.alloc (.cells #[.int .i64 4,.int .i64 n,.string s] 85)).cell? ⟨bq,oq,none⟩)∧w.heap.size+1≤w'.heap.size∧Below (w.heap.size+1) (w.alloc (.cells #[.int .i64 4,.int .i64 n,.string s] 85)) w')
  (exact Qm (by go_size) (by go_grown))
  (first
  | (go_at_call 278;refine(Zt _ _).mono ?_;rintro e w1 ⟨rfl,rfl⟩)
  | (go_at_call 279;refine(Xr _ _).mono ?_;rintro e w1 ⟨rfl,hb⟩;obtain⟨hk,hz⟩:=Qi (B:=w.heap.size+1) (X:=(w.alloc (.cells #[.int .i64 4,.int .i64 n,.string s] 85))) (by go_grown) (by go_size) hb;clear hb))
 all_goals go_wp2_with fail
 all_goals
  go_ret;exact⟨rfl,Yd (n:=1) (X:=(w.alloc (.cells #[.int .i64 4,.int .i64 n,.string s] 85))) (by go_grown) (by go_grown)⟩
theorem JB (n:Int) (s:ByteArray) (w:World) (hR:XF n=true) (hq: ¬s.toList= []):Calls Tryz.prog 117 #[.agg #[.int .i64 4,.int .i64 n,.string s]] w fun e w'=>
  e= .returned (mNo)∧Below w.heap.size w w':=by
 go_enter Tryz.func117,Tryz.ntmps117
 go_wp2_with (first
  | (go_at_call 138;refine(Qk _ _ _ _).mono ?_;rintro e w1 ⟨rfl,hb⟩;have em:mBK 4 n s= .iface 176 (.int .i64 n):=rfl;rw [em];clear em;obtain⟨hk,hz⟩:=Qi (B:=w.heap.size+1) (X:=(w.alloc (.cells #[.int .i64 4,.int .i64 n,.string s] 85))) (by go_grown) (by go_size) hb;obtain⟨hC,hF,hL,hE⟩:=kp hb;clear hb))
 go_region_held3 (fun w'=>(∀bq oq,bq<w.heap.size+1→w'.cell? ⟨bq,oq,none⟩=(w.alloc (.cells #[.int .i64 4,.int .i64 n,.string s] 85)).cell? ⟨bq,oq,none⟩)∧w.heap.size+1≤w'.heap.size∧Below (w.heap.size+1) (w.alloc (.cells #[.int .i64 4,.int .i64 n,.string s] 85)) w')
  (exact Qm (by go_size) (by go_grown))
  (first
  | (go_at_call 278;refine(Zt _ _).mono ?_;rintro e w1 ⟨rfl,rfl⟩)
  | (go_at_call 279;refine(Xr _ _).mono ?_;rintro e w1 ⟨rfl,hb⟩;obtain⟨hk,hz⟩:=Qi (B:=w.heap.size+1) (X:=(w.alloc (.cells #[.int .i64 4,.int .i64 n,.string s] 85))) (by go_grown) (by go_size) hb;clear hb))
 all_goals go_wp2_with fail
 all_goals
  go_ret;exact⟨rfl,Yd (n:=1) (X:=(w.alloc (.cells #[.int .i64 4,.int .i64 n,.string s] 85))) (by go_grown) (by go_grown)⟩
theorem Jw (s:ByteArray) (w:World) (hs:Hid (s.size≤maxLen)) (hR:Qz s=true):Calls Tryz.prog 117 #[.agg #[.int .i64 2,.int .i64 0,.string s]] w fun e w'=>
  e= .returned (.iface 132 (.string s))∧Below w.heap.size w w':=by
 go_enter Tryz.func117,Tryz.ntmps117
 go_wp2_with (first
  | (go_at_call 138;refine(Qk _ _ _ _).mono ?_;rintro e w1 ⟨rfl,hb⟩;have em:mBK 2 0 s= .iface 132 (.string s):=rfl;rw [em];clear em;obtain⟨hk,hz⟩:=Qi (B:=w.heap.size+1) (X:=(w.alloc (.cells #[.int .i64 2,.int .i64 0,.string s] 85))) (by go_grown) (by go_size) hb;obtain⟨hC,hF,hL,hE⟩:=kp hb;clear hb))
 go_region_held3 (fun w'=>(∀bq oq,bq<w.heap.size+1→w'.cell? ⟨bq,oq,none⟩=(w.alloc (.cells #[.int .i64 2,.int .i64 0,.string s] 85)).cell? ⟨bq,oq,none⟩)∧w.heap.size+1≤w'.heap.size∧Below (w.heap.size+1) (w.alloc (.cells #[.int .i64 2,.int .i64 0,.string s] 85)) w')
  (exact Qm (by go_size) (by go_grown))
  (first
  | (go_at_call 267;refine(Zs _ _ hs.out).mono ?_;rintro e w1 ⟨rfl,rfl⟩)
  | (go_at_call 218;refine(Yz _ _).mono ?_;rintro e w1 ⟨rfl,hb⟩;obtain⟨hk,hz⟩:=Qi (B:=w.heap.size+1) (X:=(w.alloc (.cells #[.int .i64 2,.int .i64 0,.string s] 85))) (by go_grown) (by go_size) hb;clear hb))
 all_goals go_wp2_with fail
 all_goals
  go_ret;exact⟨rfl,Yd (n:=1) (X:=(w.alloc (.cells #[.int .i64 2,.int .i64 0,.string s] 85))) (by go_grown) (by go_grown)⟩
theorem Jy (n:Int) (s:ByteArray) (w:World) (hs:Hid (s.size≤maxLen)) (hR:Qz s=true) (hq: ¬0=n):Calls Tryz.prog 117 #[.agg #[.int .i64 2,.int .i64 n,.string s]] w fun e w'=>
  e= .returned (mNo)∧Below w.heap.size w w':=by
 go_enter Tryz.func117,Tryz.ntmps117
 go_wp2_with (first
  | (go_at_call 138;refine(Qk _ _ _ _).mono ?_;rintro e w1 ⟨rfl,hb⟩;have em:mBK 2 n s= .iface 132 (.string s):=rfl;rw [em];clear em;obtain⟨hk,hz⟩:=Qi (B:=w.heap.size+1) (X:=(w.alloc (.cells #[.int .i64 2,.int .i64 n,.string s] 85))) (by go_grown) (by go_size) hb;obtain⟨hC,hF,hL,hE⟩:=kp hb;clear hb))
 go_region_held3 (fun w'=>(∀bq oq,bq<w.heap.size+1→w'.cell? ⟨bq,oq,none⟩=(w.alloc (.cells #[.int .i64 2,.int .i64 n,.string s] 85)).cell? ⟨bq,oq,none⟩)∧w.heap.size+1≤w'.heap.size∧Below (w.heap.size+1) (w.alloc (.cells #[.int .i64 2,.int .i64 n,.string s] 85)) w')
  (exact Qm (by go_size) (by go_grown))
  (first
  | (go_at_call 267;refine(Zs _ _ hs.out).mono ?_;rintro e w1 ⟨rfl,rfl⟩)
  | (go_at_call 218;refine(Yz _ _).mono ?_;rintro e w1 ⟨rfl,hb⟩;obtain⟨hk,hz⟩:=Qi (B:=w.heap.size+1) (X:=(w.alloc (.cells #[.int .i64 2,.int .i64 n,.string s] 85))) (by go_grown) (by go_size) hb;clear hb))
 all_goals go_wp2_with fail
 all_goals
  go_ret;exact⟨rfl,Yd (n:=1) (X:=(w.alloc (.cells #[.int .i64 2,.int .i64 n,.string s] 85))) (by go_grown) (by go_grown)⟩
end Go.Proofs.YthjldgbfgapbcaaGreatDoor
