import Derived.Test.YtkdhmdllnaogcaaGreatDoorGaa
import Derived.Deep.RegionHeld3
import Derived.Deep.DeepCutAuto
import Derived.Laws.StructEq
import Derived.Deep.RegionWith
set_option linter.unusedSimpArgs false
set_option linter.unusedVariables false
set_option maxHeartbeats 1000000
namespace Go.Proofs.YtkdhmdllnaogcaaGreatDoor
open Go.RowKit
def Zk (l:List UInt8):Bool:=l.all fun b=>decide (32≤b.toNat∧b.toNat≤126)
def mBK (k n:Int) (s:ByteArray):Value:=
 if k=0 then .iface 165 (.agg #[])else if k=1 then .iface 140 (.int .i64 n)else if k=2 then .iface 123 (.string s)
 else if k=3 then .iface 166 (.int .i64 n)else if k=4 then .iface 167 (.int .i64 n)else .iface 164 (.agg #[])
def mNo:Value:= .iface 164 (.agg #[])
theorem YI {a b:Value} (h:a=b):Ending.returned a= .returned b:=by rw [h]
theorem Qe (k n:Int) (s:ByteArray) (w:World):Calls Tryz.prog 129 #[.agg #[.int .i64 k,.int .i64 n,.string s]] w fun e w'=>
  e= .returned (mBK k n s)∧Below w.heap.size w w':=by
 by_cases h0:k=0
 ·subst h0;go_enter Tryz.func129,Tryz.ntmps129;go_wp2
  go_ret;exact⟨YI (by simp [mBK]),by go_grown⟩
 by_cases h1:k=1
 ·subst h1;go_enter Tryz.func129,Tryz.ntmps129;go_wp2
  go_ret;exact⟨YI (by simp [mBK]),by go_grown⟩
 by_cases h2:k=2
 ·subst h2;go_enter Tryz.func129,Tryz.ntmps129;go_wp2
  go_ret;exact⟨YI (by simp [mBK]),by go_grown⟩
 by_cases h3:k=3
 ·subst h3;go_enter Tryz.func129,Tryz.ntmps129;go_wp2
  go_ret;exact⟨YI (by simp [mBK]),by go_grown⟩
 by_cases h4:k=4
 ·subst h4;go_enter Tryz.func129,Tryz.ntmps129;go_wp2
  go_ret;exact⟨YI (by simp [mBK]),by go_grown⟩
 ·have e0:(k==0)=false:=by simpa using h0
  have e1:(k==1)=false:=by simpa using h1
  have e2:(k==2)=false:=by simpa using h2
  have e3:(k==3)=false:=by simpa using h3
  have e4:(k==4)=false:=by simpa using h4
  go_enter Tryz.func129,Tryz.ntmps129;go_wp2
  go_ret;exact⟨YI (by simp [mBK,h0,h1,h2,h3,h4]),by go_grown⟩
def Zq (n:Int):Bool:=decide (-1000000000000000≤n∧n≤1000000000000000)
def Yb (n:Int):Bool:=decide (n=0∨n=1)
def YQ (n:Int):Bool:=decide (1≤n∧n≤5)
def Qv (s:ByteArray):Bool:=decide (s.size≤200)&&Zk s.data.toList
theorem Zj (n:Int) (w:World):Calls Tryz.prog 257 #[.int .i64 n] w fun e w'=>
  e= .returned (.bool (Zq n))∧w'=w:=by
 go_enter Tryz.func257,Tryz.ntmps257;go_wp2
 all_goals
  go_ret;refine⟨Qa ?_,rfl⟩;rw [Bool.eq_iff_iff];unfold Zq;simp;try omega
theorem Zy (n:Int) (w:World):Calls Tryz.prog 265 #[.int .i64 n] w fun e w'=>
  e= .returned (.bool (Yb n))∧w'=w:=by
 go_enter Tryz.func265,Tryz.ntmps265;go_wp2
 all_goals
  go_ret;refine⟨Qa ?_,rfl⟩;rw [Bool.eq_iff_iff];unfold Yb;simp;try omega
theorem Ze (n:Int) (w:World):Calls Tryz.prog 267 #[.int .i64 n] w fun e w'=>
  e= .returned (.bool (YQ n))∧w'=w:=by
 go_enter Tryz.func267,Tryz.ntmps267;go_wp2
 all_goals
  go_ret;refine⟨Qa ?_,rfl⟩;rw [Bool.eq_iff_iff];unfold YQ;simp;try omega
theorem Xe (w:World):Calls Tryz.prog 259 #[.agg #[]] w fun e w'=>
  e= .returned (.bool (false))∧Below w.heap.size w w':=by
 go_enter Tryz.func259,Tryz.ntmps259;go_wp2
 all_goals
  go_ret;refine⟨Qa ?_,by go_grown⟩;rfl
theorem Yj (w:World):Calls Tryz.prog 262 #[.agg #[]] w fun e w'=>
  e= .returned (.bool (true))∧Below w.heap.size w w':=by
 go_enter Tryz.func262,Tryz.ntmps262;go_wp2
 all_goals
  go_ret;refine⟨Qa ?_,by go_grown⟩;rfl
theorem Yp (n:Int) (w:World):Calls Tryz.prog 107 #[.int .i64 n] w fun e w'=>
  e= .returned (.agg #[.int .i64 1,.int .i64 n,.string ⟨#[]⟩])∧Below w.heap.size w w':=by
 go_enter Tryz.func107,Tryz.ntmps107;go_wp2
 go_returns
 exact⟨rfl,by go_grown⟩
theorem XF (n:Int) (w:World):Calls Tryz.prog 266 #[.int .i64 n] w fun e w'=>
  e= .returned (.agg #[.int .i64 3,.int .i64 n,.string ⟨#[]⟩])∧Below w.heap.size w w':=by
 go_enter Tryz.func266,Tryz.ntmps266;go_wp2
 go_returns
 exact⟨rfl,by go_grown⟩
theorem YF (n:Int) (w:World):Calls Tryz.prog 268 #[.int .i64 n] w fun e w'=>
  e= .returned (.agg #[.int .i64 4,.int .i64 n,.string ⟨#[]⟩])∧Below w.heap.size w w':=by
 go_enter Tryz.func268,Tryz.ntmps268;go_wp2
 go_returns
 exact⟨rfl,by go_grown⟩
theorem ZS (s:ByteArray) (w:World):Calls Tryz.prog 208 #[.string s] w fun e w'=>
  e= .returned (.agg #[.int .i64 2,.int .i64 0,.string s])∧Below w.heap.size w w':=by
 go_enter Tryz.func208,Tryz.ntmps208;go_wp2
 go_returns
 exact⟨rfl,by go_grown⟩
theorem YD (w:World):Calls Tryz.prog 264 #[.agg #[]] w fun e w'=>
  e= .returned (.agg #[.int .i64 0,.int .i64 0,.string ⟨#[]⟩])∧Below w.heap.size w w':=by
 go_enter Tryz.func264,Tryz.ntmps264;go_wp2
 go_returns
 exact⟨rfl,by go_grown⟩
theorem Kz (s:ByteArray) (k:Nat) (h:k<s.size):Zk (s.data.toList.take (k+1))=(Zk (s.data.toList.take k)&&decide (32≤s[k].toNat∧s[k].toNat≤126)):=by
 have e:s.data.toList.take (k+1)=s.data.toList.take k++ [s[k]]:=by
  rw [List.take_succ_eq_append_getElem (by simpa using h)];rfl
 rw [e];simp [Zk]
theorem Ni (s:ByteArray) (k:Nat) (h:k<s.size) (hb: ¬(32≤s[k].toNat∧s[k].toNat≤126)):Zk s.data.toList=false:=by
 cases e:Zk s.data.toList
 ·rfl
 ·have:=List.all_eq_true.1 e s[k] (Array.mem_toList_iff.2 (Array.getElem_mem h));exact absurd (of_decide_eq_true this) hb
theorem Xg (s:ByteArray) (w:World) (hs:s.size≤maxLen):Calls Tryz.prog 68 #[.string s] w fun e w'=>
  e= .returned (.bool (Zk s.data.toList))∧w'=w:=by
 unfold maxLen at hs;go_enter Tryz.func68,Tryz.ntmps68;go_wp2_with fail
 go_loop [6] (fun v=> ∃k:Nat,k≤s.size∧v= .int .i64 k∧Zk (s.data.toList.take k)=true) (fun v=>s.size-(intOf v).toNat)
 case atStart=>exact⟨0,by omega,rfl,rfl⟩
 case round=>
  obtain⟨k,hk,rfl,hr⟩:=hrel;have HR:Hid (Zk (s.data.toList.take k)=true):=hr;clear hr;by_cases hlt:k<s.size
  ·have HT:Hid (Zk (s.data.toList.take (k+1))=(Zk (s.data.toList.take k)&&decide (32≤s[k].toNat∧s[k].toNat≤126))):=Kz s k hlt;by_cases hb:32≤s[k].toNat∧s[k].toNat≤126
   ·have hb1: ¬((s[k].toNat:Int)<32):=by omega
    have hb2: ¬(126<(s[k].toNat:Int)):=by omega
    go_wp2
    all_goals
     go_round
     case rel=>exact⟨k+1,by omega,by go_num,by rw [HT.out,HR.out];simp;omega⟩
     case measure=>simp [intOf];omega
   ·have HF:Hid (Zk s.data.toList=false):=Ni s k hlt hb;by_cases hb1:(s[k].toNat:Int)<32
    ·go_wp2
     go_ret;exact⟨Qa HF.out.symm,rfl⟩
    ·have hb2:126<(s[k].toNat:Int):=by omega
     go_wp2
     go_ret;exact⟨Qa HF.out.symm,rfl⟩
  ·go_wp2
   go_ret;have HA:=HR.out;rw [List.take_of_length_le (by simp;omega)]at HA;exact⟨Qa HA.symm,rfl⟩
theorem Zd (s:ByteArray) (w:World) (hs:s.size≤maxLen):Calls Tryz.prog 255 #[.string s] w fun e w'=>
  e= .returned (.bool (Qv s))∧w'=w:=by
 have hs':=hs;unfold maxLen at hs';go_enter Tryz.func255,Tryz.ntmps255
 go_wp2_with (first
  | (go_at_call 68;refine(Xg _ _ hs).mono ?_;rintro e w1 ⟨rfl,rfl⟩))
 all_goals
  go_ret;refine⟨Qa ?_,rfl⟩;unfold Qv;simp_all
  try omega
theorem Jt (s:ByteArray) (w:World) (hq:s.toList= []):Calls Tryz.prog 109 #[.agg #[.int .i64 0,.int .i64 0,.string s]] w fun e w'=>
  e= .returned (.iface 165 (.agg #[]))∧Below w.heap.size w w':=by
 go_enter Tryz.func109,Tryz.ntmps109
 go_wp2_with (first
  | (go_at_call 129;refine(Qe _ _ _ _).mono ?_;rintro e w1 ⟨rfl,hb⟩;have em:mBK 0 0 s= .iface 165 (.agg #[]):=rfl;rw [em];clear em;obtain⟨hk,hz⟩:=Qf (B:=w.heap.size+1) (X:=(w.alloc (.cells #[.int .i64 0,.int .i64 0,.string s] 83))) (by go_grown) (by go_size) hb;obtain⟨hC,hF,hL,hE⟩:=kp hb;clear hb))
 go_region_held3 (fun w'=>(∀bq oq,bq<w.heap.size+1→w'.cell? ⟨bq,oq,none⟩=(w.alloc (.cells #[.int .i64 0,.int .i64 0,.string s] 83)).cell? ⟨bq,oq,none⟩)∧w.heap.size+1≤w'.heap.size∧Below (w.heap.size+1) (w.alloc (.cells #[.int .i64 0,.int .i64 0,.string s] 83)) w')
  (exact Qo (by go_size) (by go_grown))
  (first
  | (go_at_call 262;refine(Yj _).mono ?_;rintro e w1 ⟨rfl,hb⟩;obtain⟨hk,hz⟩:=Qf (B:=w.heap.size+1) (X:=(w.alloc (.cells #[.int .i64 0,.int .i64 0,.string s] 83))) (by go_grown) (by go_size) hb;clear hb)
  | (go_at_call 264;refine(YD _).mono ?_;rintro e w1 ⟨rfl,hb⟩;obtain⟨hk,hz⟩:=Qf (B:=w.heap.size+1) (X:=(w.alloc (.cells #[.int .i64 0,.int .i64 0,.string s] 83))) (by go_grown) (by go_size) hb;clear hb))
 all_goals go_wp2_with fail
 all_goals
  go_ret;exact⟨rfl,Zu (n:=1) (X:=(w.alloc (.cells #[.int .i64 0,.int .i64 0,.string s] 83))) (by go_grown) (by go_grown)⟩
theorem Ju (s:ByteArray) (w:World) (hq: ¬s.toList= []):Calls Tryz.prog 109 #[.agg #[.int .i64 0,.int .i64 0,.string s]] w fun e w'=>
  e= .returned (mNo)∧Below w.heap.size w w':=by
 go_enter Tryz.func109,Tryz.ntmps109
 go_wp2_with (first
  | (go_at_call 129;refine(Qe _ _ _ _).mono ?_;rintro e w1 ⟨rfl,hb⟩;have em:mBK 0 0 s= .iface 165 (.agg #[]):=rfl;rw [em];clear em;obtain⟨hk,hz⟩:=Qf (B:=w.heap.size+1) (X:=(w.alloc (.cells #[.int .i64 0,.int .i64 0,.string s] 83))) (by go_grown) (by go_size) hb;obtain⟨hC,hF,hL,hE⟩:=kp hb;clear hb))
 go_region_held3 (fun w'=>(∀bq oq,bq<w.heap.size+1→w'.cell? ⟨bq,oq,none⟩=(w.alloc (.cells #[.int .i64 0,.int .i64 0,.string s] 83)).cell? ⟨bq,oq,none⟩)∧w.heap.size+1≤w'.heap.size∧Below (w.heap.size+1) (w.alloc (.cells #[.int .i64 0,.int .i64 0,.string s] 83)) w')
  (exact Qo (by go_size) (by go_grown))
  (first
  | (go_at_call 262;refine(Yj _).mono ?_;rintro e w1 ⟨rfl,hb⟩;obtain⟨hk,hz⟩:=Qf (B:=w.heap.size+1) (X:=(w.alloc (.cells #[.int .i64 0,.int .i64 0,.string s] 83))) (by go_grown) (by go_size) hb;clear hb)
  | (go_at_call 264;refine(YD _).mono ?_;rintro e w1 ⟨rfl,hb⟩;obtain⟨hk,hz⟩:=Qf (B:=w.heap.size+1) (X:=(w.alloc (.cells #[.int .i64 0,.int .i64 0,.string s] 83))) (by go_grown) (by go_size) hb;clear hb))
 all_goals go_wp2_with fail
 all_goals
  go_ret;exact⟨rfl,Zu (n:=1) (X:=(w.alloc (.cells #[.int .i64 0,.int .i64 0,.string s] 83))) (by go_grown) (by go_grown)⟩
theorem Jv (n:Int) (s:ByteArray) (w:World) (hq: ¬0=n):Calls Tryz.prog 109 #[.agg #[.int .i64 0,.int .i64 n,.string s]] w fun e w'=>
  e= .returned (mNo)∧Below w.heap.size w w':=by
 go_enter Tryz.func109,Tryz.ntmps109
 go_wp2_with (first
  | (go_at_call 129;refine(Qe _ _ _ _).mono ?_;rintro e w1 ⟨rfl,hb⟩;have em:mBK 0 n s= .iface 165 (.agg #[]):=rfl;rw [em];clear em;obtain⟨hk,hz⟩:=Qf (B:=w.heap.size+1) (X:=(w.alloc (.cells #[.int .i64 0,.int .i64 n,.string s] 83))) (by go_grown) (by go_size) hb;obtain⟨hC,hF,hL,hE⟩:=kp hb;clear hb))
 go_region_held3 (fun w'=>(∀bq oq,bq<w.heap.size+1→w'.cell? ⟨bq,oq,none⟩=(w.alloc (.cells #[.int .i64 0,.int .i64 n,.string s] 83)).cell? ⟨bq,oq,none⟩)∧w.heap.size+1≤w'.heap.size∧Below (w.heap.size+1) (w.alloc (.cells #[.int .i64 0,.int .i64 n,.string s] 83)) w')
  (exact Qo (by go_size) (by go_grown))
  (first
  | (go_at_call 262;refine(Yj _).mono ?_;rintro e w1 ⟨rfl,hb⟩;obtain⟨hk,hz⟩:=Qf (B:=w.heap.size+1) (X:=(w.alloc (.cells #[.int .i64 0,.int .i64 n,.string s] 83))) (by go_grown) (by go_size) hb;clear hb)
  | (go_at_call 264;refine(YD _).mono ?_;rintro e w1 ⟨rfl,hb⟩;obtain⟨hk,hz⟩:=Qf (B:=w.heap.size+1) (X:=(w.alloc (.cells #[.int .i64 0,.int .i64 n,.string s] 83))) (by go_grown) (by go_size) hb;clear hb))
 all_goals go_wp2_with fail
 all_goals
  go_ret;exact⟨rfl,Zu (n:=1) (X:=(w.alloc (.cells #[.int .i64 0,.int .i64 n,.string s] 83))) (by go_grown) (by go_grown)⟩
theorem XM (n:Int) (s:ByteArray) (w:World) (hR:Zq n=true) (hq:s.toList= []):Calls Tryz.prog 109 #[.agg #[.int .i64 1,.int .i64 n,.string s]] w fun e w'=>
  e= .returned (.iface 140 (.int .i64 n))∧Below w.heap.size w w':=by
 go_enter Tryz.func109,Tryz.ntmps109
 go_wp2_with (first
  | (go_at_call 129;refine(Qe _ _ _ _).mono ?_;rintro e w1 ⟨rfl,hb⟩;have em:mBK 1 n s= .iface 140 (.int .i64 n):=rfl;rw [em];clear em;obtain⟨hk,hz⟩:=Qf (B:=w.heap.size+1) (X:=(w.alloc (.cells #[.int .i64 1,.int .i64 n,.string s] 83))) (by go_grown) (by go_size) hb;obtain⟨hC,hF,hL,hE⟩:=kp hb;clear hb))
 go_region_held3 (fun w'=>(∀bq oq,bq<w.heap.size+1→w'.cell? ⟨bq,oq,none⟩=(w.alloc (.cells #[.int .i64 1,.int .i64 n,.string s] 83)).cell? ⟨bq,oq,none⟩)∧w.heap.size+1≤w'.heap.size∧Below (w.heap.size+1) (w.alloc (.cells #[.int .i64 1,.int .i64 n,.string s] 83)) w')
  (exact Qo (by go_size) (by go_grown))
  (first
  | (go_at_call 257;refine(Zj _ _).mono ?_;rintro e w1 ⟨rfl,rfl⟩)
  | (go_at_call 107;refine(Yp _ _).mono ?_;rintro e w1 ⟨rfl,hb⟩;obtain⟨hk,hz⟩:=Qf (B:=w.heap.size+1) (X:=(w.alloc (.cells #[.int .i64 1,.int .i64 n,.string s] 83))) (by go_grown) (by go_size) hb;clear hb))
 all_goals go_wp2_with fail
 all_goals
  go_ret;exact⟨rfl,Zu (n:=1) (X:=(w.alloc (.cells #[.int .i64 1,.int .i64 n,.string s] 83))) (by go_grown) (by go_grown)⟩
theorem XO (n:Int) (s:ByteArray) (w:World) (hR:Zq n=true) (hq: ¬s.toList= []):Calls Tryz.prog 109 #[.agg #[.int .i64 1,.int .i64 n,.string s]] w fun e w'=>
  e= .returned (mNo)∧Below w.heap.size w w':=by
 go_enter Tryz.func109,Tryz.ntmps109
 go_wp2_with (first
  | (go_at_call 129;refine(Qe _ _ _ _).mono ?_;rintro e w1 ⟨rfl,hb⟩;have em:mBK 1 n s= .iface 140 (.int .i64 n):=rfl;rw [em];clear em;obtain⟨hk,hz⟩:=Qf (B:=w.heap.size+1) (X:=(w.alloc (.cells #[.int .i64 1,.int .i64 n,.string s] 83))) (by go_grown) (by go_size) hb;obtain⟨hC,hF,hL,hE⟩:=kp hb;clear hb))
 go_region_held3 (fun w'=>(∀bq oq,bq<w.heap.size+1→w'.cell? ⟨bq,oq,none⟩=(w.alloc (.cells #[.int .i64 1,.int .i64 n,.string s] 83)).cell? ⟨bq,oq,none⟩)∧w.heap.size+1≤w'.heap.size∧Below (w.heap.size+1) (w.alloc (.cells #[.int .i64 1,.int .i64 n,.string s] 83)) w')
  (exact Qo (by go_size) (by go_grown))
  (first
  | (go_at_call 257;refine(Zj _ _).mono ?_;rintro e w1 ⟨rfl,rfl⟩)
  | (go_at_call 107;refine(Yp _ _).mono ?_;rintro e w1 ⟨rfl,hb⟩;obtain⟨hk,hz⟩:=Qf (B:=w.heap.size+1) (X:=(w.alloc (.cells #[.int .i64 1,.int .i64 n,.string s] 83))) (by go_grown) (by go_size) hb;clear hb))
 all_goals go_wp2_with fail
 all_goals
  go_ret;exact⟨rfl,Zu (n:=1) (X:=(w.alloc (.cells #[.int .i64 1,.int .i64 n,.string s] 83))) (by go_grown) (by go_grown)⟩
theorem Jq (n:Int) (s:ByteArray) (w:World) (hR:Yb n=true) (hq:s.toList= []):Calls Tryz.prog 109 #[.agg #[.int .i64 3,.int .i64 n,.string s]] w fun e w'=>
  e= .returned (.iface 166 (.int .i64 n))∧Below w.heap.size w w':=by
 go_enter Tryz.func109,Tryz.ntmps109
 go_wp2_with (first
  | (go_at_call 129;refine(Qe _ _ _ _).mono ?_;rintro e w1 ⟨rfl,hb⟩;have em:mBK 3 n s= .iface 166 (.int .i64 n):=rfl;rw [em];clear em;obtain⟨hk,hz⟩:=Qf (B:=w.heap.size+1) (X:=(w.alloc (.cells #[.int .i64 3,.int .i64 n,.string s] 83))) (by go_grown) (by go_size) hb;obtain⟨hC,hF,hL,hE⟩:=kp hb;clear hb))
 go_region_held3 (fun w'=>(∀bq oq,bq<w.heap.size+1→w'.cell? ⟨bq,oq,none⟩=(w.alloc (.cells #[.int .i64 3,.int .i64 n,.string s] 83)).cell? ⟨bq,oq,none⟩)∧w.heap.size+1≤w'.heap.size∧Below (w.heap.size+1) (w.alloc (.cells #[.int .i64 3,.int .i64 n,.string s] 83)) w')
  (exact Qo (by go_size) (by go_grown))
  (first
  | (go_at_call 265;refine(Zy _ _).mono ?_;rintro e w1 ⟨rfl,rfl⟩)
  | (go_at_call 266;refine(XF _ _).mono ?_;rintro e w1 ⟨rfl,hb⟩;obtain⟨hk,hz⟩:=Qf (B:=w.heap.size+1) (X:=(w.alloc (.cells #[.int .i64 3,.int .i64 n,.string s] 83))) (by go_grown) (by go_size) hb;clear hb))
 all_goals go_wp2_with fail
 all_goals
  go_ret;exact⟨rfl,Zu (n:=1) (X:=(w.alloc (.cells #[.int .i64 3,.int .i64 n,.string s] 83))) (by go_grown) (by go_grown)⟩
theorem Js (n:Int) (s:ByteArray) (w:World) (hR:Yb n=true) (hq: ¬s.toList= []):Calls Tryz.prog 109 #[.agg #[.int .i64 3,.int .i64 n,.string s]] w fun e w'=>
  e= .returned (mNo)∧Below w.heap.size w w':=by
 go_enter Tryz.func109,Tryz.ntmps109
 go_wp2_with (first
  | (go_at_call 129;refine(Qe _ _ _ _).mono ?_;rintro e w1 ⟨rfl,hb⟩;have em:mBK 3 n s= .iface 166 (.int .i64 n):=rfl;rw [em];clear em;obtain⟨hk,hz⟩:=Qf (B:=w.heap.size+1) (X:=(w.alloc (.cells #[.int .i64 3,.int .i64 n,.string s] 83))) (by go_grown) (by go_size) hb;obtain⟨hC,hF,hL,hE⟩:=kp hb;clear hb))
 go_region_held3 (fun w'=>(∀bq oq,bq<w.heap.size+1→w'.cell? ⟨bq,oq,none⟩=(w.alloc (.cells #[.int .i64 3,.int .i64 n,.string s] 83)).cell? ⟨bq,oq,none⟩)∧w.heap.size+1≤w'.heap.size∧Below (w.heap.size+1) (w.alloc (.cells #[.int .i64 3,.int .i64 n,.string s] 83)) w')
  (exact Qo (by go_size) (by go_grown))
  (first
  | (go_at_call 265;refine(Zy _ _).mono ?_;rintro e w1 ⟨rfl,rfl⟩)
  | (go_at_call 266;refine(XF _ _).mono ?_;rintro e w1 ⟨rfl,hb⟩;obtain⟨hk,hz⟩:=Qf (B:=w.heap.size+1) (X:=(w.alloc (.cells #[.int .i64 3,.int .i64 n,.string s] 83))) (by go_grown) (by go_size) hb;clear hb))
 all_goals go_wp2_with fail
 all_goals
  go_ret;exact⟨rfl,Zu (n:=1) (X:=(w.alloc (.cells #[.int .i64 3,.int .i64 n,.string s] 83))) (by go_grown) (by go_grown)⟩
theorem Xx (n:Int) (s:ByteArray) (w:World) (hR:YQ n=true) (hq:s.toList= []):Calls Tryz.prog 109 #[.agg #[.int .i64 4,.int .i64 n,.string s]] w fun e w'=>
  e= .returned (.iface 167 (.int .i64 n))∧Below w.heap.size w w':=by
 go_enter Tryz.func109,Tryz.ntmps109
 go_wp2_with (first
  | (go_at_call 129;refine(Qe _ _ _ _).mono ?_;rintro e w1 ⟨rfl,hb⟩;have em:mBK 4 n s= .iface 167 (.int .i64 n):=rfl;rw [em];clear em;obtain⟨hk,hz⟩:=Qf (B:=w.heap.size+1) (X:=(w.alloc (.cells #[.int .i64 4,.int .i64 n,.string s] 83))) (by go_grown) (by go_size) hb;obtain⟨hC,hF,hL,hE⟩:=kp hb;clear hb))
 go_region_held3 (fun w'=>(∀bq oq,bq<w.heap.size+1→w'.cell? ⟨bq,oq,none⟩=(w.alloc (.cells #[.int .i64 4,.int .i64 n,.string s] 83)).cell? ⟨bq,oq,none⟩)∧w.heap.size+1≤w'.heap.size∧Below (w.heap.size+1) (w.alloc (.cells #[.int .i64 4,.int .i64 n,.string s] 83)) w')
  (exact Qo (by go_size) (by go_grown))
  (first
  | (go_at_call 267;refine(Ze _ _).mono ?_;rintro e w1 ⟨rfl,rfl⟩)
  | (go_at_call 268;refine(YF _ _).mono ?_;rintro e w1 ⟨rfl,hb⟩;obtain⟨hk,hz⟩:=Qf (B:=w.heap.size+1) (X:=(w.alloc (.cells #[.int .i64 4,.int .i64 n,.string s] 83))) (by go_grown) (by go_size) hb;clear hb))
 all_goals go_wp2_with fail
 all_goals
  go_ret;exact⟨rfl,Zu (n:=1) (X:=(w.alloc (.cells #[.int .i64 4,.int .i64 n,.string s] 83))) (by go_grown) (by go_grown)⟩
theorem Xz (n:Int) (s:ByteArray) (w:World) (hR:YQ n=true) (hq: ¬s.toList= []):Calls Tryz.prog 109 #[.agg #[.int .i64 4,.int .i64 n,.string s]] w fun e w'=>
  e= .returned (mNo)∧Below w.heap.size w w':=by
 go_enter Tryz.func109,Tryz.ntmps109
 go_wp2_with (first
  | (go_at_call 129;refine(Qe _ _ _ _).mono ?_;rintro e w1 ⟨rfl,hb⟩;have em:mBK 4 n s= .iface 167 (.int .i64 n):=rfl;rw [em];clear em;obtain⟨hk,hz⟩:=Qf (B:=w.heap.size+1) (X:=(w.alloc (.cells #[.int .i64 4,.int .i64 n,.string s] 83))) (by go_grown) (by go_size) hb;obtain⟨hC,hF,hL,hE⟩:=kp hb;clear hb))
 go_region_held3 (fun w'=>(∀bq oq,bq<w.heap.size+1→w'.cell? ⟨bq,oq,none⟩=(w.alloc (.cells #[.int .i64 4,.int .i64 n,.string s] 83)).cell? ⟨bq,oq,none⟩)∧w.heap.size+1≤w'.heap.size∧Below (w.heap.size+1) (w.alloc (.cells #[.int .i64 4,.int .i64 n,.string s] 83)) w')
  (exact Qo (by go_size) (by go_grown))
  (first
  | (go_at_call 267;refine(Ze _ _).mono ?_;rintro e w1 ⟨rfl,rfl⟩)
  | (go_at_call 268;refine(YF _ _).mono ?_;rintro e w1 ⟨rfl,hb⟩;obtain⟨hk,hz⟩:=Qf (B:=w.heap.size+1) (X:=(w.alloc (.cells #[.int .i64 4,.int .i64 n,.string s] 83))) (by go_grown) (by go_size) hb;clear hb))
 all_goals go_wp2_with fail
 all_goals
  go_ret;exact⟨rfl,Zu (n:=1) (X:=(w.alloc (.cells #[.int .i64 4,.int .i64 n,.string s] 83))) (by go_grown) (by go_grown)⟩
theorem Xu (s:ByteArray) (w:World) (hs:Hid (s.size≤maxLen)) (hR:Qv s=true):Calls Tryz.prog 109 #[.agg #[.int .i64 2,.int .i64 0,.string s]] w fun e w'=>
  e= .returned (.iface 123 (.string s))∧Below w.heap.size w w':=by
 go_enter Tryz.func109,Tryz.ntmps109
 go_wp2_with (first
  | (go_at_call 129;refine(Qe _ _ _ _).mono ?_;rintro e w1 ⟨rfl,hb⟩;have em:mBK 2 0 s= .iface 123 (.string s):=rfl;rw [em];clear em;obtain⟨hk,hz⟩:=Qf (B:=w.heap.size+1) (X:=(w.alloc (.cells #[.int .i64 2,.int .i64 0,.string s] 83))) (by go_grown) (by go_size) hb;obtain⟨hC,hF,hL,hE⟩:=kp hb;clear hb))
 go_region_held3 (fun w'=>(∀bq oq,bq<w.heap.size+1→w'.cell? ⟨bq,oq,none⟩=(w.alloc (.cells #[.int .i64 2,.int .i64 0,.string s] 83)).cell? ⟨bq,oq,none⟩)∧w.heap.size+1≤w'.heap.size∧Below (w.heap.size+1) (w.alloc (.cells #[.int .i64 2,.int .i64 0,.string s] 83)) w')
  (exact Qo (by go_size) (by go_grown))
  (first
  | (go_at_call 255;refine(Zd _ _ hs.out).mono ?_;rintro e w1 ⟨rfl,rfl⟩)
  | (go_at_call 208;refine(ZS _ _).mono ?_;rintro e w1 ⟨rfl,hb⟩;obtain⟨hk,hz⟩:=Qf (B:=w.heap.size+1) (X:=(w.alloc (.cells #[.int .i64 2,.int .i64 0,.string s] 83))) (by go_grown) (by go_size) hb;clear hb))
 all_goals go_wp2_with fail
 all_goals
  go_ret;exact⟨rfl,Zu (n:=1) (X:=(w.alloc (.cells #[.int .i64 2,.int .i64 0,.string s] 83))) (by go_grown) (by go_grown)⟩
theorem Xw (n:Int) (s:ByteArray) (w:World) (hs:Hid (s.size≤maxLen)) (hR:Qv s=true) (hq: ¬0=n):Calls Tryz.prog 109 #[.agg #[.int .i64 2,.int .i64 n,.string s]] w fun e w'=>
  e= .returned (mNo)∧Below w.heap.size w w':=by
 go_enter Tryz.func109,Tryz.ntmps109
 go_wp2_with (first
  | (go_at_call 129;refine(Qe _ _ _ _).mono ?_;rintro e w1 ⟨rfl,hb⟩;have em:mBK 2 n s= .iface 123 (.string s):=rfl;rw [em];clear em;obtain⟨hk,hz⟩:=Qf (B:=w.heap.size+1) (X:=(w.alloc (.cells #[.int .i64 2,.int .i64 n,.string s] 83))) (by go_grown) (by go_size) hb;obtain⟨hC,hF,hL,hE⟩:=kp hb;clear hb))
 go_region_held3 (fun w'=>(∀bq oq,bq<w.heap.size+1→w'.cell? ⟨bq,oq,none⟩=(w.alloc (.cells #[.int .i64 2,.int .i64 n,.string s] 83)).cell? ⟨bq,oq,none⟩)∧w.heap.size+1≤w'.heap.size∧Below (w.heap.size+1) (w.alloc (.cells #[.int .i64 2,.int .i64 n,.string s] 83)) w')
  (exact Qo (by go_size) (by go_grown))
  (first
  | (go_at_call 255;refine(Zd _ _ hs.out).mono ?_;rintro e w1 ⟨rfl,rfl⟩)
  | (go_at_call 208;refine(ZS _ _).mono ?_;rintro e w1 ⟨rfl,hb⟩;obtain⟨hk,hz⟩:=Qf (B:=w.heap.size+1) (X:=(w.alloc (.cells #[.int .i64 2,.int .i64 n,.string s] 83))) (by go_grown) (by go_size) hb;clear hb))
 all_goals go_wp2_with fail
 all_goals
  go_ret;exact⟨rfl,Zu (n:=1) (X:=(w.alloc (.cells #[.int .i64 2,.int .i64 n,.string s] 83))) (by go_grown) (by go_grown)⟩
theorem VM (n:Int) (w:World) (hR:Zq n=false):Calls Tryz.prog 257 #[.int .i64 n] w fun e w'=>e= .returned (.bool false)∧w'=w:=
 (Zj n w).mono fun _ _ h=>⟨by rw [h.1,hR],h.2⟩
theorem Kh (n:Int) (w:World) (hR:Yb n=false):Calls Tryz.prog 265 #[.int .i64 n] w fun e w'=>e= .returned (.bool false)∧w'=w:=
 (Zy n w).mono fun _ _ h=>⟨by rw [h.1,hR],h.2⟩
theorem Vm (n:Int) (w:World) (hR:YQ n=false):Calls Tryz.prog 267 #[.int .i64 n] w fun e w'=>e= .returned (.bool false)∧w'=w:=
 (Ze n w).mono fun _ _ h=>⟨by rw [h.1,hR],h.2⟩
theorem Vl (s:ByteArray) (w:World) (hs:s.size≤maxLen) (hR:Qv s=false):Calls Tryz.prog 255 #[.string s] w fun e w'=>e= .returned (.bool false)∧w'=w:=
 (Zd s w hs).mono fun _ _ h=>⟨by rw [h.1,hR],h.2⟩
theorem XN (n:Int) (s:ByteArray) (w:World) (hR:Zq n=false):Calls Tryz.prog 109 #[.agg #[.int .i64 1,.int .i64 n,.string s]] w fun e w'=>
  e= .returned (mNo)∧Below w.heap.size w w':=by
 go_enter Tryz.func109,Tryz.ntmps109
 go_wp2_with (first
  | (go_at_call 129;refine(Qe _ _ _ _).mono ?_;rintro e w1 ⟨rfl,hb⟩;have em:mBK 1 n s= .iface 140 (.int .i64 n):=rfl;rw [em];clear em;obtain⟨hk,hz⟩:=Qf (B:=w.heap.size+1) (X:=(w.alloc (.cells #[.int .i64 1,.int .i64 n,.string s] 83))) (by go_grown) (by go_size) hb;obtain⟨hC,hF,hL,hE⟩:=kp hb;clear hb))
 first
  | (go_region_with (first
   | (go_at_call 257;refine(VM _ _ hR).mono ?_;rintro e w1 ⟨rfl,rfl⟩)))
  | fail
 all_goals go_wp2_with fail
 all_goals
  go_ret;exact⟨rfl,Zu (n:=1) (X:=(w.alloc (.cells #[.int .i64 1,.int .i64 n,.string s] 83))) (by go_grown) (by go_grown)⟩
theorem Jr (n:Int) (s:ByteArray) (w:World) (hR:Yb n=false):Calls Tryz.prog 109 #[.agg #[.int .i64 3,.int .i64 n,.string s]] w fun e w'=>
  e= .returned (mNo)∧Below w.heap.size w w':=by
 go_enter Tryz.func109,Tryz.ntmps109
 go_wp2_with (first
  | (go_at_call 129;refine(Qe _ _ _ _).mono ?_;rintro e w1 ⟨rfl,hb⟩;have em:mBK 3 n s= .iface 166 (.int .i64 n):=rfl;rw [em];clear em;obtain⟨hk,hz⟩:=Qf (B:=w.heap.size+1) (X:=(w.alloc (.cells #[.int .i64 3,.int .i64 n,.string s] 83))) (by go_grown) (by go_size) hb;obtain⟨hC,hF,hL,hE⟩:=kp hb;clear hb))
 first
  | (go_region_with (first
   | (go_at_call 265;refine(Kh _ _ hR).mono ?_;rintro e w1 ⟨rfl,rfl⟩)))
  | fail
 all_goals go_wp2_with fail
 all_goals
  go_ret;exact⟨rfl,Zu (n:=1) (X:=(w.alloc (.cells #[.int .i64 3,.int .i64 n,.string s] 83))) (by go_grown) (by go_grown)⟩
theorem Xy (n:Int) (s:ByteArray) (w:World) (hR:YQ n=false):Calls Tryz.prog 109 #[.agg #[.int .i64 4,.int .i64 n,.string s]] w fun e w'=>
  e= .returned (mNo)∧Below w.heap.size w w':=by
 go_enter Tryz.func109,Tryz.ntmps109
 go_wp2_with (first
  | (go_at_call 129;refine(Qe _ _ _ _).mono ?_;rintro e w1 ⟨rfl,hb⟩;have em:mBK 4 n s= .iface 167 (.int .i64 n):=rfl;rw [em];clear em;obtain⟨hk,hz⟩:=Qf (B:=w.heap.size+1) (X:=(w.alloc (.cells #[.int .i64 4,.int .i64 n,.string s] 83))) (by go_grown) (by go_size) hb;obtain⟨hC,hF,hL,hE⟩:=kp hb;clear hb))
 first
  | (go_region_with (first
   | (go_at_call 267;refine(Vm _ _ hR).mono ?_;rintro e w1 ⟨rfl,rfl⟩)))
  | fail
 all_goals go_wp2_with fail
 all_goals
  go_ret;exact⟨rfl,Zu (n:=1) (X:=(w.alloc (.cells #[.int .i64 4,.int .i64 n,.string s] 83))) (by go_grown) (by go_grown)⟩
theorem Xv (n:Int) (s:ByteArray) (w:World) (hs:Hid (s.size≤maxLen)) (hR:Qv s=false):Calls Tryz.prog 109 #[.agg #[.int .i64 2,.int .i64 n,.string s]] w fun e w'=>
  e= .returned (mNo)∧Below w.heap.size w w':=by
 go_enter Tryz.func109,Tryz.ntmps109
 go_wp2_with (first
  | (go_at_call 129;refine(Qe _ _ _ _).mono ?_;rintro e w1 ⟨rfl,hb⟩;have em:mBK 2 n s= .iface 123 (.string s):=rfl;rw [em];clear em;obtain⟨hk,hz⟩:=Qf (B:=w.heap.size+1) (X:=(w.alloc (.cells #[.int .i64 2,.int .i64 n,.string s] 83))) (by go_grown) (by go_size) hb;obtain⟨hC,hF,hL,hE⟩:=kp hb;clear hb))
 first
  | (go_region_with (first
   | (go_at_call 255;refine(Vl _ _ hs.out hR).mono ?_;rintro e w1 ⟨rfl,rfl⟩)))
  | fail
 all_goals go_wp2_with fail
 all_goals
  go_ret;exact⟨rfl,Zu (n:=1) (X:=(w.alloc (.cells #[.int .i64 2,.int .i64 n,.string s] 83))) (by go_grown) (by go_grown)⟩
theorem XP (k:Int) (n:Int) (s:ByteArray) (w:World) (HM:Hid (mBK k n s= .iface 164 (.agg #[]))):Calls Tryz.prog 109 #[.agg #[.int .i64 k,.int .i64 n,.string s]] w fun e w'=>
  e= .returned (mNo)∧Below w.heap.size w w':=by
 go_enter Tryz.func109,Tryz.ntmps109
 go_wp2_with (first
  | (go_at_call 129;refine(Qe _ _ _ _).mono ?_;rintro e w1 ⟨rfl,hb⟩;rw [HM.out];obtain⟨hk,hz⟩:=Qf (B:=w.heap.size+1) (X:=(w.alloc (.cells #[.int .i64 k,.int .i64 n,.string s] 83))) (by go_grown) (by go_size) hb;obtain⟨hC,hF,hL,hE⟩:=kp hb;clear hb))
 first
  | (go_region_with (first
   | (go_at_call 259;refine(Xe _).mono ?_;rintro e w1 ⟨rfl,hb⟩;obtain⟨hk,hz⟩:=Qf (B:=w.heap.size+1) (X:=(w.alloc (.cells #[.int .i64 k,.int .i64 n,.string s] 83))) (by go_grown) (by go_size) hb;clear hb)))
  | fail
 all_goals go_wp2_with fail
 all_goals
  go_ret;exact⟨rfl,Zu (n:=1) (X:=(w.alloc (.cells #[.int .i64 k,.int .i64 n,.string s] 83))) (by go_grown) (by go_grown)⟩
end Go.Proofs.YtkdhmdllnaogcaaGreatDoor
