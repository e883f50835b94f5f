import Derived.Test.YtekcnhfkmimodaaGreatDoorGaa
import Derived.Deep.RegionHeld3
import Derived.Deep.DeepCutAuto
import Derived.Laws.StructEq
set_option linter.unusedSimpArgs false
set_option linter.unusedVariables false
set_option maxHeartbeats 1000000
namespace Go.Proofs.YtekcnhfkmimodaaGreatDoor
open Go.RowKit
def Zr (l:List UInt8):Bool:=l.all fun b=>decide (32≤b.toNat∧b.toNat≤126)
def mBK (k n:Int) (s:ByteArray):Value:=
 if k=0 then .iface 155 (.agg #[])else if k=1 then .iface 137 (.int .i64 n)else if k=2 then .iface 117 (.string s)
 else if k=3 then .iface 156 (.int .i64 n)else if k=4 then .iface 157 (.int .i64 n)else .iface 154 (.agg #[])
def mNo:Value:= .iface 154 (.agg #[])
theorem YV {a b:Value} (h:a=b):Ending.returned a= .returned b:=by rw [h]
theorem Qg (k n:Int) (s:ByteArray) (w:World):Calls Tryz.prog 141 #[.agg #[.int .i64 k,.int .i64 n,.string s]] w fun e w'=>
  e= .returned (mBK k n s)∧Below w.heap.size w w':=by
 by_cases h0:k=0
 ·subst h0;go_enter Tryz.func141,Tryz.ntmps141;go_wp2
  go_ret;exact⟨YV (by simp [mBK]),by go_grown⟩
 by_cases h1:k=1
 ·subst h1;go_enter Tryz.func141,Tryz.ntmps141;go_wp2
  go_ret;exact⟨YV (by simp [mBK]),by go_grown⟩
 by_cases h2:k=2
 ·subst h2;go_enter Tryz.func141,Tryz.ntmps141;go_wp2
  go_ret;exact⟨YV (by simp [mBK]),by go_grown⟩
 by_cases h3:k=3
 ·subst h3;go_enter Tryz.func141,Tryz.ntmps141;go_wp2
  go_ret;exact⟨YV (by simp [mBK]),by go_grown⟩
 by_cases h4:k=4
 ·subst h4;go_enter Tryz.func141,Tryz.ntmps141;go_wp2
  go_ret;exact⟨YV (by simp [mBK]),by go_grown⟩
 ·have e0:(k==0)=false:=by simpa using h0
  have e1:(k==1)=false:=by simpa using h1
  have e2:(k==2)=false:=by simpa using h2
  have e3:(k==3)=false:=by simpa using h3
  have e4:(k==4)=false:=by simpa using h4
  go_enter Tryz.func141,Tryz.ntmps141;go_wp2
  go_ret;exact⟨YV (by simp [mBK,h0,h1,h2,h3,h4]),by go_grown⟩
def Zy (n:Int):Bool:=decide (-1000000000000000≤n∧n≤1000000000000000)
def Yn (n:Int):Bool:=decide (n=0∨n=1)
def Xg (n:Int):Bool:=decide (1≤n∧n≤5)
def Qw (s:ByteArray):Bool:=decide (s.size≤200)&&Zr s.data.toList
theorem Zq (n:Int) (w:World):Calls Tryz.prog 242 #[.int .i64 n] w fun e w'=>
  e= .returned (.bool (Zy n))∧w'=w:=by
 go_enter Tryz.func242,Tryz.ntmps242;go_wp2
 all_goals
  go_ret;refine⟨Qb ?_,rfl⟩;rw [Bool.eq_iff_iff];unfold Zy;simp;try omega
theorem ZJ (n:Int) (w:World):Calls Tryz.prog 250 #[.int .i64 n] w fun e w'=>
  e= .returned (.bool (Yn n))∧w'=w:=by
 go_enter Tryz.func250,Tryz.ntmps250;go_wp2
 all_goals
  go_ret;refine⟨Qb ?_,rfl⟩;rw [Bool.eq_iff_iff];unfold Yn;simp;try omega
theorem Zi (n:Int) (w:World):Calls Tryz.prog 252 #[.int .i64 n] w fun e w'=>
  e= .returned (.bool (Xg n))∧w'=w:=by
 go_enter Tryz.func252,Tryz.ntmps252;go_wp2
 all_goals
  go_ret;refine⟨Qb ?_,rfl⟩;rw [Bool.eq_iff_iff];unfold Xg;simp;try omega
theorem Xv (w:World):Calls Tryz.prog 244 #[.agg #[]] w fun e w'=>
  e= .returned (.bool (false))∧Below w.heap.size w w':=by
 go_enter Tryz.func244,Tryz.ntmps244;go_wp2
 all_goals
  go_ret;refine⟨Qb ?_,by go_grown⟩;rfl
theorem Yv (w:World):Calls Tryz.prog 247 #[.agg #[]] w fun e w'=>
  e= .returned (.bool (true))∧Below w.heap.size w w':=by
 go_enter Tryz.func247,Tryz.ntmps247;go_wp2
 all_goals
  go_ret;refine⟨Qb ?_,by go_grown⟩;rfl
theorem YD (n:Int) (w:World):Calls Tryz.prog 126 #[.int .i64 n] w fun e w'=>
  e= .returned (.agg #[.int .i64 1,.int .i64 n,.string ⟨#[]⟩])∧Below w.heap.size w w':=by
 go_enter Tryz.func126,Tryz.ntmps126;go_wp2
 go_returns
 exact⟨rfl,by go_grown⟩
theorem XY (n:Int) (w:World):Calls Tryz.prog 251 #[.int .i64 n] w fun e w'=>
  e= .returned (.agg #[.int .i64 3,.int .i64 n,.string ⟨#[]⟩])∧Below w.heap.size w w':=by
 go_enter Tryz.func251,Tryz.ntmps251;go_wp2
 go_returns
 exact⟨rfl,by go_grown⟩
theorem YR (n:Int) (w:World):Calls Tryz.prog 253 #[.int .i64 n] w fun e w'=>
  e= .returned (.agg #[.int .i64 4,.int .i64 n,.string ⟨#[]⟩])∧Below w.heap.size w w':=by
 go_enter Tryz.func253,Tryz.ntmps253;go_wp2
 go_returns
 exact⟨rfl,by go_grown⟩
theorem Yi (s:ByteArray) (w:World):Calls Tryz.prog 173 #[.string s] w fun e w'=>
  e= .returned (.agg #[.int .i64 2,.int .i64 0,.string s])∧Below w.heap.size w w':=by
 go_enter Tryz.func173,Tryz.ntmps173;go_wp2
 go_returns
 exact⟨rfl,by go_grown⟩
theorem YQ (w:World):Calls Tryz.prog 249 #[.agg #[]] w fun e w'=>
  e= .returned (.agg #[.int .i64 0,.int .i64 0,.string ⟨#[]⟩])∧Below w.heap.size w w':=by
 go_enter Tryz.func249,Tryz.ntmps249;go_wp2
 go_returns
 exact⟨rfl,by go_grown⟩
theorem Gg (s:ByteArray) (k:Nat) (h:k<s.size):Zr (s.data.toList.take (k+1))=(Zr (s.data.toList.take k)&&decide (32≤s[k].toNat∧s[k].toNat≤126)):=by
 have e:s.data.toList.take (k+1)=s.data.toList.take k++ [s[k]]:=by
  rw [List.take_succ_eq_append_getElem (by simpa using h)];rfl
 rw [e];simp [Zr]
theorem Dd (s:ByteArray) (k:Nat) (h:k<s.size) (hb: ¬(32≤s[k].toNat∧s[k].toNat≤126)):Zr s.data.toList=false:=by
 cases e:Zr s.data.toList
 ·rfl
 ·have:=List.all_eq_true.1 e s[k] (Array.mem_toList_iff.2 (Array.getElem_mem h));exact absurd (of_decide_eq_true this) hb
theorem Xx (s:ByteArray) (w:World) (hs:s.size≤maxLen):Calls Tryz.prog 79 #[.string s] w fun e w'=>
  e= .returned (.bool (Zr s.data.toList))∧w'=w:=by
 unfold maxLen at hs;go_enter Tryz.func79,Tryz.ntmps79;go_wp2_with fail
 go_loop [6] (fun v=> ∃k:Nat,k≤s.size∧v= .int .i64 k∧Zr (s.data.toList.take k)=true) (fun v=>s.size-(intOf v).toNat)
 case atStart=>exact⟨0,by omega,rfl,rfl⟩
 case round=>
  obtain⟨k,hk,rfl,hr⟩:=hrel;have HR:Hid (Zr (s.data.toList.take k)=true):=hr;clear hr;by_cases hlt:k<s.size
  ·have HT:Hid (Zr (s.data.toList.take (k+1))=(Zr (s.data.toList.take k)&&decide (32≤s[k].toNat∧s[k].toNat≤126))):=Gg s k hlt;by_cases hb:32≤s[k].toNat∧s[k].toNat≤126
   ·have hb1: ¬((s[k].toNat:Int)<32):=by omega
    have hb2: ¬(126<(s[k].toNat:Int)):=by omega
    go_wp2
    all_goals
     go_round
     case rel=>exact⟨k+1,by omega,by go_num,by rw [HT.out,HR.out];simp;omega⟩
     case measure=>simp [intOf];omega
   ·have HF:Hid (Zr s.data.toList=false):=Dd s k hlt hb;by_cases hb1:(s[k].toNat:Int)<32
    ·go_wp2
     go_ret;exact⟨Qb HF.out.symm,rfl⟩
    ·have hb2:126<(s[k].toNat:Int):=by omega
     go_wp2
     go_ret;exact⟨Qb HF.out.symm,rfl⟩
  ·go_wp2
   go_ret;have HA:=HR.out;rw [List.take_of_length_le (by simp;omega)]at HA;exact⟨Qb HA.symm,rfl⟩
theorem Zh (s:ByteArray) (w:World) (hs:s.size≤maxLen):Calls Tryz.prog 241 #[.string s] w fun e w'=>
  e= .returned (.bool (Qw s))∧w'=w:=by
 have hs':=hs;unfold maxLen at hs';go_enter Tryz.func241,Tryz.ntmps241
 go_wp2_with (first
  | (go_at_call 79;refine(Xx _ _ hs).mono ?_;rintro e w1 ⟨rfl,rfl⟩))
 all_goals
  go_ret;refine⟨Qb ?_,rfl⟩;unfold Qw;simp_all
  try omega
theorem JS (s:ByteArray) (w:World) (hq:s.toList= []):Calls Tryz.prog 128 #[.agg #[.int .i64 0,.int .i64 0,.string s]] w fun e w'=>
  e= .returned (.iface 155 (.agg #[]))∧Below w.heap.size w w':=by
 go_enter Tryz.func128,Tryz.ntmps128
 go_wp2_with (first
  | (go_at_call 141;refine(Qg _ _ _ _).mono ?_;rintro e w1 ⟨rfl,hb⟩;have em:mBK 0 0 s= .iface 155 (.agg #[]):=rfl;rw [em];clear em;obtain⟨hk,hz⟩:=Qh (B:=w.heap.size+1) (X:=(w.alloc (.cells #[.int .i64 0,.int .i64 0,.string s] 83))) (by go_grown) (by go_size) hb;obtain⟨hC,hF,hL,hE⟩:=kp hb;clear hb))
 go_region_held3 (fun w'=>(∀bq oq,bq<w.heap.size+1→w'.cell? ⟨bq,oq,none⟩=(w.alloc (.cells #[.int .i64 0,.int .i64 0,.string s] 83)).cell? ⟨bq,oq,none⟩)∧w.heap.size+1≤w'.heap.size∧Below (w.heap.size+1) (w.alloc (.cells #[.int .i64 0,.int .i64 0,.string s] 83)) w')
  (exact Qn (by go_size) (by go_grown))
  (first
  | (go_at_call 247;refine(Yv _).mono ?_;rintro e w1 ⟨rfl,hb⟩;obtain⟨hk,hz⟩:=Qh (B:=w.heap.size+1) (X:=(w.alloc (.cells #[.int .i64 0,.int .i64 0,.string s] 83))) (by go_grown) (by go_size) hb;clear hb)
  | (go_at_call 249;refine(YQ _).mono ?_;rintro e w1 ⟨rfl,hb⟩;obtain⟨hk,hz⟩:=Qh (B:=w.heap.size+1) (X:=(w.alloc (.cells #[.int .i64 0,.int .i64 0,.string s] 83))) (by go_grown) (by go_size) hb;clear hb))
 all_goals go_wp2_with fail
 all_goals
  go_ret;exact⟨rfl,ZF (n:=1) (X:=(w.alloc (.cells #[.int .i64 0,.int .i64 0,.string s] 83))) (by go_grown) (by go_grown)⟩
theorem JT (s:ByteArray) (w:World) (hq: ¬s.toList= []):Calls Tryz.prog 128 #[.agg #[.int .i64 0,.int .i64 0,.string s]] w fun e w'=>
  e= .returned (mNo)∧Below w.heap.size w w':=by
 go_enter Tryz.func128,Tryz.ntmps128
 go_wp2_with (first
  | (go_at_call 141;refine(Qg _ _ _ _).mono ?_;rintro e w1 ⟨rfl,hb⟩;have em:mBK 0 0 s= .iface 155 (.agg #[]):=rfl;rw [em];clear em;obtain⟨hk,hz⟩:=Qh (B:=w.heap.size+1) (X:=(w.alloc (.cells #[.int .i64 0,.int .i64 0,.string s] 83))) (by go_grown) (by go_size) hb;obtain⟨hC,hF,hL,hE⟩:=kp hb;clear hb))
 go_region_held3 (fun w'=>(∀bq oq,bq<w.heap.size+1→w'.cell? ⟨bq,oq,none⟩=(w.alloc (.cells #[.int .i64 0,.int .i64 0,.string s] 83)).cell? ⟨bq,oq,none⟩)∧w.heap.size+1≤w'.heap.size∧Below (w.heap.size+1) (w.alloc (.cells #[.int .i64 0,.int .i64 0,.string s] 83)) w')
  (exact Qn (by go_size) (by go_grown))
  (first
  | (go_at_call 247;refine(Yv _).mono ?_;rintro e w1 ⟨rfl,hb⟩;obtain⟨hk,hz⟩:=Qh (B:=w.heap.size+1) (X:=(w.alloc (.cells #[.int .i64 0,.int .i64 0,.string s] 83))) (by go_grown) (by go_size) hb;clear hb)
  | (go_at_call 249;refine(YQ _).mono ?_;rintro e w1 ⟨rfl,hb⟩;obtain⟨hk,hz⟩:=Qh (B:=w.heap.size+1) (X:=(w.alloc (.cells #[.int .i64 0,.int .i64 0,.string s] 83))) (by go_grown) (by go_size) hb;clear hb))
 all_goals go_wp2_with fail
 all_goals
  go_ret;exact⟨rfl,ZF (n:=1) (X:=(w.alloc (.cells #[.int .i64 0,.int .i64 0,.string s] 83))) (by go_grown) (by go_grown)⟩
theorem JU (n:Int) (s:ByteArray) (w:World) (hq: ¬0=n):Calls Tryz.prog 128 #[.agg #[.int .i64 0,.int .i64 n,.string s]] w fun e w'=>
  e= .returned (mNo)∧Below w.heap.size w w':=by
 go_enter Tryz.func128,Tryz.ntmps128
 go_wp2_with (first
  | (go_at_call 141;refine(Qg _ _ _ _).mono ?_;rintro e w1 ⟨rfl,hb⟩;have em:mBK 0 n s= .iface 155 (.agg #[]):=rfl;rw [em];clear em;obtain⟨hk,hz⟩:=Qh (B:=w.heap.size+1) (X:=(w.alloc (.cells #[.int .i64 0,.int .i64 n,.string s] 83))) (by go_grown) (by go_size) hb;obtain⟨hC,hF,hL,hE⟩:=kp hb;clear hb))
 go_region_held3 (fun w'=>(∀bq oq,bq<w.heap.size+1→w'.cell? ⟨bq,oq,none⟩=(w.alloc (.cells #[.int .i64 0,.int .i64 n,.string s] 83)).cell? ⟨bq,oq,none⟩)∧w.heap.size+1≤w'.heap.size∧Below (w.heap.size+1) (w.alloc (.cells #[.int .i64 0,.int .i64 n,.string s] 83)) w')
  (exact Qn (by go_size) (by go_grown))
  (first
  | (go_at_call 247;refine(Yv _).mono ?_;rintro e w1 ⟨rfl,hb⟩;obtain⟨hk,hz⟩:=Qh (B:=w.heap.size+1) (X:=(w.alloc (.cells #[.int .i64 0,.int .i64 n,.string s] 83))) (by go_grown) (by go_size) hb;clear hb)
  | (go_at_call 249;refine(YQ _).mono ?_;rintro e w1 ⟨rfl,hb⟩;obtain⟨hk,hz⟩:=Qh (B:=w.heap.size+1) (X:=(w.alloc (.cells #[.int .i64 0,.int .i64 n,.string s] 83))) (by go_grown) (by go_size) hb;clear hb))
 all_goals go_wp2_with fail
 all_goals
  go_ret;exact⟨rfl,ZF (n:=1) (X:=(w.alloc (.cells #[.int .i64 0,.int .i64 n,.string s] 83))) (by go_grown) (by go_grown)⟩
theorem Jg (n:Int) (s:ByteArray) (w:World) (hR:Zy n=true) (hq:s.toList= []):Calls Tryz.prog 128 #[.agg #[.int .i64 1,.int .i64 n,.string s]] w fun e w'=>
  e= .returned (.iface 137 (.int .i64 n))∧Below w.heap.size w w':=by
 go_enter Tryz.func128,Tryz.ntmps128
 go_wp2_with (first
  | (go_at_call 141;refine(Qg _ _ _ _).mono ?_;rintro e w1 ⟨rfl,hb⟩;have em:mBK 1 n s= .iface 137 (.int .i64 n):=rfl;rw [em];clear em;obtain⟨hk,hz⟩:=Qh (B:=w.heap.size+1) (X:=(w.alloc (.cells #[.int .i64 1,.int .i64 n,.string s] 83))) (by go_grown) (by go_size) hb;obtain⟨hC,hF,hL,hE⟩:=kp hb;clear hb))
 go_region_held3 (fun w'=>(∀bq oq,bq<w.heap.size+1→w'.cell? ⟨bq,oq,none⟩=(w.alloc (.cells #[.int .i64 1,.int .i64 n,.string s] 83)).cell? ⟨bq,oq,none⟩)∧w.heap.size+1≤w'.heap.size∧Below (w.heap.size+1) (w.alloc (.cells #[.int .i64 1,.int .i64 n,.string s] 83)) w')
  (exact Qn (by go_size) (by go_grown))
  (first
  | (go_at_call 242;refine(Zq _ _).mono ?_;rintro e w1 ⟨rfl,rfl⟩)
  | (go_at_call 126;refine(YD _ _).mono ?_;rintro e w1 ⟨rfl,hb⟩;obtain⟨hk,hz⟩:=Qh (B:=w.heap.size+1) (X:=(w.alloc (.cells #[.int .i64 1,.int .i64 n,.string s] 83))) (by go_grown) (by go_size) hb;clear hb))
 all_goals go_wp2_with fail
 all_goals
  go_ret;exact⟨rfl,ZF (n:=1) (X:=(w.alloc (.cells #[.int .i64 1,.int .i64 n,.string s] 83))) (by go_grown) (by go_grown)⟩
theorem Ji (n:Int) (s:ByteArray) (w:World) (hR:Zy n=true) (hq: ¬s.toList= []):Calls Tryz.prog 128 #[.agg #[.int .i64 1,.int .i64 n,.string s]] w fun e w'=>
  e= .returned (mNo)∧Below w.heap.size w w':=by
 go_enter Tryz.func128,Tryz.ntmps128
 go_wp2_with (first
  | (go_at_call 141;refine(Qg _ _ _ _).mono ?_;rintro e w1 ⟨rfl,hb⟩;have em:mBK 1 n s= .iface 137 (.int .i64 n):=rfl;rw [em];clear em;obtain⟨hk,hz⟩:=Qh (B:=w.heap.size+1) (X:=(w.alloc (.cells #[.int .i64 1,.int .i64 n,.string s] 83))) (by go_grown) (by go_size) hb;obtain⟨hC,hF,hL,hE⟩:=kp hb;clear hb))
 go_region_held3 (fun w'=>(∀bq oq,bq<w.heap.size+1→w'.cell? ⟨bq,oq,none⟩=(w.alloc (.cells #[.int .i64 1,.int .i64 n,.string s] 83)).cell? ⟨bq,oq,none⟩)∧w.heap.size+1≤w'.heap.size∧Below (w.heap.size+1) (w.alloc (.cells #[.int .i64 1,.int .i64 n,.string s] 83)) w')
  (exact Qn (by go_size) (by go_grown))
  (first
  | (go_at_call 242;refine(Zq _ _).mono ?_;rintro e w1 ⟨rfl,rfl⟩)
  | (go_at_call 126;refine(YD _ _).mono ?_;rintro e w1 ⟨rfl,hb⟩;obtain⟨hk,hz⟩:=Qh (B:=w.heap.size+1) (X:=(w.alloc (.cells #[.int .i64 1,.int .i64 n,.string s] 83))) (by go_grown) (by go_size) hb;clear hb))
 all_goals go_wp2_with fail
 all_goals
  go_ret;exact⟨rfl,ZF (n:=1) (X:=(w.alloc (.cells #[.int .i64 1,.int .i64 n,.string s] 83))) (by go_grown) (by go_grown)⟩
theorem JP (n:Int) (s:ByteArray) (w:World) (hR:Yn n=true) (hq:s.toList= []):Calls Tryz.prog 128 #[.agg #[.int .i64 3,.int .i64 n,.string s]] w fun e w'=>
  e= .returned (.iface 156 (.int .i64 n))∧Below w.heap.size w w':=by
 go_enter Tryz.func128,Tryz.ntmps128
 go_wp2_with (first
  | (go_at_call 141;refine(Qg _ _ _ _).mono ?_;rintro e w1 ⟨rfl,hb⟩;have em:mBK 3 n s= .iface 156 (.int .i64 n):=rfl;rw [em];clear em;obtain⟨hk,hz⟩:=Qh (B:=w.heap.size+1) (X:=(w.alloc (.cells #[.int .i64 3,.int .i64 n,.string s] 83))) (by go_grown) (by go_size) hb;obtain⟨hC,hF,hL,hE⟩:=kp hb;clear hb))
 go_region_held3 (fun w'=>(∀bq oq,bq<w.heap.size+1→w'.cell? ⟨bq,oq,none⟩=(w.alloc (.cells #[.int .i64 3,.int .i64 n,.string s] 83)).cell? ⟨bq,oq,none⟩)∧w.heap.size+1≤w'.heap.size∧Below (w.heap.size+1) (w.alloc (.cells #[.int .i64 3,.int .i64 n,.string s] 83)) w')
  (exact Qn (by go_size) (by go_grown))
  (first
  | (go_at_call 250;refine(ZJ _ _).mono ?_;rintro e w1 ⟨rfl,rfl⟩)
  | (go_at_call 251;refine(XY _ _).mono ?_;rintro e w1 ⟨rfl,hb⟩;obtain⟨hk,hz⟩:=Qh (B:=w.heap.size+1) (X:=(w.alloc (.cells #[.int .i64 3,.int .i64 n,.string s] 83))) (by go_grown) (by go_size) hb;clear hb))
 all_goals go_wp2_with fail
 all_goals
  go_ret;exact⟨rfl,ZF (n:=1) (X:=(w.alloc (.cells #[.int .i64 3,.int .i64 n,.string s] 83))) (by go_grown) (by go_grown)⟩
theorem JR (n:Int) (s:ByteArray) (w:World) (hR:Yn n=true) (hq: ¬s.toList= []):Calls Tryz.prog 128 #[.agg #[.int .i64 3,.int .i64 n,.string s]] w fun e w'=>
  e= .returned (mNo)∧Below w.heap.size w w':=by
 go_enter Tryz.func128,Tryz.ntmps128
 go_wp2_with (first
  | (go_at_call 141;refine(Qg _ _ _ _).mono ?_;rintro e w1 ⟨rfl,hb⟩;have em:mBK 3 n s= .iface 156 (.int .i64 n):=rfl;rw [em];clear em;obtain⟨hk,hz⟩:=Qh (B:=w.heap.size+1) (X:=(w.alloc (.cells #[.int .i64 3,.int .i64 n,.string s] 83))) (by go_grown) (by go_size) hb;obtain⟨hC,hF,hL,hE⟩:=kp hb;clear hb))
 go_region_held3 (fun w'=>(∀bq oq,bq<w.heap.size+1→w'.cell? ⟨bq,oq,none⟩=(w.alloc (.cells #[.int .i64 3,.int .i64 n,.string s] 83)).cell? ⟨bq,oq,none⟩)∧w.heap.size+1≤w'.heap.size∧Below (w.heap.size+1) (w.alloc (.cells #[.int .i64 3,.int .i64 n,.string s] 83)) w')
  (exact Qn (by go_size) (by go_grown))
  (first
  | (go_at_call 250;refine(ZJ _ _).mono ?_;rintro e w1 ⟨rfl,rfl⟩)
  | (go_at_call 251;refine(XY _ _).mono ?_;rintro e w1 ⟨rfl,hb⟩;obtain⟨hk,hz⟩:=Qh (B:=w.heap.size+1) (X:=(w.alloc (.cells #[.int .i64 3,.int .i64 n,.string s] 83))) (by go_grown) (by go_size) hb;clear hb))
 all_goals go_wp2_with fail
 all_goals
  go_ret;exact⟨rfl,ZF (n:=1) (X:=(w.alloc (.cells #[.int .i64 3,.int .i64 n,.string s] 83))) (by go_grown) (by go_grown)⟩
theorem XQ (n:Int) (s:ByteArray) (w:World) (hR:Xg n=true) (hq:s.toList= []):Calls Tryz.prog 128 #[.agg #[.int .i64 4,.int .i64 n,.string s]] w fun e w'=>
  e= .returned (.iface 157 (.int .i64 n))∧Below w.heap.size w w':=by
 go_enter Tryz.func128,Tryz.ntmps128
 go_wp2_with (first
  | (go_at_call 141;refine(Qg _ _ _ _).mono ?_;rintro e w1 ⟨rfl,hb⟩;have em:mBK 4 n s= .iface 157 (.int .i64 n):=rfl;rw [em];clear em;obtain⟨hk,hz⟩:=Qh (B:=w.heap.size+1) (X:=(w.alloc (.cells #[.int .i64 4,.int .i64 n,.string s] 83))) (by go_grown) (by go_size) hb;obtain⟨hC,hF,hL,hE⟩:=kp hb;clear hb))
 go_region_held3 (fun w'=>(∀bq oq,bq<w.heap.size+1→w'.cell? ⟨bq,oq,none⟩=(w.alloc (.cells #[.int .i64 4,.int .i64 n,.string s] 83)).cell? ⟨bq,oq,none⟩)∧w.heap.size+1≤w'.heap.size∧Below (w.heap.size+1) (w.alloc (.cells #[.int .i64 4,.int .i64 n,.string s] 83)) w')
  (exact Qn (by go_size) (by go_grown))
  (first
  | (go_at_call 252;refine(Zi _ _).mono ?_;rintro e w1 ⟨rfl,rfl⟩)
  | (go_at_call 253;refine(YR _ _).mono ?_;rintro e w1 ⟨rfl,hb⟩;obtain⟨hk,hz⟩:=Qh (B:=w.heap.size+1) (X:=(w.alloc (.cells #[.int .i64 4,.int .i64 n,.string s] 83))) (by go_grown) (by go_size) hb;clear hb))
 all_goals go_wp2_with fail
 all_goals
  go_ret;exact⟨rfl,ZF (n:=1) (X:=(w.alloc (.cells #[.int .i64 4,.int .i64 n,.string s] 83))) (by go_grown) (by go_grown)⟩
theorem XS (n:Int) (s:ByteArray) (w:World) (hR:Xg n=true) (hq: ¬s.toList= []):Calls Tryz.prog 128 #[.agg #[.int .i64 4,.int .i64 n,.string s]] w fun e w'=>
  e= .returned (mNo)∧Below w.heap.size w w':=by
 go_enter Tryz.func128,Tryz.ntmps128
 go_wp2_with (first
  | (go_at_call 141;refine(Qg _ _ _ _).mono ?_;rintro e w1 ⟨rfl,hb⟩;have em:mBK 4 n s= .iface 157 (.int .i64 n):=rfl;rw [em];clear em;obtain⟨hk,hz⟩:=Qh (B:=w.heap.size+1) (X:=(w.alloc (.cells #[.int .i64 4,.int .i64 n,.string s] 83))) (by go_grown) (by go_size) hb;obtain⟨hC,hF,hL,hE⟩:=kp hb;clear hb))
 go_region_held3 (fun w'=>(∀bq oq,bq<w.heap.size+1→w'.cell? ⟨bq,oq,none⟩=(w.alloc (.cells #[.int .i64 4,.int .i64 n,.string s] 83)).cell? ⟨bq,oq,none⟩)∧w.heap.size+1≤w'.heap.size∧Below (w.heap.size+1) (w.alloc (.cells #[.int .i64 4,.int .i64 n,.string s] 83)) w')
  (exact Qn (by go_size) (by go_grown))
  (first
  | (go_at_call 252;refine(Zi _ _).mono ?_;rintro e w1 ⟨rfl,rfl⟩)
  | (go_at_call 253;refine(YR _ _).mono ?_;rintro e w1 ⟨rfl,hb⟩;obtain⟨hk,hz⟩:=Qh (B:=w.heap.size+1) (X:=(w.alloc (.cells #[.int .i64 4,.int .i64 n,.string s] 83))) (by go_grown) (by go_size) hb;clear hb))
 all_goals go_wp2_with fail
 all_goals
  go_ret;exact⟨rfl,ZF (n:=1) (X:=(w.alloc (.cells #[.int .i64 4,.int .i64 n,.string s] 83))) (by go_grown) (by go_grown)⟩
theorem XN (s:ByteArray) (w:World) (hs:Hid (s.size≤maxLen)) (hR:Qw s=true):Calls Tryz.prog 128 #[.agg #[.int .i64 2,.int .i64 0,.string s]] w fun e w'=>
  e= .returned (.iface 117 (.string s))∧Below w.heap.size w w':=by
 go_enter Tryz.func128,Tryz.ntmps128
 go_wp2_with (first
  | (go_at_call 141;refine(Qg _ _ _ _).mono ?_;rintro e w1 ⟨rfl,hb⟩;have em:mBK 2 0 s= .iface 117 (.string s):=rfl;rw [em];clear em;obtain⟨hk,hz⟩:=Qh (B:=w.heap.size+1) (X:=(w.alloc (.cells #[.int .i64 2,.int .i64 0,.string s] 83))) (by go_grown) (by go_size) hb;obtain⟨hC,hF,hL,hE⟩:=kp hb;clear hb))
 go_region_held3 (fun w'=>(∀bq oq,bq<w.heap.size+1→w'.cell? ⟨bq,oq,none⟩=(w.alloc (.cells #[.int .i64 2,.int .i64 0,.string s] 83)).cell? ⟨bq,oq,none⟩)∧w.heap.size+1≤w'.heap.size∧Below (w.heap.size+1) (w.alloc (.cells #[.int .i64 2,.int .i64 0,.string s] 83)) w')
  (exact Qn (by go_size) (by go_grown))
  (first
  | (go_at_call 241;refine(Zh _ _ hs.out).mono ?_;rintro e w1 ⟨rfl,rfl⟩)
  | (go_at_call 173;refine(Yi _ _).mono ?_;rintro e w1 ⟨rfl,hb⟩;obtain⟨hk,hz⟩:=Qh (B:=w.heap.size+1) (X:=(w.alloc (.cells #[.int .i64 2,.int .i64 0,.string s] 83))) (by go_grown) (by go_size) hb;clear hb))
 all_goals go_wp2_with fail
 all_goals
  go_ret;exact⟨rfl,ZF (n:=1) (X:=(w.alloc (.cells #[.int .i64 2,.int .i64 0,.string s] 83))) (by go_grown) (by go_grown)⟩
theorem XP (n:Int) (s:ByteArray) (w:World) (hs:Hid (s.size≤maxLen)) (hR:Qw s=true) (hq: ¬0=n):Calls Tryz.prog 128 #[.agg #[.int .i64 2,.int .i64 n,.string s]] w fun e w'=>
  e= .returned (mNo)∧Below w.heap.size w w':=by
 go_enter Tryz.func128,Tryz.ntmps128
 go_wp2_with (first
  | (go_at_call 141;refine(Qg _ _ _ _).mono ?_;rintro e w1 ⟨rfl,hb⟩;have em:mBK 2 n s= .iface 117 (.string s):=rfl;rw [em];clear em;obtain⟨hk,hz⟩:=Qh (B:=w.heap.size+1) (X:=(w.alloc (.cells #[.int .i64 2,.int .i64 n,.string s] 83))) (by go_grown) (by go_size) hb;obtain⟨hC,hF,hL,hE⟩:=kp hb;clear hb))
 go_region_held3 (fun w'=>(∀bq oq,bq<w.heap.size+1→w'.cell? ⟨bq,oq,none⟩=(w.alloc (.cells #[.int .i64 2,.int .i64 n,.string s] 83)).cell? ⟨bq,oq,none⟩)∧w.heap.size+1≤w'.heap.size∧Below (w.heap.size+1) (w.alloc (.cells #[.int .i64 2,.int .i64 n,.string s] 83)) w')
  (exact Qn (by go_size) (by go_grown))
  (first
  | (go_at_call 241;refine(Zh _ _ hs.out).mono ?_;rintro e w1 ⟨rfl,rfl⟩)
  | (go_at_call 173;refine(Yi _ _).mono ?_;rintro e w1 ⟨rfl,hb⟩;obtain⟨hk,hz⟩:=Qh (B:=w.heap.size+1) (X:=(w.alloc (.cells #[.int .i64 2,.int .i64 n,.string s] 83))) (by go_grown) (by go_size) hb;clear hb))
 all_goals go_wp2_with fail
 all_goals
  go_ret;exact⟨rfl,ZF (n:=1) (X:=(w.alloc (.cells #[.int .i64 2,.int .i64 n,.string s] 83))) (by go_grown) (by go_grown)⟩
end Go.Proofs.YtekcnhfkmimodaaGreatDoor
