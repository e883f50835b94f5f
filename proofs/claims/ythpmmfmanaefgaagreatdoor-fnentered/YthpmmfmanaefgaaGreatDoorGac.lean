import Derived.Test.YthpmmfmanaefgaaGreatDoorGaa
import Derived.Deep.RegionHeld3
import Derived.Deep.DeepCutAuto
import Derived.Laws.StructEq
set_option linter.unusedSimpArgs false
set_option linter.unusedVariables false
set_option maxHeartbeats 1000000
namespace Go.Proofs.YthpmmfmanaefgaaGreatDoor
open Go.RowKit
def plainB (l:List UInt8):Bool:=l.all fun b=>decide (32≤b.toNat∧b.toNat≤126)
def mBK (k n:Int) (s:ByteArray):Value:=
 if k=0 then .iface 133 (.agg #[])else if k=1 then .iface 109 (.int .i64 n)else if k=2 then .iface 80 (.string s)
 else if k=3 then .iface 134 (.int .i64 n)else if k=4 then .iface 135 (.int .i64 n)else .iface 132 (.agg #[])
def mNo:Value:= .iface 132 (.agg #[])
theorem ret_val {a b:Value} (h:a=b):Ending.returned a= .returned b:=by rw [h]
theorem impl_meaningByKind (k n:Int) (s:ByteArray) (w:World):Calls Tryz.prog 99 #[.agg #[.int .i64 k,.int .i64 n,.string s]] w fun e w'=>
  e= .returned (mBK k n s)∧Below w.heap.size w w':=by
 by_cases h0:k=0
 ·subst h0
  go_enter Tryz.func99,Tryz.ntmps99
  go_wp2
  go_ret
  exact⟨ret_val (by simp [mBK]),by go_grown⟩
 by_cases h1:k=1
 ·subst h1
  go_enter Tryz.func99,Tryz.ntmps99
  go_wp2
  go_ret
  exact⟨ret_val (by simp [mBK]),by go_grown⟩
 by_cases h2:k=2
 ·subst h2
  go_enter Tryz.func99,Tryz.ntmps99
  go_wp2
  go_ret
  exact⟨ret_val (by simp [mBK]),by go_grown⟩
 by_cases h3:k=3
 ·subst h3
  go_enter Tryz.func99,Tryz.ntmps99
  go_wp2
  go_ret
  exact⟨ret_val (by simp [mBK]),by go_grown⟩
 by_cases h4:k=4
 ·subst h4
  go_enter Tryz.func99,Tryz.ntmps99
  go_wp2
  go_ret
  exact⟨ret_val (by simp [mBK]),by go_grown⟩
 ·have e0:(k==0)=false:=by simpa using h0
  have e1:(k==1)=false:=by simpa using h1
  have e2:(k==2)=false:=by simpa using h2
  have e3:(k==3)=false:=by simpa using h3
  have e4:(k==4)=false:=by simpa using h4
  go_enter Tryz.func99,Tryz.ntmps99
  go_wp2
  go_ret
  exact⟨ret_val (by simp [mBK,h0,h1,h2,h3,h4]),by go_grown⟩
def rNum (n:Int):Bool:=decide (-1000000000000000≤n∧n≤1000000000000000)
def rTruth (n:Int):Bool:=decide (n=0∨n=1)
def rFail (n:Int):Bool:=decide (1≤n∧n≤5)
def rWord (s:ByteArray):Bool:=decide (s.size≤200)&&plainB s.data.toList
theorem right_number (n:Int) (w:World):Calls Tryz.prog 248 #[.int .i64 n] w fun e w'=>
  e= .returned (.bool (rNum n))∧w'=w:=by
 go_enter Tryz.func248,Tryz.ntmps248
 go_wp2
 all_goals
  go_ret
  refine⟨ret_bool ?_,rfl⟩
  rw [Bool.eq_iff_iff]
  unfold rNum
  simp
  try omega
theorem right_truth (n:Int) (w:World):Calls Tryz.prog 256 #[.int .i64 n] w fun e w'=>
  e= .returned (.bool (rTruth n))∧w'=w:=by
 go_enter Tryz.func256,Tryz.ntmps256
 go_wp2
 all_goals
  go_ret
  refine⟨ret_bool ?_,rfl⟩
  rw [Bool.eq_iff_iff]
  unfold rTruth
  simp
  try omega
theorem right_failure (n:Int) (w:World):Calls Tryz.prog 258 #[.int .i64 n] w fun e w'=>
  e= .returned (.bool (rFail n))∧w'=w:=by
 go_enter Tryz.func258,Tryz.ntmps258
 go_wp2
 all_goals
  go_ret
  refine⟨ret_bool ?_,rfl⟩
  rw [Bool.eq_iff_iff]
  unfold rFail
  simp
  try omega
theorem right_misfit (w:World):Calls Tryz.prog 250 #[.agg #[]] w fun e w'=>
  e= .returned (.bool (false))∧Below w.heap.size w w':=by
 go_enter Tryz.func250,Tryz.ntmps250
 go_wp2
 all_goals
  go_ret
  refine⟨ret_bool ?_,by go_grown⟩
  rfl
theorem right_blank (w:World):Calls Tryz.prog 253 #[.agg #[]] w fun e w'=>
  e= .returned (.bool (true))∧Below w.heap.size w w':=by
 go_enter Tryz.func253,Tryz.ntmps253
 go_wp2
 all_goals
  go_ret
  refine⟨ret_bool ?_,by go_grown⟩
  rfl
theorem value_number (n:Int) (w:World):Calls Tryz.prog 75 #[.int .i64 n] w fun e w'=>
  e= .returned (.agg #[.int .i64 1,.int .i64 n,.string ⟨#[]⟩])∧Below w.heap.size w w':=by
 go_enter Tryz.func75,Tryz.ntmps75
 go_wp2
 go_returns
 exact⟨rfl,by go_grown⟩
theorem value_truth (n:Int) (w:World):Calls Tryz.prog 257 #[.int .i64 n] w fun e w'=>
  e= .returned (.agg #[.int .i64 3,.int .i64 n,.string ⟨#[]⟩])∧Below w.heap.size w w':=by
 go_enter Tryz.func257,Tryz.ntmps257
 go_wp2
 go_returns
 exact⟨rfl,by go_grown⟩
theorem value_failure (n:Int) (w:World):Calls Tryz.prog 259 #[.int .i64 n] w fun e w'=>
  e= .returned (.agg #[.int .i64 4,.int .i64 n,.string ⟨#[]⟩])∧Below w.heap.size w w':=by
 go_enter Tryz.func259,Tryz.ntmps259
 go_wp2
 go_returns
 exact⟨rfl,by go_grown⟩
theorem value_wording (s:ByteArray) (w:World):Calls Tryz.prog 198 #[.string s] w fun e w'=>
  e= .returned (.agg #[.int .i64 2,.int .i64 0,.string s])∧Below w.heap.size w w':=by
 go_enter Tryz.func198,Tryz.ntmps198
 go_wp2
 go_returns
 exact⟨rfl,by go_grown⟩
theorem value_blank (w:World):Calls Tryz.prog 255 #[.agg #[]] w fun e w'=>
  e= .returned (.agg #[.int .i64 0,.int .i64 0,.string ⟨#[]⟩])∧Below w.heap.size w w':=by
 go_enter Tryz.func255,Tryz.ntmps255
 go_wp2
 go_returns
 exact⟨rfl,by go_grown⟩
theorem plain_take (s:ByteArray) (k:Nat) (h:k<s.size):plainB (s.data.toList.take (k+1))=(plainB (s.data.toList.take k)&&decide (32≤s[k].toNat∧s[k].toNat≤126)):=by
 have e:s.data.toList.take (k+1)=s.data.toList.take k++ [s[k]]:=by
  rw [List.take_succ_eq_append_getElem (by simpa using h)];rfl
 rw [e];simp [plainB]
theorem plain_no (s:ByteArray) (k:Nat) (h:k<s.size) (hb: ¬(32≤s[k].toNat∧s[k].toNat≤126)):plainB s.data.toList=false:=by
 cases e:plainB s.data.toList
 ·rfl
 ·have:=List.all_eq_true.1 e s[k] (Array.mem_toList_iff.2 (Array.getElem_mem h))
  exact absurd (of_decide_eq_true this) hb
theorem impl_isPlain (s:ByteArray) (w:World) (hs:s.size≤maxLen):Calls Tryz.prog 26 #[.string s] w fun e w'=>
  e= .returned (.bool (plainB s.data.toList))∧w'=w:=by
 unfold maxLen at hs
 go_enter Tryz.func26,Tryz.ntmps26
 go_wp2_with fail
 go_loop [6] (fun v=> ∃k:Nat,k≤s.size∧v= .int .i64 k∧plainB (s.data.toList.take k)=true) (fun v=>s.size-(intOf v).toNat)
 case atStart=>exact⟨0,by omega,rfl,rfl⟩
 case round=>
  obtain⟨k,hk,rfl,hr⟩:=hrel
  have HR:Hid (plainB (s.data.toList.take k)=true):=hr
  clear hr
  by_cases hlt:k<s.size
  ·have HT:Hid (plainB (s.data.toList.take (k+1))=(plainB (s.data.toList.take k)&&decide (32≤s[k].toNat∧s[k].toNat≤126))):=plain_take s k hlt
   by_cases hb:32≤s[k].toNat∧s[k].toNat≤126
   ·have hb1: ¬((s[k].toNat:Int)<32):=by omega
    have hb2: ¬(126<(s[k].toNat:Int)):=by omega
    go_wp2
    all_goals
     go_round
     case rel=>exact⟨k+1,by omega,by go_num,by rw [HT.out,HR.out];simp;omega⟩
     case measure=>simp [intOf];omega
   ·have HF:Hid (plainB s.data.toList=false):=plain_no s k hlt hb
    by_cases hb1:(s[k].toNat:Int)<32
    ·go_wp2
     go_ret
     exact⟨ret_bool HF.out.symm,rfl⟩
    ·have hb2:126<(s[k].toNat:Int):=by omega
     go_wp2
     go_ret
     exact⟨ret_bool HF.out.symm,rfl⟩
  ·go_wp2
   go_ret
   have HA:=HR.out
   rw [List.take_of_length_le (by simp;omega)]at HA
   exact⟨ret_bool HA.symm,rfl⟩
theorem right_wording (s:ByteArray) (w:World) (hs:s.size≤maxLen):Calls Tryz.prog 245 #[.string s] w fun e w'=>
  e= .returned (.bool (rWord s))∧w'=w:=by
 have hs':=hs
 unfold maxLen at hs'
 go_enter Tryz.func245,Tryz.ntmps245
 go_wp2_with (first
  | (go_at_call 26;refine(impl_isPlain _ _ hs).mono ?_;rintro e w1 ⟨rfl,rfl⟩))
 all_goals
  go_ret
  refine⟨ret_bool ?_,rfl⟩
  unfold rWord
  simp_all
  try omega
theorem meaningOf_blank_ok (s:ByteArray) (w:World) (hq:s.toList= []):Calls Tryz.prog 77 #[.agg #[.int .i64 0,.int .i64 0,.string s]] w fun e w'=>
  e= .returned (.iface 133 (.agg #[]))∧Below w.heap.size w w':=by
 go_enter Tryz.func77,Tryz.ntmps77
 go_wp2_with (first
  | (go_at_call 99;refine(impl_meaningByKind _ _ _ _).mono ?_;rintro e w1 ⟨rfl,hb⟩;have em:mBK 0 0 s= .iface 133 (.agg #[]):=rfl;rw [em];clear em;obtain⟨hk,hz⟩:=bframe (B:=w.heap.size+1) (X:=(w.alloc (.cells #[.int .i64 0,.int .i64 0,.string s] 73))) (by go_grown) (by go_size) hb;obtain⟨hC,hF,hL,hE⟩:=kp hb;clear hb))
 go_region_held3 (fun w'=>(∀bq oq,bq<w.heap.size+1→w'.cell? ⟨bq,oq,none⟩=(w.alloc (.cells #[.int .i64 0,.int .i64 0,.string s] 73)).cell? ⟨bq,oq,none⟩)∧w.heap.size+1≤w'.heap.size∧Below (w.heap.size+1) (w.alloc (.cells #[.int .i64 0,.int .i64 0,.string s] 73)) w')
  (exact sc_of (by go_size) (by go_grown))
  (first
  | (go_at_call 253;refine(right_blank _).mono ?_;rintro e w1 ⟨rfl,hb⟩;obtain⟨hk,hz⟩:=bframe (B:=w.heap.size+1) (X:=(w.alloc (.cells #[.int .i64 0,.int .i64 0,.string s] 73))) (by go_grown) (by go_size) hb;clear hb)
  | (go_at_call 255;refine(value_blank _).mono ?_;rintro e w1 ⟨rfl,hb⟩;obtain⟨hk,hz⟩:=bframe (B:=w.heap.size+1) (X:=(w.alloc (.cells #[.int .i64 0,.int .i64 0,.string s] 73))) (by go_grown) (by go_size) hb;clear hb))
 all_goals go_wp2_with fail
 all_goals
  go_ret
  exact⟨rfl,bfin (n:=1) (X:=(w.alloc (.cells #[.int .i64 0,.int .i64 0,.string s] 73))) (by go_grown) (by go_grown)⟩
theorem meaningOf_blank_no (s:ByteArray) (w:World) (hq: ¬s.toList= []):Calls Tryz.prog 77 #[.agg #[.int .i64 0,.int .i64 0,.string s]] w fun e w'=>
  e= .returned (mNo)∧Below w.heap.size w w':=by
 go_enter Tryz.func77,Tryz.ntmps77
 go_wp2_with (first
  | (go_at_call 99;refine(impl_meaningByKind _ _ _ _).mono ?_;rintro e w1 ⟨rfl,hb⟩;have em:mBK 0 0 s= .iface 133 (.agg #[]):=rfl;rw [em];clear em;obtain⟨hk,hz⟩:=bframe (B:=w.heap.size+1) (X:=(w.alloc (.cells #[.int .i64 0,.int .i64 0,.string s] 73))) (by go_grown) (by go_size) hb;obtain⟨hC,hF,hL,hE⟩:=kp hb;clear hb))
 go_region_held3 (fun w'=>(∀bq oq,bq<w.heap.size+1→w'.cell? ⟨bq,oq,none⟩=(w.alloc (.cells #[.int .i64 0,.int .i64 0,.string s] 73)).cell? ⟨bq,oq,none⟩)∧w.heap.size+1≤w'.heap.size∧Below (w.heap.size+1) (w.alloc (.cells #[.int .i64 0,.int .i64 0,.string s] 73)) w')
  (exact sc_of (by go_size) (by go_grown))
  (first
  | (go_at_call 253;refine(right_blank _).mono ?_;rintro e w1 ⟨rfl,hb⟩;obtain⟨hk,hz⟩:=bframe (B:=w.heap.size+1) (X:=(w.alloc (.cells #[.int .i64 0,.int .i64 0,.string s] 73))) (by go_grown) (by go_size) hb;clear hb)
  | (go_at_call 255;refine(value_blank _).mono ?_;rintro e w1 ⟨rfl,hb⟩;obtain⟨hk,hz⟩:=bframe (B:=w.heap.size+1) (X:=(w.alloc (.cells #[.int .i64 0,.int .i64 0,.string s] 73))) (by go_grown) (by go_size) hb;clear hb))
 all_goals go_wp2_with fail
 all_goals
  go_ret
  exact⟨rfl,bfin (n:=1) (X:=(w.alloc (.cells #[.int .i64 0,.int .i64 0,.string s] 73))) (by go_grown) (by go_grown)⟩
theorem meaningOf_blank_nn (n:Int) (s:ByteArray) (w:World) (hq: ¬0=n):Calls Tryz.prog 77 #[.agg #[.int .i64 0,.int .i64 n,.string s]] w fun e w'=>
  e= .returned (mNo)∧Below w.heap.size w w':=by
 go_enter Tryz.func77,Tryz.ntmps77
 go_wp2_with (first
  | (go_at_call 99;refine(impl_meaningByKind _ _ _ _).mono ?_;rintro e w1 ⟨rfl,hb⟩;have em:mBK 0 n s= .iface 133 (.agg #[]):=rfl;rw [em];clear em;obtain⟨hk,hz⟩:=bframe (B:=w.heap.size+1) (X:=(w.alloc (.cells #[.int .i64 0,.int .i64 n,.string s] 73))) (by go_grown) (by go_size) hb;obtain⟨hC,hF,hL,hE⟩:=kp hb;clear hb))
 go_region_held3 (fun w'=>(∀bq oq,bq<w.heap.size+1→w'.cell? ⟨bq,oq,none⟩=(w.alloc (.cells #[.int .i64 0,.int .i64 n,.string s] 73)).cell? ⟨bq,oq,none⟩)∧w.heap.size+1≤w'.heap.size∧Below (w.heap.size+1) (w.alloc (.cells #[.int .i64 0,.int .i64 n,.string s] 73)) w')
  (exact sc_of (by go_size) (by go_grown))
  (first
  | (go_at_call 253;refine(right_blank _).mono ?_;rintro e w1 ⟨rfl,hb⟩;obtain⟨hk,hz⟩:=bframe (B:=w.heap.size+1) (X:=(w.alloc (.cells #[.int .i64 0,.int .i64 n,.string s] 73))) (by go_grown) (by go_size) hb;clear hb)
  | (go_at_call 255;refine(value_blank _).mono ?_;rintro e w1 ⟨rfl,hb⟩;obtain⟨hk,hz⟩:=bframe (B:=w.heap.size+1) (X:=(w.alloc (.cells #[.int .i64 0,.int .i64 n,.string s] 73))) (by go_grown) (by go_size) hb;clear hb))
 all_goals go_wp2_with fail
 all_goals
  go_ret
  exact⟨rfl,bfin (n:=1) (X:=(w.alloc (.cells #[.int .i64 0,.int .i64 n,.string s] 73))) (by go_grown) (by go_grown)⟩
theorem meaningOf_number_ok (n:Int) (s:ByteArray) (w:World) (hR:rNum n=true) (hq:s.toList= []):Calls Tryz.prog 77 #[.agg #[.int .i64 1,.int .i64 n,.string s]] w fun e w'=>
  e= .returned (.iface 109 (.int .i64 n))∧Below w.heap.size w w':=by
 go_enter Tryz.func77,Tryz.ntmps77
 go_wp2_with (first
  | (go_at_call 99;refine(impl_meaningByKind _ _ _ _).mono ?_;rintro e w1 ⟨rfl,hb⟩;have em:mBK 1 n s= .iface 109 (.int .i64 n):=rfl;rw [em];clear em;obtain⟨hk,hz⟩:=bframe (B:=w.heap.size+1) (X:=(w.alloc (.cells #[.int .i64 1,.int .i64 n,.string s] 73))) (by go_grown) (by go_size) hb;obtain⟨hC,hF,hL,hE⟩:=kp hb;clear hb))
 go_region_held3 (fun w'=>(∀bq oq,bq<w.heap.size+1→w'.cell? ⟨bq,oq,none⟩=(w.alloc (.cells #[.int .i64 1,.int .i64 n,.string s] 73)).cell? ⟨bq,oq,none⟩)∧w.heap.size+1≤w'.heap.size∧Below (w.heap.size+1) (w.alloc (.cells #[.int .i64 1,.int .i64 n,.string s] 73)) w')
  (exact sc_of (by go_size) (by go_grown))
  (first
  | (go_at_call 248;refine(right_number _ _).mono ?_;rintro e w1 ⟨rfl,rfl⟩)
  | (go_at_call 75;refine(value_number _ _).mono ?_;rintro e w1 ⟨rfl,hb⟩;obtain⟨hk,hz⟩:=bframe (B:=w.heap.size+1) (X:=(w.alloc (.cells #[.int .i64 1,.int .i64 n,.string s] 73))) (by go_grown) (by go_size) hb;clear hb))
 all_goals go_wp2_with fail
 all_goals
  go_ret
  exact⟨rfl,bfin (n:=1) (X:=(w.alloc (.cells #[.int .i64 1,.int .i64 n,.string s] 73))) (by go_grown) (by go_grown)⟩
theorem meaningOf_number_no (n:Int) (s:ByteArray) (w:World) (hR:rNum n=true) (hq: ¬s.toList= []):Calls Tryz.prog 77 #[.agg #[.int .i64 1,.int .i64 n,.string s]] w fun e w'=>
  e= .returned (mNo)∧Below w.heap.size w w':=by
 go_enter Tryz.func77,Tryz.ntmps77
 go_wp2_with (first
  | (go_at_call 99;refine(impl_meaningByKind _ _ _ _).mono ?_;rintro e w1 ⟨rfl,hb⟩;have em:mBK 1 n s= .iface 109 (.int .i64 n):=rfl;rw [em];clear em;obtain⟨hk,hz⟩:=bframe (B:=w.heap.size+1) (X:=(w.alloc (.cells #[.int .i64 1,.int .i64 n,.string s] 73))) (by go_grown) (by go_size) hb;obtain⟨hC,hF,hL,hE⟩:=kp hb;clear hb))
 go_region_held3 (fun w'=>(∀bq oq,bq<w.heap.size+1→w'.cell? ⟨bq,oq,none⟩=(w.alloc (.cells #[.int .i64 1,.int .i64 n,.string s] 73)).cell? ⟨bq,oq,none⟩)∧w.heap.size+1≤w'.heap.size∧Below (w.heap.size+1) (w.alloc (.cells #[.int .i64 1,.int .i64 n,.string s] 73)) w')
  (exact sc_of (by go_size) (by go_grown))
  (first
  | (go_at_call 248;refine(right_number _ _).mono ?_;rintro e w1 ⟨rfl,rfl⟩)
  | (go_at_call 75;refine(value_number _ _).mono ?_;rintro e w1 ⟨rfl,hb⟩;obtain⟨hk,hz⟩:=bframe (B:=w.heap.size+1) (X:=(w.alloc (.cells #[.int .i64 1,.int .i64 n,.string s] 73))) (by go_grown) (by go_size) hb;clear hb))
 all_goals go_wp2_with fail
 all_goals
  go_ret
  exact⟨rfl,bfin (n:=1) (X:=(w.alloc (.cells #[.int .i64 1,.int .i64 n,.string s] 73))) (by go_grown) (by go_grown)⟩
theorem meaningOf_truth_ok (n:Int) (s:ByteArray) (w:World) (hR:rTruth n=true) (hq:s.toList= []):Calls Tryz.prog 77 #[.agg #[.int .i64 3,.int .i64 n,.string s]] w fun e w'=>
  e= .returned (.iface 134 (.int .i64 n))∧Below w.heap.size w w':=by
 go_enter Tryz.func77,Tryz.ntmps77
 go_wp2_with (first
  | (go_at_call 99;refine(impl_meaningByKind _ _ _ _).mono ?_;rintro e w1 ⟨rfl,hb⟩;have em:mBK 3 n s= .iface 134 (.int .i64 n):=rfl;rw [em];clear em;obtain⟨hk,hz⟩:=bframe (B:=w.heap.size+1) (X:=(w.alloc (.cells #[.int .i64 3,.int .i64 n,.string s] 73))) (by go_grown) (by go_size) hb;obtain⟨hC,hF,hL,hE⟩:=kp hb;clear hb))
 go_region_held3 (fun w'=>(∀bq oq,bq<w.heap.size+1→w'.cell? ⟨bq,oq,none⟩=(w.alloc (.cells #[.int .i64 3,.int .i64 n,.string s] 73)).cell? ⟨bq,oq,none⟩)∧w.heap.size+1≤w'.heap.size∧Below (w.heap.size+1) (w.alloc (.cells #[.int .i64 3,.int .i64 n,.string s] 73)) w')
  (exact sc_of (by go_size) (by go_grown))
  (first
  | (go_at_call 256;refine(right_truth _ _).mono ?_;rintro e w1 ⟨rfl,rfl⟩)
  | (go_at_call 257;refine(value_truth _ _).mono ?_;rintro e w1 ⟨rfl,hb⟩;obtain⟨hk,hz⟩:=bframe (B:=w.heap.size+1) (X:=(w.alloc (.cells #[.int .i64 3,.int .i64 n,.string s] 73))) (by go_grown) (by go_size) hb;clear hb))
 all_goals go_wp2_with fail
 all_goals
  go_ret
  exact⟨rfl,bfin (n:=1) (X:=(w.alloc (.cells #[.int .i64 3,.int .i64 n,.string s] 73))) (by go_grown) (by go_grown)⟩
theorem meaningOf_truth_no (n:Int) (s:ByteArray) (w:World) (hR:rTruth n=true) (hq: ¬s.toList= []):Calls Tryz.prog 77 #[.agg #[.int .i64 3,.int .i64 n,.string s]] w fun e w'=>
  e= .returned (mNo)∧Below w.heap.size w w':=by
 go_enter Tryz.func77,Tryz.ntmps77
 go_wp2_with (first
  | (go_at_call 99;refine(impl_meaningByKind _ _ _ _).mono ?_;rintro e w1 ⟨rfl,hb⟩;have em:mBK 3 n s= .iface 134 (.int .i64 n):=rfl;rw [em];clear em;obtain⟨hk,hz⟩:=bframe (B:=w.heap.size+1) (X:=(w.alloc (.cells #[.int .i64 3,.int .i64 n,.string s] 73))) (by go_grown) (by go_size) hb;obtain⟨hC,hF,hL,hE⟩:=kp hb;clear hb))
 go_region_held3 (fun w'=>(∀bq oq,bq<w.heap.size+1→w'.cell? ⟨bq,oq,none⟩=(w.alloc (.cells #[.int .i64 3,.int .i64 n,.string s] 73)).cell? ⟨bq,oq,none⟩)∧w.heap.size+1≤w'.heap.size∧Below (w.heap.size+1) (w.alloc (.cells #[.int .i64 3,.int .i64 n,.string s] 73)) w')
  (exact sc_of (by go_size) (by go_grown))
  (first
  | (go_at_call 256;refine(right_truth _ _).mono ?_;rintro e w1 ⟨rfl,rfl⟩)
  | (go_at_call 257;refine(value_truth _ _).mono ?_;rintro e w1 ⟨rfl,hb⟩;obtain⟨hk,hz⟩:=bframe (B:=w.heap.size+1) (X:=(w.alloc (.cells #[.int .i64 3,.int .i64 n,.string s] 73))) (by go_grown) (by go_size) hb;clear hb))
 all_goals go_wp2_with fail
 all_goals
  go_ret
  exact⟨rfl,bfin (n:=1) (X:=(w.alloc (.cells #[.int .i64 3,.int .i64 n,.string s] 73))) (by go_grown) (by go_grown)⟩
theorem meaningOf_failure_ok (n:Int) (s:ByteArray) (w:World) (hR:rFail n=true) (hq:s.toList= []):Calls Tryz.prog 77 #[.agg #[.int .i64 4,.int .i64 n,.string s]] w fun e w'=>
  e= .returned (.iface 135 (.int .i64 n))∧Below w.heap.size w w':=by
 go_enter Tryz.func77,Tryz.ntmps77
 go_wp2_with (first
  | (go_at_call 99;refine(impl_meaningByKind _ _ _ _).mono ?_;rintro e w1 ⟨rfl,hb⟩;have em:mBK 4 n s= .iface 135 (.int .i64 n):=rfl;rw [em];clear em;obtain⟨hk,hz⟩:=bframe (B:=w.heap.size+1) (X:=(w.alloc (.cells #[.int .i64 4,.int .i64 n,.string s] 73))) (by go_grown) (by go_size) hb;obtain⟨hC,hF,hL,hE⟩:=kp hb;clear hb))
 go_region_held3 (fun w'=>(∀bq oq,bq<w.heap.size+1→w'.cell? ⟨bq,oq,none⟩=(w.alloc (.cells #[.int .i64 4,.int .i64 n,.string s] 73)).cell? ⟨bq,oq,none⟩)∧w.heap.size+1≤w'.heap.size∧Below (w.heap.size+1) (w.alloc (.cells #[.int .i64 4,.int .i64 n,.string s] 73)) w')
  (exact sc_of (by go_size) (by go_grown))
  (first
  | (go_at_call 258;refine(right_failure _ _).mono ?_;rintro e w1 ⟨rfl,rfl⟩)
  | (go_at_call 259;refine(value_failure _ _).mono ?_;rintro e w1 ⟨rfl,hb⟩;obtain⟨hk,hz⟩:=bframe (B:=w.heap.size+1) (X:=(w.alloc (.cells #[.int .i64 4,.int .i64 n,.string s] 73))) (by go_grown) (by go_size) hb;clear hb))
 all_goals go_wp2_with fail
 all_goals
  go_ret
  exact⟨rfl,bfin (n:=1) (X:=(w.alloc (.cells #[.int .i64 4,.int .i64 n,.string s] 73))) (by go_grown) (by go_grown)⟩
theorem meaningOf_failure_no (n:Int) (s:ByteArray) (w:World) (hR:rFail n=true) (hq: ¬s.toList= []):Calls Tryz.prog 77 #[.agg #[.int .i64 4,.int .i64 n,.string s]] w fun e w'=>
  e= .returned (mNo)∧Below w.heap.size w w':=by
 go_enter Tryz.func77,Tryz.ntmps77
 go_wp2_with (first
  | (go_at_call 99;refine(impl_meaningByKind _ _ _ _).mono ?_;rintro e w1 ⟨rfl,hb⟩;have em:mBK 4 n s= .iface 135 (.int .i64 n):=rfl;rw [em];clear em;obtain⟨hk,hz⟩:=bframe (B:=w.heap.size+1) (X:=(w.alloc (.cells #[.int .i64 4,.int .i64 n,.string s] 73))) (by go_grown) (by go_size) hb;obtain⟨hC,hF,hL,hE⟩:=kp hb;clear hb))
 go_region_held3 (fun w'=>(∀bq oq,bq<w.heap.size+1→w'.cell? ⟨bq,oq,none⟩=(w.alloc (.cells #[.int .i64 4,.int .i64 n,.string s] 73)).cell? ⟨bq,oq,none⟩)∧w.heap.size+1≤w'.heap.size∧Below (w.heap.size+1) (w.alloc (.cells #[.int .i64 4,.int .i64 n,.string s] 73)) w')
  (exact sc_of (by go_size) (by go_grown))
  (first
  | (go_at_call 258;refine(right_failure _ _).mono ?_;rintro e w1 ⟨rfl,rfl⟩)
  | (go_at_call 259;refine(value_failure _ _).mono ?_;rintro e w1 ⟨rfl,hb⟩;obtain⟨hk,hz⟩:=bframe (B:=w.heap.size+1) (X:=(w.alloc (.cells #[.int .i64 4,.int .i64 n,.string s] 73))) (by go_grown) (by go_size) hb;clear hb))
 all_goals go_wp2_with fail
 all_goals
  go_ret
  exact⟨rfl,bfin (n:=1) (X:=(w.alloc (.cells #[.int .i64 4,.int .i64 n,.string s] 73))) (by go_grown) (by go_grown)⟩
theorem meaningOf_wording_ok (s:ByteArray) (w:World) (hs:Hid (s.size≤maxLen)) (hR:rWord s=true):Calls Tryz.prog 77 #[.agg #[.int .i64 2,.int .i64 0,.string s]] w fun e w'=>
  e= .returned (.iface 80 (.string s))∧Below w.heap.size w w':=by
 go_enter Tryz.func77,Tryz.ntmps77
 go_wp2_with (first
  | (go_at_call 99;refine(impl_meaningByKind _ _ _ _).mono ?_;rintro e w1 ⟨rfl,hb⟩;have em:mBK 2 0 s= .iface 80 (.string s):=rfl;rw [em];clear em;obtain⟨hk,hz⟩:=bframe (B:=w.heap.size+1) (X:=(w.alloc (.cells #[.int .i64 2,.int .i64 0,.string s] 73))) (by go_grown) (by go_size) hb;obtain⟨hC,hF,hL,hE⟩:=kp hb;clear hb))
 go_region_held3 (fun w'=>(∀bq oq,bq<w.heap.size+1→w'.cell? ⟨bq,oq,none⟩=(w.alloc (.cells #[.int .i64 2,.int .i64 0,.string s] 73)).cell? ⟨bq,oq,none⟩)∧w.heap.size+1≤w'.heap.size∧Below (w.heap.size+1) (w.alloc (.cells #[.int .i64 2,.int .i64 0,.string s] 73)) w')
  (exact sc_of (by go_size) (by go_grown))
  (first
  | (go_at_call 245;refine(right_wording _ _ hs.out).mono ?_;rintro e w1 ⟨rfl,rfl⟩)
  | (go_at_call 198;refine(value_wording _ _).mono ?_;rintro e w1 ⟨rfl,hb⟩;obtain⟨hk,hz⟩:=bframe (B:=w.heap.size+1) (X:=(w.alloc (.cells #[.int .i64 2,.int .i64 0,.string s] 73))) (by go_grown) (by go_size) hb;clear hb))
 all_goals go_wp2_with fail
 all_goals
  go_ret
  exact⟨rfl,bfin (n:=1) (X:=(w.alloc (.cells #[.int .i64 2,.int .i64 0,.string s] 73))) (by go_grown) (by go_grown)⟩
theorem meaningOf_wording_no (n:Int) (s:ByteArray) (w:World) (hs:Hid (s.size≤maxLen)) (hR:rWord s=true) (hq: ¬0=n):Calls Tryz.prog 77 #[.agg #[.int .i64 2,.int .i64 n,.string s]] w fun e w'=>
  e= .returned (mNo)∧Below w.heap.size w w':=by
 go_enter Tryz.func77,Tryz.ntmps77
 go_wp2_with (first
  | (go_at_call 99;refine(impl_meaningByKind _ _ _ _).mono ?_;rintro e w1 ⟨rfl,hb⟩;have em:mBK 2 n s= .iface 80 (.string s):=rfl;rw [em];clear em;obtain⟨hk,hz⟩:=bframe (B:=w.heap.size+1) (X:=(w.alloc (.cells #[.int .i64 2,.int .i64 n,.string s] 73))) (by go_grown) (by go_size) hb;obtain⟨hC,hF,hL,hE⟩:=kp hb;clear hb))
 go_region_held3 (fun w'=>(∀bq oq,bq<w.heap.size+1→w'.cell? ⟨bq,oq,none⟩=(w.alloc (.cells #[.int .i64 2,.int .i64 n,.string s] 73)).cell? ⟨bq,oq,none⟩)∧w.heap.size+1≤w'.heap.size∧Below (w.heap.size+1) (w.alloc (.cells #[.int .i64 2,.int .i64 n,.string s] 73)) w')
  (exact sc_of (by go_size) (by go_grown))
  (first
  | (go_at_call 245;refine(right_wording _ _ hs.out).mono ?_;rintro e w1 ⟨rfl,rfl⟩)
  | (go_at_call 198;refine(value_wording _ _).mono ?_;rintro e w1 ⟨rfl,hb⟩;obtain⟨hk,hz⟩:=bframe (B:=w.heap.size+1) (X:=(w.alloc (.cells #[.int .i64 2,.int .i64 n,.string s] 73))) (by go_grown) (by go_size) hb;clear hb))
 all_goals go_wp2_with fail
 all_goals
  go_ret
  exact⟨rfl,bfin (n:=1) (X:=(w.alloc (.cells #[.int .i64 2,.int .i64 n,.string s] 73))) (by go_grown) (by go_grown)⟩
end Go.Proofs.YthpmmfmanaefgaaGreatDoor
