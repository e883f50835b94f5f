import Derived.Test.YthjpfkpcemgefaaGreatDoorGaa
import Derived.Deep.RegionHeld3
import Derived.Deep.DeepCutAuto
import Derived.Laws.StructEq
import Derived.Deep.RegionWith
set_option linter.unusedSimpArgs false
set_option linter.unusedVariables false
set_option maxHeartbeats 1000000
namespace Go.Proofs.YthjpfkpcemgefaaGreatDoor
open Go.RowKit
def plainB (l:List UInt8):Bool:=l.all fun b=>decide (32≤b.toNat∧b.toNat≤126)
def mBK (k n:Int) (s:ByteArray):Value:=
 if k=0 then .iface 152 (.agg #[])else if k=1 then .iface 153 (.int .i64 n)else if k=2 then .iface 149 (.string s)
 else if k=3 then .iface 154 (.int .i64 n)else if k=4 then .iface 145 (.int .i64 n)else .iface 133 (.agg #[])
def mNo:Value:= .iface 133 (.agg #[])
theorem ret_val {a b:Value} (h:a=b):Ending.returned a= .returned b:=by rw [h]
theorem impl_meaningByKind (k n:Int) (s:ByteArray) (w:World):Calls Tryz.prog 119 #[.agg #[.int .i64 k,.int .i64 n,.string s]] w fun e w'=>
  e= .returned (mBK k n s)∧Below w.heap.size w w':=by
 by_cases h0:k=0
 ·subst h0
  go_enter Tryz.func119,Tryz.ntmps119
  go_wp2
  go_ret
  exact⟨ret_val (by simp [mBK]),by go_grown⟩
 by_cases h1:k=1
 ·subst h1
  go_enter Tryz.func119,Tryz.ntmps119
  go_wp2
  go_ret
  exact⟨ret_val (by simp [mBK]),by go_grown⟩
 by_cases h2:k=2
 ·subst h2
  go_enter Tryz.func119,Tryz.ntmps119
  go_wp2
  go_ret
  exact⟨ret_val (by simp [mBK]),by go_grown⟩
 by_cases h3:k=3
 ·subst h3
  go_enter Tryz.func119,Tryz.ntmps119
  go_wp2
  go_ret
  exact⟨ret_val (by simp [mBK]),by go_grown⟩
 by_cases h4:k=4
 ·subst h4
  go_enter Tryz.func119,Tryz.ntmps119
  go_wp2
  go_ret
  exact⟨ret_val (by simp [mBK]),by go_grown⟩
 ·have e0:(k==0)=false:=by simpa using h0
  have e1:(k==1)=false:=by simpa using h1
  have e2:(k==2)=false:=by simpa using h2
  have e3:(k==3)=false:=by simpa using h3
  have e4:(k==4)=false:=by simpa using h4
  go_enter Tryz.func119,Tryz.ntmps119
  go_wp2
  go_ret
  exact⟨ret_val (by simp [mBK,h0,h1,h2,h3,h4]),by go_grown⟩
def rNum (n:Int):Bool:=decide (-1000000000000000≤n∧n≤1000000000000000)
def rTruth (n:Int):Bool:=decide (n=0∨n=1)
def rFail (n:Int):Bool:=decide (1≤n∧n≤5)
def rWord (s:ByteArray):Bool:=decide (s.size≤200)&&plainB s.data.toList
theorem right_number (n:Int) (w:World):Calls Tryz.prog 214 #[.int .i64 n] w fun e w'=>
  e= .returned (.bool (rNum n))∧w'=w:=by
 go_enter Tryz.func214,Tryz.ntmps214
 go_wp2
 all_goals
  go_ret
  refine⟨ret_bool ?_,rfl⟩
  rw [Bool.eq_iff_iff]
  unfold rNum
  simp
  try omega
theorem right_truth (n:Int) (w:World):Calls Tryz.prog 217 #[.int .i64 n] w fun e w'=>
  e= .returned (.bool (rTruth n))∧w'=w:=by
 go_enter Tryz.func217,Tryz.ntmps217
 go_wp2
 all_goals
  go_ret
  refine⟨ret_bool ?_,rfl⟩
  rw [Bool.eq_iff_iff]
  unfold rTruth
  simp
  try omega
theorem right_failure (n:Int) (w:World):Calls Tryz.prog 207 #[.int .i64 n] w fun e w'=>
  e= .returned (.bool (rFail n))∧w'=w:=by
 go_enter Tryz.func207,Tryz.ntmps207
 go_wp2
 all_goals
  go_ret
  refine⟨ret_bool ?_,rfl⟩
  rw [Bool.eq_iff_iff]
  unfold rFail
  simp
  try omega
theorem right_misfit (w:World):Calls Tryz.prog 204 #[.agg #[]] w fun e w'=>
  e= .returned (.bool (false))∧Below w.heap.size w w':=by
 go_enter Tryz.func204,Tryz.ntmps204
 go_wp2
 all_goals
  go_ret
  refine⟨ret_bool ?_,by go_grown⟩
  rfl
theorem right_blank (w:World):Calls Tryz.prog 211 #[.agg #[]] w fun e w'=>
  e= .returned (.bool (true))∧Below w.heap.size w w':=by
 go_enter Tryz.func211,Tryz.ntmps211
 go_wp2
 all_goals
  go_ret
  refine⟨ret_bool ?_,by go_grown⟩
  rfl
theorem value_number (n:Int) (w:World):Calls Tryz.prog 216 #[.int .i64 n] w fun e w'=>
  e= .returned (.agg #[.int .i64 1,.int .i64 n,.string ⟨#[]⟩])∧Below w.heap.size w w':=by
 go_enter Tryz.func216,Tryz.ntmps216
 go_wp2
 go_returns
 exact⟨rfl,by go_grown⟩
theorem value_truth (n:Int) (w:World):Calls Tryz.prog 218 #[.int .i64 n] w fun e w'=>
  e= .returned (.agg #[.int .i64 3,.int .i64 n,.string ⟨#[]⟩])∧Below w.heap.size w w':=by
 go_enter Tryz.func218,Tryz.ntmps218
 go_wp2
 go_returns
 exact⟨rfl,by go_grown⟩
theorem value_failure (n:Int) (w:World):Calls Tryz.prog 208 #[.int .i64 n] w fun e w'=>
  e= .returned (.agg #[.int .i64 4,.int .i64 n,.string ⟨#[]⟩])∧Below w.heap.size w w':=by
 go_enter Tryz.func208,Tryz.ntmps208
 go_wp2
 go_returns
 exact⟨rfl,by go_grown⟩
theorem value_wording (s:ByteArray) (w:World):Calls Tryz.prog 135 #[.string s] w fun e w'=>
  e= .returned (.agg #[.int .i64 2,.int .i64 0,.string s])∧Below w.heap.size w w':=by
 go_enter Tryz.func135,Tryz.ntmps135
 go_wp2
 go_returns
 exact⟨rfl,by go_grown⟩
theorem value_blank (w:World):Calls Tryz.prog 213 #[.agg #[]] w fun e w'=>
  e= .returned (.agg #[.int .i64 0,.int .i64 0,.string ⟨#[]⟩])∧Below w.heap.size w w':=by
 go_enter Tryz.func213,Tryz.ntmps213
 go_wp2
 go_returns
 exact⟨rfl,by go_grown⟩
theorem plain_take (s:ByteArray) (k:Nat) (h:k<s.size):plainB (s.data.toList.take (k+1))=(plainB (s.data.toList.take k)&&decide (32≤s[k].toNat∧s[k].toNat≤126)):=by
 have e:s.data.toList.take (k+1)=s.data.toList.take k++ [s[k]]:=by
  rw [List.take_succ_eq_append_getElem (by simpa using h)];rfl
 rw [e];simp [plainB]
theorem plain_no (s:ByteArray) (k:Nat) (h:k<s.size) (hb: ¬(32≤s[k].toNat∧s[k].toNat≤126)):plainB s.data.toList=false:=by
 cases e:plainB s.data.toList
 ·rfl
 ·have:=List.all_eq_true.1 e s[k] (Array.mem_toList_iff.2 (Array.getElem_mem h))
  exact absurd (of_decide_eq_true this) hb
theorem impl_isPlain (s:ByteArray) (w:World) (hs:s.size≤maxLen):Calls Tryz.prog 18 #[.string s] w fun e w'=>
  e= .returned (.bool (plainB s.data.toList))∧w'=w:=by
 unfold maxLen at hs
 go_enter Tryz.func18,Tryz.ntmps18
 go_wp2_with fail
 go_loop [6] (fun v=> ∃k:Nat,k≤s.size∧v= .int .i64 k∧plainB (s.data.toList.take k)=true) (fun v=>s.size-(intOf v).toNat)
 case atStart=>exact⟨0,by omega,rfl,rfl⟩
 case round=>
  obtain⟨k,hk,rfl,hr⟩:=hrel
  have HR:Hid (plainB (s.data.toList.take k)=true):=hr
  clear hr
  by_cases hlt:k<s.size
  ·have HT:Hid (plainB (s.data.toList.take (k+1))=(plainB (s.data.toList.take k)&&decide (32≤s[k].toNat∧s[k].toNat≤126))):=plain_take s k hlt
   by_cases hb:32≤s[k].toNat∧s[k].toNat≤126
   ·have hb1: ¬((s[k].toNat:Int)<32):=by omega
    have hb2: ¬(126<(s[k].toNat:Int)):=by omega
    go_wp2
    all_goals
     go_round
     case rel=>exact⟨k+1,by omega,by go_num,by rw [HT.out,HR.out];simp;omega⟩
     case measure=>simp [intOf];omega
   ·have HF:Hid (plainB s.data.toList=false):=plain_no s k hlt hb
    by_cases hb1:(s[k].toNat:Int)<32
    ·go_wp2
     go_ret
     exact⟨ret_bool HF.out.symm,rfl⟩
    ·have hb2:126<(s[k].toNat:Int):=by omega
     go_wp2
     go_ret
     exact⟨ret_bool HF.out.symm,rfl⟩
  ·go_wp2
   go_ret
   have HA:=HR.out
   rw [List.take_of_length_le (by simp;omega)]at HA
   exact⟨ret_bool HA.symm,rfl⟩
theorem right_wording (s:ByteArray) (w:World) (hs:s.size≤maxLen):Calls Tryz.prog 209 #[.string s] w fun e w'=>
  e= .returned (.bool (rWord s))∧w'=w:=by
 have hs':=hs
 unfold maxLen at hs'
 go_enter Tryz.func209,Tryz.ntmps209
 go_wp2_with (first
  | (go_at_call 18;refine(impl_isPlain _ _ hs).mono ?_;rintro e w1 ⟨rfl,rfl⟩))
 all_goals
  go_ret
  refine⟨ret_bool ?_,rfl⟩
  unfold rWord
  simp_all
  try omega
theorem meaningOf_blank_ok (s:ByteArray) (w:World) (hq:s.toList= []):Calls Tryz.prog 101 #[.agg #[.int .i64 0,.int .i64 0,.string s]] w fun e w'=>
  e= .returned (.iface 152 (.agg #[]))∧Below w.heap.size w w':=by
 go_enter Tryz.func101,Tryz.ntmps101
 go_wp2_with (first
  | (go_at_call 119;refine(impl_meaningByKind _ _ _ _).mono ?_;rintro e w1 ⟨rfl,hb⟩;have em:mBK 0 0 s= .iface 152 (.agg #[]):=rfl;rw [em];clear em;obtain⟨hk,hz⟩:=bframe (B:=w.heap.size+1) (X:=(w.alloc (.cells #[.int .i64 0,.int .i64 0,.string s] 37))) (by go_grown) (by go_size) hb;obtain⟨hC,hF,hL,hE⟩:=kp hb;clear hb))
 go_region_held3 (fun w'=>(∀bq oq,bq<w.heap.size+1→w'.cell? ⟨bq,oq,none⟩=(w.alloc (.cells #[.int .i64 0,.int .i64 0,.string s] 37)).cell? ⟨bq,oq,none⟩)∧w.heap.size+1≤w'.heap.size∧Below (w.heap.size+1) (w.alloc (.cells #[.int .i64 0,.int .i64 0,.string s] 37)) w')
  (exact sc_of (by go_size) (by go_grown))
  (first
  | (go_at_call 211;refine(right_blank _).mono ?_;rintro e w1 ⟨rfl,hb⟩;obtain⟨hk,hz⟩:=bframe (B:=w.heap.size+1) (X:=(w.alloc (.cells #[.int .i64 0,.int .i64 0,.string s] 37))) (by go_grown) (by go_size) hb;clear hb)
  | (go_at_call 213;refine(value_blank _).mono ?_;rintro e w1 ⟨rfl,hb⟩;obtain⟨hk,hz⟩:=bframe (B:=w.heap.size+1) (X:=(w.alloc (.cells #[.int .i64 0,.int .i64 0,.string s] 37))) (by go_grown) (by go_size) hb;clear hb))
 all_goals go_wp2_with fail
 all_goals
  go_ret
  exact⟨rfl,bfin (n:=1) (X:=(w.alloc (.cells #[.int .i64 0,.int .i64 0,.string s] 37))) (by go_grown) (by go_grown)⟩
theorem meaningOf_blank_no (s:ByteArray) (w:World) (hq: ¬s.toList= []):Calls Tryz.prog 101 #[.agg #[.int .i64 0,.int .i64 0,.string s]] w fun e w'=>
  e= .returned (mNo)∧Below w.heap.size w w':=by
 go_enter Tryz.func101,Tryz.ntmps101
 go_wp2_with (first
  | (go_at_call 119;refine(impl_meaningByKind _ _ _ _).mono ?_;rintro e w1 ⟨rfl,hb⟩;have em:mBK 0 0 s= .iface 152 (.agg #[]):=rfl;rw [em];clear em;obtain⟨hk,hz⟩:=bframe (B:=w.heap.size+1) (X:=(w.alloc (.cells #[.int .i64 0,.int .i64 0,.string s] 37))) (by go_grown) (by go_size) hb;obtain⟨hC,hF,hL,hE⟩:=kp hb;clear hb))
 go_region_held3 (fun w'=>(∀bq oq,bq<w.heap.size+1→w'.cell? ⟨bq,oq,none⟩=(w.alloc (.cells #[.int .i64 0,.int .i64 0,.string s] 37)).cell? ⟨bq,oq,none⟩)∧w.heap.size+1≤w'.heap.size∧Below (w.heap.size+1) (w.alloc (.cells #[.int .i64 0,.int .i64 0,.string s] 37)) w')
  (exact sc_of (by go_size) (by go_grown))
  (first
  | (go_at_call 211;refine(right_blank _).mono ?_;rintro e w1 ⟨rfl,hb⟩;obtain⟨hk,hz⟩:=bframe (B:=w.heap.size+1) (X:=(w.alloc (.cells #[.int .i64 0,.int .i64 0,.string s] 37))) (by go_grown) (by go_size) hb;clear hb)
  | (go_at_call 213;refine(value_blank _).mono ?_;rintro e w1 ⟨rfl,hb⟩;obtain⟨hk,hz⟩:=bframe (B:=w.heap.size+1) (X:=(w.alloc (.cells #[.int .i64 0,.int .i64 0,.string s] 37))) (by go_grown) (by go_size) hb;clear hb))
 all_goals go_wp2_with fail
 all_goals
  go_ret
  exact⟨rfl,bfin (n:=1) (X:=(w.alloc (.cells #[.int .i64 0,.int .i64 0,.string s] 37))) (by go_grown) (by go_grown)⟩
theorem meaningOf_blank_nn (n:Int) (s:ByteArray) (w:World) (hq: ¬0=n):Calls Tryz.prog 101 #[.agg #[.int .i64 0,.int .i64 n,.string s]] w fun e w'=>
  e= .returned (mNo)∧Below w.heap.size w w':=by
 go_enter Tryz.func101,Tryz.ntmps101
 go_wp2_with (first
  | (go_at_call 119;refine(impl_meaningByKind _ _ _ _).mono ?_;rintro e w1 ⟨rfl,hb⟩;have em:mBK 0 n s= .iface 152 (.agg #[]):=rfl;rw [em];clear em;obtain⟨hk,hz⟩:=bframe (B:=w.heap.size+1) (X:=(w.alloc (.cells #[.int .i64 0,.int .i64 n,.string s] 37))) (by go_grown) (by go_size) hb;obtain⟨hC,hF,hL,hE⟩:=kp hb;clear hb))
 go_region_held3 (fun w'=>(∀bq oq,bq<w.heap.size+1→w'.cell? ⟨bq,oq,none⟩=(w.alloc (.cells #[.int .i64 0,.int .i64 n,.string s] 37)).cell? ⟨bq,oq,none⟩)∧w.heap.size+1≤w'.heap.size∧Below (w.heap.size+1) (w.alloc (.cells #[.int .i64 0,.int .i64 n,.string s] 37)) w')
  (exact sc_of (by go_size) (by go_grown))
  (first
  | (go_at_call 211;refine(right_blank _).mono ?_;rintro e w1 ⟨rfl,hb⟩;obtain⟨hk,hz⟩:=bframe (B:=w.heap.size+1) (X:=(w.alloc (.cells #[.int .i64 0,.int .i64 n,.string s] 37))) (by go_grown) (by go_size) hb;clear hb)
  | (go_at_call 213;refine(value_blank _).mono ?_;rintro e w1 ⟨rfl,hb⟩;obtain⟨hk,hz⟩:=bframe (B:=w.heap.size+1) (X:=(w.alloc (.cells #[.int .i64 0,.int .i64 n,.string s] 37))) (by go_grown) (by go_size) hb;clear hb))
 all_goals go_wp2_with fail
 all_goals
  go_ret
  exact⟨rfl,bfin (n:=1) (X:=(w.alloc (.cells #[.int .i64 0,.int .i64 n,.string s] 37))) (by go_grown) (by go_grown)⟩
theorem meaningOf_number_ok (n:Int) (s:ByteArray) (w:World) (hR:rNum n=true) (hq:s.toList= []):Calls Tryz.prog 101 #[.agg #[.int .i64 1,.int .i64 n,.string s]] w fun e w'=>
  e= .returned (.iface 153 (.int .i64 n))∧Below w.heap.size w w':=by
 go_enter Tryz.func101,Tryz.ntmps101
 go_wp2_with (first
  | (go_at_call 119;refine(impl_meaningByKind _ _ _ _).mono ?_;rintro e w1 ⟨rfl,hb⟩;have em:mBK 1 n s= .iface 153 (.int .i64 n):=rfl;rw [em];clear em;obtain⟨hk,hz⟩:=bframe (B:=w.heap.size+1) (X:=(w.alloc (.cells #[.int .i64 1,.int .i64 n,.string s] 37))) (by go_grown) (by go_size) hb;obtain⟨hC,hF,hL,hE⟩:=kp hb;clear hb))
 go_region_held3 (fun w'=>(∀bq oq,bq<w.heap.size+1→w'.cell? ⟨bq,oq,none⟩=(w.alloc (.cells #[.int .i64 1,.int .i64 n,.string s] 37)).cell? ⟨bq,oq,none⟩)∧w.heap.size+1≤w'.heap.size∧Below (w.heap.size+1) (w.alloc (.cells #[.int .i64 1,.int .i64 n,.string s] 37)) w')
  (exact sc_of (by go_size) (by go_grown))
  (first
  | (go_at_call 214;refine(right_number _ _).mono ?_;rintro e w1 ⟨rfl,rfl⟩)
  | (go_at_call 216;refine(value_number _ _).mono ?_;rintro e w1 ⟨rfl,hb⟩;obtain⟨hk,hz⟩:=bframe (B:=w.heap.size+1) (X:=(w.alloc (.cells #[.int .i64 1,.int .i64 n,.string s] 37))) (by go_grown) (by go_size) hb;clear hb))
 all_goals go_wp2_with fail
 all_goals
  go_ret
  exact⟨rfl,bfin (n:=1) (X:=(w.alloc (.cells #[.int .i64 1,.int .i64 n,.string s] 37))) (by go_grown) (by go_grown)⟩
theorem meaningOf_number_no (n:Int) (s:ByteArray) (w:World) (hR:rNum n=true) (hq: ¬s.toList= []):Calls Tryz.prog 101 #[.agg #[.int .i64 1,.int .i64 n,.string s]] w fun e w'=>
  e= .returned (mNo)∧Below w.heap.size w w':=by
 go_enter Tryz.func101,Tryz.ntmps101
 go_wp2_with (first
  | (go_at_call 119;refine(impl_meaningByKind _ _ _ _).mono ?_;rintro e w1 ⟨rfl,hb⟩;have em:mBK 1 n s= .iface 153 (.int .i64 n):=rfl;rw [em];clear em;obtain⟨hk,hz⟩:=bframe (B:=w.heap.size+1) (X:=(w.alloc (.cells #[.int .i64 1,.int .i64 n,.string s] 37))) (by go_grown) (by go_size) hb;obtain⟨hC,hF,hL,hE⟩:=kp hb;clear hb))
 go_region_held3 (fun w'=>(∀bq oq,bq<w.heap.size+1→w'.cell? ⟨bq,oq,none⟩=(w.alloc (.cells #[.int .i64 1,.int .i64 n,.string s] 37)).cell? ⟨bq,oq,none⟩)∧w.heap.size+1≤w'.heap.size∧Below (w.heap.size+1) (w.alloc (.cells #[.int .i64 1,.int .i64 n,.string s] 37)) w')
  (exact sc_of (by go_size) (by go_grown))
  (first
  | (go_at_call 214;refine(right_number _ _).mono ?_;rintro e w1 ⟨rfl,rfl⟩)
  | (go_at_call 216;refine(value_number _ _).mono ?_;rintro e w1 ⟨rfl,hb⟩;obtain⟨hk,hz⟩:=bframe (B:=w.heap.size+1) (X:=(w.alloc (.cells #[.int .i64 1,.int .i64 n,.string s] 37))) (by go_grown) (by go_size) hb;clear hb))
 all_goals go_wp2_with fail
 all_goals
  go_ret
  exact⟨rfl,bfin (n:=1) (X:=(w.alloc (.cells #[.int .i64 1,.int .i64 n,.string s] 37))) (by go_grown) (by go_grown)⟩
theorem meaningOf_truth_ok (n:Int) (s:ByteArray) (w:World) (hR:rTruth n=true) (hq:s.toList= []):Calls Tryz.prog 101 #[.agg #[.int .i64 3,.int .i64 n,.string s]] w fun e w'=>
  e= .returned (.iface 154 (.int .i64 n))∧Below w.heap.size w w':=by
 go_enter Tryz.func101,Tryz.ntmps101
 go_wp2_with (first
  | (go_at_call 119;refine(impl_meaningByKind _ _ _ _).mono ?_;rintro e w1 ⟨rfl,hb⟩;have em:mBK 3 n s= .iface 154 (.int .i64 n):=rfl;rw [em];clear em;obtain⟨hk,hz⟩:=bframe (B:=w.heap.size+1) (X:=(w.alloc (.cells #[.int .i64 3,.int .i64 n,.string s] 37))) (by go_grown) (by go_size) hb;obtain⟨hC,hF,hL,hE⟩:=kp hb;clear hb))
 go_region_held3 (fun w'=>(∀bq oq,bq<w.heap.size+1→w'.cell? ⟨bq,oq,none⟩=(w.alloc (.cells #[.int .i64 3,.int .i64 n,.string s] 37)).cell? ⟨bq,oq,none⟩)∧w.heap.size+1≤w'.heap.size∧Below (w.heap.size+1) (w.alloc (.cells #[.int .i64 3,.int .i64 n,.string s] 37)) w')
  (exact sc_of (by go_size) (by go_grown))
  (first
  | (go_at_call 217;refine(right_truth _ _).mono ?_;rintro e w1 ⟨rfl,rfl⟩)
  | (go_at_call 218;refine(value_truth _ _).mono ?_;rintro e w1 ⟨rfl,hb⟩;obtain⟨hk,hz⟩:=bframe (B:=w.heap.size+1) (X:=(w.alloc (.cells #[.int .i64 3,.int .i64 n,.string s] 37))) (by go_grown) (by go_size) hb;clear hb))
 all_goals go_wp2_with fail
 all_goals
  go_ret
  exact⟨rfl,bfin (n:=1) (X:=(w.alloc (.cells #[.int .i64 3,.int .i64 n,.string s] 37))) (by go_grown) (by go_grown)⟩
theorem meaningOf_truth_no (n:Int) (s:ByteArray) (w:World) (hR:rTruth n=true) (hq: ¬s.toList= []):Calls Tryz.prog 101 #[.agg #[.int .i64 3,.int .i64 n,.string s]] w fun e w'=>
  e= .returned (mNo)∧Below w.heap.size w w':=by
 go_enter Tryz.func101,Tryz.ntmps101
 go_wp2_with (first
  | (go_at_call 119;refine(impl_meaningByKind _ _ _ _).mono ?_;rintro e w1 ⟨rfl,hb⟩;have em:mBK 3 n s= .iface 154 (.int .i64 n):=rfl;rw [em];clear em;obtain⟨hk,hz⟩:=bframe (B:=w.heap.size+1) (X:=(w.alloc (.cells #[.int .i64 3,.int .i64 n,.string s] 37))) (by go_grown) (by go_size) hb;obtain⟨hC,hF,hL,hE⟩:=kp hb;clear hb))
 go_region_held3 (fun w'=>(∀bq oq,bq<w.heap.size+1→w'.cell? ⟨bq,oq,none⟩=(w.alloc (.cells #[.int .i64 3,.int .i64 n,.string s] 37)).cell? ⟨bq,oq,none⟩)∧w.heap.size+1≤w'.heap.size∧Below (w.heap.size+1) (w.alloc (.cells #[.int .i64 3,.int .i64 n,.string s] 37)) w')
  (exact sc_of (by go_size) (by go_grown))
  (first
  | (go_at_call 217;refine(right_truth _ _).mono ?_;rintro e w1 ⟨rfl,rfl⟩)
  | (go_at_call 218;refine(value_truth _ _).mono ?_;rintro e w1 ⟨rfl,hb⟩;obtain⟨hk,hz⟩:=bframe (B:=w.heap.size+1) (X:=(w.alloc (.cells #[.int .i64 3,.int .i64 n,.string s] 37))) (by go_grown) (by go_size) hb;clear hb))
 all_goals go_wp2_with fail
 all_goals
  go_ret
  exact⟨rfl,bfin (n:=1) (X:=(w.alloc (.cells #[.int .i64 3,.int .i64 n,.string s] 37))) (by go_grown) (by go_grown)⟩
theorem meaningOf_failure_ok (n:Int) (s:ByteArray) (w:World) (hR:rFail n=true) (hq:s.toList= []):Calls Tryz.prog 101 #[.agg #[.int .i64 4,.int .i64 n,.string s]] w fun e w'=>
  e= .returned (.iface 145 (.int .i64 n))∧Below w.heap.size w w':=by
 go_enter Tryz.func101,Tryz.ntmps101
 go_wp2_with (first
  | (go_at_call 119;refine(impl_meaningByKind _ _ _ _).mono ?_;rintro e w1 ⟨rfl,hb⟩;have em:mBK 4 n s= .iface 145 (.int .i64 n):=rfl;rw [em];clear em;obtain⟨hk,hz⟩:=bframe (B:=w.heap.size+1) (X:=(w.alloc (.cells #[.int .i64 4,.int .i64 n,.string s] 37))) (by go_grown) (by go_size) hb;obtain⟨hC,hF,hL,hE⟩:=kp hb;clear hb))
 go_region_held3 (fun w'=>(∀bq oq,bq<w.heap.size+1→w'.cell? ⟨bq,oq,none⟩=(w.alloc (.cells #[.int .i64 4,.int .i64 n,.string s] 37)).cell? ⟨bq,oq,none⟩)∧w.heap.size+1≤w'.heap.size∧Below (w.heap.size+1) (w.alloc (.cells #[.int .i64 4,.int .i64 n,.string s] 37)) w')
  (exact sc_of (by go_size) (by go_grown))
  (first
  | (go_at_call 207;refine(right_failure _ _).mono ?_;rintro e w1 ⟨rfl,rfl⟩)
  | (go_at_call 208;refine(value_failure _ _).mono ?_;rintro e w1 ⟨rfl,hb⟩;obtain⟨hk,hz⟩:=bframe (B:=w.heap.size+1) (X:=(w.alloc (.cells #[.int .i64 4,.int .i64 n,.string s] 37))) (by go_grown) (by go_size) hb;clear hb))
 all_goals go_wp2_with fail
 all_goals
  go_ret
  exact⟨rfl,bfin (n:=1) (X:=(w.alloc (.cells #[.int .i64 4,.int .i64 n,.string s] 37))) (by go_grown) (by go_grown)⟩
theorem meaningOf_failure_no (n:Int) (s:ByteArray) (w:World) (hR:rFail n=true) (hq: ¬s.toList= []):Calls Tryz.prog 101 #[.agg #[.int .i64 4,.int .i64 n,.string s]] w fun e w'=>
  e= .returned (mNo)∧Below w.heap.size w w':=by
 go_enter Tryz.func101,Tryz.ntmps101
 go_wp2_with (first
  | (go_at_call 119;refine(impl_meaningByKind _ _ _ _).mono ?_;rintro e w1 ⟨rfl,hb⟩;have em:mBK 4 n s= .iface 145 (.int .i64 n):=rfl;rw [em];clear em;obtain⟨hk,hz⟩:=bframe (B:=w.heap.size+1) (X:=(w.alloc (.cells #[.int .i64 4,.int .i64 n,.string s] 37))) (by go_grown) (by go_size) hb;obtain⟨hC,hF,hL,hE⟩:=kp hb;clear hb))
 go_region_held3 (fun w'=>(∀bq oq,bq<w.heap.size+1→w'.cell? ⟨bq,oq,none⟩=(w.alloc (.cells #[.int .i64 4,.int .i64 n,.string s] 37)).cell? ⟨bq,oq,none⟩)∧w.heap.size+1≤w'.heap.size∧Below (w.heap.size+1) (w.alloc (.cells #[.int .i64 4,.int .i64 n,.string s] 37)) w')
  (exact sc_of (by go_size) (by go_grown))
  (first
  | (go_at_call 207;refine(right_failure _ _).mono ?_;rintro e w1 ⟨rfl,rfl⟩)
  | (go_at_call 208;refine(value_failure _ _).mono ?_;rintro e w1 ⟨rfl,hb⟩;obtain⟨hk,hz⟩:=bframe (B:=w.heap.size+1) (X:=(w.alloc (.cells #[.int .i64 4,.int .i64 n,.string s] 37))) (by go_grown) (by go_size) hb;clear hb))
 all_goals go_wp2_with fail
 all_goals
  go_ret
  exact⟨rfl,bfin (n:=1) (X:=(w.alloc (.cells #[.int .i64 4,.int .i64 n,.string s] 37))) (by go_grown) (by go_grown)⟩
theorem meaningOf_wording_ok (s:ByteArray) (w:World) (hs:Hid (s.size≤maxLen)) (hR:rWord s=true):Calls Tryz.prog 101 #[.agg #[.int .i64 2,.int .i64 0,.string s]] w fun e w'=>
  e= .returned (.iface 149 (.string s))∧Below w.heap.size w w':=by
 go_enter Tryz.func101,Tryz.ntmps101
 go_wp2_with (first
  | (go_at_call 119;refine(impl_meaningByKind _ _ _ _).mono ?_;rintro e w1 ⟨rfl,hb⟩;have em:mBK 2 0 s= .iface 149 (.string s):=rfl;rw [em];clear em;obtain⟨hk,hz⟩:=bframe (B:=w.heap.size+1) (X:=(w.alloc (.cells #[.int .i64 2,.int .i64 0,.string s] 37))) (by go_grown) (by go_size) hb;obtain⟨hC,hF,hL,hE⟩:=kp hb;clear hb))
 go_region_held3 (fun w'=>(∀bq oq,bq<w.heap.size+1→w'.cell? ⟨bq,oq,none⟩=(w.alloc (.cells #[.int .i64 2,.int .i64 0,.string s] 37)).cell? ⟨bq,oq,none⟩)∧w.heap.size+1≤w'.heap.size∧Below (w.heap.size+1) (w.alloc (.cells #[.int .i64 2,.int .i64 0,.string s] 37)) w')
  (exact sc_of (by go_size) (by go_grown))
  (first
  | (go_at_call 209;refine(right_wording _ _ hs.out).mono ?_;rintro e w1 ⟨rfl,rfl⟩)
  | (go_at_call 135;refine(value_wording _ _).mono ?_;rintro e w1 ⟨rfl,hb⟩;obtain⟨hk,hz⟩:=bframe (B:=w.heap.size+1) (X:=(w.alloc (.cells #[.int .i64 2,.int .i64 0,.string s] 37))) (by go_grown) (by go_size) hb;clear hb))
 all_goals go_wp2_with fail
 all_goals
  go_ret
  exact⟨rfl,bfin (n:=1) (X:=(w.alloc (.cells #[.int .i64 2,.int .i64 0,.string s] 37))) (by go_grown) (by go_grown)⟩
theorem meaningOf_wording_no (n:Int) (s:ByteArray) (w:World) (hs:Hid (s.size≤maxLen)) (hR:rWord s=true) (hq: ¬0=n):Calls Tryz.prog 101 #[.agg #[.int .i64 2,.int .i64 n,.string s]] w fun e w'=>
  e= .returned (mNo)∧Below w.heap.size w w':=by
 go_enter Tryz.func101,Tryz.ntmps101
 go_wp2_with (first
  | (go_at_call 119;refine(impl_meaningByKind _ _ _ _).mono ?_;rintro e w1 ⟨rfl,hb⟩;have em:mBK 2 n s= .iface 149 (.string s):=rfl;rw [em];clear em;obtain⟨hk,hz⟩:=bframe (B:=w.heap.size+1) (X:=(w.alloc (.cells #[.int .i64 2,.int .i64 n,.string s] 37))) (by go_grown) (by go_size) hb;obtain⟨hC,hF,hL,hE⟩:=kp hb;clear hb))
 go_region_held3 (fun w'=>(∀bq oq,bq<w.heap.size+1→w'.cell? ⟨bq,oq,none⟩=(w.alloc (.cells #[.int .i64 2,.int .i64 n,.string s] 37)).cell? ⟨bq,oq,none⟩)∧w.heap.size+1≤w'.heap.size∧Below (w.heap.size+1) (w.alloc (.cells #[.int .i64 2,.int .i64 n,.string s] 37)) w')
  (exact sc_of (by go_size) (by go_grown))
  (first
  | (go_at_call 209;refine(right_wording _ _ hs.out).mono ?_;rintro e w1 ⟨rfl,rfl⟩)
  | (go_at_call 135;refine(value_wording _ _).mono ?_;rintro e w1 ⟨rfl,hb⟩;obtain⟨hk,hz⟩:=bframe (B:=w.heap.size+1) (X:=(w.alloc (.cells #[.int .i64 2,.int .i64 n,.string s] 37))) (by go_grown) (by go_size) hb;clear hb))
 all_goals go_wp2_with fail
 all_goals
  go_ret
  exact⟨rfl,bfin (n:=1) (X:=(w.alloc (.cells #[.int .i64 2,.int .i64 n,.string s] 37))) (by go_grown) (by go_grown)⟩
theorem right_number_no (n:Int) (w:World) (hR:rNum n=false):Calls Tryz.prog 214 #[.int .i64 n] w fun e w'=>e= .returned (.bool false)∧w'=w:=
 (right_number n w).mono fun _ _ h=>⟨by rw [h.1,hR],h.2⟩
theorem right_truth_no (n:Int) (w:World) (hR:rTruth n=false):Calls Tryz.prog 217 #[.int .i64 n] w fun e w'=>e= .returned (.bool false)∧w'=w:=
 (right_truth n w).mono fun _ _ h=>⟨by rw [h.1,hR],h.2⟩
theorem right_failure_no (n:Int) (w:World) (hR:rFail n=false):Calls Tryz.prog 207 #[.int .i64 n] w fun e w'=>e= .returned (.bool false)∧w'=w:=
 (right_failure n w).mono fun _ _ h=>⟨by rw [h.1,hR],h.2⟩
theorem right_wording_no (s:ByteArray) (w:World) (hs:s.size≤maxLen) (hR:rWord s=false):Calls Tryz.prog 209 #[.string s] w fun e w'=>e= .returned (.bool false)∧w'=w:=
 (right_wording s w hs).mono fun _ _ h=>⟨by rw [h.1,hR],h.2⟩
theorem meaningOf_number_nr (n:Int) (s:ByteArray) (w:World) (hR:rNum n=false):Calls Tryz.prog 101 #[.agg #[.int .i64 1,.int .i64 n,.string s]] w fun e w'=>
  e= .returned (mNo)∧Below w.heap.size w w':=by
 go_enter Tryz.func101,Tryz.ntmps101
 go_wp2_with (first
  | (go_at_call 119;refine(impl_meaningByKind _ _ _ _).mono ?_;rintro e w1 ⟨rfl,hb⟩;have em:mBK 1 n s= .iface 153 (.int .i64 n):=rfl;rw [em];clear em;obtain⟨hk,hz⟩:=bframe (B:=w.heap.size+1) (X:=(w.alloc (.cells #[.int .i64 1,.int .i64 n,.string s] 37))) (by go_grown) (by go_size) hb;obtain⟨hC,hF,hL,hE⟩:=kp hb;clear hb))
 first
  | (go_region_with (first
   | (go_at_call 214;refine(right_number_no _ _ hR).mono ?_;rintro e w1 ⟨rfl,rfl⟩)))
  | fail
 all_goals go_wp2_with fail
 all_goals
  go_ret
  exact⟨rfl,bfin (n:=1) (X:=(w.alloc (.cells #[.int .i64 1,.int .i64 n,.string s] 37))) (by go_grown) (by go_grown)⟩
theorem meaningOf_truth_nr (n:Int) (s:ByteArray) (w:World) (hR:rTruth n=false):Calls Tryz.prog 101 #[.agg #[.int .i64 3,.int .i64 n,.string s]] w fun e w'=>
  e= .returned (mNo)∧Below w.heap.size w w':=by
 go_enter Tryz.func101,Tryz.ntmps101
 go_wp2_with (first
  | (go_at_call 119;refine(impl_meaningByKind _ _ _ _).mono ?_;rintro e w1 ⟨rfl,hb⟩;have em:mBK 3 n s= .iface 154 (.int .i64 n):=rfl;rw [em];clear em;obtain⟨hk,hz⟩:=bframe (B:=w.heap.size+1) (X:=(w.alloc (.cells #[.int .i64 3,.int .i64 n,.string s] 37))) (by go_grown) (by go_size) hb;obtain⟨hC,hF,hL,hE⟩:=kp hb;clear hb))
 first
  | (go_region_with (first
   | (go_at_call 217;refine(right_truth_no _ _ hR).mono ?_;rintro e w1 ⟨rfl,rfl⟩)))
  | fail
 all_goals go_wp2_with fail
 all_goals
  go_ret
  exact⟨rfl,bfin (n:=1) (X:=(w.alloc (.cells #[.int .i64 3,.int .i64 n,.string s] 37))) (by go_grown) (by go_grown)⟩
theorem meaningOf_failure_nr (n:Int) (s:ByteArray) (w:World) (hR:rFail n=false):Calls Tryz.prog 101 #[.agg #[.int .i64 4,.int .i64 n,.string s]] w fun e w'=>
  e= .returned (mNo)∧Below w.heap.size w w':=by
 go_enter Tryz.func101,Tryz.ntmps101
 go_wp2_with (first
  | (go_at_call 119;refine(impl_meaningByKind _ _ _ _).mono ?_;rintro e w1 ⟨rfl,hb⟩;have em:mBK 4 n s= .iface 145 (.int .i64 n):=rfl;rw [em];clear em;obtain⟨hk,hz⟩:=bframe (B:=w.heap.size+1) (X:=(w.alloc (.cells #[.int .i64 4,.int .i64 n,.string s] 37))) (by go_grown) (by go_size) hb;obtain⟨hC,hF,hL,hE⟩:=kp hb;clear hb))
 first
  | (go_region_with (first
   | (go_at_call 207;refine(right_failure_no _ _ hR).mono ?_;rintro e w1 ⟨rfl,rfl⟩)))
  | fail
 all_goals go_wp2_with fail
 all_goals
  go_ret
  exact⟨rfl,bfin (n:=1) (X:=(w.alloc (.cells #[.int .i64 4,.int .i64 n,.string s] 37))) (by go_grown) (by go_grown)⟩
theorem meaningOf_wording_nr (n:Int) (s:ByteArray) (w:World) (hs:Hid (s.size≤maxLen)) (hR:rWord s=false):Calls Tryz.prog 101 #[.agg #[.int .i64 2,.int .i64 n,.string s]] w fun e w'=>
  e= .returned (mNo)∧Below w.heap.size w w':=by
 go_enter Tryz.func101,Tryz.ntmps101
 go_wp2_with (first
  | (go_at_call 119;refine(impl_meaningByKind _ _ _ _).mono ?_;rintro e w1 ⟨rfl,hb⟩;have em:mBK 2 n s= .iface 149 (.string s):=rfl;rw [em];clear em;obtain⟨hk,hz⟩:=bframe (B:=w.heap.size+1) (X:=(w.alloc (.cells #[.int .i64 2,.int .i64 n,.string s] 37))) (by go_grown) (by go_size) hb;obtain⟨hC,hF,hL,hE⟩:=kp hb;clear hb))
 first
  | (go_region_with (first
   | (go_at_call 209;refine(right_wording_no _ _ hs.out hR).mono ?_;rintro e w1 ⟨rfl,rfl⟩)))
  | fail
 all_goals go_wp2_with fail
 all_goals
  go_ret
  exact⟨rfl,bfin (n:=1) (X:=(w.alloc (.cells #[.int .i64 2,.int .i64 n,.string s] 37))) (by go_grown) (by go_grown)⟩
theorem meaningOf_misfit_nr (k:Int) (n:Int) (s:ByteArray) (w:World) (HM:Hid (mBK k n s= .iface 133 (.agg #[]))):Calls Tryz.prog 101 #[.agg #[.int .i64 k,.int .i64 n,.string s]] w fun e w'=>
  e= .returned (mNo)∧Below w.heap.size w w':=by
 go_enter Tryz.func101,Tryz.ntmps101
 go_wp2_with (first
  | (go_at_call 119;refine(impl_meaningByKind _ _ _ _).mono ?_;rintro e w1 ⟨rfl,hb⟩;rw [HM.out];obtain⟨hk,hz⟩:=bframe (B:=w.heap.size+1) (X:=(w.alloc (.cells #[.int .i64 k,.int .i64 n,.string s] 37))) (by go_grown) (by go_size) hb;obtain⟨hC,hF,hL,hE⟩:=kp hb;clear hb))
 first
  | (go_region_with (first
   | (go_at_call 204;refine(right_misfit _).mono ?_;rintro e w1 ⟨rfl,hb⟩;obtain⟨hk,hz⟩:=bframe (B:=w.heap.size+1) (X:=(w.alloc (.cells #[.int .i64 k,.int .i64 n,.string s] 37))) (by go_grown) (by go_size) hb;clear hb)))
  | fail
 all_goals go_wp2_with fail
 all_goals
  go_ret
  exact⟨rfl,bfin (n:=1) (X:=(w.alloc (.cells #[.int .i64 k,.int .i64 n,.string s] 37))) (by go_grown) (by go_grown)⟩
end Go.Proofs.YthjpfkpcemgefaaGreatDoor
