import Derived.Test.YthpmmfmanaefgaaGreatDoorGac
import Derived.Laws.StructEq
import Derived.Deep.RegionWith
import Derived.RegionTactic
import Derived.Deep.RegionHeld3
set_option linter.unusedSimpArgs false
set_option linter.unusedVariables false
set_option maxHeartbeats 1000000
namespace Go.Proofs.YthpmmfmanaefgaaGreatDoor
open Go.RowKit
theorem right_number_no (n:Int) (w:World) (hR:rNum n=false):Calls Tryz.prog 248 #[.int .i64 n] w fun e w'=>e= .returned (.bool false)∧w'=w:=
 (right_number n w).mono fun _ _ h=>⟨by rw [h.1,hR],h.2⟩
theorem right_truth_no (n:Int) (w:World) (hR:rTruth n=false):Calls Tryz.prog 256 #[.int .i64 n] w fun e w'=>e= .returned (.bool false)∧w'=w:=
 (right_truth n w).mono fun _ _ h=>⟨by rw [h.1,hR],h.2⟩
theorem right_failure_no (n:Int) (w:World) (hR:rFail n=false):Calls Tryz.prog 258 #[.int .i64 n] w fun e w'=>e= .returned (.bool false)∧w'=w:=
 (right_failure n w).mono fun _ _ h=>⟨by rw [h.1,hR],h.2⟩
theorem right_wording_no (s:ByteArray) (w:World) (hs:s.size≤maxLen) (hR:rWord s=false):Calls Tryz.prog 245 #[.string s] w fun e w'=>e= .returned (.bool false)∧w'=w:=
 (right_wording s w hs).mono fun _ _ h=>⟨by rw [h.1,hR],h.2⟩
theorem meaningOf_number_nr (n:Int) (s:ByteArray) (w:World) (hR:rNum n=false):Calls Tryz.prog 77 #[.agg #[.int .i64 1,.int .i64 n,.string s]] w fun e w'=>
  e= .returned (mNo)∧Below w.heap.size w w':=by
 go_enter Tryz.func77,Tryz.ntmps77
 go_wp2_with (first
  | (go_at_call 99;refine(impl_meaningByKind _ _ _ _).mono ?_;rintro e w1 ⟨rfl,hb⟩;have em:mBK 1 n s= .iface 109 (.int .i64 n):=rfl;rw [em];clear em;obtain⟨hk,hz⟩:=bframe (B:=w.heap.size+1) (X:=(w.alloc (.cells #[.int .i64 1,.int .i64 n,.string s] 73))) (by go_grown) (by go_size) hb;obtain⟨hC,hF,hL,hE⟩:=kp hb;clear hb))
 first
  | (go_region_with (first
   | (go_at_call 248;refine(right_number_no _ _ hR).mono ?_;rintro e w1 ⟨rfl,rfl⟩)))
  | fail
 all_goals go_wp2_with fail
 all_goals
  go_ret
  exact⟨rfl,bfin (n:=1) (X:=(w.alloc (.cells #[.int .i64 1,.int .i64 n,.string s] 73))) (by go_grown) (by go_grown)⟩
theorem meaningOf_truth_nr (n:Int) (s:ByteArray) (w:World) (hR:rTruth n=false):Calls Tryz.prog 77 #[.agg #[.int .i64 3,.int .i64 n,.string s]] w fun e w'=>
  e= .returned (mNo)∧Below w.heap.size w w':=by
 go_enter Tryz.func77,Tryz.ntmps77
 go_wp2_with (first
  | (go_at_call 99;refine(impl_meaningByKind _ _ _ _).mono ?_;rintro e w1 ⟨rfl,hb⟩;have em:mBK 3 n s= .iface 134 (.int .i64 n):=rfl;rw [em];clear em;obtain⟨hk,hz⟩:=bframe (B:=w.heap.size+1) (X:=(w.alloc (.cells #[.int .i64 3,.int .i64 n,.string s] 73))) (by go_grown) (by go_size) hb;obtain⟨hC,hF,hL,hE⟩:=kp hb;clear hb))
 first
  | (go_region_with (first
   | (go_at_call 256;refine(right_truth_no _ _ hR).mono ?_;rintro e w1 ⟨rfl,rfl⟩)))
  | fail
 all_goals go_wp2_with fail
 all_goals
  go_ret
  exact⟨rfl,bfin (n:=1) (X:=(w.alloc (.cells #[.int .i64 3,.int .i64 n,.string s] 73))) (by go_grown) (by go_grown)⟩
theorem meaningOf_failure_nr (n:Int) (s:ByteArray) (w:World) (hR:rFail n=false):Calls Tryz.prog 77 #[.agg #[.int .i64 4,.int .i64 n,.string s]] w fun e w'=>
  e= .returned (mNo)∧Below w.heap.size w w':=by
 go_enter Tryz.func77,Tryz.ntmps77
 go_wp2_with (first
  | (go_at_call 99;refine(impl_meaningByKind _ _ _ _).mono ?_;rintro e w1 ⟨rfl,hb⟩;have em:mBK 4 n s= .iface 135 (.int .i64 n):=rfl;rw [em];clear em;obtain⟨hk,hz⟩:=bframe (B:=w.heap.size+1) (X:=(w.alloc (.cells #[.int .i64 4,.int .i64 n,.string s] 73))) (by go_grown) (by go_size) hb;obtain⟨hC,hF,hL,hE⟩:=kp hb;clear hb))
 first
  | (go_region_with (first
   | (go_at_call 258;refine(right_failure_no _ _ hR).mono ?_;rintro e w1 ⟨rfl,rfl⟩)))
  | fail
 all_goals go_wp2_with fail
 all_goals
  go_ret
  exact⟨rfl,bfin (n:=1) (X:=(w.alloc (.cells #[.int .i64 4,.int .i64 n,.string s] 73))) (by go_grown) (by go_grown)⟩
theorem meaningOf_wording_nr (n:Int) (s:ByteArray) (w:World) (hs:Hid (s.size≤maxLen)) (hR:rWord s=false):Calls Tryz.prog 77 #[.agg #[.int .i64 2,.int .i64 n,.string s]] w fun e w'=>
  e= .returned (mNo)∧Below w.heap.size w w':=by
 go_enter Tryz.func77,Tryz.ntmps77
 go_wp2_with (first
  | (go_at_call 99;refine(impl_meaningByKind _ _ _ _).mono ?_;rintro e w1 ⟨rfl,hb⟩;have em:mBK 2 n s= .iface 80 (.string s):=rfl;rw [em];clear em;obtain⟨hk,hz⟩:=bframe (B:=w.heap.size+1) (X:=(w.alloc (.cells #[.int .i64 2,.int .i64 n,.string s] 73))) (by go_grown) (by go_size) hb;obtain⟨hC,hF,hL,hE⟩:=kp hb;clear hb))
 first
  | (go_region_with (first
   | (go_at_call 245;refine(right_wording_no _ _ hs.out hR).mono ?_;rintro e w1 ⟨rfl,rfl⟩)))
  | fail
 all_goals go_wp2_with fail
 all_goals
  go_ret
  exact⟨rfl,bfin (n:=1) (X:=(w.alloc (.cells #[.int .i64 2,.int .i64 n,.string s] 73))) (by go_grown) (by go_grown)⟩
theorem meaningOf_misfit_nr (k:Int) (n:Int) (s:ByteArray) (w:World) (HM:Hid (mBK k n s= .iface 132 (.agg #[]))):Calls Tryz.prog 77 #[.agg #[.int .i64 k,.int .i64 n,.string s]] w fun e w'=>
  e= .returned (mNo)∧Below w.heap.size w w':=by
 go_enter Tryz.func77,Tryz.ntmps77
 go_wp2_with (first
  | (go_at_call 99;refine(impl_meaningByKind _ _ _ _).mono ?_;rintro e w1 ⟨rfl,hb⟩;rw [HM.out];obtain⟨hk,hz⟩:=bframe (B:=w.heap.size+1) (X:=(w.alloc (.cells #[.int .i64 k,.int .i64 n,.string s] 73))) (by go_grown) (by go_size) hb;obtain⟨hC,hF,hL,hE⟩:=kp hb;clear hb))
 first
  | (go_region_with (first
   | (go_at_call 250;refine(right_misfit _).mono ?_;rintro e w1 ⟨rfl,hb⟩;obtain⟨hk,hz⟩:=bframe (B:=w.heap.size+1) (X:=(w.alloc (.cells #[.int .i64 k,.int .i64 n,.string s] 73))) (by go_grown) (by go_size) hb;clear hb)))
  | fail
 all_goals go_wp2_with fail
 all_goals
  go_ret
  exact⟨rfl,bfin (n:=1) (X:=(w.alloc (.cells #[.int .i64 k,.int .i64 n,.string s] 73))) (by go_grown) (by go_grown)⟩
def emp (s:ByteArray):Bool:=s.toList.isEmpty
theorem emp_yes {s:ByteArray} (h:emp s=true):s.toList= []:=List.isEmpty_iff.1 h
theorem emp_no {s:ByteArray} (h:emp s=false): ¬s.toList= []:=fun e=>by rw [emp,e]at h;cases h
theorem emp_of {s:ByteArray} (h:emp s=true):s=⟨#[]⟩:=by
 have e:=emp_yes h
 rw [ByteArray.toList_eq]at e
 exact ByteArray.ext (Array.toList_eq_nil_iff.1 e)
def okV (k n:Int) (s:ByteArray):Bool:=
 if k=0 then decide (n=0)&&emp s else if k=1 then rNum n&&emp s else if k=2 then decide (n=0)&&rWord s
 else if k=3 then rTruth n&&emp s else if k=4 then rFail n&&emp s else false
def mOf (k n:Int) (s:ByteArray):Value:=if okV k n s then mBK k n s else mNo
theorem impl_meaningOf (k n:Int) (s:ByteArray) (w:World) (hs:s.size≤maxLen):Calls Tryz.prog 77 #[.agg #[.int .i64 k,.int .i64 n,.string s]] w fun e w'=>
  e= .returned (mOf k n s)∧Below w.heap.size w w':=by
 by_cases h0:k=0
 ·subst h0
  by_cases hn:n=0
  ·subst hn
   cases he:emp s
   ·rw [show mOf 0 0 s=mNo from by simp [mOf,okV,he]];exact meaningOf_blank_no s w (emp_no he)
   ·rw [show mOf 0 0 s=mBK 0 0 s from by simp [mOf,okV,he]];exact meaningOf_blank_ok s w (emp_yes he)
  ·rw [show mOf 0 n s=mNo from by simp [mOf,okV,hn]];exact meaningOf_blank_nn n s w (fun e=>hn e.symm)
 by_cases h1:k=1
 ·subst h1
  cases hr:rNum n
  ·rw [show mOf 1 n s=mNo from by simp [mOf,okV,hr]];exact meaningOf_number_nr n s w hr
  ·cases he:emp s
   ·rw [show mOf 1 n s=mNo from by simp [mOf,okV,he]];exact meaningOf_number_no n s w hr (emp_no he)
   ·rw [show mOf 1 n s=mBK 1 n s from by simp [mOf,okV,he,hr]];exact meaningOf_number_ok n s w hr (emp_yes he)
 by_cases h2:k=2
 ·subst h2
  cases hr:rWord s
  ·rw [show mOf 2 n s=mNo from by simp [mOf,okV,hr]];exact meaningOf_wording_nr n s w hs hr
  ·by_cases hn:n=0
   ·subst hn
    rw [show mOf 2 0 s=mBK 2 0 s from by simp [mOf,okV,hr]];exact meaningOf_wording_ok s w hs hr
   ·rw [show mOf 2 n s=mNo from by simp [mOf,okV,hn]];exact meaningOf_wording_no n s w hs hr (fun e=>hn e.symm)
 by_cases h3:k=3
 ·subst h3
  cases hr:rTruth n
  ·rw [show mOf 3 n s=mNo from by simp [mOf,okV,hr]];exact meaningOf_truth_nr n s w hr
  ·cases he:emp s
   ·rw [show mOf 3 n s=mNo from by simp [mOf,okV,he]];exact meaningOf_truth_no n s w hr (emp_no he)
   ·rw [show mOf 3 n s=mBK 3 n s from by simp [mOf,okV,he,hr]];exact meaningOf_truth_ok n s w hr (emp_yes he)
 by_cases h4:k=4
 ·subst h4
  cases hr:rFail n
  ·rw [show mOf 4 n s=mNo from by simp [mOf,okV,hr]];exact meaningOf_failure_nr n s w hr
  ·cases he:emp s
   ·rw [show mOf 4 n s=mNo from by simp [mOf,okV,he]];exact meaningOf_failure_no n s w hr (emp_no he)
   ·rw [show mOf 4 n s=mBK 4 n s from by simp [mOf,okV,he,hr]];exact meaningOf_failure_ok n s w hr (emp_yes he)
 ·rw [show mOf k n s=mNo from by simp [mOf,okV,h0,h1,h2,h3,h4]]
  exact meaningOf_misfit_nr k n s w (show mBK k n s=_ by simp [mBK,h0,h1,h2,h3,h4])
theorem mOf_cases (k n:Int) (s:ByteArray):
  (okV k n s=false∧mOf k n s= .iface 132 (.agg #[]))∨
  (okV k n s=true∧k=0∧n=0∧s=⟨#[]⟩∧mOf k n s= .iface 133 (.agg #[]))∨
  (okV k n s=true∧k=1∧rNum n=true∧s=⟨#[]⟩∧mOf k n s= .iface 109 (.int .i64 n))∨
  (okV k n s=true∧k=2∧n=0∧rWord s=true∧mOf k n s= .iface 80 (.string s))∨
  (okV k n s=true∧k=3∧rTruth n=true∧s=⟨#[]⟩∧mOf k n s= .iface 134 (.int .i64 n))∨
  (okV k n s=true∧k=4∧rFail n=true∧s=⟨#[]⟩∧mOf k n s= .iface 135 (.int .i64 n)):=by
 cases ho:okV k n s
 ·exact .inl ⟨rfl,by simp [mOf,ho,mNo]⟩
 ·right
  have hm:mOf k n s=mBK k n s:=by simp [mOf,ho]
  rw [hm]
  unfold okV at ho
  split at ho
  ·rename_i h;subst h;simp only [Bool.and_eq_true,decide_eq_true_eq]at ho;exact .inl ⟨rfl,rfl,ho.1,emp_of ho.2,rfl⟩
  split at ho
  ·rename_i h;subst h;simp only [Bool.and_eq_true]at ho;exact .inr (.inl ⟨rfl,rfl,ho.1,emp_of ho.2,rfl⟩)
  split at ho
  ·rename_i h;subst h;simp only [Bool.and_eq_true,decide_eq_true_eq]at ho;exact .inr (.inr (.inl ⟨rfl,rfl,ho.1,ho.2,rfl⟩))
  split at ho
  ·rename_i h;subst h;simp only [Bool.and_eq_true]at ho;exact .inr (.inr (.inr (.inl ⟨rfl,rfl,ho.1,emp_of ho.2,rfl⟩)))
  split at ho
  ·rename_i h;subst h;simp only [Bool.and_eq_true]at ho;exact .inr (.inr (.inr (.inr ⟨rfl,rfl,ho.1,emp_of ho.2,rfl⟩)))
  ·cases ho
theorem impl_ValueOk (k n:Int) (s:ByteArray) (w:World) (hs:s.size≤maxLen):Calls Tryz.prog 76 #[.agg #[.int .i64 k,.int .i64 n,.string s]] w fun e w'=>
  e= .returned (.bool (okV k n s))∧Below w.heap.size w w':=by
 rcases mOf_cases k n s with⟨ho,hm⟩ | ⟨ho,rfl,rfl,rfl,hm⟩ | ⟨ho,rfl,hr,rfl,hm⟩ | ⟨ho,rfl,rfl,hr,hm⟩ | ⟨ho,rfl,hr,rfl,hm⟩ | ⟨ho,rfl,hr,rfl,hm⟩
 ·have HM:Hid (mOf k n s= .iface 132 (.agg #[])):=hm
  clear hm
  go_enter Tryz.func76,Tryz.ntmps76
  go_wp2_with (first
   | (go_at_call 77;refine(impl_meaningOf _ _ _ _ hs).mono ?_;rintro e w1 ⟨rfl,hb⟩;rw [HM.out];have hk:=bchain (w:=w) (by go_grown) hb;have hz:=hk.size;obtain⟨hC,hF,hL,hE⟩:=kp hb;clear hb)
   | (go_at_call 250;refine(right_misfit _).mono ?_;rintro e w1 ⟨rfl,hb⟩;have hk:=bchain (w:=w) (by go_grown) hb;clear hb))
  all_goals
   go_ret
   exact⟨ret_bool (by simp [ho]),by go_grown⟩
 ·have HM:Hid (mOf 0 0 ⟨#[]⟩= .iface 133 (.agg #[])):=hm
  clear hm
  go_enter Tryz.func76,Tryz.ntmps76
  go_wp2_with (first
   | (go_at_call 77;refine(impl_meaningOf _ _ _ _ hs).mono ?_;rintro e w1 ⟨rfl,hb⟩;rw [HM.out];have hk:=bchain (w:=w) (by go_grown) hb;have hz:=hk.size;obtain⟨hC,hF,hL,hE⟩:=kp hb;clear hb)
   | (go_at_call 253;refine(right_blank _).mono ?_;rintro e w1 ⟨rfl,hb⟩;have hk:=bchain (w:=w) (by go_grown) hb;clear hb))
  all_goals
   go_ret
   exact⟨ret_bool (by simp [ho]),by go_grown⟩
 ·have HM:Hid (mOf 1 n ⟨#[]⟩= .iface 109 (.int .i64 n)):=hm
  clear hm
  go_enter Tryz.func76,Tryz.ntmps76
  go_wp2_with (first
   | (go_at_call 77;refine(impl_meaningOf _ _ _ _ hs).mono ?_;rintro e w1 ⟨rfl,hb⟩;rw [HM.out];have hk:=bchain (w:=w) (by go_grown) hb;have hz:=hk.size;obtain⟨hC,hF,hL,hE⟩:=kp hb;clear hb)
   | (go_at_call 248;refine(right_number _ _).mono ?_;rintro e w1 ⟨rfl,rfl⟩))
  all_goals
   go_ret
   exact⟨ret_bool (by simp [ho]),by go_grown⟩
 ·have HM:Hid (mOf 2 0 s= .iface 80 (.string s)):=hm
  clear hm
  go_enter Tryz.func76,Tryz.ntmps76
  go_wp2_with (first
   | (go_at_call 77;refine(impl_meaningOf _ _ _ _ hs).mono ?_;rintro e w1 ⟨rfl,hb⟩;rw [HM.out];have hk:=bchain (w:=w) (by go_grown) hb;have hz:=hk.size;obtain⟨hC,hF,hL,hE⟩:=kp hb;clear hb)
   | (go_at_call 245;refine(right_wording _ _ hs).mono ?_;rintro e w1 ⟨rfl,rfl⟩))
  all_goals
   go_ret
   exact⟨ret_bool (by simp [ho]),by go_grown⟩
 ·have HM:Hid (mOf 3 n ⟨#[]⟩= .iface 134 (.int .i64 n)):=hm
  clear hm
  go_enter Tryz.func76,Tryz.ntmps76
  go_wp2_with (first
   | (go_at_call 77;refine(impl_meaningOf _ _ _ _ hs).mono ?_;rintro e w1 ⟨rfl,hb⟩;rw [HM.out];have hk:=bchain (w:=w) (by go_grown) hb;have hz:=hk.size;obtain⟨hC,hF,hL,hE⟩:=kp hb;clear hb)
   | (go_at_call 256;refine(right_truth _ _).mono ?_;rintro e w1 ⟨rfl,rfl⟩))
  all_goals
   go_ret
   exact⟨ret_bool (by simp [ho]),by go_grown⟩
 ·have HM:Hid (mOf 4 n ⟨#[]⟩= .iface 135 (.int .i64 n)):=hm
  clear hm
  go_enter Tryz.func76,Tryz.ntmps76
  go_wp2_with (first
   | (go_at_call 77;refine(impl_meaningOf _ _ _ _ hs).mono ?_;rintro e w1 ⟨rfl,hb⟩;rw [HM.out];have hk:=bchain (w:=w) (by go_grown) hb;have hz:=hk.size;obtain⟨hC,hF,hL,hE⟩:=kp hb;clear hb)
   | (go_at_call 258;refine(right_failure _ _).mono ?_;rintro e w1 ⟨rfl,rfl⟩))
  all_goals
   go_ret
   exact⟨ret_bool (by simp [ho]),by go_grown⟩
theorem spec_l1In (n l h:Int) (w:World):Calls Tryz.prog 46 #[.int .i64 n,.int .i64 l,.int .i64 h] w fun e w'=>
  e= .returned (.bool (decide (l≤n∧n≤h)))∧w'=w:=by
 go_enter Tryz.func46,Tryz.ntmps46
 go_wp2
 all_goals
  go_ret
  refine⟨ret_bool ?_,rfl⟩
  rw [Bool.eq_iff_iff]
  simp
  try omega
theorem spec_l2Plain (s:ByteArray) (w:World) (hs:s.size≤maxLen):Calls Tryz.prog 39 #[.string s] w fun e w'=>
  e= .returned (.bool (rWord s))∧w'=w:=by
 unfold maxLen at hs
 go_enter Tryz.func39,Tryz.ntmps39
 go_wp2_with fail
 go_loop [3] (fun v=> ∃k:Nat,k≤s.size∧v= .int .i64 k∧plainB (s.data.toList.take k)=true) (fun v=>s.size-(intOf v).toNat)
 case atStart=>exact⟨0,by omega,rfl,rfl⟩
 case round=>
  obtain⟨k,hk,rfl,hr⟩:=hrel
  have HR:Hid (plainB (s.data.toList.take k)=true):=hr
  clear hr
  by_cases hlt:k<s.size
  ·have HT:Hid (plainB (s.data.toList.take (k+1))=(plainB (s.data.toList.take k)&&decide (32≤s[k].toNat∧s[k].toNat≤126))):=plain_take s k hlt
   by_cases hb:32≤s[k].toNat∧s[k].toNat≤126
   ·have hb1: ¬((s[k].toNat:Int)<32):=by omega
    have hb2: ¬(126<(s[k].toNat:Int)):=by omega
    go_wp2
    all_goals
     go_round
     case rel=>exact⟨k+1,by omega,by go_num,by rw [HT.out,HR.out];simp;omega⟩
     case measure=>simp [intOf];omega
   ·have HF:Hid (rWord s=false):=by show rWord s=false;unfold rWord;rw [plain_no s k hlt hb];simp
    by_cases hb1:(s[k].toNat:Int)<32
    ·go_wp2
     go_ret
     exact⟨ret_bool HF.out.symm,rfl⟩
    ·have hb2:126<(s[k].toNat:Int):=by omega
     go_wp2
     go_ret
     exact⟨ret_bool HF.out.symm,rfl⟩
  ·have HA:=HR.out
   rw [List.take_of_length_le (by simp;omega)]at HA
   have HF:Hid (rWord s=decide (s.size≤200)):=by show rWord s=_;unfold rWord;rw [HA];simp
   clear HA
   go_wp2
   go_ret
   exact⟨ret_bool (by rw [HF.out];rw [Bool.eq_iff_iff];simp;try omega),rfl⟩
theorem spec_ValueOk (k n:Int) (s:ByteArray) (w:World) (hs:s.size≤maxLen):Calls Tryz.prog 68 #[.agg #[.int .i64 k,.int .i64 n,.string s]] w fun e w'=>
  e= .returned (.bool (okV k n s))∧Below w.heap.size w w':=by
 by_cases h0:k=0
 ·subst h0
  go_enter Tryz.func68,Tryz.ntmps68
  go_wp2_with (first
   | (go_at_call 46;refine(spec_l1In _ _ _ _).mono ?_;rintro e w1 ⟨rfl,rfl⟩)
   | (go_at_call 39;refine(spec_l2Plain _ _ hs).mono ?_;rintro e w1 ⟨rfl,rfl⟩))
  all_goals
   go_ret
   refine⟨ret_bool ?_,by go_grown⟩
   rw [Bool.eq_iff_iff]
   simp_all [okV,emp]
   try omega
 by_cases h1:k=1
 ·subst h1
  go_enter Tryz.func68,Tryz.ntmps68
  go_wp2_with (first
   | (go_at_call 46;refine(spec_l1In _ _ _ _).mono ?_;rintro e w1 ⟨rfl,rfl⟩)
   | (go_at_call 39;refine(spec_l2Plain _ _ hs).mono ?_;rintro e w1 ⟨rfl,rfl⟩))
  all_goals
   go_ret
   refine⟨ret_bool ?_,by go_grown⟩
   rw [Bool.eq_iff_iff]
   simp_all [okV,emp,rNum]
   try omega
 by_cases h2:k=2
 ·subst h2
  go_enter Tryz.func68,Tryz.ntmps68
  go_wp2_with (first
   | (go_at_call 46;refine(spec_l1In _ _ _ _).mono ?_;rintro e w1 ⟨rfl,rfl⟩)
   | (go_at_call 39;refine(spec_l2Plain _ _ hs).mono ?_;rintro e w1 ⟨rfl,rfl⟩))
  all_goals
   go_ret
   refine⟨ret_bool ?_,by go_grown⟩
   rw [Bool.eq_iff_iff]
   simp_all [okV]
   try omega
 by_cases h3:k=3
 ·subst h3
  go_enter Tryz.func68,Tryz.ntmps68
  go_wp2_with (first
   | (go_at_call 46;refine(spec_l1In _ _ _ _).mono ?_;rintro e w1 ⟨rfl,rfl⟩)
   | (go_at_call 39;refine(spec_l2Plain _ _ hs).mono ?_;rintro e w1 ⟨rfl,rfl⟩))
  all_goals
   go_ret
   refine⟨ret_bool ?_,by go_grown⟩
   rw [Bool.eq_iff_iff]
   simp_all [okV,emp,rTruth]
   try omega
 by_cases h4:k=4
 ·subst h4
  go_enter Tryz.func68,Tryz.ntmps68
  go_wp2_with (first
   | (go_at_call 46;refine(spec_l1In _ _ _ _).mono ?_;rintro e w1 ⟨rfl,rfl⟩)
   | (go_at_call 39;refine(spec_l2Plain _ _ hs).mono ?_;rintro e w1 ⟨rfl,rfl⟩))
  all_goals
   go_ret
   refine⟨ret_bool ?_,by go_grown⟩
   rw [Bool.eq_iff_iff]
   simp_all [okV,emp,rFail]
   try omega
 ·have e0:(k==0)=false:=by simpa using h0
  have e1:(k==1)=false:=by simpa using h1
  have e2:(k==2)=false:=by simpa using h2
  have e3:(k==3)=false:=by simpa using h3
  have e4:(k==4)=false:=by simpa using h4
  go_enter Tryz.func68,Tryz.ntmps68
  go_wp2_with (first
   | (go_at_call 46;refine(spec_l1In _ _ _ _).mono ?_;rintro e w1 ⟨rfl,rfl⟩)
   | (go_at_call 39;refine(spec_l2Plain _ _ hs).mono ?_;rintro e w1 ⟨rfl,rfl⟩))
  all_goals
   go_ret
   refine⟨ret_bool ?_,by go_grown⟩
   rw [Bool.eq_iff_iff]
   simp_all [okV]
   try omega
theorem spec_l2Error (n:Int) (w:World):Calls Tryz.prog 115 #[.int .i64 n] w fun e w'=>
  e= .returned (.agg #[.int .i64 4,.int .i64 n,.string ⟨#[]⟩])∧Below w.heap.size w w':=by
 go_enter Tryz.func115,Tryz.ntmps115
 go_wp2
 go_returns
 exact⟨rfl,by go_grown⟩
def sgn (a b:Int):Int:=if a<b then-1 else if b<a then 1 else 0
theorem cmp_int (a b:Int) (w:World):Calls Tryz.prog 62 #[.int .i64 a,.int .i64 b] w fun e w'=>
  e= .returned (.int .i64 (sgn a b))∧w'=w:=by
 go_enter Tryz.func62,Tryz.ntmps62
 go_wp2
 all_goals
  go_ret
  refine⟨ret_int ?_,rfl⟩
  unfold sgn
  (repeat split)<;>omega
theorem sgn_ne {a b:Int} (h: ¬a=b):sgn a b=(if decide (a<b)then-1 else if true then 1 else 0)∧ ¬sgn a b=0:=by
 unfold sgn
 by_cases h1:a<b
 ·simp [h1]
 ·have h2:b<a:=by omega
  simp [h1,h2]
theorem sgn_self (a:Int):sgn a a=0:=by unfold sgn;simp
end Go.Proofs.YthpmmfmanaefgaaGreatDoor
