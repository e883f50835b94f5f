import Derived.Test.YtbdhinckiccniaaGreatDoorGac
import Derived.Laws.StructEq
import Derived.Deep.RegionWith
import Derived.RegionTactic
import Derived.Deep.RegionHeld3
set_option linter.unusedSimpArgs false
set_option linter.unusedVariables false
set_option maxHeartbeats 1000000
namespace Go.Proofs.YtbdhinckiccniaaGreatDoor
open Go.RowKit
theorem Uj (n:Int) (w:World) (hR:ZP n=false):Calls Tryz.prog 359 #[.int .i64 n] w fun e w'=>e= .returned (.bool false)∧w'=w:=
 (Zx n w).mono fun _ _ h=>⟨by rw [h.1,hR],h.2⟩
theorem UL (n:Int) (w:World) (hR:YE n=false):Calls Tryz.prog 367 #[.int .i64 n] w fun e w'=>e= .returned (.bool false)∧w'=w:=
 (Yh n w).mono fun _ _ h=>⟨by rw [h.1,hR],h.2⟩
theorem Gi (n:Int) (w:World) (hR:XO n=false):Calls Tryz.prog 369 #[.int .i64 n] w fun e w'=>e= .returned (.bool false)∧w'=w:=
 (Zr n w).mono fun _ _ h=>⟨by rw [h.1,hR],h.2⟩
theorem Gh (s:ByteArray) (w:World) (hs:s.size≤maxLen) (hR:QE s=false):Calls Tryz.prog 356 #[.string s] w fun e w'=>e= .returned (.bool false)∧w'=w:=
 (Zq s w hs).mono fun _ _ h=>⟨by rw [h.1,hR],h.2⟩
theorem Vf (n:Int) (s:ByteArray) (w:World) (hR:ZP n=false):Calls Tryz.prog 245 #[.agg #[.int .i64 1,.int .i64 n,.string s]] w fun e w'=>
  e= .returned (mNo)∧Below w.heap.size w w':=by
 go_enter Tryz.func245,Tryz.ntmps245
 go_wp2_with (first
  | (go_at_call 282;refine(Qi _ _ _ _).mono ?_;rintro e w1 ⟨rfl,hb⟩;have em:mBK 1 n s= .iface 253 (.int .i64 n):=rfl;rw [em];clear em;obtain⟨hk,hz⟩:=Qg (B:=w.heap.size+1) (X:=(w.alloc (.cells #[.int .i64 1,.int .i64 n,.string s] 156))) (by go_grown) (by go_size) hb;obtain⟨hC,hF,hL,hE⟩:=kp hb;clear hb))
 first
  | (go_region_with (first
   | (go_at_call 359;refine(Uj _ _ hR).mono ?_;rintro e w1 ⟨rfl,rfl⟩)))
  | fail
 all_goals go_wp2_with fail
 all_goals
  go_ret;exact⟨rfl,ZT (n:=1) (X:=(w.alloc (.cells #[.int .i64 1,.int .i64 n,.string s] 156))) (by go_grown) (by go_grown)⟩
theorem Kg (n:Int) (s:ByteArray) (w:World) (hR:YE n=false):Calls Tryz.prog 245 #[.agg #[.int .i64 3,.int .i64 n,.string s]] w fun e w'=>
  e= .returned (mNo)∧Below w.heap.size w w':=by
 go_enter Tryz.func245,Tryz.ntmps245
 go_wp2_with (first
  | (go_at_call 282;refine(Qi _ _ _ _).mono ?_;rintro e w1 ⟨rfl,hb⟩;have em:mBK 3 n s= .iface 288 (.int .i64 n):=rfl;rw [em];clear em;obtain⟨hk,hz⟩:=Qg (B:=w.heap.size+1) (X:=(w.alloc (.cells #[.int .i64 3,.int .i64 n,.string s] 156))) (by go_grown) (by go_size) hb;obtain⟨hC,hF,hL,hE⟩:=kp hb;clear hb))
 first
  | (go_region_with (first
   | (go_at_call 367;refine(UL _ _ hR).mono ?_;rintro e w1 ⟨rfl,rfl⟩)))
  | fail
 all_goals go_wp2_with fail
 all_goals
  go_ret;exact⟨rfl,ZT (n:=1) (X:=(w.alloc (.cells #[.int .i64 3,.int .i64 n,.string s] 156))) (by go_grown) (by go_grown)⟩
theorem JO (n:Int) (s:ByteArray) (w:World) (hR:XO n=false):Calls Tryz.prog 245 #[.agg #[.int .i64 4,.int .i64 n,.string s]] w fun e w'=>
  e= .returned (mNo)∧Below w.heap.size w w':=by
 go_enter Tryz.func245,Tryz.ntmps245
 go_wp2_with (first
  | (go_at_call 282;refine(Qi _ _ _ _).mono ?_;rintro e w1 ⟨rfl,hb⟩;have em:mBK 4 n s= .iface 289 (.int .i64 n):=rfl;rw [em];clear em;obtain⟨hk,hz⟩:=Qg (B:=w.heap.size+1) (X:=(w.alloc (.cells #[.int .i64 4,.int .i64 n,.string s] 156))) (by go_grown) (by go_size) hb;obtain⟨hC,hF,hL,hE⟩:=kp hb;clear hb))
 first
  | (go_region_with (first
   | (go_at_call 369;refine(Gi _ _ hR).mono ?_;rintro e w1 ⟨rfl,rfl⟩)))
  | fail
 all_goals go_wp2_with fail
 all_goals
  go_ret;exact⟨rfl,ZT (n:=1) (X:=(w.alloc (.cells #[.int .i64 4,.int .i64 n,.string s] 156))) (by go_grown) (by go_grown)⟩
theorem JL (n:Int) (s:ByteArray) (w:World) (hs:Hid (s.size≤maxLen)) (hR:QE s=false):Calls Tryz.prog 245 #[.agg #[.int .i64 2,.int .i64 n,.string s]] w fun e w'=>
  e= .returned (mNo)∧Below w.heap.size w w':=by
 go_enter Tryz.func245,Tryz.ntmps245
 go_wp2_with (first
  | (go_at_call 282;refine(Qi _ _ _ _).mono ?_;rintro e w1 ⟨rfl,hb⟩;have em:mBK 2 n s= .iface 219 (.string s):=rfl;rw [em];clear em;obtain⟨hk,hz⟩:=Qg (B:=w.heap.size+1) (X:=(w.alloc (.cells #[.int .i64 2,.int .i64 n,.string s] 156))) (by go_grown) (by go_size) hb;obtain⟨hC,hF,hL,hE⟩:=kp hb;clear hb))
 first
  | (go_region_with (first
   | (go_at_call 356;refine(Gh _ _ hs.out hR).mono ?_;rintro e w1 ⟨rfl,rfl⟩)))
  | fail
 all_goals go_wp2_with fail
 all_goals
  go_ret;exact⟨rfl,ZT (n:=1) (X:=(w.alloc (.cells #[.int .i64 2,.int .i64 n,.string s] 156))) (by go_grown) (by go_grown)⟩
theorem Vh (k:Int) (n:Int) (s:ByteArray) (w:World) (HM:Hid (mBK k n s= .iface 286 (.agg #[]))):Calls Tryz.prog 245 #[.agg #[.int .i64 k,.int .i64 n,.string s]] w fun e w'=>
  e= .returned (mNo)∧Below w.heap.size w w':=by
 go_enter Tryz.func245,Tryz.ntmps245
 go_wp2_with (first
  | (go_at_call 282;refine(Qi _ _ _ _).mono ?_;rintro e w1 ⟨rfl,hb⟩;rw [HM.out];obtain⟨hk,hz⟩:=Qg (B:=w.heap.size+1) (X:=(w.alloc (.cells #[.int .i64 k,.int .i64 n,.string s] 156))) (by go_grown) (by go_size) hb;obtain⟨hC,hF,hL,hE⟩:=kp hb;clear hb))
 first
  | (go_region_with (first
   | (go_at_call 361;refine(Jk _).mono ?_;rintro e w1 ⟨rfl,hb⟩;obtain⟨hk,hz⟩:=Qg (B:=w.heap.size+1) (X:=(w.alloc (.cells #[.int .i64 k,.int .i64 n,.string s] 156))) (by go_grown) (by go_size) hb;clear hb)))
  | fail
 all_goals go_wp2_with fail
 all_goals
  go_ret;exact⟨rfl,ZT (n:=1) (X:=(w.alloc (.cells #[.int .i64 k,.int .i64 n,.string s] 156))) (by go_grown) (by go_grown)⟩
def emp (s:ByteArray):Bool:=s.toList.isEmpty
theorem Gt {s:ByteArray} (h:emp s=true):s.toList= []:=List.isEmpty_iff.1 h
theorem Qab {s:ByteArray} (h:emp s=false): ¬s.toList= []:=fun e=>by rw [emp,e]at h;cases h
theorem Jf {s:ByteArray} (h:emp s=true):s=⟨#[]⟩:=by
 have e:=Gt h;rw [ByteArray.toList_eq]at e;exact ByteArray.ext (Array.toList_eq_nil_iff.1 e)
def okV (k n:Int) (s:ByteArray):Bool:=
 if k=0 then decide (n=0)&&emp s else if k=1 then ZP n&&emp s else if k=2 then decide (n=0)&&QE s
 else if k=3 then YE n&&emp s else if k=4 then XO n&&emp s else false
def mOf (k n:Int) (s:ByteArray):Value:=if okV k n s then mBK k n s else mNo
theorem Qv (k n:Int) (s:ByteArray) (w:World) (hs:s.size≤maxLen):Calls Tryz.prog 245 #[.agg #[.int .i64 k,.int .i64 n,.string s]] w fun e w'=>
  e= .returned (mOf k n s)∧Below w.heap.size w w':=by
 by_cases h0:k=0
 ·subst h0;by_cases hn:n=0
  ·subst hn;cases he:emp s
   ·rw [show mOf 0 0 s=mNo from by simp [mOf,okV,he]];exact Kj s w (Qab he)
   ·rw [show mOf 0 0 s=mBK 0 0 s from by simp [mOf,okV,he]];exact Ki s w (Gt he)
  ·rw [show mOf 0 n s=mNo from by simp [mOf,okV,hn]];exact Kk n s w (fun e=>hn e.symm)
 by_cases h1:k=1
 ·subst h1;cases hr:ZP n
  ·rw [show mOf 1 n s=mNo from by simp [mOf,okV,hr]];exact Vf n s w hr
  ·cases he:emp s
   ·rw [show mOf 1 n s=mNo from by simp [mOf,okV,he]];exact Vg n s w hr (Qab he)
   ·rw [show mOf 1 n s=mBK 1 n s from by simp [mOf,okV,he,hr]];exact Ve n s w hr (Gt he)
 by_cases h2:k=2
 ·subst h2;cases hr:QE s
  ·rw [show mOf 2 n s=mNo from by simp [mOf,okV,hr]];exact JL n s w hs hr
  ·by_cases hn:n=0
   ·subst hn;rw [show mOf 2 0 s=mBK 2 0 s from by simp [mOf,okV,hr]];exact JK s w hs hr
   ·rw [show mOf 2 n s=mNo from by simp [mOf,okV,hn]];exact JM n s w hs hr (fun e=>hn e.symm)
 by_cases h3:k=3
 ·subst h3;cases hr:YE n
  ·rw [show mOf 3 n s=mNo from by simp [mOf,okV,hr]];exact Kg n s w hr
  ·cases he:emp s
   ·rw [show mOf 3 n s=mNo from by simp [mOf,okV,he]];exact Kh n s w hr (Qab he)
   ·rw [show mOf 3 n s=mBK 3 n s from by simp [mOf,okV,he,hr]];exact VZ n s w hr (Gt he)
 by_cases h4:k=4
 ·subst h4;cases hr:XO n
  ·rw [show mOf 4 n s=mNo from by simp [mOf,okV,hr]];exact JO n s w hr
  ·cases he:emp s
   ·rw [show mOf 4 n s=mNo from by simp [mOf,okV,he]];exact JP n s w hr (Qab he)
   ·rw [show mOf 4 n s=mBK 4 n s from by simp [mOf,okV,he,hr]];exact JN n s w hr (Gt he)
 ·rw [show mOf k n s=mNo from by simp [mOf,okV,h0,h1,h2,h3,h4]];exact Vh k n s w (show mBK k n s=_ by simp [mBK,h0,h1,h2,h3,h4])
theorem Qh4 (k n:Int) (s:ByteArray):
  (okV k n s=false∧mOf k n s= .iface 286 (.agg #[]))∨
  (okV k n s=true∧k=0∧n=0∧s=⟨#[]⟩∧mOf k n s= .iface 287 (.agg #[]))∨
  (okV k n s=true∧k=1∧ZP n=true∧s=⟨#[]⟩∧mOf k n s= .iface 253 (.int .i64 n))∨
  (okV k n s=true∧k=2∧n=0∧QE s=true∧mOf k n s= .iface 219 (.string s))∨
  (okV k n s=true∧k=3∧YE n=true∧s=⟨#[]⟩∧mOf k n s= .iface 288 (.int .i64 n))∨
  (okV k n s=true∧k=4∧XO n=true∧s=⟨#[]⟩∧mOf k n s= .iface 289 (.int .i64 n)):=by
 cases ho:okV k n s
 ·exact .inl ⟨rfl,by simp [mOf,ho,mNo]⟩
 ·right
  have hm:mOf k n s=mBK k n s:=by simp [mOf,ho]
  rw [hm];unfold okV at ho;split at ho
  ·rename_i h;subst h;simp only [Bool.and_eq_true,decide_eq_true_eq]at ho;exact .inl ⟨rfl,rfl,ho.1,Jf ho.2,rfl⟩
  split at ho
  ·rename_i h;subst h;simp only [Bool.and_eq_true]at ho;exact .inr (.inl ⟨rfl,rfl,ho.1,Jf ho.2,rfl⟩)
  split at ho
  ·rename_i h;subst h;simp only [Bool.and_eq_true,decide_eq_true_eq]at ho;exact .inr (.inr (.inl ⟨rfl,rfl,ho.1,ho.2,rfl⟩))
  split at ho
  ·rename_i h;subst h;simp only [Bool.and_eq_true]at ho;exact .inr (.inr (.inr (.inl ⟨rfl,rfl,ho.1,Jf ho.2,rfl⟩)))
  split at ho
  ·rename_i h;subst h;simp only [Bool.and_eq_true]at ho;exact .inr (.inr (.inr (.inr ⟨rfl,rfl,ho.1,Jf ho.2,rfl⟩)))
  ·cases ho
theorem Yr (k n:Int) (s:ByteArray) (w:World) (hs:s.size≤maxLen):Calls Tryz.prog 244 #[.agg #[.int .i64 k,.int .i64 n,.string s]] w fun e w'=>
  e= .returned (.bool (okV k n s))∧Below w.heap.size w w':=by
 rcases Qh4 k n s with⟨ho,hm⟩ | ⟨ho,rfl,rfl,rfl,hm⟩ | ⟨ho,rfl,hr,rfl,hm⟩ | ⟨ho,rfl,rfl,hr,hm⟩ | ⟨ho,rfl,hr,rfl,hm⟩ | ⟨ho,rfl,hr,rfl,hm⟩
 ·have HM:Hid (mOf k n s= .iface 286 (.agg #[])):=hm;clear hm;go_enter Tryz.func244,Tryz.ntmps244
  go_wp2_with (first
   | (go_at_call 245;refine(Qv _ _ _ _ hs).mono ?_;rintro e w1 ⟨rfl,hb⟩;rw [HM.out];have hk:=Qc (w:=w) (by go_grown) hb;have hz:=hk.size;obtain⟨hC,hF,hL,hE⟩:=kp hb;clear hb)
   | (go_at_call 361;refine(Jk _).mono ?_;rintro e w1 ⟨rfl,hb⟩;have hk:=Qc (w:=w) (by go_grown) hb;clear hb))
  all_goals
   go_ret;exact⟨Qb (by simp [ho]),by go_grown⟩
 ·have HM:Hid (mOf 0 0 ⟨#[]⟩= .iface 287 (.agg #[])):=hm;clear hm;go_enter Tryz.func244,Tryz.ntmps244
  go_wp2_with (first
   | (go_at_call 245;refine(Qv _ _ _ _ hs).mono ?_;rintro e w1 ⟨rfl,hb⟩;rw [HM.out];have hk:=Qc (w:=w) (by go_grown) hb;have hz:=hk.size;obtain⟨hC,hF,hL,hE⟩:=kp hb;clear hb)
   | (go_at_call 364;refine(YO _).mono ?_;rintro e w1 ⟨rfl,hb⟩;have hk:=Qc (w:=w) (by go_grown) hb;clear hb))
  all_goals
   go_ret;exact⟨Qb (by simp [ho]),by go_grown⟩
 ·have HM:Hid (mOf 1 n ⟨#[]⟩= .iface 253 (.int .i64 n)):=hm;clear hm;go_enter Tryz.func244,Tryz.ntmps244
  go_wp2_with (first
   | (go_at_call 245;refine(Qv _ _ _ _ hs).mono ?_;rintro e w1 ⟨rfl,hb⟩;rw [HM.out];have hk:=Qc (w:=w) (by go_grown) hb;have hz:=hk.size;obtain⟨hC,hF,hL,hE⟩:=kp hb;clear hb)
   | (go_at_call 359;refine(Zx _ _).mono ?_;rintro e w1 ⟨rfl,rfl⟩))
  all_goals
   go_ret;exact⟨Qb (by simp [ho]),by go_grown⟩
 ·have HM:Hid (mOf 2 0 s= .iface 219 (.string s)):=hm;clear hm;go_enter Tryz.func244,Tryz.ntmps244
  go_wp2_with (first
   | (go_at_call 245;refine(Qv _ _ _ _ hs).mono ?_;rintro e w1 ⟨rfl,hb⟩;rw [HM.out];have hk:=Qc (w:=w) (by go_grown) hb;have hz:=hk.size;obtain⟨hC,hF,hL,hE⟩:=kp hb;clear hb)
   | (go_at_call 356;refine(Zq _ _ hs).mono ?_;rintro e w1 ⟨rfl,rfl⟩))
  all_goals
   go_ret;exact⟨Qb (by simp [ho]),by go_grown⟩
 ·have HM:Hid (mOf 3 n ⟨#[]⟩= .iface 288 (.int .i64 n)):=hm;clear hm;go_enter Tryz.func244,Tryz.ntmps244
  go_wp2_with (first
   | (go_at_call 245;refine(Qv _ _ _ _ hs).mono ?_;rintro e w1 ⟨rfl,hb⟩;rw [HM.out];have hk:=Qc (w:=w) (by go_grown) hb;have hz:=hk.size;obtain⟨hC,hF,hL,hE⟩:=kp hb;clear hb)
   | (go_at_call 367;refine(Yh _ _).mono ?_;rintro e w1 ⟨rfl,rfl⟩))
  all_goals
   go_ret;exact⟨Qb (by simp [ho]),by go_grown⟩
 ·have HM:Hid (mOf 4 n ⟨#[]⟩= .iface 289 (.int .i64 n)):=hm;clear hm;go_enter Tryz.func244,Tryz.ntmps244
  go_wp2_with (first
   | (go_at_call 245;refine(Qv _ _ _ _ hs).mono ?_;rintro e w1 ⟨rfl,hb⟩;rw [HM.out];have hk:=Qc (w:=w) (by go_grown) hb;have hz:=hk.size;obtain⟨hC,hF,hL,hE⟩:=kp hb;clear hb)
   | (go_at_call 369;refine(Zr _ _).mono ?_;rintro e w1 ⟨rfl,rfl⟩))
  all_goals
   go_ret;exact⟨Qb (by simp [ho]),by go_grown⟩
theorem QT (n l h:Int) (w:World):Calls Tryz.prog 121 #[.int .i64 n,.int .i64 l,.int .i64 h] w fun e w'=>
  e= .returned (.bool (decide (l≤n∧n≤h)))∧w'=w:=by
 go_enter Tryz.func121,Tryz.ntmps121;go_wp2
 all_goals
  go_ret;refine⟨Qb ?_,rfl⟩;rw [Bool.eq_iff_iff];simp;try omega
theorem Zd (s:ByteArray) (w:World) (hs:s.size≤maxLen):Calls Tryz.prog 115 #[.string s] w fun e w'=>
  e= .returned (.bool (QE s))∧w'=w:=by
 unfold maxLen at hs;go_enter Tryz.func115,Tryz.ntmps115;go_wp2_with fail
 go_loop [3] (fun v=> ∃k:Nat,k≤s.size∧v= .int .i64 k∧Zy (s.data.toList.take k)=true) (fun v=>s.size-(intOf v).toNat)
 case atStart=>exact⟨0,by omega,rfl,rfl⟩
 case round=>
  obtain⟨k,hk,rfl,hr⟩:=hrel;have HR:Hid (Zy (s.data.toList.take k)=true):=hr;clear hr;by_cases hlt:k<s.size
  ·have HT:Hid (Zy (s.data.toList.take (k+1))=(Zy (s.data.toList.take k)&&decide (32≤s[k].toNat∧s[k].toNat≤126))):=Mq s k hlt;by_cases hb:32≤s[k].toNat∧s[k].toNat≤126
   ·have hb1: ¬((s[k].toNat:Int)<32):=by omega
    have hb2: ¬(126<(s[k].toNat:Int)):=by omega
    go_wp2
    all_goals
     go_round
     case rel=>exact⟨k+1,by omega,by go_num,by rw [HT.out,HR.out];simp;omega⟩
     case measure=>simp [intOf];omega
   ·have HF:Hid (QE s=false):=by show QE s=false;unfold QE;rw [Qbw s k hlt hb];simp
    by_cases hb1:(s[k].toNat:Int)<32
    ·go_wp2
     go_ret;exact⟨Qb HF.out.symm,rfl⟩
    ·have hb2:126<(s[k].toNat:Int):=by omega
     go_wp2
     go_ret;exact⟨Qb HF.out.symm,rfl⟩
  ·have HA:=HR.out;rw [List.take_of_length_le (by simp;omega)]at HA;have HF:Hid (QE s=decide (s.size≤200)):=by show QE s=_;unfold QE;rw [HA];simp
   clear HA;go_wp2
   go_ret;exact⟨Qb (by rw [HF.out];rw [Bool.eq_iff_iff];simp;try omega),rfl⟩
theorem Ql (k n:Int) (s:ByteArray) (w:World) (hs:s.size≤maxLen):Calls Tryz.prog 171 #[.agg #[.int .i64 k,.int .i64 n,.string s]] w fun e w'=>
  e= .returned (.bool (okV k n s))∧Below w.heap.size w w':=by
 by_cases h0:k=0
 ·subst h0;go_enter Tryz.func171,Tryz.ntmps171
  go_wp2_with (first
   | (go_at_call 121;refine(QT _ _ _ _).mono ?_;rintro e w1 ⟨rfl,rfl⟩)
   | (go_at_call 115;refine(Zd _ _ hs).mono ?_;rintro e w1 ⟨rfl,rfl⟩))
  all_goals
   go_ret;refine⟨Qb ?_,by go_grown⟩;rw [Bool.eq_iff_iff];simp_all [okV,emp]
   try omega
 by_cases h1:k=1
 ·subst h1;go_enter Tryz.func171,Tryz.ntmps171
  go_wp2_with (first
   | (go_at_call 121;refine(QT _ _ _ _).mono ?_;rintro e w1 ⟨rfl,rfl⟩)
   | (go_at_call 115;refine(Zd _ _ hs).mono ?_;rintro e w1 ⟨rfl,rfl⟩))
  all_goals
   go_ret;refine⟨Qb ?_,by go_grown⟩;rw [Bool.eq_iff_iff];simp_all [okV,emp,ZP]
   try omega
 by_cases h2:k=2
 ·subst h2;go_enter Tryz.func171,Tryz.ntmps171
  go_wp2_with (first
   | (go_at_call 121;refine(QT _ _ _ _).mono ?_;rintro e w1 ⟨rfl,rfl⟩)
   | (go_at_call 115;refine(Zd _ _ hs).mono ?_;rintro e w1 ⟨rfl,rfl⟩))
  all_goals
   go_ret;refine⟨Qb ?_,by go_grown⟩;rw [Bool.eq_iff_iff];simp_all [okV]
   try omega
 by_cases h3:k=3
 ·subst h3;go_enter Tryz.func171,Tryz.ntmps171
  go_wp2_with (first
   | (go_at_call 121;refine(QT _ _ _ _).mono ?_;rintro e w1 ⟨rfl,rfl⟩)
   | (go_at_call 115;refine(Zd _ _ hs).mono ?_;rintro e w1 ⟨rfl,rfl⟩))
  all_goals
   go_ret;refine⟨Qb ?_,by go_grown⟩;rw [Bool.eq_iff_iff];simp_all [okV,emp,YE]
   try omega
 by_cases h4:k=4
 ·subst h4;go_enter Tryz.func171,Tryz.ntmps171
  go_wp2_with (first
   | (go_at_call 121;refine(QT _ _ _ _).mono ?_;rintro e w1 ⟨rfl,rfl⟩)
   | (go_at_call 115;refine(Zd _ _ hs).mono ?_;rintro e w1 ⟨rfl,rfl⟩))
  all_goals
   go_ret;refine⟨Qb ?_,by go_grown⟩;rw [Bool.eq_iff_iff];simp_all [okV,emp,XO]
   try omega
 ·have e0:(k==0)=false:=by simpa using h0
  have e1:(k==1)=false:=by simpa using h1
  have e2:(k==2)=false:=by simpa using h2
  have e3:(k==3)=false:=by simpa using h3
  have e4:(k==4)=false:=by simpa using h4
  go_enter Tryz.func171,Tryz.ntmps171
  go_wp2_with (first
   | (go_at_call 121;refine(QT _ _ _ _).mono ?_;rintro e w1 ⟨rfl,rfl⟩)
   | (go_at_call 115;refine(Zd _ _ hs).mono ?_;rintro e w1 ⟨rfl,rfl⟩))
  all_goals
   go_ret;refine⟨Qb ?_,by go_grown⟩;rw [Bool.eq_iff_iff];simp_all [okV]
   try omega
theorem Bj (n:Int) (w:World):Calls Tryz.prog 224 #[.int .i64 n] w fun e w'=>
  e= .returned (.agg #[.int .i64 4,.int .i64 n,.string ⟨#[]⟩])∧Below w.heap.size w w':=by
 go_enter Tryz.func224,Tryz.ntmps224;go_wp2
 go_returns
 exact⟨rfl,by go_grown⟩
def sgn (a b:Int):Int:=if a<b then-1 else if b<a then 1 else 0
theorem Qgu (a b:Int) (w:World):Calls Tryz.prog 151 #[.int .i64 a,.int .i64 b] w fun e w'=>
  e= .returned (.int .i64 (sgn a b))∧w'=w:=by
 go_enter Tryz.func151,Tryz.ntmps151;go_wp2
 all_goals
  go_ret;refine⟨QY ?_,rfl⟩;unfold sgn
  (repeat split)<;>omega
theorem Qr7 {a b:Int} (h: ¬a=b):sgn a b=(if decide (a<b)then-1 else if true then 1 else 0)∧ ¬sgn a b=0:=by
 unfold sgn;by_cases h1:a<b
 ·simp [h1]
 ·have h2:b<a:=by omega
  simp [h1,h2]
theorem Qbl (a:Int):sgn a a=0:=by unfold sgn;simp
end Go.Proofs.YtbdhinckiccniaaGreatDoor
