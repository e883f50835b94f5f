import Derived.Test.YtekcnhfkmimodaaGreatDoorGac
import Derived.Laws.StructEq
import Derived.Deep.RegionWith
import Derived.RegionTactic
import Derived.Deep.RegionHeld3
set_option linter.unusedSimpArgs false
set_option linter.unusedVariables false
set_option maxHeartbeats 1000000
namespace Go.Proofs.YtekcnhfkmimodaaGreatDoor
open Go.RowKit
theorem Kv (n:Int) (w:World) (hR:Zy n=false):Calls Tryz.prog 242 #[.int .i64 n] w fun e w'=>e= .returned (.bool false)∧w'=w:=
 (Zq n w).mono fun _ _ h=>⟨by rw [h.1,hR],h.2⟩
theorem Hh (n:Int) (w:World) (hR:Yn n=false):Calls Tryz.prog 250 #[.int .i64 n] w fun e w'=>e= .returned (.bool false)∧w'=w:=
 (ZJ n w).mono fun _ _ h=>⟨by rw [h.1,hR],h.2⟩
theorem VM (n:Int) (w:World) (hR:Xg n=false):Calls Tryz.prog 252 #[.int .i64 n] w fun e w'=>e= .returned (.bool false)∧w'=w:=
 (Zi n w).mono fun _ _ h=>⟨by rw [h.1,hR],h.2⟩
theorem VL (s:ByteArray) (w:World) (hs:s.size≤maxLen) (hR:Qw s=false):Calls Tryz.prog 241 #[.string s] w fun e w'=>e= .returned (.bool false)∧w'=w:=
 (Zh s w hs).mono fun _ _ h=>⟨by rw [h.1,hR],h.2⟩
theorem Jh (n:Int) (s:ByteArray) (w:World) (hR:Zy n=false):Calls Tryz.prog 128 #[.agg #[.int .i64 1,.int .i64 n,.string s]] w fun e w'=>
  e= .returned (mNo)∧Below w.heap.size w w':=by
 go_enter Tryz.func128,Tryz.ntmps128
 go_wp2_with (first
  | (go_at_call 141;refine(Qg _ _ _ _).mono ?_;rintro e w1 ⟨rfl,hb⟩;have em:mBK 1 n s= .iface 137 (.int .i64 n):=rfl;rw [em];clear em;obtain⟨hk,hz⟩:=Qh (B:=w.heap.size+1) (X:=(w.alloc (.cells #[.int .i64 1,.int .i64 n,.string s] 83))) (by go_grown) (by go_size) hb;obtain⟨hC,hF,hL,hE⟩:=kp hb;clear hb))
 first
  | (go_region_with (first
   | (go_at_call 242;refine(Kv _ _ hR).mono ?_;rintro e w1 ⟨rfl,rfl⟩)))
  | fail
 all_goals go_wp2_with fail
 all_goals
  go_ret;exact⟨rfl,ZF (n:=1) (X:=(w.alloc (.cells #[.int .i64 1,.int .i64 n,.string s] 83))) (by go_grown) (by go_grown)⟩
theorem JQ (n:Int) (s:ByteArray) (w:World) (hR:Yn n=false):Calls Tryz.prog 128 #[.agg #[.int .i64 3,.int .i64 n,.string s]] w fun e w'=>
  e= .returned (mNo)∧Below w.heap.size w w':=by
 go_enter Tryz.func128,Tryz.ntmps128
 go_wp2_with (first
  | (go_at_call 141;refine(Qg _ _ _ _).mono ?_;rintro e w1 ⟨rfl,hb⟩;have em:mBK 3 n s= .iface 156 (.int .i64 n):=rfl;rw [em];clear em;obtain⟨hk,hz⟩:=Qh (B:=w.heap.size+1) (X:=(w.alloc (.cells #[.int .i64 3,.int .i64 n,.string s] 83))) (by go_grown) (by go_size) hb;obtain⟨hC,hF,hL,hE⟩:=kp hb;clear hb))
 first
  | (go_region_with (first
   | (go_at_call 250;refine(Hh _ _ hR).mono ?_;rintro e w1 ⟨rfl,rfl⟩)))
  | fail
 all_goals go_wp2_with fail
 all_goals
  go_ret;exact⟨rfl,ZF (n:=1) (X:=(w.alloc (.cells #[.int .i64 3,.int .i64 n,.string s] 83))) (by go_grown) (by go_grown)⟩
theorem XR (n:Int) (s:ByteArray) (w:World) (hR:Xg n=false):Calls Tryz.prog 128 #[.agg #[.int .i64 4,.int .i64 n,.string s]] w fun e w'=>
  e= .returned (mNo)∧Below w.heap.size w w':=by
 go_enter Tryz.func128,Tryz.ntmps128
 go_wp2_with (first
  | (go_at_call 141;refine(Qg _ _ _ _).mono ?_;rintro e w1 ⟨rfl,hb⟩;have em:mBK 4 n s= .iface 157 (.int .i64 n):=rfl;rw [em];clear em;obtain⟨hk,hz⟩:=Qh (B:=w.heap.size+1) (X:=(w.alloc (.cells #[.int .i64 4,.int .i64 n,.string s] 83))) (by go_grown) (by go_size) hb;obtain⟨hC,hF,hL,hE⟩:=kp hb;clear hb))
 first
  | (go_region_with (first
   | (go_at_call 252;refine(VM _ _ hR).mono ?_;rintro e w1 ⟨rfl,rfl⟩)))
  | fail
 all_goals go_wp2_with fail
 all_goals
  go_ret;exact⟨rfl,ZF (n:=1) (X:=(w.alloc (.cells #[.int .i64 4,.int .i64 n,.string s] 83))) (by go_grown) (by go_grown)⟩
theorem XO (n:Int) (s:ByteArray) (w:World) (hs:Hid (s.size≤maxLen)) (hR:Qw s=false):Calls Tryz.prog 128 #[.agg #[.int .i64 2,.int .i64 n,.string s]] w fun e w'=>
  e= .returned (mNo)∧Below w.heap.size w w':=by
 go_enter Tryz.func128,Tryz.ntmps128
 go_wp2_with (first
  | (go_at_call 141;refine(Qg _ _ _ _).mono ?_;rintro e w1 ⟨rfl,hb⟩;have em:mBK 2 n s= .iface 117 (.string s):=rfl;rw [em];clear em;obtain⟨hk,hz⟩:=Qh (B:=w.heap.size+1) (X:=(w.alloc (.cells #[.int .i64 2,.int .i64 n,.string s] 83))) (by go_grown) (by go_size) hb;obtain⟨hC,hF,hL,hE⟩:=kp hb;clear hb))
 first
  | (go_region_with (first
   | (go_at_call 241;refine(VL _ _ hs.out hR).mono ?_;rintro e w1 ⟨rfl,rfl⟩)))
  | fail
 all_goals go_wp2_with fail
 all_goals
  go_ret;exact⟨rfl,ZF (n:=1) (X:=(w.alloc (.cells #[.int .i64 2,.int .i64 n,.string s] 83))) (by go_grown) (by go_grown)⟩
theorem Jj (k:Int) (n:Int) (s:ByteArray) (w:World) (HM:Hid (mBK k n s= .iface 154 (.agg #[]))):Calls Tryz.prog 128 #[.agg #[.int .i64 k,.int .i64 n,.string s]] w fun e w'=>
  e= .returned (mNo)∧Below w.heap.size w w':=by
 go_enter Tryz.func128,Tryz.ntmps128
 go_wp2_with (first
  | (go_at_call 141;refine(Qg _ _ _ _).mono ?_;rintro e w1 ⟨rfl,hb⟩;rw [HM.out];obtain⟨hk,hz⟩:=Qh (B:=w.heap.size+1) (X:=(w.alloc (.cells #[.int .i64 k,.int .i64 n,.string s] 83))) (by go_grown) (by go_size) hb;obtain⟨hC,hF,hL,hE⟩:=kp hb;clear hb))
 first
  | (go_region_with (first
   | (go_at_call 244;refine(Xv _).mono ?_;rintro e w1 ⟨rfl,hb⟩;obtain⟨hk,hz⟩:=Qh (B:=w.heap.size+1) (X:=(w.alloc (.cells #[.int .i64 k,.int .i64 n,.string s] 83))) (by go_grown) (by go_size) hb;clear hb)))
  | fail
 all_goals go_wp2_with fail
 all_goals
  go_ret;exact⟨rfl,ZF (n:=1) (X:=(w.alloc (.cells #[.int .i64 k,.int .i64 n,.string s] 83))) (by go_grown) (by go_grown)⟩
def emp (s:ByteArray):Bool:=s.toList.isEmpty
theorem VW {s:ByteArray} (h:emp s=true):s.toList= []:=List.isEmpty_iff.1 h
theorem NJ {s:ByteArray} (h:emp s=false): ¬s.toList= []:=fun e=>by rw [emp,e]at h;cases h
theorem Xr {s:ByteArray} (h:emp s=true):s=⟨#[]⟩:=by
 have e:=VW h;rw [ByteArray.toList_eq]at e;exact ByteArray.ext (Array.toList_eq_nil_iff.1 e)
def okV (k n:Int) (s:ByteArray):Bool:=
 if k=0 then decide (n=0)&&emp s else if k=1 then Zy n&&emp s else if k=2 then decide (n=0)&&Qw s
 else if k=3 then Yn n&&emp s else if k=4 then Xg n&&emp s else false
def mOf (k n:Int) (s:ByteArray):Value:=if okV k n s then mBK k n s else mNo
theorem Qq (k n:Int) (s:ByteArray) (w:World) (hs:s.size≤maxLen):Calls Tryz.prog 128 #[.agg #[.int .i64 k,.int .i64 n,.string s]] w fun e w'=>
  e= .returned (mOf k n s)∧Below w.heap.size w w':=by
 by_cases h0:k=0
 ·subst h0;by_cases hn:n=0
  ·subst hn;cases he:emp s
   ·rw [show mOf 0 0 s=mNo from by simp [mOf,okV,he]];exact JT s w (NJ he)
   ·rw [show mOf 0 0 s=mBK 0 0 s from by simp [mOf,okV,he]];exact JS s w (VW he)
  ·rw [show mOf 0 n s=mNo from by simp [mOf,okV,hn]];exact JU n s w (fun e=>hn e.symm)
 by_cases h1:k=1
 ·subst h1;cases hr:Zy n
  ·rw [show mOf 1 n s=mNo from by simp [mOf,okV,hr]];exact Jh n s w hr
  ·cases he:emp s
   ·rw [show mOf 1 n s=mNo from by simp [mOf,okV,he]];exact Ji n s w hr (NJ he)
   ·rw [show mOf 1 n s=mBK 1 n s from by simp [mOf,okV,he,hr]];exact Jg n s w hr (VW he)
 by_cases h2:k=2
 ·subst h2;cases hr:Qw s
  ·rw [show mOf 2 n s=mNo from by simp [mOf,okV,hr]];exact XO n s w hs hr
  ·by_cases hn:n=0
   ·subst hn;rw [show mOf 2 0 s=mBK 2 0 s from by simp [mOf,okV,hr]];exact XN s w hs hr
   ·rw [show mOf 2 n s=mNo from by simp [mOf,okV,hn]];exact XP n s w hs hr (fun e=>hn e.symm)
 by_cases h3:k=3
 ·subst h3;cases hr:Yn n
  ·rw [show mOf 3 n s=mNo from by simp [mOf,okV,hr]];exact JQ n s w hr
  ·cases he:emp s
   ·rw [show mOf 3 n s=mNo from by simp [mOf,okV,he]];exact JR n s w hr (NJ he)
   ·rw [show mOf 3 n s=mBK 3 n s from by simp [mOf,okV,he,hr]];exact JP n s w hr (VW he)
 by_cases h4:k=4
 ·subst h4;cases hr:Xg n
  ·rw [show mOf 4 n s=mNo from by simp [mOf,okV,hr]];exact XR n s w hr
  ·cases he:emp s
   ·rw [show mOf 4 n s=mNo from by simp [mOf,okV,he]];exact XS n s w hr (NJ he)
   ·rw [show mOf 4 n s=mBK 4 n s from by simp [mOf,okV,he,hr]];exact XQ n s w hr (VW he)
 ·rw [show mOf k n s=mNo from by simp [mOf,okV,h0,h1,h2,h3,h4]];exact Jj k n s w (show mBK k n s=_ by simp [mBK,h0,h1,h2,h3,h4])
theorem Qbr (k n:Int) (s:ByteArray):
  (okV k n s=false∧mOf k n s= .iface 154 (.agg #[]))∨
  (okV k n s=true∧k=0∧n=0∧s=⟨#[]⟩∧mOf k n s= .iface 155 (.agg #[]))∨
  (okV k n s=true∧k=1∧Zy n=true∧s=⟨#[]⟩∧mOf k n s= .iface 137 (.int .i64 n))∨
  (okV k n s=true∧k=2∧n=0∧Qw s=true∧mOf k n s= .iface 117 (.string s))∨
  (okV k n s=true∧k=3∧Yn n=true∧s=⟨#[]⟩∧mOf k n s= .iface 156 (.int .i64 n))∨
  (okV k n s=true∧k=4∧Xg n=true∧s=⟨#[]⟩∧mOf k n s= .iface 157 (.int .i64 n)):=by
 cases ho:okV k n s
 ·exact .inl ⟨rfl,by simp [mOf,ho,mNo]⟩
 ·right
  have hm:mOf k n s=mBK k n s:=by simp [mOf,ho]
  rw [hm];unfold okV at ho;split at ho
  ·rename_i h;subst h;simp only [Bool.and_eq_true,decide_eq_true_eq]at ho;exact .inl ⟨rfl,rfl,ho.1,Xr ho.2,rfl⟩
  split at ho
  ·rename_i h;subst h;simp only [Bool.and_eq_true]at ho;exact .inr (.inl ⟨rfl,rfl,ho.1,Xr ho.2,rfl⟩)
  split at ho
  ·rename_i h;subst h;simp only [Bool.and_eq_true,decide_eq_true_eq]at ho;exact .inr (.inr (.inl ⟨rfl,rfl,ho.1,ho.2,rfl⟩))
  split at ho
  ·rename_i h;subst h;simp only [Bool.and_eq_true]at ho;exact .inr (.inr (.inr (.inl ⟨rfl,rfl,ho.1,Xr ho.2,rfl⟩)))
  split at ho
  ·rename_i h;subst h;simp only [Bool.and_eq_true]at ho;exact .inr (.inr (.inr (.inr ⟨rfl,rfl,ho.1,Xr ho.2,rfl⟩)))
  ·cases ho
theorem Yb (k n:Int) (s:ByteArray) (w:World) (hs:s.size≤maxLen):Calls Tryz.prog 127 #[.agg #[.int .i64 k,.int .i64 n,.string s]] w fun e w'=>
  e= .returned (.bool (okV k n s))∧Below w.heap.size w w':=by
 rcases Qbr k n s with⟨ho,hm⟩ | ⟨ho,rfl,rfl,rfl,hm⟩ | ⟨ho,rfl,hr,rfl,hm⟩ | ⟨ho,rfl,rfl,hr,hm⟩ | ⟨ho,rfl,hr,rfl,hm⟩ | ⟨ho,rfl,hr,rfl,hm⟩
 ·have HM:Hid (mOf k n s= .iface 154 (.agg #[])):=hm;clear hm;go_enter Tryz.func127,Tryz.ntmps127
  go_wp2_with (first
   | (go_at_call 128;refine(Qq _ _ _ _ hs).mono ?_;rintro e w1 ⟨rfl,hb⟩;rw [HM.out];have hk:=Qc (w:=w) (by go_grown) hb;have hz:=hk.size;obtain⟨hC,hF,hL,hE⟩:=kp hb;clear hb)
   | (go_at_call 244;refine(Xv _).mono ?_;rintro e w1 ⟨rfl,hb⟩;have hk:=Qc (w:=w) (by go_grown) hb;clear hb))
  all_goals
   go_ret;exact⟨Qb (by simp [ho]),by go_grown⟩
 ·have HM:Hid (mOf 0 0 ⟨#[]⟩= .iface 155 (.agg #[])):=hm;clear hm;go_enter Tryz.func127,Tryz.ntmps127
  go_wp2_with (first
   | (go_at_call 128;refine(Qq _ _ _ _ hs).mono ?_;rintro e w1 ⟨rfl,hb⟩;rw [HM.out];have hk:=Qc (w:=w) (by go_grown) hb;have hz:=hk.size;obtain⟨hC,hF,hL,hE⟩:=kp hb;clear hb)
   | (go_at_call 247;refine(Yv _).mono ?_;rintro e w1 ⟨rfl,hb⟩;have hk:=Qc (w:=w) (by go_grown) hb;clear hb))
  all_goals
   go_ret;exact⟨Qb (by simp [ho]),by go_grown⟩
 ·have HM:Hid (mOf 1 n ⟨#[]⟩= .iface 137 (.int .i64 n)):=hm;clear hm;go_enter Tryz.func127,Tryz.ntmps127
  go_wp2_with (first
   | (go_at_call 128;refine(Qq _ _ _ _ hs).mono ?_;rintro e w1 ⟨rfl,hb⟩;rw [HM.out];have hk:=Qc (w:=w) (by go_grown) hb;have hz:=hk.size;obtain⟨hC,hF,hL,hE⟩:=kp hb;clear hb)
   | (go_at_call 242;refine(Zq _ _).mono ?_;rintro e w1 ⟨rfl,rfl⟩))
  all_goals
   go_ret;exact⟨Qb (by simp [ho]),by go_grown⟩
 ·have HM:Hid (mOf 2 0 s= .iface 117 (.string s)):=hm;clear hm;go_enter Tryz.func127,Tryz.ntmps127
  go_wp2_with (first
   | (go_at_call 128;refine(Qq _ _ _ _ hs).mono ?_;rintro e w1 ⟨rfl,hb⟩;rw [HM.out];have hk:=Qc (w:=w) (by go_grown) hb;have hz:=hk.size;obtain⟨hC,hF,hL,hE⟩:=kp hb;clear hb)
   | (go_at_call 241;refine(Zh _ _ hs).mono ?_;rintro e w1 ⟨rfl,rfl⟩))
  all_goals
   go_ret;exact⟨Qb (by simp [ho]),by go_grown⟩
 ·have HM:Hid (mOf 3 n ⟨#[]⟩= .iface 156 (.int .i64 n)):=hm;clear hm;go_enter Tryz.func127,Tryz.ntmps127
  go_wp2_with (first
   | (go_at_call 128;refine(Qq _ _ _ _ hs).mono ?_;rintro e w1 ⟨rfl,hb⟩;rw [HM.out];have hk:=Qc (w:=w) (by go_grown) hb;have hz:=hk.size;obtain⟨hC,hF,hL,hE⟩:=kp hb;clear hb)
   | (go_at_call 250;refine(ZJ _ _).mono ?_;rintro e w1 ⟨rfl,rfl⟩))
  all_goals
   go_ret;exact⟨Qb (by simp [ho]),by go_grown⟩
 ·have HM:Hid (mOf 4 n ⟨#[]⟩= .iface 157 (.int .i64 n)):=hm;clear hm;go_enter Tryz.func127,Tryz.ntmps127
  go_wp2_with (first
   | (go_at_call 128;refine(Qq _ _ _ _ hs).mono ?_;rintro e w1 ⟨rfl,hb⟩;rw [HM.out];have hk:=Qc (w:=w) (by go_grown) hb;have hz:=hk.size;obtain⟨hC,hF,hL,hE⟩:=kp hb;clear hb)
   | (go_at_call 252;refine(Zi _ _).mono ?_;rintro e w1 ⟨rfl,rfl⟩))
  all_goals
   go_ret;exact⟨Qb (by simp [ho]),by go_grown⟩
theorem QJ (n l h:Int) (w:World):Calls Tryz.prog 57 #[.int .i64 n,.int .i64 l,.int .i64 h] w fun e w'=>
  e= .returned (.bool (decide (l≤n∧n≤h)))∧w'=w:=by
 go_enter Tryz.func57,Tryz.ntmps57;go_wp2
 all_goals
  go_ret;refine⟨Qb ?_,rfl⟩;rw [Bool.eq_iff_iff];simp;try omega
theorem QT (s:ByteArray) (w:World) (hs:s.size≤maxLen):Calls Tryz.prog 51 #[.string s] w fun e w'=>
  e= .returned (.bool (Qw s))∧w'=w:=by
 unfold maxLen at hs;go_enter Tryz.func51,Tryz.ntmps51;go_wp2_with fail
 go_loop [3] (fun v=> ∃k:Nat,k≤s.size∧v= .int .i64 k∧Zr (s.data.toList.take k)=true) (fun v=>s.size-(intOf v).toNat)
 case atStart=>exact⟨0,by omega,rfl,rfl⟩
 case round=>
  obtain⟨k,hk,rfl,hr⟩:=hrel;have HR:Hid (Zr (s.data.toList.take k)=true):=hr;clear hr;by_cases hlt:k<s.size
  ·have HT:Hid (Zr (s.data.toList.take (k+1))=(Zr (s.data.toList.take k)&&decide (32≤s[k].toNat∧s[k].toNat≤126))):=Gg s k hlt;by_cases hb:32≤s[k].toNat∧s[k].toNat≤126
   ·have hb1: ¬((s[k].toNat:Int)<32):=by omega
    have hb2: ¬(126<(s[k].toNat:Int)):=by omega
    go_wp2
    all_goals
     go_round
     case rel=>exact⟨k+1,by omega,by go_num,by rw [HT.out,HR.out];simp;omega⟩
     case measure=>simp [intOf];omega
   ·have HF:Hid (Qw s=false):=by show Qw s=false;unfold Qw;rw [Dd s k hlt hb];simp
    by_cases hb1:(s[k].toNat:Int)<32
    ·go_wp2
     go_ret;exact⟨Qb HF.out.symm,rfl⟩
    ·have hb2:126<(s[k].toNat:Int):=by omega
     go_wp2
     go_ret;exact⟨Qb HF.out.symm,rfl⟩
  ·have HA:=HR.out;rw [List.take_of_length_le (by simp;omega)]at HA;have HF:Hid (Qw s=decide (s.size≤200)):=by show Qw s=_;unfold Qw;rw [HA];simp
   clear HA;go_wp2
   go_ret;exact⟨Qb (by rw [HF.out];rw [Bool.eq_iff_iff];simp;try omega),rfl⟩
theorem Qi (k n:Int) (s:ByteArray) (w:World) (hs:s.size≤maxLen):Calls Tryz.prog 73 #[.agg #[.int .i64 k,.int .i64 n,.string s]] w fun e w'=>
  e= .returned (.bool (okV k n s))∧Below w.heap.size w w':=by
 by_cases h0:k=0
 ·subst h0;go_enter Tryz.func73,Tryz.ntmps73
  go_wp2_with (first
   | (go_at_call 57;refine(QJ _ _ _ _).mono ?_;rintro e w1 ⟨rfl,rfl⟩)
   | (go_at_call 51;refine(QT _ _ hs).mono ?_;rintro e w1 ⟨rfl,rfl⟩))
  all_goals
   go_ret;refine⟨Qb ?_,by go_grown⟩;rw [Bool.eq_iff_iff];simp_all [okV,emp]
   try omega
 by_cases h1:k=1
 ·subst h1;go_enter Tryz.func73,Tryz.ntmps73
  go_wp2_with (first
   | (go_at_call 57;refine(QJ _ _ _ _).mono ?_;rintro e w1 ⟨rfl,rfl⟩)
   | (go_at_call 51;refine(QT _ _ hs).mono ?_;rintro e w1 ⟨rfl,rfl⟩))
  all_goals
   go_ret;refine⟨Qb ?_,by go_grown⟩;rw [Bool.eq_iff_iff];simp_all [okV,emp,Zy]
   try omega
 by_cases h2:k=2
 ·subst h2;go_enter Tryz.func73,Tryz.ntmps73
  go_wp2_with (first
   | (go_at_call 57;refine(QJ _ _ _ _).mono ?_;rintro e w1 ⟨rfl,rfl⟩)
   | (go_at_call 51;refine(QT _ _ hs).mono ?_;rintro e w1 ⟨rfl,rfl⟩))
  all_goals
   go_ret;refine⟨Qb ?_,by go_grown⟩;rw [Bool.eq_iff_iff];simp_all [okV]
   try omega
 by_cases h3:k=3
 ·subst h3;go_enter Tryz.func73,Tryz.ntmps73
  go_wp2_with (first
   | (go_at_call 57;refine(QJ _ _ _ _).mono ?_;rintro e w1 ⟨rfl,rfl⟩)
   | (go_at_call 51;refine(QT _ _ hs).mono ?_;rintro e w1 ⟨rfl,rfl⟩))
  all_goals
   go_ret;refine⟨Qb ?_,by go_grown⟩;rw [Bool.eq_iff_iff];simp_all [okV,emp,Yn]
   try omega
 by_cases h4:k=4
 ·subst h4;go_enter Tryz.func73,Tryz.ntmps73
  go_wp2_with (first
   | (go_at_call 57;refine(QJ _ _ _ _).mono ?_;rintro e w1 ⟨rfl,rfl⟩)
   | (go_at_call 51;refine(QT _ _ hs).mono ?_;rintro e w1 ⟨rfl,rfl⟩))
  all_goals
   go_ret;refine⟨Qb ?_,by go_grown⟩;rw [Bool.eq_iff_iff];simp_all [okV,emp,Xg]
   try omega
 ·have e0:(k==0)=false:=by simpa using h0
  have e1:(k==1)=false:=by simpa using h1
  have e2:(k==2)=false:=by simpa using h2
  have e3:(k==3)=false:=by simpa using h3
  have e4:(k==4)=false:=by simpa using h4
  go_enter Tryz.func73,Tryz.ntmps73
  go_wp2_with (first
   | (go_at_call 57;refine(QJ _ _ _ _).mono ?_;rintro e w1 ⟨rfl,rfl⟩)
   | (go_at_call 51;refine(QT _ _ hs).mono ?_;rintro e w1 ⟨rfl,rfl⟩))
  all_goals
   go_ret;refine⟨Qb ?_,by go_grown⟩;rw [Bool.eq_iff_iff];simp_all [okV]
   try omega
theorem My (n:Int) (w:World):Calls Tryz.prog 117 #[.int .i64 n] w fun e w'=>
  e= .returned (.agg #[.int .i64 4,.int .i64 n,.string ⟨#[]⟩])∧Below w.heap.size w w':=by
 go_enter Tryz.func117,Tryz.ntmps117;go_wp2
 go_returns
 exact⟨rfl,by go_grown⟩
def szv (l:Int) (m:Nat):Int:=if l-m<0 then-1 else l-m
def sgn (a b:Int):Int:=if a<b then-1 else if b<a then 1 else 0
theorem Qiz (a b:Int) (w:World):Calls Tryz.prog 78 #[.int .i64 a,.int .i64 b] w fun e w'=>
  e= .returned (.int .i64 (sgn a b))∧w'=w:=by
 go_enter Tryz.func78,Tryz.ntmps78;go_wp2
 all_goals
  go_ret;refine⟨Qz ?_,rfl⟩;unfold sgn
  (repeat split)<;>omega
theorem Qjz {a b:Int} (h: ¬a=b):sgn a b=(if decide (a<b)then-1 else if true then 1 else 0)∧ ¬sgn a b=0:=by
 unfold sgn;by_cases h1:a<b
 ·simp [h1]
 ·have h2:b<a:=by omega
  simp [h1,h2]
theorem Oy (a:Int):sgn a a=0:=by unfold sgn;simp
end Go.Proofs.YtekcnhfkmimodaaGreatDoor
