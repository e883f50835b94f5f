import Derived.Test.YtkkbgjeilomnmaaGreatDoorGac
import Derived.RegionTactic
set_option linter.unusedSimpArgs false
set_option linter.unusedVariables false
set_option maxHeartbeats 1000000
namespace Go.Proofs.YtkkbgjeilomnmaaGreatDoor
open Go.RowKit
def emp (s:ByteArray):Bool:=s.toList.isEmpty
theorem VT {s:ByteArray} (h:emp s=true):s.toList= []:=List.isEmpty_iff.1 h
theorem NC {s:ByteArray} (h:emp s=false): ¬s.toList= []:=fun e=>by rw [emp,e]at h;cases h
theorem Xi {s:ByteArray} (h:emp s=true):s=⟨#[]⟩:=by
 have e:=VT h;rw [ByteArray.toList_eq]at e;exact ByteArray.ext (Array.toList_eq_nil_iff.1 e)
def okV (k n:Int) (s:ByteArray):Bool:=
 if k=0 then decide (n=0)&&emp s else if k=1 then Zt n&&emp s else if k=2 then decide (n=0)&&Qw s
 else if k=3 then Ye n&&emp s else if k=4 then YV n&&emp s else false
def mOf (k n:Int) (s:ByteArray):Value:=if okV k n s then mBK k n s else mNo
theorem Qp (k n:Int) (s:ByteArray) (w:World) (hs:s.size≤maxLen):Calls Tryz.prog 183 #[.agg #[.int .i64 k,.int .i64 n,.string s]] w fun e w'=>
  e= .returned (mOf k n s)∧Below w.heap.size w w':=by
 by_cases h0:k=0
 ·subst h0;by_cases hn:n=0
  ·subst hn;cases he:emp s
   ·rw [show mOf 0 0 s=mNo from by simp [mOf,okV,he]];exact JN s w (NC he)
   ·rw [show mOf 0 0 s=mBK 0 0 s from by simp [mOf,okV,he]];exact JM s w (VT he)
  ·rw [show mOf 0 n s=mNo from by simp [mOf,okV,hn]];exact JO n s w (fun e=>hn e.symm)
 by_cases h1:k=1
 ·subst h1;cases hr:Zt n
  ·rw [show mOf 1 n s=mNo from by simp [mOf,okV,hr]];exact Jb n s w hr
  ·cases he:emp s
   ·rw [show mOf 1 n s=mNo from by simp [mOf,okV,he]];exact Jc n s w hr (NC he)
   ·rw [show mOf 1 n s=mBK 1 n s from by simp [mOf,okV,he,hr]];exact Ja n s w hr (VT he)
 by_cases h2:k=2
 ·subst h2;cases hr:Qw s
  ·rw [show mOf 2 n s=mNo from by simp [mOf,okV,hr]];exact XH n s w hs hr
  ·by_cases hn:n=0
   ·subst hn;rw [show mOf 2 0 s=mBK 2 0 s from by simp [mOf,okV,hr]];exact XG s w hs hr
   ·rw [show mOf 2 n s=mNo from by simp [mOf,okV,hn]];exact XI n s w hs hr (fun e=>hn e.symm)
 by_cases h3:k=3
 ·subst h3;cases hr:Ye n
  ·rw [show mOf 3 n s=mNo from by simp [mOf,okV,hr]];exact JK n s w hr
  ·cases he:emp s
   ·rw [show mOf 3 n s=mNo from by simp [mOf,okV,he]];exact JL n s w hr (NC he)
   ·rw [show mOf 3 n s=mBK 3 n s from by simp [mOf,okV,he,hr]];exact JJ n s w hr (VT he)
 by_cases h4:k=4
 ·subst h4;cases hr:YV n
  ·rw [show mOf 4 n s=mNo from by simp [mOf,okV,hr]];exact XK n s w hr
  ·cases he:emp s
   ·rw [show mOf 4 n s=mNo from by simp [mOf,okV,he]];exact XL n s w hr (NC he)
   ·rw [show mOf 4 n s=mBK 4 n s from by simp [mOf,okV,he,hr]];exact XJ n s w hr (VT he)
 ·rw [show mOf k n s=mNo from by simp [mOf,okV,h0,h1,h2,h3,h4]];exact Jd k n s w (show mBK k n s=_ by simp [mBK,h0,h1,h2,h3,h4])
theorem Qau (k n:Int) (s:ByteArray):
  (okV k n s=false∧mOf k n s= .iface 228 (.agg #[]))∨
  (okV k n s=true∧k=0∧n=0∧s=⟨#[]⟩∧mOf k n s= .iface 229 (.agg #[]))∨
  (okV k n s=true∧k=1∧Zt n=true∧s=⟨#[]⟩∧mOf k n s= .iface 212 (.int .i64 n))∨
  (okV k n s=true∧k=2∧n=0∧Qw s=true∧mOf k n s= .iface 202 (.string s))∨
  (okV k n s=true∧k=3∧Ye n=true∧s=⟨#[]⟩∧mOf k n s= .iface 230 (.int .i64 n))∨
  (okV k n s=true∧k=4∧YV n=true∧s=⟨#[]⟩∧mOf k n s= .iface 231 (.int .i64 n)):=by
 cases ho:okV k n s
 ·exact .inl ⟨rfl,by simp [mOf,ho,mNo]⟩
 ·right
  have hm:mOf k n s=mBK k n s:=by simp [mOf,ho]
  rw [hm];unfold okV at ho;split at ho
  ·rename_i h;subst h;simp only [Bool.and_eq_true,decide_eq_true_eq]at ho;exact .inl ⟨rfl,rfl,ho.1,Xi ho.2,rfl⟩
  split at ho
  ·rename_i h;subst h;simp only [Bool.and_eq_true]at ho;exact .inr (.inl ⟨rfl,rfl,ho.1,Xi ho.2,rfl⟩)
  split at ho
  ·rename_i h;subst h;simp only [Bool.and_eq_true,decide_eq_true_eq]at ho;exact .inr (.inr (.inl ⟨rfl,rfl,ho.1,ho.2,rfl⟩))
  split at ho
  ·rename_i h;subst h;simp only [Bool.and_eq_true]at ho;exact .inr (.inr (.inr (.inl ⟨rfl,rfl,ho.1,Xi ho.2,rfl⟩)))
  split at ho
  ·rename_i h;subst h;simp only [Bool.and_eq_true]at ho;exact .inr (.inr (.inr (.inr ⟨rfl,rfl,ho.1,Xi ho.2,rfl⟩)))
  ·cases ho
theorem ZP (k n:Int) (s:ByteArray) (w:World) (hs:s.size≤maxLen):Calls Tryz.prog 182 #[.agg #[.int .i64 k,.int .i64 n,.string s]] w fun e w'=>
  e= .returned (.bool (okV k n s))∧Below w.heap.size w w':=by
 rcases Qau k n s with⟨ho,hm⟩ | ⟨ho,rfl,rfl,rfl,hm⟩ | ⟨ho,rfl,hr,rfl,hm⟩ | ⟨ho,rfl,rfl,hr,hm⟩ | ⟨ho,rfl,hr,rfl,hm⟩ | ⟨ho,rfl,hr,rfl,hm⟩
 ·have HM:Hid (mOf k n s= .iface 228 (.agg #[])):=hm;clear hm;go_enter Tryz.func182,Tryz.ntmps182
  go_wp2_with (first
   | (go_at_call 183;refine(Qp _ _ _ _ hs).mono ?_;rintro e w1 ⟨rfl,hb⟩;rw [HM.out];have hk:=Qb (w:=w) (by go_grown) hb;have hz:=hk.size;obtain⟨hC,hF,hL,hE⟩:=kp hb;clear hb)
   | (go_at_call 329;refine(Xm _).mono ?_;rintro e w1 ⟨rfl,hb⟩;have hk:=Qb (w:=w) (by go_grown) hb;clear hb))
  all_goals
   go_ret;exact⟨Qa (by simp [ho]),by go_grown⟩
 ·have HM:Hid (mOf 0 0 ⟨#[]⟩= .iface 229 (.agg #[])):=hm;clear hm;go_enter Tryz.func182,Tryz.ntmps182
  go_wp2_with (first
   | (go_at_call 183;refine(Qp _ _ _ _ hs).mono ?_;rintro e w1 ⟨rfl,hb⟩;rw [HM.out];have hk:=Qb (w:=w) (by go_grown) hb;have hz:=hk.size;obtain⟨hC,hF,hL,hE⟩:=kp hb;clear hb)
   | (go_at_call 332;refine(Yl _).mono ?_;rintro e w1 ⟨rfl,hb⟩;have hk:=Qb (w:=w) (by go_grown) hb;clear hb))
  all_goals
   go_ret;exact⟨Qa (by simp [ho]),by go_grown⟩
 ·have HM:Hid (mOf 1 n ⟨#[]⟩= .iface 212 (.int .i64 n)):=hm;clear hm;go_enter Tryz.func182,Tryz.ntmps182
  go_wp2_with (first
   | (go_at_call 183;refine(Qp _ _ _ _ hs).mono ?_;rintro e w1 ⟨rfl,hb⟩;rw [HM.out];have hk:=Qb (w:=w) (by go_grown) hb;have hz:=hk.size;obtain⟨hC,hF,hL,hE⟩:=kp hb;clear hb)
   | (go_at_call 327;refine(Zm _ _).mono ?_;rintro e w1 ⟨rfl,rfl⟩))
  all_goals
   go_ret;exact⟨Qa (by simp [ho]),by go_grown⟩
 ·have HM:Hid (mOf 2 0 s= .iface 202 (.string s)):=hm;clear hm;go_enter Tryz.func182,Tryz.ntmps182
  go_wp2_with (first
   | (go_at_call 183;refine(Qp _ _ _ _ hs).mono ?_;rintro e w1 ⟨rfl,hb⟩;rw [HM.out];have hk:=Qb (w:=w) (by go_grown) hb;have hz:=hk.size;obtain⟨hC,hF,hL,hE⟩:=kp hb;clear hb)
   | (go_at_call 326;refine(Zg _ _ hs).mono ?_;rintro e w1 ⟨rfl,rfl⟩))
  all_goals
   go_ret;exact⟨Qa (by simp [ho]),by go_grown⟩
 ·have HM:Hid (mOf 3 n ⟨#[]⟩= .iface 230 (.int .i64 n)):=hm;clear hm;go_enter Tryz.func182,Tryz.ntmps182
  go_wp2_with (first
   | (go_at_call 183;refine(Qp _ _ _ _ hs).mono ?_;rintro e w1 ⟨rfl,hb⟩;rw [HM.out];have hk:=Qb (w:=w) (by go_grown) hb;have hz:=hk.size;obtain⟨hC,hF,hL,hE⟩:=kp hb;clear hb)
   | (go_at_call 335;refine(ZE _ _).mono ?_;rintro e w1 ⟨rfl,rfl⟩))
  all_goals
   go_ret;exact⟨Qa (by simp [ho]),by go_grown⟩
 ·have HM:Hid (mOf 4 n ⟨#[]⟩= .iface 231 (.int .i64 n)):=hm;clear hm;go_enter Tryz.func182,Tryz.ntmps182
  go_wp2_with (first
   | (go_at_call 183;refine(Qp _ _ _ _ hs).mono ?_;rintro e w1 ⟨rfl,hb⟩;rw [HM.out];have hk:=Qb (w:=w) (by go_grown) hb;have hz:=hk.size;obtain⟨hC,hF,hL,hE⟩:=kp hb;clear hb)
   | (go_at_call 337;refine(Zh _ _).mono ?_;rintro e w1 ⟨rfl,rfl⟩))
  all_goals
   go_ret;exact⟨Qa (by simp [ho]),by go_grown⟩
theorem QY (n l h:Int) (w:World):Calls Tryz.prog 49 #[.int .i64 n,.int .i64 l,.int .i64 h] w fun e w'=>
  e= .returned (.bool (decide (l≤n∧n≤h)))∧w'=w:=by
 go_enter Tryz.func49,Tryz.ntmps49;go_wp2
 all_goals
  go_ret;refine⟨Qa ?_,rfl⟩;rw [Bool.eq_iff_iff];simp;try omega
theorem QN (s:ByteArray) (w:World) (hs:s.size≤maxLen):Calls Tryz.prog 81 #[.string s] w fun e w'=>
  e= .returned (.bool (Qw s))∧w'=w:=by
 unfold maxLen at hs;go_enter Tryz.func81,Tryz.ntmps81;go_wp2_with fail
 go_loop [3] (fun v=> ∃k:Nat,k≤s.size∧v= .int .i64 k∧Zn (s.data.toList.take k)=true) (fun v=>s.size-(intOf v).toNat)
 case atStart=>exact⟨0,by omega,rfl,rfl⟩
 case round=>
  obtain⟨k,hk,rfl,hr⟩:=hrel;have HR:Hid (Zn (s.data.toList.take k)=true):=hr;clear hr;by_cases hlt:k<s.size
  ·have HT:Hid (Zn (s.data.toList.take (k+1))=(Zn (s.data.toList.take k)&&decide (32≤s[k].toNat∧s[k].toNat≤126))):=Hz s k hlt;by_cases hb:32≤s[k].toNat∧s[k].toNat≤126
   ·have hb1: ¬((s[k].toNat:Int)<32):=by omega
    have hb2: ¬(126<(s[k].toNat:Int)):=by omega
    go_wp2
    all_goals
     go_round
     case rel=>exact⟨k+1,by omega,by go_num,by rw [HT.out,HR.out];simp;omega⟩
     case measure=>simp [intOf];omega
   ·have HF:Hid (Qw s=false):=by show Qw s=false;unfold Qw;rw [OJ s k hlt hb];simp
    by_cases hb1:(s[k].toNat:Int)<32
    ·go_wp2
     go_ret;exact⟨Qa HF.out.symm,rfl⟩
    ·have hb2:126<(s[k].toNat:Int):=by omega
     go_wp2
     go_ret;exact⟨Qa HF.out.symm,rfl⟩
  ·have HA:=HR.out;rw [List.take_of_length_le (by simp;omega)]at HA;have HF:Hid (Qw s=decide (s.size≤200)):=by show Qw s=_;unfold Qw;rw [HA];simp
   clear HA;go_wp2
   go_ret;exact⟨Qa (by rw [HF.out];rw [Bool.eq_iff_iff];simp;try omega),rfl⟩
theorem Qg (k n:Int) (s:ByteArray) (w:World) (hs:s.size≤maxLen):Calls Tryz.prog 111 #[.agg #[.int .i64 k,.int .i64 n,.string s]] w fun e w'=>
  e= .returned (.bool (okV k n s))∧Below w.heap.size w w':=by
 by_cases h0:k=0
 ·subst h0;go_enter Tryz.func111,Tryz.ntmps111
  go_wp2_with (first
   | (go_at_call 49;refine(QY _ _ _ _).mono ?_;rintro e w1 ⟨rfl,rfl⟩)
   | (go_at_call 81;refine(QN _ _ hs).mono ?_;rintro e w1 ⟨rfl,rfl⟩))
  all_goals
   go_ret;refine⟨Qa ?_,by go_grown⟩;rw [Bool.eq_iff_iff];simp_all [okV,emp]
   try omega
 by_cases h1:k=1
 ·subst h1;go_enter Tryz.func111,Tryz.ntmps111
  go_wp2_with (first
   | (go_at_call 49;refine(QY _ _ _ _).mono ?_;rintro e w1 ⟨rfl,rfl⟩)
   | (go_at_call 81;refine(QN _ _ hs).mono ?_;rintro e w1 ⟨rfl,rfl⟩))
  all_goals
   go_ret;refine⟨Qa ?_,by go_grown⟩;rw [Bool.eq_iff_iff];simp_all [okV,emp,Zt]
   try omega
 by_cases h2:k=2
 ·subst h2;go_enter Tryz.func111,Tryz.ntmps111
  go_wp2_with (first
   | (go_at_call 49;refine(QY _ _ _ _).mono ?_;rintro e w1 ⟨rfl,rfl⟩)
   | (go_at_call 81;refine(QN _ _ hs).mono ?_;rintro e w1 ⟨rfl,rfl⟩))
  all_goals
   go_ret;refine⟨Qa ?_,by go_grown⟩;rw [Bool.eq_iff_iff];simp_all [okV]
   try omega
 by_cases h3:k=3
 ·subst h3;go_enter Tryz.func111,Tryz.ntmps111
  go_wp2_with (first
   | (go_at_call 49;refine(QY _ _ _ _).mono ?_;rintro e w1 ⟨rfl,rfl⟩)
   | (go_at_call 81;refine(QN _ _ hs).mono ?_;rintro e w1 ⟨rfl,rfl⟩))
  all_goals
   go_ret;refine⟨Qa ?_,by go_grown⟩;rw [Bool.eq_iff_iff];simp_all [okV,emp,Ye]
   try omega
 by_cases h4:k=4
 ·subst h4;go_enter Tryz.func111,Tryz.ntmps111
  go_wp2_with (first
   | (go_at_call 49;refine(QY _ _ _ _).mono ?_;rintro e w1 ⟨rfl,rfl⟩)
   | (go_at_call 81;refine(QN _ _ hs).mono ?_;rintro e w1 ⟨rfl,rfl⟩))
  all_goals
   go_ret;refine⟨Qa ?_,by go_grown⟩;rw [Bool.eq_iff_iff];simp_all [okV,emp,YV]
   try omega
 ·have e0:(k==0)=false:=by simpa using h0
  have e1:(k==1)=false:=by simpa using h1
  have e2:(k==2)=false:=by simpa using h2
  have e3:(k==3)=false:=by simpa using h3
  have e4:(k==4)=false:=by simpa using h4
  go_enter Tryz.func111,Tryz.ntmps111
  go_wp2_with (first
   | (go_at_call 49;refine(QY _ _ _ _).mono ?_;rintro e w1 ⟨rfl,rfl⟩)
   | (go_at_call 81;refine(QN _ _ hs).mono ?_;rintro e w1 ⟨rfl,rfl⟩))
  all_goals
   go_ret;refine⟨Qa ?_,by go_grown⟩;rw [Bool.eq_iff_iff];simp_all [okV]
   try omega
theorem Ms (n:Int) (w:World):Calls Tryz.prog 158 #[.int .i64 n] w fun e w'=>
  e= .returned (.agg #[.int .i64 4,.int .i64 n,.string ⟨#[]⟩])∧Below w.heap.size w w':=by
 go_enter Tryz.func158,Tryz.ntmps158;go_wp2
 go_returns
 exact⟨rfl,by go_grown⟩
def szv (l:Int) (m:Nat):Int:=if l-m<0 then-1 else l-m
end Go.Proofs.YtkkbgjeilomnmaaGreatDoor
