import Derived.Test.YtdcokcbolecanaaGreatDoorGac
import Derived.RegionTactic
set_option linter.unusedSimpArgs false
set_option linter.unusedVariables false
set_option maxHeartbeats 1000000
namespace Go.Proofs.YtdcokcbolecanaaGreatDoor
open Go.RowKit
def emp (s:ByteArray):Bool:=s.toList.isEmpty
theorem VX {s:ByteArray} (h:emp s=true):s.toList= []:=List.isEmpty_iff.1 h
theorem NL {s:ByteArray} (h:emp s=false): ¬s.toList= []:=fun e=>by rw [emp,e]at h;cases h
theorem Xm {s:ByteArray} (h:emp s=true):s=⟨#[]⟩:=by
 have e:=VX h;rw [ByteArray.toList_eq]at e;exact ByteArray.ext (Array.toList_eq_nil_iff.1 e)
def okV (k n:Int) (s:ByteArray):Bool:=
 if k=0 then decide (n=0)&&emp s else if k=1 then Zv n&&emp s else if k=2 then decide (n=0)&&Qx s
 else if k=3 then Yg n&&emp s else if k=4 then YX n&&emp s else false
def mOf (k n:Int) (s:ByteArray):Value:=if okV k n s then mBK k n s else mNo
theorem Qp (k n:Int) (s:ByteArray) (w:World) (hs:s.size≤maxLen):Calls Tryz.prog 140 #[.agg #[.int .i64 k,.int .i64 n,.string s]] w fun e w'=>
  e= .returned (mOf k n s)∧Below w.heap.size w w':=by
 by_cases h0:k=0
 ·subst h0;by_cases hn:n=0
  ·subst hn;cases he:emp s
   ·rw [show mOf 0 0 s=mNo from by simp [mOf,okV,he]];exact JP s w (NL he)
   ·rw [show mOf 0 0 s=mBK 0 0 s from by simp [mOf,okV,he]];exact JO s w (VX he)
  ·rw [show mOf 0 n s=mNo from by simp [mOf,okV,hn]];exact JQ n s w (fun e=>hn e.symm)
 by_cases h1:k=1
 ·subst h1;cases hr:Zv n
  ·rw [show mOf 1 n s=mNo from by simp [mOf,okV,hr]];exact Jg n s w hr
  ·cases he:emp s
   ·rw [show mOf 1 n s=mNo from by simp [mOf,okV,he]];exact Jh n s w hr (NL he)
   ·rw [show mOf 1 n s=mBK 1 n s from by simp [mOf,okV,he,hr]];exact Jf n s w hr (VX he)
 by_cases h2:k=2
 ·subst h2;cases hr:Qx s
  ·rw [show mOf 2 n s=mNo from by simp [mOf,okV,hr]];exact XM n s w hs hr
  ·by_cases hn:n=0
   ·subst hn;rw [show mOf 2 0 s=mBK 2 0 s from by simp [mOf,okV,hr]];exact XL s w hs hr
   ·rw [show mOf 2 n s=mNo from by simp [mOf,okV,hn]];exact XN n s w hs hr (fun e=>hn e.symm)
 by_cases h3:k=3
 ·subst h3;cases hr:Yg n
  ·rw [show mOf 3 n s=mNo from by simp [mOf,okV,hr]];exact JM n s w hr
  ·cases he:emp s
   ·rw [show mOf 3 n s=mNo from by simp [mOf,okV,he]];exact JN n s w hr (NL he)
   ·rw [show mOf 3 n s=mBK 3 n s from by simp [mOf,okV,he,hr]];exact JL n s w hr (VX he)
 by_cases h4:k=4
 ·subst h4;cases hr:YX n
  ·rw [show mOf 4 n s=mNo from by simp [mOf,okV,hr]];exact XP n s w hr
  ·cases he:emp s
   ·rw [show mOf 4 n s=mNo from by simp [mOf,okV,he]];exact XQ n s w hr (NL he)
   ·rw [show mOf 4 n s=mBK 4 n s from by simp [mOf,okV,he,hr]];exact XO n s w hr (VX he)
 ·rw [show mOf k n s=mNo from by simp [mOf,okV,h0,h1,h2,h3,h4]];exact Ji k n s w (show mBK k n s=_ by simp [mBK,h0,h1,h2,h3,h4])
theorem Qa8 (k n:Int) (s:ByteArray):
  (okV k n s=false∧mOf k n s= .iface 190 (.agg #[]))∨
  (okV k n s=true∧k=0∧n=0∧s=⟨#[]⟩∧mOf k n s= .iface 191 (.agg #[]))∨
  (okV k n s=true∧k=1∧Zv n=true∧s=⟨#[]⟩∧mOf k n s= .iface 179 (.int .i64 n))∨
  (okV k n s=true∧k=2∧n=0∧Qx s=true∧mOf k n s= .iface 173 (.string s))∨
  (okV k n s=true∧k=3∧Yg n=true∧s=⟨#[]⟩∧mOf k n s= .iface 192 (.int .i64 n))∨
  (okV k n s=true∧k=4∧YX n=true∧s=⟨#[]⟩∧mOf k n s= .iface 193 (.int .i64 n)):=by
 cases ho:okV k n s
 ·exact .inl ⟨rfl,by simp [mOf,ho,mNo]⟩
 ·right
  have hm:mOf k n s=mBK k n s:=by simp [mOf,ho]
  rw [hm];unfold okV at ho;split at ho
  ·rename_i h;subst h;simp only [Bool.and_eq_true,decide_eq_true_eq]at ho;exact .inl ⟨rfl,rfl,ho.1,Xm ho.2,rfl⟩
  split at ho
  ·rename_i h;subst h;simp only [Bool.and_eq_true]at ho;exact .inr (.inl ⟨rfl,rfl,ho.1,Xm ho.2,rfl⟩)
  split at ho
  ·rename_i h;subst h;simp only [Bool.and_eq_true,decide_eq_true_eq]at ho;exact .inr (.inr (.inl ⟨rfl,rfl,ho.1,ho.2,rfl⟩))
  split at ho
  ·rename_i h;subst h;simp only [Bool.and_eq_true]at ho;exact .inr (.inr (.inr (.inl ⟨rfl,rfl,ho.1,Xm ho.2,rfl⟩)))
  split at ho
  ·rename_i h;subst h;simp only [Bool.and_eq_true]at ho;exact .inr (.inr (.inr (.inr ⟨rfl,rfl,ho.1,Xm ho.2,rfl⟩)))
  ·cases ho
theorem ZP (k n:Int) (s:ByteArray) (w:World) (hs:s.size≤maxLen):Calls Tryz.prog 139 #[.agg #[.int .i64 k,.int .i64 n,.string s]] w fun e w'=>
  e= .returned (.bool (okV k n s))∧Below w.heap.size w w':=by
 rcases Qa8 k n s with⟨ho,hm⟩ | ⟨ho,rfl,rfl,rfl,hm⟩ | ⟨ho,rfl,hr,rfl,hm⟩ | ⟨ho,rfl,rfl,hr,hm⟩ | ⟨ho,rfl,hr,rfl,hm⟩ | ⟨ho,rfl,hr,rfl,hm⟩
 ·have HM:Hid (mOf k n s= .iface 190 (.agg #[])):=hm;clear hm;go_enter Tryz.func139,Tryz.ntmps139
  go_wp2_with (first
   | (go_at_call 140;refine(Qp _ _ _ _ hs).mono ?_;rintro e w1 ⟨rfl,hb⟩;rw [HM.out];have hk:=Qb (w:=w) (by go_grown) hb;have hz:=hk.size;obtain⟨hC,hF,hL,hE⟩:=kp hb;clear hb)
   | (go_at_call 251;refine(Xq _).mono ?_;rintro e w1 ⟨rfl,hb⟩;have hk:=Qb (w:=w) (by go_grown) hb;clear hb))
  all_goals
   go_ret;exact⟨Qa (by simp [ho]),by go_grown⟩
 ·have HM:Hid (mOf 0 0 ⟨#[]⟩= .iface 191 (.agg #[])):=hm;clear hm;go_enter Tryz.func139,Tryz.ntmps139
  go_wp2_with (first
   | (go_at_call 140;refine(Qp _ _ _ _ hs).mono ?_;rintro e w1 ⟨rfl,hb⟩;rw [HM.out];have hk:=Qb (w:=w) (by go_grown) hb;have hz:=hk.size;obtain⟨hC,hF,hL,hE⟩:=kp hb;clear hb)
   | (go_at_call 254;refine(Yn _).mono ?_;rintro e w1 ⟨rfl,hb⟩;have hk:=Qb (w:=w) (by go_grown) hb;clear hb))
  all_goals
   go_ret;exact⟨Qa (by simp [ho]),by go_grown⟩
 ·have HM:Hid (mOf 1 n ⟨#[]⟩= .iface 179 (.int .i64 n)):=hm;clear hm;go_enter Tryz.func139,Tryz.ntmps139
  go_wp2_with (first
   | (go_at_call 140;refine(Qp _ _ _ _ hs).mono ?_;rintro e w1 ⟨rfl,hb⟩;rw [HM.out];have hk:=Qb (w:=w) (by go_grown) hb;have hz:=hk.size;obtain⟨hC,hF,hL,hE⟩:=kp hb;clear hb)
   | (go_at_call 249;refine(Zo _ _).mono ?_;rintro e w1 ⟨rfl,rfl⟩))
  all_goals
   go_ret;exact⟨Qa (by simp [ho]),by go_grown⟩
 ·have HM:Hid (mOf 2 0 s= .iface 173 (.string s)):=hm;clear hm;go_enter Tryz.func139,Tryz.ntmps139
  go_wp2_with (first
   | (go_at_call 140;refine(Qp _ _ _ _ hs).mono ?_;rintro e w1 ⟨rfl,hb⟩;rw [HM.out];have hk:=Qb (w:=w) (by go_grown) hb;have hz:=hk.size;obtain⟨hC,hF,hL,hE⟩:=kp hb;clear hb)
   | (go_at_call 248;refine(Zg _ _ hs).mono ?_;rintro e w1 ⟨rfl,rfl⟩))
  all_goals
   go_ret;exact⟨Qa (by simp [ho]),by go_grown⟩
 ·have HM:Hid (mOf 3 n ⟨#[]⟩= .iface 192 (.int .i64 n)):=hm;clear hm;go_enter Tryz.func139,Tryz.ntmps139
  go_wp2_with (first
   | (go_at_call 140;refine(Qp _ _ _ _ hs).mono ?_;rintro e w1 ⟨rfl,hb⟩;rw [HM.out];have hk:=Qb (w:=w) (by go_grown) hb;have hz:=hk.size;obtain⟨hC,hF,hL,hE⟩:=kp hb;clear hb)
   | (go_at_call 257;refine(ZH _ _).mono ?_;rintro e w1 ⟨rfl,rfl⟩))
  all_goals
   go_ret;exact⟨Qa (by simp [ho]),by go_grown⟩
 ·have HM:Hid (mOf 4 n ⟨#[]⟩= .iface 193 (.int .i64 n)):=hm;clear hm;go_enter Tryz.func139,Tryz.ntmps139
  go_wp2_with (first
   | (go_at_call 140;refine(Qp _ _ _ _ hs).mono ?_;rintro e w1 ⟨rfl,hb⟩;rw [HM.out];have hk:=Qb (w:=w) (by go_grown) hb;have hz:=hk.size;obtain⟨hC,hF,hL,hE⟩:=kp hb;clear hb)
   | (go_at_call 259;refine(Zh _ _).mono ?_;rintro e w1 ⟨rfl,rfl⟩))
  all_goals
   go_ret;exact⟨Qa (by simp [ho]),by go_grown⟩
theorem QZ (n l h:Int) (w:World):Calls Tryz.prog 25 #[.int .i64 n,.int .i64 l,.int .i64 h] w fun e w'=>
  e= .returned (.bool (decide (l≤n∧n≤h)))∧w'=w:=by
 go_enter Tryz.func25,Tryz.ntmps25;go_wp2
 all_goals
  go_ret;refine⟨Qa ?_,rfl⟩;rw [Bool.eq_iff_iff];simp;try omega
theorem QN (s:ByteArray) (w:World) (hs:s.size≤maxLen):Calls Tryz.prog 65 #[.string s] w fun e w'=>
  e= .returned (.bool (Qx s))∧w'=w:=by
 unfold maxLen at hs;go_enter Tryz.func65,Tryz.ntmps65;go_wp2_with fail
 go_loop [3] (fun v=> ∃k:Nat,k≤s.size∧v= .int .i64 k∧Zp (s.data.toList.take k)=true) (fun v=>s.size-(intOf v).toNat)
 case atStart=>exact⟨0,by omega,rfl,rfl⟩
 case round=>
  obtain⟨k,hk,rfl,hr⟩:=hrel;have HR:Hid (Zp (s.data.toList.take k)=true):=hr;clear hr;by_cases hlt:k<s.size
  ·have HT:Hid (Zp (s.data.toList.take (k+1))=(Zp (s.data.toList.take k)&&decide (32≤s[k].toNat∧s[k].toNat≤126))):=Gf s k hlt;by_cases hb:32≤s[k].toNat∧s[k].toNat≤126
   ·have hb1: ¬((s[k].toNat:Int)<32):=by omega
    have hb2: ¬(126<(s[k].toNat:Int)):=by omega
    go_wp2
    all_goals
     go_round
     case rel=>exact⟨k+1,by omega,by go_num,by rw [HT.out,HR.out];simp;omega⟩
     case measure=>simp [intOf];omega
   ·have HF:Hid (Qx s=false):=by show Qx s=false;unfold Qx;rw [OY s k hlt hb];simp
    by_cases hb1:(s[k].toNat:Int)<32
    ·go_wp2
     go_ret;exact⟨Qa HF.out.symm,rfl⟩
    ·have hb2:126<(s[k].toNat:Int):=by omega
     go_wp2
     go_ret;exact⟨Qa HF.out.symm,rfl⟩
  ·have HA:=HR.out;rw [List.take_of_length_le (by simp;omega)]at HA;have HF:Hid (Qx s=decide (s.size≤200)):=by show Qx s=_;unfold Qx;rw [HA];simp
   clear HA;go_wp2
   go_ret;exact⟨Qa (by rw [HF.out];rw [Bool.eq_iff_iff];simp;try omega),rfl⟩
theorem Qg (k n:Int) (s:ByteArray) (w:World) (hs:s.size≤maxLen):Calls Tryz.prog 89 #[.agg #[.int .i64 k,.int .i64 n,.string s]] w fun e w'=>
  e= .returned (.bool (okV k n s))∧Below w.heap.size w w':=by
 by_cases h0:k=0
 ·subst h0;go_enter Tryz.func89,Tryz.ntmps89
  go_wp2_with (first
   | (go_at_call 25;refine(QZ _ _ _ _).mono ?_;rintro e w1 ⟨rfl,rfl⟩)
   | (go_at_call 65;refine(QN _ _ hs).mono ?_;rintro e w1 ⟨rfl,rfl⟩))
  all_goals
   go_ret;refine⟨Qa ?_,by go_grown⟩;rw [Bool.eq_iff_iff];simp_all [okV,emp]
   try omega
 by_cases h1:k=1
 ·subst h1;go_enter Tryz.func89,Tryz.ntmps89
  go_wp2_with (first
   | (go_at_call 25;refine(QZ _ _ _ _).mono ?_;rintro e w1 ⟨rfl,rfl⟩)
   | (go_at_call 65;refine(QN _ _ hs).mono ?_;rintro e w1 ⟨rfl,rfl⟩))
  all_goals
   go_ret;refine⟨Qa ?_,by go_grown⟩;rw [Bool.eq_iff_iff];simp_all [okV,emp,Zv]
   try omega
 by_cases h2:k=2
 ·subst h2;go_enter Tryz.func89,Tryz.ntmps89
  go_wp2_with (first
   | (go_at_call 25;refine(QZ _ _ _ _).mono ?_;rintro e w1 ⟨rfl,rfl⟩)
   | (go_at_call 65;refine(QN _ _ hs).mono ?_;rintro e w1 ⟨rfl,rfl⟩))
  all_goals
   go_ret;refine⟨Qa ?_,by go_grown⟩;rw [Bool.eq_iff_iff];simp_all [okV]
   try omega
 by_cases h3:k=3
 ·subst h3;go_enter Tryz.func89,Tryz.ntmps89
  go_wp2_with (first
   | (go_at_call 25;refine(QZ _ _ _ _).mono ?_;rintro e w1 ⟨rfl,rfl⟩)
   | (go_at_call 65;refine(QN _ _ hs).mono ?_;rintro e w1 ⟨rfl,rfl⟩))
  all_goals
   go_ret;refine⟨Qa ?_,by go_grown⟩;rw [Bool.eq_iff_iff];simp_all [okV,emp,Yg]
   try omega
 by_cases h4:k=4
 ·subst h4;go_enter Tryz.func89,Tryz.ntmps89
  go_wp2_with (first
   | (go_at_call 25;refine(QZ _ _ _ _).mono ?_;rintro e w1 ⟨rfl,rfl⟩)
   | (go_at_call 65;refine(QN _ _ hs).mono ?_;rintro e w1 ⟨rfl,rfl⟩))
  all_goals
   go_ret;refine⟨Qa ?_,by go_grown⟩;rw [Bool.eq_iff_iff];simp_all [okV,emp,YX]
   try omega
 ·have e0:(k==0)=false:=by simpa using h0
  have e1:(k==1)=false:=by simpa using h1
  have e2:(k==2)=false:=by simpa using h2
  have e3:(k==3)=false:=by simpa using h3
  have e4:(k==4)=false:=by simpa using h4
  go_enter Tryz.func89,Tryz.ntmps89
  go_wp2_with (first
   | (go_at_call 25;refine(QZ _ _ _ _).mono ?_;rintro e w1 ⟨rfl,rfl⟩)
   | (go_at_call 65;refine(QN _ _ hs).mono ?_;rintro e w1 ⟨rfl,rfl⟩))
  all_goals
   go_ret;refine⟨Qa ?_,by go_grown⟩;rw [Bool.eq_iff_iff];simp_all [okV]
   try omega
theorem Mz (n:Int) (w:World):Calls Tryz.prog 119 #[.int .i64 n] w fun e w'=>
  e= .returned (.agg #[.int .i64 4,.int .i64 n,.string ⟨#[]⟩])∧Below w.heap.size w w':=by
 go_enter Tryz.func119,Tryz.ntmps119;go_wp2
 go_returns
 exact⟨rfl,by go_grown⟩
def szv (l:Int) (m:Nat):Int:=if l-m<0 then-1 else l-m
end Go.Proofs.YtdcokcbolecanaaGreatDoor
