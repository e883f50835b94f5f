import Derived.Test.YtkdhmdllnaogcaaGreatDoorGac
import Derived.RegionTactic
set_option linter.unusedSimpArgs false
set_option linter.unusedVariables false
set_option maxHeartbeats 1000000
namespace Go.Proofs.YtkdhmdllnaogcaaGreatDoor
open Go.RowKit
def emp (s:ByteArray):Bool:=s.toList.isEmpty
theorem Vv {s:ByteArray} (h:emp s=true):s.toList= []:=List.isEmpty_iff.1 h
theorem Mq {s:ByteArray} (h:emp s=false): ¬s.toList= []:=fun e=>by rw [emp,e]at h;cases h
theorem Xa {s:ByteArray} (h:emp s=true):s=⟨#[]⟩:=by
 have e:=Vv h;rw [ByteArray.toList_eq]at e;exact ByteArray.ext (Array.toList_eq_nil_iff.1 e)
def okV (k n:Int) (s:ByteArray):Bool:=
 if k=0 then decide (n=0)&&emp s else if k=1 then Zq n&&emp s else if k=2 then decide (n=0)&&Qv s
 else if k=3 then Yb n&&emp s else if k=4 then YQ n&&emp s else false
def mOf (k n:Int) (s:ByteArray):Value:=if okV k n s then mBK k n s else mNo
theorem Qm (k n:Int) (s:ByteArray) (w:World) (hs:s.size≤maxLen):Calls Tryz.prog 109 #[.agg #[.int .i64 k,.int .i64 n,.string s]] w fun e w'=>
  e= .returned (mOf k n s)∧Below w.heap.size w w':=by
 by_cases h0:k=0
 ·subst h0;by_cases hn:n=0
  ·subst hn;cases he:emp s
   ·rw [show mOf 0 0 s=mNo from by simp [mOf,okV,he]];exact Ju s w (Mq he)
   ·rw [show mOf 0 0 s=mBK 0 0 s from by simp [mOf,okV,he]];exact Jt s w (Vv he)
  ·rw [show mOf 0 n s=mNo from by simp [mOf,okV,hn]];exact Jv n s w (fun e=>hn e.symm)
 by_cases h1:k=1
 ·subst h1;cases hr:Zq n
  ·rw [show mOf 1 n s=mNo from by simp [mOf,okV,hr]];exact XN n s w hr
  ·cases he:emp s
   ·rw [show mOf 1 n s=mNo from by simp [mOf,okV,he]];exact XO n s w hr (Mq he)
   ·rw [show mOf 1 n s=mBK 1 n s from by simp [mOf,okV,he,hr]];exact XM n s w hr (Vv he)
 by_cases h2:k=2
 ·subst h2;cases hr:Qv s
  ·rw [show mOf 2 n s=mNo from by simp [mOf,okV,hr]];exact Xv n s w hs hr
  ·by_cases hn:n=0
   ·subst hn;rw [show mOf 2 0 s=mBK 2 0 s from by simp [mOf,okV,hr]];exact Xu s w hs hr
   ·rw [show mOf 2 n s=mNo from by simp [mOf,okV,hn]];exact Xw n s w hs hr (fun e=>hn e.symm)
 by_cases h3:k=3
 ·subst h3;cases hr:Yb n
  ·rw [show mOf 3 n s=mNo from by simp [mOf,okV,hr]];exact Jr n s w hr
  ·cases he:emp s
   ·rw [show mOf 3 n s=mNo from by simp [mOf,okV,he]];exact Js n s w hr (Mq he)
   ·rw [show mOf 3 n s=mBK 3 n s from by simp [mOf,okV,he,hr]];exact Jq n s w hr (Vv he)
 by_cases h4:k=4
 ·subst h4;cases hr:YQ n
  ·rw [show mOf 4 n s=mNo from by simp [mOf,okV,hr]];exact Xy n s w hr
  ·cases he:emp s
   ·rw [show mOf 4 n s=mNo from by simp [mOf,okV,he]];exact Xz n s w hr (Mq he)
   ·rw [show mOf 4 n s=mBK 4 n s from by simp [mOf,okV,he,hr]];exact Xx n s w hr (Vv he)
 ·rw [show mOf k n s=mNo from by simp [mOf,okV,h0,h1,h2,h3,h4]];exact XP k n s w (show mBK k n s=_ by simp [mBK,h0,h1,h2,h3,h4])
theorem Eb (k n:Int) (s:ByteArray):
  (okV k n s=false∧mOf k n s= .iface 164 (.agg #[]))∨
  (okV k n s=true∧k=0∧n=0∧s=⟨#[]⟩∧mOf k n s= .iface 165 (.agg #[]))∨
  (okV k n s=true∧k=1∧Zq n=true∧s=⟨#[]⟩∧mOf k n s= .iface 140 (.int .i64 n))∨
  (okV k n s=true∧k=2∧n=0∧Qv s=true∧mOf k n s= .iface 123 (.string s))∨
  (okV k n s=true∧k=3∧Yb n=true∧s=⟨#[]⟩∧mOf k n s= .iface 166 (.int .i64 n))∨
  (okV k n s=true∧k=4∧YQ n=true∧s=⟨#[]⟩∧mOf k n s= .iface 167 (.int .i64 n)):=by
 cases ho:okV k n s
 ·exact .inl ⟨rfl,by simp [mOf,ho,mNo]⟩
 ·right
  have hm:mOf k n s=mBK k n s:=by simp [mOf,ho]
  rw [hm];unfold okV at ho;split at ho
  ·rename_i h;subst h;simp only [Bool.and_eq_true,decide_eq_true_eq]at ho;exact .inl ⟨rfl,rfl,ho.1,Xa ho.2,rfl⟩
  split at ho
  ·rename_i h;subst h;simp only [Bool.and_eq_true]at ho;exact .inr (.inl ⟨rfl,rfl,ho.1,Xa ho.2,rfl⟩)
  split at ho
  ·rename_i h;subst h;simp only [Bool.and_eq_true,decide_eq_true_eq]at ho;exact .inr (.inr (.inl ⟨rfl,rfl,ho.1,ho.2,rfl⟩))
  split at ho
  ·rename_i h;subst h;simp only [Bool.and_eq_true]at ho;exact .inr (.inr (.inr (.inl ⟨rfl,rfl,ho.1,Xa ho.2,rfl⟩)))
  split at ho
  ·rename_i h;subst h;simp only [Bool.and_eq_true]at ho;exact .inr (.inr (.inr (.inr ⟨rfl,rfl,ho.1,Xa ho.2,rfl⟩)))
  ·cases ho
theorem ZL (k n:Int) (s:ByteArray) (w:World) (hs:s.size≤maxLen):Calls Tryz.prog 108 #[.agg #[.int .i64 k,.int .i64 n,.string s]] w fun e w'=>
  e= .returned (.bool (okV k n s))∧Below w.heap.size w w':=by
 rcases Eb k n s with⟨ho,hm⟩ | ⟨ho,rfl,rfl,rfl,hm⟩ | ⟨ho,rfl,hr,rfl,hm⟩ | ⟨ho,rfl,rfl,hr,hm⟩ | ⟨ho,rfl,hr,rfl,hm⟩ | ⟨ho,rfl,hr,rfl,hm⟩
 ·have HM:Hid (mOf k n s= .iface 164 (.agg #[])):=hm;clear hm;go_enter Tryz.func108,Tryz.ntmps108
  go_wp2_with (first
   | (go_at_call 109;refine(Qm _ _ _ _ hs).mono ?_;rintro e w1 ⟨rfl,hb⟩;rw [HM.out];have hk:=Qc (w:=w) (by go_grown) hb;have hz:=hk.size;obtain⟨hC,hF,hL,hE⟩:=kp hb;clear hb)
   | (go_at_call 259;refine(Xe _).mono ?_;rintro e w1 ⟨rfl,hb⟩;have hk:=Qc (w:=w) (by go_grown) hb;clear hb))
  all_goals
   go_ret;exact⟨Qa (by simp [ho]),by go_grown⟩
 ·have HM:Hid (mOf 0 0 ⟨#[]⟩= .iface 165 (.agg #[])):=hm;clear hm;go_enter Tryz.func108,Tryz.ntmps108
  go_wp2_with (first
   | (go_at_call 109;refine(Qm _ _ _ _ hs).mono ?_;rintro e w1 ⟨rfl,hb⟩;rw [HM.out];have hk:=Qc (w:=w) (by go_grown) hb;have hz:=hk.size;obtain⟨hC,hF,hL,hE⟩:=kp hb;clear hb)
   | (go_at_call 262;refine(Yj _).mono ?_;rintro e w1 ⟨rfl,hb⟩;have hk:=Qc (w:=w) (by go_grown) hb;clear hb))
  all_goals
   go_ret;exact⟨Qa (by simp [ho]),by go_grown⟩
 ·have HM:Hid (mOf 1 n ⟨#[]⟩= .iface 140 (.int .i64 n)):=hm;clear hm;go_enter Tryz.func108,Tryz.ntmps108
  go_wp2_with (first
   | (go_at_call 109;refine(Qm _ _ _ _ hs).mono ?_;rintro e w1 ⟨rfl,hb⟩;rw [HM.out];have hk:=Qc (w:=w) (by go_grown) hb;have hz:=hk.size;obtain⟨hC,hF,hL,hE⟩:=kp hb;clear hb)
   | (go_at_call 257;refine(Zj _ _).mono ?_;rintro e w1 ⟨rfl,rfl⟩))
  all_goals
   go_ret;exact⟨Qa (by simp [ho]),by go_grown⟩
 ·have HM:Hid (mOf 2 0 s= .iface 123 (.string s)):=hm;clear hm;go_enter Tryz.func108,Tryz.ntmps108
  go_wp2_with (first
   | (go_at_call 109;refine(Qm _ _ _ _ hs).mono ?_;rintro e w1 ⟨rfl,hb⟩;rw [HM.out];have hk:=Qc (w:=w) (by go_grown) hb;have hz:=hk.size;obtain⟨hC,hF,hL,hE⟩:=kp hb;clear hb)
   | (go_at_call 255;refine(Zd _ _ hs).mono ?_;rintro e w1 ⟨rfl,rfl⟩))
  all_goals
   go_ret;exact⟨Qa (by simp [ho]),by go_grown⟩
 ·have HM:Hid (mOf 3 n ⟨#[]⟩= .iface 166 (.int .i64 n)):=hm;clear hm;go_enter Tryz.func108,Tryz.ntmps108
  go_wp2_with (first
   | (go_at_call 109;refine(Qm _ _ _ _ hs).mono ?_;rintro e w1 ⟨rfl,hb⟩;rw [HM.out];have hk:=Qc (w:=w) (by go_grown) hb;have hz:=hk.size;obtain⟨hC,hF,hL,hE⟩:=kp hb;clear hb)
   | (go_at_call 265;refine(Zy _ _).mono ?_;rintro e w1 ⟨rfl,rfl⟩))
  all_goals
   go_ret;exact⟨Qa (by simp [ho]),by go_grown⟩
 ·have HM:Hid (mOf 4 n ⟨#[]⟩= .iface 167 (.int .i64 n)):=hm;clear hm;go_enter Tryz.func108,Tryz.ntmps108
  go_wp2_with (first
   | (go_at_call 109;refine(Qm _ _ _ _ hs).mono ?_;rintro e w1 ⟨rfl,hb⟩;rw [HM.out];have hk:=Qc (w:=w) (by go_grown) hb;have hz:=hk.size;obtain⟨hC,hF,hL,hE⟩:=kp hb;clear hb)
   | (go_at_call 267;refine(Ze _ _).mono ?_;rintro e w1 ⟨rfl,rfl⟩))
  all_goals
   go_ret;exact⟨Qa (by simp [ho]),by go_grown⟩
theorem QV (n l h:Int) (w:World):Calls Tryz.prog 50 #[.int .i64 n,.int .i64 l,.int .i64 h] w fun e w'=>
  e= .returned (.bool (decide (l≤n∧n≤h)))∧w'=w:=by
 go_enter Tryz.func50,Tryz.ntmps50;go_wp2
 all_goals
  go_ret;refine⟨Qa ?_,rfl⟩;rw [Bool.eq_iff_iff];simp;try omega
theorem QM (s:ByteArray) (w:World) (hs:s.size≤maxLen):Calls Tryz.prog 44 #[.string s] w fun e w'=>
  e= .returned (.bool (Qv s))∧w'=w:=by
 unfold maxLen at hs;go_enter Tryz.func44,Tryz.ntmps44;go_wp2_with fail
 go_loop [3] (fun v=> ∃k:Nat,k≤s.size∧v= .int .i64 k∧Zk (s.data.toList.take k)=true) (fun v=>s.size-(intOf v).toNat)
 case atStart=>exact⟨0,by omega,rfl,rfl⟩
 case round=>
  obtain⟨k,hk,rfl,hr⟩:=hrel;have HR:Hid (Zk (s.data.toList.take k)=true):=hr;clear hr;by_cases hlt:k<s.size
  ·have HT:Hid (Zk (s.data.toList.take (k+1))=(Zk (s.data.toList.take k)&&decide (32≤s[k].toNat∧s[k].toNat≤126))):=Kz s k hlt;by_cases hb:32≤s[k].toNat∧s[k].toNat≤126
   ·have hb1: ¬((s[k].toNat:Int)<32):=by omega
    have hb2: ¬(126<(s[k].toNat:Int)):=by omega
    go_wp2
    all_goals
     go_round
     case rel=>exact⟨k+1,by omega,by go_num,by rw [HT.out,HR.out];simp;omega⟩
     case measure=>simp [intOf];omega
   ·have HF:Hid (Qv s=false):=by show Qv s=false;unfold Qv;rw [Ni s k hlt hb];simp
    by_cases hb1:(s[k].toNat:Int)<32
    ·go_wp2
     go_ret;exact⟨Qa HF.out.symm,rfl⟩
    ·have hb2:126<(s[k].toNat:Int):=by omega
     go_wp2
     go_ret;exact⟨Qa HF.out.symm,rfl⟩
  ·have HA:=HR.out;rw [List.take_of_length_le (by simp;omega)]at HA;have HF:Hid (Qv s=decide (s.size≤200)):=by show Qv s=_;unfold Qv;rw [HA];simp
   clear HA;go_wp2
   go_ret;exact⟨Qa (by rw [HF.out];rw [Bool.eq_iff_iff];simp;try omega),rfl⟩
theorem Qg (k n:Int) (s:ByteArray) (w:World) (hs:s.size≤maxLen):Calls Tryz.prog 62 #[.agg #[.int .i64 k,.int .i64 n,.string s]] w fun e w'=>
  e= .returned (.bool (okV k n s))∧Below w.heap.size w w':=by
 by_cases h0:k=0
 ·subst h0;go_enter Tryz.func62,Tryz.ntmps62
  go_wp2_with (first
   | (go_at_call 50;refine(QV _ _ _ _).mono ?_;rintro e w1 ⟨rfl,rfl⟩)
   | (go_at_call 44;refine(QM _ _ hs).mono ?_;rintro e w1 ⟨rfl,rfl⟩))
  all_goals
   go_ret;refine⟨Qa ?_,by go_grown⟩;rw [Bool.eq_iff_iff];simp_all [okV,emp]
   try omega
 by_cases h1:k=1
 ·subst h1;go_enter Tryz.func62,Tryz.ntmps62
  go_wp2_with (first
   | (go_at_call 50;refine(QV _ _ _ _).mono ?_;rintro e w1 ⟨rfl,rfl⟩)
   | (go_at_call 44;refine(QM _ _ hs).mono ?_;rintro e w1 ⟨rfl,rfl⟩))
  all_goals
   go_ret;refine⟨Qa ?_,by go_grown⟩;rw [Bool.eq_iff_iff];simp_all [okV,emp,Zq]
   try omega
 by_cases h2:k=2
 ·subst h2;go_enter Tryz.func62,Tryz.ntmps62
  go_wp2_with (first
   | (go_at_call 50;refine(QV _ _ _ _).mono ?_;rintro e w1 ⟨rfl,rfl⟩)
   | (go_at_call 44;refine(QM _ _ hs).mono ?_;rintro e w1 ⟨rfl,rfl⟩))
  all_goals
   go_ret;refine⟨Qa ?_,by go_grown⟩;rw [Bool.eq_iff_iff];simp_all [okV]
   try omega
 by_cases h3:k=3
 ·subst h3;go_enter Tryz.func62,Tryz.ntmps62
  go_wp2_with (first
   | (go_at_call 50;refine(QV _ _ _ _).mono ?_;rintro e w1 ⟨rfl,rfl⟩)
   | (go_at_call 44;refine(QM _ _ hs).mono ?_;rintro e w1 ⟨rfl,rfl⟩))
  all_goals
   go_ret;refine⟨Qa ?_,by go_grown⟩;rw [Bool.eq_iff_iff];simp_all [okV,emp,Yb]
   try omega
 by_cases h4:k=4
 ·subst h4;go_enter Tryz.func62,Tryz.ntmps62
  go_wp2_with (first
   | (go_at_call 50;refine(QV _ _ _ _).mono ?_;rintro e w1 ⟨rfl,rfl⟩)
   | (go_at_call 44;refine(QM _ _ hs).mono ?_;rintro e w1 ⟨rfl,rfl⟩))
  all_goals
   go_ret;refine⟨Qa ?_,by go_grown⟩;rw [Bool.eq_iff_iff];simp_all [okV,emp,YQ]
   try omega
 ·have e0:(k==0)=false:=by simpa using h0
  have e1:(k==1)=false:=by simpa using h1
  have e2:(k==2)=false:=by simpa using h2
  have e3:(k==3)=false:=by simpa using h3
  have e4:(k==4)=false:=by simpa using h4
  go_enter Tryz.func62,Tryz.ntmps62
  go_wp2_with (first
   | (go_at_call 50;refine(QV _ _ _ _).mono ?_;rintro e w1 ⟨rfl,rfl⟩)
   | (go_at_call 44;refine(QM _ _ hs).mono ?_;rintro e w1 ⟨rfl,rfl⟩))
  all_goals
   go_ret;refine⟨Qa ?_,by go_grown⟩;rw [Bool.eq_iff_iff];simp_all [okV]
   try omega
theorem Uq (n:Int) (w:World):Calls Tryz.prog 96 #[.int .i64 n] w fun e w'=>
  e= .returned (.agg #[.int .i64 4,.int .i64 n,.string ⟨#[]⟩])∧Below w.heap.size w w':=by
 go_enter Tryz.func96,Tryz.ntmps96;go_wp2
 go_returns
 exact⟨rfl,by go_grown⟩
def szv (l:Int) (m:Nat):Int:=if l-m<0 then-1 else l-m
end Go.Proofs.YtkdhmdllnaogcaaGreatDoor
