import Derived.Test.YthjldgbfgapbcaaGreatDoorGaa
import Derived.Deep.RegionHeld3
import Derived.Deep.DeepCutAuto
import Derived.Laws.StructEq
set_option linter.unusedSimpArgs false
set_option linter.unusedVariables false
set_option maxHeartbeats 1000000
namespace Go.Proofs.YthjldgbfgapbcaaGreatDoor
open Go.RowKit
def Yb (l:List UInt8):Bool:=l.all fun b=>decide (32≤b.toNat∧b.toNat≤126)
def mBK (k n:Int) (s:ByteArray):Value:=
 if k=0 then .iface 174 (.agg #[])else if k=1 then .iface 149 (.int .i64 n)else if k=2 then .iface 132 (.string s)
 else if k=3 then .iface 175 (.int .i64 n)else if k=4 then .iface 176 (.int .i64 n)else .iface 173 (.agg #[])
def mNo:Value:= .iface 173 (.agg #[])
theorem XR {a b:Value} (h:a=b):Ending.returned a= .returned b:=by rw [h]
theorem Qj (k n:Int) (s:ByteArray) (w:World):Calls Tryz.prog 138 #[.agg #[.int .i64 k,.int .i64 n,.string s]] w fun e w'=>
  e= .returned (mBK k n s)∧Below w.heap.size w w':=by
 by_cases h0:k=0
 ·subst h0;go_enter Tryz.func138,Tryz.ntmps138;go_wp2
  go_ret;exact⟨XR (by simp [mBK]),by go_grown⟩
 by_cases h1:k=1
 ·subst h1;go_enter Tryz.func138,Tryz.ntmps138;go_wp2
  go_ret;exact⟨XR (by simp [mBK]),by go_grown⟩
 by_cases h2:k=2
 ·subst h2;go_enter Tryz.func138,Tryz.ntmps138;go_wp2
  go_ret;exact⟨XR (by simp [mBK]),by go_grown⟩
 by_cases h3:k=3
 ·subst h3;go_enter Tryz.func138,Tryz.ntmps138;go_wp2
  go_ret;exact⟨XR (by simp [mBK]),by go_grown⟩
 by_cases h4:k=4
 ·subst h4;go_enter Tryz.func138,Tryz.ntmps138;go_wp2
  go_ret;exact⟨XR (by simp [mBK]),by go_grown⟩
 ·have e0:(k==0)=false:=by simpa using h0
  have e1:(k==1)=false:=by simpa using h1
  have e2:(k==2)=false:=by simpa using h2
  have e3:(k==3)=false:=by simpa using h3
  have e4:(k==4)=false:=by simpa using h4
  go_enter Tryz.func138,Tryz.ntmps138;go_wp2
  go_ret;exact⟨XR (by simp [mBK,h0,h1,h2,h3,h4]),by go_grown⟩
def Yi (n:Int):Bool:=decide (-1000000000000000≤n∧n≤1000000000000000)
def YP (n:Int):Bool:=decide (n=0∨n=1)
def Je (n:Int):Bool:=decide (1≤n∧n≤5)
def QM (s:ByteArray):Bool:=decide (s.size≤200)&&Yb s.data.toList
theorem ZT (n:Int) (w:World):Calls Tryz.prog 268 #[.int .i64 n] w fun e w'=>
  e= .returned (.bool (Yi n))∧w'=w:=by
 go_enter Tryz.func268,Tryz.ntmps268;go_wp2
 all_goals
  go_ret;refine⟨Qc ?_,rfl⟩;rw [Bool.eq_iff_iff];unfold Yi;simp;try omega
theorem Yv (n:Int) (w:World):Calls Tryz.prog 276 #[.int .i64 n] w fun e w'=>
  e= .returned (.bool (YP n))∧w'=w:=by
 go_enter Tryz.func276,Tryz.ntmps276;go_wp2
 all_goals
  go_ret;refine⟨Qc ?_,rfl⟩;rw [Bool.eq_iff_iff];unfold YP;simp;try omega
theorem ZH (n:Int) (w:World):Calls Tryz.prog 278 #[.int .i64 n] w fun e w'=>
  e= .returned (.bool (Je n))∧w'=w:=by
 go_enter Tryz.func278,Tryz.ntmps278;go_wp2
 all_goals
  go_ret;refine⟨Qc ?_,rfl⟩;rw [Bool.eq_iff_iff];unfold Je;simp;try omega
theorem JD (w:World):Calls Tryz.prog 270 #[.agg #[]] w fun e w'=>
  e= .returned (.bool (false))∧Below w.heap.size w w':=by
 go_enter Tryz.func270,Tryz.ntmps270;go_wp2
 all_goals
  go_ret;refine⟨Qc ?_,by go_grown⟩;rfl
theorem YY (w:World):Calls Tryz.prog 273 #[.agg #[]] w fun e w'=>
  e= .returned (.bool (true))∧Below w.heap.size w w':=by
 go_enter Tryz.func273,Tryz.ntmps273;go_wp2
 all_goals
  go_ret;refine⟨Qc ?_,by go_grown⟩;rfl
theorem Xe (n:Int) (w:World):Calls Tryz.prog 115 #[.int .i64 n] w fun e w'=>
  e= .returned (.agg #[.int .i64 1,.int .i64 n,.string ⟨#[]⟩])∧Below w.heap.size w w':=by
 go_enter Tryz.func115,Tryz.ntmps115;go_wp2
 go_returns
 exact⟨rfl,by go_grown⟩
theorem Vh (n:Int) (w:World):Calls Tryz.prog 277 #[.int .i64 n] w fun e w'=>
  e= .returned (.agg #[.int .i64 3,.int .i64 n,.string ⟨#[]⟩])∧Below w.heap.size w w':=by
 go_enter Tryz.func277,Tryz.ntmps277;go_wp2
 go_returns
 exact⟨rfl,by go_grown⟩
theorem XM (n:Int) (w:World):Calls Tryz.prog 279 #[.int .i64 n] w fun e w'=>
  e= .returned (.agg #[.int .i64 4,.int .i64 n,.string ⟨#[]⟩])∧Below w.heap.size w w':=by
 go_enter Tryz.func279,Tryz.ntmps279;go_wp2
 go_returns
 exact⟨rfl,by go_grown⟩
theorem YM (s:ByteArray) (w:World):Calls Tryz.prog 218 #[.string s] w fun e w'=>
  e= .returned (.agg #[.int .i64 2,.int .i64 0,.string s])∧Below w.heap.size w w':=by
 go_enter Tryz.func218,Tryz.ntmps218;go_wp2
 go_returns
 exact⟨rfl,by go_grown⟩
theorem XE (w:World):Calls Tryz.prog 275 #[.agg #[]] w fun e w'=>
  e= .returned (.agg #[.int .i64 0,.int .i64 0,.string ⟨#[]⟩])∧Below w.heap.size w w':=by
 go_enter Tryz.func275,Tryz.ntmps275;go_wp2
 go_returns
 exact⟨rfl,by go_grown⟩
theorem Mt (s:ByteArray) (k:Nat) (h:k<s.size):Yb (s.data.toList.take (k+1))=(Yb (s.data.toList.take k)&&decide (32≤s[k].toNat∧s[k].toNat≤126)):=by
 have e:s.data.toList.take (k+1)=s.data.toList.take k++ [s[k]]:=by
  rw [List.take_succ_eq_append_getElem (by simpa using h)];rfl
 rw [e];simp [Yb]
theorem Qag (s:ByteArray) (k:Nat) (h:k<s.size) (hb: ¬(32≤s[k].toNat∧s[k].toNat≤126)):Yb s.data.toList=false:=by
 cases e:Yb s.data.toList
 ·rfl
 ·have:=List.all_eq_true.1 e s[k] (Array.mem_toList_iff.2 (Array.getElem_mem h));exact absurd (of_decide_eq_true this) hb
theorem JF (s:ByteArray) (w:World) (hs:s.size≤maxLen):Calls Tryz.prog 72 #[.string s] w fun e w'=>
  e= .returned (.bool (Yb s.data.toList))∧w'=w:=by
 unfold maxLen at hs;go_enter Tryz.func72,Tryz.ntmps72;go_wp2_with fail
 go_loop [6] (fun v=> ∃k:Nat,k≤s.size∧v= .int .i64 k∧Yb (s.data.toList.take k)=true) (fun v=>s.size-(intOf v).toNat)
 case atStart=>exact⟨0,by omega,rfl,rfl⟩
 case round=>
  obtain⟨k,hk,rfl,hr⟩:=hrel;have HR:Hid (Yb (s.data.toList.take k)=true):=hr;clear hr;by_cases hlt:k<s.size
  ·have HT:Hid (Yb (s.data.toList.take (k+1))=(Yb (s.data.toList.take k)&&decide (32≤s[k].toNat∧s[k].toNat≤126))):=Mt s k hlt;by_cases hb:32≤s[k].toNat∧s[k].toNat≤126
   ·have hb1: ¬((s[k].toNat:Int)<32):=by omega
    have hb2: ¬(126<(s[k].toNat:Int)):=by omega
    go_wp2
    all_goals
     go_round
     case rel=>exact⟨k+1,by omega,by go_num,by rw [HT.out,HR.out];simp;omega⟩
     case measure=>simp [intOf];omega
   ·have HF:Hid (Yb s.data.toList=false):=Qag s k hlt hb;by_cases hb1:(s[k].toNat:Int)<32
    ·go_wp2
     go_ret;exact⟨Qc HF.out.symm,rfl⟩
    ·have hb2:126<(s[k].toNat:Int):=by omega
     go_wp2
     go_ret;exact⟨Qc HF.out.symm,rfl⟩
  ·go_wp2
   go_ret;have HA:=HR.out;rw [List.take_of_length_le (by simp;omega)]at HA;exact⟨Qc HA.symm,rfl⟩
theorem ZF (s:ByteArray) (w:World) (hs:s.size≤maxLen):Calls Tryz.prog 267 #[.string s] w fun e w'=>
  e= .returned (.bool (QM s))∧w'=w:=by
 have hs':=hs;unfold maxLen at hs';go_enter Tryz.func267,Tryz.ntmps267
 go_wp2_with (first
  | (go_at_call 72;refine(JF _ _ hs).mono ?_;rintro e w1 ⟨rfl,rfl⟩))
 all_goals
  go_ret;refine⟨Qc ?_,rfl⟩;unfold QM;simp_all
  try omega
theorem Kw (s:ByteArray) (w:World) (hq:s.toList= []):Calls Tryz.prog 117 #[.agg #[.int .i64 0,.int .i64 0,.string s]] w fun e w'=>
  e= .returned (.iface 174 (.agg #[]))∧Below w.heap.size w w':=by
 go_enter Tryz.func117,Tryz.ntmps117
 go_wp2_with (first
  | (go_at_call 138;refine(Qj _ _ _ _).mono ?_;rintro e w1 ⟨rfl,hb⟩;have em:mBK 0 0 s= .iface 174 (.agg #[]):=rfl;rw [em];clear em;obtain⟨hk,hz⟩:=Qg (B:=w.heap.size+1) (X:=(w.alloc (.cells #[.int .i64 0,.int .i64 0,.string s] 85))) (by go_grown) (by go_size) hb;obtain⟨hC,hF,hL,hE⟩:=kp hb;clear hb))
 go_region_held3 (fun w'=>(∀bq oq,bq<w.heap.size+1→w'.cell? ⟨bq,oq,none⟩=(w.alloc (.cells #[.int .i64 0,.int .i64 0,.string s] 85)).cell? ⟨bq,oq,none⟩)∧w.heap.size+1≤w'.heap.size∧Below (w.heap.size+1) (w.alloc (.cells #[.int .i64 0,.int .i64 0,.string s] 85)) w')
  (exact Qk (by go_size) (by go_grown))
  (first
  | (go_at_call 273;refine(YY _).mono ?_;rintro e w1 ⟨rfl,hb⟩;obtain⟨hk,hz⟩:=Qg (B:=w.heap.size+1) (X:=(w.alloc (.cells #[.int .i64 0,.int .i64 0,.string s] 85))) (by go_grown) (by go_size) hb;clear hb)
  | (go_at_call 275;refine(XE _).mono ?_;rintro e w1 ⟨rfl,hb⟩;obtain⟨hk,hz⟩:=Qg (B:=w.heap.size+1) (X:=(w.alloc (.cells #[.int .i64 0,.int .i64 0,.string s] 85))) (by go_grown) (by go_size) hb;clear hb))
 all_goals go_wp2_with fail
 all_goals
  go_ret;exact⟨rfl,Yq (n:=1) (X:=(w.alloc (.cells #[.int .i64 0,.int .i64 0,.string s] 85))) (by go_grown) (by go_grown)⟩
theorem Kx (s:ByteArray) (w:World) (hq: ¬s.toList= []):Calls Tryz.prog 117 #[.agg #[.int .i64 0,.int .i64 0,.string s]] w fun e w'=>
  e= .returned (mNo)∧Below w.heap.size w w':=by
 go_enter Tryz.func117,Tryz.ntmps117
 go_wp2_with (first
  | (go_at_call 138;refine(Qj _ _ _ _).mono ?_;rintro e w1 ⟨rfl,hb⟩;have em:mBK 0 0 s= .iface 174 (.agg #[]):=rfl;rw [em];clear em;obtain⟨hk,hz⟩:=Qg (B:=w.heap.size+1) (X:=(w.alloc (.cells #[.int .i64 0,.int .i64 0,.string s] 85))) (by go_grown) (by go_size) hb;obtain⟨hC,hF,hL,hE⟩:=kp hb;clear hb))
 go_region_held3 (fun w'=>(∀bq oq,bq<w.heap.size+1→w'.cell? ⟨bq,oq,none⟩=(w.alloc (.cells #[.int .i64 0,.int .i64 0,.string s] 85)).cell? ⟨bq,oq,none⟩)∧w.heap.size+1≤w'.heap.size∧Below (w.heap.size+1) (w.alloc (.cells #[.int .i64 0,.int .i64 0,.string s] 85)) w')
  (exact Qk (by go_size) (by go_grown))
  (first
  | (go_at_call 273;refine(YY _).mono ?_;rintro e w1 ⟨rfl,hb⟩;obtain⟨hk,hz⟩:=Qg (B:=w.heap.size+1) (X:=(w.alloc (.cells #[.int .i64 0,.int .i64 0,.string s] 85))) (by go_grown) (by go_size) hb;clear hb)
  | (go_at_call 275;refine(XE _).mono ?_;rintro e w1 ⟨rfl,hb⟩;obtain⟨hk,hz⟩:=Qg (B:=w.heap.size+1) (X:=(w.alloc (.cells #[.int .i64 0,.int .i64 0,.string s] 85))) (by go_grown) (by go_size) hb;clear hb))
 all_goals go_wp2_with fail
 all_goals
  go_ret;exact⟨rfl,Yq (n:=1) (X:=(w.alloc (.cells #[.int .i64 0,.int .i64 0,.string s] 85))) (by go_grown) (by go_grown)⟩
theorem Ky (n:Int) (s:ByteArray) (w:World) (hq: ¬0=n):Calls Tryz.prog 117 #[.agg #[.int .i64 0,.int .i64 n,.string s]] w fun e w'=>
  e= .returned (mNo)∧Below w.heap.size w w':=by
 go_enter Tryz.func117,Tryz.ntmps117
 go_wp2_with (first
  | (go_at_call 138;refine(Qj _ _ _ _).mono ?_;rintro e w1 ⟨rfl,hb⟩;have em:mBK 0 n s= .iface 174 (.agg #[]):=rfl;rw [em];clear em;obtain⟨hk,hz⟩:=Qg (B:=w.heap.size+1) (X:=(w.alloc (.cells #[.int .i64 0,.int .i64 n,.string s] 85))) (by go_grown) (by go_size) hb;obtain⟨hC,hF,hL,hE⟩:=kp hb;clear hb))
 go_region_held3 (fun w'=>(∀bq oq,bq<w.heap.size+1→w'.cell? ⟨bq,oq,none⟩=(w.alloc (.cells #[.int .i64 0,.int .i64 n,.string s] 85)).cell? ⟨bq,oq,none⟩)∧w.heap.size+1≤w'.heap.size∧Below (w.heap.size+1) (w.alloc (.cells #[.int .i64 0,.int .i64 n,.string s] 85)) w')
  (exact Qk (by go_size) (by go_grown))
  (first
  | (go_at_call 273;refine(YY _).mono ?_;rintro e w1 ⟨rfl,hb⟩;obtain⟨hk,hz⟩:=Qg (B:=w.heap.size+1) (X:=(w.alloc (.cells #[.int .i64 0,.int .i64 n,.string s] 85))) (by go_grown) (by go_size) hb;clear hb)
  | (go_at_call 275;refine(XE _).mono ?_;rintro e w1 ⟨rfl,hb⟩;obtain⟨hk,hz⟩:=Qg (B:=w.heap.size+1) (X:=(w.alloc (.cells #[.int .i64 0,.int .i64 n,.string s] 85))) (by go_grown) (by go_size) hb;clear hb))
 all_goals go_wp2_with fail
 all_goals
  go_ret;exact⟨rfl,Yq (n:=1) (X:=(w.alloc (.cells #[.int .i64 0,.int .i64 n,.string s] 85))) (by go_grown) (by go_grown)⟩
theorem Vq (n:Int) (s:ByteArray) (w:World) (hR:Yi n=true) (hq:s.toList= []):Calls Tryz.prog 117 #[.agg #[.int .i64 1,.int .i64 n,.string s]] w fun e w'=>
  e= .returned (.iface 149 (.int .i64 n))∧Below w.heap.size w w':=by
 go_enter Tryz.func117,Tryz.ntmps117
 go_wp2_with (first
  | (go_at_call 138;refine(Qj _ _ _ _).mono ?_;rintro e w1 ⟨rfl,hb⟩;have em:mBK 1 n s= .iface 149 (.int .i64 n):=rfl;rw [em];clear em;obtain⟨hk,hz⟩:=Qg (B:=w.heap.size+1) (X:=(w.alloc (.cells #[.int .i64 1,.int .i64 n,.string s] 85))) (by go_grown) (by go_size) hb;obtain⟨hC,hF,hL,hE⟩:=kp hb;clear hb))
 go_region_held3 (fun w'=>(∀bq oq,bq<w.heap.size+1→w'.cell? ⟨bq,oq,none⟩=(w.alloc (.cells #[.int .i64 1,.int .i64 n,.string s] 85)).cell? ⟨bq,oq,none⟩)∧w.heap.size+1≤w'.heap.size∧Below (w.heap.size+1) (w.alloc (.cells #[.int .i64 1,.int .i64 n,.string s] 85)) w')
  (exact Qk (by go_size) (by go_grown))
  (first
  | (go_at_call 268;refine(ZT _ _).mono ?_;rintro e w1 ⟨rfl,rfl⟩)
  | (go_at_call 115;refine(Xe _ _).mono ?_;rintro e w1 ⟨rfl,hb⟩;obtain⟨hk,hz⟩:=Qg (B:=w.heap.size+1) (X:=(w.alloc (.cells #[.int .i64 1,.int .i64 n,.string s] 85))) (by go_grown) (by go_size) hb;clear hb))
 all_goals go_wp2_with fail
 all_goals
  go_ret;exact⟨rfl,Yq (n:=1) (X:=(w.alloc (.cells #[.int .i64 1,.int .i64 n,.string s] 85))) (by go_grown) (by go_grown)⟩
theorem Vs (n:Int) (s:ByteArray) (w:World) (hR:Yi n=true) (hq: ¬s.toList= []):Calls Tryz.prog 117 #[.agg #[.int .i64 1,.int .i64 n,.string s]] w fun e w'=>
  e= .returned (mNo)∧Below w.heap.size w w':=by
 go_enter Tryz.func117,Tryz.ntmps117
 go_wp2_with (first
  | (go_at_call 138;refine(Qj _ _ _ _).mono ?_;rintro e w1 ⟨rfl,hb⟩;have em:mBK 1 n s= .iface 149 (.int .i64 n):=rfl;rw [em];clear em;obtain⟨hk,hz⟩:=Qg (B:=w.heap.size+1) (X:=(w.alloc (.cells #[.int .i64 1,.int .i64 n,.string s] 85))) (by go_grown) (by go_size) hb;obtain⟨hC,hF,hL,hE⟩:=kp hb;clear hb))
 go_region_held3 (fun w'=>(∀bq oq,bq<w.heap.size+1→w'.cell? ⟨bq,oq,none⟩=(w.alloc (.cells #[.int .i64 1,.int .i64 n,.string s] 85)).cell? ⟨bq,oq,none⟩)∧w.heap.size+1≤w'.heap.size∧Below (w.heap.size+1) (w.alloc (.cells #[.int .i64 1,.int .i64 n,.string s] 85)) w')
  (exact Qk (by go_size) (by go_grown))
  (first
  | (go_at_call 268;refine(ZT _ _).mono ?_;rintro e w1 ⟨rfl,rfl⟩)
  | (go_at_call 115;refine(Xe _ _).mono ?_;rintro e w1 ⟨rfl,hb⟩;obtain⟨hk,hz⟩:=Qg (B:=w.heap.size+1) (X:=(w.alloc (.cells #[.int .i64 1,.int .i64 n,.string s] 85))) (by go_grown) (by go_size) hb;clear hb))
 all_goals go_wp2_with fail
 all_goals
  go_ret;exact⟨rfl,Yq (n:=1) (X:=(w.alloc (.cells #[.int .i64 1,.int .i64 n,.string s] 85))) (by go_grown) (by go_grown)⟩
theorem Kt (n:Int) (s:ByteArray) (w:World) (hR:YP n=true) (hq:s.toList= []):Calls Tryz.prog 117 #[.agg #[.int .i64 3,.int .i64 n,.string s]] w fun e w'=>
  e= .returned (.iface 175 (.int .i64 n))∧Below w.heap.size w w':=by
 go_enter Tryz.func117,Tryz.ntmps117
 go_wp2_with (first
  | (go_at_call 138;refine(Qj _ _ _ _).mono ?_;rintro e w1 ⟨rfl,hb⟩;have em:mBK 3 n s= .iface 175 (.int .i64 n):=rfl;rw [em];clear em;obtain⟨hk,hz⟩:=Qg (B:=w.heap.size+1) (X:=(w.alloc (.cells #[.int .i64 3,.int .i64 n,.string s] 85))) (by go_grown) (by go_size) hb;obtain⟨hC,hF,hL,hE⟩:=kp hb;clear hb))
 go_region_held3 (fun w'=>(∀bq oq,bq<w.heap.size+1→w'.cell? ⟨bq,oq,none⟩=(w.alloc (.cells #[.int .i64 3,.int .i64 n,.string s] 85)).cell? ⟨bq,oq,none⟩)∧w.heap.size+1≤w'.heap.size∧Below (w.heap.size+1) (w.alloc (.cells #[.int .i64 3,.int .i64 n,.string s] 85)) w')
  (exact Qk (by go_size) (by go_grown))
  (first
  | (go_at_call 276;refine(Yv _ _).mono ?_;rintro e w1 ⟨rfl,rfl⟩)
  | (go_at_call 277;refine(Vh _ _).mono ?_;rintro e w1 ⟨rfl,hb⟩;obtain⟨hk,hz⟩:=Qg (B:=w.heap.size+1) (X:=(w.alloc (.cells #[.int .i64 3,.int .i64 n,.string s] 85))) (by go_grown) (by go_size) hb;clear hb))
 all_goals go_wp2_with fail
 all_goals
  go_ret;exact⟨rfl,Yq (n:=1) (X:=(w.alloc (.cells #[.int .i64 3,.int .i64 n,.string s] 85))) (by go_grown) (by go_grown)⟩
theorem Kv (n:Int) (s:ByteArray) (w:World) (hR:YP n=true) (hq: ¬s.toList= []):Calls Tryz.prog 117 #[.agg #[.int .i64 3,.int .i64 n,.string s]] w fun e w'=>
  e= .returned (mNo)∧Below w.heap.size w w':=by
 go_enter Tryz.func117,Tryz.ntmps117
 go_wp2_with (first
  | (go_at_call 138;refine(Qj _ _ _ _).mono ?_;rintro e w1 ⟨rfl,hb⟩;have em:mBK 3 n s= .iface 175 (.int .i64 n):=rfl;rw [em];clear em;obtain⟨hk,hz⟩:=Qg (B:=w.heap.size+1) (X:=(w.alloc (.cells #[.int .i64 3,.int .i64 n,.string s] 85))) (by go_grown) (by go_size) hb;obtain⟨hC,hF,hL,hE⟩:=kp hb;clear hb))
 go_region_held3 (fun w'=>(∀bq oq,bq<w.heap.size+1→w'.cell? ⟨bq,oq,none⟩=(w.alloc (.cells #[.int .i64 3,.int .i64 n,.string s] 85)).cell? ⟨bq,oq,none⟩)∧w.heap.size+1≤w'.heap.size∧Below (w.heap.size+1) (w.alloc (.cells #[.int .i64 3,.int .i64 n,.string s] 85)) w')
  (exact Qk (by go_size) (by go_grown))
  (first
  | (go_at_call 276;refine(Yv _ _).mono ?_;rintro e w1 ⟨rfl,rfl⟩)
  | (go_at_call 277;refine(Vh _ _).mono ?_;rintro e w1 ⟨rfl,hb⟩;obtain⟨hk,hz⟩:=Qg (B:=w.heap.size+1) (X:=(w.alloc (.cells #[.int .i64 3,.int .i64 n,.string s] 85))) (by go_grown) (by go_size) hb;clear hb))
 all_goals go_wp2_with fail
 all_goals
  go_ret;exact⟨rfl,Yq (n:=1) (X:=(w.alloc (.cells #[.int .i64 3,.int .i64 n,.string s] 85))) (by go_grown) (by go_grown)⟩
theorem JZ (n:Int) (s:ByteArray) (w:World) (hR:Je n=true) (hq:s.toList= []):Calls Tryz.prog 117 #[.agg #[.int .i64 4,.int .i64 n,.string s]] w fun e w'=>
  e= .returned (.iface 176 (.int .i64 n))∧Below w.heap.size w w':=by
 go_enter Tryz.func117,Tryz.ntmps117
 go_wp2_with (first
  | (go_at_call 138;refine(Qj _ _ _ _).mono ?_;rintro e w1 ⟨rfl,hb⟩;have em:mBK 4 n s= .iface 176 (.int .i64 n):=rfl;rw [em];clear em;obtain⟨hk,hz⟩:=Qg (B:=w.heap.size+1) (X:=(w.alloc (.cells #[.int .i64 4,.int .i64 n,.string s] 85))) (by go_grown) (by go_size) hb;obtain⟨hC,hF,hL,hE⟩:=kp hb;clear hb))
 go_region_held3 (fun w'=>(∀bq oq,bq<w.heap.size+1→w'.cell? ⟨bq,oq,none⟩=(w.alloc (.cells #[.int .i64 4,.int .i64 n,.string s] 85)).cell? ⟨bq,oq,none⟩)∧w.heap.size+1≤w'.heap.size∧Below (w.heap.size+1) (w.alloc (.cells #[.int .i64 4,.int .i64 n,.string s] 85)) w')
  (exact Qk (by go_size) (by go_grown))
  (first
  | (go_at_call 278;refine(ZH _ _).mono ?_;rintro e w1 ⟨rfl,rfl⟩)
  | (go_at_call 279;refine(XM _ _).mono ?_;rintro e w1 ⟨rfl,hb⟩;obtain⟨hk,hz⟩:=Qg (B:=w.heap.size+1) (X:=(w.alloc (.cells #[.int .i64 4,.int .i64 n,.string s] 85))) (by go_grown) (by go_size) hb;clear hb))
 all_goals go_wp2_with fail
 all_goals
  go_ret;exact⟨rfl,Yq (n:=1) (X:=(w.alloc (.cells #[.int .i64 4,.int .i64 n,.string s] 85))) (by go_grown) (by go_grown)⟩
theorem Vb (n:Int) (s:ByteArray) (w:World) (hR:Je n=true) (hq: ¬s.toList= []):Calls Tryz.prog 117 #[.agg #[.int .i64 4,.int .i64 n,.string s]] w fun e w'=>
  e= .returned (mNo)∧Below w.heap.size w w':=by
 go_enter Tryz.func117,Tryz.ntmps117
 go_wp2_with (first
  | (go_at_call 138;refine(Qj _ _ _ _).mono ?_;rintro e w1 ⟨rfl,hb⟩;have em:mBK 4 n s= .iface 176 (.int .i64 n):=rfl;rw [em];clear em;obtain⟨hk,hz⟩:=Qg (B:=w.heap.size+1) (X:=(w.alloc (.cells #[.int .i64 4,.int .i64 n,.string s] 85))) (by go_grown) (by go_size) hb;obtain⟨hC,hF,hL,hE⟩:=kp hb;clear hb))
 go_region_held3 (fun w'=>(∀bq oq,bq<w.heap.size+1→w'.cell? ⟨bq,oq,none⟩=(w.alloc (.cells #[.int .i64 4,.int .i64 n,.string s] 85)).cell? ⟨bq,oq,none⟩)∧w.heap.size+1≤w'.heap.size∧Below (w.heap.size+1) (w.alloc (.cells #[.int .i64 4,.int .i64 n,.string s] 85)) w')
  (exact Qk (by go_size) (by go_grown))
  (first
  | (go_at_call 278;refine(ZH _ _).mono ?_;rintro e w1 ⟨rfl,rfl⟩)
  | (go_at_call 279;refine(XM _ _).mono ?_;rintro e w1 ⟨rfl,hb⟩;obtain⟨hk,hz⟩:=Qg (B:=w.heap.size+1) (X:=(w.alloc (.cells #[.int .i64 4,.int .i64 n,.string s] 85))) (by go_grown) (by go_size) hb;clear hb))
 all_goals go_wp2_with fail
 all_goals
  go_ret;exact⟨rfl,Yq (n:=1) (X:=(w.alloc (.cells #[.int .i64 4,.int .i64 n,.string s] 85))) (by go_grown) (by go_grown)⟩
theorem JV (s:ByteArray) (w:World) (hs:Hid (s.size≤maxLen)) (hR:QM s=true):Calls Tryz.prog 117 #[.agg #[.int .i64 2,.int .i64 0,.string s]] w fun e w'=>
  e= .returned (.iface 132 (.string s))∧Below w.heap.size w w':=by
 go_enter Tryz.func117,Tryz.ntmps117
 go_wp2_with (first
  | (go_at_call 138;refine(Qj _ _ _ _).mono ?_;rintro e w1 ⟨rfl,hb⟩;have em:mBK 2 0 s= .iface 132 (.string s):=rfl;rw [em];clear em;obtain⟨hk,hz⟩:=Qg (B:=w.heap.size+1) (X:=(w.alloc (.cells #[.int .i64 2,.int .i64 0,.string s] 85))) (by go_grown) (by go_size) hb;obtain⟨hC,hF,hL,hE⟩:=kp hb;clear hb))
 go_region_held3 (fun w'=>(∀bq oq,bq<w.heap.size+1→w'.cell? ⟨bq,oq,none⟩=(w.alloc (.cells #[.int .i64 2,.int .i64 0,.string s] 85)).cell? ⟨bq,oq,none⟩)∧w.heap.size+1≤w'.heap.size∧Below (w.heap.size+1) (w.alloc (.cells #[.int .i64 2,.int .i64 0,.string s] 85)) w')
  (exact Qk (by go_size) (by go_grown))
  (first
  | (go_at_call 267;refine(ZF _ _ hs.out).mono ?_;rintro e w1 ⟨rfl,rfl⟩)
  | (go_at_call 218;refine(YM _ _).mono ?_;rintro e w1 ⟨rfl,hb⟩;obtain⟨hk,hz⟩:=Qg (B:=w.heap.size+1) (X:=(w.alloc (.cells #[.int .i64 2,.int .i64 0,.string s] 85))) (by go_grown) (by go_size) hb;clear hb))
 all_goals go_wp2_with fail
 all_goals
  go_ret;exact⟨rfl,Yq (n:=1) (X:=(w.alloc (.cells #[.int .i64 2,.int .i64 0,.string s] 85))) (by go_grown) (by go_grown)⟩
theorem JX (n:Int) (s:ByteArray) (w:World) (hs:Hid (s.size≤maxLen)) (hR:QM s=true) (hq: ¬0=n):Calls Tryz.prog 117 #[.agg #[.int .i64 2,.int .i64 n,.string s]] w fun e w'=>
  e= .returned (mNo)∧Below w.heap.size w w':=by
 go_enter Tryz.func117,Tryz.ntmps117
 go_wp2_with (first
  | (go_at_call 138;refine(Qj _ _ _ _).mono ?_;rintro e w1 ⟨rfl,hb⟩;have em:mBK 2 n s= .iface 132 (.string s):=rfl;rw [em];clear em;obtain⟨hk,hz⟩:=Qg (B:=w.heap.size+1) (X:=(w.alloc (.cells #[.int .i64 2,.int .i64 n,.string s] 85))) (by go_grown) (by go_size) hb;obtain⟨hC,hF,hL,hE⟩:=kp hb;clear hb))
 go_region_held3 (fun w'=>(∀bq oq,bq<w.heap.size+1→w'.cell? ⟨bq,oq,none⟩=(w.alloc (.cells #[.int .i64 2,.int .i64 n,.string s] 85)).cell? ⟨bq,oq,none⟩)∧w.heap.size+1≤w'.heap.size∧Below (w.heap.size+1) (w.alloc (.cells #[.int .i64 2,.int .i64 n,.string s] 85)) w')
  (exact Qk (by go_size) (by go_grown))
  (first
  | (go_at_call 267;refine(ZF _ _ hs.out).mono ?_;rintro e w1 ⟨rfl,rfl⟩)
  | (go_at_call 218;refine(YM _ _).mono ?_;rintro e w1 ⟨rfl,hb⟩;obtain⟨hk,hz⟩:=Qg (B:=w.heap.size+1) (X:=(w.alloc (.cells #[.int .i64 2,.int .i64 n,.string s] 85))) (by go_grown) (by go_size) hb;clear hb))
 all_goals go_wp2_with fail
 all_goals
  go_ret;exact⟨rfl,Yq (n:=1) (X:=(w.alloc (.cells #[.int .i64 2,.int .i64 n,.string s] 85))) (by go_grown) (by go_grown)⟩
end Go.Proofs.YthjldgbfgapbcaaGreatDoor
