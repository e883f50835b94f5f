import Derived.Test.YtdcokcbolecanaaGreatDoorGaa
import Derived.Deep.RegionHeld3
import Derived.Deep.DeepCutAuto
import Derived.Laws.StructEq
import Derived.Deep.RegionWith
set_option linter.unusedSimpArgs false
set_option linter.unusedVariables false
set_option maxHeartbeats 1000000
namespace Go.Proofs.YtdcokcbolecanaaGreatDoor
open Go.RowKit
def Zp (l:List UInt8):Bool:=l.all fun b=>decide (32≤b.toNat∧b.toNat≤126)
def mBK (k n:Int) (s:ByteArray):Value:=
 if k=0 then .iface 191 (.agg #[])else if k=1 then .iface 179 (.int .i64 n)else if k=2 then .iface 173 (.string s)
 else if k=3 then .iface 192 (.int .i64 n)else if k=4 then .iface 193 (.int .i64 n)else .iface 190 (.agg #[])
def mNo:Value:= .iface 190 (.agg #[])
theorem YO {a b:Value} (h:a=b):Ending.returned a= .returned b:=by rw [h]
theorem Qf (k n:Int) (s:ByteArray) (w:World):Calls Tryz.prog 148 #[.agg #[.int .i64 k,.int .i64 n,.string s]] w fun e w'=>
  e= .returned (mBK k n s)∧Below w.heap.size w w':=by
 by_cases h0:k=0
 ·subst h0;go_enter Tryz.func148,Tryz.ntmps148;go_wp2
  go_ret;exact⟨YO (by simp [mBK]),by go_grown⟩
 by_cases h1:k=1
 ·subst h1;go_enter Tryz.func148,Tryz.ntmps148;go_wp2
  go_ret;exact⟨YO (by simp [mBK]),by go_grown⟩
 by_cases h2:k=2
 ·subst h2;go_enter Tryz.func148,Tryz.ntmps148;go_wp2
  go_ret;exact⟨YO (by simp [mBK]),by go_grown⟩
 by_cases h3:k=3
 ·subst h3;go_enter Tryz.func148,Tryz.ntmps148;go_wp2
  go_ret;exact⟨YO (by simp [mBK]),by go_grown⟩
 by_cases h4:k=4
 ·subst h4;go_enter Tryz.func148,Tryz.ntmps148;go_wp2
  go_ret;exact⟨YO (by simp [mBK]),by go_grown⟩
 ·have e0:(k==0)=false:=by simpa using h0
  have e1:(k==1)=false:=by simpa using h1
  have e2:(k==2)=false:=by simpa using h2
  have e3:(k==3)=false:=by simpa using h3
  have e4:(k==4)=false:=by simpa using h4
  go_enter Tryz.func148,Tryz.ntmps148;go_wp2
  go_ret;exact⟨YO (by simp [mBK,h0,h1,h2,h3,h4]),by go_grown⟩
def Zv (n:Int):Bool:=decide (-1000000000000000≤n∧n≤1000000000000000)
def Yg (n:Int):Bool:=decide (n=0∨n=1)
def YX (n:Int):Bool:=decide (1≤n∧n≤5)
def Qx (s:ByteArray):Bool:=decide (s.size≤200)&&Zp s.data.toList
theorem Zo (n:Int) (w:World):Calls Tryz.prog 249 #[.int .i64 n] w fun e w'=>
  e= .returned (.bool (Zv n))∧w'=w:=by
 go_enter Tryz.func249,Tryz.ntmps249;go_wp2
 all_goals
  go_ret;refine⟨Qa ?_,rfl⟩;rw [Bool.eq_iff_iff];unfold Zv;simp;try omega
theorem ZH (n:Int) (w:World):Calls Tryz.prog 257 #[.int .i64 n] w fun e w'=>
  e= .returned (.bool (Yg n))∧w'=w:=by
 go_enter Tryz.func257,Tryz.ntmps257;go_wp2
 all_goals
  go_ret;refine⟨Qa ?_,rfl⟩;rw [Bool.eq_iff_iff];unfold Yg;simp;try omega
theorem Zh (n:Int) (w:World):Calls Tryz.prog 259 #[.int .i64 n] w fun e w'=>
  e= .returned (.bool (YX n))∧w'=w:=by
 go_enter Tryz.func259,Tryz.ntmps259;go_wp2
 all_goals
  go_ret;refine⟨Qa ?_,rfl⟩;rw [Bool.eq_iff_iff];unfold YX;simp;try omega
theorem Xq (w:World):Calls Tryz.prog 251 #[.agg #[]] w fun e w'=>
  e= .returned (.bool (false))∧Below w.heap.size w w':=by
 go_enter Tryz.func251,Tryz.ntmps251;go_wp2
 all_goals
  go_ret;refine⟨Qa ?_,by go_grown⟩;rfl
theorem Yn (w:World):Calls Tryz.prog 254 #[.agg #[]] w fun e w'=>
  e= .returned (.bool (true))∧Below w.heap.size w w':=by
 go_enter Tryz.func254,Tryz.ntmps254;go_wp2
 all_goals
  go_ret;refine⟨Qa ?_,by go_grown⟩;rfl
theorem Yu (n:Int) (w:World):Calls Tryz.prog 138 #[.int .i64 n] w fun e w'=>
  e= .returned (.agg #[.int .i64 1,.int .i64 n,.string ⟨#[]⟩])∧Below w.heap.size w w':=by
 go_enter Tryz.func138,Tryz.ntmps138;go_wp2
 go_returns
 exact⟨rfl,by go_grown⟩
theorem XX (n:Int) (w:World):Calls Tryz.prog 258 #[.int .i64 n] w fun e w'=>
  e= .returned (.agg #[.int .i64 3,.int .i64 n,.string ⟨#[]⟩])∧Below w.heap.size w w':=by
 go_enter Tryz.func258,Tryz.ntmps258;go_wp2
 go_returns
 exact⟨rfl,by go_grown⟩
theorem YK (n:Int) (w:World):Calls Tryz.prog 260 #[.int .i64 n] w fun e w'=>
  e= .returned (.agg #[.int .i64 4,.int .i64 n,.string ⟨#[]⟩])∧Below w.heap.size w w':=by
 go_enter Tryz.func260,Tryz.ntmps260;go_wp2
 go_returns
 exact⟨rfl,by go_grown⟩
theorem Yd (s:ByteArray) (w:World):Calls Tryz.prog 206 #[.string s] w fun e w'=>
  e= .returned (.agg #[.int .i64 2,.int .i64 0,.string s])∧Below w.heap.size w w':=by
 go_enter Tryz.func206,Tryz.ntmps206;go_wp2
 go_returns
 exact⟨rfl,by go_grown⟩
theorem YI (w:World):Calls Tryz.prog 256 #[.agg #[]] w fun e w'=>
  e= .returned (.agg #[.int .i64 0,.int .i64 0,.string ⟨#[]⟩])∧Below w.heap.size w w':=by
 go_enter Tryz.func256,Tryz.ntmps256;go_wp2
 go_returns
 exact⟨rfl,by go_grown⟩
theorem Gf (s:ByteArray) (k:Nat) (h:k<s.size):Zp (s.data.toList.take (k+1))=(Zp (s.data.toList.take k)&&decide (32≤s[k].toNat∧s[k].toNat≤126)):=by
 have e:s.data.toList.take (k+1)=s.data.toList.take k++ [s[k]]:=by
  rw [List.take_succ_eq_append_getElem (by simpa using h)];rfl
 rw [e];simp [Zp]
theorem OY (s:ByteArray) (k:Nat) (h:k<s.size) (hb: ¬(32≤s[k].toNat∧s[k].toNat≤126)):Zp s.data.toList=false:=by
 cases e:Zp s.data.toList
 ·rfl
 ·have:=List.all_eq_true.1 e s[k] (Array.mem_toList_iff.2 (Array.getElem_mem h));exact absurd (of_decide_eq_true this) hb
theorem Xs (s:ByteArray) (w:World) (hs:s.size≤maxLen):Calls Tryz.prog 113 #[.string s] w fun e w'=>
  e= .returned (.bool (Zp s.data.toList))∧w'=w:=by
 unfold maxLen at hs;go_enter Tryz.func113,Tryz.ntmps113;go_wp2_with fail
 go_loop [6] (fun v=> ∃k:Nat,k≤s.size∧v= .int .i64 k∧Zp (s.data.toList.take k)=true) (fun v=>s.size-(intOf v).toNat)
 case atStart=>exact⟨0,by omega,rfl,rfl⟩
 case round=>
  obtain⟨k,hk,rfl,hr⟩:=hrel;have HR:Hid (Zp (s.data.toList.take k)=true):=hr;clear hr;by_cases hlt:k<s.size
  ·have HT:Hid (Zp (s.data.toList.take (k+1))=(Zp (s.data.toList.take k)&&decide (32≤s[k].toNat∧s[k].toNat≤126))):=Gf s k hlt;by_cases hb:32≤s[k].toNat∧s[k].toNat≤126
   ·have hb1: ¬((s[k].toNat:Int)<32):=by omega
    have hb2: ¬(126<(s[k].toNat:Int)):=by omega
    go_wp2
    all_goals
     go_round
     case rel=>exact⟨k+1,by omega,by go_num,by rw [HT.out,HR.out];simp;omega⟩
     case measure=>simp [intOf];omega
   ·have HF:Hid (Zp s.data.toList=false):=OY s k hlt hb;by_cases hb1:(s[k].toNat:Int)<32
    ·go_wp2
     go_ret;exact⟨Qa HF.out.symm,rfl⟩
    ·have hb2:126<(s[k].toNat:Int):=by omega
     go_wp2
     go_ret;exact⟨Qa HF.out.symm,rfl⟩
  ·go_wp2
   go_ret;have HA:=HR.out;rw [List.take_of_length_le (by simp;omega)]at HA;exact⟨Qa HA.symm,rfl⟩
theorem Zg (s:ByteArray) (w:World) (hs:s.size≤maxLen):Calls Tryz.prog 248 #[.string s] w fun e w'=>
  e= .returned (.bool (Qx s))∧w'=w:=by
 have hs':=hs;unfold maxLen at hs';go_enter Tryz.func248,Tryz.ntmps248
 go_wp2_with (first
  | (go_at_call 113;refine(Xs _ _ hs).mono ?_;rintro e w1 ⟨rfl,rfl⟩))
 all_goals
  go_ret;refine⟨Qa ?_,rfl⟩;unfold Qx;simp_all
  try omega
theorem JO (s:ByteArray) (w:World) (hq:s.toList= []):Calls Tryz.prog 140 #[.agg #[.int .i64 0,.int .i64 0,.string s]] w fun e w'=>
  e= .returned (.iface 191 (.agg #[]))∧Below w.heap.size w w':=by
 go_enter Tryz.func140,Tryz.ntmps140
 go_wp2_with (first
  | (go_at_call 148;refine(Qf _ _ _ _).mono ?_;rintro e w1 ⟨rfl,hb⟩;have em:mBK 0 0 s= .iface 191 (.agg #[]):=rfl;rw [em];clear em;obtain⟨hk,hz⟩:=Qe (B:=w.heap.size+1) (X:=(w.alloc (.cells #[.int .i64 0,.int .i64 0,.string s] 115))) (by go_grown) (by go_size) hb;obtain⟨hC,hF,hL,hE⟩:=kp hb;clear hb))
 go_region_held3 (fun w'=>(∀bq oq,bq<w.heap.size+1→w'.cell? ⟨bq,oq,none⟩=(w.alloc (.cells #[.int .i64 0,.int .i64 0,.string s] 115)).cell? ⟨bq,oq,none⟩)∧w.heap.size+1≤w'.heap.size∧Below (w.heap.size+1) (w.alloc (.cells #[.int .i64 0,.int .i64 0,.string s] 115)) w')
  (exact Qk (by go_size) (by go_grown))
  (first
  | (go_at_call 254;refine(Yn _).mono ?_;rintro e w1 ⟨rfl,hb⟩;obtain⟨hk,hz⟩:=Qe (B:=w.heap.size+1) (X:=(w.alloc (.cells #[.int .i64 0,.int .i64 0,.string s] 115))) (by go_grown) (by go_size) hb;clear hb)
  | (go_at_call 256;refine(YI _).mono ?_;rintro e w1 ⟨rfl,hb⟩;obtain⟨hk,hz⟩:=Qe (B:=w.heap.size+1) (X:=(w.alloc (.cells #[.int .i64 0,.int .i64 0,.string s] 115))) (by go_grown) (by go_size) hb;clear hb))
 all_goals go_wp2_with fail
 all_goals
  go_ret;exact⟨rfl,Zz (n:=1) (X:=(w.alloc (.cells #[.int .i64 0,.int .i64 0,.string s] 115))) (by go_grown) (by go_grown)⟩
theorem JP (s:ByteArray) (w:World) (hq: ¬s.toList= []):Calls Tryz.prog 140 #[.agg #[.int .i64 0,.int .i64 0,.string s]] w fun e w'=>
  e= .returned (mNo)∧Below w.heap.size w w':=by
 go_enter Tryz.func140,Tryz.ntmps140
 go_wp2_with (first
  | (go_at_call 148;refine(Qf _ _ _ _).mono ?_;rintro e w1 ⟨rfl,hb⟩;have em:mBK 0 0 s= .iface 191 (.agg #[]):=rfl;rw [em];clear em;obtain⟨hk,hz⟩:=Qe (B:=w.heap.size+1) (X:=(w.alloc (.cells #[.int .i64 0,.int .i64 0,.string s] 115))) (by go_grown) (by go_size) hb;obtain⟨hC,hF,hL,hE⟩:=kp hb;clear hb))
 go_region_held3 (fun w'=>(∀bq oq,bq<w.heap.size+1→w'.cell? ⟨bq,oq,none⟩=(w.alloc (.cells #[.int .i64 0,.int .i64 0,.string s] 115)).cell? ⟨bq,oq,none⟩)∧w.heap.size+1≤w'.heap.size∧Below (w.heap.size+1) (w.alloc (.cells #[.int .i64 0,.int .i64 0,.string s] 115)) w')
  (exact Qk (by go_size) (by go_grown))
  (first
  | (go_at_call 254;refine(Yn _).mono ?_;rintro e w1 ⟨rfl,hb⟩;obtain⟨hk,hz⟩:=Qe (B:=w.heap.size+1) (X:=(w.alloc (.cells #[.int .i64 0,.int .i64 0,.string s] 115))) (by go_grown) (by go_size) hb;clear hb)
  | (go_at_call 256;refine(YI _).mono ?_;rintro e w1 ⟨rfl,hb⟩;obtain⟨hk,hz⟩:=Qe (B:=w.heap.size+1) (X:=(w.alloc (.cells #[.int .i64 0,.int .i64 0,.string s] 115))) (by go_grown) (by go_size) hb;clear hb))
 all_goals go_wp2_with fail
 all_goals
  go_ret;exact⟨rfl,Zz (n:=1) (X:=(w.alloc (.cells #[.int .i64 0,.int .i64 0,.string s] 115))) (by go_grown) (by go_grown)⟩
theorem JQ (n:Int) (s:ByteArray) (w:World) (hq: ¬0=n):Calls Tryz.prog 140 #[.agg #[.int .i64 0,.int .i64 n,.string s]] w fun e w'=>
  e= .returned (mNo)∧Below w.heap.size w w':=by
 go_enter Tryz.func140,Tryz.ntmps140
 go_wp2_with (first
  | (go_at_call 148;refine(Qf _ _ _ _).mono ?_;rintro e w1 ⟨rfl,hb⟩;have em:mBK 0 n s= .iface 191 (.agg #[]):=rfl;rw [em];clear em;obtain⟨hk,hz⟩:=Qe (B:=w.heap.size+1) (X:=(w.alloc (.cells #[.int .i64 0,.int .i64 n,.string s] 115))) (by go_grown) (by go_size) hb;obtain⟨hC,hF,hL,hE⟩:=kp hb;clear hb))
 go_region_held3 (fun w'=>(∀bq oq,bq<w.heap.size+1→w'.cell? ⟨bq,oq,none⟩=(w.alloc (.cells #[.int .i64 0,.int .i64 n,.string s] 115)).cell? ⟨bq,oq,none⟩)∧w.heap.size+1≤w'.heap.size∧Below (w.heap.size+1) (w.alloc (.cells #[.int .i64 0,.int .i64 n,.string s] 115)) w')
  (exact Qk (by go_size) (by go_grown))
  (first
  | (go_at_call 254;refine(Yn _).mono ?_;rintro e w1 ⟨rfl,hb⟩;obtain⟨hk,hz⟩:=Qe (B:=w.heap.size+1) (X:=(w.alloc (.cells #[.int .i64 0,.int .i64 n,.string s] 115))) (by go_grown) (by go_size) hb;clear hb)
  | (go_at_call 256;refine(YI _).mono ?_;rintro e w1 ⟨rfl,hb⟩;obtain⟨hk,hz⟩:=Qe (B:=w.heap.size+1) (X:=(w.alloc (.cells #[.int .i64 0,.int .i64 n,.string s] 115))) (by go_grown) (by go_size) hb;clear hb))
 all_goals go_wp2_with fail
 all_goals
  go_ret;exact⟨rfl,Zz (n:=1) (X:=(w.alloc (.cells #[.int .i64 0,.int .i64 n,.string s] 115))) (by go_grown) (by go_grown)⟩
theorem Jf (n:Int) (s:ByteArray) (w:World) (hR:Zv n=true) (hq:s.toList= []):Calls Tryz.prog 140 #[.agg #[.int .i64 1,.int .i64 n,.string s]] w fun e w'=>
  e= .returned (.iface 179 (.int .i64 n))∧Below w.heap.size w w':=by
 go_enter Tryz.func140,Tryz.ntmps140
 go_wp2_with (first
  | (go_at_call 148;refine(Qf _ _ _ _).mono ?_;rintro e w1 ⟨rfl,hb⟩;have em:mBK 1 n s= .iface 179 (.int .i64 n):=rfl;rw [em];clear em;obtain⟨hk,hz⟩:=Qe (B:=w.heap.size+1) (X:=(w.alloc (.cells #[.int .i64 1,.int .i64 n,.string s] 115))) (by go_grown) (by go_size) hb;obtain⟨hC,hF,hL,hE⟩:=kp hb;clear hb))
 go_region_held3 (fun w'=>(∀bq oq,bq<w.heap.size+1→w'.cell? ⟨bq,oq,none⟩=(w.alloc (.cells #[.int .i64 1,.int .i64 n,.string s] 115)).cell? ⟨bq,oq,none⟩)∧w.heap.size+1≤w'.heap.size∧Below (w.heap.size+1) (w.alloc (.cells #[.int .i64 1,.int .i64 n,.string s] 115)) w')
  (exact Qk (by go_size) (by go_grown))
  (first
  | (go_at_call 249;refine(Zo _ _).mono ?_;rintro e w1 ⟨rfl,rfl⟩)
  | (go_at_call 138;refine(Yu _ _).mono ?_;rintro e w1 ⟨rfl,hb⟩;obtain⟨hk,hz⟩:=Qe (B:=w.heap.size+1) (X:=(w.alloc (.cells #[.int .i64 1,.int .i64 n,.string s] 115))) (by go_grown) (by go_size) hb;clear hb))
 all_goals go_wp2_with fail
 all_goals
  go_ret;exact⟨rfl,Zz (n:=1) (X:=(w.alloc (.cells #[.int .i64 1,.int .i64 n,.string s] 115))) (by go_grown) (by go_grown)⟩
theorem Jh (n:Int) (s:ByteArray) (w:World) (hR:Zv n=true) (hq: ¬s.toList= []):Calls Tryz.prog 140 #[.agg #[.int .i64 1,.int .i64 n,.string s]] w fun e w'=>
  e= .returned (mNo)∧Below w.heap.size w w':=by
 go_enter Tryz.func140,Tryz.ntmps140
 go_wp2_with (first
  | (go_at_call 148;refine(Qf _ _ _ _).mono ?_;rintro e w1 ⟨rfl,hb⟩;have em:mBK 1 n s= .iface 179 (.int .i64 n):=rfl;rw [em];clear em;obtain⟨hk,hz⟩:=Qe (B:=w.heap.size+1) (X:=(w.alloc (.cells #[.int .i64 1,.int .i64 n,.string s] 115))) (by go_grown) (by go_size) hb;obtain⟨hC,hF,hL,hE⟩:=kp hb;clear hb))
 go_region_held3 (fun w'=>(∀bq oq,bq<w.heap.size+1→w'.cell? ⟨bq,oq,none⟩=(w.alloc (.cells #[.int .i64 1,.int .i64 n,.string s] 115)).cell? ⟨bq,oq,none⟩)∧w.heap.size+1≤w'.heap.size∧Below (w.heap.size+1) (w.alloc (.cells #[.int .i64 1,.int .i64 n,.string s] 115)) w')
  (exact Qk (by go_size) (by go_grown))
  (first
  | (go_at_call 249;refine(Zo _ _).mono ?_;rintro e w1 ⟨rfl,rfl⟩)
  | (go_at_call 138;refine(Yu _ _).mono ?_;rintro e w1 ⟨rfl,hb⟩;obtain⟨hk,hz⟩:=Qe (B:=w.heap.size+1) (X:=(w.alloc (.cells #[.int .i64 1,.int .i64 n,.string s] 115))) (by go_grown) (by go_size) hb;clear hb))
 all_goals go_wp2_with fail
 all_goals
  go_ret;exact⟨rfl,Zz (n:=1) (X:=(w.alloc (.cells #[.int .i64 1,.int .i64 n,.string s] 115))) (by go_grown) (by go_grown)⟩
theorem JL (n:Int) (s:ByteArray) (w:World) (hR:Yg n=true) (hq:s.toList= []):Calls Tryz.prog 140 #[.agg #[.int .i64 3,.int .i64 n,.string s]] w fun e w'=>
  e= .returned (.iface 192 (.int .i64 n))∧Below w.heap.size w w':=by
 go_enter Tryz.func140,Tryz.ntmps140
 go_wp2_with (first
  | (go_at_call 148;refine(Qf _ _ _ _).mono ?_;rintro e w1 ⟨rfl,hb⟩;have em:mBK 3 n s= .iface 192 (.int .i64 n):=rfl;rw [em];clear em;obtain⟨hk,hz⟩:=Qe (B:=w.heap.size+1) (X:=(w.alloc (.cells #[.int .i64 3,.int .i64 n,.string s] 115))) (by go_grown) (by go_size) hb;obtain⟨hC,hF,hL,hE⟩:=kp hb;clear hb))
 go_region_held3 (fun w'=>(∀bq oq,bq<w.heap.size+1→w'.cell? ⟨bq,oq,none⟩=(w.alloc (.cells #[.int .i64 3,.int .i64 n,.string s] 115)).cell? ⟨bq,oq,none⟩)∧w.heap.size+1≤w'.heap.size∧Below (w.heap.size+1) (w.alloc (.cells #[.int .i64 3,.int .i64 n,.string s] 115)) w')
  (exact Qk (by go_size) (by go_grown))
  (first
  | (go_at_call 257;refine(ZH _ _).mono ?_;rintro e w1 ⟨rfl,rfl⟩)
  | (go_at_call 258;refine(XX _ _).mono ?_;rintro e w1 ⟨rfl,hb⟩;obtain⟨hk,hz⟩:=Qe (B:=w.heap.size+1) (X:=(w.alloc (.cells #[.int .i64 3,.int .i64 n,.string s] 115))) (by go_grown) (by go_size) hb;clear hb))
 all_goals go_wp2_with fail
 all_goals
  go_ret;exact⟨rfl,Zz (n:=1) (X:=(w.alloc (.cells #[.int .i64 3,.int .i64 n,.string s] 115))) (by go_grown) (by go_grown)⟩
theorem JN (n:Int) (s:ByteArray) (w:World) (hR:Yg n=true) (hq: ¬s.toList= []):Calls Tryz.prog 140 #[.agg #[.int .i64 3,.int .i64 n,.string s]] w fun e w'=>
  e= .returned (mNo)∧Below w.heap.size w w':=by
 go_enter Tryz.func140,Tryz.ntmps140
 go_wp2_with (first
  | (go_at_call 148;refine(Qf _ _ _ _).mono ?_;rintro e w1 ⟨rfl,hb⟩;have em:mBK 3 n s= .iface 192 (.int .i64 n):=rfl;rw [em];clear em;obtain⟨hk,hz⟩:=Qe (B:=w.heap.size+1) (X:=(w.alloc (.cells #[.int .i64 3,.int .i64 n,.string s] 115))) (by go_grown) (by go_size) hb;obtain⟨hC,hF,hL,hE⟩:=kp hb;clear hb))
 go_region_held3 (fun w'=>(∀bq oq,bq<w.heap.size+1→w'.cell? ⟨bq,oq,none⟩=(w.alloc (.cells #[.int .i64 3,.int .i64 n,.string s] 115)).cell? ⟨bq,oq,none⟩)∧w.heap.size+1≤w'.heap.size∧Below (w.heap.size+1) (w.alloc (.cells #[.int .i64 3,.int .i64 n,.string s] 115)) w')
  (exact Qk (by go_size) (by go_grown))
  (first
  | (go_at_call 257;refine(ZH _ _).mono ?_;rintro e w1 ⟨rfl,rfl⟩)
  | (go_at_call 258;refine(XX _ _).mono ?_;rintro e w1 ⟨rfl,hb⟩;obtain⟨hk,hz⟩:=Qe (B:=w.heap.size+1) (X:=(w.alloc (.cells #[.int .i64 3,.int .i64 n,.string s] 115))) (by go_grown) (by go_size) hb;clear hb))
 all_goals go_wp2_with fail
 all_goals
  go_ret;exact⟨rfl,Zz (n:=1) (X:=(w.alloc (.cells #[.int .i64 3,.int .i64 n,.string s] 115))) (by go_grown) (by go_grown)⟩
theorem XO (n:Int) (s:ByteArray) (w:World) (hR:YX n=true) (hq:s.toList= []):Calls Tryz.prog 140 #[.agg #[.int .i64 4,.int .i64 n,.string s]] w fun e w'=>
  e= .returned (.iface 193 (.int .i64 n))∧Below w.heap.size w w':=by
 go_enter Tryz.func140,Tryz.ntmps140
 go_wp2_with (first
  | (go_at_call 148;refine(Qf _ _ _ _).mono ?_;rintro e w1 ⟨rfl,hb⟩;have em:mBK 4 n s= .iface 193 (.int .i64 n):=rfl;rw [em];clear em;obtain⟨hk,hz⟩:=Qe (B:=w.heap.size+1) (X:=(w.alloc (.cells #[.int .i64 4,.int .i64 n,.string s] 115))) (by go_grown) (by go_size) hb;obtain⟨hC,hF,hL,hE⟩:=kp hb;clear hb))
 go_region_held3 (fun w'=>(∀bq oq,bq<w.heap.size+1→w'.cell? ⟨bq,oq,none⟩=(w.alloc (.cells #[.int .i64 4,.int .i64 n,.string s] 115)).cell? ⟨bq,oq,none⟩)∧w.heap.size+1≤w'.heap.size∧Below (w.heap.size+1) (w.alloc (.cells #[.int .i64 4,.int .i64 n,.string s] 115)) w')
  (exact Qk (by go_size) (by go_grown))
  (first
  | (go_at_call 259;refine(Zh _ _).mono ?_;rintro e w1 ⟨rfl,rfl⟩)
  | (go_at_call 260;refine(YK _ _).mono ?_;rintro e w1 ⟨rfl,hb⟩;obtain⟨hk,hz⟩:=Qe (B:=w.heap.size+1) (X:=(w.alloc (.cells #[.int .i64 4,.int .i64 n,.string s] 115))) (by go_grown) (by go_size) hb;clear hb))
 all_goals go_wp2_with fail
 all_goals
  go_ret;exact⟨rfl,Zz (n:=1) (X:=(w.alloc (.cells #[.int .i64 4,.int .i64 n,.string s] 115))) (by go_grown) (by go_grown)⟩
theorem XQ (n:Int) (s:ByteArray) (w:World) (hR:YX n=true) (hq: ¬s.toList= []):Calls Tryz.prog 140 #[.agg #[.int .i64 4,.int .i64 n,.string s]] w fun e w'=>
  e= .returned (mNo)∧Below w.heap.size w w':=by
 go_enter Tryz.func140,Tryz.ntmps140
 go_wp2_with (first
  | (go_at_call 148;refine(Qf _ _ _ _).mono ?_;rintro e w1 ⟨rfl,hb⟩;have em:mBK 4 n s= .iface 193 (.int .i64 n):=rfl;rw [em];clear em;obtain⟨hk,hz⟩:=Qe (B:=w.heap.size+1) (X:=(w.alloc (.cells #[.int .i64 4,.int .i64 n,.string s] 115))) (by go_grown) (by go_size) hb;obtain⟨hC,hF,hL,hE⟩:=kp hb;clear hb))
 go_region_held3 (fun w'=>(∀bq oq,bq<w.heap.size+1→w'.cell? ⟨bq,oq,none⟩=(w.alloc (.cells #[.int .i64 4,.int .i64 n,.string s] 115)).cell? ⟨bq,oq,none⟩)∧w.heap.size+1≤w'.heap.size∧Below (w.heap.size+1) (w.alloc (.cells #[.int .i64 4,.int .i64 n,.string s] 115)) w')
  (exact Qk (by go_size) (by go_grown))
  (first
  | (go_at_call 259;refine(Zh _ _).mono ?_;rintro e w1 ⟨rfl,rfl⟩)
  | (go_at_call 260;refine(YK _ _).mono ?_;rintro e w1 ⟨rfl,hb⟩;obtain⟨hk,hz⟩:=Qe (B:=w.heap.size+1) (X:=(w.alloc (.cells #[.int .i64 4,.int .i64 n,.string s] 115))) (by go_grown) (by go_size) hb;clear hb))
 all_goals go_wp2_with fail
 all_goals
  go_ret;exact⟨rfl,Zz (n:=1) (X:=(w.alloc (.cells #[.int .i64 4,.int .i64 n,.string s] 115))) (by go_grown) (by go_grown)⟩
theorem XL (s:ByteArray) (w:World) (hs:Hid (s.size≤maxLen)) (hR:Qx s=true):Calls Tryz.prog 140 #[.agg #[.int .i64 2,.int .i64 0,.string s]] w fun e w'=>
  e= .returned (.iface 173 (.string s))∧Below w.heap.size w w':=by
 go_enter Tryz.func140,Tryz.ntmps140
 go_wp2_with (first
  | (go_at_call 148;refine(Qf _ _ _ _).mono ?_;rintro e w1 ⟨rfl,hb⟩;have em:mBK 2 0 s= .iface 173 (.string s):=rfl;rw [em];clear em;obtain⟨hk,hz⟩:=Qe (B:=w.heap.size+1) (X:=(w.alloc (.cells #[.int .i64 2,.int .i64 0,.string s] 115))) (by go_grown) (by go_size) hb;obtain⟨hC,hF,hL,hE⟩:=kp hb;clear hb))
 go_region_held3 (fun w'=>(∀bq oq,bq<w.heap.size+1→w'.cell? ⟨bq,oq,none⟩=(w.alloc (.cells #[.int .i64 2,.int .i64 0,.string s] 115)).cell? ⟨bq,oq,none⟩)∧w.heap.size+1≤w'.heap.size∧Below (w.heap.size+1) (w.alloc (.cells #[.int .i64 2,.int .i64 0,.string s] 115)) w')
  (exact Qk (by go_size) (by go_grown))
  (first
  | (go_at_call 248;refine(Zg _ _ hs.out).mono ?_;rintro e w1 ⟨rfl,rfl⟩)
  | (go_at_call 206;refine(Yd _ _).mono ?_;rintro e w1 ⟨rfl,hb⟩;obtain⟨hk,hz⟩:=Qe (B:=w.heap.size+1) (X:=(w.alloc (.cells #[.int .i64 2,.int .i64 0,.string s] 115))) (by go_grown) (by go_size) hb;clear hb))
 all_goals go_wp2_with fail
 all_goals
  go_ret;exact⟨rfl,Zz (n:=1) (X:=(w.alloc (.cells #[.int .i64 2,.int .i64 0,.string s] 115))) (by go_grown) (by go_grown)⟩
theorem XN (n:Int) (s:ByteArray) (w:World) (hs:Hid (s.size≤maxLen)) (hR:Qx s=true) (hq: ¬0=n):Calls Tryz.prog 140 #[.agg #[.int .i64 2,.int .i64 n,.string s]] w fun e w'=>
  e= .returned (mNo)∧Below w.heap.size w w':=by
 go_enter Tryz.func140,Tryz.ntmps140
 go_wp2_with (first
  | (go_at_call 148;refine(Qf _ _ _ _).mono ?_;rintro e w1 ⟨rfl,hb⟩;have em:mBK 2 n s= .iface 173 (.string s):=rfl;rw [em];clear em;obtain⟨hk,hz⟩:=Qe (B:=w.heap.size+1) (X:=(w.alloc (.cells #[.int .i64 2,.int .i64 n,.string s] 115))) (by go_grown) (by go_size) hb;obtain⟨hC,hF,hL,hE⟩:=kp hb;clear hb))
 go_region_held3 (fun w'=>(∀bq oq,bq<w.heap.size+1→w'.cell? ⟨bq,oq,none⟩=(w.alloc (.cells #[.int .i64 2,.int .i64 n,.string s] 115)).cell? ⟨bq,oq,none⟩)∧w.heap.size+1≤w'.heap.size∧Below (w.heap.size+1) (w.alloc (.cells #[.int .i64 2,.int .i64 n,.string s] 115)) w')
  (exact Qk (by go_size) (by go_grown))
  (first
  | (go_at_call 248;refine(Zg _ _ hs.out).mono ?_;rintro e w1 ⟨rfl,rfl⟩)
  | (go_at_call 206;refine(Yd _ _).mono ?_;rintro e w1 ⟨rfl,hb⟩;obtain⟨hk,hz⟩:=Qe (B:=w.heap.size+1) (X:=(w.alloc (.cells #[.int .i64 2,.int .i64 n,.string s] 115))) (by go_grown) (by go_size) hb;clear hb))
 all_goals go_wp2_with fail
 all_goals
  go_ret;exact⟨rfl,Zz (n:=1) (X:=(w.alloc (.cells #[.int .i64 2,.int .i64 n,.string s] 115))) (by go_grown) (by go_grown)⟩
theorem Kt (n:Int) (w:World) (hR:Zv n=false):Calls Tryz.prog 249 #[.int .i64 n] w fun e w'=>e= .returned (.bool false)∧w'=w:=
 (Zo n w).mono fun _ _ h=>⟨by rw [h.1,hR],h.2⟩
theorem Hg (n:Int) (w:World) (hR:Yg n=false):Calls Tryz.prog 257 #[.int .i64 n] w fun e w'=>e= .returned (.bool false)∧w'=w:=
 (ZH n w).mono fun _ _ h=>⟨by rw [h.1,hR],h.2⟩
theorem VN (n:Int) (w:World) (hR:YX n=false):Calls Tryz.prog 259 #[.int .i64 n] w fun e w'=>e= .returned (.bool false)∧w'=w:=
 (Zh n w).mono fun _ _ h=>⟨by rw [h.1,hR],h.2⟩
theorem VM (s:ByteArray) (w:World) (hs:s.size≤maxLen) (hR:Qx s=false):Calls Tryz.prog 248 #[.string s] w fun e w'=>e= .returned (.bool false)∧w'=w:=
 (Zg s w hs).mono fun _ _ h=>⟨by rw [h.1,hR],h.2⟩
theorem Jg (n:Int) (s:ByteArray) (w:World) (hR:Zv n=false):Calls Tryz.prog 140 #[.agg #[.int .i64 1,.int .i64 n,.string s]] w fun e w'=>
  e= .returned (mNo)∧Below w.heap.size w w':=by
 go_enter Tryz.func140,Tryz.ntmps140
 go_wp2_with (first
  | (go_at_call 148;refine(Qf _ _ _ _).mono ?_;rintro e w1 ⟨rfl,hb⟩;have em:mBK 1 n s= .iface 179 (.int .i64 n):=rfl;rw [em];clear em;obtain⟨hk,hz⟩:=Qe (B:=w.heap.size+1) (X:=(w.alloc (.cells #[.int .i64 1,.int .i64 n,.string s] 115))) (by go_grown) (by go_size) hb;obtain⟨hC,hF,hL,hE⟩:=kp hb;clear hb))
 first
  | (go_region_with (first
   | (go_at_call 249;refine(Kt _ _ hR).mono ?_;rintro e w1 ⟨rfl,rfl⟩)))
  | fail
 all_goals go_wp2_with fail
 all_goals
  go_ret;exact⟨rfl,Zz (n:=1) (X:=(w.alloc (.cells #[.int .i64 1,.int .i64 n,.string s] 115))) (by go_grown) (by go_grown)⟩
theorem JM (n:Int) (s:ByteArray) (w:World) (hR:Yg n=false):Calls Tryz.prog 140 #[.agg #[.int .i64 3,.int .i64 n,.string s]] w fun e w'=>
  e= .returned (mNo)∧Below w.heap.size w w':=by
 go_enter Tryz.func140,Tryz.ntmps140
 go_wp2_with (first
  | (go_at_call 148;refine(Qf _ _ _ _).mono ?_;rintro e w1 ⟨rfl,hb⟩;have em:mBK 3 n s= .iface 192 (.int .i64 n):=rfl;rw [em];clear em;obtain⟨hk,hz⟩:=Qe (B:=w.heap.size+1) (X:=(w.alloc (.cells #[.int .i64 3,.int .i64 n,.string s] 115))) (by go_grown) (by go_size) hb;obtain⟨hC,hF,hL,hE⟩:=kp hb;clear hb))
 first
  | (go_region_with (first
   | (go_at_call 257;refine(Hg _ _ hR).mono ?_;rintro e w1 ⟨rfl,rfl⟩)))
  | fail
 all_goals go_wp2_with fail
 all_goals
  go_ret;exact⟨rfl,Zz (n:=1) (X:=(w.alloc (.cells #[.int .i64 3,.int .i64 n,.string s] 115))) (by go_grown) (by go_grown)⟩
theorem XP (n:Int) (s:ByteArray) (w:World) (hR:YX n=false):Calls Tryz.prog 140 #[.agg #[.int .i64 4,.int .i64 n,.string s]] w fun e w'=>
  e= .returned (mNo)∧Below w.heap.size w w':=by
 go_enter Tryz.func140,Tryz.ntmps140
 go_wp2_with (first
  | (go_at_call 148;refine(Qf _ _ _ _).mono ?_;rintro e w1 ⟨rfl,hb⟩;have em:mBK 4 n s= .iface 193 (.int .i64 n):=rfl;rw [em];clear em;obtain⟨hk,hz⟩:=Qe (B:=w.heap.size+1) (X:=(w.alloc (.cells #[.int .i64 4,.int .i64 n,.string s] 115))) (by go_grown) (by go_size) hb;obtain⟨hC,hF,hL,hE⟩:=kp hb;clear hb))
 first
  | (go_region_with (first
   | (go_at_call 259;refine(VN _ _ hR).mono ?_;rintro e w1 ⟨rfl,rfl⟩)))
  | fail
 all_goals go_wp2_with fail
 all_goals
  go_ret;exact⟨rfl,Zz (n:=1) (X:=(w.alloc (.cells #[.int .i64 4,.int .i64 n,.string s] 115))) (by go_grown) (by go_grown)⟩
theorem XM (n:Int) (s:ByteArray) (w:World) (hs:Hid (s.size≤maxLen)) (hR:Qx s=false):Calls Tryz.prog 140 #[.agg #[.int .i64 2,.int .i64 n,.string s]] w fun e w'=>
  e= .returned (mNo)∧Below w.heap.size w w':=by
 go_enter Tryz.func140,Tryz.ntmps140
 go_wp2_with (first
  | (go_at_call 148;refine(Qf _ _ _ _).mono ?_;rintro e w1 ⟨rfl,hb⟩;have em:mBK 2 n s= .iface 173 (.string s):=rfl;rw [em];clear em;obtain⟨hk,hz⟩:=Qe (B:=w.heap.size+1) (X:=(w.alloc (.cells #[.int .i64 2,.int .i64 n,.string s] 115))) (by go_grown) (by go_size) hb;obtain⟨hC,hF,hL,hE⟩:=kp hb;clear hb))
 first
  | (go_region_with (first
   | (go_at_call 248;refine(VM _ _ hs.out hR).mono ?_;rintro e w1 ⟨rfl,rfl⟩)))
  | fail
 all_goals go_wp2_with fail
 all_goals
  go_ret;exact⟨rfl,Zz (n:=1) (X:=(w.alloc (.cells #[.int .i64 2,.int .i64 n,.string s] 115))) (by go_grown) (by go_grown)⟩
theorem Ji (k:Int) (n:Int) (s:ByteArray) (w:World) (HM:Hid (mBK k n s= .iface 190 (.agg #[]))):Calls Tryz.prog 140 #[.agg #[.int .i64 k,.int .i64 n,.string s]] w fun e w'=>
  e= .returned (mNo)∧Below w.heap.size w w':=by
 go_enter Tryz.func140,Tryz.ntmps140
 go_wp2_with (first
  | (go_at_call 148;refine(Qf _ _ _ _).mono ?_;rintro e w1 ⟨rfl,hb⟩;rw [HM.out];obtain⟨hk,hz⟩:=Qe (B:=w.heap.size+1) (X:=(w.alloc (.cells #[.int .i64 k,.int .i64 n,.string s] 115))) (by go_grown) (by go_size) hb;obtain⟨hC,hF,hL,hE⟩:=kp hb;clear hb))
 first
  | (go_region_with (first
   | (go_at_call 251;refine(Xq _).mono ?_;rintro e w1 ⟨rfl,hb⟩;obtain⟨hk,hz⟩:=Qe (B:=w.heap.size+1) (X:=(w.alloc (.cells #[.int .i64 k,.int .i64 n,.string s] 115))) (by go_grown) (by go_size) hb;clear hb)))
  | fail
 all_goals go_wp2_with fail
 all_goals
  go_ret;exact⟨rfl,Zz (n:=1) (X:=(w.alloc (.cells #[.int .i64 k,.int .i64 n,.string s] 115))) (by go_grown) (by go_grown)⟩
end Go.Proofs.YtdcokcbolecanaaGreatDoor
