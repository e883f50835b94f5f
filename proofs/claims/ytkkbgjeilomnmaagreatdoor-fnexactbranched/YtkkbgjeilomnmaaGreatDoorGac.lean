import Derived.Test.YtkkbgjeilomnmaaGreatDoorGaa
import Derived.Deep.RegionHeld3
import Derived.Deep.DeepCutAuto
import Derived.Laws.StructEq
import Derived.Deep.RegionWith
set_option linter.unusedSimpArgs false
set_option linter.unusedVariables false
set_option maxHeartbeats 1000000
namespace Go.Proofs.YtkkbgjeilomnmaaGreatDoor
open Go.RowKit
def Zn (l:List UInt8):Bool:=l.all fun b=>decide (32≤b.toNat∧b.toNat≤126)
def mBK (k n:Int) (s:ByteArray):Value:=
 if k=0 then .iface 229 (.agg #[])else if k=1 then .iface 212 (.int .i64 n)else if k=2 then .iface 202 (.string s)
 else if k=3 then .iface 230 (.int .i64 n)else if k=4 then .iface 231 (.int .i64 n)else .iface 228 (.agg #[])
def mNo:Value:= .iface 228 (.agg #[])
theorem YM {a b:Value} (h:a=b):Ending.returned a= .returned b:=by rw [h]
theorem Qf (k n:Int) (s:ByteArray) (w:World):Calls Tryz.prog 200 #[.agg #[.int .i64 k,.int .i64 n,.string s]] w fun e w'=>
  e= .returned (mBK k n s)∧Below w.heap.size w w':=by
 by_cases h0:k=0
 ·subst h0;go_enter Tryz.func200,Tryz.ntmps200;go_wp2
  go_ret;exact⟨YM (by simp [mBK]),by go_grown⟩
 by_cases h1:k=1
 ·subst h1;go_enter Tryz.func200,Tryz.ntmps200;go_wp2
  go_ret;exact⟨YM (by simp [mBK]),by go_grown⟩
 by_cases h2:k=2
 ·subst h2;go_enter Tryz.func200,Tryz.ntmps200;go_wp2
  go_ret;exact⟨YM (by simp [mBK]),by go_grown⟩
 by_cases h3:k=3
 ·subst h3;go_enter Tryz.func200,Tryz.ntmps200;go_wp2
  go_ret;exact⟨YM (by simp [mBK]),by go_grown⟩
 by_cases h4:k=4
 ·subst h4;go_enter Tryz.func200,Tryz.ntmps200;go_wp2
  go_ret;exact⟨YM (by simp [mBK]),by go_grown⟩
 ·have e0:(k==0)=false:=by simpa using h0
  have e1:(k==1)=false:=by simpa using h1
  have e2:(k==2)=false:=by simpa using h2
  have e3:(k==3)=false:=by simpa using h3
  have e4:(k==4)=false:=by simpa using h4
  go_enter Tryz.func200,Tryz.ntmps200;go_wp2
  go_ret;exact⟨YM (by simp [mBK,h0,h1,h2,h3,h4]),by go_grown⟩
def Zt (n:Int):Bool:=decide (-1000000000000000≤n∧n≤1000000000000000)
def Ye (n:Int):Bool:=decide (n=0∨n=1)
def YV (n:Int):Bool:=decide (1≤n∧n≤5)
def Qw (s:ByteArray):Bool:=decide (s.size≤200)&&Zn s.data.toList
theorem Zm (n:Int) (w:World):Calls Tryz.prog 327 #[.int .i64 n] w fun e w'=>
  e= .returned (.bool (Zt n))∧w'=w:=by
 go_enter Tryz.func327,Tryz.ntmps327;go_wp2
 all_goals
  go_ret;refine⟨Qa ?_,rfl⟩;rw [Bool.eq_iff_iff];unfold Zt;simp;try omega
theorem ZE (n:Int) (w:World):Calls Tryz.prog 335 #[.int .i64 n] w fun e w'=>
  e= .returned (.bool (Ye n))∧w'=w:=by
 go_enter Tryz.func335,Tryz.ntmps335;go_wp2
 all_goals
  go_ret;refine⟨Qa ?_,rfl⟩;rw [Bool.eq_iff_iff];unfold Ye;simp;try omega
theorem Zh (n:Int) (w:World):Calls Tryz.prog 337 #[.int .i64 n] w fun e w'=>
  e= .returned (.bool (YV n))∧w'=w:=by
 go_enter Tryz.func337,Tryz.ntmps337;go_wp2
 all_goals
  go_ret;refine⟨Qa ?_,rfl⟩;rw [Bool.eq_iff_iff];unfold YV;simp;try omega
theorem Xm (w:World):Calls Tryz.prog 329 #[.agg #[]] w fun e w'=>
  e= .returned (.bool (false))∧Below w.heap.size w w':=by
 go_enter Tryz.func329,Tryz.ntmps329;go_wp2
 all_goals
  go_ret;refine⟨Qa ?_,by go_grown⟩;rfl
theorem Yl (w:World):Calls Tryz.prog 332 #[.agg #[]] w fun e w'=>
  e= .returned (.bool (true))∧Below w.heap.size w w':=by
 go_enter Tryz.func332,Tryz.ntmps332;go_wp2
 all_goals
  go_ret;refine⟨Qa ?_,by go_grown⟩;rfl
theorem Ys (n:Int) (w:World):Calls Tryz.prog 181 #[.int .i64 n] w fun e w'=>
  e= .returned (.agg #[.int .i64 1,.int .i64 n,.string ⟨#[]⟩])∧Below w.heap.size w w':=by
 go_enter Tryz.func181,Tryz.ntmps181;go_wp2
 go_returns
 exact⟨rfl,by go_grown⟩
theorem XS (n:Int) (w:World):Calls Tryz.prog 336 #[.int .i64 n] w fun e w'=>
  e= .returned (.agg #[.int .i64 3,.int .i64 n,.string ⟨#[]⟩])∧Below w.heap.size w w':=by
 go_enter Tryz.func336,Tryz.ntmps336;go_wp2
 go_returns
 exact⟨rfl,by go_grown⟩
theorem YI (n:Int) (w:World):Calls Tryz.prog 338 #[.int .i64 n] w fun e w'=>
  e= .returned (.agg #[.int .i64 4,.int .i64 n,.string ⟨#[]⟩])∧Below w.heap.size w w':=by
 go_enter Tryz.func338,Tryz.ntmps338;go_wp2
 go_returns
 exact⟨rfl,by go_grown⟩
theorem Yb (s:ByteArray) (w:World):Calls Tryz.prog 277 #[.string s] w fun e w'=>
  e= .returned (.agg #[.int .i64 2,.int .i64 0,.string s])∧Below w.heap.size w w':=by
 go_enter Tryz.func277,Tryz.ntmps277;go_wp2
 go_returns
 exact⟨rfl,by go_grown⟩
theorem YG (w:World):Calls Tryz.prog 334 #[.agg #[]] w fun e w'=>
  e= .returned (.agg #[.int .i64 0,.int .i64 0,.string ⟨#[]⟩])∧Below w.heap.size w w':=by
 go_enter Tryz.func334,Tryz.ntmps334;go_wp2
 go_returns
 exact⟨rfl,by go_grown⟩
theorem Hz (s:ByteArray) (k:Nat) (h:k<s.size):Zn (s.data.toList.take (k+1))=(Zn (s.data.toList.take k)&&decide (32≤s[k].toNat∧s[k].toNat≤126)):=by
 have e:s.data.toList.take (k+1)=s.data.toList.take k++ [s[k]]:=by
  rw [List.take_succ_eq_append_getElem (by simpa using h)];rfl
 rw [e];simp [Zn]
theorem OJ (s:ByteArray) (k:Nat) (h:k<s.size) (hb: ¬(32≤s[k].toNat∧s[k].toNat≤126)):Zn s.data.toList=false:=by
 cases e:Zn s.data.toList
 ·rfl
 ·have:=List.all_eq_true.1 e s[k] (Array.mem_toList_iff.2 (Array.getElem_mem h));exact absurd (of_decide_eq_true this) hb
theorem Xo (s:ByteArray) (w:World) (hs:s.size≤maxLen):Calls Tryz.prog 146 #[.string s] w fun e w'=>
  e= .returned (.bool (Zn s.data.toList))∧w'=w:=by
 unfold maxLen at hs;go_enter Tryz.func146,Tryz.ntmps146;go_wp2_with fail
 go_loop [6] (fun v=> ∃k:Nat,k≤s.size∧v= .int .i64 k∧Zn (s.data.toList.take k)=true) (fun v=>s.size-(intOf v).toNat)
 case atStart=>exact⟨0,by omega,rfl,rfl⟩
 case round=>
  obtain⟨k,hk,rfl,hr⟩:=hrel;have HR:Hid (Zn (s.data.toList.take k)=true):=hr;clear hr;by_cases hlt:k<s.size
  ·have HT:Hid (Zn (s.data.toList.take (k+1))=(Zn (s.data.toList.take k)&&decide (32≤s[k].toNat∧s[k].toNat≤126))):=Hz s k hlt;by_cases hb:32≤s[k].toNat∧s[k].toNat≤126
   ·have hb1: ¬((s[k].toNat:Int)<32):=by omega
    have hb2: ¬(126<(s[k].toNat:Int)):=by omega
    go_wp2
    all_goals
     go_round
     case rel=>exact⟨k+1,by omega,by go_num,by rw [HT.out,HR.out];simp;omega⟩
     case measure=>simp [intOf];omega
   ·have HF:Hid (Zn s.data.toList=false):=OJ s k hlt hb;by_cases hb1:(s[k].toNat:Int)<32
    ·go_wp2
     go_ret;exact⟨Qa HF.out.symm,rfl⟩
    ·have hb2:126<(s[k].toNat:Int):=by omega
     go_wp2
     go_ret;exact⟨Qa HF.out.symm,rfl⟩
  ·go_wp2
   go_ret;have HA:=HR.out;rw [List.take_of_length_le (by simp;omega)]at HA;exact⟨Qa HA.symm,rfl⟩
theorem Zg (s:ByteArray) (w:World) (hs:s.size≤maxLen):Calls Tryz.prog 326 #[.string s] w fun e w'=>
  e= .returned (.bool (Qw s))∧w'=w:=by
 have hs':=hs;unfold maxLen at hs';go_enter Tryz.func326,Tryz.ntmps326
 go_wp2_with (first
  | (go_at_call 146;refine(Xo _ _ hs).mono ?_;rintro e w1 ⟨rfl,rfl⟩))
 all_goals
  go_ret;refine⟨Qa ?_,rfl⟩;unfold Qw;simp_all
  try omega
theorem JM (s:ByteArray) (w:World) (hq:s.toList= []):Calls Tryz.prog 183 #[.agg #[.int .i64 0,.int .i64 0,.string s]] w fun e w'=>
  e= .returned (.iface 229 (.agg #[]))∧Below w.heap.size w w':=by
 go_enter Tryz.func183,Tryz.ntmps183
 go_wp2_with (first
  | (go_at_call 200;refine(Qf _ _ _ _).mono ?_;rintro e w1 ⟨rfl,hb⟩;have em:mBK 0 0 s= .iface 229 (.agg #[]):=rfl;rw [em];clear em;obtain⟨hk,hz⟩:=Qe (B:=w.heap.size+1) (X:=(w.alloc (.cells #[.int .i64 0,.int .i64 0,.string s] 123))) (by go_grown) (by go_size) hb;obtain⟨hC,hF,hL,hE⟩:=kp hb;clear hb))
 go_region_held3 (fun w'=>(∀bq oq,bq<w.heap.size+1→w'.cell? ⟨bq,oq,none⟩=(w.alloc (.cells #[.int .i64 0,.int .i64 0,.string s] 123)).cell? ⟨bq,oq,none⟩)∧w.heap.size+1≤w'.heap.size∧Below (w.heap.size+1) (w.alloc (.cells #[.int .i64 0,.int .i64 0,.string s] 123)) w')
  (exact Qj (by go_size) (by go_grown))
  (first
  | (go_at_call 332;refine(Yl _).mono ?_;rintro e w1 ⟨rfl,hb⟩;obtain⟨hk,hz⟩:=Qe (B:=w.heap.size+1) (X:=(w.alloc (.cells #[.int .i64 0,.int .i64 0,.string s] 123))) (by go_grown) (by go_size) hb;clear hb)
  | (go_at_call 334;refine(YG _).mono ?_;rintro e w1 ⟨rfl,hb⟩;obtain⟨hk,hz⟩:=Qe (B:=w.heap.size+1) (X:=(w.alloc (.cells #[.int .i64 0,.int .i64 0,.string s] 123))) (by go_grown) (by go_size) hb;clear hb))
 all_goals go_wp2_with fail
 all_goals
  go_ret;exact⟨rfl,Zx (n:=1) (X:=(w.alloc (.cells #[.int .i64 0,.int .i64 0,.string s] 123))) (by go_grown) (by go_grown)⟩
theorem JN (s:ByteArray) (w:World) (hq: ¬s.toList= []):Calls Tryz.prog 183 #[.agg #[.int .i64 0,.int .i64 0,.string s]] w fun e w'=>
  e= .returned (mNo)∧Below w.heap.size w w':=by
 go_enter Tryz.func183,Tryz.ntmps183
 go_wp2_with (first
  | (go_at_call 200;refine(Qf _ _ _ _).mono ?_;rintro e w1 ⟨rfl,hb⟩;have em:mBK 0 0 s= .iface 229 (.agg #[]):=rfl;rw [em];clear em;obtain⟨hk,hz⟩:=Qe (B:=w.heap.size+1) (X:=(w.alloc (.cells #[.int .i64 0,.int .i64 0,.string s] 123))) (by go_grown) (by go_size) hb;obtain⟨hC,hF,hL,hE⟩:=kp hb;clear hb))
 go_region_held3 (fun w'=>(∀bq oq,bq<w.heap.size+1→w'.cell? ⟨bq,oq,none⟩=(w.alloc (.cells #[.int .i64 0,.int .i64 0,.string s] 123)).cell? ⟨bq,oq,none⟩)∧w.heap.size+1≤w'.heap.size∧Below (w.heap.size+1) (w.alloc (.cells #[.int .i64 0,.int .i64 0,.string s] 123)) w')
  (exact Qj (by go_size) (by go_grown))
  (first
  | (go_at_call 332;refine(Yl _).mono ?_;rintro e w1 ⟨rfl,hb⟩;obtain⟨hk,hz⟩:=Qe (B:=w.heap.size+1) (X:=(w.alloc (.cells #[.int .i64 0,.int .i64 0,.string s] 123))) (by go_grown) (by go_size) hb;clear hb)
  | (go_at_call 334;refine(YG _).mono ?_;rintro e w1 ⟨rfl,hb⟩;obtain⟨hk,hz⟩:=Qe (B:=w.heap.size+1) (X:=(w.alloc (.cells #[.int .i64 0,.int .i64 0,.string s] 123))) (by go_grown) (by go_size) hb;clear hb))
 all_goals go_wp2_with fail
 all_goals
  go_ret;exact⟨rfl,Zx (n:=1) (X:=(w.alloc (.cells #[.int .i64 0,.int .i64 0,.string s] 123))) (by go_grown) (by go_grown)⟩
theorem JO (n:Int) (s:ByteArray) (w:World) (hq: ¬0=n):Calls Tryz.prog 183 #[.agg #[.int .i64 0,.int .i64 n,.string s]] w fun e w'=>
  e= .returned (mNo)∧Below w.heap.size w w':=by
 go_enter Tryz.func183,Tryz.ntmps183
 go_wp2_with (first
  | (go_at_call 200;refine(Qf _ _ _ _).mono ?_;rintro e w1 ⟨rfl,hb⟩;have em:mBK 0 n s= .iface 229 (.agg #[]):=rfl;rw [em];clear em;obtain⟨hk,hz⟩:=Qe (B:=w.heap.size+1) (X:=(w.alloc (.cells #[.int .i64 0,.int .i64 n,.string s] 123))) (by go_grown) (by go_size) hb;obtain⟨hC,hF,hL,hE⟩:=kp hb;clear hb))
 go_region_held3 (fun w'=>(∀bq oq,bq<w.heap.size+1→w'.cell? ⟨bq,oq,none⟩=(w.alloc (.cells #[.int .i64 0,.int .i64 n,.string s] 123)).cell? ⟨bq,oq,none⟩)∧w.heap.size+1≤w'.heap.size∧Below (w.heap.size+1) (w.alloc (.cells #[.int .i64 0,.int .i64 n,.string s] 123)) w')
  (exact Qj (by go_size) (by go_grown))
  (first
  | (go_at_call 332;refine(Yl _).mono ?_;rintro e w1 ⟨rfl,hb⟩;obtain⟨hk,hz⟩:=Qe (B:=w.heap.size+1) (X:=(w.alloc (.cells #[.int .i64 0,.int .i64 n,.string s] 123))) (by go_grown) (by go_size) hb;clear hb)
  | (go_at_call 334;refine(YG _).mono ?_;rintro e w1 ⟨rfl,hb⟩;obtain⟨hk,hz⟩:=Qe (B:=w.heap.size+1) (X:=(w.alloc (.cells #[.int .i64 0,.int .i64 n,.string s] 123))) (by go_grown) (by go_size) hb;clear hb))
 all_goals go_wp2_with fail
 all_goals
  go_ret;exact⟨rfl,Zx (n:=1) (X:=(w.alloc (.cells #[.int .i64 0,.int .i64 n,.string s] 123))) (by go_grown) (by go_grown)⟩
theorem Ja (n:Int) (s:ByteArray) (w:World) (hR:Zt n=true) (hq:s.toList= []):Calls Tryz.prog 183 #[.agg #[.int .i64 1,.int .i64 n,.string s]] w fun e w'=>
  e= .returned (.iface 212 (.int .i64 n))∧Below w.heap.size w w':=by
 go_enter Tryz.func183,Tryz.ntmps183
 go_wp2_with (first
  | (go_at_call 200;refine(Qf _ _ _ _).mono ?_;rintro e w1 ⟨rfl,hb⟩;have em:mBK 1 n s= .iface 212 (.int .i64 n):=rfl;rw [em];clear em;obtain⟨hk,hz⟩:=Qe (B:=w.heap.size+1) (X:=(w.alloc (.cells #[.int .i64 1,.int .i64 n,.string s] 123))) (by go_grown) (by go_size) hb;obtain⟨hC,hF,hL,hE⟩:=kp hb;clear hb))
 go_region_held3 (fun w'=>(∀bq oq,bq<w.heap.size+1→w'.cell? ⟨bq,oq,none⟩=(w.alloc (.cells #[.int .i64 1,.int .i64 n,.string s] 123)).cell? ⟨bq,oq,none⟩)∧w.heap.size+1≤w'.heap.size∧Below (w.heap.size+1) (w.alloc (.cells #[.int .i64 1,.int .i64 n,.string s] 123)) w')
  (exact Qj (by go_size) (by go_grown))
  (first
  | (go_at_call 327;refine(Zm _ _).mono ?_;rintro e w1 ⟨rfl,rfl⟩)
  | (go_at_call 181;refine(Ys _ _).mono ?_;rintro e w1 ⟨rfl,hb⟩;obtain⟨hk,hz⟩:=Qe (B:=w.heap.size+1) (X:=(w.alloc (.cells #[.int .i64 1,.int .i64 n,.string s] 123))) (by go_grown) (by go_size) hb;clear hb))
 all_goals go_wp2_with fail
 all_goals
  go_ret;exact⟨rfl,Zx (n:=1) (X:=(w.alloc (.cells #[.int .i64 1,.int .i64 n,.string s] 123))) (by go_grown) (by go_grown)⟩
theorem Jc (n:Int) (s:ByteArray) (w:World) (hR:Zt n=true) (hq: ¬s.toList= []):Calls Tryz.prog 183 #[.agg #[.int .i64 1,.int .i64 n,.string s]] w fun e w'=>
  e= .returned (mNo)∧Below w.heap.size w w':=by
 go_enter Tryz.func183,Tryz.ntmps183
 go_wp2_with (first
  | (go_at_call 200;refine(Qf _ _ _ _).mono ?_;rintro e w1 ⟨rfl,hb⟩;have em:mBK 1 n s= .iface 212 (.int .i64 n):=rfl;rw [em];clear em;obtain⟨hk,hz⟩:=Qe (B:=w.heap.size+1) (X:=(w.alloc (.cells #[.int .i64 1,.int .i64 n,.string s] 123))) (by go_grown) (by go_size) hb;obtain⟨hC,hF,hL,hE⟩:=kp hb;clear hb))
 go_region_held3 (fun w'=>(∀bq oq,bq<w.heap.size+1→w'.cell? ⟨bq,oq,none⟩=(w.alloc (.cells #[.int .i64 1,.int .i64 n,.string s] 123)).cell? ⟨bq,oq,none⟩)∧w.heap.size+1≤w'.heap.size∧Below (w.heap.size+1) (w.alloc (.cells #[.int .i64 1,.int .i64 n,.string s] 123)) w')
  (exact Qj (by go_size) (by go_grown))
  (first
  | (go_at_call 327;refine(Zm _ _).mono ?_;rintro e w1 ⟨rfl,rfl⟩)
  | (go_at_call 181;refine(Ys _ _).mono ?_;rintro e w1 ⟨rfl,hb⟩;obtain⟨hk,hz⟩:=Qe (B:=w.heap.size+1) (X:=(w.alloc (.cells #[.int .i64 1,.int .i64 n,.string s] 123))) (by go_grown) (by go_size) hb;clear hb))
 all_goals go_wp2_with fail
 all_goals
  go_ret;exact⟨rfl,Zx (n:=1) (X:=(w.alloc (.cells #[.int .i64 1,.int .i64 n,.string s] 123))) (by go_grown) (by go_grown)⟩
theorem JJ (n:Int) (s:ByteArray) (w:World) (hR:Ye n=true) (hq:s.toList= []):Calls Tryz.prog 183 #[.agg #[.int .i64 3,.int .i64 n,.string s]] w fun e w'=>
  e= .returned (.iface 230 (.int .i64 n))∧Below w.heap.size w w':=by
 go_enter Tryz.func183,Tryz.ntmps183
 go_wp2_with (first
  | (go_at_call 200;refine(Qf _ _ _ _).mono ?_;rintro e w1 ⟨rfl,hb⟩;have em:mBK 3 n s= .iface 230 (.int .i64 n):=rfl;rw [em];clear em;obtain⟨hk,hz⟩:=Qe (B:=w.heap.size+1) (X:=(w.alloc (.cells #[.int .i64 3,.int .i64 n,.string s] 123))) (by go_grown) (by go_size) hb;obtain⟨hC,hF,hL,hE⟩:=kp hb;clear hb))
 go_region_held3 (fun w'=>(∀bq oq,bq<w.heap.size+1→w'.cell? ⟨bq,oq,none⟩=(w.alloc (.cells #[.int .i64 3,.int .i64 n,.string s] 123)).cell? ⟨bq,oq,none⟩)∧w.heap.size+1≤w'.heap.size∧Below (w.heap.size+1) (w.alloc (.cells #[.int .i64 3,.int .i64 n,.string s] 123)) w')
  (exact Qj (by go_size) (by go_grown))
  (first
  | (go_at_call 335;refine(ZE _ _).mono ?_;rintro e w1 ⟨rfl,rfl⟩)
  | (go_at_call 336;refine(XS _ _).mono ?_;rintro e w1 ⟨rfl,hb⟩;obtain⟨hk,hz⟩:=Qe (B:=w.heap.size+1) (X:=(w.alloc (.cells #[.int .i64 3,.int .i64 n,.string s] 123))) (by go_grown) (by go_size) hb;clear hb))
 all_goals go_wp2_with fail
 all_goals
  go_ret;exact⟨rfl,Zx (n:=1) (X:=(w.alloc (.cells #[.int .i64 3,.int .i64 n,.string s] 123))) (by go_grown) (by go_grown)⟩
theorem JL (n:Int) (s:ByteArray) (w:World) (hR:Ye n=true) (hq: ¬s.toList= []):Calls Tryz.prog 183 #[.agg #[.int .i64 3,.int .i64 n,.string s]] w fun e w'=>
  e= .returned (mNo)∧Below w.heap.size w w':=by
 go_enter Tryz.func183,Tryz.ntmps183
 go_wp2_with (first
  | (go_at_call 200;refine(Qf _ _ _ _).mono ?_;rintro e w1 ⟨rfl,hb⟩;have em:mBK 3 n s= .iface 230 (.int .i64 n):=rfl;rw [em];clear em;obtain⟨hk,hz⟩:=Qe (B:=w.heap.size+1) (X:=(w.alloc (.cells #[.int .i64 3,.int .i64 n,.string s] 123))) (by go_grown) (by go_size) hb;obtain⟨hC,hF,hL,hE⟩:=kp hb;clear hb))
 go_region_held3 (fun w'=>(∀bq oq,bq<w.heap.size+1→w'.cell? ⟨bq,oq,none⟩=(w.alloc (.cells #[.int .i64 3,.int .i64 n,.string s] 123)).cell? ⟨bq,oq,none⟩)∧w.heap.size+1≤w'.heap.size∧Below (w.heap.size+1) (w.alloc (.cells #[.int .i64 3,.int .i64 n,.string s] 123)) w')
  (exact Qj (by go_size) (by go_grown))
  (first
  | (go_at_call 335;refine(ZE _ _).mono ?_;rintro e w1 ⟨rfl,rfl⟩)
  | (go_at_call 336;refine(XS _ _).mono ?_;rintro e w1 ⟨rfl,hb⟩;obtain⟨hk,hz⟩:=Qe (B:=w.heap.size+1) (X:=(w.alloc (.cells #[.int .i64 3,.int .i64 n,.string s] 123))) (by go_grown) (by go_size) hb;clear hb))
 all_goals go_wp2_with fail
 all_goals
  go_ret;exact⟨rfl,Zx (n:=1) (X:=(w.alloc (.cells #[.int .i64 3,.int .i64 n,.string s] 123))) (by go_grown) (by go_grown)⟩
theorem XJ (n:Int) (s:ByteArray) (w:World) (hR:YV n=true) (hq:s.toList= []):Calls Tryz.prog 183 #[.agg #[.int .i64 4,.int .i64 n,.string s]] w fun e w'=>
  e= .returned (.iface 231 (.int .i64 n))∧Below w.heap.size w w':=by
 go_enter Tryz.func183,Tryz.ntmps183
 go_wp2_with (first
  | (go_at_call 200;refine(Qf _ _ _ _).mono ?_;rintro e w1 ⟨rfl,hb⟩;have em:mBK 4 n s= .iface 231 (.int .i64 n):=rfl;rw [em];clear em;obtain⟨hk,hz⟩:=Qe (B:=w.heap.size+1) (X:=(w.alloc (.cells #[.int .i64 4,.int .i64 n,.string s] 123))) (by go_grown) (by go_size) hb;obtain⟨hC,hF,hL,hE⟩:=kp hb;clear hb))
 go_region_held3 (fun w'=>(∀bq oq,bq<w.heap.size+1→w'.cell? ⟨bq,oq,none⟩=(w.alloc (.cells #[.int .i64 4,.int .i64 n,.string s] 123)).cell? ⟨bq,oq,none⟩)∧w.heap.size+1≤w'.heap.size∧Below (w.heap.size+1) (w.alloc (.cells #[.int .i64 4,.int .i64 n,.string s] 123)) w')
  (exact Qj (by go_size) (by go_grown))
  (first
  | (go_at_call 337;refine(Zh _ _).mono ?_;rintro e w1 ⟨rfl,rfl⟩)
  | (go_at_call 338;refine(YI _ _).mono ?_;rintro e w1 ⟨rfl,hb⟩;obtain⟨hk,hz⟩:=Qe (B:=w.heap.size+1) (X:=(w.alloc (.cells #[.int .i64 4,.int .i64 n,.string s] 123))) (by go_grown) (by go_size) hb;clear hb))
 all_goals go_wp2_with fail
 all_goals
  go_ret;exact⟨rfl,Zx (n:=1) (X:=(w.alloc (.cells #[.int .i64 4,.int .i64 n,.string s] 123))) (by go_grown) (by go_grown)⟩
theorem XL (n:Int) (s:ByteArray) (w:World) (hR:YV n=true) (hq: ¬s.toList= []):Calls Tryz.prog 183 #[.agg #[.int .i64 4,.int .i64 n,.string s]] w fun e w'=>
  e= .returned (mNo)∧Below w.heap.size w w':=by
 go_enter Tryz.func183,Tryz.ntmps183
 go_wp2_with (first
  | (go_at_call 200;refine(Qf _ _ _ _).mono ?_;rintro e w1 ⟨rfl,hb⟩;have em:mBK 4 n s= .iface 231 (.int .i64 n):=rfl;rw [em];clear em;obtain⟨hk,hz⟩:=Qe (B:=w.heap.size+1) (X:=(w.alloc (.cells #[.int .i64 4,.int .i64 n,.string s] 123))) (by go_grown) (by go_size) hb;obtain⟨hC,hF,hL,hE⟩:=kp hb;clear hb))
 go_region_held3 (fun w'=>(∀bq oq,bq<w.heap.size+1→w'.cell? ⟨bq,oq,none⟩=(w.alloc (.cells #[.int .i64 4,.int .i64 n,.string s] 123)).cell? ⟨bq,oq,none⟩)∧w.heap.size+1≤w'.heap.size∧Below (w.heap.size+1) (w.alloc (.cells #[.int .i64 4,.int .i64 n,.string s] 123)) w')
  (exact Qj (by go_size) (by go_grown))
  (first
  | (go_at_call 337;refine(Zh _ _).mono ?_;rintro e w1 ⟨rfl,rfl⟩)
  | (go_at_call 338;refine(YI _ _).mono ?_;rintro e w1 ⟨rfl,hb⟩;obtain⟨hk,hz⟩:=Qe (B:=w.heap.size+1) (X:=(w.alloc (.cells #[.int .i64 4,.int .i64 n,.string s] 123))) (by go_grown) (by go_size) hb;clear hb))
 all_goals go_wp2_with fail
 all_goals
  go_ret;exact⟨rfl,Zx (n:=1) (X:=(w.alloc (.cells #[.int .i64 4,.int .i64 n,.string s] 123))) (by go_grown) (by go_grown)⟩
theorem XG (s:ByteArray) (w:World) (hs:Hid (s.size≤maxLen)) (hR:Qw s=true):Calls Tryz.prog 183 #[.agg #[.int .i64 2,.int .i64 0,.string s]] w fun e w'=>
  e= .returned (.iface 202 (.string s))∧Below w.heap.size w w':=by
 go_enter Tryz.func183,Tryz.ntmps183
 go_wp2_with (first
  | (go_at_call 200;refine(Qf _ _ _ _).mono ?_;rintro e w1 ⟨rfl,hb⟩;have em:mBK 2 0 s= .iface 202 (.string s):=rfl;rw [em];clear em;obtain⟨hk,hz⟩:=Qe (B:=w.heap.size+1) (X:=(w.alloc (.cells #[.int .i64 2,.int .i64 0,.string s] 123))) (by go_grown) (by go_size) hb;obtain⟨hC,hF,hL,hE⟩:=kp hb;clear hb))
 go_region_held3 (fun w'=>(∀bq oq,bq<w.heap.size+1→w'.cell? ⟨bq,oq,none⟩=(w.alloc (.cells #[.int .i64 2,.int .i64 0,.string s] 123)).cell? ⟨bq,oq,none⟩)∧w.heap.size+1≤w'.heap.size∧Below (w.heap.size+1) (w.alloc (.cells #[.int .i64 2,.int .i64 0,.string s] 123)) w')
  (exact Qj (by go_size) (by go_grown))
  (first
  | (go_at_call 326;refine(Zg _ _ hs.out).mono ?_;rintro e w1 ⟨rfl,rfl⟩)
  | (go_at_call 277;refine(Yb _ _).mono ?_;rintro e w1 ⟨rfl,hb⟩;obtain⟨hk,hz⟩:=Qe (B:=w.heap.size+1) (X:=(w.alloc (.cells #[.int .i64 2,.int .i64 0,.string s] 123))) (by go_grown) (by go_size) hb;clear hb))
 all_goals go_wp2_with fail
 all_goals
  go_ret;exact⟨rfl,Zx (n:=1) (X:=(w.alloc (.cells #[.int .i64 2,.int .i64 0,.string s] 123))) (by go_grown) (by go_grown)⟩
theorem XI (n:Int) (s:ByteArray) (w:World) (hs:Hid (s.size≤maxLen)) (hR:Qw s=true) (hq: ¬0=n):Calls Tryz.prog 183 #[.agg #[.int .i64 2,.int .i64 n,.string s]] w fun e w'=>
  e= .returned (mNo)∧Below w.heap.size w w':=by
 go_enter Tryz.func183,Tryz.ntmps183
 go_wp2_with (first
  | (go_at_call 200;refine(Qf _ _ _ _).mono ?_;rintro e w1 ⟨rfl,hb⟩;have em:mBK 2 n s= .iface 202 (.string s):=rfl;rw [em];clear em;obtain⟨hk,hz⟩:=Qe (B:=w.heap.size+1) (X:=(w.alloc (.cells #[.int .i64 2,.int .i64 n,.string s] 123))) (by go_grown) (by go_size) hb;obtain⟨hC,hF,hL,hE⟩:=kp hb;clear hb))
 go_region_held3 (fun w'=>(∀bq oq,bq<w.heap.size+1→w'.cell? ⟨bq,oq,none⟩=(w.alloc (.cells #[.int .i64 2,.int .i64 n,.string s] 123)).cell? ⟨bq,oq,none⟩)∧w.heap.size+1≤w'.heap.size∧Below (w.heap.size+1) (w.alloc (.cells #[.int .i64 2,.int .i64 n,.string s] 123)) w')
  (exact Qj (by go_size) (by go_grown))
  (first
  | (go_at_call 326;refine(Zg _ _ hs.out).mono ?_;rintro e w1 ⟨rfl,rfl⟩)
  | (go_at_call 277;refine(Yb _ _).mono ?_;rintro e w1 ⟨rfl,hb⟩;obtain⟨hk,hz⟩:=Qe (B:=w.heap.size+1) (X:=(w.alloc (.cells #[.int .i64 2,.int .i64 n,.string s] 123))) (by go_grown) (by go_size) hb;clear hb))
 all_goals go_wp2_with fail
 all_goals
  go_ret;exact⟨rfl,Zx (n:=1) (X:=(w.alloc (.cells #[.int .i64 2,.int .i64 n,.string s] 123))) (by go_grown) (by go_grown)⟩
theorem Ko (n:Int) (w:World) (hR:Zt n=false):Calls Tryz.prog 327 #[.int .i64 n] w fun e w'=>e= .returned (.bool false)∧w'=w:=
 (Zm n w).mono fun _ _ h=>⟨by rw [h.1,hR],h.2⟩
theorem Ha (n:Int) (w:World) (hR:Ye n=false):Calls Tryz.prog 335 #[.int .i64 n] w fun e w'=>e= .returned (.bool false)∧w'=w:=
 (ZE n w).mono fun _ _ h=>⟨by rw [h.1,hR],h.2⟩
theorem VJ (n:Int) (w:World) (hR:YV n=false):Calls Tryz.prog 337 #[.int .i64 n] w fun e w'=>e= .returned (.bool false)∧w'=w:=
 (Zh n w).mono fun _ _ h=>⟨by rw [h.1,hR],h.2⟩
theorem VI (s:ByteArray) (w:World) (hs:s.size≤maxLen) (hR:Qw s=false):Calls Tryz.prog 326 #[.string s] w fun e w'=>e= .returned (.bool false)∧w'=w:=
 (Zg s w hs).mono fun _ _ h=>⟨by rw [h.1,hR],h.2⟩
theorem Jb (n:Int) (s:ByteArray) (w:World) (hR:Zt n=false):Calls Tryz.prog 183 #[.agg #[.int .i64 1,.int .i64 n,.string s]] w fun e w'=>
  e= .returned (mNo)∧Below w.heap.size w w':=by
 go_enter Tryz.func183,Tryz.ntmps183
 go_wp2_with (first
  | (go_at_call 200;refine(Qf _ _ _ _).mono ?_;rintro e w1 ⟨rfl,hb⟩;have em:mBK 1 n s= .iface 212 (.int .i64 n):=rfl;rw [em];clear em;obtain⟨hk,hz⟩:=Qe (B:=w.heap.size+1) (X:=(w.alloc (.cells #[.int .i64 1,.int .i64 n,.string s] 123))) (by go_grown) (by go_size) hb;obtain⟨hC,hF,hL,hE⟩:=kp hb;clear hb))
 first
  | (go_region_with (first
   | (go_at_call 327;refine(Ko _ _ hR).mono ?_;rintro e w1 ⟨rfl,rfl⟩)))
  | fail
 all_goals go_wp2_with fail
 all_goals
  go_ret;exact⟨rfl,Zx (n:=1) (X:=(w.alloc (.cells #[.int .i64 1,.int .i64 n,.string s] 123))) (by go_grown) (by go_grown)⟩
theorem JK (n:Int) (s:ByteArray) (w:World) (hR:Ye n=false):Calls Tryz.prog 183 #[.agg #[.int .i64 3,.int .i64 n,.string s]] w fun e w'=>
  e= .returned (mNo)∧Below w.heap.size w w':=by
 go_enter Tryz.func183,Tryz.ntmps183
 go_wp2_with (first
  | (go_at_call 200;refine(Qf _ _ _ _).mono ?_;rintro e w1 ⟨rfl,hb⟩;have em:mBK 3 n s= .iface 230 (.int .i64 n):=rfl;rw [em];clear em;obtain⟨hk,hz⟩:=Qe (B:=w.heap.size+1) (X:=(w.alloc (.cells #[.int .i64 3,.int .i64 n,.string s] 123))) (by go_grown) (by go_size) hb;obtain⟨hC,hF,hL,hE⟩:=kp hb;clear hb))
 first
  | (go_region_with (first
   | (go_at_call 335;refine(Ha _ _ hR).mono ?_;rintro e w1 ⟨rfl,rfl⟩)))
  | fail
 all_goals go_wp2_with fail
 all_goals
  go_ret;exact⟨rfl,Zx (n:=1) (X:=(w.alloc (.cells #[.int .i64 3,.int .i64 n,.string s] 123))) (by go_grown) (by go_grown)⟩
theorem XK (n:Int) (s:ByteArray) (w:World) (hR:YV n=false):Calls Tryz.prog 183 #[.agg #[.int .i64 4,.int .i64 n,.string s]] w fun e w'=>
  e= .returned (mNo)∧Below w.heap.size w w':=by
 go_enter Tryz.func183,Tryz.ntmps183
 go_wp2_with (first
  | (go_at_call 200;refine(Qf _ _ _ _).mono ?_;rintro e w1 ⟨rfl,hb⟩;have em:mBK 4 n s= .iface 231 (.int .i64 n):=rfl;rw [em];clear em;obtain⟨hk,hz⟩:=Qe (B:=w.heap.size+1) (X:=(w.alloc (.cells #[.int .i64 4,.int .i64 n,.string s] 123))) (by go_grown) (by go_size) hb;obtain⟨hC,hF,hL,hE⟩:=kp hb;clear hb))
 first
  | (go_region_with (first
   | (go_at_call 337;refine(VJ _ _ hR).mono ?_;rintro e w1 ⟨rfl,rfl⟩)))
  | fail
 all_goals go_wp2_with fail
 all_goals
  go_ret;exact⟨rfl,Zx (n:=1) (X:=(w.alloc (.cells #[.int .i64 4,.int .i64 n,.string s] 123))) (by go_grown) (by go_grown)⟩
theorem XH (n:Int) (s:ByteArray) (w:World) (hs:Hid (s.size≤maxLen)) (hR:Qw s=false):Calls Tryz.prog 183 #[.agg #[.int .i64 2,.int .i64 n,.string s]] w fun e w'=>
  e= .returned (mNo)∧Below w.heap.size w w':=by
 go_enter Tryz.func183,Tryz.ntmps183
 go_wp2_with (first
  | (go_at_call 200;refine(Qf _ _ _ _).mono ?_;rintro e w1 ⟨rfl,hb⟩;have em:mBK 2 n s= .iface 202 (.string s):=rfl;rw [em];clear em;obtain⟨hk,hz⟩:=Qe (B:=w.heap.size+1) (X:=(w.alloc (.cells #[.int .i64 2,.int .i64 n,.string s] 123))) (by go_grown) (by go_size) hb;obtain⟨hC,hF,hL,hE⟩:=kp hb;clear hb))
 first
  | (go_region_with (first
   | (go_at_call 326;refine(VI _ _ hs.out hR).mono ?_;rintro e w1 ⟨rfl,rfl⟩)))
  | fail
 all_goals go_wp2_with fail
 all_goals
  go_ret;exact⟨rfl,Zx (n:=1) (X:=(w.alloc (.cells #[.int .i64 2,.int .i64 n,.string s] 123))) (by go_grown) (by go_grown)⟩
theorem Jd (k:Int) (n:Int) (s:ByteArray) (w:World) (HM:Hid (mBK k n s= .iface 228 (.agg #[]))):Calls Tryz.prog 183 #[.agg #[.int .i64 k,.int .i64 n,.string s]] w fun e w'=>
  e= .returned (mNo)∧Below w.heap.size w w':=by
 go_enter Tryz.func183,Tryz.ntmps183
 go_wp2_with (first
  | (go_at_call 200;refine(Qf _ _ _ _).mono ?_;rintro e w1 ⟨rfl,hb⟩;rw [HM.out];obtain⟨hk,hz⟩:=Qe (B:=w.heap.size+1) (X:=(w.alloc (.cells #[.int .i64 k,.int .i64 n,.string s] 123))) (by go_grown) (by go_size) hb;obtain⟨hC,hF,hL,hE⟩:=kp hb;clear hb))
 first
  | (go_region_with (first
   | (go_at_call 329;refine(Xm _).mono ?_;rintro e w1 ⟨rfl,hb⟩;obtain⟨hk,hz⟩:=Qe (B:=w.heap.size+1) (X:=(w.alloc (.cells #[.int .i64 k,.int .i64 n,.string s] 123))) (by go_grown) (by go_size) hb;clear hb)))
  | fail
 all_goals go_wp2_with fail
 all_goals
  go_ret;exact⟨rfl,Zx (n:=1) (X:=(w.alloc (.cells #[.int .i64 k,.int .i64 n,.string s] 123))) (by go_grown) (by go_grown)⟩
end Go.Proofs.YtkkbgjeilomnmaaGreatDoor
