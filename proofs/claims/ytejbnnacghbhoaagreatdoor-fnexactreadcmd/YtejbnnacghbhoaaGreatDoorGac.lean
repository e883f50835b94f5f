import Derived.Test.YtejbnnacghbhoaaGreatDoorGaa
import Derived.Deep.RegionHeld3
import Derived.Deep.DeepCutAuto
import Derived.Laws.StructEq
set_option linter.unusedSimpArgs false
set_option linter.unusedVariables false
set_option maxHeartbeats 1000000
namespace Go.Proofs.YtejbnnacghbhoaaGreatDoor
open Go.RowKit
def ZF (l:List UInt8):Bool:=l.all fun b=>decide (32≤b.toNat∧b.toNat≤126)
def mBK (k n:Int) (s:ByteArray):Value:=
 if k=0 then .iface 220 (.agg #[])else if k=1 then .iface 201 (.int .i64 n)else if k=2 then .iface 179 (.string s)
 else if k=3 then .iface 221 (.int .i64 n)else if k=4 then .iface 222 (.int .i64 n)else .iface 219 (.agg #[])
def mNo:Value:= .iface 219 (.agg #[])
theorem Xz {a b:Value} (h:a=b):Ending.returned a= .returned b:=by rw [h]
theorem Qj (k n:Int) (s:ByteArray) (w:World):Calls Tryz.prog 231 #[.agg #[.int .i64 k,.int .i64 n,.string s]] w fun e w'=>
  e= .returned (mBK k n s)∧Below w.heap.size w w':=by
 by_cases h0:k=0
 ·subst h0;go_enter Tryz.func231,Tryz.ntmps231;go_wp2
  go_ret;exact⟨Xz (by simp [mBK]),by go_grown⟩
 by_cases h1:k=1
 ·subst h1;go_enter Tryz.func231,Tryz.ntmps231;go_wp2
  go_ret;exact⟨Xz (by simp [mBK]),by go_grown⟩
 by_cases h2:k=2
 ·subst h2;go_enter Tryz.func231,Tryz.ntmps231;go_wp2
  go_ret;exact⟨Xz (by simp [mBK]),by go_grown⟩
 by_cases h3:k=3
 ·subst h3;go_enter Tryz.func231,Tryz.ntmps231;go_wp2
  go_ret;exact⟨Xz (by simp [mBK]),by go_grown⟩
 by_cases h4:k=4
 ·subst h4;go_enter Tryz.func231,Tryz.ntmps231;go_wp2
  go_ret;exact⟨Xz (by simp [mBK]),by go_grown⟩
 ·have e0:(k==0)=false:=by simpa using h0
  have e1:(k==1)=false:=by simpa using h1
  have e2:(k==2)=false:=by simpa using h2
  have e3:(k==3)=false:=by simpa using h3
  have e4:(k==4)=false:=by simpa using h4
  go_enter Tryz.func231,Tryz.ntmps231;go_wp2
  go_ret;exact⟨Xz (by simp [mBK,h0,h1,h2,h3,h4]),by go_grown⟩
def Yi (n:Int):Bool:=decide (-1000000000000000≤n∧n≤1000000000000000)
def YJ (n:Int):Bool:=decide (n=0∨n=1)
def XN (n:Int):Bool:=decide (1≤n∧n≤5)
def QI (s:ByteArray):Bool:=decide (s.size≤200)&&ZF s.data.toList
theorem ZM (n:Int) (w:World):Calls Tryz.prog 291 #[.int .i64 n] w fun e w'=>
  e= .returned (.bool (Yi n))∧w'=w:=by
 go_enter Tryz.func291,Tryz.ntmps291;go_wp2
 all_goals
  go_ret;refine⟨Qb ?_,rfl⟩;rw [Bool.eq_iff_iff];unfold Yi;simp;try omega
theorem Yq (n:Int) (w:World):Calls Tryz.prog 300 #[.int .i64 n] w fun e w'=>
  e= .returned (.bool (YJ n))∧w'=w:=by
 go_enter Tryz.func300,Tryz.ntmps300;go_wp2
 all_goals
  go_ret;refine⟨Qb ?_,rfl⟩;rw [Bool.eq_iff_iff];unfold YJ;simp;try omega
theorem Zx (n:Int) (w:World):Calls Tryz.prog 302 #[.int .i64 n] w fun e w'=>
  e= .returned (.bool (XN n))∧w'=w:=by
 go_enter Tryz.func302,Tryz.ntmps302;go_wp2
 all_goals
  go_ret;refine⟨Qb ?_,rfl⟩;rw [Bool.eq_iff_iff];unfold XN;simp;try omega
theorem Jh (w:World):Calls Tryz.prog 294 #[.agg #[]] w fun e w'=>
  e= .returned (.bool (false))∧Below w.heap.size w w':=by
 go_enter Tryz.func294,Tryz.ntmps294;go_wp2
 all_goals
  go_ret;refine⟨Qb ?_,by go_grown⟩;rfl
theorem YR (w:World):Calls Tryz.prog 297 #[.agg #[]] w fun e w'=>
  e= .returned (.bool (true))∧Below w.heap.size w w':=by
 go_enter Tryz.func297,Tryz.ntmps297;go_wp2
 all_goals
  go_ret;refine⟨Qb ?_,by go_grown⟩;rfl
theorem Xb (n:Int) (w:World):Calls Tryz.prog 215 #[.int .i64 n] w fun e w'=>
  e= .returned (.agg #[.int .i64 1,.int .i64 n,.string ⟨#[]⟩])∧Below w.heap.size w w':=by
 go_enter Tryz.func215,Tryz.ntmps215;go_wp2
 go_returns
 exact⟨rfl,by go_grown⟩
theorem JL (n:Int) (w:World):Calls Tryz.prog 301 #[.int .i64 n] w fun e w'=>
  e= .returned (.agg #[.int .i64 3,.int .i64 n,.string ⟨#[]⟩])∧Below w.heap.size w w':=by
 go_enter Tryz.func301,Tryz.ntmps301;go_wp2
 go_returns
 exact⟨rfl,by go_grown⟩
theorem Xu (n:Int) (w:World):Calls Tryz.prog 303 #[.int .i64 n] w fun e w'=>
  e= .returned (.agg #[.int .i64 4,.int .i64 n,.string ⟨#[]⟩])∧Below w.heap.size w w':=by
 go_enter Tryz.func303,Tryz.ntmps303;go_wp2
 go_returns
 exact⟨rfl,by go_grown⟩
theorem YF (s:ByteArray) (w:World):Calls Tryz.prog 253 #[.string s] w fun e w'=>
  e= .returned (.agg #[.int .i64 2,.int .i64 0,.string s])∧Below w.heap.size w w':=by
 go_enter Tryz.func253,Tryz.ntmps253;go_wp2
 go_returns
 exact⟨rfl,by go_grown⟩
theorem Xr (w:World):Calls Tryz.prog 299 #[.agg #[]] w fun e w'=>
  e= .returned (.agg #[.int .i64 0,.int .i64 0,.string ⟨#[]⟩])∧Below w.heap.size w w':=by
 go_enter Tryz.func299,Tryz.ntmps299;go_wp2
 go_returns
 exact⟨rfl,by go_grown⟩
theorem Uy (s:ByteArray) (k:Nat) (h:k<s.size):ZF (s.data.toList.take (k+1))=(ZF (s.data.toList.take k)&&decide (32≤s[k].toNat∧s[k].toNat≤126)):=by
 have e:s.data.toList.take (k+1)=s.data.toList.take k++ [s[k]]:=by
  rw [List.take_succ_eq_append_getElem (by simpa using h)];rfl
 rw [e];simp [ZF]
theorem Ev (s:ByteArray) (k:Nat) (h:k<s.size) (hb: ¬(32≤s[k].toNat∧s[k].toNat≤126)):ZF s.data.toList=false:=by
 cases e:ZF s.data.toList
 ·rfl
 ·have:=List.all_eq_true.1 e s[k] (Array.mem_toList_iff.2 (Array.getElem_mem h));exact absurd (of_decide_eq_true this) hb
theorem Jj (s:ByteArray) (w:World) (hs:s.size≤maxLen):Calls Tryz.prog 145 #[.string s] w fun e w'=>
  e= .returned (.bool (ZF s.data.toList))∧w'=w:=by
 unfold maxLen at hs;go_enter Tryz.func145,Tryz.ntmps145;go_wp2_with fail
 go_loop [6] (fun v=> ∃k:Nat,k≤s.size∧v= .int .i64 k∧ZF (s.data.toList.take k)=true) (fun v=>s.size-(intOf v).toNat)
 case atStart=>exact⟨0,by omega,rfl,rfl⟩
 case round=>
  obtain⟨k,hk,rfl,hr⟩:=hrel;have HR:Hid (ZF (s.data.toList.take k)=true):=hr;clear hr;by_cases hlt:k<s.size
  ·have HT:Hid (ZF (s.data.toList.take (k+1))=(ZF (s.data.toList.take k)&&decide (32≤s[k].toNat∧s[k].toNat≤126))):=Uy s k hlt;by_cases hb:32≤s[k].toNat∧s[k].toNat≤126
   ·have hb1: ¬((s[k].toNat:Int)<32):=by omega
    have hb2: ¬(126<(s[k].toNat:Int)):=by omega
    go_wp2
    all_goals
     go_round
     case rel=>exact⟨k+1,by omega,by go_num,by rw [HT.out,HR.out];simp;omega⟩
     case measure=>simp [intOf];omega
   ·have HF:Hid (ZF s.data.toList=false):=Ev s k hlt hb;by_cases hb1:(s[k].toNat:Int)<32
    ·go_wp2
     go_ret;exact⟨Qb HF.out.symm,rfl⟩
    ·have hb2:126<(s[k].toNat:Int):=by omega
     go_wp2
     go_ret;exact⟨Qb HF.out.symm,rfl⟩
  ·go_wp2
   go_ret;have HA:=HR.out;rw [List.take_of_length_le (by simp;omega)]at HA;exact⟨Qb HA.symm,rfl⟩
theorem Zw (s:ByteArray) (w:World) (hs:s.size≤maxLen):Calls Tryz.prog 290 #[.string s] w fun e w'=>
  e= .returned (.bool (QI s))∧w'=w:=by
 have hs':=hs;unfold maxLen at hs';go_enter Tryz.func290,Tryz.ntmps290
 go_wp2_with (first
  | (go_at_call 145;refine(Jj _ _ hs).mono ?_;rintro e w1 ⟨rfl,rfl⟩))
 all_goals
  go_ret;refine⟨Qb ?_,rfl⟩;unfold QI;simp_all
  try omega
theorem VP (s:ByteArray) (w:World) (hq:s.toList= []):Calls Tryz.prog 217 #[.agg #[.int .i64 0,.int .i64 0,.string s]] w fun e w'=>
  e= .returned (.iface 220 (.agg #[]))∧Below w.heap.size w w':=by
 go_enter Tryz.func217,Tryz.ntmps217
 go_wp2_with (first
  | (go_at_call 231;refine(Qj _ _ _ _).mono ?_;rintro e w1 ⟨rfl,hb⟩;have em:mBK 0 0 s= .iface 220 (.agg #[]):=rfl;rw [em];clear em;obtain⟨hk,hz⟩:=Qh (B:=w.heap.size+1) (X:=(w.alloc (.cells #[.int .i64 0,.int .i64 0,.string s] 126))) (by go_grown) (by go_size) hb;obtain⟨hC,hF,hL,hE⟩:=kp hb;clear hb))
 go_region_held3 (fun w'=>(∀bq oq,bq<w.heap.size+1→w'.cell? ⟨bq,oq,none⟩=(w.alloc (.cells #[.int .i64 0,.int .i64 0,.string s] 126)).cell? ⟨bq,oq,none⟩)∧w.heap.size+1≤w'.heap.size∧Below (w.heap.size+1) (w.alloc (.cells #[.int .i64 0,.int .i64 0,.string s] 126)) w')
  (exact Qq (by go_size) (by go_grown))
  (first
  | (go_at_call 297;refine(YR _).mono ?_;rintro e w1 ⟨rfl,hb⟩;obtain⟨hk,hz⟩:=Qh (B:=w.heap.size+1) (X:=(w.alloc (.cells #[.int .i64 0,.int .i64 0,.string s] 126))) (by go_grown) (by go_size) hb;clear hb)
  | (go_at_call 299;refine(Xr _).mono ?_;rintro e w1 ⟨rfl,hb⟩;obtain⟨hk,hz⟩:=Qh (B:=w.heap.size+1) (X:=(w.alloc (.cells #[.int .i64 0,.int .i64 0,.string s] 126))) (by go_grown) (by go_size) hb;clear hb))
 all_goals go_wp2_with fail
 all_goals
  go_ret;exact⟨rfl,Yn (n:=1) (X:=(w.alloc (.cells #[.int .i64 0,.int .i64 0,.string s] 126))) (by go_grown) (by go_grown)⟩
theorem VQ (s:ByteArray) (w:World) (hq: ¬s.toList= []):Calls Tryz.prog 217 #[.agg #[.int .i64 0,.int .i64 0,.string s]] w fun e w'=>
  e= .returned (mNo)∧Below w.heap.size w w':=by
 go_enter Tryz.func217,Tryz.ntmps217
 go_wp2_with (first
  | (go_at_call 231;refine(Qj _ _ _ _).mono ?_;rintro e w1 ⟨rfl,hb⟩;have em:mBK 0 0 s= .iface 220 (.agg #[]):=rfl;rw [em];clear em;obtain⟨hk,hz⟩:=Qh (B:=w.heap.size+1) (X:=(w.alloc (.cells #[.int .i64 0,.int .i64 0,.string s] 126))) (by go_grown) (by go_size) hb;obtain⟨hC,hF,hL,hE⟩:=kp hb;clear hb))
 go_region_held3 (fun w'=>(∀bq oq,bq<w.heap.size+1→w'.cell? ⟨bq,oq,none⟩=(w.alloc (.cells #[.int .i64 0,.int .i64 0,.string s] 126)).cell? ⟨bq,oq,none⟩)∧w.heap.size+1≤w'.heap.size∧Below (w.heap.size+1) (w.alloc (.cells #[.int .i64 0,.int .i64 0,.string s] 126)) w')
  (exact Qq (by go_size) (by go_grown))
  (first
  | (go_at_call 297;refine(YR _).mono ?_;rintro e w1 ⟨rfl,hb⟩;obtain⟨hk,hz⟩:=Qh (B:=w.heap.size+1) (X:=(w.alloc (.cells #[.int .i64 0,.int .i64 0,.string s] 126))) (by go_grown) (by go_size) hb;clear hb)
  | (go_at_call 299;refine(Xr _).mono ?_;rintro e w1 ⟨rfl,hb⟩;obtain⟨hk,hz⟩:=Qh (B:=w.heap.size+1) (X:=(w.alloc (.cells #[.int .i64 0,.int .i64 0,.string s] 126))) (by go_grown) (by go_size) hb;clear hb))
 all_goals go_wp2_with fail
 all_goals
  go_ret;exact⟨rfl,Yn (n:=1) (X:=(w.alloc (.cells #[.int .i64 0,.int .i64 0,.string s] 126))) (by go_grown) (by go_grown)⟩
theorem VT (n:Int) (s:ByteArray) (w:World) (hq: ¬0=n):Calls Tryz.prog 217 #[.agg #[.int .i64 0,.int .i64 n,.string s]] w fun e w'=>
  e= .returned (mNo)∧Below w.heap.size w w':=by
 go_enter Tryz.func217,Tryz.ntmps217
 go_wp2_with (first
  | (go_at_call 231;refine(Qj _ _ _ _).mono ?_;rintro e w1 ⟨rfl,hb⟩;have em:mBK 0 n s= .iface 220 (.agg #[]):=rfl;rw [em];clear em;obtain⟨hk,hz⟩:=Qh (B:=w.heap.size+1) (X:=(w.alloc (.cells #[.int .i64 0,.int .i64 n,.string s] 126))) (by go_grown) (by go_size) hb;obtain⟨hC,hF,hL,hE⟩:=kp hb;clear hb))
 go_region_held3 (fun w'=>(∀bq oq,bq<w.heap.size+1→w'.cell? ⟨bq,oq,none⟩=(w.alloc (.cells #[.int .i64 0,.int .i64 n,.string s] 126)).cell? ⟨bq,oq,none⟩)∧w.heap.size+1≤w'.heap.size∧Below (w.heap.size+1) (w.alloc (.cells #[.int .i64 0,.int .i64 n,.string s] 126)) w')
  (exact Qq (by go_size) (by go_grown))
  (first
  | (go_at_call 297;refine(YR _).mono ?_;rintro e w1 ⟨rfl,hb⟩;obtain⟨hk,hz⟩:=Qh (B:=w.heap.size+1) (X:=(w.alloc (.cells #[.int .i64 0,.int .i64 n,.string s] 126))) (by go_grown) (by go_size) hb;clear hb)
  | (go_at_call 299;refine(Xr _).mono ?_;rintro e w1 ⟨rfl,hb⟩;obtain⟨hk,hz⟩:=Qh (B:=w.heap.size+1) (X:=(w.alloc (.cells #[.int .i64 0,.int .i64 n,.string s] 126))) (by go_grown) (by go_size) hb;clear hb))
 all_goals go_wp2_with fail
 all_goals
  go_ret;exact⟨rfl,Yn (n:=1) (X:=(w.alloc (.cells #[.int .i64 0,.int .i64 n,.string s] 126))) (by go_grown) (by go_grown)⟩
theorem JT (n:Int) (s:ByteArray) (w:World) (hR:Yi n=true) (hq:s.toList= []):Calls Tryz.prog 217 #[.agg #[.int .i64 1,.int .i64 n,.string s]] w fun e w'=>
  e= .returned (.iface 201 (.int .i64 n))∧Below w.heap.size w w':=by
 go_enter Tryz.func217,Tryz.ntmps217
 go_wp2_with (first
  | (go_at_call 231;refine(Qj _ _ _ _).mono ?_;rintro e w1 ⟨rfl,hb⟩;have em:mBK 1 n s= .iface 201 (.int .i64 n):=rfl;rw [em];clear em;obtain⟨hk,hz⟩:=Qh (B:=w.heap.size+1) (X:=(w.alloc (.cells #[.int .i64 1,.int .i64 n,.string s] 126))) (by go_grown) (by go_size) hb;obtain⟨hC,hF,hL,hE⟩:=kp hb;clear hb))
 go_region_held3 (fun w'=>(∀bq oq,bq<w.heap.size+1→w'.cell? ⟨bq,oq,none⟩=(w.alloc (.cells #[.int .i64 1,.int .i64 n,.string s] 126)).cell? ⟨bq,oq,none⟩)∧w.heap.size+1≤w'.heap.size∧Below (w.heap.size+1) (w.alloc (.cells #[.int .i64 1,.int .i64 n,.string s] 126)) w')
  (exact Qq (by go_size) (by go_grown))
  (first
  | (go_at_call 291;refine(ZM _ _).mono ?_;rintro e w1 ⟨rfl,rfl⟩)
  | (go_at_call 215;refine(Xb _ _).mono ?_;rintro e w1 ⟨rfl,hb⟩;obtain⟨hk,hz⟩:=Qh (B:=w.heap.size+1) (X:=(w.alloc (.cells #[.int .i64 1,.int .i64 n,.string s] 126))) (by go_grown) (by go_size) hb;clear hb))
 all_goals go_wp2_with fail
 all_goals
  go_ret;exact⟨rfl,Yn (n:=1) (X:=(w.alloc (.cells #[.int .i64 1,.int .i64 n,.string s] 126))) (by go_grown) (by go_grown)⟩
theorem JV (n:Int) (s:ByteArray) (w:World) (hR:Yi n=true) (hq: ¬s.toList= []):Calls Tryz.prog 217 #[.agg #[.int .i64 1,.int .i64 n,.string s]] w fun e w'=>
  e= .returned (mNo)∧Below w.heap.size w w':=by
 go_enter Tryz.func217,Tryz.ntmps217
 go_wp2_with (first
  | (go_at_call 231;refine(Qj _ _ _ _).mono ?_;rintro e w1 ⟨rfl,hb⟩;have em:mBK 1 n s= .iface 201 (.int .i64 n):=rfl;rw [em];clear em;obtain⟨hk,hz⟩:=Qh (B:=w.heap.size+1) (X:=(w.alloc (.cells #[.int .i64 1,.int .i64 n,.string s] 126))) (by go_grown) (by go_size) hb;obtain⟨hC,hF,hL,hE⟩:=kp hb;clear hb))
 go_region_held3 (fun w'=>(∀bq oq,bq<w.heap.size+1→w'.cell? ⟨bq,oq,none⟩=(w.alloc (.cells #[.int .i64 1,.int .i64 n,.string s] 126)).cell? ⟨bq,oq,none⟩)∧w.heap.size+1≤w'.heap.size∧Below (w.heap.size+1) (w.alloc (.cells #[.int .i64 1,.int .i64 n,.string s] 126)) w')
  (exact Qq (by go_size) (by go_grown))
  (first
  | (go_at_call 291;refine(ZM _ _).mono ?_;rintro e w1 ⟨rfl,rfl⟩)
  | (go_at_call 215;refine(Xb _ _).mono ?_;rintro e w1 ⟨rfl,hb⟩;obtain⟨hk,hz⟩:=Qh (B:=w.heap.size+1) (X:=(w.alloc (.cells #[.int .i64 1,.int .i64 n,.string s] 126))) (by go_grown) (by go_size) hb;clear hb))
 all_goals go_wp2_with fail
 all_goals
  go_ret;exact⟨rfl,Yn (n:=1) (X:=(w.alloc (.cells #[.int .i64 1,.int .i64 n,.string s] 126))) (by go_grown) (by go_grown)⟩
theorem VM (n:Int) (s:ByteArray) (w:World) (hR:YJ n=true) (hq:s.toList= []):Calls Tryz.prog 217 #[.agg #[.int .i64 3,.int .i64 n,.string s]] w fun e w'=>
  e= .returned (.iface 221 (.int .i64 n))∧Below w.heap.size w w':=by
 go_enter Tryz.func217,Tryz.ntmps217
 go_wp2_with (first
  | (go_at_call 231;refine(Qj _ _ _ _).mono ?_;rintro e w1 ⟨rfl,hb⟩;have em:mBK 3 n s= .iface 221 (.int .i64 n):=rfl;rw [em];clear em;obtain⟨hk,hz⟩:=Qh (B:=w.heap.size+1) (X:=(w.alloc (.cells #[.int .i64 3,.int .i64 n,.string s] 126))) (by go_grown) (by go_size) hb;obtain⟨hC,hF,hL,hE⟩:=kp hb;clear hb))
 go_region_held3 (fun w'=>(∀bq oq,bq<w.heap.size+1→w'.cell? ⟨bq,oq,none⟩=(w.alloc (.cells #[.int .i64 3,.int .i64 n,.string s] 126)).cell? ⟨bq,oq,none⟩)∧w.heap.size+1≤w'.heap.size∧Below (w.heap.size+1) (w.alloc (.cells #[.int .i64 3,.int .i64 n,.string s] 126)) w')
  (exact Qq (by go_size) (by go_grown))
  (first
  | (go_at_call 300;refine(Yq _ _).mono ?_;rintro e w1 ⟨rfl,rfl⟩)
  | (go_at_call 301;refine(JL _ _).mono ?_;rintro e w1 ⟨rfl,hb⟩;obtain⟨hk,hz⟩:=Qh (B:=w.heap.size+1) (X:=(w.alloc (.cells #[.int .i64 3,.int .i64 n,.string s] 126))) (by go_grown) (by go_size) hb;clear hb))
 all_goals go_wp2_with fail
 all_goals
  go_ret;exact⟨rfl,Yn (n:=1) (X:=(w.alloc (.cells #[.int .i64 3,.int .i64 n,.string s] 126))) (by go_grown) (by go_grown)⟩
theorem VO (n:Int) (s:ByteArray) (w:World) (hR:YJ n=true) (hq: ¬s.toList= []):Calls Tryz.prog 217 #[.agg #[.int .i64 3,.int .i64 n,.string s]] w fun e w'=>
  e= .returned (mNo)∧Below w.heap.size w w':=by
 go_enter Tryz.func217,Tryz.ntmps217
 go_wp2_with (first
  | (go_at_call 231;refine(Qj _ _ _ _).mono ?_;rintro e w1 ⟨rfl,hb⟩;have em:mBK 3 n s= .iface 221 (.int .i64 n):=rfl;rw [em];clear em;obtain⟨hk,hz⟩:=Qh (B:=w.heap.size+1) (X:=(w.alloc (.cells #[.int .i64 3,.int .i64 n,.string s] 126))) (by go_grown) (by go_size) hb;obtain⟨hC,hF,hL,hE⟩:=kp hb;clear hb))
 go_region_held3 (fun w'=>(∀bq oq,bq<w.heap.size+1→w'.cell? ⟨bq,oq,none⟩=(w.alloc (.cells #[.int .i64 3,.int .i64 n,.string s] 126)).cell? ⟨bq,oq,none⟩)∧w.heap.size+1≤w'.heap.size∧Below (w.heap.size+1) (w.alloc (.cells #[.int .i64 3,.int .i64 n,.string s] 126)) w')
  (exact Qq (by go_size) (by go_grown))
  (first
  | (go_at_call 300;refine(Yq _ _).mono ?_;rintro e w1 ⟨rfl,rfl⟩)
  | (go_at_call 301;refine(JL _ _).mono ?_;rintro e w1 ⟨rfl,hb⟩;obtain⟨hk,hz⟩:=Qh (B:=w.heap.size+1) (X:=(w.alloc (.cells #[.int .i64 3,.int .i64 n,.string s] 126))) (by go_grown) (by go_size) hb;clear hb))
 all_goals go_wp2_with fail
 all_goals
  go_ret;exact⟨rfl,Yn (n:=1) (X:=(w.alloc (.cells #[.int .i64 3,.int .i64 n,.string s] 126))) (by go_grown) (by go_grown)⟩
theorem JD (n:Int) (s:ByteArray) (w:World) (hR:XN n=true) (hq:s.toList= []):Calls Tryz.prog 217 #[.agg #[.int .i64 4,.int .i64 n,.string s]] w fun e w'=>
  e= .returned (.iface 222 (.int .i64 n))∧Below w.heap.size w w':=by
 go_enter Tryz.func217,Tryz.ntmps217
 go_wp2_with (first
  | (go_at_call 231;refine(Qj _ _ _ _).mono ?_;rintro e w1 ⟨rfl,hb⟩;have em:mBK 4 n s= .iface 222 (.int .i64 n):=rfl;rw [em];clear em;obtain⟨hk,hz⟩:=Qh (B:=w.heap.size+1) (X:=(w.alloc (.cells #[.int .i64 4,.int .i64 n,.string s] 126))) (by go_grown) (by go_size) hb;obtain⟨hC,hF,hL,hE⟩:=kp hb;clear hb))
 go_region_held3 (fun w'=>(∀bq oq,bq<w.heap.size+1→w'.cell? ⟨bq,oq,none⟩=(w.alloc (.cells #[.int .i64 4,.int .i64 n,.string s] 126)).cell? ⟨bq,oq,none⟩)∧w.heap.size+1≤w'.heap.size∧Below (w.heap.size+1) (w.alloc (.cells #[.int .i64 4,.int .i64 n,.string s] 126)) w')
  (exact Qq (by go_size) (by go_grown))
  (first
  | (go_at_call 302;refine(Zx _ _).mono ?_;rintro e w1 ⟨rfl,rfl⟩)
  | (go_at_call 303;refine(Xu _ _).mono ?_;rintro e w1 ⟨rfl,hb⟩;obtain⟨hk,hz⟩:=Qh (B:=w.heap.size+1) (X:=(w.alloc (.cells #[.int .i64 4,.int .i64 n,.string s] 126))) (by go_grown) (by go_size) hb;clear hb))
 all_goals go_wp2_with fail
 all_goals
  go_ret;exact⟨rfl,Yn (n:=1) (X:=(w.alloc (.cells #[.int .i64 4,.int .i64 n,.string s] 126))) (by go_grown) (by go_grown)⟩
theorem JF (n:Int) (s:ByteArray) (w:World) (hR:XN n=true) (hq: ¬s.toList= []):Calls Tryz.prog 217 #[.agg #[.int .i64 4,.int .i64 n,.string s]] w fun e w'=>
  e= .returned (mNo)∧Below w.heap.size w w':=by
 go_enter Tryz.func217,Tryz.ntmps217
 go_wp2_with (first
  | (go_at_call 231;refine(Qj _ _ _ _).mono ?_;rintro e w1 ⟨rfl,hb⟩;have em:mBK 4 n s= .iface 222 (.int .i64 n):=rfl;rw [em];clear em;obtain⟨hk,hz⟩:=Qh (B:=w.heap.size+1) (X:=(w.alloc (.cells #[.int .i64 4,.int .i64 n,.string s] 126))) (by go_grown) (by go_size) hb;obtain⟨hC,hF,hL,hE⟩:=kp hb;clear hb))
 go_region_held3 (fun w'=>(∀bq oq,bq<w.heap.size+1→w'.cell? ⟨bq,oq,none⟩=(w.alloc (.cells #[.int .i64 4,.int .i64 n,.string s] 126)).cell? ⟨bq,oq,none⟩)∧w.heap.size+1≤w'.heap.size∧Below (w.heap.size+1) (w.alloc (.cells #[.int .i64 4,.int .i64 n,.string s] 126)) w')
  (exact Qq (by go_size) (by go_grown))
  (first
  | (go_at_call 302;refine(Zx _ _).mono ?_;rintro e w1 ⟨rfl,rfl⟩)
  | (go_at_call 303;refine(Xu _ _).mono ?_;rintro e w1 ⟨rfl,hb⟩;obtain⟨hk,hz⟩:=Qh (B:=w.heap.size+1) (X:=(w.alloc (.cells #[.int .i64 4,.int .i64 n,.string s] 126))) (by go_grown) (by go_size) hb;clear hb))
 all_goals go_wp2_with fail
 all_goals
  go_ret;exact⟨rfl,Yn (n:=1) (X:=(w.alloc (.cells #[.int .i64 4,.int .i64 n,.string s] 126))) (by go_grown) (by go_grown)⟩
theorem JA (s:ByteArray) (w:World) (hs:Hid (s.size≤maxLen)) (hR:QI s=true):Calls Tryz.prog 217 #[.agg #[.int .i64 2,.int .i64 0,.string s]] w fun e w'=>
  e= .returned (.iface 179 (.string s))∧Below w.heap.size w w':=by
 go_enter Tryz.func217,Tryz.ntmps217
 go_wp2_with (first
  | (go_at_call 231;refine(Qj _ _ _ _).mono ?_;rintro e w1 ⟨rfl,hb⟩;have em:mBK 2 0 s= .iface 179 (.string s):=rfl;rw [em];clear em;obtain⟨hk,hz⟩:=Qh (B:=w.heap.size+1) (X:=(w.alloc (.cells #[.int .i64 2,.int .i64 0,.string s] 126))) (by go_grown) (by go_size) hb;obtain⟨hC,hF,hL,hE⟩:=kp hb;clear hb))
 go_region_held3 (fun w'=>(∀bq oq,bq<w.heap.size+1→w'.cell? ⟨bq,oq,none⟩=(w.alloc (.cells #[.int .i64 2,.int .i64 0,.string s] 126)).cell? ⟨bq,oq,none⟩)∧w.heap.size+1≤w'.heap.size∧Below (w.heap.size+1) (w.alloc (.cells #[.int .i64 2,.int .i64 0,.string s] 126)) w')
  (exact Qq (by go_size) (by go_grown))
  (first
  | (go_at_call 290;refine(Zw _ _ hs.out).mono ?_;rintro e w1 ⟨rfl,rfl⟩)
  | (go_at_call 253;refine(YF _ _).mono ?_;rintro e w1 ⟨rfl,hb⟩;obtain⟨hk,hz⟩:=Qh (B:=w.heap.size+1) (X:=(w.alloc (.cells #[.int .i64 2,.int .i64 0,.string s] 126))) (by go_grown) (by go_size) hb;clear hb))
 all_goals go_wp2_with fail
 all_goals
  go_ret;exact⟨rfl,Yn (n:=1) (X:=(w.alloc (.cells #[.int .i64 2,.int .i64 0,.string s] 126))) (by go_grown) (by go_grown)⟩
theorem JC (n:Int) (s:ByteArray) (w:World) (hs:Hid (s.size≤maxLen)) (hR:QI s=true) (hq: ¬0=n):Calls Tryz.prog 217 #[.agg #[.int .i64 2,.int .i64 n,.string s]] w fun e w'=>
  e= .returned (mNo)∧Below w.heap.size w w':=by
 go_enter Tryz.func217,Tryz.ntmps217
 go_wp2_with (first
  | (go_at_call 231;refine(Qj _ _ _ _).mono ?_;rintro e w1 ⟨rfl,hb⟩;have em:mBK 2 n s= .iface 179 (.string s):=rfl;rw [em];clear em;obtain⟨hk,hz⟩:=Qh (B:=w.heap.size+1) (X:=(w.alloc (.cells #[.int .i64 2,.int .i64 n,.string s] 126))) (by go_grown) (by go_size) hb;obtain⟨hC,hF,hL,hE⟩:=kp hb;clear hb))
 go_region_held3 (fun w'=>(∀bq oq,bq<w.heap.size+1→w'.cell? ⟨bq,oq,none⟩=(w.alloc (.cells #[.int .i64 2,.int .i64 n,.string s] 126)).cell? ⟨bq,oq,none⟩)∧w.heap.size+1≤w'.heap.size∧Below (w.heap.size+1) (w.alloc (.cells #[.int .i64 2,.int .i64 n,.string s] 126)) w')
  (exact Qq (by go_size) (by go_grown))
  (first
  | (go_at_call 290;refine(Zw _ _ hs.out).mono ?_;rintro e w1 ⟨rfl,rfl⟩)
  | (go_at_call 253;refine(YF _ _).mono ?_;rintro e w1 ⟨rfl,hb⟩;obtain⟨hk,hz⟩:=Qh (B:=w.heap.size+1) (X:=(w.alloc (.cells #[.int .i64 2,.int .i64 n,.string s] 126))) (by go_grown) (by go_size) hb;clear hb))
 all_goals go_wp2_with fail
 all_goals
  go_ret;exact⟨rfl,Yn (n:=1) (X:=(w.alloc (.cells #[.int .i64 2,.int .i64 n,.string s] 126))) (by go_grown) (by go_grown)⟩
end Go.Proofs.YtejbnnacghbhoaaGreatDoor
