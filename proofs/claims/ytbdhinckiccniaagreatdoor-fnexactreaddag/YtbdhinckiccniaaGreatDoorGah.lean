import Derived.Test.YtbdhinckiccniaaGreatDoorMn
import Derived.Test.YtbdhinckiccniaaGreatDoorGag
import Derived.Test.YtbdhinckiccniaaGreatDoorGad
set_option linter.unusedSimpArgs false
set_option linter.unusedVariables false
set_option maxHeartbeats 4000000
namespace Go.Proofs.YtbdhinckiccniaaGreatDoor
open Go.RowKit
def rvB (k n:Int) (s:ByteArray):Value:=if okV k n s then .tuple #[.agg #[.int .i64 k,.int .i64 n,.string s],.bool true]else .tuple #[.agg #[.int .i64 0,.int .i64 0,.string ⟨#[]⟩],.bool false]
theorem Jy {k n:Int} {s:ByteArray} (h:okV k n s=true):rvB k n s= .tuple #[.agg #[.int .i64 k,.int .i64 n,.string s],.bool true]:=by rw [rvB,h];rfl
theorem Uw {k n:Int} {s:ByteArray} (h:okV k n s=false):rvB k n s= .tuple #[.agg #[.int .i64 0,.int .i64 0,.string ⟨#[]⟩],.bool false]:=by rw [rvB,h];rfl
theorem ZQ {s:ByteArray} {l:List UInt8} (h:s≠⟨l.toArray⟩):(s.toList==l)=false:=by
 rw [ByteArray.toList_eq];cases e:(s.data.toList==l)
 ·rfl
 ·exact absurd (ByteArray.ext (by rw [←eq_of_beq e])) h
theorem Uz {s:ByteArray} {l:List UInt8} (h:s=⟨l.toArray⟩):(s.toList==l)=true:=by
 rw [ByteArray.toList_eq,h];simp
theorem Jb:(⟨#[]⟩:ByteArray).size≤maxLen:=by unfold maxLen;decide
theorem Qoc (w:World):Calls Tryz.prog 120 #[.string ⟨#[]⟩] w fun e w'=>e= .returned (rvB 0 0 ⟨#[]⟩)∧Below w.heap.size w w':=by
 have HE:Hid (rvB 0 0 ⟨#[]⟩= .tuple #[.agg #[.int .i64 0,.int .i64 0,.string ⟨#[]⟩],.bool true]):=Jy (by simp [okV,emp,ByteArray.toList_eq]);go_enter Tryz.func120,Tryz.ntmps120;go_wp2_with fail
 all_goals
  refine bodyPost_ret (v:= .tuple #[.agg #[.int .i64 0,.int .i64 0,.string ⟨#[]⟩],.bool true]) ?_ rfl ⟨by rw [HE.out],by go_grown⟩;simp (maxDischargeDepth:=9) [results,Tryz.results120,go_sem, *]
theorem Qjm (s:ByteArray) (w:World) (hs:s.size≤281474976710656) (h:0<s.size) (h39:s[0].toNat=39):Calls Tryz.prog 120 #[.string s] w fun e w'=>e= .returned (rvB 2 0 (s.extract 1 s.size))∧Below w.heap.size w w':=by
 have z1:=Zz h;have z2:=QL h;have h2:(0:Int)<(s.size:Int):=by omega
 have h1:((s[0].toNat:Nat):Int)=39:=by omega
 have h3:(1:Int)≤(s.size:Int):=by omega
 have HSZ:Hid ((s.extract 1 s.size).size≤maxLen):=by show _≤_;rw [ByteArray.size_extract];unfold maxLen;omega
 cases ho:okV 2 0 (s.extract 1 s.size)
 ·have HOK:Hid (okV 2 0 (s.extract 1 s.size)=false):=ho;have HE:Hid (rvB 2 0 (s.extract 1 s.size)= .tuple #[.agg #[.int .i64 0,.int .i64 0,.string ⟨#[]⟩],.bool false]):=Uw ho;clear ho;go_enter Tryz.func120,Tryz.ntmps120
  go_wp2_with (first
  | (go_at_call 173;refine(QZ _ _ (by omega) (by omega)).mono ?_;rintro e w1 ⟨rfl,hb⟩;obtain⟨hc,hf,hC,hF,hz,hk,l0,l1⟩:=bk2 (w:=w) (by go_grown) (by go_size) hb;clear hb)
  | (go_at_call 171;refine(Ql _ _ _ _ HSZ.out).mono ?_;rintro e w1 ⟨rfl,hb⟩;rw [HOK.out];obtain⟨hc,hf,hC,hF,hz,hk,l0,l1⟩:=bk2 (w:=w) (by go_grown) (by go_size) hb;clear hb))
  all_goals
   refine bodyPost_ret (v:= .tuple #[.agg #[.int .i64 0,.int .i64 0,.string ⟨#[]⟩],.bool false]) ?_ rfl ⟨by rw [HE.out],by go_grown⟩;simp (maxDischargeDepth:=9) [results,Tryz.results120,go_sem, *]
 ·have HOK:Hid (okV 2 0 (s.extract 1 s.size)=true):=ho;have HE:Hid (rvB 2 0 (s.extract 1 s.size)= .tuple #[.agg #[.int .i64 2,.int .i64 0,.string (s.extract 1 s.size)],.bool true]):=Jy ho;clear ho;go_enter Tryz.func120,Tryz.ntmps120
  go_wp2_with (first
  | (go_at_call 173;refine(QZ _ _ (by omega) (by omega)).mono ?_;rintro e w1 ⟨rfl,hb⟩;obtain⟨hc,hf,hC,hF,hz,hk,l0,l1⟩:=bk2 (w:=w) (by go_grown) (by go_size) hb;clear hb)
  | (go_at_call 171;refine(Ql _ _ _ _ HSZ.out).mono ?_;rintro e w1 ⟨rfl,hb⟩;rw [HOK.out];obtain⟨hc,hf,hC,hF,hz,hk,l0,l1⟩:=bk2 (w:=w) (by go_grown) (by go_size) hb;clear hb))
  all_goals
   refine bodyPost_ret (v:= .tuple #[.agg #[.int .i64 2,.int .i64 0,.string (s.extract 1 s.size)],.bool true]) ?_ rfl ⟨by rw [HE.out],by go_grown⟩;simp (maxDischargeDepth:=9) [results,Tryz.results120,go_sem, *]
theorem Qjn (s:ByteArray) (w:World) (hs:s.size≤281474976710656) (h:0<s.size) (h39:s[0].toNat≠39) (hh:s=⟨#[84,82,85,69]⟩):Calls Tryz.prog 120 #[.string s] w fun e w'=>e= .returned (rvB 3 1 ⟨#[]⟩)∧Below w.heap.size w w':=by
 have z1:=Zz h;have z2:=QL h;have h2:(0:Int)<(s.size:Int):=by omega
 have h1: ¬((s[0].toNat:Nat):Int)=39:=by omega
 have h1':(((s[0].toNat:Nat):Int)==39)=false:=by simpa using h1
 have e1:=Uz (l:= [84,82,85,69]) hh;clear hh;cases ho:okV 3 1 ⟨#[]⟩
 ·have HOK:Hid (okV 3 1 ⟨#[]⟩=false):=ho;have HE:Hid (rvB 3 1 ⟨#[]⟩= .tuple #[.agg #[.int .i64 0,.int .i64 0,.string ⟨#[]⟩],.bool false]):=Uw ho;clear ho;go_enter Tryz.func120,Tryz.ntmps120
  go_wp2_with (first
  | (go_at_call 173;refine(QZ _ _ (by omega) (by omega)).mono ?_;rintro e w1 ⟨rfl,hb⟩;obtain⟨hc,hf,hC,hF,hz,hk,l0,l1⟩:=bk2 (w:=w) (by go_grown) (by go_size) hb;clear hb)
  | (go_at_call 171;refine(Ql _ _ _ _ Jb).mono ?_;rintro e w1 ⟨rfl,hb⟩;rw [HOK.out];obtain⟨hc,hf,hC,hF,hz,hk,l0,l1⟩:=bk2 (w:=w) (by go_grown) (by go_size) hb;clear hb))
  all_goals
   refine bodyPost_ret (v:= .tuple #[.agg #[.int .i64 0,.int .i64 0,.string ⟨#[]⟩],.bool false]) ?_ rfl ⟨by rw [HE.out],by go_grown⟩;simp (maxDischargeDepth:=9) [results,Tryz.results120,go_sem, *]
 ·have HOK:Hid (okV 3 1 ⟨#[]⟩=true):=ho;have HE:Hid (rvB 3 1 ⟨#[]⟩= .tuple #[.agg #[.int .i64 3,.int .i64 1,.string ⟨#[]⟩],.bool true]):=Jy ho;clear ho;go_enter Tryz.func120,Tryz.ntmps120
  go_wp2_with (first
  | (go_at_call 173;refine(QZ _ _ (by omega) (by omega)).mono ?_;rintro e w1 ⟨rfl,hb⟩;obtain⟨hc,hf,hC,hF,hz,hk,l0,l1⟩:=bk2 (w:=w) (by go_grown) (by go_size) hb;clear hb)
  | (go_at_call 171;refine(Ql _ _ _ _ Jb).mono ?_;rintro e w1 ⟨rfl,hb⟩;rw [HOK.out];obtain⟨hc,hf,hC,hF,hz,hk,l0,l1⟩:=bk2 (w:=w) (by go_grown) (by go_size) hb;clear hb))
  all_goals
   refine bodyPost_ret (v:= .tuple #[.agg #[.int .i64 3,.int .i64 1,.string ⟨#[]⟩],.bool true]) ?_ rfl ⟨by rw [HE.out],by go_grown⟩;simp (maxDischargeDepth:=9) [results,Tryz.results120,go_sem, *]
theorem Qhd (s:ByteArray) (w:World) (hs:s.size≤281474976710656) (h:0<s.size) (h39:s[0].toNat≠39) (hn:s≠⟨#[84,82,85,69]⟩) (hh:s=⟨#[70,65,76,83,69]⟩):Calls Tryz.prog 120 #[.string s] w fun e w'=>e= .returned (rvB 3 0 ⟨#[]⟩)∧Below w.heap.size w w':=by
 have z1:=Zz h;have z2:=QL h;have h2:(0:Int)<(s.size:Int):=by omega
 have h1: ¬((s[0].toNat:Nat):Int)=39:=by omega
 have h1':(((s[0].toNat:Nat):Int)==39)=false:=by simpa using h1
 have e0:=ZQ (l:= [84,82,85,69]) hn;have e1:=Uz (l:= [70,65,76,83,69]) hh;clear hh hn;cases ho:okV 3 0 ⟨#[]⟩
 ·have HOK:Hid (okV 3 0 ⟨#[]⟩=false):=ho;have HE:Hid (rvB 3 0 ⟨#[]⟩= .tuple #[.agg #[.int .i64 0,.int .i64 0,.string ⟨#[]⟩],.bool false]):=Uw ho;clear ho;go_enter Tryz.func120,Tryz.ntmps120
  go_wp2_with (first
  | (go_at_call 173;refine(QZ _ _ (by omega) (by omega)).mono ?_;rintro e w1 ⟨rfl,hb⟩;obtain⟨hc,hf,hC,hF,hz,hk,l0,l1⟩:=bk2 (w:=w) (by go_grown) (by go_size) hb;clear hb)
  | (go_at_call 171;refine(Ql _ _ _ _ Jb).mono ?_;rintro e w1 ⟨rfl,hb⟩;rw [HOK.out];obtain⟨hc,hf,hC,hF,hz,hk,l0,l1⟩:=bk2 (w:=w) (by go_grown) (by go_size) hb;clear hb))
  all_goals
   refine bodyPost_ret (v:= .tuple #[.agg #[.int .i64 0,.int .i64 0,.string ⟨#[]⟩],.bool false]) ?_ rfl ⟨by rw [HE.out],by go_grown⟩;simp (maxDischargeDepth:=9) [results,Tryz.results120,go_sem, *]
 ·have HOK:Hid (okV 3 0 ⟨#[]⟩=true):=ho;have HE:Hid (rvB 3 0 ⟨#[]⟩= .tuple #[.agg #[.int .i64 3,.int .i64 0,.string ⟨#[]⟩],.bool true]):=Jy ho;clear ho;go_enter Tryz.func120,Tryz.ntmps120
  go_wp2_with (first
  | (go_at_call 173;refine(QZ _ _ (by omega) (by omega)).mono ?_;rintro e w1 ⟨rfl,hb⟩;obtain⟨hc,hf,hC,hF,hz,hk,l0,l1⟩:=bk2 (w:=w) (by go_grown) (by go_size) hb;clear hb)
  | (go_at_call 171;refine(Ql _ _ _ _ Jb).mono ?_;rintro e w1 ⟨rfl,hb⟩;rw [HOK.out];obtain⟨hc,hf,hC,hF,hz,hk,l0,l1⟩:=bk2 (w:=w) (by go_grown) (by go_size) hb;clear hb))
  all_goals
   refine bodyPost_ret (v:= .tuple #[.agg #[.int .i64 3,.int .i64 0,.string ⟨#[]⟩],.bool true]) ?_ rfl ⟨by rw [HE.out],by go_grown⟩;simp (maxDischargeDepth:=9) [results,Tryz.results120,go_sem, *]
theorem Bf (s:ByteArray) (w:World) (hs:s.size≤281474976710656) (h:0<s.size) (h39:s[0].toNat≠39) (hT:s≠⟨#[84,82,85,69]⟩) (hF:s≠⟨#[70,65,76,83,69]⟩) (h35:s[0].toNat≠35) (h45:s[0].toNat≠45) (hl:l16 s.data.toList=none):Calls Tryz.prog 120 #[.string s] w fun e w'=>e= .returned (.tuple #[.agg #[.int .i64 0,.int .i64 0,.string ⟨#[]⟩],.bool false])∧Below w.heap.size w w':=by
 have z1:=Zz h;have z2:=QL h;have h2:(0:Int)<(s.size:Int):=by omega
 have h1: ¬((s[0].toNat:Nat):Int)=39:=by omega
 have h1':(((s[0].toNat:Nat):Int)==39)=false:=by simpa using h1
 have e10:=ZQ (l:= [84,82,85,69]) hT;have e11:=ZQ (l:= [70,65,76,83,69]) hF;clear hT hF;have h5: ¬((s[0].toNat:Nat):Int)=35:=by omega
 have h5':(((s[0].toNat:Nat):Int)==35)=false:=by simpa using h5
 have h6: ¬((s[0].toNat:Nat):Int)=45:=by omega
 have h6':(((s[0].toNat:Nat):Int)==45)=false:=by simpa using h6
 have HSZ:Hid (s.size≤281474976710656):=hs;have HL:Hid (o16 (l16 s.data.toList)= .tuple #[.int .i64 0,.bool false]):=by show o16 _=_;rw [hl];rfl
 clear hl;go_enter Tryz.func120,Tryz.ntmps120
 go_wp2_with (first
  | (go_at_call 29;refine(QF s _ HSZ.out).mono ?_;rintro e w1 ⟨rfl,rfl⟩;rw [HL.out]))
 all_goals
  refine bodyPost_ret (v:= .tuple #[.agg #[.int .i64 0,.int .i64 0,.string ⟨#[]⟩],.bool false]) ?_ rfl ⟨rfl,by go_grown⟩;simp (maxDischargeDepth:=9) [results,Tryz.results120,go_sem, *]
theorem Be (s:ByteArray) (w:World) (hs:s.size≤281474976710656) (h:0<s.size) (h39:s[0].toNat≠39) (hT:s≠⟨#[84,82,85,69]⟩) (hF:s≠⟨#[70,65,76,83,69]⟩) (h35:s[0].toNat≠35) (h45:s[0].toNat≠45) (m:Nat) (hm:m<10000000000000000) (hl:l16 s.data.toList=some m):Calls Tryz.prog 120 #[.string s] w fun e w'=>e= .returned (rvB 1 (m:Int) ⟨#[]⟩)∧Below w.heap.size w w':=by
 have z1:=Zz h;have z2:=QL h;have h2:(0:Int)<(s.size:Int):=by omega
 have h1: ¬((s[0].toNat:Nat):Int)=39:=by omega
 have h1':(((s[0].toNat:Nat):Int)==39)=false:=by simpa using h1
 have e10:=ZQ (l:= [84,82,85,69]) hT;have e11:=ZQ (l:= [70,65,76,83,69]) hF;clear hT hF;have h5: ¬((s[0].toNat:Nat):Int)=35:=by omega
 have h5':(((s[0].toNat:Nat):Int)==35)=false:=by simpa using h5
 have h6: ¬((s[0].toNat:Nat):Int)=45:=by omega
 have h6':(((s[0].toNat:Nat):Int)==45)=false:=by simpa using h6
 have HSZ:Hid (s.size≤281474976710656):=hs;have HL:Hid (o16 (l16 s.data.toList)= .tuple #[.int .i64 (m:Int),.bool true]):=by show o16 _=_;rw [hl];rfl
 clear hl;cases ho:okV 1 (m:Int) ⟨#[]⟩
 ·have HOK:Hid (okV 1 (m:Int) ⟨#[]⟩=false):=ho;have HE:Hid (rvB 1 (m:Int) ⟨#[]⟩= .tuple #[.agg #[.int .i64 0,.int .i64 0,.string ⟨#[]⟩],.bool false]):=Uw ho;clear ho;go_enter Tryz.func120,Tryz.ntmps120
  go_wp2_with (first
  | (go_at_call 29;refine(QF s _ HSZ.out).mono ?_;rintro e w1 ⟨rfl,rfl⟩;rw [HL.out])
  | (go_at_call 171;refine(Ql _ _ _ _ Jb).mono ?_;rintro e w1 ⟨rfl,hb⟩;rw [HOK.out];obtain⟨hc,hf,hC,hF,hz,hk,l0,l1⟩:=bk2 (w:=w) (by go_grown) (by go_size) hb;clear hb))
  all_goals
   refine bodyPost_ret (v:= .tuple #[.agg #[.int .i64 0,.int .i64 0,.string ⟨#[]⟩],.bool false]) ?_ rfl ⟨by rw [HE.out],by go_grown⟩;simp (maxDischargeDepth:=9) [results,Tryz.results120,go_sem, *]
 ·have HOK:Hid (okV 1 (m:Int) ⟨#[]⟩=true):=ho;have HE:Hid (rvB 1 (m:Int) ⟨#[]⟩= .tuple #[.agg #[.int .i64 1,.int .i64 (m:Int),.string ⟨#[]⟩],.bool true]):=Jy ho;clear ho;go_enter Tryz.func120,Tryz.ntmps120
  go_wp2_with (first
  | (go_at_call 29;refine(QF s _ HSZ.out).mono ?_;rintro e w1 ⟨rfl,rfl⟩;rw [HL.out])
  | (go_at_call 171;refine(Ql _ _ _ _ Jb).mono ?_;rintro e w1 ⟨rfl,hb⟩;rw [HOK.out];obtain⟨hc,hf,hC,hF,hz,hk,l0,l1⟩:=bk2 (w:=w) (by go_grown) (by go_size) hb;clear hb))
  all_goals
   refine bodyPost_ret (v:= .tuple #[.agg #[.int .i64 1,.int .i64 (m:Int),.string ⟨#[]⟩],.bool true]) ?_ rfl ⟨by rw [HE.out],by go_grown⟩;simp (maxDischargeDepth:=9) [results,Tryz.results120,go_sem, *]
theorem Bh (s:ByteArray) (w:World) (hs:s.size≤281474976710656) (h:0<s.size) (h39:s[0].toNat≠39) (hT:s≠⟨#[84,82,85,69]⟩) (hF:s≠⟨#[70,65,76,83,69]⟩) (h35:s[0].toNat≠35) (h45:s[0].toNat=45) (hl:l16 (s.extract 1 s.size).data.toList=none):Calls Tryz.prog 120 #[.string s] w fun e w'=>e= .returned (.tuple #[.agg #[.int .i64 0,.int .i64 0,.string ⟨#[]⟩],.bool false])∧Below w.heap.size w w':=by
 have z1:=Zz h;have z2:=QL h;have h2:(0:Int)<(s.size:Int):=by omega
 have h1: ¬((s[0].toNat:Nat):Int)=39:=by omega
 have h1':(((s[0].toNat:Nat):Int)==39)=false:=by simpa using h1
 have e10:=ZQ (l:= [84,82,85,69]) hT;have e11:=ZQ (l:= [70,65,76,83,69]) hF;clear hT hF;have h5: ¬((s[0].toNat:Nat):Int)=35:=by omega
 have h5':(((s[0].toNat:Nat):Int)==35)=false:=by simpa using h5
 have h6:((s[0].toNat:Nat):Int)=45:=by omega
 have h3:(1:Int)≤(s.size:Int):=by omega
 have HSZ:Hid ((s.extract 1 s.size).size≤281474976710656):=by show _≤_;rw [ByteArray.size_extract];omega
 have HL:Hid (o16 (l16 (s.extract 1 s.size).data.toList)= .tuple #[.int .i64 0,.bool false]):=by show o16 _=_;rw [hl];rfl
 clear hl;go_enter Tryz.func120,Tryz.ntmps120
 go_wp2_with (first
  | (go_at_call 29;refine(QF (s.extract 1 s.size) _ HSZ.out).mono ?_;rintro e w1 ⟨rfl,rfl⟩;rw [HL.out]))
 all_goals
  refine bodyPost_ret (v:= .tuple #[.agg #[.int .i64 0,.int .i64 0,.string ⟨#[]⟩],.bool false]) ?_ rfl ⟨rfl,by go_grown⟩;simp (maxDischargeDepth:=9) [results,Tryz.results120,go_sem, *]
theorem UJ (s:ByteArray) (w:World) (hs:s.size≤281474976710656) (h:0<s.size) (h39:s[0].toNat≠39) (hT:s≠⟨#[84,82,85,69]⟩) (hF:s≠⟨#[70,65,76,83,69]⟩) (h35:s[0].toNat≠35) (h45:s[0].toNat=45) (hl:l16 (s.extract 1 s.size).data.toList=some 0):Calls Tryz.prog 120 #[.string s] w fun e w'=>e= .returned (.tuple #[.agg #[.int .i64 0,.int .i64 0,.string ⟨#[]⟩],.bool false])∧Below w.heap.size w w':=by
 have z1:=Zz h;have z2:=QL h;have h2:(0:Int)<(s.size:Int):=by omega
 have h1: ¬((s[0].toNat:Nat):Int)=39:=by omega
 have h1':(((s[0].toNat:Nat):Int)==39)=false:=by simpa using h1
 have e10:=ZQ (l:= [84,82,85,69]) hT;have e11:=ZQ (l:= [70,65,76,83,69]) hF;clear hT hF;have h5: ¬((s[0].toNat:Nat):Int)=35:=by omega
 have h5':(((s[0].toNat:Nat):Int)==35)=false:=by simpa using h5
 have h6:((s[0].toNat:Nat):Int)=45:=by omega
 have h3:(1:Int)≤(s.size:Int):=by omega
 have HSZ:Hid ((s.extract 1 s.size).size≤281474976710656):=by show _≤_;rw [ByteArray.size_extract];omega
 have HL:Hid (o16 (l16 (s.extract 1 s.size).data.toList)= .tuple #[.int .i64 0,.bool true]):=by show o16 _=_;rw [hl];rfl
 clear hl;go_enter Tryz.func120,Tryz.ntmps120
 go_wp2_with (first
  | (go_at_call 29;refine(QF (s.extract 1 s.size) _ HSZ.out).mono ?_;rintro e w1 ⟨rfl,rfl⟩;rw [HL.out]))
 all_goals
  refine bodyPost_ret (v:= .tuple #[.agg #[.int .i64 0,.int .i64 0,.string ⟨#[]⟩],.bool false]) ?_ rfl ⟨rfl,by go_grown⟩;simp (maxDischargeDepth:=9) [results,Tryz.results120,go_sem, *]
theorem Bg (s:ByteArray) (w:World) (hs:s.size≤281474976710656) (h:0<s.size) (h39:s[0].toNat≠39) (hT:s≠⟨#[84,82,85,69]⟩) (hF:s≠⟨#[70,65,76,83,69]⟩) (h35:s[0].toNat≠35) (h45:s[0].toNat=45) (m:Nat) (hm:m<10000000000000000) (hm0:m≠0) (hl:l16 (s.extract 1 s.size).data.toList=some m):Calls Tryz.prog 120 #[.string s] w fun e w'=>e= .returned (rvB 1 (-(m:Int)) ⟨#[]⟩)∧Below w.heap.size w w':=by
 have z1:=Zz h;have z2:=QL h;have h2:(0:Int)<(s.size:Int):=by omega
 have h1: ¬((s[0].toNat:Nat):Int)=39:=by omega
 have h1':(((s[0].toNat:Nat):Int)==39)=false:=by simpa using h1
 have e10:=ZQ (l:= [84,82,85,69]) hT;have e11:=ZQ (l:= [70,65,76,83,69]) hF;clear hT hF;have h5: ¬((s[0].toNat:Nat):Int)=35:=by omega
 have h5':(((s[0].toNat:Nat):Int)==35)=false:=by simpa using h5
 have h6:((s[0].toNat:Nat):Int)=45:=by omega
 have h3:(1:Int)≤(s.size:Int):=by omega
 have HSZ:Hid ((s.extract 1 s.size).size≤281474976710656):=by show _≤_;rw [ByteArray.size_extract];omega
 have HL:Hid (o16 (l16 (s.extract 1 s.size).data.toList)= .tuple #[.int .i64 (m:Int),.bool true]):=by show o16 _=_;rw [hl];rfl
 clear hl;have m0: ¬(m:Int)=0:=by omega
 have m1:((m:Int)==0)=false:=by simpa using m0
 cases ho:okV 1 (-(m:Int)) ⟨#[]⟩
 ·have HOK:Hid (okV 1 (-(m:Int)) ⟨#[]⟩=false):=ho;have HE:Hid (rvB 1 (-(m:Int)) ⟨#[]⟩= .tuple #[.agg #[.int .i64 0,.int .i64 0,.string ⟨#[]⟩],.bool false]):=Uw ho;clear ho;go_enter Tryz.func120,Tryz.ntmps120
  go_wp2_with (first
  | (go_at_call 29;refine(QF (s.extract 1 s.size) _ HSZ.out).mono ?_;rintro e w1 ⟨rfl,rfl⟩;rw [HL.out])
  | (go_at_call 171;refine(Ql _ _ _ _ Jb).mono ?_;rintro e w1 ⟨rfl,hb⟩;rw [HOK.out];obtain⟨hc,hf,hC,hF,hz,hk,l0,l1⟩:=bk2 (w:=w) (by go_grown) (by go_size) hb;clear hb))
  all_goals
   refine bodyPost_ret (v:= .tuple #[.agg #[.int .i64 0,.int .i64 0,.string ⟨#[]⟩],.bool false]) ?_ rfl ⟨by rw [HE.out],by go_grown⟩;simp (maxDischargeDepth:=9) [results,Tryz.results120,go_sem, *]
 ·have HOK:Hid (okV 1 (-(m:Int)) ⟨#[]⟩=true):=ho;have HE:Hid (rvB 1 (-(m:Int)) ⟨#[]⟩= .tuple #[.agg #[.int .i64 1,.int .i64 (-(m:Int)),.string ⟨#[]⟩],.bool true]):=Jy ho;clear ho;go_enter Tryz.func120,Tryz.ntmps120
  go_wp2_with (first
  | (go_at_call 29;refine(QF (s.extract 1 s.size) _ HSZ.out).mono ?_;rintro e w1 ⟨rfl,rfl⟩;rw [HL.out])
  | (go_at_call 171;refine(Ql _ _ _ _ Jb).mono ?_;rintro e w1 ⟨rfl,hb⟩;rw [HOK.out];obtain⟨hc,hf,hC,hF,hz,hk,l0,l1⟩:=bk2 (w:=w) (by go_grown) (by go_size) hb;clear hb))
  all_goals
   refine bodyPost_ret (v:= .tuple #[.agg #[.int .i64 1,.int .i64 (-(m:Int)),.string ⟨#[]⟩],.bool true]) ?_ rfl ⟨by rw [HE.out],by go_grown⟩;simp (maxDischargeDepth:=9) [results,Tryz.results120,go_sem, *]
def efd (s:ByteArray):Nat→Int
 | 0=>0
 | k+1=>if erT (k:Int)=s then(k:Int)else efd s k
theorem Qqw (s:ByteArray):efd s 1=0:=by
 show(if erT ((0:Nat):Int)=s then((0:Nat):Int)else efd s 0)=0;split<;>rfl
theorem Qod (s:ByteArray) (w:World) (hs:s.size≤281474976710656) (h:0<s.size) (h39:s[0].toNat≠39) (hT:s≠⟨#[84,82,85,69]⟩) (hF:s≠⟨#[70,65,76,83,69]⟩) (h35:s[0].toNat=35):Calls Tryz.prog 120 #[.string s] w fun e w'=>e= .returned (rvB 4 (efd s 6) ⟨#[]⟩)∧Below w.heap.size w w':=by
 have z1:=Zz h;have z2:=QL h;have h2:(0:Int)<(s.size:Int):=by omega
 have h1: ¬((s[0].toNat:Nat):Int)=39:=by omega
 have h1':(((s[0].toNat:Nat):Int)==39)=false:=by simpa using h1
 have e10:=ZQ (l:= [84,82,85,69]) hT;have e11:=ZQ (l:= [70,65,76,83,69]) hF;clear hT hF;have h5:((s[0].toNat:Nat):Int)=35:=by omega
 have HE1:Hid (efd s 1=0):=Qqw s;go_enter Tryz.func120,Tryz.ntmps120;go_wp2_with fail
 go_loopw [5] (fun i wr=> ∃k:Nat,1≤k∧k≤6∧i= .int .i64 k∧wr.cell? ⟨w.heap.size,0,none⟩=some (.int .i64 0)∧wr.cell? ⟨w.heap.size,1,none⟩=some (.int .i64 0)∧wr.cell? ⟨w.heap.size,2,none⟩=some (.string ⟨#[]⟩)∧wr.cell? ⟨w.heap.size+1,0,none⟩=some (.int .i64 4)∧wr.cell? ⟨w.heap.size+1,1,none⟩=some (.int .i64 (efd s k))∧wr.cell? ⟨w.heap.size+1,2,none⟩=some (.string ⟨#[]⟩)∧wr.frozen? ⟨w.heap.size,0,none⟩=false∧wr.frozen? ⟨w.heap.size,1,none⟩=false∧wr.frozen? ⟨w.heap.size,2,none⟩=false∧wr.frozen? ⟨w.heap.size+1,0,none⟩=false∧wr.frozen? ⟨w.heap.size+1,1,none⟩=false∧wr.frozen? ⟨w.heap.size+1,2,none⟩=false∧Below w.heap.size w wr∧w.heap.size+2≤wr.heap.size) (fun i _=>7-(intOf i).toNat)
 case atStart=>
  refine⟨1,by omega,by omega,rfl,?_,?_,?_,?_,?_,?_,?_,?_,?_,?_,?_,?_,by go_grown,by go_size⟩
  all_goals first
   | (rw [HE1.out];go_simp;done)
   | (go_simp;done)
 case round=>
  clear HE1;obtain⟨k,hk1,hk6,rfl,c0,c1,c2,c3,c4,c5,f0,f1,f2,f3,f4,f5,hbel,hsz⟩:=hrel;have l0:w.heap.size<wr.heap.size:=by omega
  have l1:w.heap.size+1<wr.heap.size:=by omega
  by_cases hlt:k≤5
  ·have q1:(k:Int)≤5:=by omega
   by_cases he:erT (k:Int)=s
   ·have e1:=JF he;have HN:Hid (efd s (k+1)=(k:Int)):=by show efd s (k+1)=_;rw [efd,if_pos he]
    clear he;have HBL:Hid (Below w.heap.size w wr):=hbel;clear hbel;go_wp2_with fail
    refine(QZ _ _ (by omega) (by omega)).mono ?_;rintro e w1 ⟨rfl,hb⟩;have HB1:=hd (Qc HBL.out hb);have g0:=(hb.frozen (p:=⟨w.heap.size,0,none⟩) l0).trans f0;have g1:=(hb.frozen (p:=⟨w.heap.size,1,none⟩) l0).trans f1;have g2:=(hb.frozen (p:=⟨w.heap.size,2,none⟩) l0).trans f2;have g3:=(hb.frozen (p:=⟨w.heap.size+1,0,none⟩) l1).trans f3
    have g4:=(hb.frozen (p:=⟨w.heap.size+1,1,none⟩) l1).trans f4;have g5:=(hb.frozen (p:=⟨w.heap.size+1,2,none⟩) l1).trans f5;have d0:=(hb.cell (p:=⟨w.heap.size,0,none⟩) l0).trans c0;have d1:=(hb.cell (p:=⟨w.heap.size,1,none⟩) l0).trans c1;have d2:=(hb.cell (p:=⟨w.heap.size,2,none⟩) l0).trans c2;have d3:=(hb.cell (p:=⟨w.heap.size+1,0,none⟩) l1).trans c3;have d4:=(hb.cell (p:=⟨w.heap.size+1,1,none⟩) l1).trans c4
    have d5:=(hb.cell (p:=⟨w.heap.size+1,2,none⟩) l1).trans c5;clear c0 c1 c2 c3 c4 c5;have m0:w.heap.size+2≤w1.heap.size:=Nat.le_trans hsz hb.size;clear hb f0 f1 f2 f3 f4 f5 l0 l1 hsz HBL;go_wp2_with fail
    all_goals
     go_roundw
     case rel=>
      refine⟨k+1,by omega,by omega,by go_num,?_,?_,?_,?_,?_,?_,?_,?_,?_,?_,?_,?_,HB1.out.setCell (by simp) _,by simpa using m0⟩
      all_goals first
       | (rw [HN.out];go_simp;done)
       | (go_simp;done)
     case measure=>simp [intOf];omega
   ·have e1:=QD he;have HN:Hid (efd s (k+1)=efd s k):=by show efd s (k+1)=_;rw [efd,if_neg he]
    clear he;have HBL:Hid (Below w.heap.size w wr):=hbel;clear hbel;go_wp2_with fail
    refine(QZ _ _ (by omega) (by omega)).mono ?_;rintro e w1 ⟨rfl,hb⟩;have HB1:=hd (Qc HBL.out hb);have g0:=(hb.frozen (p:=⟨w.heap.size,0,none⟩) l0).trans f0;have g1:=(hb.frozen (p:=⟨w.heap.size,1,none⟩) l0).trans f1;have g2:=(hb.frozen (p:=⟨w.heap.size,2,none⟩) l0).trans f2;have g3:=(hb.frozen (p:=⟨w.heap.size+1,0,none⟩) l1).trans f3
    have g4:=(hb.frozen (p:=⟨w.heap.size+1,1,none⟩) l1).trans f4;have g5:=(hb.frozen (p:=⟨w.heap.size+1,2,none⟩) l1).trans f5;have d0:=(hb.cell (p:=⟨w.heap.size,0,none⟩) l0).trans c0;have d1:=(hb.cell (p:=⟨w.heap.size,1,none⟩) l0).trans c1;have d2:=(hb.cell (p:=⟨w.heap.size,2,none⟩) l0).trans c2;have d3:=(hb.cell (p:=⟨w.heap.size+1,0,none⟩) l1).trans c3;have d4:=(hb.cell (p:=⟨w.heap.size+1,1,none⟩) l1).trans c4
    have d5:=(hb.cell (p:=⟨w.heap.size+1,2,none⟩) l1).trans c5;clear c0 c1 c2 c3 c4 c5;have m0:w.heap.size+2≤w1.heap.size:=Nat.le_trans hsz hb.size;clear hb f0 f1 f2 f3 f4 f5 l0 l1 hsz HBL;go_wp2_with fail
    all_goals
     go_roundw
     case rel=>exact⟨k+1,by omega,by omega,by go_num,d0,d1,d2,d3,by rw [HN.out];exact d4,d5,g0,g1,g2,g3,g4,g5,HB1.out,m0⟩
     case measure=>simp [intOf];omega
  ·have q1: ¬(k:Int)≤5:=by omega
   obtain rfl:k=6:=by omega
   have HBL:Hid (Below w.heap.size w wr):=hbel;clear hbel e10 e11 z1 z2 h1 h1';cases ho:okV 4 (efd s 6) ⟨#[]⟩
   ·have HOK:Hid (okV 4 (efd s 6) ⟨#[]⟩=false):=ho;have HE:Hid (rvB 4 (efd s 6) ⟨#[]⟩= .tuple #[.agg #[.int .i64 0,.int .i64 0,.string ⟨#[]⟩],.bool false]):=Uw ho;clear ho;go_wp2_with fail
    refine(Ql _ _ _ _ Jb).mono ?_;rintro e w1 ⟨rfl,hb⟩;try rw [HOK.out]
    have HB1:=hd (Qc HBL.out hb);have g0:=(hb.frozen (p:=⟨w.heap.size,0,none⟩) l0).trans f0;have g1:=(hb.frozen (p:=⟨w.heap.size,1,none⟩) l0).trans f1;have g2:=(hb.frozen (p:=⟨w.heap.size,2,none⟩) l0).trans f2;have d0:=(hb.cell (p:=⟨w.heap.size,0,none⟩) l0).trans c0;have d1:=(hb.cell (p:=⟨w.heap.size,1,none⟩) l0).trans c1;have d2:=(hb.cell (p:=⟨w.heap.size,2,none⟩) l0).trans c2
    have d3:=(hb.cell (p:=⟨w.heap.size+1,0,none⟩) l1).trans c3;have d4:=(hb.cell (p:=⟨w.heap.size+1,1,none⟩) l1).trans c4;have d5:=(hb.cell (p:=⟨w.heap.size+1,2,none⟩) l1).trans c5;clear c0 c1 c2 c3 c4 c5;clear hb f0 f1 f2 f3 f4 f5 l0 l1 hsz HBL;go_wp2_with fail
    refine bodyPost_ret (v:= .tuple #[.agg #[.int .i64 0,.int .i64 0,.string ⟨#[]⟩],.bool false]) ?_ rfl ⟨by rw [HE.out],((HB1.out.setCell (by simp) _).setCell (by simp) _).setCell (by simp) _⟩;simp (maxDischargeDepth:=9) [results,Tryz.results120,go_sem, *]
   ·have HOK:Hid (okV 4 (efd s 6) ⟨#[]⟩=true):=ho;have HE:Hid (rvB 4 (efd s 6) ⟨#[]⟩= .tuple #[.agg #[.int .i64 4,.int .i64 (efd s 6),.string ⟨#[]⟩],.bool true]):=Jy ho;clear ho;go_wp2_with fail
    refine(Ql _ _ _ _ Jb).mono ?_;rintro e w1 ⟨rfl,hb⟩;try rw [HOK.out]
    have HB1:=hd (Qc HBL.out hb);have g0:=(hb.frozen (p:=⟨w.heap.size,0,none⟩) l0).trans f0;have g1:=(hb.frozen (p:=⟨w.heap.size,1,none⟩) l0).trans f1;have g2:=(hb.frozen (p:=⟨w.heap.size,2,none⟩) l0).trans f2;have d0:=(hb.cell (p:=⟨w.heap.size,0,none⟩) l0).trans c0;have d1:=(hb.cell (p:=⟨w.heap.size,1,none⟩) l0).trans c1;have d2:=(hb.cell (p:=⟨w.heap.size,2,none⟩) l0).trans c2
    have d3:=(hb.cell (p:=⟨w.heap.size+1,0,none⟩) l1).trans c3;have d4:=(hb.cell (p:=⟨w.heap.size+1,1,none⟩) l1).trans c4;have d5:=(hb.cell (p:=⟨w.heap.size+1,2,none⟩) l1).trans c5;clear c0 c1 c2 c3 c4 c5;clear hb f0 f1 f2 f3 f4 f5 l0 l1 hsz HBL;go_wp2_with fail
    refine bodyPost_ret (v:= .tuple #[.agg #[.int .i64 4,.int .i64 (efd s 6),.string ⟨#[]⟩],.bool true]) ?_ rfl ⟨by rw [HE.out],((HB1.out.setCell (by simp) _).setCell (by simp) _).setCell (by simp) _⟩;simp (maxDischargeDepth:=9) [results,Tryz.results120,go_sem, *]
def GS:Value:= .tuple #[.agg #[.int .i64 0,.int .i64 0,.string ⟨#[]⟩],.bool false]
def rvO (o:Option Int):Value:=match o with
 | some v=>rvB 1 v ⟨#[]⟩
 | none=>GS
def rvS (s:ByteArray):Value:=
 if h:0<s.size then(if s[0].toNat=39 then rvB 2 0 (s.extract 1 s.size)else if s=trT 1 then rvB 3 1 ⟨#[]⟩else if s=trT 0 then rvB 3 0 ⟨#[]⟩
  else if s[0].toNat=35 then rvB 4 (efd s 6) ⟨#[]⟩else rvO (NS s.data.toList))else rvB 0 0 ⟨#[]⟩
theorem Hs (s:ByteArray):(s.extract 1 s.size).data.toList=s.data.toList.tail:=by
 obtain⟨⟨l⟩⟩:=s;cases l with
 | nil=>rfl
 | cons a t=>
  have e:(ByteArray.extract ⟨⟨a::t⟩⟩ 1 (ByteArray.size ⟨⟨a::t⟩⟩)).data.toList=((a::t).extract 1 (a::t).length):=by simp [ByteArray.size]
  rw [e];simp [List.extract]
theorem Qta {s:ByteArray} (h:0<s.size) (h45:s[0].toNat=45):s.data.toList.head? =some 45:=by
 rw [Yz h];congr 1
 apply UInt8.toNat_inj.1;rw [h45];rfl
theorem Qqi {s:ByteArray} (h:0<s.size) (h45:s[0].toNat≠45): ¬s.data.toList.head? =some 45:=by
 rw [Yz h];intro e;have:s[0]=45:=by simpa using e
 apply h45;rw [this];rfl
theorem JQ (s:ByteArray) (w:World) (hs:s.size≤281474976710656):Calls Tryz.prog 120 #[.string s] w fun e w'=>e= .returned (rvS s)∧Below w.heap.size w w':=by
 by_cases h:0<s.size
 ·by_cases h39:s[0].toNat=39
  ·rw [show rvS s=rvB 2 0 (s.extract 1 s.size) by unfold rvS;rw [dif_pos h,if_pos h39]];exact Qjm s w hs h h39
  by_cases hT:s=trT 1
  ·rw [show rvS s=rvB 3 1 ⟨#[]⟩ by unfold rvS;rw [dif_pos h,if_neg h39,if_pos hT]];exact Qjn s w hs h h39 hT
  by_cases hF:s=trT 0
  ·rw [show rvS s=rvB 3 0 ⟨#[]⟩ by unfold rvS;rw [dif_pos h,if_neg h39,if_neg hT,if_pos hF]];exact Qhd s w hs h h39 hT hF
  by_cases h35:s[0].toNat=35
  ·rw [show rvS s=rvB 4 (efd s 6) ⟨#[]⟩ by unfold rvS;rw [dif_pos h,if_neg h39,if_neg hT,if_neg hF,if_pos h35]];exact Qod s w hs h h39 hT hF h35
  rw [show rvS s=rvO (NS s.data.toList) by unfold rvS;rw [dif_pos h,if_neg h39,if_neg hT,if_neg hF,if_neg h35]];by_cases h45:s[0].toNat=45
  ·unfold NS;rw [if_pos (Qta h h45)];cases hl:l16 s.data.toList.tail with
   | none=>exact Bh s w hs h h39 hT hF h35 h45 (by rw [Hs];exact hl)
   | some m=>
    have hm:=(Xk hl).2.1;simp only;by_cases h0:m=0
    ·subst h0;rw [if_pos rfl];exact UJ s w hs h h39 hT hF h35 h45 (by rw [Hs];exact hl)
    ·rw [if_neg h0];exact Bg s w hs h h39 hT hF h35 h45 m hm h0 (by rw [Hs];exact hl)
  ·unfold NS;rw [if_neg (Qqi h h45)];cases hl:l16 s.data.toList with
   | none=>exact Bf s w hs h h39 hT hF h35 h45 hl
   | some m=>exact Be s w hs h h39 hT hF h35 h45 m (Xk hl).2.1 hl
 ·rw [show rvS s=rvB 0 0 ⟨#[]⟩ by unfold rvS;rw [dif_neg h]];obtain rfl:=Zg (s:=s) (by omega);exact Qoc w
theorem Xm:emp ⟨#[]⟩=true:=by simp [emp,ByteArray.toList_eq]
theorem NV {k n:Int} {s:ByteArray} (h:gOk (k,n,s)=okV k n s):rvT (k,n,s)=rvB k n s:=by unfold rvT rvB;rw [h]
theorem rv0:rvT (0,0,⟨#[]⟩)=rvB 0 0 ⟨#[]⟩:=NV (by simp [gOk,okV,Xm])
theorem rv1 (n:Int):rvT (1,n,⟨#[]⟩)=rvB 1 n ⟨#[]⟩:=NV (by simp [gOk,okV,Xm])
theorem rv2 (s:ByteArray):rvT (2,0,s)=rvB 2 0 s:=NV (by simp [gOk,okV])
theorem rv3 (n:Int):rvT (3,n,⟨#[]⟩)=rvB 3 n ⟨#[]⟩:=NV (by simp [gOk,okV,Xm])
theorem rv4 (n:Int):rvT (4,n,⟨#[]⟩)=rvB 4 n ⟨#[]⟩:=NV (by simp [gOk,okV,Xm])
theorem rv5:rvT (5,0,⟨#[]⟩)=GS:=rfl
theorem Qmc {n:Int} (h:ZP n=false):rvB 1 n ⟨#[]⟩=GS:=by simp [rvB,okV,h,GS]
theorem Qsa:rvB 4 0 ⟨#[]⟩=GS:=by simp [rvB,okV,XO,GS]
theorem Gs (k:Int) (h1:1≤k) (h5:k≤5): ∀s,s=erT k→ ∀h:0<s.size,s[0].toNat=35:=by
 have hk:k=1∨k=2∨k=3∨k=4∨k=5:=by omega
 rintro s rfl h;rcases hk with rfl | rfl | rfl | rfl | rfl<;>rfl
theorem Qid {v:Int} {l:List UInt8} (h:Lib.itoa v=l): ∀c,l.head? =some c→c.toNat=45∨(48≤c.toNat∧c.toNat≤57):=by
 intro c hc;subst h;unfold Lib.itoa at hc;split at hc
 ·left
  simp only [List.head?_cons,Option.some.injEq]at hc;rw [←hc];rfl
 ·exact Or.inr (DF _ c hc)
theorem GG {l:List UInt8} {v:Int} (h:Yt l=some v):Lib.itoa v=l∧Lib.parseIntB 64 l= .ok v:=by
 unfold Yt at h;split at h
 ·split at h
  ·rename_i hp hi
   cases h
   exact⟨hi,hp⟩
  ·cases h
 ·cases h
theorem Qkk (l:List UInt8):rvT (Qm1 (Yt l))=rvO (NS l):=by
 cases hr:Yt l with
 | none=>
  cases hs:NS l with
  | none=>rfl
  | some v=>
   obtain⟨h1,h2⟩:=Dc hs;rw [Ef h2 h1]at hr;cases hr
 | some v=>
  obtain⟨h1,h2⟩:=GG hr;show rvT (1,v,⟨#[]⟩)=_;rw [rv1];cases hn:ZP v
  ·rw [Qmc hn];cases hs:NS l with
   | none=>rfl
   | some v'=>
    obtain⟨h3,h4⟩:=Dc hs;rw [h2]at h4;cases h4
    show GS=rvB 1 v ⟨#[]⟩;rw [Qmc hn]
  ·have hb: -1000000000000000≤v∧v≤1000000000000000:=of_decide_eq_true hn;rw [←h1,Du v (by omega) (by omega)];rfl
theorem Qhn {s:ByteArray} (h:0<s.size) (h35:s[0].toNat=35):Yt s.data.toList=none:=by
 cases hr:Yt s.data.toList with
 | none=>rfl
 | some v=>
  have:=Qid (GG hr).1 _ (Yz h);omega
theorem Ol {s:ByteArray} (k:Nat) (h1:1≤k) (h5:k≤5) (h:s=erT k):efd s 6=k:=by
 subst h;have hk:k=1∨k=2∨k=3∨k=4∨k=5:=by omega
 rcases hk with rfl | rfl | rfl | rfl | rfl<;>decide
theorem Qlo {s:ByteArray} (h: ∀k:Nat,1≤k→k≤5→s≠erT k):efd s 6=0:=by
 have e: ∀k:Nat,k≤6→efd s k=0:=by
  intro k;induction k with
  | zero=>intro _;rfl
  | succ k ih=>
   intro hk;rw [efd];by_cases h0:k=0
   ·subst h0;split
    ·rfl
    ·exact ih (by omega)
   ·rw [if_neg (fun e=>h k (by omega) (by omega) e.symm)];exact ih (by omega)
 exact e 6 (Nat.le_refl _)
theorem Eb (s:ByteArray):rvT (Qu s)=rvS s:=by
 unfold Qu rvS;by_cases h:0<s.size
 ·rw [dif_pos h,dif_pos h];by_cases h39:s[0].toNat=39
  ·rw [if_pos h39,if_pos h39];exact rv2 _
  rw [if_neg h39,if_neg h39];unfold VQ;by_cases hF:s=trT 0
  ·rw [if_pos hF,if_neg (by rw [hF];decide),if_pos hF];exact rv3 0
  by_cases hT:s=trT 1
  ·rw [if_neg hF,if_pos hT,if_pos hT];exact rv3 1
  rw [if_neg hF,if_neg hT,if_neg hT,if_neg hF];by_cases h35:s[0].toNat=35
  ·rw [if_pos h35];by_cases n1:s=erT 1
   ·rw [if_pos n1,Ol 1 (by omega) (by omega) n1];exact rv4 1
   by_cases n2:s=erT 2
   ·rw [if_neg n1,if_pos n2,Ol 2 (by omega) (by omega) n2];exact rv4 2
   by_cases n3:s=erT 3
   ·rw [if_neg n1,if_neg n2,if_pos n3,Ol 3 (by omega) (by omega) n3];exact rv4 3
   by_cases n4:s=erT 4
   ·rw [if_neg n1,if_neg n2,if_neg n3,if_pos n4,Ol 4 (by omega) (by omega) n4];exact rv4 4
   by_cases n5:s=erT 5
   ·rw [if_neg n1,if_neg n2,if_neg n3,if_neg n4,if_pos n5,Ol 5 (by omega) (by omega) n5];exact rv4 5
   rw [if_neg n1,if_neg n2,if_neg n3,if_neg n4,if_neg n5,Qhn h h35,Qlo (fun k k1 k5=> ?_),Qsa]
   ·exact rv5
   ·have hk:k=1∨k=2∨k=3∨k=4∨k=5:=by omega
    rcases hk with rfl | rfl | rfl | rfl | rfl<;>assumption
  ·rw [if_neg h35,if_neg (fun e=>h35 (Gs 1 (by omega) (by omega) s e h)),if_neg (fun e=>h35 (Gs 2 (by omega) (by omega) s e h)),if_neg (fun e=>h35 (Gs 3 (by omega) (by omega) s e h)),if_neg (fun e=>h35 (Gs 4 (by omega) (by omega) s e h)),if_neg (fun e=>h35 (Gs 5 (by omega) (by omega) s e h))];exact Qkk _
 ·rw [dif_neg h,dif_neg h];exact rv0
end Go.Proofs.YtbdhinckiccniaaGreatDoor
