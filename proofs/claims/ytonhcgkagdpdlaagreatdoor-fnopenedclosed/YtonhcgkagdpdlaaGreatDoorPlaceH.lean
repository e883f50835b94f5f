import Derived.Test.YtonhcgkagdpdlaaGreatDoorGai
set_option linter.unusedSimpArgs false
set_option linter.unusedVariables false
set_option maxHeartbeats 4000000
namespace Go.Proofs.YtonhcgkagdpdlaaGreatDoor
open Go.RowKit
theorem l1I_nil {s:ByteArray} (h:s.size=0):l1I s=none:=by
 obtain⟨⟨l⟩⟩:=s
 match l,h with
 | [],_=>rfl
theorem l1I_one {s:ByteArray} (h:s.size=1):l1I s=if 48≤(s[0]'(by omega)).toNat∧(s[0]'(by omega)).toNat≤57 then some (((s[0]'(by omega)).toNat:Int)-48)else none:=by
 obtain⟨⟨l⟩⟩:=s
 match l,h with
 | [a],_=>rfl
theorem l1I_two {s:ByteArray} (h:s.size=2):l1I s=if(s[0]'(by omega)).toNat=48 then none else if(48≤(s[0]'(by omega)).toNat∧(s[0]'(by omega)).toNat≤57)∧(48≤(s[1]'(by omega)).toNat∧(s[1]'(by omega)).toNat≤57)then some ((((s[0]'(by omega)).toNat:Int)-48)*10+(((s[1]'(by omega)).toNat:Int)-48))else none:=by
 obtain⟨⟨l⟩⟩:=s
 match l,h with
 | [a,b],_=>rfl
theorem spec_l1Int (s:ByteArray) (w:World) (hs:s.size≤281474976710656):Calls Tryz.prog 83 #[.string s,.int .i64 2] w fun e w'=>
  e= .returned (.tuple #[.int .i64 ((l1I s).getD 0),.bool (l1I s).isSome])∧w'=w:=by
 by_cases h3:2<s.size
 ·have h3':(2:Int)<(s.size:Int):=by omega
  have h1: ¬(s.size:Int)<1:=by omega
  have HE:Hid (l1I s=none):=by
   show l1I s=none
   obtain⟨⟨l⟩⟩:=s
   match l,h3 with
   | _::_::_::_,_=>rfl
  go_enter Tryz.func83,Tryz.ntmps83
  go_wp2
  refine bodyPost_ret (v:= .tuple #[.int .i64 0,.bool false]) ?_ rfl ⟨by rw [HE.out];rfl,rfl⟩
  simp (maxDischargeDepth:=9) [results,Tryz.results83,go_sem, *]
 by_cases hz0:s.size=0
 ·have h1:(s.size:Int)<1:=by omega
  have HE:Hid (l1I s=none):=l1I_nil hz0
  clear hz0
  go_enter Tryz.func83,Tryz.ntmps83
  go_wp2
  refine bodyPost_ret (v:= .tuple #[.int .i64 0,.bool false]) ?_ rfl ⟨by rw [HE.out];rfl,rfl⟩
  simp (maxDischargeDepth:=9) [results,Tryz.results83,go_sem, *]
 have hp:0<s.size:=by omega
 have k1: ¬(s.size:Int)<1:=by omega
 have k2: ¬(2:Int)<(s.size:Int):=by omega
 have k3:(0:Int)<(s.size:Int):=by omega
 by_cases hz1:s.size=1
 ·have k4: ¬(1:Int)<(s.size:Int):=by omega
  have HL:Hid (l1I s=if 48≤(s[0]'hp).toNat∧(s[0]'hp).toNat≤57 then some (((s[0]'hp).toNat:Int)-48)else none):=l1I_one hz1
  clear hz1 hz0 h3
  by_cases h0:(s[0]'hp).toNat=48
  ·have h0':((s[0]'hp).toNat:Int)=48:=by omega
   have HE:Hid (l1I s=some 0):=by show l1I s=some 0;rw [HL.out,if_pos (by omega),h0];rfl
   go_enter Tryz.func83,Tryz.ntmps83
   go_wp2
   refine wp_loop_rounds 4 ?_
   rw [rounds_succ]
   go_wp2
   rw [rounds_succ]
   go_wp2
   refine bodyPost_ret (v:= .tuple #[.int .i64 0,.bool true]) ?_ rfl ⟨by rw [HE.out];rfl,rfl⟩
   simp (maxDischargeDepth:=9) [results,Tryz.results83,go_sem, *]
  have n0: ¬((s[0]'hp).toNat:Int)=48:=by omega
  have m0:(((s[0]'hp).toNat:Int)==48)=false:=by simpa using n0
  by_cases h1:(s[0]'hp).toNat<48
  ·have h1':((s[0]'hp).toNat:Int)<48:=by omega
   have HE:Hid (l1I s=none):=by show l1I s=none;rw [HL.out,if_neg (by omega)]
   go_enter Tryz.func83,Tryz.ntmps83
   go_wp2
   refine wp_loop_rounds 4 ?_
   rw [rounds_succ]
   go_wp2
   refine bodyPost_ret (v:= .tuple #[.int .i64 0,.bool false]) ?_ rfl ⟨by rw [HE.out];rfl,rfl⟩
   simp (maxDischargeDepth:=9) [results,Tryz.results83,go_sem, *]
  have n1: ¬((s[0]'hp).toNat:Int)<48:=by omega
  by_cases h2:57<(s[0]'hp).toNat
  ·have h2':(57:Int)<((s[0]'hp).toNat:Int):=by omega
   have HE:Hid (l1I s=none):=by show l1I s=none;rw [HL.out,if_neg (by omega)]
   go_enter Tryz.func83,Tryz.ntmps83
   go_wp2
   refine wp_loop_rounds 4 ?_
   rw [rounds_succ]
   go_wp2
   refine bodyPost_ret (v:= .tuple #[.int .i64 0,.bool false]) ?_ rfl ⟨by rw [HE.out];rfl,rfl⟩
   simp (maxDischargeDepth:=9) [results,Tryz.results83,go_sem, *]
  have n2: ¬(57:Int)<((s[0]'hp).toNat:Int):=by omega
  have HE:Hid (l1I s=some (((s[0]'hp).toNat:Int)-48)):=by show l1I s=_;rw [HL.out,if_pos (by omega)]
  go_enter Tryz.func83,Tryz.ntmps83
  go_wp2
  refine wp_loop_rounds 4 ?_
  rw [rounds_succ]
  go_wp2
  rw [rounds_succ]
  go_wp2
  refine bodyPost_ret (v:= .tuple #[.int .i64 (((s[0]'hp).toNat:Int)-48),.bool true]) ?_ rfl ⟨by rw [HE.out];rfl,rfl⟩
  simp (maxDischargeDepth:=9) [results,Tryz.results83,go_sem, *]
 have hz2:s.size=2:=by omega
 have hp1:1<s.size:=by omega
 have k4:(1:Int)<(s.size:Int):=by omega
 have k5: ¬(2:Int)<(s.size:Int):=by omega
 have HL:Hid (l1I s=if(s[0]'hp).toNat=48 then none else if(48≤(s[0]'hp).toNat∧(s[0]'hp).toNat≤57)∧(48≤(s[1]'hp1).toNat∧(s[1]'hp1).toNat≤57)then some ((((s[0]'hp).toNat:Int)-48)*10+(((s[1]'hp1).toNat:Int)-48))else none):=l1I_two hz2
 clear hz2 hz1 hz0 h3
 by_cases h0:(s[0]'hp).toNat=48
 ·have h0':((s[0]'hp).toNat:Int)=48:=by omega
  have HE:Hid (l1I s=none):=by show l1I s=none;rw [HL.out,if_pos h0]
  go_enter Tryz.func83,Tryz.ntmps83
  go_wp2
  refine bodyPost_ret (v:= .tuple #[.int .i64 0,.bool false]) ?_ rfl ⟨by rw [HE.out];rfl,rfl⟩
  simp (maxDischargeDepth:=9) [results,Tryz.results83,go_sem, *]
 have n0: ¬((s[0]'hp).toNat:Int)=48:=by omega
 have m0:(((s[0]'hp).toNat:Int)==48)=false:=by simpa using n0
 by_cases hpa:(s[0]'hp).toNat<48
 ·have gpa:((s[0]'hp).toNat:Int)<48:=by omega
  have HE:Hid (l1I s=none):=by show l1I s=none;rw [HL.out,if_neg h0,if_neg (by omega)]
  go_enter Tryz.func83,Tryz.ntmps83
  go_wp2
  refine wp_loop_rounds 4 ?_
  rw [rounds_succ]
  go_wp2
  refine bodyPost_ret (v:= .tuple #[.int .i64 0,.bool false]) ?_ rfl ⟨by rw [HE.out];rfl,rfl⟩
  simp (maxDischargeDepth:=9) [results,Tryz.results83,go_sem, *]
 have np: ¬((s[0]'hp).toNat:Int)<48:=by omega
 by_cases hq:57<(s[0]'hp).toNat
 ·have gq:(57:Int)<((s[0]'hp).toNat:Int):=by omega
  have HE:Hid (l1I s=none):=by show l1I s=none;rw [HL.out,if_neg h0,if_neg (by omega)]
  go_enter Tryz.func83,Tryz.ntmps83
  go_wp2
  refine wp_loop_rounds 4 ?_
  rw [rounds_succ]
  go_wp2
  refine bodyPost_ret (v:= .tuple #[.int .i64 0,.bool false]) ?_ rfl ⟨by rw [HE.out];rfl,rfl⟩
  simp (maxDischargeDepth:=9) [results,Tryz.results83,go_sem, *]
 have nq: ¬(57:Int)<((s[0]'hp).toNat:Int):=by omega
 by_cases hu:(s[1]'hp1).toNat<48
 ·have gu:((s[1]'hp1).toNat:Int)<48:=by omega
  have HE:Hid (l1I s=none):=by show l1I s=none;rw [HL.out,if_neg h0,if_neg (by omega)]
  go_enter Tryz.func83,Tryz.ntmps83
  go_wp2
  refine wp_loop_rounds 4 ?_
  rw [rounds_succ]
  go_wp2
  rw [rounds_succ]
  go_wp2
  refine bodyPost_ret (v:= .tuple #[.int .i64 0,.bool false]) ?_ rfl ⟨by rw [HE.out];rfl,rfl⟩
  simp (maxDischargeDepth:=9) [results,Tryz.results83,go_sem, *]
 have nu: ¬((s[1]'hp1).toNat:Int)<48:=by omega
 by_cases hv:57<(s[1]'hp1).toNat
 ·have gv:(57:Int)<((s[1]'hp1).toNat:Int):=by omega
  have HE:Hid (l1I s=none):=by show l1I s=none;rw [HL.out,if_neg h0,if_neg (by omega)]
  go_enter Tryz.func83,Tryz.ntmps83
  go_wp2
  refine wp_loop_rounds 4 ?_
  rw [rounds_succ]
  go_wp2
  rw [rounds_succ]
  go_wp2
  refine bodyPost_ret (v:= .tuple #[.int .i64 0,.bool false]) ?_ rfl ⟨by rw [HE.out];rfl,rfl⟩
  simp (maxDischargeDepth:=9) [results,Tryz.results83,go_sem, *]
 have nv: ¬(57:Int)<((s[1]'hp1).toNat:Int):=by omega
 have HE:Hid (l1I s=some ((((s[0]'hp).toNat:Int)-48)*10+(((s[1]'hp1).toNat:Int)-48))):=by show l1I s=_;rw [HL.out,if_neg h0,if_pos (by omega)]
 go_enter Tryz.func83,Tryz.ntmps83
 go_wp2
 refine wp_loop_rounds 4 ?_
 rw [rounds_succ]
 go_wp2
 rw [rounds_succ]
 go_wp2
 rw [rounds_succ]
 go_wp2
 refine bodyPost_ret (v:= .tuple #[.int .i64 ((((s[0]'hp).toNat:Int)-48)*10+(((s[1]'hp1).toNat:Int)-48)),.bool true]) ?_ rfl ⟨by rw [HE.out];rfl,rfl⟩
 simp (maxDischargeDepth:=9) [results,Tryz.results83,go_sem, *]
end Go.Proofs.YtonhcgkagdpdlaaGreatDoor
