import Derived.Test.YtonhcgkagdpdlaaGreatDoorFnD
set_option linter.unusedSimpArgs false
set_option linter.unusedVariables false
set_option maxHeartbeats 4000000
set_option maxRecDepth 100000
namespace Go.Proofs.YtonhcgkagdpdlaaGreatDoor
open Go.RowKit
theorem spec_l3Args (o:Int) (n:Nat) (w:World):Calls Tryz.prog 64 #[.int .i64 o,.int .i64 n] w fun e w'=>
  e= .returned (.bool (argsB o n))∧w'=w:=by
 by_cases h:1≤o∧o≤10
 ·obtain⟨m,rfl⟩: ∃m:Nat,o=(m:Int):=⟨o.toNat,by omega⟩
  have hm:m=1∨m=2∨m=3∨m=4∨m=5∨m=6∨m=7∨m=8∨m=9∨m=10:=by omega
  rcases hm with rfl | rfl | rfl | rfl | rfl | rfl | rfl | rfl | rfl | rfl
  all_goals
   go_enter Tryz.func64,Tryz.ntmps64
   go_wp2
   all_goals
    go_ret
    exact⟨ret_bool (by rw [Bool.eq_iff_iff];simp [argsB]<;>omega),rfl⟩
 ·have HE:Hid (argsB o n=false):=args_out (by omega)
  have e1:(o==1)=false:=by simp;omega
  have e2:(o==2)=false:=by simp;omega
  have e3:(o==3)=false:=by simp;omega
  have e4:(o==4)=false:=by simp;omega
  have e5:(o==5)=false:=by simp;omega
  have e6:(o==6)=false:=by simp;omega
  have e7:(o==7)=false:=by simp;omega
  have e8:(o==8)=false:=by simp;omega
  have e9:(o==9)=false:=by simp;omega
  have e10:(o==10)=false:=by simp;omega
  clear h
  go_enter Tryz.func64,Tryz.ntmps64
  go_wp2
  all_goals
   go_ret
   exact⟨ret_bool HE.out.symm,rfl⟩
theorem spec_node1 (o ck cn:Int) (cs:ByteArray) (ac ar:Int) (af ag:Bool) (bc br:Int) (bf bg:Bool) {KA:Option Addr} {kl kc:Nat} (w:World) (hs:cs.size≤maxLen):
  Calls Tryz.prog 39 #[.agg #[.int .i64 1,.int .i64 o,.int .i64 ck,.int .i64 cn,.string cs,.int .i64 ac,.int .i64 ar,.bool af,.bool ag,.int .i64 bc,.int .i64 br,.bool bf,.bool bg,.slice KA kl kc]] w fun e w'=>e= .returned (.bool (nodeB 1 o ck cn cs ac ar af ag bc br bf bg kl))∧Below w.heap.size w w':=by
 go_enter Tryz.func39,Tryz.ntmps39
 go_wp2_with (first
  | (go_at_call 61;refine(spec_ValueOk _ _ _ _ hs).mono ?_;rintro e w1 ⟨rfl,hb⟩;obtain⟨hc,hf,hC,hF,hz,hk,l0,l1⟩:=bk2 (w:=w) (by go_grown) (by go_size) hb;clear hb))
 all_goals
  go_ret
  refine⟨ret_bool ?_,by go_grown⟩
  simp [nodeB,cOk,zP,len0, *]
  try omega
  try (intro _;simp_all)
theorem spec_node2 (o ck cn:Int) (cs:ByteArray) (ac ar:Int) (af ag:Bool) (bc br:Int) (bf bg:Bool) {KA:Option Addr} {kl kc:Nat} (w:World) (hs:cs.size≤maxLen):
  Calls Tryz.prog 39 #[.agg #[.int .i64 2,.int .i64 o,.int .i64 ck,.int .i64 cn,.string cs,.int .i64 ac,.int .i64 ar,.bool af,.bool ag,.int .i64 bc,.int .i64 br,.bool bf,.bool bg,.slice KA kl kc]] w fun e w'=>e= .returned (.bool (nodeB 2 o ck cn cs ac ar af ag bc br bf bg kl))∧Below w.heap.size w w':=by
 go_enter Tryz.func39,Tryz.ntmps39
 go_wp2_with (first
  | (go_at_call 62;refine(spec_RefOk _ _ _).mono ?_;rintro e w1 ⟨rfl,hb⟩;obtain⟨hc,hf,hC,hF,hz,hk,l0,l1⟩:=bk2 (w:=w) (by go_grown) (by go_size) hb;clear hb))
 all_goals
  go_ret
  refine⟨ret_bool ?_,by go_grown⟩
  simp [nodeB,zP,zV,emp,len0, *]
  try omega
theorem spec_node3 (o ck cn:Int) (cs:ByteArray) (ac ar:Int) (af ag:Bool) (bc br:Int) (bf bg:Bool) {KA:Option Addr} {kl kc:Nat} (w:World) (hs:cs.size≤maxLen):
  Calls Tryz.prog 39 #[.agg #[.int .i64 3,.int .i64 o,.int .i64 ck,.int .i64 cn,.string cs,.int .i64 ac,.int .i64 ar,.bool af,.bool ag,.int .i64 bc,.int .i64 br,.bool bf,.bool bg,.slice KA kl kc]] w fun e w'=>e= .returned (.bool (nodeB 3 o ck cn cs ac ar af ag bc br bf bg kl))∧Below w.heap.size w w':=by
 go_enter Tryz.func39,Tryz.ntmps39
 go_wp2_with (first
  | (go_at_call 63;refine(spec_AreaOk _ _ _ _ _).mono ?_;rintro e w1 ⟨rfl,hb⟩;obtain⟨hc,hf,hC,hF,hz,hk,l0,l1⟩:=bk2 (w:=w) (by go_grown) (by go_size) hb;clear hb))
 all_goals
  go_ret
  refine⟨ret_bool ?_,by go_grown⟩
  simp [nodeB,zV,emp,len0, *]
  try omega
theorem spec_node4 (o ck cn:Int) (cs:ByteArray) (ac ar:Int) (af ag:Bool) (bc br:Int) (bf bg:Bool) {KA:Option Addr} {kl kc:Nat} (w:World) (hs:cs.size≤maxLen):
  Calls Tryz.prog 39 #[.agg #[.int .i64 4,.int .i64 o,.int .i64 ck,.int .i64 cn,.string cs,.int .i64 ac,.int .i64 ar,.bool af,.bool ag,.int .i64 bc,.int .i64 br,.bool bf,.bool bg,.slice KA kl kc]] w fun e w'=>e= .returned (.bool (nodeB 4 o ck cn cs ac ar af ag bc br bf bg kl))∧Below w.heap.size w w':=by
 go_enter Tryz.func39,Tryz.ntmps39
 go_wp2_with fail
 all_goals
  go_ret
  refine⟨ret_bool ?_,by go_grown⟩
  simp [nodeB,zP,zV,emp,len1, *]
  try omega
theorem spec_node5 (o ck cn:Int) (cs:ByteArray) (ac ar:Int) (af ag:Bool) (bc br:Int) (bf bg:Bool) {KA:Option Addr} {kl kc:Nat} (w:World) (hs:cs.size≤maxLen):
  Calls Tryz.prog 39 #[.agg #[.int .i64 5,.int .i64 o,.int .i64 ck,.int .i64 cn,.string cs,.int .i64 ac,.int .i64 ar,.bool af,.bool ag,.int .i64 bc,.int .i64 br,.bool bf,.bool bg,.slice KA kl kc]] w fun e w'=>e= .returned (.bool (nodeB 5 o ck cn cs ac ar af ag bc br bf bg kl))∧Below w.heap.size w w':=by
 go_enter Tryz.func39,Tryz.ntmps39
 go_wp2_with (first
  | (go_at_call 40;refine(spec_l1In _ _ _ _).mono ?_;rintro e w1 ⟨rfl,rfl⟩))
 all_goals
  go_ret
  refine⟨ret_bool ?_,by go_grown⟩
  simp [nodeB,zP,zV,emp,len2, *]
  try omega
theorem spec_node6 (o ck cn:Int) (cs:ByteArray) (ac ar:Int) (af ag:Bool) (bc br:Int) (bf bg:Bool) {KA:Option Addr} {kl kc:Nat} (w:World) (hs:cs.size≤maxLen):
  Calls Tryz.prog 39 #[.agg #[.int .i64 6,.int .i64 o,.int .i64 ck,.int .i64 cn,.string cs,.int .i64 ac,.int .i64 ar,.bool af,.bool ag,.int .i64 bc,.int .i64 br,.bool bf,.bool bg,.slice KA kl kc]] w fun e w'=>e= .returned (.bool (nodeB 6 o ck cn cs ac ar af ag bc br bf bg kl))∧Below w.heap.size w w':=by
 go_enter Tryz.func39,Tryz.ntmps39
 go_wp2_with (first
  | (go_at_call 64;refine(spec_l3Args _ _ _).mono ?_;rintro e w1 ⟨rfl,rfl⟩))
 all_goals
  go_ret
  refine⟨ret_bool ?_,by go_grown⟩
  simp [nodeB,zP,zV,emp, *]
  try omega
theorem spec_node0 (k:Int) (o ck cn:Int) (cs:ByteArray) (ac ar:Int) (af ag:Bool) (bc br:Int) (bf bg:Bool) {KA:Option Addr} {kl kc:Nat} (w:World) (hs:cs.size≤maxLen) (h1: ¬k=1) (h2: ¬k=2) (h3: ¬k=3) (h4: ¬k=4) (h5: ¬k=5) (h6: ¬k=6):
  Calls Tryz.prog 39 #[.agg #[.int .i64 k,.int .i64 o,.int .i64 ck,.int .i64 cn,.string cs,.int .i64 ac,.int .i64 ar,.bool af,.bool ag,.int .i64 bc,.int .i64 br,.bool bf,.bool bg,.slice KA kl kc]] w fun e w'=>e= .returned (.bool (nodeB k o ck cn cs ac ar af ag bc br bf bg kl))∧Below w.heap.size w w':=by
 have e1:(k==1)=false:=by simpa using h1
 have e2:(k==2)=false:=by simpa using h2
 have e3:(k==3)=false:=by simpa using h3
 have e4:(k==4)=false:=by simpa using h4
 have e5:(k==5)=false:=by simpa using h5
 have e6:(k==6)=false:=by simpa using h6
 go_enter Tryz.func39,Tryz.ntmps39
 go_wp2_with fail
 all_goals
  go_ret
  refine⟨ret_bool ?_,by go_grown⟩
  simp [nodeB, *]
  try omega
end Go.Proofs.YtonhcgkagdpdlaaGreatDoor
