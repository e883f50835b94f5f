import Derived.Test.YtkdhmdllnaogcaaGreatDoorGag
set_option linter.unusedSimpArgs false
set_option linter.unusedVariables false
set_option maxHeartbeats 2000000
namespace Go.Proofs.YtkdhmdllnaogcaaGreatDoor
open Go.RowKit
theorem Qaf (s:ByteArray) (w:World) (hs:s.size≤281474976710656) (hv:Vars w) (hg:Ql s=(0,0,⟨#[]⟩)):Calls Tryz.prog 89 #[.string s] w fun e w'=>e= .returned (rvT (0,0,⟨#[]⟩))∧Below w.heap.size w w':=by
 have HG:Hid (Hd (Ql s)= .iface 165 (.agg #[])):=by show Hd _=_;rw [hg];rfl
 have HV:Hid (Vars w):=hv;clear hg hv;have HE:Hid (rvT (0,0,⟨#[]⟩)= .tuple #[.agg #[.int .i64 0,.int .i64 0,.string ⟨#[]⟩],.bool true]):=by show rvT _=_;simp [rvT,gOk]
 go_enter Tryz.func89,Tryz.ntmps89;go_wp2_with fail
 refine(QE s _ hs (HV.out.below (by go_grown))).mono ?_;rintro e w1 ⟨rfl,hb⟩;rw [HG.out];obtain⟨hc,hf,hC,hF,hz,hk,l0⟩:=bk1 (w:=w) (by go_grown) (by go_size) hb;clear hb
 go_wp2_with (first
  | (go_at_call 262;refine(Yj _).mono ?_;rintro e w2 ⟨rfl,hb⟩;obtain⟨hc,hf,hC,hF,hz,hk,l0⟩:=bk1 (w:=w) (by go_grown) (by go_size) hb;clear hb)
  | (go_at_call 264;refine(YD _).mono ?_;rintro e w3 ⟨rfl,hb⟩;obtain⟨hc,hf,hC,hF,hz,hk,l0⟩:=bk1 (w:=w) (by go_grown) (by go_size) hb;clear hb))
 all_goals
  refine bodyPost_ret (v:= .tuple #[.agg #[.int .i64 0,.int .i64 0,.string ⟨#[]⟩],.bool true]) ?_ rfl ⟨by rw [HE.out],by go_grown⟩;simp (maxDischargeDepth:=9) [results,Tryz.results89,go_sem, *]
theorem Qgy (s:ByteArray) (w:World) (hs:s.size≤281474976710656) (hv:Vars w) (n:Int) (hg:Ql s=(1,n,⟨#[]⟩)):Calls Tryz.prog 89 #[.string s] w fun e w'=>e= .returned (rvT (1,n,⟨#[]⟩))∧Below w.heap.size w w':=by
 have HG:Hid (Hd (Ql s)= .iface 140 (.int .i64 n)):=by show Hd _=_;rw [hg];rfl
 have HV:Hid (Vars w):=hv;clear hg hv;cases ho:Zq n
 ·have HOK:Hid (Zq n=false):=ho;clear ho;have HE:Hid (rvT (1,n,⟨#[]⟩)= .tuple #[.agg #[.int .i64 0,.int .i64 0,.string ⟨#[]⟩],.bool false]):=by show rvT _=_;simp [rvT,gOk,HOK.out]
  go_enter Tryz.func89,Tryz.ntmps89;go_wp2_with fail
  refine(QE s _ hs (HV.out.below (by go_grown))).mono ?_;rintro e w1 ⟨rfl,hb⟩;rw [HG.out];obtain⟨hc,hf,hC,hF,hz,hk,l0⟩:=bk1 (w:=w) (by go_grown) (by go_size) hb;clear hb
  go_wp2_with (first
   | (go_at_call 257;refine(Zj _ _).mono ?_;rintro e w2 ⟨rfl,rfl⟩;rw [HOK.out]))
  all_goals
   refine bodyPost_ret (v:= .tuple #[.agg #[.int .i64 0,.int .i64 0,.string ⟨#[]⟩],.bool false]) ?_ rfl ⟨by rw [HE.out],by go_grown⟩;simp (maxDischargeDepth:=9) [results,Tryz.results89,go_sem, *]
 ·have HOK:Hid (Zq n=true):=ho;clear ho;have HE:Hid (rvT (1,n,⟨#[]⟩)= .tuple #[.agg #[.int .i64 1,.int .i64 n,.string ⟨#[]⟩],.bool true]):=by show rvT _=_;simp [rvT,gOk,HOK.out]
  go_enter Tryz.func89,Tryz.ntmps89;go_wp2_with fail
  refine(QE s _ hs (HV.out.below (by go_grown))).mono ?_;rintro e w1 ⟨rfl,hb⟩;rw [HG.out];obtain⟨hc,hf,hC,hF,hz,hk,l0⟩:=bk1 (w:=w) (by go_grown) (by go_size) hb;clear hb
  go_wp2_with (first
   | (go_at_call 257;refine(Zj _ _).mono ?_;rintro e w2 ⟨rfl,rfl⟩;rw [HOK.out])
   | (go_at_call 107;refine(Yp _ _).mono ?_;rintro e w3 ⟨rfl,hb⟩;obtain⟨hc,hf,hC,hF,hz,hk,l0⟩:=bk1 (w:=w) (by go_grown) (by go_size) hb;clear hb))
  all_goals
   refine bodyPost_ret (v:= .tuple #[.agg #[.int .i64 1,.int .i64 n,.string ⟨#[]⟩],.bool true]) ?_ rfl ⟨by rw [HE.out],by go_grown⟩;simp (maxDischargeDepth:=9) [results,Tryz.results89,go_sem, *]
theorem Qdy (s:ByteArray) (w:World) (hs:s.size≤281474976710656) (hv:Vars w) (s2:ByteArray) (hs2:s2.size≤maxLen) (hg:Ql s=(2,0,s2)):Calls Tryz.prog 89 #[.string s] w fun e w'=>e= .returned (rvT (2,0,s2))∧Below w.heap.size w w':=by
 have HG:Hid (Hd (Ql s)= .iface 123 (.string s2)):=by show Hd _=_;rw [hg];rfl
 have HV:Hid (Vars w):=hv;clear hg hv;cases ho:Qv s2
 ·have HOK:Hid (Qv s2=false):=ho;clear ho;have HE:Hid (rvT (2,0,s2)= .tuple #[.agg #[.int .i64 0,.int .i64 0,.string ⟨#[]⟩],.bool false]):=by show rvT _=_;simp [rvT,gOk,HOK.out]
  go_enter Tryz.func89,Tryz.ntmps89;go_wp2_with fail
  refine(QE s _ hs (HV.out.below (by go_grown))).mono ?_;rintro e w1 ⟨rfl,hb⟩;rw [HG.out];obtain⟨hc,hf,hC,hF,hz,hk,l0⟩:=bk1 (w:=w) (by go_grown) (by go_size) hb;clear hb
  go_wp2_with (first
   | (go_at_call 255;refine(Zd _ _ hs2).mono ?_;rintro e w2 ⟨rfl,rfl⟩;rw [HOK.out]))
  all_goals
   refine bodyPost_ret (v:= .tuple #[.agg #[.int .i64 0,.int .i64 0,.string ⟨#[]⟩],.bool false]) ?_ rfl ⟨by rw [HE.out],by go_grown⟩;simp (maxDischargeDepth:=9) [results,Tryz.results89,go_sem, *]
 ·have HOK:Hid (Qv s2=true):=ho;clear ho;have HE:Hid (rvT (2,0,s2)= .tuple #[.agg #[.int .i64 2,.int .i64 0,.string s2],.bool true]):=by show rvT _=_;simp [rvT,gOk,HOK.out]
  go_enter Tryz.func89,Tryz.ntmps89;go_wp2_with fail
  refine(QE s _ hs (HV.out.below (by go_grown))).mono ?_;rintro e w1 ⟨rfl,hb⟩;rw [HG.out];obtain⟨hc,hf,hC,hF,hz,hk,l0⟩:=bk1 (w:=w) (by go_grown) (by go_size) hb;clear hb
  go_wp2_with (first
   | (go_at_call 255;refine(Zd _ _ hs2).mono ?_;rintro e w2 ⟨rfl,rfl⟩;rw [HOK.out])
   | (go_at_call 208;refine(ZS _ _).mono ?_;rintro e w3 ⟨rfl,hb⟩;obtain⟨hc,hf,hC,hF,hz,hk,l0⟩:=bk1 (w:=w) (by go_grown) (by go_size) hb;clear hb))
  all_goals
   refine bodyPost_ret (v:= .tuple #[.agg #[.int .i64 2,.int .i64 0,.string s2],.bool true]) ?_ rfl ⟨by rw [HE.out],by go_grown⟩;simp (maxDischargeDepth:=9) [results,Tryz.results89,go_sem, *]
theorem Qae (s:ByteArray) (w:World) (hs:s.size≤281474976710656) (hv:Vars w) (n:Int) (hg:Ql s=(3,n,⟨#[]⟩)):Calls Tryz.prog 89 #[.string s] w fun e w'=>e= .returned (rvT (3,n,⟨#[]⟩))∧Below w.heap.size w w':=by
 have HG:Hid (Hd (Ql s)= .iface 166 (.int .i64 n)):=by show Hd _=_;rw [hg];rfl
 have HV:Hid (Vars w):=hv;clear hg hv;cases ho:Yb n
 ·have HOK:Hid (Yb n=false):=ho;clear ho;have HE:Hid (rvT (3,n,⟨#[]⟩)= .tuple #[.agg #[.int .i64 0,.int .i64 0,.string ⟨#[]⟩],.bool false]):=by show rvT _=_;simp [rvT,gOk,HOK.out]
  go_enter Tryz.func89,Tryz.ntmps89;go_wp2_with fail
  refine(QE s _ hs (HV.out.below (by go_grown))).mono ?_;rintro e w1 ⟨rfl,hb⟩;rw [HG.out];obtain⟨hc,hf,hC,hF,hz,hk,l0⟩:=bk1 (w:=w) (by go_grown) (by go_size) hb;clear hb
  go_wp2_with (first
   | (go_at_call 265;refine(Zy _ _).mono ?_;rintro e w2 ⟨rfl,rfl⟩;rw [HOK.out]))
  all_goals
   refine bodyPost_ret (v:= .tuple #[.agg #[.int .i64 0,.int .i64 0,.string ⟨#[]⟩],.bool false]) ?_ rfl ⟨by rw [HE.out],by go_grown⟩;simp (maxDischargeDepth:=9) [results,Tryz.results89,go_sem, *]
 ·have HOK:Hid (Yb n=true):=ho;clear ho;have HE:Hid (rvT (3,n,⟨#[]⟩)= .tuple #[.agg #[.int .i64 3,.int .i64 n,.string ⟨#[]⟩],.bool true]):=by show rvT _=_;simp [rvT,gOk,HOK.out]
  go_enter Tryz.func89,Tryz.ntmps89;go_wp2_with fail
  refine(QE s _ hs (HV.out.below (by go_grown))).mono ?_;rintro e w1 ⟨rfl,hb⟩;rw [HG.out];obtain⟨hc,hf,hC,hF,hz,hk,l0⟩:=bk1 (w:=w) (by go_grown) (by go_size) hb;clear hb
  go_wp2_with (first
   | (go_at_call 265;refine(Zy _ _).mono ?_;rintro e w2 ⟨rfl,rfl⟩;rw [HOK.out])
   | (go_at_call 266;refine(XF _ _).mono ?_;rintro e w3 ⟨rfl,hb⟩;obtain⟨hc,hf,hC,hF,hz,hk,l0⟩:=bk1 (w:=w) (by go_grown) (by go_size) hb;clear hb))
  all_goals
   refine bodyPost_ret (v:= .tuple #[.agg #[.int .i64 3,.int .i64 n,.string ⟨#[]⟩],.bool true]) ?_ rfl ⟨by rw [HE.out],by go_grown⟩;simp (maxDischargeDepth:=9) [results,Tryz.results89,go_sem, *]
theorem Qd0 (s:ByteArray) (w:World) (hs:s.size≤281474976710656) (hv:Vars w) (n:Int) (hg:Ql s=(4,n,⟨#[]⟩)):Calls Tryz.prog 89 #[.string s] w fun e w'=>e= .returned (rvT (4,n,⟨#[]⟩))∧Below w.heap.size w w':=by
 have HG:Hid (Hd (Ql s)= .iface 167 (.int .i64 n)):=by show Hd _=_;rw [hg];rfl
 have HV:Hid (Vars w):=hv;clear hg hv;cases ho:YQ n
 ·have HOK:Hid (YQ n=false):=ho;clear ho;have HE:Hid (rvT (4,n,⟨#[]⟩)= .tuple #[.agg #[.int .i64 0,.int .i64 0,.string ⟨#[]⟩],.bool false]):=by show rvT _=_;simp [rvT,gOk,HOK.out]
  go_enter Tryz.func89,Tryz.ntmps89;go_wp2_with fail
  refine(QE s _ hs (HV.out.below (by go_grown))).mono ?_;rintro e w1 ⟨rfl,hb⟩;rw [HG.out];obtain⟨hc,hf,hC,hF,hz,hk,l0⟩:=bk1 (w:=w) (by go_grown) (by go_size) hb;clear hb
  go_wp2_with (first
   | (go_at_call 267;refine(Ze _ _).mono ?_;rintro e w2 ⟨rfl,rfl⟩;rw [HOK.out]))
  all_goals
   refine bodyPost_ret (v:= .tuple #[.agg #[.int .i64 0,.int .i64 0,.string ⟨#[]⟩],.bool false]) ?_ rfl ⟨by rw [HE.out],by go_grown⟩;simp (maxDischargeDepth:=9) [results,Tryz.results89,go_sem, *]
 ·have HOK:Hid (YQ n=true):=ho;clear ho;have HE:Hid (rvT (4,n,⟨#[]⟩)= .tuple #[.agg #[.int .i64 4,.int .i64 n,.string ⟨#[]⟩],.bool true]):=by show rvT _=_;simp [rvT,gOk,HOK.out]
  go_enter Tryz.func89,Tryz.ntmps89;go_wp2_with fail
  refine(QE s _ hs (HV.out.below (by go_grown))).mono ?_;rintro e w1 ⟨rfl,hb⟩;rw [HG.out];obtain⟨hc,hf,hC,hF,hz,hk,l0⟩:=bk1 (w:=w) (by go_grown) (by go_size) hb;clear hb
  go_wp2_with (first
   | (go_at_call 267;refine(Ze _ _).mono ?_;rintro e w2 ⟨rfl,rfl⟩;rw [HOK.out])
   | (go_at_call 268;refine(YF _ _).mono ?_;rintro e w3 ⟨rfl,hb⟩;obtain⟨hc,hf,hC,hF,hz,hk,l0⟩:=bk1 (w:=w) (by go_grown) (by go_size) hb;clear hb))
  all_goals
   refine bodyPost_ret (v:= .tuple #[.agg #[.int .i64 4,.int .i64 n,.string ⟨#[]⟩],.bool true]) ?_ rfl ⟨by rw [HE.out],by go_grown⟩;simp (maxDischargeDepth:=9) [results,Tryz.results89,go_sem, *]
theorem Bw (s:ByteArray) (w:World) (hs:s.size≤281474976710656) (hv:Vars w) (hg:Ql s=(5,0,⟨#[]⟩)):Calls Tryz.prog 89 #[.string s] w fun e w'=>e= .returned (rvT (5,0,⟨#[]⟩))∧Below w.heap.size w w':=by
 have HG:Hid (Hd (Ql s)= .iface 164 (.agg #[])):=by show Hd _=_;rw [hg];rfl
 have HV:Hid (Vars w):=hv;clear hg hv;have HE:Hid (rvT (5,0,⟨#[]⟩)= .tuple #[.agg #[.int .i64 0,.int .i64 0,.string ⟨#[]⟩],.bool false]):=by show rvT _=_;simp [rvT,gOk]
 go_enter Tryz.func89,Tryz.ntmps89;go_wp2_with fail
 refine(QE s _ hs (HV.out.below (by go_grown))).mono ?_;rintro e w1 ⟨rfl,hb⟩;rw [HG.out];obtain⟨hc,hf,hC,hF,hz,hk,l0⟩:=bk1 (w:=w) (by go_grown) (by go_size) hb;clear hb
 go_wp2_with (first
  | (go_at_call 259;refine(Xe _).mono ?_;rintro e w2 ⟨rfl,hb⟩;obtain⟨hc,hf,hC,hF,hz,hk,l0⟩:=bk1 (w:=w) (by go_grown) (by go_size) hb;clear hb))
 all_goals
  refine bodyPost_ret (v:= .tuple #[.agg #[.int .i64 0,.int .i64 0,.string ⟨#[]⟩],.bool false]) ?_ rfl ⟨by rw [HE.out],by go_grown⟩;simp (maxDischargeDepth:=9) [results,Tryz.results89,go_sem, *]
theorem VI (s : ByteArray) : Ql s = (0, 0, ⟨#[]⟩) ∨ (∃ n, Ql s = (1, n, ⟨#[]⟩)) ∨ (∃ s2, s2.size ≤ s.size ∧ Ql s = (2, 0, s2)) ∨ (∃ n, Ql s = (3, n, ⟨#[]⟩)) ∨ (∃ n, Ql s = (4, n, ⟨#[]⟩)) ∨ Ql s = (5, 0, ⟨#[]⟩) := by
  unfold Ql;split
  · split
    · exact Or.inr (Or.inr (Or.inl ⟨_, by rw [ByteArray.size_extract]; omega, rfl⟩))
    · unfold Jl
      repeat' split
      all_goals first
        | exact Or.inr (Or.inr (Or.inr (Or.inl ⟨_, rfl⟩)))
        | exact Or.inr (Or.inr (Or.inr (Or.inr (Or.inl ⟨_, rfl⟩))))
        | (unfold Qcr
           split
           · exact Or.inr (Or.inl ⟨_, rfl⟩)
           · exact Or.inr (Or.inr (Or.inr (Or.inr (Or.inr rfl)))))
  · exact Or.inl rfl
theorem XE (s:ByteArray) (w:World) (hs:s.size≤281474976710656) (hv:Vars w):Calls Tryz.prog 89 #[.string s] w fun e w'=>e= .returned (rvT (Ql s))∧Below w.heap.size w w':=by
 rcases VI s with h | ⟨n,h⟩ | ⟨s2,h2,h⟩ | ⟨n,h⟩ | ⟨n,h⟩ | h
 ·rw [h];exact Qaf s w hs hv h
 ·rw [h];exact Qgy s w hs hv n h
 ·rw [h];exact Qdy s w hs hv s2 (by unfold maxLen;omega) h
 ·rw [h];exact Qae s w hs hv n h
 ·rw [h];exact Qd0 s w hs hv n h
 ·rw [h];exact Bw s w hs hv h
end Go.Proofs.YtkdhmdllnaogcaaGreatDoor
