import Derived.Test.YtkkbgjeilomnmaaGreatDoorGag
set_option linter.unusedSimpArgs false
set_option linter.unusedVariables false
set_option maxHeartbeats 2000000
namespace Go.Proofs.YtkkbgjeilomnmaaGreatDoor
open Go.RowKit
theorem Qb9 (s:ByteArray) (w:World) (hs:s.size≤281474976710656) (hv:Vars w) (hg:Qn s=(0,0,⟨#[]⟩)):Calls Tryz.prog 170 #[.string s] w fun e w'=>e= .returned (rvT (0,0,⟨#[]⟩))∧Below w.heap.size w w':=by
 have HG:Hid (Gr (Qn s)= .iface 229 (.agg #[])):=by show Gr _=_;rw [hg];rfl
 have HV:Hid (Vars w):=hv;clear hg hv;have HE:Hid (rvT (0,0,⟨#[]⟩)= .tuple #[.agg #[.int .i64 0,.int .i64 0,.string ⟨#[]⟩],.bool true]):=by show rvT _=_;simp [rvT,gOk]
 go_enter Tryz.func170,Tryz.ntmps170;go_wp2_with fail
 refine(QF s _ hs (HV.out.below (by go_grown))).mono ?_;rintro e w1 ⟨rfl,hb⟩;rw [HG.out];obtain⟨hc,hf,hC,hF,hz,hk,l0⟩:=bk1 (w:=w) (by go_grown) (by go_size) hb;clear hb
 go_wp2_with (first
  | (go_at_call 332;refine(Yl _).mono ?_;rintro e w2 ⟨rfl,hb⟩;obtain⟨hc,hf,hC,hF,hz,hk,l0⟩:=bk1 (w:=w) (by go_grown) (by go_size) hb;clear hb)
  | (go_at_call 334;refine(YG _).mono ?_;rintro e w3 ⟨rfl,hb⟩;obtain⟨hc,hf,hC,hF,hz,hk,l0⟩:=bk1 (w:=w) (by go_grown) (by go_size) hb;clear hb))
 all_goals
  refine bodyPost_ret (v:= .tuple #[.agg #[.int .i64 0,.int .i64 0,.string ⟨#[]⟩],.bool true]) ?_ rfl ⟨by rw [HE.out],by go_grown⟩;simp (maxDischargeDepth:=9) [results,Tryz.results170,go_sem, *]
theorem Qi6 (s:ByteArray) (w:World) (hs:s.size≤281474976710656) (hv:Vars w) (n:Int) (hg:Qn s=(1,n,⟨#[]⟩)):Calls Tryz.prog 170 #[.string s] w fun e w'=>e= .returned (rvT (1,n,⟨#[]⟩))∧Below w.heap.size w w':=by
 have HG:Hid (Gr (Qn s)= .iface 212 (.int .i64 n)):=by show Gr _=_;rw [hg];rfl
 have HV:Hid (Vars w):=hv;clear hg hv;cases ho:Zt n
 ·have HOK:Hid (Zt n=false):=ho;clear ho;have HE:Hid (rvT (1,n,⟨#[]⟩)= .tuple #[.agg #[.int .i64 0,.int .i64 0,.string ⟨#[]⟩],.bool false]):=by show rvT _=_;simp [rvT,gOk,HOK.out]
  go_enter Tryz.func170,Tryz.ntmps170;go_wp2_with fail
  refine(QF s _ hs (HV.out.below (by go_grown))).mono ?_;rintro e w1 ⟨rfl,hb⟩;rw [HG.out];obtain⟨hc,hf,hC,hF,hz,hk,l0⟩:=bk1 (w:=w) (by go_grown) (by go_size) hb;clear hb
  go_wp2_with (first
   | (go_at_call 327;refine(Zm _ _).mono ?_;rintro e w2 ⟨rfl,rfl⟩;rw [HOK.out]))
  all_goals
   refine bodyPost_ret (v:= .tuple #[.agg #[.int .i64 0,.int .i64 0,.string ⟨#[]⟩],.bool false]) ?_ rfl ⟨by rw [HE.out],by go_grown⟩;simp (maxDischargeDepth:=9) [results,Tryz.results170,go_sem, *]
 ·have HOK:Hid (Zt n=true):=ho;clear ho;have HE:Hid (rvT (1,n,⟨#[]⟩)= .tuple #[.agg #[.int .i64 1,.int .i64 n,.string ⟨#[]⟩],.bool true]):=by show rvT _=_;simp [rvT,gOk,HOK.out]
  go_enter Tryz.func170,Tryz.ntmps170;go_wp2_with fail
  refine(QF s _ hs (HV.out.below (by go_grown))).mono ?_;rintro e w1 ⟨rfl,hb⟩;rw [HG.out];obtain⟨hc,hf,hC,hF,hz,hk,l0⟩:=bk1 (w:=w) (by go_grown) (by go_size) hb;clear hb
  go_wp2_with (first
   | (go_at_call 327;refine(Zm _ _).mono ?_;rintro e w2 ⟨rfl,rfl⟩;rw [HOK.out])
   | (go_at_call 181;refine(Ys _ _).mono ?_;rintro e w3 ⟨rfl,hb⟩;obtain⟨hc,hf,hC,hF,hz,hk,l0⟩:=bk1 (w:=w) (by go_grown) (by go_size) hb;clear hb))
  all_goals
   refine bodyPost_ret (v:= .tuple #[.agg #[.int .i64 1,.int .i64 n,.string ⟨#[]⟩],.bool true]) ?_ rfl ⟨by rw [HE.out],by go_grown⟩;simp (maxDischargeDepth:=9) [results,Tryz.results170,go_sem, *]
theorem Qf0 (s:ByteArray) (w:World) (hs:s.size≤281474976710656) (hv:Vars w) (s2:ByteArray) (hs2:s2.size≤maxLen) (hg:Qn s=(2,0,s2)):Calls Tryz.prog 170 #[.string s] w fun e w'=>e= .returned (rvT (2,0,s2))∧Below w.heap.size w w':=by
 have HG:Hid (Gr (Qn s)= .iface 202 (.string s2)):=by show Gr _=_;rw [hg];rfl
 have HV:Hid (Vars w):=hv;clear hg hv;cases ho:Qw s2
 ·have HOK:Hid (Qw s2=false):=ho;clear ho;have HE:Hid (rvT (2,0,s2)= .tuple #[.agg #[.int .i64 0,.int .i64 0,.string ⟨#[]⟩],.bool false]):=by show rvT _=_;simp [rvT,gOk,HOK.out]
  go_enter Tryz.func170,Tryz.ntmps170;go_wp2_with fail
  refine(QF s _ hs (HV.out.below (by go_grown))).mono ?_;rintro e w1 ⟨rfl,hb⟩;rw [HG.out];obtain⟨hc,hf,hC,hF,hz,hk,l0⟩:=bk1 (w:=w) (by go_grown) (by go_size) hb;clear hb
  go_wp2_with (first
   | (go_at_call 326;refine(Zg _ _ hs2).mono ?_;rintro e w2 ⟨rfl,rfl⟩;rw [HOK.out]))
  all_goals
   refine bodyPost_ret (v:= .tuple #[.agg #[.int .i64 0,.int .i64 0,.string ⟨#[]⟩],.bool false]) ?_ rfl ⟨by rw [HE.out],by go_grown⟩;simp (maxDischargeDepth:=9) [results,Tryz.results170,go_sem, *]
 ·have HOK:Hid (Qw s2=true):=ho;clear ho;have HE:Hid (rvT (2,0,s2)= .tuple #[.agg #[.int .i64 2,.int .i64 0,.string s2],.bool true]):=by show rvT _=_;simp [rvT,gOk,HOK.out]
  go_enter Tryz.func170,Tryz.ntmps170;go_wp2_with fail
  refine(QF s _ hs (HV.out.below (by go_grown))).mono ?_;rintro e w1 ⟨rfl,hb⟩;rw [HG.out];obtain⟨hc,hf,hC,hF,hz,hk,l0⟩:=bk1 (w:=w) (by go_grown) (by go_size) hb;clear hb
  go_wp2_with (first
   | (go_at_call 326;refine(Zg _ _ hs2).mono ?_;rintro e w2 ⟨rfl,rfl⟩;rw [HOK.out])
   | (go_at_call 277;refine(Yb _ _).mono ?_;rintro e w3 ⟨rfl,hb⟩;obtain⟨hc,hf,hC,hF,hz,hk,l0⟩:=bk1 (w:=w) (by go_grown) (by go_size) hb;clear hb))
  all_goals
   refine bodyPost_ret (v:= .tuple #[.agg #[.int .i64 2,.int .i64 0,.string s2],.bool true]) ?_ rfl ⟨by rw [HE.out],by go_grown⟩;simp (maxDischargeDepth:=9) [results,Tryz.results170,go_sem, *]
theorem Qb8 (s:ByteArray) (w:World) (hs:s.size≤281474976710656) (hv:Vars w) (n:Int) (hg:Qn s=(3,n,⟨#[]⟩)):Calls Tryz.prog 170 #[.string s] w fun e w'=>e= .returned (rvT (3,n,⟨#[]⟩))∧Below w.heap.size w w':=by
 have HG:Hid (Gr (Qn s)= .iface 230 (.int .i64 n)):=by show Gr _=_;rw [hg];rfl
 have HV:Hid (Vars w):=hv;clear hg hv;cases ho:Ye n
 ·have HOK:Hid (Ye n=false):=ho;clear ho;have HE:Hid (rvT (3,n,⟨#[]⟩)= .tuple #[.agg #[.int .i64 0,.int .i64 0,.string ⟨#[]⟩],.bool false]):=by show rvT _=_;simp [rvT,gOk,HOK.out]
  go_enter Tryz.func170,Tryz.ntmps170;go_wp2_with fail
  refine(QF s _ hs (HV.out.below (by go_grown))).mono ?_;rintro e w1 ⟨rfl,hb⟩;rw [HG.out];obtain⟨hc,hf,hC,hF,hz,hk,l0⟩:=bk1 (w:=w) (by go_grown) (by go_size) hb;clear hb
  go_wp2_with (first
   | (go_at_call 335;refine(ZE _ _).mono ?_;rintro e w2 ⟨rfl,rfl⟩;rw [HOK.out]))
  all_goals
   refine bodyPost_ret (v:= .tuple #[.agg #[.int .i64 0,.int .i64 0,.string ⟨#[]⟩],.bool false]) ?_ rfl ⟨by rw [HE.out],by go_grown⟩;simp (maxDischargeDepth:=9) [results,Tryz.results170,go_sem, *]
 ·have HOK:Hid (Ye n=true):=ho;clear ho;have HE:Hid (rvT (3,n,⟨#[]⟩)= .tuple #[.agg #[.int .i64 3,.int .i64 n,.string ⟨#[]⟩],.bool true]):=by show rvT _=_;simp [rvT,gOk,HOK.out]
  go_enter Tryz.func170,Tryz.ntmps170;go_wp2_with fail
  refine(QF s _ hs (HV.out.below (by go_grown))).mono ?_;rintro e w1 ⟨rfl,hb⟩;rw [HG.out];obtain⟨hc,hf,hC,hF,hz,hk,l0⟩:=bk1 (w:=w) (by go_grown) (by go_size) hb;clear hb
  go_wp2_with (first
   | (go_at_call 335;refine(ZE _ _).mono ?_;rintro e w2 ⟨rfl,rfl⟩;rw [HOK.out])
   | (go_at_call 336;refine(XS _ _).mono ?_;rintro e w3 ⟨rfl,hb⟩;obtain⟨hc,hf,hC,hF,hz,hk,l0⟩:=bk1 (w:=w) (by go_grown) (by go_size) hb;clear hb))
  all_goals
   refine bodyPost_ret (v:= .tuple #[.agg #[.int .i64 3,.int .i64 n,.string ⟨#[]⟩],.bool true]) ?_ rfl ⟨by rw [HE.out],by go_grown⟩;simp (maxDischargeDepth:=9) [results,Tryz.results170,go_sem, *]
theorem Qf2 (s:ByteArray) (w:World) (hs:s.size≤281474976710656) (hv:Vars w) (n:Int) (hg:Qn s=(4,n,⟨#[]⟩)):Calls Tryz.prog 170 #[.string s] w fun e w'=>e= .returned (rvT (4,n,⟨#[]⟩))∧Below w.heap.size w w':=by
 have HG:Hid (Gr (Qn s)= .iface 231 (.int .i64 n)):=by show Gr _=_;rw [hg];rfl
 have HV:Hid (Vars w):=hv;clear hg hv;cases ho:YV n
 ·have HOK:Hid (YV n=false):=ho;clear ho;have HE:Hid (rvT (4,n,⟨#[]⟩)= .tuple #[.agg #[.int .i64 0,.int .i64 0,.string ⟨#[]⟩],.bool false]):=by show rvT _=_;simp [rvT,gOk,HOK.out]
  go_enter Tryz.func170,Tryz.ntmps170;go_wp2_with fail
  refine(QF s _ hs (HV.out.below (by go_grown))).mono ?_;rintro e w1 ⟨rfl,hb⟩;rw [HG.out];obtain⟨hc,hf,hC,hF,hz,hk,l0⟩:=bk1 (w:=w) (by go_grown) (by go_size) hb;clear hb
  go_wp2_with (first
   | (go_at_call 337;refine(Zh _ _).mono ?_;rintro e w2 ⟨rfl,rfl⟩;rw [HOK.out]))
  all_goals
   refine bodyPost_ret (v:= .tuple #[.agg #[.int .i64 0,.int .i64 0,.string ⟨#[]⟩],.bool false]) ?_ rfl ⟨by rw [HE.out],by go_grown⟩;simp (maxDischargeDepth:=9) [results,Tryz.results170,go_sem, *]
 ·have HOK:Hid (YV n=true):=ho;clear ho;have HE:Hid (rvT (4,n,⟨#[]⟩)= .tuple #[.agg #[.int .i64 4,.int .i64 n,.string ⟨#[]⟩],.bool true]):=by show rvT _=_;simp [rvT,gOk,HOK.out]
  go_enter Tryz.func170,Tryz.ntmps170;go_wp2_with fail
  refine(QF s _ hs (HV.out.below (by go_grown))).mono ?_;rintro e w1 ⟨rfl,hb⟩;rw [HG.out];obtain⟨hc,hf,hC,hF,hz,hk,l0⟩:=bk1 (w:=w) (by go_grown) (by go_size) hb;clear hb
  go_wp2_with (first
   | (go_at_call 337;refine(Zh _ _).mono ?_;rintro e w2 ⟨rfl,rfl⟩;rw [HOK.out])
   | (go_at_call 338;refine(YI _ _).mono ?_;rintro e w3 ⟨rfl,hb⟩;obtain⟨hc,hf,hC,hF,hz,hk,l0⟩:=bk1 (w:=w) (by go_grown) (by go_size) hb;clear hb))
  all_goals
   refine bodyPost_ret (v:= .tuple #[.agg #[.int .i64 4,.int .i64 n,.string ⟨#[]⟩],.bool true]) ?_ rfl ⟨by rw [HE.out],by go_grown⟩;simp (maxDischargeDepth:=9) [results,Tryz.results170,go_sem, *]
theorem EY (s:ByteArray) (w:World) (hs:s.size≤281474976710656) (hv:Vars w) (hg:Qn s=(5,0,⟨#[]⟩)):Calls Tryz.prog 170 #[.string s] w fun e w'=>e= .returned (rvT (5,0,⟨#[]⟩))∧Below w.heap.size w w':=by
 have HG:Hid (Gr (Qn s)= .iface 228 (.agg #[])):=by show Gr _=_;rw [hg];rfl
 have HV:Hid (Vars w):=hv;clear hg hv;have HE:Hid (rvT (5,0,⟨#[]⟩)= .tuple #[.agg #[.int .i64 0,.int .i64 0,.string ⟨#[]⟩],.bool false]):=by show rvT _=_;simp [rvT,gOk]
 go_enter Tryz.func170,Tryz.ntmps170;go_wp2_with fail
 refine(QF s _ hs (HV.out.below (by go_grown))).mono ?_;rintro e w1 ⟨rfl,hb⟩;rw [HG.out];obtain⟨hc,hf,hC,hF,hz,hk,l0⟩:=bk1 (w:=w) (by go_grown) (by go_size) hb;clear hb
 go_wp2_with (first
  | (go_at_call 329;refine(Xm _).mono ?_;rintro e w2 ⟨rfl,hb⟩;obtain⟨hc,hf,hC,hF,hz,hk,l0⟩:=bk1 (w:=w) (by go_grown) (by go_size) hb;clear hb))
 all_goals
  refine bodyPost_ret (v:= .tuple #[.agg #[.int .i64 0,.int .i64 0,.string ⟨#[]⟩],.bool false]) ?_ rfl ⟨by rw [HE.out],by go_grown⟩;simp (maxDischargeDepth:=9) [results,Tryz.results170,go_sem, *]
theorem Kk (s : ByteArray) : Qn s = (0, 0, ⟨#[]⟩) ∨ (∃ n, Qn s = (1, n, ⟨#[]⟩)) ∨ (∃ s2, s2.size ≤ s.size ∧ Qn s = (2, 0, s2)) ∨ (∃ n, Qn s = (3, n, ⟨#[]⟩)) ∨ (∃ n, Qn s = (4, n, ⟨#[]⟩)) ∨ Qn s = (5, 0, ⟨#[]⟩) := by
  unfold Qn;split
  · split
    · exact Or.inr (Or.inr (Or.inl ⟨_, by rw [ByteArray.size_extract]; omega, rfl⟩))
    · unfold JD
      repeat' split
      all_goals first
        | exact Or.inr (Or.inr (Or.inr (Or.inl ⟨_, rfl⟩)))
        | exact Or.inr (Or.inr (Or.inr (Or.inr (Or.inl ⟨_, rfl⟩))))
        | (unfold Qev
           split
           · exact Or.inr (Or.inl ⟨_, rfl⟩)
           · exact Or.inr (Or.inr (Or.inr (Or.inr (Or.inr rfl)))))
  · exact Or.inl rfl
theorem XR (s:ByteArray) (w:World) (hs:s.size≤281474976710656) (hv:Vars w):Calls Tryz.prog 170 #[.string s] w fun e w'=>e= .returned (rvT (Qn s))∧Below w.heap.size w w':=by
 rcases Kk s with h | ⟨n,h⟩ | ⟨s2,h2,h⟩ | ⟨n,h⟩ | ⟨n,h⟩ | h
 ·rw [h];exact Qb9 s w hs hv h
 ·rw [h];exact Qi6 s w hs hv n h
 ·rw [h];exact Qf0 s w hs hv s2 (by unfold maxLen;omega) h
 ·rw [h];exact Qb8 s w hs hv n h
 ·rw [h];exact Qf2 s w hs hv n h
 ·rw [h];exact EY s w hs hv h
end Go.Proofs.YtkkbgjeilomnmaaGreatDoor
