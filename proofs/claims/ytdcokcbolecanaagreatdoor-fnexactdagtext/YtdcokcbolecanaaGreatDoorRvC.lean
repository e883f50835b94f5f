import Derived.Test.YtdcokcbolecanaaGreatDoorGag
set_option linter.unusedSimpArgs false
set_option linter.unusedVariables false
set_option maxHeartbeats 2000000
namespace Go.Proofs.YtdcokcbolecanaaGreatDoor
open Go.RowKit
theorem Qco (s:ByteArray) (w:World) (hs:s.size≤281474976710656) (hv:Vars w) (hg:Qn s=(0,0,⟨#[]⟩)):Calls Tryz.prog 130 #[.string s] w fun e w'=>e= .returned (rvT (0,0,⟨#[]⟩))∧Below w.heap.size w w':=by
 have HG:Hid (Gw (Qn s)= .iface 191 (.agg #[])):=by show Gw _=_;rw [hg];rfl
 have HV:Hid (Vars w):=hv;clear hg hv;have HE:Hid (rvT (0,0,⟨#[]⟩)= .tuple #[.agg #[.int .i64 0,.int .i64 0,.string ⟨#[]⟩],.bool true]):=by show rvT _=_;simp [rvT,gOk]
 go_enter Tryz.func130,Tryz.ntmps130;go_wp2_with fail
 refine(QF s _ hs (HV.out.below (by go_grown))).mono ?_;rintro e w1 ⟨rfl,hb⟩;rw [HG.out];obtain⟨hc,hf,hC,hF,hz,hk,l0⟩:=bk1 (w:=w) (by go_grown) (by go_size) hb;clear hb
 go_wp2_with (first
  | (go_at_call 254;refine(Yn _).mono ?_;rintro e w2 ⟨rfl,hb⟩;obtain⟨hc,hf,hC,hF,hz,hk,l0⟩:=bk1 (w:=w) (by go_grown) (by go_size) hb;clear hb)
  | (go_at_call 256;refine(YI _).mono ?_;rintro e w3 ⟨rfl,hb⟩;obtain⟨hc,hf,hC,hF,hz,hk,l0⟩:=bk1 (w:=w) (by go_grown) (by go_size) hb;clear hb))
 all_goals
  refine bodyPost_ret (v:= .tuple #[.agg #[.int .i64 0,.int .i64 0,.string ⟨#[]⟩],.bool true]) ?_ rfl ⟨by rw [HE.out],by go_grown⟩;simp (maxDischargeDepth:=9) [results,Tryz.results130,go_sem, *]
theorem Qjp (s:ByteArray) (w:World) (hs:s.size≤281474976710656) (hv:Vars w) (n:Int) (hg:Qn s=(1,n,⟨#[]⟩)):Calls Tryz.prog 130 #[.string s] w fun e w'=>e= .returned (rvT (1,n,⟨#[]⟩))∧Below w.heap.size w w':=by
 have HG:Hid (Gw (Qn s)= .iface 179 (.int .i64 n)):=by show Gw _=_;rw [hg];rfl
 have HV:Hid (Vars w):=hv;clear hg hv;cases ho:Zv n
 ·have HOK:Hid (Zv n=false):=ho;clear ho;have HE:Hid (rvT (1,n,⟨#[]⟩)= .tuple #[.agg #[.int .i64 0,.int .i64 0,.string ⟨#[]⟩],.bool false]):=by show rvT _=_;simp [rvT,gOk,HOK.out]
  go_enter Tryz.func130,Tryz.ntmps130;go_wp2_with fail
  refine(QF s _ hs (HV.out.below (by go_grown))).mono ?_;rintro e w1 ⟨rfl,hb⟩;rw [HG.out];obtain⟨hc,hf,hC,hF,hz,hk,l0⟩:=bk1 (w:=w) (by go_grown) (by go_size) hb;clear hb
  go_wp2_with (first
   | (go_at_call 249;refine(Zo _ _).mono ?_;rintro e w2 ⟨rfl,rfl⟩;rw [HOK.out]))
  all_goals
   refine bodyPost_ret (v:= .tuple #[.agg #[.int .i64 0,.int .i64 0,.string ⟨#[]⟩],.bool false]) ?_ rfl ⟨by rw [HE.out],by go_grown⟩;simp (maxDischargeDepth:=9) [results,Tryz.results130,go_sem, *]
 ·have HOK:Hid (Zv n=true):=ho;clear ho;have HE:Hid (rvT (1,n,⟨#[]⟩)= .tuple #[.agg #[.int .i64 1,.int .i64 n,.string ⟨#[]⟩],.bool true]):=by show rvT _=_;simp [rvT,gOk,HOK.out]
  go_enter Tryz.func130,Tryz.ntmps130;go_wp2_with fail
  refine(QF s _ hs (HV.out.below (by go_grown))).mono ?_;rintro e w1 ⟨rfl,hb⟩;rw [HG.out];obtain⟨hc,hf,hC,hF,hz,hk,l0⟩:=bk1 (w:=w) (by go_grown) (by go_size) hb;clear hb
  go_wp2_with (first
   | (go_at_call 249;refine(Zo _ _).mono ?_;rintro e w2 ⟨rfl,rfl⟩;rw [HOK.out])
   | (go_at_call 138;refine(Yu _ _).mono ?_;rintro e w3 ⟨rfl,hb⟩;obtain⟨hc,hf,hC,hF,hz,hk,l0⟩:=bk1 (w:=w) (by go_grown) (by go_size) hb;clear hb))
  all_goals
   refine bodyPost_ret (v:= .tuple #[.agg #[.int .i64 1,.int .i64 n,.string ⟨#[]⟩],.bool true]) ?_ rfl ⟨by rw [HE.out],by go_grown⟩;simp (maxDischargeDepth:=9) [results,Tryz.results130,go_sem, *]
theorem Qgi (s:ByteArray) (w:World) (hs:s.size≤281474976710656) (hv:Vars w) (s2:ByteArray) (hs2:s2.size≤maxLen) (hg:Qn s=(2,0,s2)):Calls Tryz.prog 130 #[.string s] w fun e w'=>e= .returned (rvT (2,0,s2))∧Below w.heap.size w w':=by
 have HG:Hid (Gw (Qn s)= .iface 173 (.string s2)):=by show Gw _=_;rw [hg];rfl
 have HV:Hid (Vars w):=hv;clear hg hv;cases ho:Qx s2
 ·have HOK:Hid (Qx s2=false):=ho;clear ho;have HE:Hid (rvT (2,0,s2)= .tuple #[.agg #[.int .i64 0,.int .i64 0,.string ⟨#[]⟩],.bool false]):=by show rvT _=_;simp [rvT,gOk,HOK.out]
  go_enter Tryz.func130,Tryz.ntmps130;go_wp2_with fail
  refine(QF s _ hs (HV.out.below (by go_grown))).mono ?_;rintro e w1 ⟨rfl,hb⟩;rw [HG.out];obtain⟨hc,hf,hC,hF,hz,hk,l0⟩:=bk1 (w:=w) (by go_grown) (by go_size) hb;clear hb
  go_wp2_with (first
   | (go_at_call 248;refine(Zg _ _ hs2).mono ?_;rintro e w2 ⟨rfl,rfl⟩;rw [HOK.out]))
  all_goals
   refine bodyPost_ret (v:= .tuple #[.agg #[.int .i64 0,.int .i64 0,.string ⟨#[]⟩],.bool false]) ?_ rfl ⟨by rw [HE.out],by go_grown⟩;simp (maxDischargeDepth:=9) [results,Tryz.results130,go_sem, *]
 ·have HOK:Hid (Qx s2=true):=ho;clear ho;have HE:Hid (rvT (2,0,s2)= .tuple #[.agg #[.int .i64 2,.int .i64 0,.string s2],.bool true]):=by show rvT _=_;simp [rvT,gOk,HOK.out]
  go_enter Tryz.func130,Tryz.ntmps130;go_wp2_with fail
  refine(QF s _ hs (HV.out.below (by go_grown))).mono ?_;rintro e w1 ⟨rfl,hb⟩;rw [HG.out];obtain⟨hc,hf,hC,hF,hz,hk,l0⟩:=bk1 (w:=w) (by go_grown) (by go_size) hb;clear hb
  go_wp2_with (first
   | (go_at_call 248;refine(Zg _ _ hs2).mono ?_;rintro e w2 ⟨rfl,rfl⟩;rw [HOK.out])
   | (go_at_call 206;refine(Yd _ _).mono ?_;rintro e w3 ⟨rfl,hb⟩;obtain⟨hc,hf,hC,hF,hz,hk,l0⟩:=bk1 (w:=w) (by go_grown) (by go_size) hb;clear hb))
  all_goals
   refine bodyPost_ret (v:= .tuple #[.agg #[.int .i64 2,.int .i64 0,.string s2],.bool true]) ?_ rfl ⟨by rw [HE.out],by go_grown⟩;simp (maxDischargeDepth:=9) [results,Tryz.results130,go_sem, *]
theorem Qcn (s:ByteArray) (w:World) (hs:s.size≤281474976710656) (hv:Vars w) (n:Int) (hg:Qn s=(3,n,⟨#[]⟩)):Calls Tryz.prog 130 #[.string s] w fun e w'=>e= .returned (rvT (3,n,⟨#[]⟩))∧Below w.heap.size w w':=by
 have HG:Hid (Gw (Qn s)= .iface 192 (.int .i64 n)):=by show Gw _=_;rw [hg];rfl
 have HV:Hid (Vars w):=hv;clear hg hv;cases ho:Yg n
 ·have HOK:Hid (Yg n=false):=ho;clear ho;have HE:Hid (rvT (3,n,⟨#[]⟩)= .tuple #[.agg #[.int .i64 0,.int .i64 0,.string ⟨#[]⟩],.bool false]):=by show rvT _=_;simp [rvT,gOk,HOK.out]
  go_enter Tryz.func130,Tryz.ntmps130;go_wp2_with fail
  refine(QF s _ hs (HV.out.below (by go_grown))).mono ?_;rintro e w1 ⟨rfl,hb⟩;rw [HG.out];obtain⟨hc,hf,hC,hF,hz,hk,l0⟩:=bk1 (w:=w) (by go_grown) (by go_size) hb;clear hb
  go_wp2_with (first
   | (go_at_call 257;refine(ZH _ _).mono ?_;rintro e w2 ⟨rfl,rfl⟩;rw [HOK.out]))
  all_goals
   refine bodyPost_ret (v:= .tuple #[.agg #[.int .i64 0,.int .i64 0,.string ⟨#[]⟩],.bool false]) ?_ rfl ⟨by rw [HE.out],by go_grown⟩;simp (maxDischargeDepth:=9) [results,Tryz.results130,go_sem, *]
 ·have HOK:Hid (Yg n=true):=ho;clear ho;have HE:Hid (rvT (3,n,⟨#[]⟩)= .tuple #[.agg #[.int .i64 3,.int .i64 n,.string ⟨#[]⟩],.bool true]):=by show rvT _=_;simp [rvT,gOk,HOK.out]
  go_enter Tryz.func130,Tryz.ntmps130;go_wp2_with fail
  refine(QF s _ hs (HV.out.below (by go_grown))).mono ?_;rintro e w1 ⟨rfl,hb⟩;rw [HG.out];obtain⟨hc,hf,hC,hF,hz,hk,l0⟩:=bk1 (w:=w) (by go_grown) (by go_size) hb;clear hb
  go_wp2_with (first
   | (go_at_call 257;refine(ZH _ _).mono ?_;rintro e w2 ⟨rfl,rfl⟩;rw [HOK.out])
   | (go_at_call 258;refine(XX _ _).mono ?_;rintro e w3 ⟨rfl,hb⟩;obtain⟨hc,hf,hC,hF,hz,hk,l0⟩:=bk1 (w:=w) (by go_grown) (by go_size) hb;clear hb))
  all_goals
   refine bodyPost_ret (v:= .tuple #[.agg #[.int .i64 3,.int .i64 n,.string ⟨#[]⟩],.bool true]) ?_ rfl ⟨by rw [HE.out],by go_grown⟩;simp (maxDischargeDepth:=9) [results,Tryz.results130,go_sem, *]
theorem Qgk (s:ByteArray) (w:World) (hs:s.size≤281474976710656) (hv:Vars w) (n:Int) (hg:Qn s=(4,n,⟨#[]⟩)):Calls Tryz.prog 130 #[.string s] w fun e w'=>e= .returned (rvT (4,n,⟨#[]⟩))∧Below w.heap.size w w':=by
 have HG:Hid (Gw (Qn s)= .iface 193 (.int .i64 n)):=by show Gw _=_;rw [hg];rfl
 have HV:Hid (Vars w):=hv;clear hg hv;cases ho:YX n
 ·have HOK:Hid (YX n=false):=ho;clear ho;have HE:Hid (rvT (4,n,⟨#[]⟩)= .tuple #[.agg #[.int .i64 0,.int .i64 0,.string ⟨#[]⟩],.bool false]):=by show rvT _=_;simp [rvT,gOk,HOK.out]
  go_enter Tryz.func130,Tryz.ntmps130;go_wp2_with fail
  refine(QF s _ hs (HV.out.below (by go_grown))).mono ?_;rintro e w1 ⟨rfl,hb⟩;rw [HG.out];obtain⟨hc,hf,hC,hF,hz,hk,l0⟩:=bk1 (w:=w) (by go_grown) (by go_size) hb;clear hb
  go_wp2_with (first
   | (go_at_call 259;refine(Zh _ _).mono ?_;rintro e w2 ⟨rfl,rfl⟩;rw [HOK.out]))
  all_goals
   refine bodyPost_ret (v:= .tuple #[.agg #[.int .i64 0,.int .i64 0,.string ⟨#[]⟩],.bool false]) ?_ rfl ⟨by rw [HE.out],by go_grown⟩;simp (maxDischargeDepth:=9) [results,Tryz.results130,go_sem, *]
 ·have HOK:Hid (YX n=true):=ho;clear ho;have HE:Hid (rvT (4,n,⟨#[]⟩)= .tuple #[.agg #[.int .i64 4,.int .i64 n,.string ⟨#[]⟩],.bool true]):=by show rvT _=_;simp [rvT,gOk,HOK.out]
  go_enter Tryz.func130,Tryz.ntmps130;go_wp2_with fail
  refine(QF s _ hs (HV.out.below (by go_grown))).mono ?_;rintro e w1 ⟨rfl,hb⟩;rw [HG.out];obtain⟨hc,hf,hC,hF,hz,hk,l0⟩:=bk1 (w:=w) (by go_grown) (by go_size) hb;clear hb
  go_wp2_with (first
   | (go_at_call 259;refine(Zh _ _).mono ?_;rintro e w2 ⟨rfl,rfl⟩;rw [HOK.out])
   | (go_at_call 260;refine(YK _ _).mono ?_;rintro e w3 ⟨rfl,hb⟩;obtain⟨hc,hf,hC,hF,hz,hk,l0⟩:=bk1 (w:=w) (by go_grown) (by go_size) hb;clear hb))
  all_goals
   refine bodyPost_ret (v:= .tuple #[.agg #[.int .i64 4,.int .i64 n,.string ⟨#[]⟩],.bool true]) ?_ rfl ⟨by rw [HE.out],by go_grown⟩;simp (maxDischargeDepth:=9) [results,Tryz.results130,go_sem, *]
theorem Qak (s:ByteArray) (w:World) (hs:s.size≤281474976710656) (hv:Vars w) (hg:Qn s=(5,0,⟨#[]⟩)):Calls Tryz.prog 130 #[.string s] w fun e w'=>e= .returned (rvT (5,0,⟨#[]⟩))∧Below w.heap.size w w':=by
 have HG:Hid (Gw (Qn s)= .iface 190 (.agg #[])):=by show Gw _=_;rw [hg];rfl
 have HV:Hid (Vars w):=hv;clear hg hv;have HE:Hid (rvT (5,0,⟨#[]⟩)= .tuple #[.agg #[.int .i64 0,.int .i64 0,.string ⟨#[]⟩],.bool false]):=by show rvT _=_;simp [rvT,gOk]
 go_enter Tryz.func130,Tryz.ntmps130;go_wp2_with fail
 refine(QF s _ hs (HV.out.below (by go_grown))).mono ?_;rintro e w1 ⟨rfl,hb⟩;rw [HG.out];obtain⟨hc,hf,hC,hF,hz,hk,l0⟩:=bk1 (w:=w) (by go_grown) (by go_size) hb;clear hb
 go_wp2_with (first
  | (go_at_call 251;refine(Xq _).mono ?_;rintro e w2 ⟨rfl,hb⟩;obtain⟨hc,hf,hC,hF,hz,hk,l0⟩:=bk1 (w:=w) (by go_grown) (by go_size) hb;clear hb))
 all_goals
  refine bodyPost_ret (v:= .tuple #[.agg #[.int .i64 0,.int .i64 0,.string ⟨#[]⟩],.bool false]) ?_ rfl ⟨by rw [HE.out],by go_grown⟩;simp (maxDischargeDepth:=9) [results,Tryz.results130,go_sem, *]
theorem Ko (s : ByteArray) : Qn s = (0, 0, ⟨#[]⟩) ∨ (∃ n, Qn s = (1, n, ⟨#[]⟩)) ∨ (∃ s2, s2.size ≤ s.size ∧ Qn s = (2, 0, s2)) ∨ (∃ n, Qn s = (3, n, ⟨#[]⟩)) ∨ (∃ n, Qn s = (4, n, ⟨#[]⟩)) ∨ Qn s = (5, 0, ⟨#[]⟩) := by
  unfold Qn;split
  · split
    · exact Or.inr (Or.inr (Or.inl ⟨_, by rw [ByteArray.size_extract]; omega, rfl⟩))
    · unfold JG
      repeat' split
      all_goals first
        | exact Or.inr (Or.inr (Or.inr (Or.inl ⟨_, rfl⟩)))
        | exact Or.inr (Or.inr (Or.inr (Or.inr (Or.inl ⟨_, rfl⟩))))
        | (unfold Qfd
           split
           · exact Or.inr (Or.inl ⟨_, rfl⟩)
           · exact Or.inr (Or.inr (Or.inr (Or.inr (Or.inr rfl)))))
  · exact Or.inl rfl
theorem XW (s:ByteArray) (w:World) (hs:s.size≤281474976710656) (hv:Vars w):Calls Tryz.prog 130 #[.string s] w fun e w'=>e= .returned (rvT (Qn s))∧Below w.heap.size w w':=by
 rcases Ko s with h | ⟨n,h⟩ | ⟨s2,h2,h⟩ | ⟨n,h⟩ | ⟨n,h⟩ | h
 ·rw [h];exact Qco s w hs hv h
 ·rw [h];exact Qjp s w hs hv n h
 ·rw [h];exact Qgi s w hs hv s2 (by unfold maxLen;omega) h
 ·rw [h];exact Qcn s w hs hv n h
 ·rw [h];exact Qgk s w hs hv n h
 ·rw [h];exact Qak s w hs hv h
end Go.Proofs.YtdcokcbolecanaaGreatDoor
