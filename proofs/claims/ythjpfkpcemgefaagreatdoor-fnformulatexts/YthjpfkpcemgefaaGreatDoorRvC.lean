import Derived.Test.YthjpfkpcemgefaaGreatDoorGag
set_option linter.unusedSimpArgs false
set_option linter.unusedVariables false
set_option maxHeartbeats 2000000
namespace Go.Proofs.YthjpfkpcemgefaaGreatDoor
open Go.RowKit
theorem rv_blank (s:ByteArray) (w:World) (hs:s.size≤281474976710656) (hv:Vars w) (hg:guess s=(0,0,⟨#[]⟩)):Calls Tryz.prog 138 #[.string s] w fun e w'=>e= .returned (rvT (0,0,⟨#[]⟩))∧Below w.heap.size w w':=by
 have HG:Hid (gVal (guess s)= .iface 152 (.agg #[])):=by show gVal _=_;rw [hg];rfl
 have HV:Hid (Vars w):=hv
 clear hg hv
 have HE:Hid (rvT (0,0,⟨#[]⟩)= .tuple #[.agg #[.int .i64 0,.int .i64 0,.string ⟨#[]⟩],.bool true]):=by show rvT _=_;simp [rvT,gOk]
 go_enter Tryz.func138,Tryz.ntmps138
 go_wp2_with fail
 refine(impl_guessed s _ hs (HV.out.below (by go_grown))).mono ?_
 rintro e w1 ⟨rfl,hb⟩
 rw [HG.out]
 obtain⟨hc,hf,hC,hF,hz,hk,l0⟩:=bk1 (w:=w) (by go_grown) (by go_size) hb;clear hb
 go_wp2_with (first
  | (go_at_call 211;refine(right_blank _).mono ?_;rintro e w2 ⟨rfl,hb⟩;obtain⟨hc,hf,hC,hF,hz,hk,l0⟩:=bk1 (w:=w) (by go_grown) (by go_size) hb;clear hb)
  | (go_at_call 213;refine(value_blank _).mono ?_;rintro e w3 ⟨rfl,hb⟩;obtain⟨hc,hf,hC,hF,hz,hk,l0⟩:=bk1 (w:=w) (by go_grown) (by go_size) hb;clear hb))
 all_goals
  refine bodyPost_ret (v:= .tuple #[.agg #[.int .i64 0,.int .i64 0,.string ⟨#[]⟩],.bool true]) ?_ rfl ⟨by rw [HE.out],by go_grown⟩
  simp (maxDischargeDepth:=9) [results,Tryz.results138,go_sem, *]
theorem rv_num (s:ByteArray) (w:World) (hs:s.size≤281474976710656) (hv:Vars w) (n:Int) (hg:guess s=(1,n,⟨#[]⟩)):Calls Tryz.prog 138 #[.string s] w fun e w'=>e= .returned (rvT (1,n,⟨#[]⟩))∧Below w.heap.size w w':=by
 have HG:Hid (gVal (guess s)= .iface 153 (.int .i64 n)):=by show gVal _=_;rw [hg];rfl
 have HV:Hid (Vars w):=hv
 clear hg hv
 cases ho:rNum n
 ·have HOK:Hid (rNum n=false):=ho
  clear ho
  have HE:Hid (rvT (1,n,⟨#[]⟩)= .tuple #[.agg #[.int .i64 0,.int .i64 0,.string ⟨#[]⟩],.bool false]):=by show rvT _=_;simp [rvT,gOk,HOK.out]
  go_enter Tryz.func138,Tryz.ntmps138
  go_wp2_with fail
  refine(impl_guessed s _ hs (HV.out.below (by go_grown))).mono ?_
  rintro e w1 ⟨rfl,hb⟩
  rw [HG.out]
  obtain⟨hc,hf,hC,hF,hz,hk,l0⟩:=bk1 (w:=w) (by go_grown) (by go_size) hb;clear hb
  go_wp2_with (first
   | (go_at_call 214;refine(right_number _ _).mono ?_;rintro e w2 ⟨rfl,rfl⟩;rw [HOK.out]))
  all_goals
   refine bodyPost_ret (v:= .tuple #[.agg #[.int .i64 0,.int .i64 0,.string ⟨#[]⟩],.bool false]) ?_ rfl ⟨by rw [HE.out],by go_grown⟩
   simp (maxDischargeDepth:=9) [results,Tryz.results138,go_sem, *]
 ·have HOK:Hid (rNum n=true):=ho
  clear ho
  have HE:Hid (rvT (1,n,⟨#[]⟩)= .tuple #[.agg #[.int .i64 1,.int .i64 n,.string ⟨#[]⟩],.bool true]):=by show rvT _=_;simp [rvT,gOk,HOK.out]
  go_enter Tryz.func138,Tryz.ntmps138
  go_wp2_with fail
  refine(impl_guessed s _ hs (HV.out.below (by go_grown))).mono ?_
  rintro e w1 ⟨rfl,hb⟩
  rw [HG.out]
  obtain⟨hc,hf,hC,hF,hz,hk,l0⟩:=bk1 (w:=w) (by go_grown) (by go_size) hb;clear hb
  go_wp2_with (first
   | (go_at_call 214;refine(right_number _ _).mono ?_;rintro e w2 ⟨rfl,rfl⟩;rw [HOK.out])
   | (go_at_call 216;refine(value_number _ _).mono ?_;rintro e w3 ⟨rfl,hb⟩;obtain⟨hc,hf,hC,hF,hz,hk,l0⟩:=bk1 (w:=w) (by go_grown) (by go_size) hb;clear hb))
  all_goals
   refine bodyPost_ret (v:= .tuple #[.agg #[.int .i64 1,.int .i64 n,.string ⟨#[]⟩],.bool true]) ?_ rfl ⟨by rw [HE.out],by go_grown⟩
   simp (maxDischargeDepth:=9) [results,Tryz.results138,go_sem, *]
theorem rv_word (s:ByteArray) (w:World) (hs:s.size≤281474976710656) (hv:Vars w) (s2:ByteArray) (hs2:s2.size≤maxLen) (hg:guess s=(2,0,s2)):Calls Tryz.prog 138 #[.string s] w fun e w'=>e= .returned (rvT (2,0,s2))∧Below w.heap.size w w':=by
 have HG:Hid (gVal (guess s)= .iface 149 (.string s2)):=by show gVal _=_;rw [hg];rfl
 have HV:Hid (Vars w):=hv
 clear hg hv
 cases ho:rWord s2
 ·have HOK:Hid (rWord s2=false):=ho
  clear ho
  have HE:Hid (rvT (2,0,s2)= .tuple #[.agg #[.int .i64 0,.int .i64 0,.string ⟨#[]⟩],.bool false]):=by show rvT _=_;simp [rvT,gOk,HOK.out]
  go_enter Tryz.func138,Tryz.ntmps138
  go_wp2_with fail
  refine(impl_guessed s _ hs (HV.out.below (by go_grown))).mono ?_
  rintro e w1 ⟨rfl,hb⟩
  rw [HG.out]
  obtain⟨hc,hf,hC,hF,hz,hk,l0⟩:=bk1 (w:=w) (by go_grown) (by go_size) hb;clear hb
  go_wp2_with (first
   | (go_at_call 209;refine(right_wording _ _ hs2).mono ?_;rintro e w2 ⟨rfl,rfl⟩;rw [HOK.out]))
  all_goals
   refine bodyPost_ret (v:= .tuple #[.agg #[.int .i64 0,.int .i64 0,.string ⟨#[]⟩],.bool false]) ?_ rfl ⟨by rw [HE.out],by go_grown⟩
   simp (maxDischargeDepth:=9) [results,Tryz.results138,go_sem, *]
 ·have HOK:Hid (rWord s2=true):=ho
  clear ho
  have HE:Hid (rvT (2,0,s2)= .tuple #[.agg #[.int .i64 2,.int .i64 0,.string s2],.bool true]):=by show rvT _=_;simp [rvT,gOk,HOK.out]
  go_enter Tryz.func138,Tryz.ntmps138
  go_wp2_with fail
  refine(impl_guessed s _ hs (HV.out.below (by go_grown))).mono ?_
  rintro e w1 ⟨rfl,hb⟩
  rw [HG.out]
  obtain⟨hc,hf,hC,hF,hz,hk,l0⟩:=bk1 (w:=w) (by go_grown) (by go_size) hb;clear hb
  go_wp2_with (first
   | (go_at_call 209;refine(right_wording _ _ hs2).mono ?_;rintro e w2 ⟨rfl,rfl⟩;rw [HOK.out])
   | (go_at_call 135;refine(value_wording _ _).mono ?_;rintro e w3 ⟨rfl,hb⟩;obtain⟨hc,hf,hC,hF,hz,hk,l0⟩:=bk1 (w:=w) (by go_grown) (by go_size) hb;clear hb))
  all_goals
   refine bodyPost_ret (v:= .tuple #[.agg #[.int .i64 2,.int .i64 0,.string s2],.bool true]) ?_ rfl ⟨by rw [HE.out],by go_grown⟩
   simp (maxDischargeDepth:=9) [results,Tryz.results138,go_sem, *]
theorem rv_truth (s:ByteArray) (w:World) (hs:s.size≤281474976710656) (hv:Vars w) (n:Int) (hg:guess s=(3,n,⟨#[]⟩)):Calls Tryz.prog 138 #[.string s] w fun e w'=>e= .returned (rvT (3,n,⟨#[]⟩))∧Below w.heap.size w w':=by
 have HG:Hid (gVal (guess s)= .iface 154 (.int .i64 n)):=by show gVal _=_;rw [hg];rfl
 have HV:Hid (Vars w):=hv
 clear hg hv
 cases ho:rTruth n
 ·have HOK:Hid (rTruth n=false):=ho
  clear ho
  have HE:Hid (rvT (3,n,⟨#[]⟩)= .tuple #[.agg #[.int .i64 0,.int .i64 0,.string ⟨#[]⟩],.bool false]):=by show rvT _=_;simp [rvT,gOk,HOK.out]
  go_enter Tryz.func138,Tryz.ntmps138
  go_wp2_with fail
  refine(impl_guessed s _ hs (HV.out.below (by go_grown))).mono ?_
  rintro e w1 ⟨rfl,hb⟩
  rw [HG.out]
  obtain⟨hc,hf,hC,hF,hz,hk,l0⟩:=bk1 (w:=w) (by go_grown) (by go_size) hb;clear hb
  go_wp2_with (first
   | (go_at_call 217;refine(right_truth _ _).mono ?_;rintro e w2 ⟨rfl,rfl⟩;rw [HOK.out]))
  all_goals
   refine bodyPost_ret (v:= .tuple #[.agg #[.int .i64 0,.int .i64 0,.string ⟨#[]⟩],.bool false]) ?_ rfl ⟨by rw [HE.out],by go_grown⟩
   simp (maxDischargeDepth:=9) [results,Tryz.results138,go_sem, *]
 ·have HOK:Hid (rTruth n=true):=ho
  clear ho
  have HE:Hid (rvT (3,n,⟨#[]⟩)= .tuple #[.agg #[.int .i64 3,.int .i64 n,.string ⟨#[]⟩],.bool true]):=by show rvT _=_;simp [rvT,gOk,HOK.out]
  go_enter Tryz.func138,Tryz.ntmps138
  go_wp2_with fail
  refine(impl_guessed s _ hs (HV.out.below (by go_grown))).mono ?_
  rintro e w1 ⟨rfl,hb⟩
  rw [HG.out]
  obtain⟨hc,hf,hC,hF,hz,hk,l0⟩:=bk1 (w:=w) (by go_grown) (by go_size) hb;clear hb
  go_wp2_with (first
   | (go_at_call 217;refine(right_truth _ _).mono ?_;rintro e w2 ⟨rfl,rfl⟩;rw [HOK.out])
   | (go_at_call 218;refine(value_truth _ _).mono ?_;rintro e w3 ⟨rfl,hb⟩;obtain⟨hc,hf,hC,hF,hz,hk,l0⟩:=bk1 (w:=w) (by go_grown) (by go_size) hb;clear hb))
  all_goals
   refine bodyPost_ret (v:= .tuple #[.agg #[.int .i64 3,.int .i64 n,.string ⟨#[]⟩],.bool true]) ?_ rfl ⟨by rw [HE.out],by go_grown⟩
   simp (maxDischargeDepth:=9) [results,Tryz.results138,go_sem, *]
theorem rv_fail (s:ByteArray) (w:World) (hs:s.size≤281474976710656) (hv:Vars w) (n:Int) (hg:guess s=(4,n,⟨#[]⟩)):Calls Tryz.prog 138 #[.string s] w fun e w'=>e= .returned (rvT (4,n,⟨#[]⟩))∧Below w.heap.size w w':=by
 have HG:Hid (gVal (guess s)= .iface 145 (.int .i64 n)):=by show gVal _=_;rw [hg];rfl
 have HV:Hid (Vars w):=hv
 clear hg hv
 cases ho:rFail n
 ·have HOK:Hid (rFail n=false):=ho
  clear ho
  have HE:Hid (rvT (4,n,⟨#[]⟩)= .tuple #[.agg #[.int .i64 0,.int .i64 0,.string ⟨#[]⟩],.bool false]):=by show rvT _=_;simp [rvT,gOk,HOK.out]
  go_enter Tryz.func138,Tryz.ntmps138
  go_wp2_with fail
  refine(impl_guessed s _ hs (HV.out.below (by go_grown))).mono ?_
  rintro e w1 ⟨rfl,hb⟩
  rw [HG.out]
  obtain⟨hc,hf,hC,hF,hz,hk,l0⟩:=bk1 (w:=w) (by go_grown) (by go_size) hb;clear hb
  go_wp2_with (first
   | (go_at_call 207;refine(right_failure _ _).mono ?_;rintro e w2 ⟨rfl,rfl⟩;rw [HOK.out]))
  all_goals
   refine bodyPost_ret (v:= .tuple #[.agg #[.int .i64 0,.int .i64 0,.string ⟨#[]⟩],.bool false]) ?_ rfl ⟨by rw [HE.out],by go_grown⟩
   simp (maxDischargeDepth:=9) [results,Tryz.results138,go_sem, *]
 ·have HOK:Hid (rFail n=true):=ho
  clear ho
  have HE:Hid (rvT (4,n,⟨#[]⟩)= .tuple #[.agg #[.int .i64 4,.int .i64 n,.string ⟨#[]⟩],.bool true]):=by show rvT _=_;simp [rvT,gOk,HOK.out]
  go_enter Tryz.func138,Tryz.ntmps138
  go_wp2_with fail
  refine(impl_guessed s _ hs (HV.out.below (by go_grown))).mono ?_
  rintro e w1 ⟨rfl,hb⟩
  rw [HG.out]
  obtain⟨hc,hf,hC,hF,hz,hk,l0⟩:=bk1 (w:=w) (by go_grown) (by go_size) hb;clear hb
  go_wp2_with (first
   | (go_at_call 207;refine(right_failure _ _).mono ?_;rintro e w2 ⟨rfl,rfl⟩;rw [HOK.out])
   | (go_at_call 208;refine(value_failure _ _).mono ?_;rintro e w3 ⟨rfl,hb⟩;obtain⟨hc,hf,hC,hF,hz,hk,l0⟩:=bk1 (w:=w) (by go_grown) (by go_size) hb;clear hb))
  all_goals
   refine bodyPost_ret (v:= .tuple #[.agg #[.int .i64 4,.int .i64 n,.string ⟨#[]⟩],.bool true]) ?_ rfl ⟨by rw [HE.out],by go_grown⟩
   simp (maxDischargeDepth:=9) [results,Tryz.results138,go_sem, *]
theorem rv_misfit (s:ByteArray) (w:World) (hs:s.size≤281474976710656) (hv:Vars w) (hg:guess s=(5,0,⟨#[]⟩)):Calls Tryz.prog 138 #[.string s] w fun e w'=>e= .returned (rvT (5,0,⟨#[]⟩))∧Below w.heap.size w w':=by
 have HG:Hid (gVal (guess s)= .iface 133 (.agg #[])):=by show gVal _=_;rw [hg];rfl
 have HV:Hid (Vars w):=hv
 clear hg hv
 have HE:Hid (rvT (5,0,⟨#[]⟩)= .tuple #[.agg #[.int .i64 0,.int .i64 0,.string ⟨#[]⟩],.bool false]):=by show rvT _=_;simp [rvT,gOk]
 go_enter Tryz.func138,Tryz.ntmps138
 go_wp2_with fail
 refine(impl_guessed s _ hs (HV.out.below (by go_grown))).mono ?_
 rintro e w1 ⟨rfl,hb⟩
 rw [HG.out]
 obtain⟨hc,hf,hC,hF,hz,hk,l0⟩:=bk1 (w:=w) (by go_grown) (by go_size) hb;clear hb
 go_wp2_with (first
  | (go_at_call 204;refine(right_misfit _).mono ?_;rintro e w2 ⟨rfl,hb⟩;obtain⟨hc,hf,hC,hF,hz,hk,l0⟩:=bk1 (w:=w) (by go_grown) (by go_size) hb;clear hb))
 all_goals
  refine bodyPost_ret (v:= .tuple #[.agg #[.int .i64 0,.int .i64 0,.string ⟨#[]⟩],.bool false]) ?_ rfl ⟨by rw [HE.out],by go_grown⟩
  simp (maxDischargeDepth:=9) [results,Tryz.results138,go_sem, *]
theorem guess_kinds (s : ByteArray) : guess s = (0, 0, ⟨#[]⟩) ∨ (∃ n, guess s = (1, n, ⟨#[]⟩)) ∨ (∃ s2, s2.size ≤ s.size ∧ guess s = (2, 0, s2)) ∨ (∃ n, guess s = (3, n, ⟨#[]⟩)) ∨ (∃ n, guess s = (4, n, ⟨#[]⟩)) ∨ guess s = (5, 0, ⟨#[]⟩) := by
  unfold guess
  split
  · split
    · exact Or.inr (Or.inr (Or.inl ⟨_, by rw [ByteArray.size_extract]; omega, rfl⟩))
    · unfold guessB
      repeat' split
      all_goals first
        | exact Or.inr (Or.inr (Or.inr (Or.inl ⟨_, rfl⟩)))
        | exact Or.inr (Or.inr (Or.inr (Or.inr (Or.inl ⟨_, rfl⟩))))
        | (unfold gNum
           split
           · exact Or.inr (Or.inl ⟨_, rfl⟩)
           · exact Or.inr (Or.inr (Or.inr (Or.inr (Or.inr rfl)))))
  · exact Or.inl rfl
theorem impl_ReadValue (s:ByteArray) (w:World) (hs:s.size≤281474976710656) (hv:Vars w):Calls Tryz.prog 138 #[.string s] w fun e w'=>e= .returned (rvT (guess s))∧Below w.heap.size w w':=by
 rcases guess_kinds s with h | ⟨n,h⟩ | ⟨s2,h2,h⟩ | ⟨n,h⟩ | ⟨n,h⟩ | h
 ·rw [h];exact rv_blank s w hs hv h
 ·rw [h];exact rv_num s w hs hv n h
 ·rw [h];exact rv_word s w hs hv s2 (by unfold maxLen;omega) h
 ·rw [h];exact rv_truth s w hs hv n h
 ·rw [h];exact rv_fail s w hs hv n h
 ·rw [h];exact rv_misfit s w hs hv h
end Go.Proofs.YthjpfkpcemgefaaGreatDoor
