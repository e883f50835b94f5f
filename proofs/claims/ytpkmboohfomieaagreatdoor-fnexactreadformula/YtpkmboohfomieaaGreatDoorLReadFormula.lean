import Derived.Test.YtpkmboohfomieaaGreatDoorGay
import Derived.Test.YtpkmboohfomieaaGreatDoorGba
namespace Go.Proofs.YtpkmboohfomieaaGreatDoor
open Go.RowKit
set_option linter.unusedSimpArgs false
set_option linter.unusedVariables false

theorem below_midR {w W W' : World} {g B1 : Nat} (h : Below w.heap.size w W) (hm : Mid g B1 W W') (hg : w.heap.size ≤ g) : Below w.heap.size w W' :=
  ⟨hm.os.trans h.os, hm.tape.trans h.tape, hm.output.trans h.output, Nat.le_trans h.size hm.size, fun k hk => (hm.block k (Nat.lt_of_lt_of_le hk h.size) (Or.inl (by omega))).trans (h.block k hk)⟩
theorem mkw_of {W : World} {B0 c g n : Nat} {ys : List Value} {G : Nat → FN} (h : W.ownsRow B0 60 14 (.slice (some ⟨g, 0, none⟩) n c) n ys) (hp : FnPart W B0 ys G n) (hd : KDR ys n) : MkW B0 c W g W.heap.size n (fun i => (G i).kids.length) W 0 0 := by
  refine ⟨Mid.refl _ _ _, ys, h, fun i hi => ?_, fun i j hi => by omega, fun j hj => by omega, hd⟩
  obtain ⟨KA, kc, h1, h2⟩ := hp i hi
  exact ⟨KA, kc, _, (h1 13 (by omega)).trans rfl, h2, fun b hb => (h2.lt b hb).2, fun hlt => by omega⟩
theorem row_nilR (W : World) (G : Nat → FN) : FnRow W none 0 G := ⟨Nat.zero_le _, fun i hi => by omega⟩
set_option maxHeartbeats 1000000 in
theorem laws_markFNodeS_nilR (w : World) : Calls Tryz.prog 32 #[.slice none 0 0, .int .i64 1] w fun e w' => e = .returned (.int .i64 1) ∧ w' = w := by
  go_enter Tryz.func32, Tryz.ntmps32
  go_wp2_with fail
  go_loopw [1, 5] (fun q i wr => i = .int .i64 0 ∧ q = .int .i64 1 ∧ wr = w) (fun _ _ _ => 0)
  case atStart => exact ⟨rfl, rfl, rfl⟩
  case round =>
    obtain ⟨rfl, rfl, rfl⟩ := hrel
    go_wp2_with fail
    go_ret
    exact ⟨rfl, rfl⟩
set_option maxHeartbeats 1000000 in
theorem laws_heldFNodeS_nilR (w : World) : Calls Tryz.prog 33 #[.slice none 0 0, .int .i64 1] w fun e w' => e = .returned (.int .i64 1) ∧ w' = w := by
  go_enter Tryz.func33, Tryz.ntmps33
  go_wp2_with fail
  go_loopw [1, 5] (fun q i wr => i = .int .i64 0 ∧ q = .int .i64 1 ∧ wr = w) (fun _ _ _ => 0)
  case atStart => exact ⟨rfl, rfl, rfl⟩
  case round =>
    obtain ⟨rfl, rfl, rfl⟩ := hrel
    go_wp2_with fail
    go_ret
    exact ⟨rfl, rfl⟩
/-- What is read, as rows: each side's answer. -/
theorem rd_good {s : ByteArray} {out : List FN} (h : rdF s = some out) : good out = true ∧ 1 ≤ out.length ∧ fOkB (ouF out) out.length = true := by
  unfold rdF at h
  split at h
  · obtain ⟨y, hy⟩ : ∃ y, PB RF 1 1 0 [] s.data.toList [] = y := ⟨_, rfl⟩
    rw [hy] at h
    cases y with
    | none => cases h
    | some z =>
      unfold rdE at h
      simp only at h
      split at h
      · rename_i hc
        cases h
        refine ⟨hc.2.1, ?_, hc.2.2⟩
        have h9 := hc.2.2
        unfold fOkB at h9
        simp only [Bool.and_eq_true, decide_eq_true_eq] at h9
        exact h9.1.1.1.1.1
      · cases h
  · cases h
theorem good_at {out : List FN} (h : good out = true) : (∀ i, i < out.length → (ouF out i).cs.size ≤ maxLen) ∧ (∀ i, i < out.length → (ouF out i).kids.length ≤ 1048576) :=
  ⟨fun i hi => Nat.le_trans (nodeX_small (ouF_good h i hi)).1 (by unfold maxLen; omega), fun i hi => Nat.le_trans (nodeX_small (ouF_good h i hi)).2 (by omega)⟩
theorem own_some {W : World} {B n : Nat} {v : Value} {ys : List Value} (h : W.ownsRow B 60 14 v n ys) (hn : 1 ≤ n) : ∃ g c, v = .slice (some ⟨g, 0, none⟩) n c := by
  rcases h.2 with ⟨rfl, rfl⟩ | ⟨g, cap, cur, rfl, _⟩
  · omega
  · exact ⟨g, cap, rfl⟩
set_option maxRecDepth 100000 in
set_option maxHeartbeats 8000000 in
theorem law_ReadFormula_yes (s : ByteArray) (w : World) (hs : s.size ≤ maxLen) (hz : s.size ≤ 1048576) (hg : GI w) (out : List FN) (hr : rdF s = some out) : Calls Tryz.prog 7 #[.string s] w fun e w' =>
    e = .returned (.bool true) ∧ Below w.heap.size w w' := by
  have HG : Hid (GI w) := hg
  have HS : Hid (s.size ≤ maxLen) := hs
  have HR : Hid (rdF s = some out) := hr
  obtain ⟨g0, g1, _⟩ := rd_good hr
  have HGD : Hid (good out = true) := g0
  have HG1 : Hid (1 ≤ out.length) := g1
  have HSZ : Hid (∀ i, i < out.length → (ouF out i).cs.size ≤ maxLen) := (good_at g0).1
  have HKZ : Hid (∀ i, i < out.length → (ouF out i).kids.length ≤ 1048576) := (good_at g0).2
  have HN : Hid (out.length ≤ 1048576) := by show _ ≤ _; have := good_len g0; omega
  have q0 : ¬ (1048576 : Int) < (s.size : Int) := by omega
  clear hg hr g0 g1
  go_enter Tryz.func7, Tryz.ntmps7
  go_wp2_with fail
  refine (spec_ReadFormula s w HS.out).mono ?_
  rintro _ u1 ⟨hb, (⟨h9, rfl⟩ | ⟨out', v0, ys0, h9, rfl, ho, hp⟩)⟩
  · rw [HR.out] at h9; cases h9
  rw [HR.out] at h9
  cases h9
  obtain ⟨A0, cap0, rfl, hr0⟩ := fn_of_ownR ho hp HSZ.out
  have R0 : Hid (FnRow u1 A0 out.length (ouF out)) := hr0
  have K1 : Hid (Below w.heap.size w u1) := hb
  clear hb ho hp hr0
  go_wp2_with fail
  refine (impl_ReadFormula s u1 HS.out (HG.out.below K1.out)).mono ?_
  rintro _ u2 ⟨hb, (⟨h9, rfl⟩ | ⟨out', v1, ys, h9, rfl, ho, hp, hkd⟩)⟩
  · rw [HR.out] at h9; cases h9
  rw [HR.out] at h9
  cases h9
  obtain ⟨g, c, rfl⟩ := own_some ho HG1.out
  have OG2 : Hid (u2.ownsRow u1.heap.size 60 14 (.slice (some ⟨g, 0, none⟩) out.length c) out.length ys) := ho
  have PG2 : Hid (FnPart u2 u1.heap.size ys (ouF out) out.length) := hp
  have HKD : Hid (KDR ys out.length) := hkd
  have C2 : Hid (Below u1.heap.size u1 u2) := hb
  have K2 : Hid (Below w.heap.size w u2) := bchain K1.out hb
  clear hb ho hp hkd
  obtain ⟨n, HNN⟩ : ∃ n, Hid (out.length = n) := ⟨_, rfl⟩
  rw [HNN.out] at R0 OG2 PG2 HKD HSZ HKZ HN ⊢
  go_wp2_with fail
  refine (laws_eqFNodeS _ (fn_of_own OG2.out PG2.out HSZ.out) (R0.out.below C2.out)).mono ?_
  rintro _ u3 ⟨rfl, hb⟩
  have C3 : Hid (Below u1.heap.size u1 u3) := bchain C2.out hb
  have K3 : Hid (Below w.heap.size w u3) := bchain K2.out hb
  have OG3 : Hid (u3.ownsRow u1.heap.size 60 14 (.slice (some ⟨g, 0, none⟩) n c) n ys) := own_below OG2.out hb
  have PG3 : Hid (FnPart u3 u1.heap.size ys (ouF out) n) := PG2.out.below hb
  clear hb OG2 PG2 C2
  go_wp2_with fail
  refine (laws_markFNodeSW (mkw_of OG3.out PG3.out HKD.out) (OG3.out.lt g rfl).2 HN.out HKZ.out).mono ?_
  rintro _ u4 ⟨rfl, hm, hh⟩
  have K4 : Hid (Below w.heap.size w u4) := below_midR K3.out hm K1.out.size
  have C4 : Hid (Below u1.heap.size u1 u4) := below_midR C3.out hm (Nat.le_refl _)
  have H4 : Hid (HeldW u1.heap.size c u4 g n (fun i => (ouF out i).kids.length)) := hh
  have hqp := kq_pos (fun i => (ouF out i).kids.length) n
  clear hm hh OG3 PG3 C3
  go_wp2_with fail
  refine (laws_heldFNodeSW H4.out HN.out HKZ.out).mono ?_
  rintro _ u5 ⟨rfl, hb⟩
  have K5 : Hid (Below w.heap.size w u5) := bchain K4.out hb
  have C5 : Hid (Below u1.heap.size u1 u5) := bchain C4.out hb
  have H5 : Hid (HeldW u1.heap.size c u5 g n (fun i => (ouF out i).kids.length)) := H4.out.below hb
  clear hb H4 C4
  obtain ⟨qq, HQQ⟩ : ∃ qq, Hid (kq (fun i => (ouF out i).kids.length) n = qq) := ⟨_, rfl⟩
  rw [HQQ.out] at hqp ⊢
  have hq2 : ¬ qq < 0 := by omega
  go_wp2_with fail
  refine (impl_ReadFormula s u5 HS.out (HG.out.below K5.out)).mono ?_
  rintro _ u6 ⟨hb, (⟨h9, rfl⟩ | ⟨out', v1, ys2, h9, rfl, ho, hp, hkd⟩)⟩
  · rw [HR.out] at h9; cases h9
  rw [HR.out] at h9
  cases h9
  rw [HNN.out] at ho hp
  obtain ⟨A6, cap6, rfl, hr6⟩ := fn_of_ownR ho hp HSZ.out
  have R6 : Hid (FnRow u6 A6 n (ouF out)) := hr6
  have K6 : Hid (Below w.heap.size w u6) := bchain K5.out hb
  have C6 : Hid (Below u1.heap.size u1 u6) := bchain C5.out hb
  have H6 : Hid (HeldW u1.heap.size c u6 g n (fun i => (ouF out i).kids.length)) := H5.out.below hb
  clear hb ho hp hkd hr6 H5 C5
  go_wp2_with fail
  refine (laws_eqFNodeS _ R6.out (R0.out.below C6.out)).mono ?_
  rintro _ u7 ⟨rfl, hb⟩
  have K7 : Hid (Below w.heap.size w u7) := bchain K6.out hb
  have H7 : Hid (HeldW u1.heap.size c u7 g n (fun i => (ouF out i).kids.length)) := H6.out.below hb
  clear hb H6 R6
  go_wp2_with fail
  refine (laws_heldFNodeSW H7.out HN.out HKZ.out).mono ?_
  rintro _ u8 ⟨rfl, hb⟩
  have K8 : Hid (Below w.heap.size w u8) := bchain K7.out hb
  clear hb
  rw [HQQ.out]
  go_wp2_with fail
  go_ret
  exact ⟨rfl, K8.out⟩
set_option maxRecDepth 100000 in
set_option maxHeartbeats 8000000 in
theorem law_ReadFormula_no (s : ByteArray) (w : World) (hs : s.size ≤ maxLen) (hz : s.size ≤ 1048576) (hg : GI w) (hr : rdF s = none) : Calls Tryz.prog 7 #[.string s] w fun e w' =>
    e = .returned (.bool true) ∧ Below w.heap.size w w' := by
  have HG : Hid (GI w) := hg
  have HS : Hid (s.size ≤ maxLen) := hs
  have HR : Hid (rdF s = none) := hr
  have q0 : ¬ (1048576 : Int) < (s.size : Int) := by omega
  clear hg hr
  go_enter Tryz.func7, Tryz.ntmps7
  go_wp2_with fail
  refine (spec_ReadFormula s w HS.out).mono ?_
  rintro _ u1 ⟨hb, (⟨h9, rfl⟩ | ⟨out', v0, ys0, h9, rfl, ho, hp⟩)⟩
  rotate_left
  · rw [HR.out] at h9; cases h9
  have K1 : Hid (Below w.heap.size w u1) := hb
  clear hb h9
  go_wp2_with fail
  refine (impl_ReadFormula s u1 HS.out (HG.out.below K1.out)).mono ?_
  rintro _ u2 ⟨hb, (⟨h9, rfl⟩ | ⟨out', v1, ys, h9, rfl, ho, hp, hkd⟩)⟩
  rotate_left
  · rw [HR.out] at h9; cases h9
  have K2 : Hid (Below w.heap.size w u2) := bchain K1.out hb
  clear hb h9
  go_wp2_with fail
  refine (laws_eqFNodeS _ (row_nilR _ (fun _ => dFN)) (row_nilR _ _)).mono ?_
  rintro _ u3 ⟨rfl, hb⟩
  have K3 : Hid (Below w.heap.size w u3) := bchain K2.out hb
  clear hb
  go_wp2_with fail
  refine (laws_markFNodeS_nilR _).mono ?_
  rintro _ u4 ⟨rfl, hw⟩
  obtain rfl := hw.symm
  clear hw
  go_wp2_with fail
  refine (laws_heldFNodeS_nilR _).mono ?_
  rintro _ u5 ⟨rfl, hw⟩
  obtain rfl := hw.symm
  clear hw
  go_wp2_with fail
  refine (impl_ReadFormula s u3 HS.out (HG.out.below K3.out)).mono ?_
  rintro _ u6 ⟨hb, (⟨h9, rfl⟩ | ⟨out', v1, ys, h9, rfl, ho, hp, hkd⟩)⟩
  rotate_left
  · rw [HR.out] at h9; cases h9
  have K6 : Hid (Below w.heap.size w u6) := bchain K3.out hb
  clear hb h9
  go_wp2_with fail
  refine (laws_eqFNodeS _ (row_nilR _ (fun _ => dFN)) (row_nilR _ _)).mono ?_
  rintro _ u7 ⟨rfl, hb⟩
  have K7 : Hid (Below w.heap.size w u7) := bchain K6.out hb
  clear hb
  go_wp2_with fail
  refine (laws_heldFNodeS_nilR _).mono ?_
  rintro _ u8 ⟨rfl, hw⟩
  obtain rfl := hw.symm
  clear hw
  go_wp2_with fail
  go_ret
  exact ⟨rfl, K7.out⟩
set_option maxHeartbeats 2000000 in
theorem law_FnExactReadFormula (s : ByteArray) (w : World) (hs : s.size ≤ maxLen) (hg : GI w) : Calls Tryz.prog 7 #[.string s] w fun e w' =>
    e = .returned (.bool true) ∧ Below w.heap.size w w' := by
  by_cases hz : s.size ≤ 1048576
  · cases hr : rdF s with
    | none => exact law_ReadFormula_no s w hs hz hg hr
    | some out => exact law_ReadFormula_yes s w hs hz hg out hr
  · have q0 : (1048576 : Int) < (s.size : Int) := by omega
    go_enter Tryz.func7, Tryz.ntmps7
    go_wp2_with fail
    go_ret
    exact ⟨rfl, Below.refl _ _⟩
end Go.Proofs.YtpkmboohfomieaaGreatDoor
