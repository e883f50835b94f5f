import Derived.Test.YthdclafkcondmaaGreatDoorPpF
import Derived.Test.YthdclafkcondmaaGreatDoorGzb
import Derived.Test.YthdclafkcondmaaGreatDoorGbg
set_option linter.unusedSimpArgs false
set_option linter.unusedVariables false
namespace Go.Proofs.YthdclafkcondmaaGreatDoor
open Go.RowKit
theorem inF_size {s t : ByteArray} (h : inF s = some t) : t.size ≤ 200 := by
  unfold inF at h
  split at h
  · unfold lim at h
    split at h
    · split at h
      · rename_i hz
        cases h
        exact hz
      · cases h
    · cases h
  · cases h
theorem rvT_some {u : ByteArray} (ho : gOk (guess u) = true) : ∃ (P Q : Int) (t : ByteArray), rvT (guess u) = .tuple #[.agg #[.int .i64 P, .int .i64 Q, .string t], .bool true] ∧ t.size ≤ u.size ∧ txV P Q t = u := by
  refine ⟨(guess u).1, (guess u).2.1, (guess u).2.2, by unfold rvT; rw [ho]; rfl, ?_, ?_⟩
  · rcases guess_kinds u with h | ⟨n, h⟩ | ⟨s2, h2, h⟩ | ⟨n, h⟩ | ⟨n, h⟩ | h
    · rw [h]; exact Nat.zero_le _
    · rw [h]; exact Nat.zero_le _
    · rw [h]; exact h2
    · rw [h]; exact Nat.zero_le _
    · rw [h]; exact Nat.zero_le _
    · rw [h]; exact Nat.zero_le _
  · have h1 := guess_okV u
    rw [ho] at h1
    unfold txV
    rw [← h1, if_pos rfl]
    exact guess_text u ho
set_option maxRecDepth 100000 in
set_option maxHeartbeats 8000000 in
theorem law_FnInputs (H1 : FtX 1 69) (H2 : FtX 2 228) (A : Option Addr) (len cap : Nat) (w : World) (hz : len ≤ 1048576 → Cd w A len) (hg : GI w) : Calls Tryz.prog 6 #[.slice A len cap] w fun e w' =>
    e = .returned (.bool true) ∧ Below w.heap.size w w' := by
  have HG : Hid (GI w) := hg
  clear hg
  by_cases hbig : (1048576 : Int) < (len : Int)
  · go_enter Tryz.func6, Tryz.ntmps6
    go_wp2_with fail
    refine (laws_big A len cap _).mono ?_
    rintro e wq ⟨rfl, hw⟩
    subst wq
    go_wp2_with fail
    go_ret
    exact ⟨rfl, by go_grown⟩
  have HC : Hid (Cd w A len) := hz (by omega)
  clear hz
  go_enter Tryz.func6, Tryz.ntmps6
  go_wp2_with fail
  refine (laws_big A len cap _).mono ?_
  rintro e wq ⟨rfl, hw⟩
  subst wq
  go_wp2_with fail
  refine (draw_inputOf H1 H2 A len cap _ HC.out).mono ?_
  rintro e w1 ⟨s, rfl, hs, hb⟩
  have K1 : Hid (Below w.heap.size w w1) := hb
  have HS : Hid (s.size ≤ maxLen) := by show _ ≤ _; unfold maxLen; omega
  clear hb
  go_wp2_with fail
  refine (impl_InputOf s _ HS.out (HG.out.below K1.out)).mono ?_
  rintro e w2 ⟨he, hb⟩
  have K2 : Hid (Below w.heap.size w w2) := bchain K1.out hb
  clear hb
  cases ho : inF s with
  | none =>
    have HO : Hid (inF s = none) := ho
    rw [ho] at he
    obtain rfl : e = .returned (.tuple #[.string ⟨#[]⟩, .bool false]) := he
    clear ho
    go_wp2_with fail
    refine (spec_InputOf s _ HS.out).mono ?_
    rintro e w3 ⟨he, hb⟩
    rw [HO.out] at he
    obtain rfl : e = .returned (.tuple #[.string ⟨#[]⟩, .bool false]) := he
    have K3 : Hid (Below w.heap.size w w3) := bchain K2.out hb
    clear hb
    go_wp2_with fail
    go_ret
    exact ⟨rfl, K3.out⟩
  | some t =>
    have HO : Hid (inF s = some t) := ho
    rw [ho] at he
    obtain rfl : e = .returned (.tuple #[.string t, .bool true]) := he
    obtain ⟨⟨ha, hcase⟩, hemp⟩ := in_again ho
    have HA : Hid (inF t = some t) := ha
    have HT2 : Hid (t.size ≤ 200) := inF_size ho
    have HTM : Hid (t.size ≤ maxLen) := by show _ ≤ _; have := HT2.out; unfold maxLen; omega
    have hbb : (t.toList == t.toList) = true := by simp
    clear ho ha
    go_wp2_with fail
    refine (spec_InputOf s _ HS.out).mono ?_
    rintro e w3 ⟨he, hb⟩
    rw [HO.out] at he
    obtain rfl : e = .returned (.tuple #[.string t, .bool true]) := he
    have K3 : Hid (Below w.heap.size w w3) := bchain K2.out hb
    clear hb
    go_wp2_with fail
    refine (impl_InputOf t _ HTM.out (HG.out.below K3.out)).mono ?_
    rintro e w4 ⟨he, hb⟩
    rw [HA.out] at he
    obtain rfl : e = .returned (.tuple #[.string t, .bool true]) := he
    have K4 : Hid (Below w.heap.size w w4) := bchain K3.out hb
    clear hb
    by_cases h0 : t.size = 0
    · have e1 : t.toList.isEmpty = true := emp_size h0
      have e2 : s.toList.isEmpty = true := emp_size (hemp.1 h0)
      have hgo : gOk (guess t) = true := by
        rcases hcase with ⟨hq, _⟩ | ⟨_, hq⟩
        · unfold eqH at hq
          rw [dif_neg (by omega)] at hq
          cases hq
        · exact hq
      obtain ⟨P, Q, u, hrv, hu, htx⟩ := rvT_some hgo
      have HRV : Hid (rvT (guess t) = .tuple #[.agg #[.int .i64 P, .int .i64 Q, .string u], .bool true]) := hrv
      have HTX : Hid (txV P Q u = t) := htx
      have HUM : Hid (u.size ≤ maxLen) := by show _ ≤ _; have := HT2.out; unfold maxLen; omega
      clear hcase hemp hgo hrv htx h0
      go_wp2_with fail
      refine (impl_ReadValue t _ (by have := HT2.out; omega) (HG.out.below K4.out).vs).mono ?_
      rintro e w5 ⟨rfl, hb⟩
      rw [HRV.out]
      have K5 : Hid (Below w.heap.size w w5) := bchain K4.out hb
      clear hb
      go_wp2_with fail
      refine (impl_ValueText P Q u _ ((HG.out.below K5.out).below (by go_grown)).vs.1 HUM.out).mono ?_
      rintro e w6 ⟨rfl, hb⟩
      rw [HTX.out]
      have z5 := K5.out.size
      have K6 : Hid (Below w.heap.size w w6) := K5.out.trans (Below.trans (by go_grown) (hb.mono (by go_size)))
      clear hb
      go_wp2_with fail
      go_ret
      exact ⟨rfl, K6.out⟩
    · have e1 : t.toList.isEmpty = false := ne_nil2 (by omega)
      have e2 : s.toList.isEmpty = false := ne_nil2 (by have := fun e => h0 (hemp.2 e); omega)
      have h9 : 0 < t.size := by omega
      rcases hcase with ⟨hq, out, hrd, hft⟩ | ⟨hq, hgo⟩
      · have ht0 : t[0] = 61 := by
          unfold eqH at hq
          rw [dif_pos h9] at hq
          exact eq_of_beq hq
        have HRD : Hid (rdF (t.extract 1 t.size) = some out) := hrd
        have HFT : Hid ((⟨#[61]⟩ : ByteArray) ++ ftx (ouF out) out.length = t) := hft
        have hi1 : (1 : Int) ≤ (t.size : Int) := by omega
        clear hq hrd hft hemp h0
        go_wp2_with fail
        refine (impl_ReadFormula (t.extract 1 t.size) _ (by have := HT2.out; rw [ByteArray.size_extract]; unfold maxLen; omega) (HG.out.below K4.out)).mono ?_
        rintro _ w5 ⟨hb, (⟨hr, rfl⟩ | ⟨out', v, ys, hr, rfl, ho, hp, hkd⟩)⟩
        · rw [HRD.out] at hr
          cases hr
        · obtain rfl : out = out' := by rw [HRD.out] at hr; exact Option.some.inj hr
          obtain ⟨g0, _, _⟩ := rd_goodI hr
          obtain ⟨A', cap', rfl, hfr⟩ := fn_of_ownR ho hp (good_atI g0).1
          have HFR : Hid (FnRow w5 A' out.length (ouF out)) := hfr
          have HKZ : Hid (∀ i, i < out.length → (ouF out i).kids.length ≤ 1048576) := (good_atI g0).2
          have HN : Hid (out.length ≤ 1048576) := by show _ ≤ _; have := good_len g0; omega
          have K5 : Hid (Below w.heap.size w w5) := bchain K4.out hb
          obtain ⟨x, HX⟩ : ∃ x, Hid (ftx (ouF out) out.length = x) := ⟨_, rfl⟩
          have HXS : Hid (x.size ≤ 200) := by show _ ≤ _; rw [← HX.out]; exact ftx_size _ _
          have HXT : Hid ((⟨#[61]⟩ : ByteArray) ++ x = t) := by show _ = _; rw [← HX.out]; exact HFT.out
          have z1 : ¬ 9223372036854775807 < 1 + x.size := by have := HXS.out; omega
          clear hb hr ho hp hkd hfr g0
          go_wp2_with fail
          refine (impl_FormulaText _ HFR.out HN.out HKZ.out (HG.out.below K5.out).gt).mono ?_
          rintro _ w6 ⟨rfl, hb2⟩
          have K6 : Hid (Below w.heap.size w w6) := bchain K5.out hb2
          rw [HX.out]
          have a1 := add_factX (x := ⟨#[61]⟩) (y := x) (B := 300) (by have := HXS.out; show 1 + x.size ≤ _; omega) (by omega)
          rw [HXT.out] at a1
          clear hb2
          go_wp2_with fail
          go_ret
          exact ⟨rfl, K6.out⟩
      · have ht0 : ¬ t[0] = 61 := by
          unfold eqH at hq
          rw [dif_pos h9] at hq
          exact beq_eq_false_iff_ne.1 hq
        have ht1 : ((t[0].toNat : Int) == 61) = false := by
          rw [beq_eq_false_iff_ne]
          intro e
          exact ht0 (UInt8.toNat_inj.1 (by show t[0].toNat = 61; omega))
        obtain ⟨P, Q, u, hrv, hu, htx⟩ := rvT_some hgo
        have HRV : Hid (rvT (guess t) = .tuple #[.agg #[.int .i64 P, .int .i64 Q, .string u], .bool true]) := hrv
        have HTX : Hid (txV P Q u = t) := htx
        have HUM : Hid (u.size ≤ maxLen) := by show _ ≤ _; have := HT2.out; unfold maxLen; omega
        clear hq hemp hgo hrv htx h0
        go_wp2_with fail
        refine (impl_ReadValue t _ (by have := HT2.out; omega) (HG.out.below K4.out).vs).mono ?_
        rintro e w5 ⟨rfl, hb⟩
        rw [HRV.out]
        have K5 : Hid (Below w.heap.size w w5) := bchain K4.out hb
        clear hb
        go_wp2_with fail
        refine (impl_ValueText P Q u _ ((HG.out.below K5.out).below (by go_grown)).vs.1 HUM.out).mono ?_
        rintro e w6 ⟨rfl, hb⟩
        rw [HTX.out]
        have z5 := K5.out.size
        have K6 : Hid (Below w.heap.size w w6) := K5.out.trans (Below.trans (by go_grown) (hb.mono (by go_size)))
        clear hb
        go_wp2_with fail
        go_ret
        exact ⟨rfl, K6.out⟩
end Go.Proofs.YthdclafkcondmaaGreatDoor
