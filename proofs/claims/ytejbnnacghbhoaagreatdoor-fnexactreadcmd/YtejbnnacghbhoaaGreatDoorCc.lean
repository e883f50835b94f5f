import Derived.Test.YtejbnnacghbhoaaGreatDoorMn
import Derived.Test.YtejbnnacghbhoaaGreatDoorCa
set_option linter.unusedSimpArgs false
set_option linter.unusedVariables false
set_option maxHeartbeats 16000000
set_option maxRecDepth 100000
namespace Go.Proofs.YtejbnnacghbhoaaGreatDoor
open Go.RowKit
theorem rs_empty {s:ByteArray} (h:s.toList.isEmpty=true):rcB s=false:=by unfold rcB;rw [h];rfl
theorem rs_no {s:ByteArray} {c:CR} {t:ByteArray} (hc:cmS s.data.toList=c) (ht:cmL c=t) (h1:(t.toList==s.toList)=false):rcB s=false:=by
 rw [←(rc_same s).1,hc,ht,h1,Bool.and_false]
theorem rs_yes {s:ByteArray} {c:CR} {t:ByteArray} (hc:cmS s.data.toList=c) (ht:cmL c=t) (h0:s.toList.isEmpty=false) (h1:(t.toList==s.toList)=true):rcB s=true∧cmI s.data.toList=c:=by
 have h:rcB s=true:=by rw [←(rc_same s).1,hc,ht,h1,h0];rfl
 exact⟨h,((rc_same s).2 h).symm.trans hc⟩
theorem spec_ReadCmd (s : ByteArray) (w : World) (hs : s.size ≤ 1048576) : Calls Tryz.prog 27 #[.string s] w fun e w' => PostRC s (w.heap.size + 1) w' e ∧ Below w.heap.size w w' := by
  obtain ⟨l, HL⟩ : ∃ l, Hid (s.data.toList = l) := ⟨_, rfl⟩;obtain ⟨la, HA⟩ : ∃ y, Hid (bs (cw 10 l) = y) := ⟨_, rfl⟩;obtain ⟨bh, HBQ⟩ : ∃ y, Hid (bs (cr 10 l) = y) := ⟨_, rfl⟩;obtain ⟨wd, HW⟩ : ∃ y, Hid (bs (cw 32 (cw 10 l)) = y) := ⟨_, rfl⟩;obtain ⟨ws, HY⟩ : ∃ y, Hid (bs (cr 32 (cw 10 l)) = y) := ⟨_, rfl⟩;obtain ⟨p, HP⟩ : ∃ y, Hid (bs (cw 32 (cr 32 (cw 10 l))) = y) := ⟨_, rfl⟩;obtain ⟨q, HQ⟩ : ∃ y, Hid (bs (cr 32 (cr 32 (cw 10 l))) = y) := ⟨_, rfl⟩
  obtain ⟨rb, HRB⟩ : ∃ y : Int, Hid ((((lX q.data.toList).getD 0 : Nat) : Int) = y) := ⟨_, rfl⟩;have hsl : l.length = s.size := by rw [← HL.out]; simp
  have hz1 := cw_len 10 l;have hz2 := cr_len 10 l;have hz3 := cw_len 32 (cw 10 l);have hz4 := cr_len 32 (cw 10 l);have hz5 := cw_len 32 (cr 32 (cw 10 l));have hz6 := cr_len 32 (cr 32 (cw 10 l));have zla : la.size ≤ 1048576 := by rw [← HA.out, bs_szC]; omega
  have zbh : bh.size ≤ 1048576 := by rw [← HBQ.out, bs_szC]; omega
  have zws : ws.size ≤ 1048576 := by rw [← HY.out, bs_szC]; omega
  have zp : p.size ≤ 1048576 := by rw [← HP.out, bs_szC]; omega
  have zq : q.size ≤ 1048576 := by rw [← HQ.out, bs_szC]; omega
  have HLA : Hid (la.data.toList = cw 10 l) := by rw [← HA.out]; exact (rfl : _ = _)
  have HWS : Hid (ws.data.toList = cr 32 (cw 10 l)) := by rw [← HY.out]; exact (rfl : _ = _)
  have HSL : Hid (l.length = s.size) := hsl;clear hz1 hz2 hz3 hz4 hz5 hz6 hsl;go_enter Tryz.func27, Tryz.ntmps27;go_wp2_with fail
  obtain ⟨X0, HX0⟩ : ∃ X, Hid (w.alloc (.cells #[.int .i64 0, .string ⟨#[]⟩, .string ⟨#[]⟩, .int .i64 0, .slice none 0 0] 45) = X) := ⟨_, rfl⟩;have B0 : Hid (BX X0 w.heap.size [.int .i64 0, .string ⟨#[]⟩, .string ⟨#[]⟩, .int .i64 0, .slice none 0 0]) := by rw [← HX0.out]; exact bx_new w _ _
  have K0 : Hid (Below w.heap.size w X0) := by rw [← HX0.out]; exact (Below.refl _ _).alloc (Nat.le_refl _) _
  rw [HX0.out];clear HX0;go_loop [4] (fun v => ∃ k : Nat, ∃ hk : k ≤ s.size, v = .int .i64 k ∧ ∀ j, (hj : j < k) → s[j]'(by omega) ≠ 10) (fun v => s.size - (intOf v).toNat)
  case atStart => exact ⟨0, Nat.zero_le _, rfl, fun j hj => by omega⟩
  case round =>
    obtain ⟨k, hk, rfl, hr⟩ := hrel;have HR : Hid (∀ j, (hj : j < k) → s[j]'(by omega) ≠ 10) := hr;clear hr;have hk0 : (0 : Int) ≤ (k : Int) := by omega
    have hk1 : (k : Int) ≤ (s.size : Int) := by omega
    by_cases hlt : k < s.size
    · have hlt' : (k : Int) < (s.size : Int) := by omega
      have hne : ¬ (k : Int) = (s.size : Int) := by omega
      by_cases hb : s[k] = 10
      · have HQ10 : Hid (bs (cw 10 s.data.toList) = s.extract 0 k ∧ bs (cr 10 s.data.toList) = s.extract (k + 1) s.size) := Qqf hlt HR.out hb
        have h10 : (s[k].toNat : Int) = 10 := by rw [hb]; rfl
        have q1 : (k : Int) + 1 ≤ (s.size : Int) := by omega
        have q0 : (0 : Int) ≤ (k : Int) + 1 := by omega
        have q2 : IntKind.i64.wrap ((k : Int) + 1) = (k : Int) + 1 := by rw [IntKind.wrap_i64]; omega
        have q3 : ((k : Int) + 1).toNat = k + 1 := by omega
        have HAX : Hid (s.extract 0 k = la) := by show _ = _; rw [← HQ10.out.1, HL.out, HA.out]
        have HBH : Hid (s.extract (k + 1) s.size = bh) := by show _ = _; rw [← HQ10.out.2, HL.out, HBQ.out]
        have HLT : Hid ((cw 10 l).length < l.length) := by
          show _ < _;rw [HSL.out, ← bs_szC (cw 10 l), HA.out, ← HAX.out, ByteArray.size_extract];omega
        clear hb HQ10 HR;go_upto_region 4 with fail
        have HCM : Hid (cmS s.data.toList = if wd.data.toList = [114, 117, 110] then ⟨1, p, ⟨#[]⟩, rb, rmF bh⟩
          else if wd.data.toList = [98, 114, 97, 110, 99, 104] then ⟨2, p, ⟨#[]⟩, rb, []⟩
          else if wd.data.toList = [109, 101, 114, 103, 101] then ⟨3, p, q, 0, []⟩
          else if wd.data.toList = [115, 119, 101, 101, 112] then ⟨4, ⟨#[]⟩, ⟨#[]⟩, 0, []⟩ else ⟨0, ⟨#[]⟩, ⟨#[]⟩, 0, []⟩) := by
          show _ = _;rw [← HRB.out, ← HW.out, ← HP.out, ← HQ.out, ← HBQ.out, HL.out];unfold cmS;rw [if_pos HLT.out];rfl
        go_wp2_with fail
        rw [HAX.out];refine (Qn5 la X0 zla).mono ?_;rintro e X1 ⟨rfl, hb⟩;rw [HLA.out, HW.out, HY.out];have B1 : Hid (BX X1 w.heap.size [.int .i64 0, .string ⟨#[]⟩, .string ⟨#[]⟩, .int .i64 0, .slice none 0 0]) := B0.out.below (by simp) hb;have K1 : Hid (Below w.heap.size w X1) := Qc K0.out hb;clear hb B0 K0 HLA
        obtain ⟨b1, HB1⟩ : ∃ b1, Hid (X1.heap.size = b1) := ⟨_, rfl⟩;have hlt1 : w.heap.size < b1 := by have := B1.out.lt (by simp); have := HB1.out; omega
        have hne1 : ¬ b1 = w.heap.size := by omega
        have hne2 : ¬ w.heap.size = b1 := by omega
        have KZ1 : Hid (Below X1.heap.size X1 (X1.alloc (.cells #[.int .i64 0, .string ⟨#[]⟩, .string ⟨#[]⟩, .int .i64 0, .slice none 0 0] 45))) := (Below.refl _ _).alloc (Nat.le_refl _) _;have NZ1 : Hid (BX (X1.alloc (.cells #[.int .i64 0, .string ⟨#[]⟩, .string ⟨#[]⟩, .int .i64 0, .slice none 0 0] 45)) X1.heap.size [.int .i64 0, .string ⟨#[]⟩, .string ⟨#[]⟩, .int .i64 0, .slice none 0 0]) := bx_new X1 _ _
        go_upto_region 6 with (first
          | (refine stoB NZ1.out [.int .i64 0, .string ⟨#[]⟩, .string ⟨#[]⟩, .int .i64 0, .slice none 0 0] (by simp) rfl 45 _ _ rfl rfl rfl infoCm5 rfl ?_; intro Z hBY hbY hzY hkY; have CZ : Hid (BX Z b1 [.int .i64 0, .string ⟨#[]⟩, .string ⟨#[]⟩, .int .i64 0, .slice none 0 0]) := by rw [← HB1.out]; exact hBY
             have BZ : Hid (BX Z w.heap.size [.int .i64 0, .string ⟨#[]⟩, .string ⟨#[]⟩, .int .i64 0, .slice none 0 0]) := (B1.out.below (by simp) KZ1.out).at (hkY _ (by rw [HB1.out]; exact hne2));have KZ : Hid (Below w.heap.size w Z) := (Qc K1.out KZ1.out).trans (hbY.mono (by rw [HB1.out]; omega))
             clear hBY hbY hzY hkY)
          | fail)
        rw [HB1.out];clear B1 K1 KZ1 NZ1;go_wp2_with fail
        refine (Qn5 ws Z zws).mono ?_;rintro e Z2 ⟨rfl, hb⟩;rw [HWS.out, HP.out, HQ.out];have HCZ : Hid (BX Z2 b1 [.int .i64 0, .string ⟨#[]⟩, .string ⟨#[]⟩, .int .i64 0, .slice none 0 0]) := CZ.out.below (by simp) hb;have HBZ : Hid (BX Z2 w.heap.size [.int .i64 0, .string ⟨#[]⟩, .string ⟨#[]⟩, .int .i64 0, .slice none 0 0]) := BZ.out.below (by simp) hb;have HKZ : Hid (Below w.heap.size w Z2) := Qc KZ.out hb;clear hb CZ BZ KZ HWS
        go_upto_region 7 with fail
        have HSP0 : Hid (p.size ≤ maxLen) := by show _ ≤ _; unfold maxLen; omega
        have HSQ0 : Hid (q.size ≤ maxLen) := by show _ ≤ _; unfold maxLen; omega
        have HE0 : Hid ((⟨#[]⟩ : ByteArray).size ≤ maxLen) := Nat.zero_le _;have hlbZ : b1 < Z2.heap.size := HCZ.out.lt (by simp);by_cases w1 : wd.data.toList = [114, 117, 110]
        · have HC : Hid (cmS s.data.toList = ⟨1, p, ⟨#[]⟩, rb, rmF bh⟩) := by show _ = _; rw [HCM.out, if_pos w1]
          obtain rfl : wd = ⟨#[114, 117, 110]⟩ := by rw [← bs_self wd, w1]; rfl
          clear HCM w1;have HSP := HSP0;have HSQ := HE0
          go_upto_region 11 with (first
            | (refine stoB HCZ.out [.int .i64 2, .string p, .string ⟨#[]⟩, .int .i64 0, .slice none 0 0] (by simp) rfl 45 _ _ rfl rfl rfl infoCm5 rfl ?_; intro Y1 hBY hbY hzY hkY; have uC : Hid (BX Y1 b1 [.int .i64 2, .string p, .string ⟨#[]⟩, .int .i64 0, .slice none 0 0]) := hBY; have uG : Hid (BX Y1 w.heap.size [.int .i64 0, .string ⟨#[]⟩, .string ⟨#[]⟩, .int .i64 0, .slice none 0 0]) := HBZ.out.at (hkY _ hne2); have uK : Hid (Below w.heap.size w Y1) := HKZ.out.trans (hbY.mono (by omega)); clear hBY hbY hzY hkY)
            | fail)
          clear HCZ HBZ HKZ;go_wp2_with fail
          refine (spec_l1Int10 q Y1 (by omega)).mono ?_;rintro e U ⟨rfl, hUU⟩;obtain rfl := hUU;unfold o16;rw [HRB.out];generalize (lX q.data.toList).isSome = z1
          have c3 := (uC.out 3 _ rfl).1;have g3 := (uC.out 3 _ rfl).2;obtain ⟨V, HV⟩ : ∃ X, Hid (U.setCell ⟨b1, 3, none⟩ (.int .i64 rb) = X) := ⟨_, rfl⟩;have C3 : Hid (BX V b1 [.int .i64 2, .string p, .string ⟨#[]⟩, .int .i64 rb, .slice none 0 0]) := by rw [← HV.out]; exact uC.out.set 3 _ (by simp)
          have G3 : Hid (BX V w.heap.size [.int .i64 0, .string ⟨#[]⟩, .string ⟨#[]⟩, .int .i64 0, .slice none 0 0]) := by rw [← HV.out]; exact uG.out.at (Below.heap_setCell _ _ _ _ hne2)
          have L3 : Hid (Below w.heap.size w V) := by rw [← HV.out]; exact uK.out.setCell (p := ⟨b1, 3, none⟩) (Nat.le_of_lt hlt1) _
          go_upto_region 12 with fail
          rw [HV.out];clear c3 g3 uC uG uK HV;have c0 := (C3.out 0 _ rfl).1;have g0 := (C3.out 0 _ rfl).2;obtain ⟨V2, HV⟩ : ∃ X, Hid (V.setCell ⟨b1, 0, none⟩ (.int .i64 1) = X) := ⟨_, rfl⟩;have C4 : Hid (BX V2 b1 [.int .i64 1, .string p, .string ⟨#[]⟩, .int .i64 rb, .slice none 0 0]) := by rw [← HV.out]; exact C3.out.set 0 _ (by simp)
          have G4 : Hid (BX V2 w.heap.size [.int .i64 0, .string ⟨#[]⟩, .string ⟨#[]⟩, .int .i64 0, .slice none 0 0]) := by rw [← HV.out]; exact G3.out.at (Below.heap_setCell _ _ _ _ hne2)
          have L4 : Hid (Below w.heap.size w V2) := by rw [← HV.out]; exact L3.out.setCell (p := ⟨b1, 0, none⟩) (Nat.le_of_lt hlt1) _
          go_upto_region 14 with fail
          rw [HV.out];clear c0 g0 C3 G3 L3 HV;go_wp2_with fail
          rw [HBH.out];refine (spec_ReadMacro bh V2 zbh).mono ?_;rintro e U ⟨B9, hB9, hp, hb⟩;obtain ⟨A9, c9, rfl, ho⟩ := hp.out;obtain ⟨L, HLL⟩ : ∃ L, Hid (rmF bh = L) := ⟨_, rfl⟩;obtain ⟨n, HLN⟩ : ∃ n, Hid (L.length = n) := ⟨_, rfl⟩;have HLS : Hid (∀ i, i < L.length → (sT L i).size ≤ 1048576) := by rw [← HLL.out]; exact rmF_szM zbh
          rw [HLL.out] at HC;rw [HLL.out, HLN.out] at ho ⊢;generalize rmB bh = z2
          have C5 : Hid (BX U b1 [.int .i64 1, .string p, .string ⟨#[]⟩, .int .i64 rb, .slice none 0 0]) := C4.out.below (by simp) hb;have G5 : Hid (BX U w.heap.size [.int .i64 0, .string ⟨#[]⟩, .string ⟨#[]⟩, .int .i64 0, .slice none 0 0]) := G4.out.below (by simp) hb;have L5 : Hid (Below w.heap.size w U) := Qc L4.out hb;have hlV : b1 < B9 := Nat.lt_of_lt_of_le (C4.out.lt (by simp)) hB9;have O5 : Hid (U.ownsRow B9 69 5 (.slice A9 n c9) n (QC srC L)) := ho;have c4 := (C5.out 4 _ rfl).1;have g4 := (C5.out 4 _ rfl).2
          clear hb hp ho C4 G4 L4;obtain ⟨WX, HWX⟩ : ∃ X, Hid (U.setCell ⟨b1, 4, none⟩ (.slice A9 n c9) = X) := ⟨_, rfl⟩;have CX : Hid (BX WX b1 [.int .i64 1, .string p, .string ⟨#[]⟩, .int .i64 rb, .slice A9 n c9]) := by rw [← HWX.out]; exact C5.out.set 4 _ (by simp)
          have BX0 : Hid (BX WX w.heap.size [.int .i64 0, .string ⟨#[]⟩, .string ⟨#[]⟩, .int .i64 0, .slice none 0 0]) := by rw [← HWX.out]; exact G5.out.at (Below.heap_setCell _ _ _ _ hne2)
          have KX : Hid (Below w.heap.size w WX) := by rw [← HWX.out]; exact L5.out.setCell (p := ⟨b1, 4, none⟩) (Nat.le_of_lt hlt1) _
          have OX : Hid (WX.ownsRow (w.heap.size + 1) 69 5 (.slice A9 n c9) n (QC srC L)) := by
            rw [← HWX.out];exact ZP (own_setC O5.out hlV ((Below.refl _ _).setCell (p := ⟨b1, 4, none⟩) (Nat.le_refl _) _) (by simp) (fun k hk => Below.heap_setCell _ _ _ _ hk)) (by omega)
          go_upto_region 19 with fail
          rw [HWX.out];clear c4 g4 C5 G5 L5 O5 HWX;cases hse : s.toList.isEmpty
          rotate_left
          · have HF : Hid (rcB s = false) := rs_empty hse
            go_wp2_with (first
                | (refine stoB BX0.out [.int .i64 0, .string ⟨#[]⟩, .string ⟨#[]⟩, .int .i64 0, .slice none 0 0] (by simp) rfl 45 _ _ rfl rfl rfl infoCm5 rfl ?_; intro Y hBY hbY hzY hkY; have d0 := (hBY 0 _ rfl).1; have d1 := (hBY 1 _ rfl).1; have d2 := (hBY 2 _ rfl).1; have d3 := (hBY 3 _ rfl).1; have d4 := (hBY 4 _ rfl).1; have KY : Hid (Below w.heap.size w Y) := KX.out.trans hbY; clear hBY hbY hzY hkY)
                | fail)
            clear hse;refine bodyPost_ret (v := .tuple #[.agg #[.int .i64 0, .string ⟨#[]⟩, .string ⟨#[]⟩, .int .i64 0, .slice none 0 0], .bool false]) ?_ rfl ⟨post_no HF.out rfl, KY.out⟩;simp (maxDischargeDepth := 9) [results, Tryz.results27, go_sem, *]
          have e0 := (CX.out 0 _ rfl).1;have e1 := (CX.out 1 _ rfl).1;have e2 := (CX.out 2 _ rfl).1;have e3 := (CX.out 3 _ rfl).1;have e4 := (CX.out 4 _ rfl).1;go_wp2_with fail
          clear e0 e1 e2 e3 e4;refine (spec_CmdTextR 1 p ⟨#[]⟩ rb WX HSP.out HSQ.out HLN.out (ms_of_sr OX.out HLN.out (fun i hi => by have := HLS.out i hi; unfold maxLen; omega)) HLS.out).mono ?_;rintro e U ⟨rfl, hb⟩;obtain ⟨t, HT⟩ : ∃ t, Hid (cmL ⟨1, p, ⟨#[]⟩, rb, L⟩ = t) := ⟨_, rfl⟩;rw [HT.out];have CU : Hid (BX U b1 [.int .i64 1, .string p, .string ⟨#[]⟩, .int .i64 rb, .slice A9 n c9]) := CX.out.below (by simp) hb;have BU : Hid (BX U w.heap.size [.int .i64 0, .string ⟨#[]⟩, .string ⟨#[]⟩, .int .i64 0, .slice none 0 0]) := BX0.out.below (by simp) hb
          have OU : Hid (U.ownsRow (w.heap.size + 1) 69 5 (.slice A9 n c9) n (QC srC L)) := Qi OX.out hb;have KU : Hid (Below w.heap.size w U) := Qc KX.out hb;clear hb CX BX0 OX KX;cases hs9 : t.toList == s.toList
          · have HF : Hid (rcB s = false) := rs_no HC.out HT.out hs9
            go_wp2_with (first
                | (refine stoB BU.out [.int .i64 0, .string ⟨#[]⟩, .string ⟨#[]⟩, .int .i64 0, .slice none 0 0] (by simp) rfl 45 _ _ rfl rfl rfl infoCm5 rfl ?_; intro Y hBY hbY hzY hkY; have d0 := (hBY 0 _ rfl).1; have d1 := (hBY 1 _ rfl).1; have d2 := (hBY 2 _ rfl).1; have d3 := (hBY 3 _ rfl).1; have d4 := (hBY 4 _ rfl).1; have KY : Hid (Below w.heap.size w Y) := KU.out.trans hbY; clear hBY hbY hzY hkY)
                | fail)
            clear hs9 hse;refine bodyPost_ret (v := .tuple #[.agg #[.int .i64 0, .string ⟨#[]⟩, .string ⟨#[]⟩, .int .i64 0, .slice none 0 0], .bool false]) ?_ rfl ⟨post_no HF.out rfl, KY.out⟩;simp (maxDischargeDepth := 9) [results, Tryz.results27, go_sem, *]
          · have HF : Hid (rcB s = true ∧ cmI s.data.toList = ⟨1, p, ⟨#[]⟩, rb, L⟩) := rs_yes HC.out HT.out hse hs9
            go_wp2_with (first
                | (refine loaB CU.out [.int .i64 1, .string p, .string ⟨#[]⟩, .int .i64 rb, .slice A9 n c9] (fun j hj => by rw [Nat.zero_add]) rfl 45 _ rfl rfl _ Tryz.underlying45 rfl infoCm5 ?_)
                | (refine stoB BU.out [.int .i64 1, .string p, .string ⟨#[]⟩, .int .i64 rb, .slice A9 n c9] (by simp) rfl 45 _ _ rfl rfl rfl infoCm5 rfl ?_; intro Y hBY hbY hzY hkY; have d0 := (hBY 0 _ rfl).1; have d1 := (hBY 1 _ rfl).1; have d2 := (hBY 2 _ rfl).1; have d3 := (hBY 3 _ rfl).1; have d4 := (hBY 4 _ rfl).1; have KY : Hid (Below w.heap.size w Y) := KU.out.trans hbY; have OY : Hid (Y.ownsRow (w.heap.size + 1) 69 5 (.slice A9 n c9) n (QC srC L)) := own_setC OU.out (by omega) hbY hzY hkY; clear hBY hbY hzY hkY)
                | fail)
            clear hs9 hse;refine bodyPost_ret (v := .tuple #[.agg #[.int .i64 1, .string p, .string ⟨#[]⟩, .int .i64 rb, .slice A9 n c9], .bool true]) ?_ rfl ⟨post_yes HF.out.1 HF.out.2 HLN.out OY.out rfl, KY.out⟩;simp (maxDischargeDepth := 9) [results, Tryz.results27, go_sem, *]
        by_cases w2 : wd.data.toList = [98, 114, 97, 110, 99, 104]
        · have HC : Hid (cmS s.data.toList = ⟨2, p, ⟨#[]⟩, rb, []⟩) := by show _ = _; rw [HCM.out, if_neg w1, if_pos w2]
          obtain rfl : wd = ⟨#[98, 114, 97, 110, 99, 104]⟩ := by rw [← bs_self wd, w2]; rfl
          clear HCM w1 w2;have HSP := HSP0;have HSQ := HE0
          go_upto_region 11 with (first
            | (refine stoB HCZ.out [.int .i64 2, .string p, .string ⟨#[]⟩, .int .i64 0, .slice none 0 0] (by simp) rfl 45 _ _ rfl rfl rfl infoCm5 rfl ?_; intro Y1 hBY hbY hzY hkY; have uC : Hid (BX Y1 b1 [.int .i64 2, .string p, .string ⟨#[]⟩, .int .i64 0, .slice none 0 0]) := hBY; have uG : Hid (BX Y1 w.heap.size [.int .i64 0, .string ⟨#[]⟩, .string ⟨#[]⟩, .int .i64 0, .slice none 0 0]) := HBZ.out.at (hkY _ hne2); have uK : Hid (Below w.heap.size w Y1) := HKZ.out.trans (hbY.mono (by omega)); clear hBY hbY hzY hkY)
            | fail)
          clear HCZ HBZ HKZ;go_wp2_with fail
          refine (spec_l1Int10 q Y1 (by omega)).mono ?_;rintro e U ⟨rfl, hUU⟩;obtain rfl := hUU;unfold o16;rw [HRB.out];generalize (lX q.data.toList).isSome = z1
          have c3 := (uC.out 3 _ rfl).1;have g3 := (uC.out 3 _ rfl).2;obtain ⟨V, HV⟩ : ∃ X, Hid (U.setCell ⟨b1, 3, none⟩ (.int .i64 rb) = X) := ⟨_, rfl⟩;have C3 : Hid (BX V b1 [.int .i64 2, .string p, .string ⟨#[]⟩, .int .i64 rb, .slice none 0 0]) := by rw [← HV.out]; exact uC.out.set 3 _ (by simp)
          have G3 : Hid (BX V w.heap.size [.int .i64 0, .string ⟨#[]⟩, .string ⟨#[]⟩, .int .i64 0, .slice none 0 0]) := by rw [← HV.out]; exact uG.out.at (Below.heap_setCell _ _ _ _ hne2)
          have L3 : Hid (Below w.heap.size w V) := by rw [← HV.out]; exact uK.out.setCell (p := ⟨b1, 3, none⟩) (Nat.le_of_lt hlt1) _
          go_upto_region 12 with fail
          rw [HV.out];clear c3 g3 uC uG uK HV;obtain ⟨WX, HWX⟩ : ∃ X, Hid (V = X) := ⟨_, rfl⟩;have CX : Hid (BX WX b1 [.int .i64 2, .string p, .string ⟨#[]⟩, .int .i64 rb, .slice none 0 0]) := by rw [← HWX.out]; exact C3.out
          have BX0 : Hid (BX WX w.heap.size [.int .i64 0, .string ⟨#[]⟩, .string ⟨#[]⟩, .int .i64 0, .slice none 0 0]) := by rw [← HWX.out]; exact G3.out
          have KX : Hid (Below w.heap.size w WX) := by rw [← HWX.out]; exact L3.out
          go_upto_region 19 with fail
          rw [HWX.out];clear C3 G3 L3 HWX;have HLN : Hid (([] : List SR).length = 0) := rfl;have HLS : Hid (∀ i, i < ([] : List SR).length → (sT [] i).size ≤ 1048576) := fun i hi => absurd hi (Nat.not_lt_zero _);have OX : Hid (WX.ownsRow (w.heap.size + 1) 69 5 (.slice none 0 0) 0 (QC srC [])) := World.ownsRow_nil _ _ _ _;cases hse : s.toList.isEmpty
          rotate_left
          · have HF : Hid (rcB s = false) := rs_empty hse
            go_wp2_with (first
                | (refine stoB BX0.out [.int .i64 0, .string ⟨#[]⟩, .string ⟨#[]⟩, .int .i64 0, .slice none 0 0] (by simp) rfl 45 _ _ rfl rfl rfl infoCm5 rfl ?_; intro Y hBY hbY hzY hkY; have d0 := (hBY 0 _ rfl).1; have d1 := (hBY 1 _ rfl).1; have d2 := (hBY 2 _ rfl).1; have d3 := (hBY 3 _ rfl).1; have d4 := (hBY 4 _ rfl).1; have KY : Hid (Below w.heap.size w Y) := KX.out.trans hbY; clear hBY hbY hzY hkY)
                | fail)
            clear hse;refine bodyPost_ret (v := .tuple #[.agg #[.int .i64 0, .string ⟨#[]⟩, .string ⟨#[]⟩, .int .i64 0, .slice none 0 0], .bool false]) ?_ rfl ⟨post_no HF.out rfl, KY.out⟩;simp (maxDischargeDepth := 9) [results, Tryz.results27, go_sem, *]
          have e0 := (CX.out 0 _ rfl).1;have e1 := (CX.out 1 _ rfl).1;have e2 := (CX.out 2 _ rfl).1;have e3 := (CX.out 3 _ rfl).1;have e4 := (CX.out 4 _ rfl).1;go_wp2_with fail
          clear e0 e1 e2 e3 e4;refine (spec_CmdTextR 2 p ⟨#[]⟩ rb WX HSP.out HSQ.out HLN.out (ms_of_sr OX.out HLN.out (fun i hi => by have := HLS.out i hi; unfold maxLen; omega)) HLS.out).mono ?_;rintro e U ⟨rfl, hb⟩;obtain ⟨t, HT⟩ : ∃ t, Hid (cmL ⟨2, p, ⟨#[]⟩, rb, []⟩ = t) := ⟨_, rfl⟩;rw [HT.out];have CU : Hid (BX U b1 [.int .i64 2, .string p, .string ⟨#[]⟩, .int .i64 rb, .slice none 0 0]) := CX.out.below (by simp) hb;have BU : Hid (BX U w.heap.size [.int .i64 0, .string ⟨#[]⟩, .string ⟨#[]⟩, .int .i64 0, .slice none 0 0]) := BX0.out.below (by simp) hb
          have OU : Hid (U.ownsRow (w.heap.size + 1) 69 5 (.slice none 0 0) 0 (QC srC [])) := Qi OX.out hb;have KU : Hid (Below w.heap.size w U) := Qc KX.out hb;clear hb CX BX0 OX KX;cases hs9 : t.toList == s.toList
          · have HF : Hid (rcB s = false) := rs_no HC.out HT.out hs9
            go_wp2_with (first
                | (refine stoB BU.out [.int .i64 0, .string ⟨#[]⟩, .string ⟨#[]⟩, .int .i64 0, .slice none 0 0] (by simp) rfl 45 _ _ rfl rfl rfl infoCm5 rfl ?_; intro Y hBY hbY hzY hkY; have d0 := (hBY 0 _ rfl).1; have d1 := (hBY 1 _ rfl).1; have d2 := (hBY 2 _ rfl).1; have d3 := (hBY 3 _ rfl).1; have d4 := (hBY 4 _ rfl).1; have KY : Hid (Below w.heap.size w Y) := KU.out.trans hbY; clear hBY hbY hzY hkY)
                | fail)
            clear hs9 hse;refine bodyPost_ret (v := .tuple #[.agg #[.int .i64 0, .string ⟨#[]⟩, .string ⟨#[]⟩, .int .i64 0, .slice none 0 0], .bool false]) ?_ rfl ⟨post_no HF.out rfl, KY.out⟩;simp (maxDischargeDepth := 9) [results, Tryz.results27, go_sem, *]
          · have HF : Hid (rcB s = true ∧ cmI s.data.toList = ⟨2, p, ⟨#[]⟩, rb, []⟩) := rs_yes HC.out HT.out hse hs9
            go_wp2_with (first
                | (refine loaB CU.out [.int .i64 2, .string p, .string ⟨#[]⟩, .int .i64 rb, .slice none 0 0] (fun j hj => by rw [Nat.zero_add]) rfl 45 _ rfl rfl _ Tryz.underlying45 rfl infoCm5 ?_)
                | (refine stoB BU.out [.int .i64 2, .string p, .string ⟨#[]⟩, .int .i64 rb, .slice none 0 0] (by simp) rfl 45 _ _ rfl rfl rfl infoCm5 rfl ?_; intro Y hBY hbY hzY hkY; have d0 := (hBY 0 _ rfl).1; have d1 := (hBY 1 _ rfl).1; have d2 := (hBY 2 _ rfl).1; have d3 := (hBY 3 _ rfl).1; have d4 := (hBY 4 _ rfl).1; have KY : Hid (Below w.heap.size w Y) := KU.out.trans hbY; have OY : Hid (Y.ownsRow (w.heap.size + 1) 69 5 (.slice none 0 0) 0 (QC srC [])) := own_setC OU.out (by omega) hbY hzY hkY; clear hBY hbY hzY hkY)
                | fail)
            clear hs9 hse;refine bodyPost_ret (v := .tuple #[.agg #[.int .i64 2, .string p, .string ⟨#[]⟩, .int .i64 rb, .slice none 0 0], .bool true]) ?_ rfl ⟨post_yes HF.out.1 HF.out.2 HLN.out OY.out rfl, KY.out⟩;simp (maxDischargeDepth := 9) [results, Tryz.results27, go_sem, *]
        by_cases w3 : wd.data.toList = [109, 101, 114, 103, 101]
        · have HC : Hid (cmS s.data.toList = ⟨3, p, q, 0, []⟩) := by show _ = _; rw [HCM.out, if_neg w1, if_neg w2, if_pos w3]
          obtain rfl : wd = ⟨#[109, 101, 114, 103, 101]⟩ := by rw [← bs_self wd, w3]; rfl
          clear HCM w1 w2 w3;have HSP := HSP0;have HSQ := HSQ0
          go_upto_region 19 with (first
            | (refine stoB HCZ.out [.int .i64 3, .string p, .string q, .int .i64 0, .slice none 0 0] (by simp) rfl 45 _ _ rfl rfl rfl infoCm5 rfl ?_; intro WX hBY hbY hzY hkY; have CX : Hid (BX WX b1 [.int .i64 3, .string p, .string q, .int .i64 0, .slice none 0 0]) := hBY; have BX0 : Hid (BX WX w.heap.size [.int .i64 0, .string ⟨#[]⟩, .string ⟨#[]⟩, .int .i64 0, .slice none 0 0]) := HBZ.out.at (hkY _ hne2); have KX : Hid (Below w.heap.size w WX) := HKZ.out.trans (hbY.mono (by omega)); clear hBY hbY hzY hkY)
            | fail)
          clear HCZ HBZ HKZ;have HLN : Hid (([] : List SR).length = 0) := rfl;have HLS : Hid (∀ i, i < ([] : List SR).length → (sT [] i).size ≤ 1048576) := fun i hi => absurd hi (Nat.not_lt_zero _);have OX : Hid (WX.ownsRow (w.heap.size + 1) 69 5 (.slice none 0 0) 0 (QC srC [])) := World.ownsRow_nil _ _ _ _;cases hse : s.toList.isEmpty
          rotate_left
          · have HF : Hid (rcB s = false) := rs_empty hse
            go_wp2_with (first
                | (refine stoB BX0.out [.int .i64 0, .string ⟨#[]⟩, .string ⟨#[]⟩, .int .i64 0, .slice none 0 0] (by simp) rfl 45 _ _ rfl rfl rfl infoCm5 rfl ?_; intro Y hBY hbY hzY hkY; have d0 := (hBY 0 _ rfl).1; have d1 := (hBY 1 _ rfl).1; have d2 := (hBY 2 _ rfl).1; have d3 := (hBY 3 _ rfl).1; have d4 := (hBY 4 _ rfl).1; have KY : Hid (Below w.heap.size w Y) := KX.out.trans hbY; clear hBY hbY hzY hkY)
                | fail)
            clear hse;refine bodyPost_ret (v := .tuple #[.agg #[.int .i64 0, .string ⟨#[]⟩, .string ⟨#[]⟩, .int .i64 0, .slice none 0 0], .bool false]) ?_ rfl ⟨post_no HF.out rfl, KY.out⟩;simp (maxDischargeDepth := 9) [results, Tryz.results27, go_sem, *]
          have e0 := (CX.out 0 _ rfl).1;have e1 := (CX.out 1 _ rfl).1;have e2 := (CX.out 2 _ rfl).1;have e3 := (CX.out 3 _ rfl).1;have e4 := (CX.out 4 _ rfl).1;go_wp2_with fail
          clear e0 e1 e2 e3 e4;refine (spec_CmdTextR 3 p q 0 WX HSP.out HSQ.out HLN.out (ms_of_sr OX.out HLN.out (fun i hi => by have := HLS.out i hi; unfold maxLen; omega)) HLS.out).mono ?_;rintro e U ⟨rfl, hb⟩;obtain ⟨t, HT⟩ : ∃ t, Hid (cmL ⟨3, p, q, 0, []⟩ = t) := ⟨_, rfl⟩;rw [HT.out];have CU : Hid (BX U b1 [.int .i64 3, .string p, .string q, .int .i64 0, .slice none 0 0]) := CX.out.below (by simp) hb;have BU : Hid (BX U w.heap.size [.int .i64 0, .string ⟨#[]⟩, .string ⟨#[]⟩, .int .i64 0, .slice none 0 0]) := BX0.out.below (by simp) hb
          have OU : Hid (U.ownsRow (w.heap.size + 1) 69 5 (.slice none 0 0) 0 (QC srC [])) := Qi OX.out hb;have KU : Hid (Below w.heap.size w U) := Qc KX.out hb;clear hb CX BX0 OX KX;cases hs9 : t.toList == s.toList
          · have HF : Hid (rcB s = false) := rs_no HC.out HT.out hs9
            go_wp2_with (first
                | (refine stoB BU.out [.int .i64 0, .string ⟨#[]⟩, .string ⟨#[]⟩, .int .i64 0, .slice none 0 0] (by simp) rfl 45 _ _ rfl rfl rfl infoCm5 rfl ?_; intro Y hBY hbY hzY hkY; have d0 := (hBY 0 _ rfl).1; have d1 := (hBY 1 _ rfl).1; have d2 := (hBY 2 _ rfl).1; have d3 := (hBY 3 _ rfl).1; have d4 := (hBY 4 _ rfl).1; have KY : Hid (Below w.heap.size w Y) := KU.out.trans hbY; clear hBY hbY hzY hkY)
                | fail)
            clear hs9 hse;refine bodyPost_ret (v := .tuple #[.agg #[.int .i64 0, .string ⟨#[]⟩, .string ⟨#[]⟩, .int .i64 0, .slice none 0 0], .bool false]) ?_ rfl ⟨post_no HF.out rfl, KY.out⟩;simp (maxDischargeDepth := 9) [results, Tryz.results27, go_sem, *]
          · have HF : Hid (rcB s = true ∧ cmI s.data.toList = ⟨3, p, q, 0, []⟩) := rs_yes HC.out HT.out hse hs9
            go_wp2_with (first
                | (refine loaB CU.out [.int .i64 3, .string p, .string q, .int .i64 0, .slice none 0 0] (fun j hj => by rw [Nat.zero_add]) rfl 45 _ rfl rfl _ Tryz.underlying45 rfl infoCm5 ?_)
                | (refine stoB BU.out [.int .i64 3, .string p, .string q, .int .i64 0, .slice none 0 0] (by simp) rfl 45 _ _ rfl rfl rfl infoCm5 rfl ?_; intro Y hBY hbY hzY hkY; have d0 := (hBY 0 _ rfl).1; have d1 := (hBY 1 _ rfl).1; have d2 := (hBY 2 _ rfl).1; have d3 := (hBY 3 _ rfl).1; have d4 := (hBY 4 _ rfl).1; have KY : Hid (Below w.heap.size w Y) := KU.out.trans hbY; have OY : Hid (Y.ownsRow (w.heap.size + 1) 69 5 (.slice none 0 0) 0 (QC srC [])) := own_setC OU.out (by omega) hbY hzY hkY; clear hBY hbY hzY hkY)
                | fail)
            clear hs9 hse;refine bodyPost_ret (v := .tuple #[.agg #[.int .i64 3, .string p, .string q, .int .i64 0, .slice none 0 0], .bool true]) ?_ rfl ⟨post_yes HF.out.1 HF.out.2 HLN.out OY.out rfl, KY.out⟩;simp (maxDischargeDepth := 9) [results, Tryz.results27, go_sem, *]
        by_cases w4 : wd.data.toList = [115, 119, 101, 101, 112]
        · have HC : Hid (cmS s.data.toList = ⟨4, ⟨#[]⟩, ⟨#[]⟩, 0, []⟩) := by show _ = _; rw [HCM.out, if_neg w1, if_neg w2, if_neg w3, if_pos w4]
          obtain rfl : wd = ⟨#[115, 119, 101, 101, 112]⟩ := by rw [← bs_self wd, w4]; rfl
          clear HCM w1 w2 w3 w4;have HSP := HE0;have HSQ := HE0;have c0 := (HCZ.out 0 _ rfl).1;have g0 := (HCZ.out 0 _ rfl).2;obtain ⟨WX, HV⟩ : ∃ X, Hid (Z2.setCell ⟨b1, 0, none⟩ (.int .i64 4) = X) := ⟨_, rfl⟩;have CX : Hid (BX WX b1 [.int .i64 4, .string ⟨#[]⟩, .string ⟨#[]⟩, .int .i64 0, .slice none 0 0]) := by rw [← HV.out]; exact HCZ.out.set 0 _ (by simp)
          have BX0 : Hid (BX WX w.heap.size [.int .i64 0, .string ⟨#[]⟩, .string ⟨#[]⟩, .int .i64 0, .slice none 0 0]) := by rw [← HV.out]; exact HBZ.out.at (Below.heap_setCell _ _ _ _ hne2)
          have KX : Hid (Below w.heap.size w WX) := by rw [← HV.out]; exact HKZ.out.setCell (p := ⟨b1, 0, none⟩) (Nat.le_of_lt hlt1) _
          go_upto_region 19 with fail
          rw [HV.out];clear c0 g0 HCZ HBZ HKZ HV;have HLN : Hid (([] : List SR).length = 0) := rfl;have HLS : Hid (∀ i, i < ([] : List SR).length → (sT [] i).size ≤ 1048576) := fun i hi => absurd hi (Nat.not_lt_zero _);have OX : Hid (WX.ownsRow (w.heap.size + 1) 69 5 (.slice none 0 0) 0 (QC srC [])) := World.ownsRow_nil _ _ _ _;cases hse : s.toList.isEmpty
          rotate_left
          · have HF : Hid (rcB s = false) := rs_empty hse
            go_wp2_with (first
                | (refine stoB BX0.out [.int .i64 0, .string ⟨#[]⟩, .string ⟨#[]⟩, .int .i64 0, .slice none 0 0] (by simp) rfl 45 _ _ rfl rfl rfl infoCm5 rfl ?_; intro Y hBY hbY hzY hkY; have d0 := (hBY 0 _ rfl).1; have d1 := (hBY 1 _ rfl).1; have d2 := (hBY 2 _ rfl).1; have d3 := (hBY 3 _ rfl).1; have d4 := (hBY 4 _ rfl).1; have KY : Hid (Below w.heap.size w Y) := KX.out.trans hbY; clear hBY hbY hzY hkY)
                | fail)
            clear hse;refine bodyPost_ret (v := .tuple #[.agg #[.int .i64 0, .string ⟨#[]⟩, .string ⟨#[]⟩, .int .i64 0, .slice none 0 0], .bool false]) ?_ rfl ⟨post_no HF.out rfl, KY.out⟩;simp (maxDischargeDepth := 9) [results, Tryz.results27, go_sem, *]
          have e0 := (CX.out 0 _ rfl).1;have e1 := (CX.out 1 _ rfl).1;have e2 := (CX.out 2 _ rfl).1;have e3 := (CX.out 3 _ rfl).1;have e4 := (CX.out 4 _ rfl).1;go_wp2_with fail
          clear e0 e1 e2 e3 e4;refine (spec_CmdTextR 4 ⟨#[]⟩ ⟨#[]⟩ 0 WX HSP.out HSQ.out HLN.out (ms_of_sr OX.out HLN.out (fun i hi => by have := HLS.out i hi; unfold maxLen; omega)) HLS.out).mono ?_;rintro e U ⟨rfl, hb⟩;obtain ⟨t, HT⟩ : ∃ t, Hid (cmL ⟨4, ⟨#[]⟩, ⟨#[]⟩, 0, []⟩ = t) := ⟨_, rfl⟩;rw [HT.out];have CU : Hid (BX U b1 [.int .i64 4, .string ⟨#[]⟩, .string ⟨#[]⟩, .int .i64 0, .slice none 0 0]) := CX.out.below (by simp) hb;have BU : Hid (BX U w.heap.size [.int .i64 0, .string ⟨#[]⟩, .string ⟨#[]⟩, .int .i64 0, .slice none 0 0]) := BX0.out.below (by simp) hb
          have OU : Hid (U.ownsRow (w.heap.size + 1) 69 5 (.slice none 0 0) 0 (QC srC [])) := Qi OX.out hb;have KU : Hid (Below w.heap.size w U) := Qc KX.out hb;clear hb CX BX0 OX KX;cases hs9 : t.toList == s.toList
          · have HF : Hid (rcB s = false) := rs_no HC.out HT.out hs9
            go_wp2_with (first
                | (refine stoB BU.out [.int .i64 0, .string ⟨#[]⟩, .string ⟨#[]⟩, .int .i64 0, .slice none 0 0] (by simp) rfl 45 _ _ rfl rfl rfl infoCm5 rfl ?_; intro Y hBY hbY hzY hkY; have d0 := (hBY 0 _ rfl).1; have d1 := (hBY 1 _ rfl).1; have d2 := (hBY 2 _ rfl).1; have d3 := (hBY 3 _ rfl).1; have d4 := (hBY 4 _ rfl).1; have KY : Hid (Below w.heap.size w Y) := KU.out.trans hbY; clear hBY hbY hzY hkY)
                | fail)
            clear hs9 hse;refine bodyPost_ret (v := .tuple #[.agg #[.int .i64 0, .string ⟨#[]⟩, .string ⟨#[]⟩, .int .i64 0, .slice none 0 0], .bool false]) ?_ rfl ⟨post_no HF.out rfl, KY.out⟩;simp (maxDischargeDepth := 9) [results, Tryz.results27, go_sem, *]
          · have HF : Hid (rcB s = true ∧ cmI s.data.toList = ⟨4, ⟨#[]⟩, ⟨#[]⟩, 0, []⟩) := rs_yes HC.out HT.out hse hs9
            go_wp2_with (first
                | (refine loaB CU.out [.int .i64 4, .string ⟨#[]⟩, .string ⟨#[]⟩, .int .i64 0, .slice none 0 0] (fun j hj => by rw [Nat.zero_add]) rfl 45 _ rfl rfl _ Tryz.underlying45 rfl infoCm5 ?_)
                | (refine stoB BU.out [.int .i64 4, .string ⟨#[]⟩, .string ⟨#[]⟩, .int .i64 0, .slice none 0 0] (by simp) rfl 45 _ _ rfl rfl rfl infoCm5 rfl ?_; intro Y hBY hbY hzY hkY; have d0 := (hBY 0 _ rfl).1; have d1 := (hBY 1 _ rfl).1; have d2 := (hBY 2 _ rfl).1; have d3 := (hBY 3 _ rfl).1; have d4 := (hBY 4 _ rfl).1; have KY : Hid (Below w.heap.size w Y) := KU.out.trans hbY; have OY : Hid (Y.ownsRow (w.heap.size + 1) 69 5 (.slice none 0 0) 0 (QC srC [])) := own_setC OU.out (by omega) hbY hzY hkY; clear hBY hbY hzY hkY)
                | fail)
            clear hs9 hse;refine bodyPost_ret (v := .tuple #[.agg #[.int .i64 4, .string ⟨#[]⟩, .string ⟨#[]⟩, .int .i64 0, .slice none 0 0], .bool true]) ?_ rfl ⟨post_yes HF.out.1 HF.out.2 HLN.out OY.out rfl, KY.out⟩;simp (maxDischargeDepth := 9) [results, Tryz.results27, go_sem, *]
        · have HC : Hid (cmS s.data.toList = ⟨0, ⟨#[]⟩, ⟨#[]⟩, 0, []⟩) := by show _ = _; rw [HCM.out, if_neg w1, if_neg w2, if_neg w3, if_neg w4]
          have v1 := ne_lit (y := ⟨#[114, 117, 110]⟩) rfl w1;have x1 : (wd.toList == [114, 117, 110]) = false := by rw [ByteArray.toList_eq]; simpa using w1
          have v2 := ne_lit (y := ⟨#[98, 114, 97, 110, 99, 104]⟩) rfl w2;have x2 : (wd.toList == [98, 114, 97, 110, 99, 104]) = false := by rw [ByteArray.toList_eq]; simpa using w2
          have v3 := ne_lit (y := ⟨#[109, 101, 114, 103, 101]⟩) rfl w3;have x3 : (wd.toList == [109, 101, 114, 103, 101]) = false := by rw [ByteArray.toList_eq]; simpa using w3
          have v4 := ne_lit (y := ⟨#[115, 119, 101, 101, 112]⟩) rfl w4;have x4 : (wd.toList == [115, 119, 101, 101, 112]) = false := by rw [ByteArray.toList_eq]; simpa using w4
          clear HCM w1 w2 w3 w4;have HSP := HE0;have HSQ := HE0;go_upto_region 19 with fail
          clear v1 v2 v3 v4 x1 x2 x3 x4;obtain ⟨WX, HWX⟩ : ∃ X, Hid (Z2 = X) := ⟨_, rfl⟩;have CX : Hid (BX WX b1 [.int .i64 0, .string ⟨#[]⟩, .string ⟨#[]⟩, .int .i64 0, .slice none 0 0]) := by rw [← HWX.out]; exact HCZ.out
          have BX0 : Hid (BX WX w.heap.size [.int .i64 0, .string ⟨#[]⟩, .string ⟨#[]⟩, .int .i64 0, .slice none 0 0]) := by rw [← HWX.out]; exact HBZ.out
          have KX : Hid (Below w.heap.size w WX) := by rw [← HWX.out]; exact HKZ.out
          rw [HWX.out];clear HCZ HBZ HKZ HWX;have HLN : Hid (([] : List SR).length = 0) := rfl;have HLS : Hid (∀ i, i < ([] : List SR).length → (sT [] i).size ≤ 1048576) := fun i hi => absurd hi (Nat.not_lt_zero _);have OX : Hid (WX.ownsRow (w.heap.size + 1) 69 5 (.slice none 0 0) 0 (QC srC [])) := World.ownsRow_nil _ _ _ _;cases hse : s.toList.isEmpty
          rotate_left
          · have HF : Hid (rcB s = false) := rs_empty hse
            go_wp2_with (first
                | (refine stoB BX0.out [.int .i64 0, .string ⟨#[]⟩, .string ⟨#[]⟩, .int .i64 0, .slice none 0 0] (by simp) rfl 45 _ _ rfl rfl rfl infoCm5 rfl ?_; intro Y hBY hbY hzY hkY; have d0 := (hBY 0 _ rfl).1; have d1 := (hBY 1 _ rfl).1; have d2 := (hBY 2 _ rfl).1; have d3 := (hBY 3 _ rfl).1; have d4 := (hBY 4 _ rfl).1; have KY : Hid (Below w.heap.size w Y) := KX.out.trans hbY; clear hBY hbY hzY hkY)
                | fail)
            clear hse;refine bodyPost_ret (v := .tuple #[.agg #[.int .i64 0, .string ⟨#[]⟩, .string ⟨#[]⟩, .int .i64 0, .slice none 0 0], .bool false]) ?_ rfl ⟨post_no HF.out rfl, KY.out⟩;simp (maxDischargeDepth := 9) [results, Tryz.results27, go_sem, *]
          have e0 := (CX.out 0 _ rfl).1;have e1 := (CX.out 1 _ rfl).1;have e2 := (CX.out 2 _ rfl).1;have e3 := (CX.out 3 _ rfl).1;have e4 := (CX.out 4 _ rfl).1;go_wp2_with fail
          clear e0 e1 e2 e3 e4;refine (spec_CmdTextR 0 ⟨#[]⟩ ⟨#[]⟩ 0 WX HSP.out HSQ.out HLN.out (ms_of_sr OX.out HLN.out (fun i hi => by have := HLS.out i hi; unfold maxLen; omega)) HLS.out).mono ?_;rintro e U ⟨rfl, hb⟩;obtain ⟨t, HT⟩ : ∃ t, Hid (cmL ⟨0, ⟨#[]⟩, ⟨#[]⟩, 0, []⟩ = t) := ⟨_, rfl⟩;rw [HT.out];have CU : Hid (BX U b1 [.int .i64 0, .string ⟨#[]⟩, .string ⟨#[]⟩, .int .i64 0, .slice none 0 0]) := CX.out.below (by simp) hb;have BU : Hid (BX U w.heap.size [.int .i64 0, .string ⟨#[]⟩, .string ⟨#[]⟩, .int .i64 0, .slice none 0 0]) := BX0.out.below (by simp) hb
          have OU : Hid (U.ownsRow (w.heap.size + 1) 69 5 (.slice none 0 0) 0 (QC srC [])) := Qi OX.out hb;have KU : Hid (Below w.heap.size w U) := Qc KX.out hb;clear hb CX BX0 OX KX;cases hs9 : t.toList == s.toList
          · have HF : Hid (rcB s = false) := rs_no HC.out HT.out hs9
            go_wp2_with (first
                | (refine stoB BU.out [.int .i64 0, .string ⟨#[]⟩, .string ⟨#[]⟩, .int .i64 0, .slice none 0 0] (by simp) rfl 45 _ _ rfl rfl rfl infoCm5 rfl ?_; intro Y hBY hbY hzY hkY; have d0 := (hBY 0 _ rfl).1; have d1 := (hBY 1 _ rfl).1; have d2 := (hBY 2 _ rfl).1; have d3 := (hBY 3 _ rfl).1; have d4 := (hBY 4 _ rfl).1; have KY : Hid (Below w.heap.size w Y) := KU.out.trans hbY; clear hBY hbY hzY hkY)
                | fail)
            clear hs9 hse;refine bodyPost_ret (v := .tuple #[.agg #[.int .i64 0, .string ⟨#[]⟩, .string ⟨#[]⟩, .int .i64 0, .slice none 0 0], .bool false]) ?_ rfl ⟨post_no HF.out rfl, KY.out⟩;simp (maxDischargeDepth := 9) [results, Tryz.results27, go_sem, *]
          · have HF : Hid (rcB s = true ∧ cmI s.data.toList = ⟨0, ⟨#[]⟩, ⟨#[]⟩, 0, []⟩) := rs_yes HC.out HT.out hse hs9
            go_wp2_with (first
                | (refine loaB CU.out [.int .i64 0, .string ⟨#[]⟩, .string ⟨#[]⟩, .int .i64 0, .slice none 0 0] (fun j hj => by rw [Nat.zero_add]) rfl 45 _ rfl rfl _ Tryz.underlying45 rfl infoCm5 ?_)
                | (refine stoB BU.out [.int .i64 0, .string ⟨#[]⟩, .string ⟨#[]⟩, .int .i64 0, .slice none 0 0] (by simp) rfl 45 _ _ rfl rfl rfl infoCm5 rfl ?_; intro Y hBY hbY hzY hkY; have d0 := (hBY 0 _ rfl).1; have d1 := (hBY 1 _ rfl).1; have d2 := (hBY 2 _ rfl).1; have d3 := (hBY 3 _ rfl).1; have d4 := (hBY 4 _ rfl).1; have KY : Hid (Below w.heap.size w Y) := KU.out.trans hbY; have OY : Hid (Y.ownsRow (w.heap.size + 1) 69 5 (.slice none 0 0) 0 (QC srC [])) := own_setC OU.out (by omega) hbY hzY hkY; clear hBY hbY hzY hkY)
                | fail)
            clear hs9 hse;refine bodyPost_ret (v := .tuple #[.agg #[.int .i64 0, .string ⟨#[]⟩, .string ⟨#[]⟩, .int .i64 0, .slice none 0 0], .bool true]) ?_ rfl ⟨post_yes HF.out.1 HF.out.2 HLN.out OY.out rfl, KY.out⟩;simp (maxDischargeDepth := 9) [results, Tryz.results27, go_sem, *]
      · have HL2 : Hid (∀ j, (hj : j < k + 1) → s[j]'(by omega) ≠ 10) := fun j hj => by
          by_cases e : j = k
          · subst e; exact hb
          · exact HR.out j (by omega)
        have h10 : ¬ (s[k].toNat : Int) = 10 := fun e => hb (by apply UInt8.toNat_inj.1; show s[k].toNat = 10; omega);clear hb;go_wp2_with fail
        go_round
        case rel => exact ⟨k + 1, by omega, by go_num, HL2.out⟩
        case measure => simp [intOf]; omega
    · have hlt' : ¬ (k : Int) < (s.size : Int) := by omega
      obtain rfl : k = s.size := by omega
      have HQ10 : Hid (bs (cw 10 s.data.toList) = s ∧ bs (cr 10 s.data.toList) = ⟨#[]⟩) := Qqg HR.out;have HAX : Hid (s = la) := by show _ = _; rw [← HA.out, ← HL.out]; exact HQ10.out.1.symm
      have HSB : Hid (s.data.toList = cw 10 l) := by show _ = _; rw [← HLA.out, ← HAX.out]
      have HLT : Hid (¬ (cw 10 l).length < l.length) := by
        show ¬ _ < _;rw [HSL.out, ← bs_szC (cw 10 l), HA.out, ← HAX.out];omega
      clear HQ10 HR;go_upto_region 4 with fail
      have HCM : Hid (cmS s.data.toList = if wd.data.toList = [114, 117, 110] then ⟨2, p, ⟨#[]⟩, rb, []⟩
        else if wd.data.toList = [98, 114, 97, 110, 99, 104] then ⟨2, p, ⟨#[]⟩, rb, []⟩
        else if wd.data.toList = [109, 101, 114, 103, 101] then ⟨3, p, q, 0, []⟩
        else if wd.data.toList = [115, 119, 101, 101, 112] then ⟨4, ⟨#[]⟩, ⟨#[]⟩, 0, []⟩ else ⟨0, ⟨#[]⟩, ⟨#[]⟩, 0, []⟩) := by
        show _ = _;rw [← HRB.out, ← HW.out, ← HP.out, ← HQ.out, HL.out];unfold cmS;rw [if_neg HLT.out];rfl
      go_wp2_with fail
      refine (Qn5 s X0 hs).mono ?_;rintro e X1 ⟨rfl, hb⟩;rw [HSB.out, HW.out, HY.out];have B1 : Hid (BX X1 w.heap.size [.int .i64 0, .string ⟨#[]⟩, .string ⟨#[]⟩, .int .i64 0, .slice none 0 0]) := B0.out.below (by simp) hb;have K1 : Hid (Below w.heap.size w X1) := Qc K0.out hb;clear hb B0 K0 HLA;obtain ⟨b1, HB1⟩ : ∃ b1, Hid (X1.heap.size = b1) := ⟨_, rfl⟩
      have hlt1 : w.heap.size < b1 := by have := B1.out.lt (by simp); have := HB1.out; omega
      have hne1 : ¬ b1 = w.heap.size := by omega
      have hne2 : ¬ w.heap.size = b1 := by omega
      have KZ1 : Hid (Below X1.heap.size X1 (X1.alloc (.cells #[.int .i64 0, .string ⟨#[]⟩, .string ⟨#[]⟩, .int .i64 0, .slice none 0 0] 45))) := (Below.refl _ _).alloc (Nat.le_refl _) _;have NZ1 : Hid (BX (X1.alloc (.cells #[.int .i64 0, .string ⟨#[]⟩, .string ⟨#[]⟩, .int .i64 0, .slice none 0 0] 45)) X1.heap.size [.int .i64 0, .string ⟨#[]⟩, .string ⟨#[]⟩, .int .i64 0, .slice none 0 0]) := bx_new X1 _ _
      go_upto_region 6 with (first
        | (refine stoB NZ1.out [.int .i64 0, .string ⟨#[]⟩, .string ⟨#[]⟩, .int .i64 0, .slice none 0 0] (by simp) rfl 45 _ _ rfl rfl rfl infoCm5 rfl ?_; intro Z hBY hbY hzY hkY; have CZ : Hid (BX Z b1 [.int .i64 0, .string ⟨#[]⟩, .string ⟨#[]⟩, .int .i64 0, .slice none 0 0]) := by rw [← HB1.out]; exact hBY
           have BZ : Hid (BX Z w.heap.size [.int .i64 0, .string ⟨#[]⟩, .string ⟨#[]⟩, .int .i64 0, .slice none 0 0]) := (B1.out.below (by simp) KZ1.out).at (hkY _ (by rw [HB1.out]; exact hne2));have KZ : Hid (Below w.heap.size w Z) := (Qc K1.out KZ1.out).trans (hbY.mono (by rw [HB1.out]; omega))
           clear hBY hbY hzY hkY)
        | fail)
      rw [HB1.out];clear B1 K1 KZ1 NZ1;go_wp2_with fail
      refine (Qn5 ws Z zws).mono ?_;rintro e Z2 ⟨rfl, hb⟩;rw [HWS.out, HP.out, HQ.out];have HCZ : Hid (BX Z2 b1 [.int .i64 0, .string ⟨#[]⟩, .string ⟨#[]⟩, .int .i64 0, .slice none 0 0]) := CZ.out.below (by simp) hb;have HBZ : Hid (BX Z2 w.heap.size [.int .i64 0, .string ⟨#[]⟩, .string ⟨#[]⟩, .int .i64 0, .slice none 0 0]) := BZ.out.below (by simp) hb;have HKZ : Hid (Below w.heap.size w Z2) := Qc KZ.out hb;clear hb CZ BZ KZ HWS
      go_upto_region 7 with fail
      have HSP0 : Hid (p.size ≤ maxLen) := by show _ ≤ _; unfold maxLen; omega
      have HSQ0 : Hid (q.size ≤ maxLen) := by show _ ≤ _; unfold maxLen; omega
      have HE0 : Hid ((⟨#[]⟩ : ByteArray).size ≤ maxLen) := Nat.zero_le _;have hlbZ : b1 < Z2.heap.size := HCZ.out.lt (by simp);by_cases w1 : wd.data.toList = [114, 117, 110]
      · have HC : Hid (cmS s.data.toList = ⟨2, p, ⟨#[]⟩, rb, []⟩) := by show _ = _; rw [HCM.out, if_pos w1]
        obtain rfl : wd = ⟨#[114, 117, 110]⟩ := by rw [← bs_self wd, w1]; rfl
        clear HCM w1;have HSP := HSP0;have HSQ := HE0
        go_upto_region 11 with (first
          | (refine stoB HCZ.out [.int .i64 2, .string p, .string ⟨#[]⟩, .int .i64 0, .slice none 0 0] (by simp) rfl 45 _ _ rfl rfl rfl infoCm5 rfl ?_; intro Y1 hBY hbY hzY hkY; have uC : Hid (BX Y1 b1 [.int .i64 2, .string p, .string ⟨#[]⟩, .int .i64 0, .slice none 0 0]) := hBY; have uG : Hid (BX Y1 w.heap.size [.int .i64 0, .string ⟨#[]⟩, .string ⟨#[]⟩, .int .i64 0, .slice none 0 0]) := HBZ.out.at (hkY _ hne2); have uK : Hid (Below w.heap.size w Y1) := HKZ.out.trans (hbY.mono (by omega)); clear hBY hbY hzY hkY)
          | fail)
        clear HCZ HBZ HKZ;go_wp2_with fail
        refine (spec_l1Int10 q Y1 (by omega)).mono ?_;rintro e U ⟨rfl, hUU⟩;obtain rfl := hUU;unfold o16;rw [HRB.out];generalize (lX q.data.toList).isSome = z1
        have c3 := (uC.out 3 _ rfl).1;have g3 := (uC.out 3 _ rfl).2;obtain ⟨V, HV⟩ : ∃ X, Hid (U.setCell ⟨b1, 3, none⟩ (.int .i64 rb) = X) := ⟨_, rfl⟩;have C3 : Hid (BX V b1 [.int .i64 2, .string p, .string ⟨#[]⟩, .int .i64 rb, .slice none 0 0]) := by rw [← HV.out]; exact uC.out.set 3 _ (by simp)
        have G3 : Hid (BX V w.heap.size [.int .i64 0, .string ⟨#[]⟩, .string ⟨#[]⟩, .int .i64 0, .slice none 0 0]) := by rw [← HV.out]; exact uG.out.at (Below.heap_setCell _ _ _ _ hne2)
        have L3 : Hid (Below w.heap.size w V) := by rw [← HV.out]; exact uK.out.setCell (p := ⟨b1, 3, none⟩) (Nat.le_of_lt hlt1) _
        go_upto_region 12 with fail
        rw [HV.out];clear c3 g3 uC uG uK HV;obtain ⟨WX, HWX⟩ : ∃ X, Hid (V = X) := ⟨_, rfl⟩;have CX : Hid (BX WX b1 [.int .i64 2, .string p, .string ⟨#[]⟩, .int .i64 rb, .slice none 0 0]) := by rw [← HWX.out]; exact C3.out
        have BX0 : Hid (BX WX w.heap.size [.int .i64 0, .string ⟨#[]⟩, .string ⟨#[]⟩, .int .i64 0, .slice none 0 0]) := by rw [← HWX.out]; exact G3.out
        have KX : Hid (Below w.heap.size w WX) := by rw [← HWX.out]; exact L3.out
        go_upto_region 19 with fail
        rw [HWX.out];clear C3 G3 L3 HWX;have HLN : Hid (([] : List SR).length = 0) := rfl;have HLS : Hid (∀ i, i < ([] : List SR).length → (sT [] i).size ≤ 1048576) := fun i hi => absurd hi (Nat.not_lt_zero _);have OX : Hid (WX.ownsRow (w.heap.size + 1) 69 5 (.slice none 0 0) 0 (QC srC [])) := World.ownsRow_nil _ _ _ _;cases hse : s.toList.isEmpty
        rotate_left
        · have HF : Hid (rcB s = false) := rs_empty hse
          go_wp2_with (first
              | (refine stoB BX0.out [.int .i64 0, .string ⟨#[]⟩, .string ⟨#[]⟩, .int .i64 0, .slice none 0 0] (by simp) rfl 45 _ _ rfl rfl rfl infoCm5 rfl ?_; intro Y hBY hbY hzY hkY; have d0 := (hBY 0 _ rfl).1; have d1 := (hBY 1 _ rfl).1; have d2 := (hBY 2 _ rfl).1; have d3 := (hBY 3 _ rfl).1; have d4 := (hBY 4 _ rfl).1; have KY : Hid (Below w.heap.size w Y) := KX.out.trans hbY; clear hBY hbY hzY hkY)
              | fail)
          clear hse;refine bodyPost_ret (v := .tuple #[.agg #[.int .i64 0, .string ⟨#[]⟩, .string ⟨#[]⟩, .int .i64 0, .slice none 0 0], .bool false]) ?_ rfl ⟨post_no HF.out rfl, KY.out⟩;simp (maxDischargeDepth := 9) [results, Tryz.results27, go_sem, *]
        have e0 := (CX.out 0 _ rfl).1;have e1 := (CX.out 1 _ rfl).1;have e2 := (CX.out 2 _ rfl).1;have e3 := (CX.out 3 _ rfl).1;have e4 := (CX.out 4 _ rfl).1;go_wp2_with fail
        clear e0 e1 e2 e3 e4;refine (spec_CmdTextR 2 p ⟨#[]⟩ rb WX HSP.out HSQ.out HLN.out (ms_of_sr OX.out HLN.out (fun i hi => by have := HLS.out i hi; unfold maxLen; omega)) HLS.out).mono ?_;rintro e U ⟨rfl, hb⟩;obtain ⟨t, HT⟩ : ∃ t, Hid (cmL ⟨2, p, ⟨#[]⟩, rb, []⟩ = t) := ⟨_, rfl⟩;rw [HT.out];have CU : Hid (BX U b1 [.int .i64 2, .string p, .string ⟨#[]⟩, .int .i64 rb, .slice none 0 0]) := CX.out.below (by simp) hb;have BU : Hid (BX U w.heap.size [.int .i64 0, .string ⟨#[]⟩, .string ⟨#[]⟩, .int .i64 0, .slice none 0 0]) := BX0.out.below (by simp) hb
        have OU : Hid (U.ownsRow (w.heap.size + 1) 69 5 (.slice none 0 0) 0 (QC srC [])) := Qi OX.out hb;have KU : Hid (Below w.heap.size w U) := Qc KX.out hb;clear hb CX BX0 OX KX;cases hs9 : t.toList == s.toList
        · have HF : Hid (rcB s = false) := rs_no HC.out HT.out hs9
          go_wp2_with (first
              | (refine stoB BU.out [.int .i64 0, .string ⟨#[]⟩, .string ⟨#[]⟩, .int .i64 0, .slice none 0 0] (by simp) rfl 45 _ _ rfl rfl rfl infoCm5 rfl ?_; intro Y hBY hbY hzY hkY; have d0 := (hBY 0 _ rfl).1; have d1 := (hBY 1 _ rfl).1; have d2 := (hBY 2 _ rfl).1; have d3 := (hBY 3 _ rfl).1; have d4 := (hBY 4 _ rfl).1; have KY : Hid (Below w.heap.size w Y) := KU.out.trans hbY; clear hBY hbY hzY hkY)
              | fail)
          clear hs9 hse;refine bodyPost_ret (v := .tuple #[.agg #[.int .i64 0, .string ⟨#[]⟩, .string ⟨#[]⟩, .int .i64 0, .slice none 0 0], .bool false]) ?_ rfl ⟨post_no HF.out rfl, KY.out⟩;simp (maxDischargeDepth := 9) [results, Tryz.results27, go_sem, *]
        · have HF : Hid (rcB s = true ∧ cmI s.data.toList = ⟨2, p, ⟨#[]⟩, rb, []⟩) := rs_yes HC.out HT.out hse hs9
          go_wp2_with (first
              | (refine loaB CU.out [.int .i64 2, .string p, .string ⟨#[]⟩, .int .i64 rb, .slice none 0 0] (fun j hj => by rw [Nat.zero_add]) rfl 45 _ rfl rfl _ Tryz.underlying45 rfl infoCm5 ?_)
              | (refine stoB BU.out [.int .i64 2, .string p, .string ⟨#[]⟩, .int .i64 rb, .slice none 0 0] (by simp) rfl 45 _ _ rfl rfl rfl infoCm5 rfl ?_; intro Y hBY hbY hzY hkY; have d0 := (hBY 0 _ rfl).1; have d1 := (hBY 1 _ rfl).1; have d2 := (hBY 2 _ rfl).1; have d3 := (hBY 3 _ rfl).1; have d4 := (hBY 4 _ rfl).1; have KY : Hid (Below w.heap.size w Y) := KU.out.trans hbY; have OY : Hid (Y.ownsRow (w.heap.size + 1) 69 5 (.slice none 0 0) 0 (QC srC [])) := own_setC OU.out (by omega) hbY hzY hkY; clear hBY hbY hzY hkY)
              | fail)
          clear hs9 hse;refine bodyPost_ret (v := .tuple #[.agg #[.int .i64 2, .string p, .string ⟨#[]⟩, .int .i64 rb, .slice none 0 0], .bool true]) ?_ rfl ⟨post_yes HF.out.1 HF.out.2 HLN.out OY.out rfl, KY.out⟩;simp (maxDischargeDepth := 9) [results, Tryz.results27, go_sem, *]
      by_cases w2 : wd.data.toList = [98, 114, 97, 110, 99, 104]
      · have HC : Hid (cmS s.data.toList = ⟨2, p, ⟨#[]⟩, rb, []⟩) := by show _ = _; rw [HCM.out, if_neg w1, if_pos w2]
        obtain rfl : wd = ⟨#[98, 114, 97, 110, 99, 104]⟩ := by rw [← bs_self wd, w2]; rfl
        clear HCM w1 w2;have HSP := HSP0;have HSQ := HE0
        go_upto_region 11 with (first
          | (refine stoB HCZ.out [.int .i64 2, .string p, .string ⟨#[]⟩, .int .i64 0, .slice none 0 0] (by simp) rfl 45 _ _ rfl rfl rfl infoCm5 rfl ?_; intro Y1 hBY hbY hzY hkY; have uC : Hid (BX Y1 b1 [.int .i64 2, .string p, .string ⟨#[]⟩, .int .i64 0, .slice none 0 0]) := hBY; have uG : Hid (BX Y1 w.heap.size [.int .i64 0, .string ⟨#[]⟩, .string ⟨#[]⟩, .int .i64 0, .slice none 0 0]) := HBZ.out.at (hkY _ hne2); have uK : Hid (Below w.heap.size w Y1) := HKZ.out.trans (hbY.mono (by omega)); clear hBY hbY hzY hkY)
          | fail)
        clear HCZ HBZ HKZ;go_wp2_with fail
        refine (spec_l1Int10 q Y1 (by omega)).mono ?_;rintro e U ⟨rfl, hUU⟩;obtain rfl := hUU;unfold o16;rw [HRB.out];generalize (lX q.data.toList).isSome = z1
        have c3 := (uC.out 3 _ rfl).1;have g3 := (uC.out 3 _ rfl).2;obtain ⟨V, HV⟩ : ∃ X, Hid (U.setCell ⟨b1, 3, none⟩ (.int .i64 rb) = X) := ⟨_, rfl⟩;have C3 : Hid (BX V b1 [.int .i64 2, .string p, .string ⟨#[]⟩, .int .i64 rb, .slice none 0 0]) := by rw [← HV.out]; exact uC.out.set 3 _ (by simp)
        have G3 : Hid (BX V w.heap.size [.int .i64 0, .string ⟨#[]⟩, .string ⟨#[]⟩, .int .i64 0, .slice none 0 0]) := by rw [← HV.out]; exact uG.out.at (Below.heap_setCell _ _ _ _ hne2)
        have L3 : Hid (Below w.heap.size w V) := by rw [← HV.out]; exact uK.out.setCell (p := ⟨b1, 3, none⟩) (Nat.le_of_lt hlt1) _
        go_upto_region 12 with fail
        rw [HV.out];clear c3 g3 uC uG uK HV;obtain ⟨WX, HWX⟩ : ∃ X, Hid (V = X) := ⟨_, rfl⟩;have CX : Hid (BX WX b1 [.int .i64 2, .string p, .string ⟨#[]⟩, .int .i64 rb, .slice none 0 0]) := by rw [← HWX.out]; exact C3.out
        have BX0 : Hid (BX WX w.heap.size [.int .i64 0, .string ⟨#[]⟩, .string ⟨#[]⟩, .int .i64 0, .slice none 0 0]) := by rw [← HWX.out]; exact G3.out
        have KX : Hid (Below w.heap.size w WX) := by rw [← HWX.out]; exact L3.out
        go_upto_region 19 with fail
        rw [HWX.out];clear C3 G3 L3 HWX;have HLN : Hid (([] : List SR).length = 0) := rfl;have HLS : Hid (∀ i, i < ([] : List SR).length → (sT [] i).size ≤ 1048576) := fun i hi => absurd hi (Nat.not_lt_zero _);have OX : Hid (WX.ownsRow (w.heap.size + 1) 69 5 (.slice none 0 0) 0 (QC srC [])) := World.ownsRow_nil _ _ _ _;cases hse : s.toList.isEmpty
        rotate_left
        · have HF : Hid (rcB s = false) := rs_empty hse
          go_wp2_with (first
              | (refine stoB BX0.out [.int .i64 0, .string ⟨#[]⟩, .string ⟨#[]⟩, .int .i64 0, .slice none 0 0] (by simp) rfl 45 _ _ rfl rfl rfl infoCm5 rfl ?_; intro Y hBY hbY hzY hkY; have d0 := (hBY 0 _ rfl).1; have d1 := (hBY 1 _ rfl).1; have d2 := (hBY 2 _ rfl).1; have d3 := (hBY 3 _ rfl).1; have d4 := (hBY 4 _ rfl).1; have KY : Hid (Below w.heap.size w Y) := KX.out.trans hbY; clear hBY hbY hzY hkY)
              | fail)
          clear hse;refine bodyPost_ret (v := .tuple #[.agg #[.int .i64 0, .string ⟨#[]⟩, .string ⟨#[]⟩, .int .i64 0, .slice none 0 0], .bool false]) ?_ rfl ⟨post_no HF.out rfl, KY.out⟩;simp (maxDischargeDepth := 9) [results, Tryz.results27, go_sem, *]
        have e0 := (CX.out 0 _ rfl).1;have e1 := (CX.out 1 _ rfl).1;have e2 := (CX.out 2 _ rfl).1;have e3 := (CX.out 3 _ rfl).1;have e4 := (CX.out 4 _ rfl).1;go_wp2_with fail
        clear e0 e1 e2 e3 e4;refine (spec_CmdTextR 2 p ⟨#[]⟩ rb WX HSP.out HSQ.out HLN.out (ms_of_sr OX.out HLN.out (fun i hi => by have := HLS.out i hi; unfold maxLen; omega)) HLS.out).mono ?_;rintro e U ⟨rfl, hb⟩;obtain ⟨t, HT⟩ : ∃ t, Hid (cmL ⟨2, p, ⟨#[]⟩, rb, []⟩ = t) := ⟨_, rfl⟩;rw [HT.out];have CU : Hid (BX U b1 [.int .i64 2, .string p, .string ⟨#[]⟩, .int .i64 rb, .slice none 0 0]) := CX.out.below (by simp) hb;have BU : Hid (BX U w.heap.size [.int .i64 0, .string ⟨#[]⟩, .string ⟨#[]⟩, .int .i64 0, .slice none 0 0]) := BX0.out.below (by simp) hb
        have OU : Hid (U.ownsRow (w.heap.size + 1) 69 5 (.slice none 0 0) 0 (QC srC [])) := Qi OX.out hb;have KU : Hid (Below w.heap.size w U) := Qc KX.out hb;clear hb CX BX0 OX KX;cases hs9 : t.toList == s.toList
        · have HF : Hid (rcB s = false) := rs_no HC.out HT.out hs9
          go_wp2_with (first
              | (refine stoB BU.out [.int .i64 0, .string ⟨#[]⟩, .string ⟨#[]⟩, .int .i64 0, .slice none 0 0] (by simp) rfl 45 _ _ rfl rfl rfl infoCm5 rfl ?_; intro Y hBY hbY hzY hkY; have d0 := (hBY 0 _ rfl).1; have d1 := (hBY 1 _ rfl).1; have d2 := (hBY 2 _ rfl).1; have d3 := (hBY 3 _ rfl).1; have d4 := (hBY 4 _ rfl).1; have KY : Hid (Below w.heap.size w Y) := KU.out.trans hbY; clear hBY hbY hzY hkY)
              | fail)
          clear hs9 hse;refine bodyPost_ret (v := .tuple #[.agg #[.int .i64 0, .string ⟨#[]⟩, .string ⟨#[]⟩, .int .i64 0, .slice none 0 0], .bool false]) ?_ rfl ⟨post_no HF.out rfl, KY.out⟩;simp (maxDischargeDepth := 9) [results, Tryz.results27, go_sem, *]
        · have HF : Hid (rcB s = true ∧ cmI s.data.toList = ⟨2, p, ⟨#[]⟩, rb, []⟩) := rs_yes HC.out HT.out hse hs9
          go_wp2_with (first
              | (refine loaB CU.out [.int .i64 2, .string p, .string ⟨#[]⟩, .int .i64 rb, .slice none 0 0] (fun j hj => by rw [Nat.zero_add]) rfl 45 _ rfl rfl _ Tryz.underlying45 rfl infoCm5 ?_)
              | (refine stoB BU.out [.int .i64 2, .string p, .string ⟨#[]⟩, .int .i64 rb, .slice none 0 0] (by simp) rfl 45 _ _ rfl rfl rfl infoCm5 rfl ?_; intro Y hBY hbY hzY hkY; have d0 := (hBY 0 _ rfl).1; have d1 := (hBY 1 _ rfl).1; have d2 := (hBY 2 _ rfl).1; have d3 := (hBY 3 _ rfl).1; have d4 := (hBY 4 _ rfl).1; have KY : Hid (Below w.heap.size w Y) := KU.out.trans hbY; have OY : Hid (Y.ownsRow (w.heap.size + 1) 69 5 (.slice none 0 0) 0 (QC srC [])) := own_setC OU.out (by omega) hbY hzY hkY; clear hBY hbY hzY hkY)
              | fail)
          clear hs9 hse;refine bodyPost_ret (v := .tuple #[.agg #[.int .i64 2, .string p, .string ⟨#[]⟩, .int .i64 rb, .slice none 0 0], .bool true]) ?_ rfl ⟨post_yes HF.out.1 HF.out.2 HLN.out OY.out rfl, KY.out⟩;simp (maxDischargeDepth := 9) [results, Tryz.results27, go_sem, *]
      by_cases w3 : wd.data.toList = [109, 101, 114, 103, 101]
      · have HC : Hid (cmS s.data.toList = ⟨3, p, q, 0, []⟩) := by show _ = _; rw [HCM.out, if_neg w1, if_neg w2, if_pos w3]
        obtain rfl : wd = ⟨#[109, 101, 114, 103, 101]⟩ := by rw [← bs_self wd, w3]; rfl
        clear HCM w1 w2 w3;have HSP := HSP0;have HSQ := HSQ0
        go_upto_region 19 with (first
          | (refine stoB HCZ.out [.int .i64 3, .string p, .string q, .int .i64 0, .slice none 0 0] (by simp) rfl 45 _ _ rfl rfl rfl infoCm5 rfl ?_; intro WX hBY hbY hzY hkY; have CX : Hid (BX WX b1 [.int .i64 3, .string p, .string q, .int .i64 0, .slice none 0 0]) := hBY; have BX0 : Hid (BX WX w.heap.size [.int .i64 0, .string ⟨#[]⟩, .string ⟨#[]⟩, .int .i64 0, .slice none 0 0]) := HBZ.out.at (hkY _ hne2); have KX : Hid (Below w.heap.size w WX) := HKZ.out.trans (hbY.mono (by omega)); clear hBY hbY hzY hkY)
          | fail)
        clear HCZ HBZ HKZ;have HLN : Hid (([] : List SR).length = 0) := rfl;have HLS : Hid (∀ i, i < ([] : List SR).length → (sT [] i).size ≤ 1048576) := fun i hi => absurd hi (Nat.not_lt_zero _);have OX : Hid (WX.ownsRow (w.heap.size + 1) 69 5 (.slice none 0 0) 0 (QC srC [])) := World.ownsRow_nil _ _ _ _;cases hse : s.toList.isEmpty
        rotate_left
        · have HF : Hid (rcB s = false) := rs_empty hse
          go_wp2_with (first
              | (refine stoB BX0.out [.int .i64 0, .string ⟨#[]⟩, .string ⟨#[]⟩, .int .i64 0, .slice none 0 0] (by simp) rfl 45 _ _ rfl rfl rfl infoCm5 rfl ?_; intro Y hBY hbY hzY hkY; have d0 := (hBY 0 _ rfl).1; have d1 := (hBY 1 _ rfl).1; have d2 := (hBY 2 _ rfl).1; have d3 := (hBY 3 _ rfl).1; have d4 := (hBY 4 _ rfl).1; have KY : Hid (Below w.heap.size w Y) := KX.out.trans hbY; clear hBY hbY hzY hkY)
              | fail)
          clear hse;refine bodyPost_ret (v := .tuple #[.agg #[.int .i64 0, .string ⟨#[]⟩, .string ⟨#[]⟩, .int .i64 0, .slice none 0 0], .bool false]) ?_ rfl ⟨post_no HF.out rfl, KY.out⟩;simp (maxDischargeDepth := 9) [results, Tryz.results27, go_sem, *]
        have e0 := (CX.out 0 _ rfl).1;have e1 := (CX.out 1 _ rfl).1;have e2 := (CX.out 2 _ rfl).1;have e3 := (CX.out 3 _ rfl).1;have e4 := (CX.out 4 _ rfl).1;go_wp2_with fail
        clear e0 e1 e2 e3 e4;refine (spec_CmdTextR 3 p q 0 WX HSP.out HSQ.out HLN.out (ms_of_sr OX.out HLN.out (fun i hi => by have := HLS.out i hi; unfold maxLen; omega)) HLS.out).mono ?_;rintro e U ⟨rfl, hb⟩;obtain ⟨t, HT⟩ : ∃ t, Hid (cmL ⟨3, p, q, 0, []⟩ = t) := ⟨_, rfl⟩;rw [HT.out];have CU : Hid (BX U b1 [.int .i64 3, .string p, .string q, .int .i64 0, .slice none 0 0]) := CX.out.below (by simp) hb;have BU : Hid (BX U w.heap.size [.int .i64 0, .string ⟨#[]⟩, .string ⟨#[]⟩, .int .i64 0, .slice none 0 0]) := BX0.out.below (by simp) hb
        have OU : Hid (U.ownsRow (w.heap.size + 1) 69 5 (.slice none 0 0) 0 (QC srC [])) := Qi OX.out hb;have KU : Hid (Below w.heap.size w U) := Qc KX.out hb;clear hb CX BX0 OX KX;cases hs9 : t.toList == s.toList
        · have HF : Hid (rcB s = false) := rs_no HC.out HT.out hs9
          go_wp2_with (first
              | (refine stoB BU.out [.int .i64 0, .string ⟨#[]⟩, .string ⟨#[]⟩, .int .i64 0, .slice none 0 0] (by simp) rfl 45 _ _ rfl rfl rfl infoCm5 rfl ?_; intro Y hBY hbY hzY hkY; have d0 := (hBY 0 _ rfl).1; have d1 := (hBY 1 _ rfl).1; have d2 := (hBY 2 _ rfl).1; have d3 := (hBY 3 _ rfl).1; have d4 := (hBY 4 _ rfl).1; have KY : Hid (Below w.heap.size w Y) := KU.out.trans hbY; clear hBY hbY hzY hkY)
              | fail)
          clear hs9 hse;refine bodyPost_ret (v := .tuple #[.agg #[.int .i64 0, .string ⟨#[]⟩, .string ⟨#[]⟩, .int .i64 0, .slice none 0 0], .bool false]) ?_ rfl ⟨post_no HF.out rfl, KY.out⟩;simp (maxDischargeDepth := 9) [results, Tryz.results27, go_sem, *]
        · have HF : Hid (rcB s = true ∧ cmI s.data.toList = ⟨3, p, q, 0, []⟩) := rs_yes HC.out HT.out hse hs9
          go_wp2_with (first
              | (refine loaB CU.out [.int .i64 3, .string p, .string q, .int .i64 0, .slice none 0 0] (fun j hj => by rw [Nat.zero_add]) rfl 45 _ rfl rfl _ Tryz.underlying45 rfl infoCm5 ?_)
              | (refine stoB BU.out [.int .i64 3, .string p, .string q, .int .i64 0, .slice none 0 0] (by simp) rfl 45 _ _ rfl rfl rfl infoCm5 rfl ?_; intro Y hBY hbY hzY hkY; have d0 := (hBY 0 _ rfl).1; have d1 := (hBY 1 _ rfl).1; have d2 := (hBY 2 _ rfl).1; have d3 := (hBY 3 _ rfl).1; have d4 := (hBY 4 _ rfl).1; have KY : Hid (Below w.heap.size w Y) := KU.out.trans hbY; have OY : Hid (Y.ownsRow (w.heap.size + 1) 69 5 (.slice none 0 0) 0 (QC srC [])) := own_setC OU.out (by omega) hbY hzY hkY; clear hBY hbY hzY hkY)
              | fail)
          clear hs9 hse;refine bodyPost_ret (v := .tuple #[.agg #[.int .i64 3, .string p, .string q, .int .i64 0, .slice none 0 0], .bool true]) ?_ rfl ⟨post_yes HF.out.1 HF.out.2 HLN.out OY.out rfl, KY.out⟩;simp (maxDischargeDepth := 9) [results, Tryz.results27, go_sem, *]
      by_cases w4 : wd.data.toList = [115, 119, 101, 101, 112]
      · have HC : Hid (cmS s.data.toList = ⟨4, ⟨#[]⟩, ⟨#[]⟩, 0, []⟩) := by show _ = _; rw [HCM.out, if_neg w1, if_neg w2, if_neg w3, if_pos w4]
        obtain rfl : wd = ⟨#[115, 119, 101, 101, 112]⟩ := by rw [← bs_self wd, w4]; rfl
        clear HCM w1 w2 w3 w4;have HSP := HE0;have HSQ := HE0;have c0 := (HCZ.out 0 _ rfl).1;have g0 := (HCZ.out 0 _ rfl).2;obtain ⟨WX, HV⟩ : ∃ X, Hid (Z2.setCell ⟨b1, 0, none⟩ (.int .i64 4) = X) := ⟨_, rfl⟩;have CX : Hid (BX WX b1 [.int .i64 4, .string ⟨#[]⟩, .string ⟨#[]⟩, .int .i64 0, .slice none 0 0]) := by rw [← HV.out]; exact HCZ.out.set 0 _ (by simp)
        have BX0 : Hid (BX WX w.heap.size [.int .i64 0, .string ⟨#[]⟩, .string ⟨#[]⟩, .int .i64 0, .slice none 0 0]) := by rw [← HV.out]; exact HBZ.out.at (Below.heap_setCell _ _ _ _ hne2)
        have KX : Hid (Below w.heap.size w WX) := by rw [← HV.out]; exact HKZ.out.setCell (p := ⟨b1, 0, none⟩) (Nat.le_of_lt hlt1) _
        go_upto_region 19 with fail
        rw [HV.out];clear c0 g0 HCZ HBZ HKZ HV;have HLN : Hid (([] : List SR).length = 0) := rfl;have HLS : Hid (∀ i, i < ([] : List SR).length → (sT [] i).size ≤ 1048576) := fun i hi => absurd hi (Nat.not_lt_zero _);have OX : Hid (WX.ownsRow (w.heap.size + 1) 69 5 (.slice none 0 0) 0 (QC srC [])) := World.ownsRow_nil _ _ _ _;cases hse : s.toList.isEmpty
        rotate_left
        · have HF : Hid (rcB s = false) := rs_empty hse
          go_wp2_with (first
              | (refine stoB BX0.out [.int .i64 0, .string ⟨#[]⟩, .string ⟨#[]⟩, .int .i64 0, .slice none 0 0] (by simp) rfl 45 _ _ rfl rfl rfl infoCm5 rfl ?_; intro Y hBY hbY hzY hkY; have d0 := (hBY 0 _ rfl).1; have d1 := (hBY 1 _ rfl).1; have d2 := (hBY 2 _ rfl).1; have d3 := (hBY 3 _ rfl).1; have d4 := (hBY 4 _ rfl).1; have KY : Hid (Below w.heap.size w Y) := KX.out.trans hbY; clear hBY hbY hzY hkY)
              | fail)
          clear hse;refine bodyPost_ret (v := .tuple #[.agg #[.int .i64 0, .string ⟨#[]⟩, .string ⟨#[]⟩, .int .i64 0, .slice none 0 0], .bool false]) ?_ rfl ⟨post_no HF.out rfl, KY.out⟩;simp (maxDischargeDepth := 9) [results, Tryz.results27, go_sem, *]
        have e0 := (CX.out 0 _ rfl).1;have e1 := (CX.out 1 _ rfl).1;have e2 := (CX.out 2 _ rfl).1;have e3 := (CX.out 3 _ rfl).1;have e4 := (CX.out 4 _ rfl).1;go_wp2_with fail
        clear e0 e1 e2 e3 e4;refine (spec_CmdTextR 4 ⟨#[]⟩ ⟨#[]⟩ 0 WX HSP.out HSQ.out HLN.out (ms_of_sr OX.out HLN.out (fun i hi => by have := HLS.out i hi; unfold maxLen; omega)) HLS.out).mono ?_;rintro e U ⟨rfl, hb⟩;obtain ⟨t, HT⟩ : ∃ t, Hid (cmL ⟨4, ⟨#[]⟩, ⟨#[]⟩, 0, []⟩ = t) := ⟨_, rfl⟩;rw [HT.out];have CU : Hid (BX U b1 [.int .i64 4, .string ⟨#[]⟩, .string ⟨#[]⟩, .int .i64 0, .slice none 0 0]) := CX.out.below (by simp) hb;have BU : Hid (BX U w.heap.size [.int .i64 0, .string ⟨#[]⟩, .string ⟨#[]⟩, .int .i64 0, .slice none 0 0]) := BX0.out.below (by simp) hb
        have OU : Hid (U.ownsRow (w.heap.size + 1) 69 5 (.slice none 0 0) 0 (QC srC [])) := Qi OX.out hb;have KU : Hid (Below w.heap.size w U) := Qc KX.out hb;clear hb CX BX0 OX KX;cases hs9 : t.toList == s.toList
        · have HF : Hid (rcB s = false) := rs_no HC.out HT.out hs9
          go_wp2_with (first
              | (refine stoB BU.out [.int .i64 0, .string ⟨#[]⟩, .string ⟨#[]⟩, .int .i64 0, .slice none 0 0] (by simp) rfl 45 _ _ rfl rfl rfl infoCm5 rfl ?_; intro Y hBY hbY hzY hkY; have d0 := (hBY 0 _ rfl).1; have d1 := (hBY 1 _ rfl).1; have d2 := (hBY 2 _ rfl).1; have d3 := (hBY 3 _ rfl).1; have d4 := (hBY 4 _ rfl).1; have KY : Hid (Below w.heap.size w Y) := KU.out.trans hbY; clear hBY hbY hzY hkY)
              | fail)
          clear hs9 hse;refine bodyPost_ret (v := .tuple #[.agg #[.int .i64 0, .string ⟨#[]⟩, .string ⟨#[]⟩, .int .i64 0, .slice none 0 0], .bool false]) ?_ rfl ⟨post_no HF.out rfl, KY.out⟩;simp (maxDischargeDepth := 9) [results, Tryz.results27, go_sem, *]
        · have HF : Hid (rcB s = true ∧ cmI s.data.toList = ⟨4, ⟨#[]⟩, ⟨#[]⟩, 0, []⟩) := rs_yes HC.out HT.out hse hs9
          go_wp2_with (first
              | (refine loaB CU.out [.int .i64 4, .string ⟨#[]⟩, .string ⟨#[]⟩, .int .i64 0, .slice none 0 0] (fun j hj => by rw [Nat.zero_add]) rfl 45 _ rfl rfl _ Tryz.underlying45 rfl infoCm5 ?_)
              | (refine stoB BU.out [.int .i64 4, .string ⟨#[]⟩, .string ⟨#[]⟩, .int .i64 0, .slice none 0 0] (by simp) rfl 45 _ _ rfl rfl rfl infoCm5 rfl ?_; intro Y hBY hbY hzY hkY; have d0 := (hBY 0 _ rfl).1; have d1 := (hBY 1 _ rfl).1; have d2 := (hBY 2 _ rfl).1; have d3 := (hBY 3 _ rfl).1; have d4 := (hBY 4 _ rfl).1; have KY : Hid (Below w.heap.size w Y) := KU.out.trans hbY; have OY : Hid (Y.ownsRow (w.heap.size + 1) 69 5 (.slice none 0 0) 0 (QC srC [])) := own_setC OU.out (by omega) hbY hzY hkY; clear hBY hbY hzY hkY)
              | fail)
          clear hs9 hse;refine bodyPost_ret (v := .tuple #[.agg #[.int .i64 4, .string ⟨#[]⟩, .string ⟨#[]⟩, .int .i64 0, .slice none 0 0], .bool true]) ?_ rfl ⟨post_yes HF.out.1 HF.out.2 HLN.out OY.out rfl, KY.out⟩;simp (maxDischargeDepth := 9) [results, Tryz.results27, go_sem, *]
      · have HC : Hid (cmS s.data.toList = ⟨0, ⟨#[]⟩, ⟨#[]⟩, 0, []⟩) := by show _ = _; rw [HCM.out, if_neg w1, if_neg w2, if_neg w3, if_neg w4]
        have v1 := ne_lit (y := ⟨#[114, 117, 110]⟩) rfl w1;have x1 : (wd.toList == [114, 117, 110]) = false := by rw [ByteArray.toList_eq]; simpa using w1
        have v2 := ne_lit (y := ⟨#[98, 114, 97, 110, 99, 104]⟩) rfl w2;have x2 : (wd.toList == [98, 114, 97, 110, 99, 104]) = false := by rw [ByteArray.toList_eq]; simpa using w2
        have v3 := ne_lit (y := ⟨#[109, 101, 114, 103, 101]⟩) rfl w3;have x3 : (wd.toList == [109, 101, 114, 103, 101]) = false := by rw [ByteArray.toList_eq]; simpa using w3
        have v4 := ne_lit (y := ⟨#[115, 119, 101, 101, 112]⟩) rfl w4;have x4 : (wd.toList == [115, 119, 101, 101, 112]) = false := by rw [ByteArray.toList_eq]; simpa using w4
        clear HCM w1 w2 w3 w4;have HSP := HE0;have HSQ := HE0;go_upto_region 19 with fail
        clear v1 v2 v3 v4 x1 x2 x3 x4;obtain ⟨WX, HWX⟩ : ∃ X, Hid (Z2 = X) := ⟨_, rfl⟩;have CX : Hid (BX WX b1 [.int .i64 0, .string ⟨#[]⟩, .string ⟨#[]⟩, .int .i64 0, .slice none 0 0]) := by rw [← HWX.out]; exact HCZ.out
        have BX0 : Hid (BX WX w.heap.size [.int .i64 0, .string ⟨#[]⟩, .string ⟨#[]⟩, .int .i64 0, .slice none 0 0]) := by rw [← HWX.out]; exact HBZ.out
        have KX : Hid (Below w.heap.size w WX) := by rw [← HWX.out]; exact HKZ.out
        rw [HWX.out];clear HCZ HBZ HKZ HWX;have HLN : Hid (([] : List SR).length = 0) := rfl;have HLS : Hid (∀ i, i < ([] : List SR).length → (sT [] i).size ≤ 1048576) := fun i hi => absurd hi (Nat.not_lt_zero _);have OX : Hid (WX.ownsRow (w.heap.size + 1) 69 5 (.slice none 0 0) 0 (QC srC [])) := World.ownsRow_nil _ _ _ _;cases hse : s.toList.isEmpty
        rotate_left
        · have HF : Hid (rcB s = false) := rs_empty hse
          go_wp2_with (first
              | (refine stoB BX0.out [.int .i64 0, .string ⟨#[]⟩, .string ⟨#[]⟩, .int .i64 0, .slice none 0 0] (by simp) rfl 45 _ _ rfl rfl rfl infoCm5 rfl ?_; intro Y hBY hbY hzY hkY; have d0 := (hBY 0 _ rfl).1; have d1 := (hBY 1 _ rfl).1; have d2 := (hBY 2 _ rfl).1; have d3 := (hBY 3 _ rfl).1; have d4 := (hBY 4 _ rfl).1; have KY : Hid (Below w.heap.size w Y) := KX.out.trans hbY; clear hBY hbY hzY hkY)
              | fail)
          clear hse;refine bodyPost_ret (v := .tuple #[.agg #[.int .i64 0, .string ⟨#[]⟩, .string ⟨#[]⟩, .int .i64 0, .slice none 0 0], .bool false]) ?_ rfl ⟨post_no HF.out rfl, KY.out⟩;simp (maxDischargeDepth := 9) [results, Tryz.results27, go_sem, *]
        have e0 := (CX.out 0 _ rfl).1;have e1 := (CX.out 1 _ rfl).1;have e2 := (CX.out 2 _ rfl).1;have e3 := (CX.out 3 _ rfl).1;have e4 := (CX.out 4 _ rfl).1;go_wp2_with fail
        clear e0 e1 e2 e3 e4;refine (spec_CmdTextR 0 ⟨#[]⟩ ⟨#[]⟩ 0 WX HSP.out HSQ.out HLN.out (ms_of_sr OX.out HLN.out (fun i hi => by have := HLS.out i hi; unfold maxLen; omega)) HLS.out).mono ?_;rintro e U ⟨rfl, hb⟩;obtain ⟨t, HT⟩ : ∃ t, Hid (cmL ⟨0, ⟨#[]⟩, ⟨#[]⟩, 0, []⟩ = t) := ⟨_, rfl⟩;rw [HT.out];have CU : Hid (BX U b1 [.int .i64 0, .string ⟨#[]⟩, .string ⟨#[]⟩, .int .i64 0, .slice none 0 0]) := CX.out.below (by simp) hb;have BU : Hid (BX U w.heap.size [.int .i64 0, .string ⟨#[]⟩, .string ⟨#[]⟩, .int .i64 0, .slice none 0 0]) := BX0.out.below (by simp) hb
        have OU : Hid (U.ownsRow (w.heap.size + 1) 69 5 (.slice none 0 0) 0 (QC srC [])) := Qi OX.out hb;have KU : Hid (Below w.heap.size w U) := Qc KX.out hb;clear hb CX BX0 OX KX;cases hs9 : t.toList == s.toList
        · have HF : Hid (rcB s = false) := rs_no HC.out HT.out hs9
          go_wp2_with (first
              | (refine stoB BU.out [.int .i64 0, .string ⟨#[]⟩, .string ⟨#[]⟩, .int .i64 0, .slice none 0 0] (by simp) rfl 45 _ _ rfl rfl rfl infoCm5 rfl ?_; intro Y hBY hbY hzY hkY; have d0 := (hBY 0 _ rfl).1; have d1 := (hBY 1 _ rfl).1; have d2 := (hBY 2 _ rfl).1; have d3 := (hBY 3 _ rfl).1; have d4 := (hBY 4 _ rfl).1; have KY : Hid (Below w.heap.size w Y) := KU.out.trans hbY; clear hBY hbY hzY hkY)
              | fail)
          clear hs9 hse;refine bodyPost_ret (v := .tuple #[.agg #[.int .i64 0, .string ⟨#[]⟩, .string ⟨#[]⟩, .int .i64 0, .slice none 0 0], .bool false]) ?_ rfl ⟨post_no HF.out rfl, KY.out⟩;simp (maxDischargeDepth := 9) [results, Tryz.results27, go_sem, *]
        · have HF : Hid (rcB s = true ∧ cmI s.data.toList = ⟨0, ⟨#[]⟩, ⟨#[]⟩, 0, []⟩) := rs_yes HC.out HT.out hse hs9
          go_wp2_with (first
              | (refine loaB CU.out [.int .i64 0, .string ⟨#[]⟩, .string ⟨#[]⟩, .int .i64 0, .slice none 0 0] (fun j hj => by rw [Nat.zero_add]) rfl 45 _ rfl rfl _ Tryz.underlying45 rfl infoCm5 ?_)
              | (refine stoB BU.out [.int .i64 0, .string ⟨#[]⟩, .string ⟨#[]⟩, .int .i64 0, .slice none 0 0] (by simp) rfl 45 _ _ rfl rfl rfl infoCm5 rfl ?_; intro Y hBY hbY hzY hkY; have d0 := (hBY 0 _ rfl).1; have d1 := (hBY 1 _ rfl).1; have d2 := (hBY 2 _ rfl).1; have d3 := (hBY 3 _ rfl).1; have d4 := (hBY 4 _ rfl).1; have KY : Hid (Below w.heap.size w Y) := KU.out.trans hbY; have OY : Hid (Y.ownsRow (w.heap.size + 1) 69 5 (.slice none 0 0) 0 (QC srC [])) := own_setC OU.out (by omega) hbY hzY hkY; clear hBY hbY hzY hkY)
              | fail)
          clear hs9 hse;refine bodyPost_ret (v := .tuple #[.agg #[.int .i64 0, .string ⟨#[]⟩, .string ⟨#[]⟩, .int .i64 0, .slice none 0 0], .bool true]) ?_ rfl ⟨post_yes HF.out.1 HF.out.2 HLN.out OY.out rfl, KY.out⟩;simp (maxDischargeDepth := 9) [results, Tryz.results27, go_sem, *]
end Go.Proofs.YtejbnnacghbhoaaGreatDoor
