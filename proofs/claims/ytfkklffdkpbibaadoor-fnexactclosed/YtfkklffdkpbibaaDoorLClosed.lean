import Derived.Test.YtfkklffdkpbibaaDoorMvQT
import Derived.Test.YtfkklffdkpbibaaDoorMvS
namespace Go.Proofs.YtfkklffdkpbibaaDoor
open Go.RowKit
set_option linter.unusedSimpArgs false
set_option linter.unusedVariables false

set_option maxHeartbeats 8000000 in
theorem law_Closed_yes (A : Option Addr) (n cap : Nat) (F : Nat → FN) (d e : Int) (w : World) (h : FnRow w A n F) (hft : FT w) (ho : (fOkB F n && okClosed d e) = true) : Calls Tryd.prog 7 #[.slice A n cap, .int .i64 d, .int .i64 e] w fun z w' =>
    z = .returned (.bool true) ∧ Below w.heap.size w w' := by
  have HR : Hid (FnRow w A n F) := h
  have HFT : Hid (FT w) := hft
  have HS : Hid (∀ i, i < n → (F i).cs.size ≤ maxLen) := fun i hi => by obtain ⟨_, _, _, _, _, _, _, _, hs⟩ := h.2 i hi; exact hs
  have HOO : Hid ((fOkB F n && okClosed d e) = true) := ho
  have HO1 : Hid (fOkB F n = true) := (Bool.and_eq_true_iff.1 ho).1
  have HO2 : Hid (okClosed d e = true) := (Bool.and_eq_true_iff.1 ho).2
  clear h hft ho
  go_enter Tryd.func7, Tryd.ntmps7
  go_wp2_with fail
  refine (laws_szFNodeS _ HR.out).mono ?_
  rintro z0 u1 ⟨z, rfl, hz, hb⟩
  have K1 : Hid (Below w.heap.size w u1) := hb
  clear hb
  by_cases hneg : z < 0
  · go_wp2_with fail
    go_ret
    exact ⟨rfl, K1.out⟩
  have HN : Hid (n ≤ 1048576 ∧ ∀ i, i < n → (F i).kids.length ≤ 1048576) := hz (by omega)
  clear hz
  go_wp2_with fail
  refine (laws_toFNodeS _ (HR.out.below K1.out) HN.out.1 HN.out.2).mono ?_
  rintro z1 u2 ⟨ys, rfl, ho, hp, hb⟩
  have R1 : Hid (FnRowS u2 (some ⟨u1.heap.size, 0, none⟩) n F) := fnS_of_own ho hp HS.out
  have K2 : Hid (Below w.heap.size w u2) := bchain K1.out hb
  clear hb ho hp
  go_wp2_with fail
  have HGS : Hid (∀ i, i < n → ((fun i => shFN (fClosed d e) (gClosed d e) (F i)) i).cs.size ≤ maxLen) := fun i hi => shFN_cs _ _ _ (HS.out i hi)
  have HGK : Hid (∀ i, i < n → (fun i => (shFN (fClosed d e) (gClosed d e) (F i)).kids.length) i ≤ 1048576) := fun i hi => shFN_kids _ _ _ (HN.out.2 i hi)
  refine (spec_Closed_yes d e _ R1.out HN.out.2 HO1.out HO2.out).mono ?_
  rintro z2 u3 ⟨v0, ysw, rfl, ho, hp, hb⟩
  obtain ⟨A0, cap0, rfl, hr0⟩ := fn_of_ownV ho hp HGS.out
  have R0 : Hid (FnRow u3 A0 n (fun i => shFN (fClosed d e) (gClosed d e) (F i))) := hr0
  have K3 : Hid (Below w.heap.size w u3) := bchain K2.out hb
  clear hb ho hp R1 hr0
  go_wp2_with fail
  refine (laws_toFNodeS _ (HR.out.below K3.out) HN.out.1 HN.out.2).mono ?_
  rintro z3 u4 ⟨ys', rfl, ho, hp, hb⟩
  have R2 : Hid (FnRowS u4 (some ⟨u3.heap.size, 0, none⟩) n F) := fnS_of_own ho hp HS.out
  have HOX : Hid (u4.ownsRow u3.heap.size 53 14 (.slice (some ⟨u3.heap.size, 0, none⟩) n n) n ys') := ho
  have HPX : Hid (FnPart u4 (u3.heap.size + 1) ys' F n) := hp
  have K4 : Hid (Below w.heap.size w u4) := bchain K3.out hb
  have C4 : Hid (Below u3.heap.size u3 u4) := hb
  have HGB : Hid (u3.heap.size < u4.heap.size) := (ho.lt u3.heap.size rfl).2
  clear hb ho hp
  go_wp2_with fail
  refine (impl_Closed_yes d e _ R2.out HN.out.1 HN.out.2 (HFT.out.below K4.out) HOO.out).mono ?_
  rintro z4 u5 ⟨g, ysg, rfl, hge, ho, hp, hkd, hb⟩
  have OG5 : Hid (u5.ownsRow g 53 14 (.slice (some ⟨g, 0, none⟩) n n) n ysg) := ho
  have PG5 : Hid (FnPart u5 (g + 1) ysg (fun i => shFN (fClosed d e) (gClosed d e) (F i)) n) := hp
  have HKD : Hid (KDiff ysg n) := hkd
  have HGE : Hid (u4.heap.size ≤ g) := hge
  have B5 : Hid (Below u4.heap.size u4 u5) := hb
  have K5 : Hid (Below w.heap.size w u5) := bchain K4.out hb
  have C5 : Hid (Below u3.heap.size u3 u5) := bchain C4.out hb
  clear hb ho hp hkd hge
  go_wp2_with fail
  refine (laws_eqFNodeS _ (fn_of_own OG5.out PG5.out HGS.out) (R0.out.below C5.out)).mono ?_
  rintro z5 u6 ⟨rfl, hb⟩
  have B6 : Hid (Below u4.heap.size u4 u6) := bchain B5.out hb
  have K6 : Hid (Below w.heap.size w u6) := bchain K5.out hb
  have C6 : Hid (Below u3.heap.size u3 u6) := bchain C5.out hb
  have OG6 : Hid (u6.ownsRow g 53 14 (.slice (some ⟨g, 0, none⟩) n n) n ysg) := own_below OG5.out hb
  have PG6 : Hid (FnPart u6 (g + 1) ysg (fun i => shFN (fClosed d e) (gClosed d e) (F i)) n) := PG5.out.below hb
  clear hb OG5 PG5 B5 C5
  go_wp2_with fail
  refine (laws_toFNodeS _ (HR.out.below K6.out) HN.out.1 HN.out.2).mono ?_
  rintro z6 u7 ⟨ys'', rfl, ho, hp, hb⟩
  have R3 : Hid (FnRow u7 (some ⟨u6.heap.size, 0, none⟩) n F) := fn_of_own ho hp HS.out
  have B7 : Hid (Below u4.heap.size u4 u7) := bchain B6.out hb
  have K7 : Hid (Below w.heap.size w u7) := bchain K6.out hb
  have C7 : Hid (Below u3.heap.size u3 u7) := bchain C6.out hb
  have OG7 : Hid (u7.ownsRow g 53 14 (.slice (some ⟨g, 0, none⟩) n n) n ysg) := own_below OG6.out hb
  have PG7 : Hid (FnPart u7 (g + 1) ysg (fun i => shFN (fClosed d e) (gClosed d e) (F i)) n) := PG6.out.below hb
  clear hb ho hp OG6 PG6 B6 C6
  go_wp2_with fail
  refine (laws_eqFNodeS _ (R2.out.row.below B7.out) R3.out).mono ?_
  rintro z7 u8 ⟨rfl, hb⟩
  have B8 : Hid (Below u4.heap.size u4 u8) := bchain B7.out hb
  have K8 : Hid (Below w.heap.size w u8) := bchain K7.out hb
  have C8 : Hid (Below u3.heap.size u3 u8) := bchain C7.out hb
  have OG8 : Hid (u8.ownsRow g 53 14 (.slice (some ⟨g, 0, none⟩) n n) n ysg) := own_below OG7.out hb
  have PG8 : Hid (FnPart u8 (g + 1) ysg (fun i => shFN (fClosed d e) (gClosed d e) (F i)) n) := PG7.out.below hb
  clear hb OG7 PG7 B7 C7 R2 R3
  go_wp2_with fail
  refine (laws_markFNodeS (mk_of HOX.out HPX.out B8.out) HGB.out HN.out.1 HN.out.2).mono ?_
  rintro z8 u9 ⟨k, rfl, hk, hm⟩
  have K9' : Hid (Below w.heap.size w u9) := below_mid K8.out hm K3.out.size
  have C9 : Hid (Below u3.heap.size u3 u9) := below_mid C8.out hm (Nat.le_refl _)
  have OG9 : Hid (u9.ownsRow g 53 14 (.slice (some ⟨g, 0, none⟩) n n) n ysg) := own_mid OG8.out hm (fun b hb => Or.inr (Nat.le_trans HGE.out (OG8.out.lt b hb).1))
  have PG9 : Hid (FnPart u9 (g + 1) ysg (fun i => shFN (fClosed d e) (gClosed d e) (F i)) n) := part_mid PG8.out hm (Nat.le_trans HGE.out (Nat.le_succ _))
  clear hm OG8 PG8 HOX HPX B8 C8
  have hk2 : ¬ k < 0 := by omega
  go_wp2_with fail
  refine (laws_eqFNodeS _ (fn_of_own OG9.out PG9.out HGS.out) (R0.out.below C9.out)).mono ?_
  rintro z9 u10 ⟨rfl, hb⟩
  have K10 : Hid (Below w.heap.size w u10) := bchain K9'.out hb
  have C10 : Hid (Below u3.heap.size u3 u10) := bchain C9.out hb
  have OG10 : Hid (u10.ownsRow g 53 14 (.slice (some ⟨g, 0, none⟩) n n) n ysg) := own_below OG9.out hb
  have PG10 : Hid (FnPart u10 (g + 1) ysg (fun i => shFN (fClosed d e) (gClosed d e) (F i)) n) := PG9.out.below hb
  clear hb OG9 PG9 C9
  go_wp2_with fail
  refine (laws_markFNodeSV (mkv_of OG10.out PG10.out HKD.out) (OG10.out.lt g rfl).2 HN.out.1 HGK.out).mono ?_
  rintro z10 u11 ⟨rfl, hm, hh⟩
  have HG3 : Hid (u3.heap.size ≤ g) := Nat.le_trans C4.out.size HGE.out
  have K11 : Hid (Below w.heap.size w u11) := below_mid K10.out hm (Nat.le_trans K3.out.size HG3.out)
  have C11 : Hid (Below u3.heap.size u3 u11) := below_mid C10.out hm HG3.out
  have H11 : Hid (HeldV u11 g n (fun i => (shFN (fClosed d e) (gClosed d e) (F i)).kids.length)) := hh
  have hqp := kq_pos (fun i => (shFN (fClosed d e) (gClosed d e) (F i)).kids.length) n
  clear hm hh OG10 PG10 C10
  go_wp2_with fail
  refine (laws_heldFNodeSV H11.out HN.out.1 HGK.out).mono ?_
  rintro z11 u12 ⟨rfl, hb⟩
  have K12 : Hid (Below w.heap.size w u12) := bchain K11.out hb
  have C12 : Hid (Below u3.heap.size u3 u12) := bchain C11.out hb
  have H12 : Hid (HeldV u12 g n (fun i => (shFN (fClosed d e) (gClosed d e) (F i)).kids.length)) := H11.out.below hb
  clear hb H11 C11
  obtain ⟨qq, HQQ⟩ : ∃ qq, Hid (kq (fun i => (shFN (fClosed d e) (gClosed d e) (F i)).kids.length) n = qq) := ⟨_, rfl⟩
  rw [HQQ.out] at hqp ⊢
  have hq2 : ¬ qq < 0 := by omega
  go_wp2_with fail
  refine (laws_toFNodeS _ (HR.out.below K12.out) HN.out.1 HN.out.2).mono ?_
  rintro z12 u13 ⟨ys3, rfl, ho, hp, hb⟩
  have R4 : Hid (FnRowS u13 (some ⟨u12.heap.size, 0, none⟩) n F) := fnS_of_own ho hp HS.out
  have K13 : Hid (Below w.heap.size w u13) := bchain K12.out hb
  have C13 : Hid (Below u3.heap.size u3 u13) := bchain C12.out hb
  have H13 : Hid (HeldV u13 g n (fun i => (shFN (fClosed d e) (gClosed d e) (F i)).kids.length)) := H12.out.below hb
  clear hb ho hp H12 C12
  go_wp2_with fail
  refine (impl_Closed_yes d e _ R4.out HN.out.1 HN.out.2 (HFT.out.below K13.out) HOO.out).mono ?_
  rintro z13 u14 ⟨g2, ysh, rfl, hge, ho, hp, hkd, hb⟩
  have R5 : Hid (FnRow u14 (some ⟨g2, 0, none⟩) n (fun i => shFN (fClosed d e) (gClosed d e) (F i))) := fn_of_own ho hp HGS.out
  have K14 : Hid (Below w.heap.size w u14) := bchain K13.out hb
  have C14 : Hid (Below u3.heap.size u3 u14) := bchain C13.out hb
  have H14 : Hid (HeldV u14 g n (fun i => (shFN (fClosed d e) (gClosed d e) (F i)).kids.length)) := H13.out.below hb
  clear hb ho hp hkd hge H13 C13 R4
  go_wp2_with fail
  refine (laws_eqFNodeS _ R5.out (R0.out.below C14.out)).mono ?_
  rintro z14 u15 ⟨rfl, hb⟩
  have K15 : Hid (Below w.heap.size w u15) := bchain K14.out hb
  have H15 : Hid (HeldV u15 g n (fun i => (shFN (fClosed d e) (gClosed d e) (F i)).kids.length)) := H14.out.below hb
  clear hb H14 R5
  go_wp2_with fail
  refine (laws_heldFNodeSV H15.out HN.out.1 HGK.out).mono ?_
  rintro z15 u16 ⟨rfl, hb⟩
  have K16 : Hid (Below w.heap.size w u16) := bchain K15.out hb
  clear hb
  rw [HQQ.out]
  go_wp2_with fail
  go_ret
  exact ⟨rfl, K16.out⟩

set_option maxHeartbeats 8000000 in
theorem law_Closed_no (A : Option Addr) (n cap : Nat) (F : Nat → FN) (d e : Int) (w : World) (h : FnRow w A n F) (hft : FT w) (ho : (fOkB F n && okClosed d e) = false) : Calls Tryd.prog 7 #[.slice A n cap, .int .i64 d, .int .i64 e] w fun z w' =>
    z = .returned (.bool true) ∧ Below w.heap.size w w' := by
  have HR : Hid (FnRow w A n F) := h
  have HFT : Hid (FT w) := hft
  have HS : Hid (∀ i, i < n → (F i).cs.size ≤ maxLen) := fun i hi => by obtain ⟨_, _, _, _, _, _, _, _, hs⟩ := h.2 i hi; exact hs
  have HOO : Hid ((fOkB F n && okClosed d e) = false) := ho
  clear h hft ho
  go_enter Tryd.func7, Tryd.ntmps7
  go_wp2_with fail
  refine (laws_szFNodeS _ HR.out).mono ?_
  rintro z0 u1 ⟨z, rfl, hz, hb⟩
  have K1 : Hid (Below w.heap.size w u1) := hb
  clear hb
  by_cases hneg : z < 0
  · go_wp2_with fail
    go_ret
    exact ⟨rfl, K1.out⟩
  have HN : Hid (n ≤ 1048576 ∧ ∀ i, i < n → (F i).kids.length ≤ 1048576) := hz (by omega)
  clear hz
  go_wp2_with fail
  refine (laws_toFNodeS _ (HR.out.below K1.out) HN.out.1 HN.out.2).mono ?_
  rintro z1 u2 ⟨ys, rfl, ho, hp, hb⟩
  have R1 : Hid (FnRowS u2 (some ⟨u1.heap.size, 0, none⟩) n F) := fnS_of_own ho hp HS.out
  have K2 : Hid (Below w.heap.size w u2) := bchain K1.out hb
  clear hb ho hp
  go_wp2_with fail
  refine (spec_Closed_no d e _ R1.out HN.out.1 HN.out.2 HOO.out).mono ?_
  rintro z2 u3 ⟨rfl, hb⟩
  have K3 : Hid (Below w.heap.size w u3) := bchain K2.out hb
  clear hb R1
  go_wp2_with fail
  refine (laws_toFNodeS _ (HR.out.below K3.out) HN.out.1 HN.out.2).mono ?_
  rintro z3 u4 ⟨ys', rfl, ho, hp, hb⟩
  have R2 : Hid (FnRowS u4 (some ⟨u3.heap.size, 0, none⟩) n F) := fnS_of_own ho hp HS.out
  have HOX : Hid (u4.ownsRow u3.heap.size 53 14 (.slice (some ⟨u3.heap.size, 0, none⟩) n n) n ys') := ho
  have HPX : Hid (FnPart u4 (u3.heap.size + 1) ys' F n) := hp
  have K4 : Hid (Below w.heap.size w u4) := bchain K3.out hb
  have HGB : Hid (u3.heap.size < u4.heap.size) := (ho.lt u3.heap.size rfl).2
  clear hb ho hp
  go_wp2_with fail
  refine (impl_Closed_no d e _ R2.out HN.out.1 HN.out.2 (HFT.out.below K4.out) HOO.out).mono ?_
  rintro z4 u5 ⟨rfl, hb⟩
  have B5 : Hid (Below u4.heap.size u4 u5) := hb
  have K5 : Hid (Below w.heap.size w u5) := bchain K4.out hb
  clear hb
  go_wp2_with fail
  refine (laws_eqFNodeS _ (row_nil _ F) (row_nil _ F)).mono ?_
  rintro z5 u6 ⟨rfl, hb⟩
  have B6 : Hid (Below u4.heap.size u4 u6) := bchain B5.out hb
  have K6 : Hid (Below w.heap.size w u6) := bchain K5.out hb
  clear hb B5
  go_wp2_with fail
  refine (laws_toFNodeS _ (HR.out.below K6.out) HN.out.1 HN.out.2).mono ?_
  rintro z6 u7 ⟨ys'', rfl, ho, hp, hb⟩
  have R3 : Hid (FnRow u7 (some ⟨u6.heap.size, 0, none⟩) n F) := fn_of_own ho hp HS.out
  have B7 : Hid (Below u4.heap.size u4 u7) := bchain B6.out hb
  have K7 : Hid (Below w.heap.size w u7) := bchain K6.out hb
  clear hb ho hp B6
  go_wp2_with fail
  refine (laws_eqFNodeS _ (R2.out.row.below B7.out) R3.out).mono ?_
  rintro z7 u8 ⟨rfl, hb⟩
  have B8 : Hid (Below u4.heap.size u4 u8) := bchain B7.out hb
  have K8 : Hid (Below w.heap.size w u8) := bchain K7.out hb
  clear hb B7 R2 R3
  go_wp2_with fail
  refine (laws_markFNodeS (mk_of HOX.out HPX.out B8.out) HGB.out HN.out.1 HN.out.2).mono ?_
  rintro z8 u9 ⟨k, rfl, hk, hm⟩
  have K9' : Hid (Below w.heap.size w u9) := below_mid K8.out hm K3.out.size
  clear hm HOX HPX B8
  have hk2 : ¬ k < 0 := by omega
  go_wp2_with fail
  refine (laws_eqFNodeS _ (row_nil _ F) (row_nil _ F)).mono ?_
  rintro z9 u10 ⟨rfl, hb⟩
  have K10 : Hid (Below w.heap.size w u10) := bchain K9'.out hb
  clear hb
  go_wp2_with fail
  refine (laws_markFNodeS_nil _).mono ?_
  rintro z10 u11 ⟨rfl, hw⟩
  subst u11
  go_wp2_with fail
  refine (laws_heldFNodeS_nil _).mono ?_
  rintro z11 u12 ⟨rfl, hw⟩
  subst u12
  go_wp2_with fail
  refine (laws_toFNodeS _ (HR.out.below K10.out) HN.out.1 HN.out.2).mono ?_
  rintro z12 u13 ⟨ys3, rfl, ho, hp, hb⟩
  have R4 : Hid (FnRowS u13 (some ⟨u10.heap.size, 0, none⟩) n F) := fnS_of_own ho hp HS.out
  have K13 : Hid (Below w.heap.size w u13) := bchain K10.out hb
  clear hb ho hp
  go_wp2_with fail
  refine (impl_Closed_no d e _ R4.out HN.out.1 HN.out.2 (HFT.out.below K13.out) HOO.out).mono ?_
  rintro z13 u14 ⟨rfl, hb⟩
  have K14 : Hid (Below w.heap.size w u14) := bchain K13.out hb
  clear hb R4
  go_wp2_with fail
  refine (laws_eqFNodeS _ (row_nil _ F) (row_nil _ F)).mono ?_
  rintro z14 u15 ⟨rfl, hb⟩
  have K15 : Hid (Below w.heap.size w u15) := bchain K14.out hb
  clear hb
  go_wp2_with fail
  refine (laws_heldFNodeS_nil _).mono ?_
  rintro z15 u16 ⟨rfl, hw⟩
  subst u16
  go_wp2_with fail
  go_ret
  exact ⟨rfl, K15.out⟩

theorem law_FnExactClosed (A : Option Addr) (n cap : Nat) (F : Nat → FN) (d e : Int) (w : World) (h : FnRow w A n F) (hft : FT w) : Calls Tryd.prog 7 #[.slice A n cap, .int .i64 d, .int .i64 e] w fun z w' =>
    z = .returned (.bool true) ∧ Below w.heap.size w w' := by
  cases ho : (fOkB F n && okClosed d e)
  · exact law_Closed_no A n cap F d e w h hft ho
  · exact law_Closed_yes A n cap F d e w h hft ho
end Go.Proofs.YtfkklffdkpbibaaDoor
