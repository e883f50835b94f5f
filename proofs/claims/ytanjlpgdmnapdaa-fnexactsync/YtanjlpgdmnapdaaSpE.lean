import Derived.Test.YtanjlpgdmnapdaaSpD
namespace Go.Proofs.Ytanjlpgdmnapdaa
open Go.RowKit Go.Maps
set_option linter.unusedSimpArgs false
set_option linter.unusedVariables false

def doM (x : DP) (L : List FI) : List FI := if findB x L = true then doL x L else L
theorem atI_none {u : List UInt8} {L : List FI} {r : Int} (h : AtI u L r) (hg : getK fiK u L = none) : r = -1 := by
  rcases h with ⟨h1, _⟩ | ⟨i, x, _, _, h2⟩
  · exact h1
  · rw [hg] at h2; cases h2
theorem atI_some {u : List UInt8} {L : List FI} {r : Int} {y : FI} (h : AtI u L r) (hg : getK fiK u L = some y) : ∃ i : Nat, r = (i : Int) ∧ L[i]? = some y := by
  rcases h with ⟨_, h1⟩ | ⟨i, x, h1, h2, h3⟩
  · rw [hg] at h1; cases h1
  · rw [hg] at h3; cases h3; exact ⟨i, h1, h2⟩
theorem emp_app (d : ByteArray) : (⟨#[]⟩ : ByteArray) ++ d = d := by
  apply ByteArray.ext
  simp
set_option maxRecDepth 100000 in
set_option maxHeartbeats 4000000 in
theorem spec_l13Do {A : Option Addr} {N cap : Nat} {L : List FI} (x : DP) (w : World) (h : FiRow w A L) (hL : L.length = N) (h0 : A = none → cap = 0) (hU : Up fiK L) (hn : N ≤ 1073741823) (hd : x.d.size ≤ 1099511627776) (ht : totL L ≤ 1099511627776) :
    Calls Try.prog 47 #[.slice A N cap, .agg #[.int .i64 x.k, .string x.n, .string x.t, .string x.d]] w fun e w' => ∃ v, e = .returned (.tuple #[v, .bool (findB x L)]) ∧ w'.ownsRow w.heap.size 75 2 v (doM x L).length (flat fiL (doM x L)) ∧ Below w.heap.size w w' := by
  obtain ⟨k, n, t, d⟩ := x
  have HR : Hid (FiRow w A L) := h
  have HL : Hid (L.length = N) := hL
  have H0 : Hid (A = none → cap = 0) := h0
  have HU : Hid (Up fiK L) := hU
  have HT : Hid (totL L ≤ 1099511627776) := ht
  have hd : d.size ≤ 1099511627776 := hd
  show Calls Try.prog 47 #[.slice A N cap, .agg #[.int .i64 k, .string n, .string t, .string d]] w _
  clear h hL h0 hU ht
  cases hg : getK fiK n.data.toList L with
  | none =>
    have HG : Hid (getK fiK n.data.toList L = none) := hg
    have HD : Hid (dataK n.data.toList L = ⟨#[]⟩) := by show _ = _; rw [dataK, hg]
    by_cases h1 : k = 1
    · subst h1
      have HM : Hid (doM ⟨1, n, t, d⟩ L = putK fiK ⟨n, d⟩ L) := by
        show putK fiK ⟨n, dataK n.data.toList L ++ d⟩ L = _
        rw [HD.out, emp_app]
      have HFD : Hid (findB ⟨1, n, t, d⟩ L = true) := rfl
      rw [HM.out, HFD.out]
      clear hg
      go_enter Try.func47, Try.ntmps47
      go_wp2_with (first
        | (go_at_call 62; refine (spec_l13At n _ (HR.out.below (by go_grown)) HL.out).mono ?_; rintro e w1 ⟨r, rfl, hr, rfl⟩; obtain rfl := atI_none hr HG.out; clear hr)
        | (go_at_call 84; refine (spec_l13Put n d _ (HR.out.below (by go_grown)) HL.out HU.out (by omega)).mono ?_; rintro e w2 ⟨v, rfl, hown, hb⟩; have HO : Hid (w2.ownsRow w.heap.size 75 2 v (putK fiK ⟨n, d⟩ L).length (flat fiL (putK fiK ⟨n, d⟩ L))) := own_mono hown (by simp); have HB2 : Hid (Below w.heap.size w w2) := (Below.trans (by go_grown) (hb.mono (by simp))); obtain ⟨vA, vc, rfl, y1, y2⟩ := own_shape HO.out; clear hown hb y1 y2))
      refine bodyPost_ret (v := .tuple #[.slice vA (putK fiK ⟨n, d⟩ L).length vc, .bool true]) ?_ rfl ⟨_, rfl, HO.out, HB2.out⟩
      simp (maxDischargeDepth := 9) [results, Try.results47, go_sem, *]
    · have HFD : Hid (findB ⟨k, n, t, d⟩ L = false) := by
        show _ = _
        simp only [findB, h1, if_false, hasB, hg]; rfl
      have HM : Hid (doM ⟨k, n, t, d⟩ L = L) := by show _ = _; rw [doM, HFD.out]; rfl
      have q1 : (k == 1) = false := by simpa using h1
      rw [HM.out, HFD.out, HL.out]
      clear hg h1
      go_enter Try.func47, Try.ntmps47
      go_wp2_with (first
        | (go_at_call 62; refine (spec_l13At n _ (HR.out.below (by go_grown)) HL.out).mono ?_; rintro e w1 ⟨r, rfl, hr, rfl⟩; obtain rfl := atI_none hr HG.out; clear hr)
        | (at_builtin; refine wpList_copy_fi rfl _ _ rfl w.heap.size (by simp; omega) _ rfl (own_empty (by simp) (by simp)) rfl HL.out H0.out (HR.out.below (by go_grown)) (by omega) ?_)
        | go_in)
      intro A' c' w2 hown hz hgr
      have HO : Hid (w2.ownsRow w.heap.size 75 2 (.slice A' N c') N (flat fiL L)) := hown
      have HB2 : Hid (Below w.heap.size w w2) := Below.grown (by go_grown) hgr (by simp; omega) (fun q hq => by simp [Value.ownBlock] at hq; omega)
      clear hown hz hgr
      go_wp2_with fail
      refine bodyPost_ret (v := .tuple #[.slice A' N c', .bool false]) ?_ rfl ⟨_, rfl, HO.out, HB2.out⟩
      simp (maxDischargeDepth := 9) [results, Try.results47, go_sem, *]
  | some y =>
    have HG : Hid (getK fiK n.data.toList L = some y) := hg
    have HD : Hid (dataK n.data.toList L = y.d) := by show _ = _; rw [dataK, hg]
    have hyd : y.d.size ≤ 1099511627776 := Nat.le_trans (tot_mem (getK_some hg).1) HT.out
    by_cases h1 : k = 1
    · subst h1
      have HM : Hid (doM ⟨1, n, t, d⟩ L = putK fiK ⟨n, y.d ++ d⟩ L) := by
        show putK fiK ⟨n, dataK n.data.toList L ++ d⟩ L = _
        rw [HD.out]
      have HFD : Hid (findB ⟨1, n, t, d⟩ L = true) := rfl
      rw [HM.out, HFD.out]
      clear hg
      have hcat : ¬ 9223372036854775807 < y.d.size + d.size := by omega
      go_enter Try.func47, Try.ntmps47
      go_wp2_with fail
      refine (spec_l13At n _ (HR.out.below (by go_grown)) HL.out).mono ?_
      rintro e w1 ⟨r, rfl, hr, rfl⟩
      obtain ⟨i, rfl, hi⟩ := atI_some hr HG.out
      clear hr
      have hiN : i < N := by rw [← HL.out]; exact (List.getElem?_eq_some_iff.1 hi).1
      obtain ⟨b, o, rfl, hl, hc⟩ := HR.out.2 i y hi
      have c1 : w.cell? ⟨b, o + i * 2 + 1, none⟩ = some (.string y.d) := hc 1 _ rfl
      clear hc hi
      have q0 : (0 : Int) ≤ (i : Int) := by omega
      have q1 : (i : Int) < (N : Int) := by omega
      go_wp2_with (first
        | (go_at_call 84; refine (spec_l13Put n (y.d ++ d) _ (HR.out.below (by go_grown)) HL.out HU.out (by omega)).mono ?_; rintro e w2 ⟨v, rfl, hown, hb⟩; have HO : Hid (w2.ownsRow w.heap.size 75 2 v (putK fiK ⟨n, y.d ++ d⟩ L).length (flat fiL (putK fiK ⟨n, y.d ++ d⟩ L))) := own_mono hown (by simp); have HB2 : Hid (Below w.heap.size w w2) := (Below.trans (by go_grown) (hb.mono (by simp))); obtain ⟨vA, vc, rfl, y1, y2⟩ := own_shape HO.out; clear hown hb y1 y2))
      refine bodyPost_ret (v := .tuple #[.slice vA (putK fiK ⟨n, y.d ++ d⟩ L).length vc, .bool true]) ?_ rfl ⟨_, rfl, HO.out, HB2.out⟩
      simp (maxDischargeDepth := 9) [results, Try.results47, go_sem, *]
    · have HFD : Hid (findB ⟨k, n, t, d⟩ L = true) := by
        show _ = _
        simp only [findB, h1, if_false, hasB, hg]; rfl
      have q1 : (k == 1) = false := by simpa using h1
      by_cases h2 : k = 2
      · subst h2
        have HM : Hid (doM ⟨2, n, t, d⟩ L = putK fiK ⟨t, y.d⟩ (cutK fiK n.data.toList L)) := by
          show _ = _
          rw [doM, HFD.out, if_pos rfl]
          show putK fiK ⟨t, dataK n.data.toList L⟩ (cutK fiK n.data.toList L) = _
          rw [HD.out]
        rw [HM.out, HFD.out]
        clear hg h1
        go_enter Try.func47, Try.ntmps47
        go_wp2_with fail
        refine (spec_l13At n _ (HR.out.below (by go_grown)) HL.out).mono ?_
        rintro e w1 ⟨r, rfl, hr, rfl⟩
        obtain ⟨i, rfl, hi⟩ := atI_some hr HG.out
        clear hr
        have hiN : i < N := by rw [← HL.out]; exact (List.getElem?_eq_some_iff.1 hi).1
        have HI : Hid (L[i]? = some y) := hi
        clear hi
        have q0 : (0 : Int) ≤ (i : Int) := by omega
        have q2 : (i : Int) < (N : Int) := by omega
        have q3 : ¬ (i : Int) < 0 := by omega
        go_wp2_with fail
        refine (spec_l13Cut n _ (HR.out.below (by go_grown)) HL.out (by omega)).mono ?_
        rintro e w2 ⟨v, rfl, hown, hb⟩
        obtain ⟨cA, cc, rfl, y1, y2⟩ := own_shape hown
        have hcl := len_cutK (key := fiK) n.data.toList L
        have HRC : Hid (FiRow w2 cA (cutK fiK n.data.toList L)) := RowAt.of_own fiL_len hown rfl
        obtain ⟨hcb, hfb, hC, hF, hz, hk, l0⟩ := bk1 (w := w) (by go_grown) (by go_size) hb
        have HB2 : Hid (Below w.heap.size w w2) := hk
        obtain ⟨b, o, rfl, hl, hc⟩ := (HR.out.below HB2.out).2 i y HI.out
        have c1 : w2.cell? ⟨b, o + i * 2 + 1, none⟩ = some (.string y.d) := hc 1 _ rfl
        have d2 : w2.cell? ⟨w.heap.size, 2, none⟩ = some (.string t) := by rw [hcb _ _ (by omega)]; simp
        have d0 : w2.cell? ⟨w.heap.size, 0, none⟩ = some (.int .i64 2) := by rw [hcb _ _ (by omega)]; simp
        have hcN : (cutK fiK n.data.toList L).length ≤ 1073741823 := by have := HL.out; omega
        obtain ⟨cn, HCN⟩ : ∃ cn, Hid ((cutK fiK n.data.toList L).length = cn) := ⟨_, rfl⟩
        rw [HCN.out] at hcN ⊢
        clear hb hown y1 y2 hc hcb hfb hC hF hk hcl
        go_wp2_with fail
        go_region_held3 (fun w' => (∀ bq oq, bq < w2.heap.size → w'.cell? ⟨bq, oq, none⟩ = w2.cell? ⟨bq, oq, none⟩) ∧ w2.heap.size ≤ w'.heap.size ∧ Below w2.heap.size w2 w')
          (exact sc_of (Nat.le_refl _) (by go_grown))
          (first
          | (go_at_call 84; refine (spec_l13Put t y.d _ (HRC.out.below (by go_grown)) HCN.out (up_cutK HU.out) (by omega)).mono ?_; rintro e w3 ⟨v3, rfl, hown3, hb⟩; obtain ⟨hk3, hz3⟩ := bframe (B := w2.heap.size) (X := w2) (by go_grown) (by go_size) hb; have HO : Hid (w3.ownsRow w.heap.size 75 2 v3 (putK fiK ⟨t, y.d⟩ (cutK fiK n.data.toList L)).length (flat fiL (putK fiK ⟨t, y.d⟩ (cutK fiK n.data.toList L)))) := own_mono hown3 (by simp; omega); obtain ⟨vA, vc, rfl, y1, y2⟩ := own_shape HO.out; clear hb hown3 y1 y2))
        all_goals go_wp2_with fail
        all_goals
          refine bodyPost_ret (v := .tuple #[.slice vA (putK fiK ⟨t, y.d⟩ (cutK fiK n.data.toList L)).length vc, .bool true]) ?_ rfl ⟨_, rfl, HO.out, HB2.out.trans (hk3.mono HB2.out.size)⟩
          simp (maxDischargeDepth := 9) [results, Try.results47, go_sem, *]
      · have HM : Hid (doM ⟨k, n, t, d⟩ L = cutK fiK n.data.toList L) := by
          show _ = _
          rw [doM, HFD.out, if_pos rfl]
          simp only [doL, h1, h2, if_false]
        have q2 : (k == 2) = false := by simpa using h2
        rw [HM.out, HFD.out]
        clear hg h1 h2
        go_enter Try.func47, Try.ntmps47
        go_wp2_with fail
        refine (spec_l13At n _ (HR.out.below (by go_grown)) HL.out).mono ?_
        rintro e w1 ⟨r, rfl, hr, rfl⟩
        obtain ⟨i, rfl, hi⟩ := atI_some hr HG.out
        clear hr hi
        have q3 : ¬ (i : Int) < 0 := by omega
        go_wp2_with fail
        refine (spec_l13Cut n _ (HR.out.below (by go_grown)) HL.out (by omega)).mono ?_
        rintro e w2 ⟨v, rfl, hown, hb⟩
        obtain ⟨cA, cc, rfl, y1, y2⟩ := own_shape hown
        obtain ⟨hcb, hfb, hC, hF, hz, hk, l0⟩ := bk1 (w := w) (by go_grown) (by go_size) hb
        have HB2 : Hid (Below w.heap.size w w2) := hk
        have d0 : w2.cell? ⟨w.heap.size, 0, none⟩ = some (.int .i64 k) := by rw [hcb _ _ (by omega)]; simp
        have HO : Hid (w2.ownsRow w.heap.size 75 2 (.slice cA (cutK fiK n.data.toList L).length cc) (cutK fiK n.data.toList L).length (flat fiL (cutK fiK n.data.toList L))) := own_mono hown (by simp)
        clear hb hown y1 y2 hcb hfb hC hF hk
        go_wp2_with fail
        refine bodyPost_ret (v := .tuple #[.slice cA (cutK fiK n.data.toList L).length cc, .bool true]) ?_ rfl ⟨_, rfl, HO.out, HB2.out⟩
        simp (maxDischargeDepth := 9) [results, Try.results47, go_sem, *]
end Go.Proofs.Ytanjlpgdmnapdaa
